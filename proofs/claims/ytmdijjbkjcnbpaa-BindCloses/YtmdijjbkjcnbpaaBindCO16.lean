/-
  Of what BindCloses, BindOpens stands on: part 16.
-/
import Derived.Test.YtmdijjbkjcnbpaaBindCO12
import Derived.Test.YtmdijjbkjcnbpaaBindCO15
namespace Go.Proofs.Ytmdijjbkjcnbpaa
open Go.ChangeShapes Go.WideShapes Go.ChangeAt Go.RowKit
set_option linter.unusedSimpArgs false
set_option linter.unusedVariables false

section
variable {w : World} {b : Nat} {x y : Int}
theorem p0B (h : Row 67 w b (ic2 x y)) : w.cell? ⟨b, 0, none⟩ = some (.int .i64 x) := h.cell 0
theorem p1 (h : Row 67 w b (ic2 x y)) : w.cell? ⟨b, 1, none⟩ = some (.int .i64 y) := h.cell 1
end
set_option maxRecDepth 10000 in
set_option maxHeartbeats 8000000 in
theorem stands_any (f : Nat → Int) (g : Nat → Bool) (h : Nat → Int) (sl : Value) (p s i a q : Int) (w : World) :
    Calls Try.prog 31 #[.agg (tc f g h sl), .agg (mc (p, s, i, a, q))] w fun e w' => ∃ r : Bool, (r = true ↔ Stands f h (p, s, i, a, q)) ∧ e = .returned (.bool r) ∧ Below w.heap.size w w' := by
  have hB := Below.refl w.heap.size w
  have C1 := fun w => isProtocol_any p w
  have C2 := fun w => isSub_any s w
  have C3 := fun w => isWord_any i w
  have C4 := fun w => placeOf_any (p, s, i, a, q) w
  cases hp : isP p with
  | false =>
    have HF : Hid ((false = true) ↔ Stands f h (p, s, i, a, q)) := by
        show _ ↔ _
        exact ⟨fun h => by simp at h, fun h => by have := h.1; simp only at this; rw [hp] at this; simp at this⟩
    rw [hp] at C1
    clear hp
    go_enter Try.func31, Try.ntmps31
    go_wp2_with (first
      | (refine wpList_boxR 30 rfl _ rfl _ rfl ?_; intro b2 w1 l2 R2 hb1; replace l2 := Nat.le_trans hB.size l2; replace hB := hB.trans (hb1.mono hB.size))
      | (refine wpList_boxR 32 rfl _ rfl _ rfl ?_; intro b3 w2 l3 R3 hb2; replace l3 := Nat.le_trans hB.size l3; replace R2 := R2.below hb2; replace hB := hB.trans (hb2.mono hB.size); have c0 := m0 R3; have c1 := m1 R3; have c2 := m2 R3)
      | (go_at_call 37; go_fit (C1 _); rintro e w' ⟨rfl, hw⟩; rw [hw]; clear hw w')
      | (go_at_call 38; go_fit (C2 _); rintro e w' ⟨rfl, hw⟩; rw [hw]; clear hw w')
      | (go_at_call 39; go_fit (C3 _); rintro e w' ⟨rfl, hw⟩; rw [hw]; clear hw w')
      | (refine wpList_loadR 32 _ rfl rfl _ rfl (mc (p, s, i, a, q)) R3 _ Try.underlying32 rfl (mc_info _) ?_)
      | (go_at_call 33; go_fit (C4 _); rintro e w5 ⟨rfl, hb5⟩; clear c0 c1 c2; replace R3 := R3.below hb5; replace R2 := R2.below hb5; replace hB := hB.trans (hb5.mono hB.size))
      | (refine wpList_allocR 67 rfl rfl _ place_zero ?_; intro b5 w6 l5 R5 hb6; have n2 := R2.ne l5; have n3 := R3.ne l5; replace l5 := Nat.le_trans hB.size l5; replace R3 := R3.below hb6; replace R2 := R2.below hb6; replace hB := hB.trans (hb6.mono hB.size))
      | (refine wpList_storeR 67 rfl _ _ rfl b5 rfl (ic2 0 0) rfl _ R5 rfl (by kernel_rfl) (by kernel_rfl) ?_; intro w7 R5 t7; replace R3 := t7.row R3 n3; replace R2 := t7.row R2 n2; replace hB := t7.below _ _ l5 hB))
    go_ret
    exact ⟨_, HF.out, rfl, hB⟩
  | true =>
    rw [hp] at C1
    by_cases hs : 0 ≤ s ∧ s < 8
    rotate_left
    · have HF : Hid ((false = true) ↔ Stands f h (p, s, i, a, q)) := by
        show _ ↔ _
        exact ⟨fun h => by simp at h, fun h => absurd h.2.1 hs⟩
      have e2 : (decide (0 ≤ s) && decide (s < 8)) = false := by rw [Bool.eq_false_iff]; intro h; simp at h; exact hs h
      rw [e2] at C2
      clear hs e2
      go_enter Try.func31, Try.ntmps31
      go_wp2_with (first
        | (refine wpList_boxR 30 rfl _ rfl _ rfl ?_; intro b2 w1 l2 R2 hb1; replace l2 := Nat.le_trans hB.size l2; replace hB := hB.trans (hb1.mono hB.size))
        | (refine wpList_boxR 32 rfl _ rfl _ rfl ?_; intro b3 w2 l3 R3 hb2; replace l3 := Nat.le_trans hB.size l3; replace R2 := R2.below hb2; replace hB := hB.trans (hb2.mono hB.size); have c0 := m0 R3; have c1 := m1 R3; have c2 := m2 R3)
        | (go_at_call 37; go_fit (C1 _); rintro e w' ⟨rfl, hw⟩; rw [hw]; clear hw w')
        | (go_at_call 38; go_fit (C2 _); rintro e w' ⟨rfl, hw⟩; rw [hw]; clear hw w')
        | (go_at_call 39; go_fit (C3 _); rintro e w' ⟨rfl, hw⟩; rw [hw]; clear hw w')
        | (refine wpList_loadR 32 _ rfl rfl _ rfl (mc (p, s, i, a, q)) R3 _ Try.underlying32 rfl (mc_info _) ?_)
        | (go_at_call 33; go_fit (C4 _); rintro e w5 ⟨rfl, hb5⟩; clear c0 c1 c2; replace R3 := R3.below hb5; replace R2 := R2.below hb5; replace hB := hB.trans (hb5.mono hB.size))
        | (refine wpList_allocR 67 rfl rfl _ place_zero ?_; intro b5 w6 l5 R5 hb6; have n2 := R2.ne l5; have n3 := R3.ne l5; replace l5 := Nat.le_trans hB.size l5; replace R3 := R3.below hb6; replace R2 := R2.below hb6; replace hB := hB.trans (hb6.mono hB.size))
        | (refine wpList_storeR 67 rfl _ _ rfl b5 rfl (ic2 0 0) rfl _ R5 rfl (by kernel_rfl) (by kernel_rfl) ?_; intro w7 R5 t7; replace R3 := t7.row R3 n3; replace R2 := t7.row R2 n2; replace hB := t7.below _ _ l5 hB))
      go_ret
      exact ⟨_, HF.out, rfl, hB⟩
    have e2 : (decide (0 ≤ s) && decide (s < 8)) = true := by simp [hs.1, hs.2]
    rw [e2] at C2
    by_cases hi : 0 ≤ i ∧ i ≤ 65535
    rotate_left
    · have HF : Hid ((false = true) ↔ Stands f h (p, s, i, a, q)) := by
        show _ ↔ _
        exact ⟨fun h => by simp at h, fun h => absurd h.2.2.1 hi⟩
      have e3 : (decide (0 ≤ i) && decide (i ≤ 65535)) = false := by rw [Bool.eq_false_iff]; intro h; simp at h; exact hi h
      rw [e3] at C3
      clear hs e2 hi e3
      go_enter Try.func31, Try.ntmps31
      go_wp2_with (first
        | (refine wpList_boxR 30 rfl _ rfl _ rfl ?_; intro b2 w1 l2 R2 hb1; replace l2 := Nat.le_trans hB.size l2; replace hB := hB.trans (hb1.mono hB.size))
        | (refine wpList_boxR 32 rfl _ rfl _ rfl ?_; intro b3 w2 l3 R3 hb2; replace l3 := Nat.le_trans hB.size l3; replace R2 := R2.below hb2; replace hB := hB.trans (hb2.mono hB.size); have c0 := m0 R3; have c1 := m1 R3; have c2 := m2 R3)
        | (go_at_call 37; go_fit (C1 _); rintro e w' ⟨rfl, hw⟩; rw [hw]; clear hw w')
        | (go_at_call 38; go_fit (C2 _); rintro e w' ⟨rfl, hw⟩; rw [hw]; clear hw w')
        | (go_at_call 39; go_fit (C3 _); rintro e w' ⟨rfl, hw⟩; rw [hw]; clear hw w')
        | (refine wpList_loadR 32 _ rfl rfl _ rfl (mc (p, s, i, a, q)) R3 _ Try.underlying32 rfl (mc_info _) ?_)
        | (go_at_call 33; go_fit (C4 _); rintro e w5 ⟨rfl, hb5⟩; clear c0 c1 c2; replace R3 := R3.below hb5; replace R2 := R2.below hb5; replace hB := hB.trans (hb5.mono hB.size))
        | (refine wpList_allocR 67 rfl rfl _ place_zero ?_; intro b5 w6 l5 R5 hb6; have n2 := R2.ne l5; have n3 := R3.ne l5; replace l5 := Nat.le_trans hB.size l5; replace R3 := R3.below hb6; replace R2 := R2.below hb6; replace hB := hB.trans (hb6.mono hB.size))
        | (refine wpList_storeR 67 rfl _ _ rfl b5 rfl (ic2 0 0) rfl _ R5 rfl (by kernel_rfl) (by kernel_rfl) ?_; intro w7 R5 t7; replace R3 := t7.row R3 n3; replace R2 := t7.row R2 n2; replace hB := t7.below _ _ l5 hB))
      go_ret
      exact ⟨_, HF.out, rfl, hB⟩
    have e3 : (decide (0 ≤ i) && decide (i ≤ 65535)) = true := by simp [hi.1, hi.2]
    rw [e3] at C3
    by_cases hin : (1024 ≤ q ∧ q < 1072) ∧ 0 ≤ a ∧ a < 3
    rotate_left
    · have HF : Hid ((false = true) ↔ Stands f h (p, s, i, a, q)) := by
        show _ ↔ _
        exact ⟨fun h => by simp at h, fun h => absurd ⟨h.2.2.2.1, h.2.2.2.2.1⟩ hin⟩
      have hI : inP (p, s, i, a, q) = false := decide_eq_false hin
      have hA : plA (p, s, i, a, q) = 0 := if_neg (by rw [hI]; simp)
      have hQ : plB (p, s, i, a, q) = 0 := if_neg (by rw [hI]; simp)
      rw [hI, hA, hQ] at C4
      clear hs e2 hi e3 hin hI hA hQ
      go_enter Try.func31, Try.ntmps31
      go_wp2_with (first
        | (refine wpList_boxR 30 rfl _ rfl _ rfl ?_; intro b2 w1 l2 R2 hb1; replace l2 := Nat.le_trans hB.size l2; replace hB := hB.trans (hb1.mono hB.size))
        | (refine wpList_boxR 32 rfl _ rfl _ rfl ?_; intro b3 w2 l3 R3 hb2; replace l3 := Nat.le_trans hB.size l3; replace R2 := R2.below hb2; replace hB := hB.trans (hb2.mono hB.size); have c0 := m0 R3; have c1 := m1 R3; have c2 := m2 R3)
        | (go_at_call 37; go_fit (C1 _); rintro e w' ⟨rfl, hw⟩; rw [hw]; clear hw w')
        | (go_at_call 38; go_fit (C2 _); rintro e w' ⟨rfl, hw⟩; rw [hw]; clear hw w')
        | (go_at_call 39; go_fit (C3 _); rintro e w' ⟨rfl, hw⟩; rw [hw]; clear hw w')
        | (refine wpList_loadR 32 _ rfl rfl _ rfl (mc (p, s, i, a, q)) R3 _ Try.underlying32 rfl (mc_info _) ?_)
        | (go_at_call 33; go_fit (C4 _); rintro e w5 ⟨rfl, hb5⟩; clear c0 c1 c2; replace R3 := R3.below hb5; replace R2 := R2.below hb5; replace hB := hB.trans (hb5.mono hB.size))
        | (refine wpList_allocR 67 rfl rfl _ place_zero ?_; intro b5 w6 l5 R5 hb6; have n2 := R2.ne l5; have n3 := R3.ne l5; replace l5 := Nat.le_trans hB.size l5; replace R3 := R3.below hb6; replace R2 := R2.below hb6; replace hB := hB.trans (hb6.mono hB.size))
        | (refine wpList_storeR 67 rfl _ _ rfl b5 rfl (ic2 0 0) rfl _ R5 rfl (by kernel_rfl) (by kernel_rfl) ?_; intro w7 R5 t7; replace R3 := t7.row R3 n3; replace R2 := t7.row R2 n2; replace hB := t7.below _ _ l5 hB))
      refine wp_region_noPanic ?_
      refine wp_region_held_drew (S := fun W => Row 32 W b3 (mc (p, s, i, a, q)) ∧ Row 30 W b2 (tc f g h sl) ∧ Row 67 W b5 (ic2 0 0)) (by kernel_rfl) ⟨R3, R2, R5⟩ (fun _ => ?_)
      refine wpAnyH_take (i := 0) (v := .bool false) rfl (by kernel_rfl) (by kernel_rfl) (by kernel_rfl) (fun _ _ _ h => h) (Or.inl ⟨by kernel_rfl, by intro w hS; go_simp⟩) ⟨R3, R2, R5⟩ ?_
      simp only [Act.put, List.getElem_toArray, List.getElem_cons_succ, List.getElem_cons_zero, List.setIfInBounds_toArray, List.set_cons_zero, List.set_cons_succ]
      refine wpAnyH_take (i := 1) (v := .bool false) rfl (by kernel_rfl) (by kernel_rfl) (by kernel_rfl) (fun _ _ _ h => h) (Or.inl ⟨by kernel_rfl, by intro w hS; go_simp⟩) ⟨R3, R2, R5⟩ ?_
      simp only [Act.put, List.getElem_toArray, List.getElem_cons_succ, List.getElem_cons_zero, List.setIfInBounds_toArray, List.set_cons_zero, List.set_cons_succ]
      refine wpAnyH_take (i := 2) (v := undef) rfl (by kernel_rfl) (by kernel_rfl) (by kernel_rfl) (fun _ _ _ h => h) (Or.inr ⟨by kernel_rfl, rfl⟩) ⟨R3, R2, R5⟩ ?_
      simp only [Act.put, List.getElem_toArray, List.getElem_cons_succ, List.getElem_cons_zero, List.setIfInBounds_toArray, List.set_cons_zero, List.set_cons_succ]
      refine wpAnyH_take (i := 3) (v := undef) rfl (by kernel_rfl) (by kernel_rfl) (by kernel_rfl) (fun _ _ _ h => h) (Or.inr ⟨by kernel_rfl, rfl⟩) ⟨R3, R2, R5⟩ ?_
      simp only [Act.put, List.getElem_toArray, List.getElem_cons_succ, List.getElem_cons_zero, List.setIfInBounds_toArray, List.set_cons_zero, List.set_cons_succ]
      refine wpAnyH_take (i := 4) (v := undef) rfl (by kernel_rfl) (by kernel_rfl) (by kernel_rfl) (fun _ _ _ h => h) (Or.inr ⟨by kernel_rfl, rfl⟩) ⟨R3, R2, R5⟩ ?_
      simp only [Act.put, List.getElem_toArray, List.getElem_cons_succ, List.getElem_cons_zero, List.setIfInBounds_toArray, List.set_cons_zero, List.set_cons_succ]
      refine wpAnyH_take (i := 5) (v := undef) rfl (by kernel_rfl) (by kernel_rfl) (by kernel_rfl) (fun _ _ _ h => h) (Or.inr ⟨by kernel_rfl, rfl⟩) ⟨R3, R2, R5⟩ ?_
      simp only [Act.put, List.getElem_toArray, List.getElem_cons_succ, List.getElem_cons_zero, List.setIfInBounds_toArray, List.set_cons_zero, List.set_cons_succ]
      refine wpAnyH_take (i := 6) (v := undef) rfl (by kernel_rfl) (by kernel_rfl) (by kernel_rfl) (fun _ _ _ h => h) (Or.inr ⟨by kernel_rfl, rfl⟩) ⟨R3, R2, R5⟩ ?_
      simp only [Act.put, List.getElem_toArray, List.getElem_cons_succ, List.getElem_cons_zero, List.setIfInBounds_toArray, List.set_cons_zero, List.set_cons_succ]
      refine wpAnyH_take (i := 7) (v := undef) rfl (by kernel_rfl) (by kernel_rfl) (by kernel_rfl) (fun _ _ _ h => h) (Or.inr ⟨by kernel_rfl, rfl⟩) ⟨R3, R2, R5⟩ ?_
      simp only [Act.put, List.getElem_toArray, List.getElem_cons_succ, List.getElem_cons_zero, List.setIfInBounds_toArray, List.set_cons_zero, List.set_cons_succ]
      refine wpAnyH_take (i := 8) (v := undef) rfl (by kernel_rfl) (by kernel_rfl) (by kernel_rfl) (fun _ _ _ h => h) (Or.inr ⟨by kernel_rfl, rfl⟩) ⟨R3, R2, R5⟩ ?_
      simp only [Act.put, List.getElem_toArray, List.getElem_cons_succ, List.getElem_cons_zero, List.setIfInBounds_toArray, List.set_cons_zero, List.set_cons_succ]
      refine wpAnyH_take (i := 9) (v := undef) rfl (by kernel_rfl) (by kernel_rfl) (by kernel_rfl) (fun _ _ _ h => h) (Or.inr ⟨by kernel_rfl, rfl⟩) ⟨R3, R2, R5⟩ ?_
      simp only [Act.put, List.getElem_toArray, List.getElem_cons_succ, List.getElem_cons_zero, List.setIfInBounds_toArray, List.set_cons_zero, List.set_cons_succ]
      refine wpAnyH_take (i := 10) (v := undef) rfl (by kernel_rfl) (by kernel_rfl) (by kernel_rfl) (fun _ _ _ h => h) (Or.inr ⟨by kernel_rfl, rfl⟩) ⟨R3, R2, R5⟩ ?_
      simp only [Act.put, List.getElem_toArray, List.getElem_cons_succ, List.getElem_cons_zero, List.setIfInBounds_toArray, List.set_cons_zero, List.set_cons_succ]
      refine wpAnyH_take (i := 11) (v := .bool false) rfl (by kernel_rfl) (by kernel_rfl) (by kernel_rfl) (fun _ _ _ h => h) (Or.inl ⟨by kernel_rfl, by intro w hS; go_simp⟩) ⟨R3, R2, R5⟩ ?_
      simp only [Act.put, List.getElem_toArray, List.getElem_cons_succ, List.getElem_cons_zero, List.setIfInBounds_toArray, List.set_cons_zero, List.set_cons_succ]
      refine wpAnyH_take (i := 12) (v := .bool false) rfl (by kernel_rfl) (by kernel_rfl) (by kernel_rfl) (fun _ _ _ h => h) (Or.inl ⟨by kernel_rfl, by intro w hS; go_simp⟩) ⟨R3, R2, R5⟩ ?_
      simp only [Act.put, List.getElem_toArray, List.getElem_cons_succ, List.getElem_cons_zero, List.setIfInBounds_toArray, List.set_cons_zero, List.set_cons_succ]
      refine wpAnyH_take (i := 13) (v := undef) rfl (by kernel_rfl) (by kernel_rfl) (by kernel_rfl) (fun _ _ _ h => h) (Or.inr ⟨by kernel_rfl, rfl⟩) ⟨R3, R2, R5⟩ ?_
      simp only [Act.put, List.getElem_toArray, List.getElem_cons_succ, List.getElem_cons_zero, List.setIfInBounds_toArray, List.set_cons_zero, List.set_cons_succ]
      refine wpAnyH_take (i := 14) (v := undef) rfl (by kernel_rfl) (by kernel_rfl) (by kernel_rfl) (fun _ _ _ h => h) (Or.inr ⟨by kernel_rfl, rfl⟩) ⟨R3, R2, R5⟩ ?_
      simp only [Act.put, List.getElem_toArray, List.getElem_cons_succ, List.getElem_cons_zero, List.setIfInBounds_toArray, List.set_cons_zero, List.set_cons_succ]
      refine wpAnyH_take (i := 15) (v := undef) rfl (by kernel_rfl) (by kernel_rfl) (by kernel_rfl) (fun _ _ _ h => h) (Or.inr ⟨by kernel_rfl, rfl⟩) ⟨R3, R2, R5⟩ ?_
      simp only [Act.put, List.getElem_toArray, List.getElem_cons_succ, List.getElem_cons_zero, List.setIfInBounds_toArray, List.set_cons_zero, List.set_cons_succ]
      refine wpAnyH_take (i := 16) (v := undef) rfl (by kernel_rfl) (by kernel_rfl) (by kernel_rfl) (fun _ _ _ h => h) (Or.inr ⟨by kernel_rfl, rfl⟩) ⟨R3, R2, R5⟩ ?_
      simp only [Act.put, List.getElem_toArray, List.getElem_cons_succ, List.getElem_cons_zero, List.setIfInBounds_toArray, List.set_cons_zero, List.set_cons_succ]
      refine wpAnyH_take (i := 17) (v := undef) rfl (by kernel_rfl) (by kernel_rfl) (by kernel_rfl) (fun _ _ _ h => h) (Or.inr ⟨by kernel_rfl, rfl⟩) ⟨R3, R2, R5⟩ ?_
      simp only [Act.put, List.getElem_toArray, List.getElem_cons_succ, List.getElem_cons_zero, List.setIfInBounds_toArray, List.set_cons_zero, List.set_cons_succ]
      refine wpAnyH_take (i := 18) (v := undef) rfl (by kernel_rfl) (by kernel_rfl) (by kernel_rfl) (fun _ _ _ h => h) (Or.inr ⟨by kernel_rfl, rfl⟩) ⟨R3, R2, R5⟩ ?_
      simp only [Act.put, List.getElem_toArray, List.getElem_cons_succ, List.getElem_cons_zero, List.setIfInBounds_toArray, List.set_cons_zero, List.set_cons_succ]
      refine wpAnyH_take (i := 19) (v := undef) rfl (by kernel_rfl) (by kernel_rfl) (by kernel_rfl) (fun _ _ _ h => h) (Or.inr ⟨by kernel_rfl, rfl⟩) ⟨R3, R2, R5⟩ ?_
      simp only [Act.put, List.getElem_toArray, List.getElem_cons_succ, List.getElem_cons_zero, List.setIfInBounds_toArray, List.set_cons_zero, List.set_cons_succ]
      refine wpAnyH_take (i := 20) (v := undef) rfl (by kernel_rfl) (by kernel_rfl) (by kernel_rfl) (fun _ _ _ h => h) (Or.inr ⟨by kernel_rfl, rfl⟩) ⟨R3, R2, R5⟩ ?_
      simp only [Act.put, List.getElem_toArray, List.getElem_cons_succ, List.getElem_cons_zero, List.setIfInBounds_toArray, List.set_cons_zero, List.set_cons_succ]
      refine wpAnyH_take (i := 21) (v := undef) rfl (by kernel_rfl) (by kernel_rfl) (by kernel_rfl) (fun _ _ _ h => h) (Or.inr ⟨by kernel_rfl, rfl⟩) ⟨R3, R2, R5⟩ ?_
      simp only [Act.put, List.getElem_toArray, List.getElem_cons_succ, List.getElem_cons_zero, List.setIfInBounds_toArray, List.set_cons_zero, List.set_cons_succ]
      refine wpAnyH_take (i := 22) (v := undef) rfl (by kernel_rfl) (by kernel_rfl) (by kernel_rfl) (fun _ _ _ h => h) (Or.inr ⟨by kernel_rfl, rfl⟩) ⟨R3, R2, R5⟩ ?_
      simp only [Act.put, List.getElem_toArray, List.getElem_cons_succ, List.getElem_cons_zero, List.setIfInBounds_toArray, List.set_cons_zero, List.set_cons_succ]
      refine wpAnyH_take (i := 23) (v := undef) rfl (by kernel_rfl) (by kernel_rfl) (by kernel_rfl) (fun _ _ _ h => h) (Or.inr ⟨by kernel_rfl, rfl⟩) ⟨R3, R2, R5⟩ ?_
      simp only [Act.put, List.getElem_toArray, List.getElem_cons_succ, List.getElem_cons_zero, List.setIfInBounds_toArray, List.set_cons_zero, List.set_cons_succ]
      refine wpAnyH_take (i := 24) (v := undef) rfl (by kernel_rfl) (by kernel_rfl) (by kernel_rfl) (fun _ _ _ h => h) (Or.inr ⟨by kernel_rfl, rfl⟩) ⟨R3, R2, R5⟩ ?_
      simp only [Act.put, List.getElem_toArray, List.getElem_cons_succ, List.getElem_cons_zero, List.setIfInBounds_toArray, List.set_cons_zero, List.set_cons_succ]
      refine wpAnyH_take (i := 25) (v := undef) rfl (by kernel_rfl) (by kernel_rfl) (by kernel_rfl) (fun _ _ _ h => h) (Or.inr ⟨by kernel_rfl, rfl⟩) ⟨R3, R2, R5⟩ ?_
      simp only [Act.put, List.getElem_toArray, List.getElem_cons_succ, List.getElem_cons_zero, List.setIfInBounds_toArray, List.set_cons_zero, List.set_cons_succ]
      refine wpAnyH_take (i := 26) (v := .bool false) rfl (by kernel_rfl) (by kernel_rfl) (by kernel_rfl) (fun _ _ _ h => h) (Or.inl ⟨by kernel_rfl, by intro w hS; go_simp⟩) ⟨R3, R2, R5⟩ ?_
      simp only [Act.put, List.getElem_toArray, List.getElem_cons_succ, List.getElem_cons_zero, List.setIfInBounds_toArray, List.set_cons_zero, List.set_cons_succ]
      refine wpAnyH_take (i := 27) (v := .bool false) rfl (by kernel_rfl) (by kernel_rfl) (by kernel_rfl) (fun _ _ _ h => h) (Or.inl ⟨by kernel_rfl, by intro w hS; go_simp⟩) ⟨R3, R2, R5⟩ ?_
      simp only [Act.put, List.getElem_toArray, List.getElem_cons_succ, List.getElem_cons_zero, List.setIfInBounds_toArray, List.set_cons_zero, List.set_cons_succ]
      refine wpAnyH_done (by kernel_rfl) ?_ _
      refine NoPanic.normal ?_
      go_wp2
      go_ret
      exact ⟨_, by first | exact HF.out | simpa using HF.out, rfl, below_drew hB⟩
    have hI : inP (p, s, i, a, q) = true := decide_eq_true hin
    have hA : plA (p, s, i, a, q) = a := if_pos hI
    have hQ : plB (p, s, i, a, q) = (q - 1024) / 8 := if_pos hI
    rw [hI, hA, hQ] at C4
    obtain ⟨K, hK⟩ : ∃ K, K = (q - 1024) / 8 := ⟨_, rfl⟩
    rw [← hK] at C4
    have hpl : placeN a q = a.toNat * 6 + K.toNat := by unfold placeN; rw [hK]; omega
    have hK0 : 0 ≤ K := by omega
    have hK6 : K < 6 := by omega
    have ha0 : 0 ≤ a := hin.2.1
    have ha3 : a < 3 := hin.2.2
    have hs0 : 0 ≤ s := hs.1
    have hs8 : s < 8 := hs.2
    have hsw : wrap64 (s + 1) = s + 1 := by unfold wrap64; omega
    have haw : wrap64 (a + 1) = a + 1 := by unfold wrap64; omega
    have hsw2 : IntKind.i64.wrap (s + 1) = s + 1 := by rw [IntKind.wrap_i64]; omega
    have haw2 : IntKind.i64.wrap (a + 1) = a + 1 := by rw [IntKind.wrap_i64]; omega
    have hH : ∀ W b, Row 30 W b (tc f g h sl) → W.cell? ⟨b, 21 + s.toNat, none⟩ = some (.int .i64 (h s.toNat)) := fun W b R => (R.cell _).trans (tc_home f g h sl s.toNat (by omega))
    have hO : ∀ W b, Row 30 W b (tc f g h sl) → W.cell? ⟨b, a.toNat * 6 + K.toNat, none⟩ = some (.int .i64 (f (a.toNat * 6 + K.toNat))) := fun W b R => (R.cell _).trans (tc_own f g h sl _ (by omega))
    by_cases hhome : h s.toNat = a + 1
    rotate_left
    · have HF : Hid ((false = true) ↔ Stands f h (p, s, i, a, q)) := by
        show _ ↔ _
        exact ⟨fun h => by simp at h, fun h => absurd h.2.2.2.2.2.1 hhome⟩
      have dz : (h s.toNat == a + 1) = false := by simpa using hhome
      clear hs e2 hi e3 hin hI hA hQ hK hpl hhome
      go_enter Try.func31, Try.ntmps31
      go_wp2_with (first
        | (refine wpList_boxR 30 rfl _ rfl _ rfl ?_; intro b2 w1 l2 R2 hb1; replace l2 := Nat.le_trans hB.size l2; replace hB := hB.trans (hb1.mono hB.size))
        | (refine wpList_boxR 32 rfl _ rfl _ rfl ?_; intro b3 w2 l3 R3 hb2; replace l3 := Nat.le_trans hB.size l3; replace R2 := R2.below hb2; replace hB := hB.trans (hb2.mono hB.size); have c0 := m0 R3; have c1 := m1 R3; have c2 := m2 R3)
        | (go_at_call 37; go_fit (C1 _); rintro e w' ⟨rfl, hw⟩; rw [hw]; clear hw w')
        | (go_at_call 38; go_fit (C2 _); rintro e w' ⟨rfl, hw⟩; rw [hw]; clear hw w')
        | (go_at_call 39; go_fit (C3 _); rintro e w' ⟨rfl, hw⟩; rw [hw]; clear hw w')
        | (refine wpList_loadR 32 _ rfl rfl _ rfl (mc (p, s, i, a, q)) R3 _ Try.underlying32 rfl (mc_info _) ?_)
        | (go_at_call 33; go_fit (C4 _); rintro e w5 ⟨rfl, hb5⟩; clear c0 c1 c2; replace R3 := R3.below hb5; replace R2 := R2.below hb5; replace hB := hB.trans (hb5.mono hB.size))
        | (refine wpList_allocR 67 rfl rfl _ place_zero ?_; intro b5 w6 l5 R5 hb6; have n2 := R2.ne l5; have n3 := R3.ne l5; replace l5 := Nat.le_trans hB.size l5; replace R3 := R3.below hb6; replace R2 := R2.below hb6; replace hB := hB.trans (hb6.mono hB.size))
        | (refine wpList_storeR 67 rfl _ _ rfl b5 rfl (ic2 a K) rfl _ R5 rfl (by kernel_rfl) (by kernel_rfl) ?_; intro w7 R5 t7; replace R3 := t7.row R3 n3; replace R2 := t7.row R2 n2; replace hB := t7.below _ _ l5 hB))
      refine wp_region_noPanic ?_
      refine wp_region_held_drew (S := fun W => Row 32 W b3 (mc (p, s, i, a, q)) ∧ Row 30 W b2 (tc f g h sl) ∧ Row 67 W b5 (ic2 a K)) (by kernel_rfl) ⟨R3, R2, R5⟩ (fun _ => ?_)
      refine wpAnyH_take (i := 0) (v := .bool true) rfl (by kernel_rfl) (by kernel_rfl) (by kernel_rfl) (fun _ _ _ h => h) (Or.inl ⟨by kernel_rfl, by intro w hS; go_simp⟩) ⟨R3, R2, R5⟩ ?_
      simp only [Act.put, List.getElem_toArray, List.getElem_cons_succ, List.getElem_cons_zero, List.setIfInBounds_toArray, List.set_cons_zero, List.set_cons_succ]
      refine wpAnyH_take (i := 1) (v := .bool true) rfl (by kernel_rfl) (by kernel_rfl) (by kernel_rfl) (fun _ _ _ h => h) (Or.inl ⟨by kernel_rfl, by intro w hS; go_simp⟩) ⟨R3, R2, R5⟩ ?_
      simp only [Act.put, List.getElem_toArray, List.getElem_cons_succ, List.getElem_cons_zero, List.setIfInBounds_toArray, List.set_cons_zero, List.set_cons_succ]
      refine wpAnyH_take (i := 2) (v := (.pointer (some ⟨b3, 1, none⟩))) rfl (by kernel_rfl) (by kernel_rfl) (by kernel_rfl) (fun _ _ _ h => h) (Or.inl ⟨by kernel_rfl, by intro w hS; go_simp⟩) ⟨R3, R2, R5⟩ ?_
      simp only [Act.put, List.getElem_toArray, List.getElem_cons_succ, List.getElem_cons_zero, List.setIfInBounds_toArray, List.set_cons_zero, List.set_cons_succ]
      refine wpAnyH_take (i := 3) (v := .int .i64 s) rfl (by kernel_rfl) (by kernel_rfl) (by kernel_rfl) (fun _ _ _ h => h) (Or.inl ⟨by kernel_rfl, by intro w hS; have hc := m1 hS.1; go_simp⟩) ⟨R3, R2, R5⟩ ?_
      simp only [Act.put, List.getElem_toArray, List.getElem_cons_succ, List.getElem_cons_zero, List.setIfInBounds_toArray, List.set_cons_zero, List.set_cons_succ]
      refine wpAnyH_take (i := 4) (v := (.pointer (some ⟨b2, 21, none⟩))) rfl (by kernel_rfl) (by kernel_rfl) (by kernel_rfl) (fun _ _ _ h => h) (Or.inl ⟨by kernel_rfl, by intro w hS; go_simp⟩) ⟨R3, R2, R5⟩ ?_
      simp only [Act.put, List.getElem_toArray, List.getElem_cons_succ, List.getElem_cons_zero, List.setIfInBounds_toArray, List.set_cons_zero, List.set_cons_succ]
      refine wpAnyH_take (i := 5) (v := (.pointer (some ⟨b2, 21 + s.toNat, none⟩))) rfl (by kernel_rfl) (by kernel_rfl) (by kernel_rfl) (fun _ _ _ h => h) (Or.inl ⟨by kernel_rfl, by intro w hS; go_simp⟩) ⟨R3, R2, R5⟩ ?_
      simp only [Act.put, List.getElem_toArray, List.getElem_cons_succ, List.getElem_cons_zero, List.setIfInBounds_toArray, List.set_cons_zero, List.set_cons_succ]
      refine wpAnyH_take (i := 6) (v := .int .i64 (h s.toNat)) rfl (by kernel_rfl) (by kernel_rfl) (by kernel_rfl) (fun _ _ _ h => h) (Or.inl ⟨by kernel_rfl, by intro w hS; have hc := hH _ _ hS.2.1; go_simp⟩) ⟨R3, R2, R5⟩ ?_
      simp only [Act.put, List.getElem_toArray, List.getElem_cons_succ, List.getElem_cons_zero, List.setIfInBounds_toArray, List.set_cons_zero, List.set_cons_succ]
      refine wpAnyH_take (i := 7) (v := (.pointer (some ⟨b3, 3, none⟩))) rfl (by kernel_rfl) (by kernel_rfl) (by kernel_rfl) (fun _ _ _ h => h) (Or.inl ⟨by kernel_rfl, by intro w hS; go_simp⟩) ⟨R3, R2, R5⟩ ?_
      simp only [Act.put, List.getElem_toArray, List.getElem_cons_succ, List.getElem_cons_zero, List.setIfInBounds_toArray, List.set_cons_zero, List.set_cons_succ]
      refine wpAnyH_take (i := 8) (v := .int .i64 a) rfl (by kernel_rfl) (by kernel_rfl) (by kernel_rfl) (fun _ _ _ h => h) (Or.inl ⟨by kernel_rfl, by intro w hS; have hc := m3 hS.1; go_simp⟩) ⟨R3, R2, R5⟩ ?_
      simp only [Act.put, List.getElem_toArray, List.getElem_cons_succ, List.getElem_cons_zero, List.setIfInBounds_toArray, List.set_cons_zero, List.set_cons_succ]
      refine wpAnyH_take (i := 9) (v := .int .i64 (a + 1)) rfl (by kernel_rfl) (by kernel_rfl) (by kernel_rfl) (fun _ _ _ h => h) (Or.inl ⟨by kernel_rfl, by intro w hS; go_simp⟩) ⟨R3, R2, R5⟩ ?_
      simp only [Act.put, List.getElem_toArray, List.getElem_cons_succ, List.getElem_cons_zero, List.setIfInBounds_toArray, List.set_cons_zero, List.set_cons_succ]
      refine wpAnyH_take (i := 10) (v := .bool false) rfl (by kernel_rfl) (by kernel_rfl) (by kernel_rfl) (fun _ _ _ h => h) (Or.inl ⟨by kernel_rfl, by intro w hS; go_simp⟩) ⟨R3, R2, R5⟩ ?_
      simp only [Act.put, List.getElem_toArray, List.getElem_cons_succ, List.getElem_cons_zero, List.setIfInBounds_toArray, List.set_cons_zero, List.set_cons_succ]
      refine wpAnyH_take (i := 11) (v := .bool false) rfl (by kernel_rfl) (by kernel_rfl) (by kernel_rfl) (fun _ _ _ h => h) (Or.inl ⟨by kernel_rfl, by intro w hS; go_simp⟩) ⟨R3, R2, R5⟩ ?_
      simp only [Act.put, List.getElem_toArray, List.getElem_cons_succ, List.getElem_cons_zero, List.setIfInBounds_toArray, List.set_cons_zero, List.set_cons_succ]
      refine wpAnyH_take (i := 12) (v := .bool false) rfl (by kernel_rfl) (by kernel_rfl) (by kernel_rfl) (fun _ _ _ h => h) (Or.inl ⟨by kernel_rfl, by intro w hS; go_simp⟩) ⟨R3, R2, R5⟩ ?_
      simp only [Act.put, List.getElem_toArray, List.getElem_cons_succ, List.getElem_cons_zero, List.setIfInBounds_toArray, List.set_cons_zero, List.set_cons_succ]
      refine wpAnyH_take (i := 13) (v := undef) rfl (by kernel_rfl) (by kernel_rfl) (by kernel_rfl) (fun _ _ _ h => h) (Or.inr ⟨by kernel_rfl, rfl⟩) ⟨R3, R2, R5⟩ ?_
      simp only [Act.put, List.getElem_toArray, List.getElem_cons_succ, List.getElem_cons_zero, List.setIfInBounds_toArray, List.set_cons_zero, List.set_cons_succ]
      refine wpAnyH_take (i := 14) (v := undef) rfl (by kernel_rfl) (by kernel_rfl) (by kernel_rfl) (fun _ _ _ h => h) (Or.inr ⟨by kernel_rfl, rfl⟩) ⟨R3, R2, R5⟩ ?_
      simp only [Act.put, List.getElem_toArray, List.getElem_cons_succ, List.getElem_cons_zero, List.setIfInBounds_toArray, List.set_cons_zero, List.set_cons_succ]
      refine wpAnyH_take (i := 15) (v := undef) rfl (by kernel_rfl) (by kernel_rfl) (by kernel_rfl) (fun _ _ _ h => h) (Or.inr ⟨by kernel_rfl, rfl⟩) ⟨R3, R2, R5⟩ ?_
      simp only [Act.put, List.getElem_toArray, List.getElem_cons_succ, List.getElem_cons_zero, List.setIfInBounds_toArray, List.set_cons_zero, List.set_cons_succ]
      refine wpAnyH_take (i := 16) (v := undef) rfl (by kernel_rfl) (by kernel_rfl) (by kernel_rfl) (fun _ _ _ h => h) (Or.inr ⟨by kernel_rfl, rfl⟩) ⟨R3, R2, R5⟩ ?_
      simp only [Act.put, List.getElem_toArray, List.getElem_cons_succ, List.getElem_cons_zero, List.setIfInBounds_toArray, List.set_cons_zero, List.set_cons_succ]
      refine wpAnyH_take (i := 17) (v := undef) rfl (by kernel_rfl) (by kernel_rfl) (by kernel_rfl) (fun _ _ _ h => h) (Or.inr ⟨by kernel_rfl, rfl⟩) ⟨R3, R2, R5⟩ ?_
      simp only [Act.put, List.getElem_toArray, List.getElem_cons_succ, List.getElem_cons_zero, List.setIfInBounds_toArray, List.set_cons_zero, List.set_cons_succ]
      refine wpAnyH_take (i := 18) (v := undef) rfl (by kernel_rfl) (by kernel_rfl) (by kernel_rfl) (fun _ _ _ h => h) (Or.inr ⟨by kernel_rfl, rfl⟩) ⟨R3, R2, R5⟩ ?_
      simp only [Act.put, List.getElem_toArray, List.getElem_cons_succ, List.getElem_cons_zero, List.setIfInBounds_toArray, List.set_cons_zero, List.set_cons_succ]
      refine wpAnyH_take (i := 19) (v := undef) rfl (by kernel_rfl) (by kernel_rfl) (by kernel_rfl) (fun _ _ _ h => h) (Or.inr ⟨by kernel_rfl, rfl⟩) ⟨R3, R2, R5⟩ ?_
      simp only [Act.put, List.getElem_toArray, List.getElem_cons_succ, List.getElem_cons_zero, List.setIfInBounds_toArray, List.set_cons_zero, List.set_cons_succ]
      refine wpAnyH_take (i := 20) (v := undef) rfl (by kernel_rfl) (by kernel_rfl) (by kernel_rfl) (fun _ _ _ h => h) (Or.inr ⟨by kernel_rfl, rfl⟩) ⟨R3, R2, R5⟩ ?_
      simp only [Act.put, List.getElem_toArray, List.getElem_cons_succ, List.getElem_cons_zero, List.setIfInBounds_toArray, List.set_cons_zero, List.set_cons_succ]
      refine wpAnyH_take (i := 21) (v := undef) rfl (by kernel_rfl) (by kernel_rfl) (by kernel_rfl) (fun _ _ _ h => h) (Or.inr ⟨by kernel_rfl, rfl⟩) ⟨R3, R2, R5⟩ ?_
      simp only [Act.put, List.getElem_toArray, List.getElem_cons_succ, List.getElem_cons_zero, List.setIfInBounds_toArray, List.set_cons_zero, List.set_cons_succ]
      refine wpAnyH_take (i := 22) (v := undef) rfl (by kernel_rfl) (by kernel_rfl) (by kernel_rfl) (fun _ _ _ h => h) (Or.inr ⟨by kernel_rfl, rfl⟩) ⟨R3, R2, R5⟩ ?_
      simp only [Act.put, List.getElem_toArray, List.getElem_cons_succ, List.getElem_cons_zero, List.setIfInBounds_toArray, List.set_cons_zero, List.set_cons_succ]
      refine wpAnyH_take (i := 23) (v := undef) rfl (by kernel_rfl) (by kernel_rfl) (by kernel_rfl) (fun _ _ _ h => h) (Or.inr ⟨by kernel_rfl, rfl⟩) ⟨R3, R2, R5⟩ ?_
      simp only [Act.put, List.getElem_toArray, List.getElem_cons_succ, List.getElem_cons_zero, List.setIfInBounds_toArray, List.set_cons_zero, List.set_cons_succ]
      refine wpAnyH_take (i := 24) (v := undef) rfl (by kernel_rfl) (by kernel_rfl) (by kernel_rfl) (fun _ _ _ h => h) (Or.inr ⟨by kernel_rfl, rfl⟩) ⟨R3, R2, R5⟩ ?_
      simp only [Act.put, List.getElem_toArray, List.getElem_cons_succ, List.getElem_cons_zero, List.setIfInBounds_toArray, List.set_cons_zero, List.set_cons_succ]
      refine wpAnyH_take (i := 25) (v := undef) rfl (by kernel_rfl) (by kernel_rfl) (by kernel_rfl) (fun _ _ _ h => h) (Or.inr ⟨by kernel_rfl, rfl⟩) ⟨R3, R2, R5⟩ ?_
      simp only [Act.put, List.getElem_toArray, List.getElem_cons_succ, List.getElem_cons_zero, List.setIfInBounds_toArray, List.set_cons_zero, List.set_cons_succ]
      refine wpAnyH_take (i := 26) (v := .bool false) rfl (by kernel_rfl) (by kernel_rfl) (by kernel_rfl) (fun _ _ _ h => h) (Or.inl ⟨by kernel_rfl, by intro w hS; go_simp⟩) ⟨R3, R2, R5⟩ ?_
      simp only [Act.put, List.getElem_toArray, List.getElem_cons_succ, List.getElem_cons_zero, List.setIfInBounds_toArray, List.set_cons_zero, List.set_cons_succ]
      refine wpAnyH_take (i := 27) (v := .bool false) rfl (by kernel_rfl) (by kernel_rfl) (by kernel_rfl) (fun _ _ _ h => h) (Or.inl ⟨by kernel_rfl, by intro w hS; go_simp⟩) ⟨R3, R2, R5⟩ ?_
      simp only [Act.put, List.getElem_toArray, List.getElem_cons_succ, List.getElem_cons_zero, List.setIfInBounds_toArray, List.set_cons_zero, List.set_cons_succ]
      refine wpAnyH_done (by kernel_rfl) ?_ _
      refine NoPanic.normal ?_
      go_wp2
      go_ret
      exact ⟨_, by first | exact HF.out | simpa using HF.out, rfl, below_drew hB⟩
    have dh : (h s.toNat == a + 1) = true := by simpa using hhome
    by_cases hown : f (a.toNat * 6 + K.toNat) = s + 1
    · have HF : Hid ((true = true) ↔ Stands f h (p, s, i, a, q)) := by
        show _ ↔ _
        exact ⟨fun _ => ⟨hp, hs, hi, hin.1, hin.2, hhome, by show f (placeN a q) = _; rw [hpl]; exact hown⟩, fun _ => rfl⟩
      have dz : (f (a.toNat * 6 + K.toNat) == s + 1) = true := by simpa using hown
      clear hs e2 hi e3 hin hI hA hQ hK hpl hhome hown hp
      go_enter Try.func31, Try.ntmps31
      go_wp2_with (first
        | (refine wpList_boxR 30 rfl _ rfl _ rfl ?_; intro b2 w1 l2 R2 hb1; replace l2 := Nat.le_trans hB.size l2; replace hB := hB.trans (hb1.mono hB.size))
        | (refine wpList_boxR 32 rfl _ rfl _ rfl ?_; intro b3 w2 l3 R3 hb2; replace l3 := Nat.le_trans hB.size l3; replace R2 := R2.below hb2; replace hB := hB.trans (hb2.mono hB.size); have c0 := m0 R3; have c1 := m1 R3; have c2 := m2 R3)
        | (go_at_call 37; go_fit (C1 _); rintro e w' ⟨rfl, hw⟩; rw [hw]; clear hw w')
        | (go_at_call 38; go_fit (C2 _); rintro e w' ⟨rfl, hw⟩; rw [hw]; clear hw w')
        | (go_at_call 39; go_fit (C3 _); rintro e w' ⟨rfl, hw⟩; rw [hw]; clear hw w')
        | (refine wpList_loadR 32 _ rfl rfl _ rfl (mc (p, s, i, a, q)) R3 _ Try.underlying32 rfl (mc_info _) ?_)
        | (go_at_call 33; go_fit (C4 _); rintro e w5 ⟨rfl, hb5⟩; clear c0 c1 c2; replace R3 := R3.below hb5; replace R2 := R2.below hb5; replace hB := hB.trans (hb5.mono hB.size))
        | (refine wpList_allocR 67 rfl rfl _ place_zero ?_; intro b5 w6 l5 R5 hb6; have n2 := R2.ne l5; have n3 := R3.ne l5; replace l5 := Nat.le_trans hB.size l5; replace R3 := R3.below hb6; replace R2 := R2.below hb6; replace hB := hB.trans (hb6.mono hB.size))
        | (refine wpList_storeR 67 rfl _ _ rfl b5 rfl (ic2 a K) rfl _ R5 rfl (by kernel_rfl) (by kernel_rfl) ?_; intro w7 R5 t7; replace R3 := t7.row R3 n3; replace R2 := t7.row R2 n2; replace hB := t7.below _ _ l5 hB))
      refine wp_region_noPanic ?_
      refine wp_region_held_drew (S := fun W => Row 32 W b3 (mc (p, s, i, a, q)) ∧ Row 30 W b2 (tc f g h sl) ∧ Row 67 W b5 (ic2 a K)) (by kernel_rfl) ⟨R3, R2, R5⟩ (fun _ => ?_)
      refine wpAnyH_take (i := 0) (v := .bool true) rfl (by kernel_rfl) (by kernel_rfl) (by kernel_rfl) (fun _ _ _ h => h) (Or.inl ⟨by kernel_rfl, by intro w hS; go_simp⟩) ⟨R3, R2, R5⟩ ?_
      simp only [Act.put, List.getElem_toArray, List.getElem_cons_succ, List.getElem_cons_zero, List.setIfInBounds_toArray, List.set_cons_zero, List.set_cons_succ]
      refine wpAnyH_take (i := 1) (v := .bool true) rfl (by kernel_rfl) (by kernel_rfl) (by kernel_rfl) (fun _ _ _ h => h) (Or.inl ⟨by kernel_rfl, by intro w hS; go_simp⟩) ⟨R3, R2, R5⟩ ?_
      simp only [Act.put, List.getElem_toArray, List.getElem_cons_succ, List.getElem_cons_zero, List.setIfInBounds_toArray, List.set_cons_zero, List.set_cons_succ]
      refine wpAnyH_take (i := 2) (v := (.pointer (some ⟨b3, 1, none⟩))) rfl (by kernel_rfl) (by kernel_rfl) (by kernel_rfl) (fun _ _ _ h => h) (Or.inl ⟨by kernel_rfl, by intro w hS; go_simp⟩) ⟨R3, R2, R5⟩ ?_
      simp only [Act.put, List.getElem_toArray, List.getElem_cons_succ, List.getElem_cons_zero, List.setIfInBounds_toArray, List.set_cons_zero, List.set_cons_succ]
      refine wpAnyH_take (i := 3) (v := .int .i64 s) rfl (by kernel_rfl) (by kernel_rfl) (by kernel_rfl) (fun _ _ _ h => h) (Or.inl ⟨by kernel_rfl, by intro w hS; have hc := m1 hS.1; go_simp⟩) ⟨R3, R2, R5⟩ ?_
      simp only [Act.put, List.getElem_toArray, List.getElem_cons_succ, List.getElem_cons_zero, List.setIfInBounds_toArray, List.set_cons_zero, List.set_cons_succ]
      refine wpAnyH_take (i := 4) (v := (.pointer (some ⟨b2, 21, none⟩))) rfl (by kernel_rfl) (by kernel_rfl) (by kernel_rfl) (fun _ _ _ h => h) (Or.inl ⟨by kernel_rfl, by intro w hS; go_simp⟩) ⟨R3, R2, R5⟩ ?_
      simp only [Act.put, List.getElem_toArray, List.getElem_cons_succ, List.getElem_cons_zero, List.setIfInBounds_toArray, List.set_cons_zero, List.set_cons_succ]
      refine wpAnyH_take (i := 5) (v := (.pointer (some ⟨b2, 21 + s.toNat, none⟩))) rfl (by kernel_rfl) (by kernel_rfl) (by kernel_rfl) (fun _ _ _ h => h) (Or.inl ⟨by kernel_rfl, by intro w hS; go_simp⟩) ⟨R3, R2, R5⟩ ?_
      simp only [Act.put, List.getElem_toArray, List.getElem_cons_succ, List.getElem_cons_zero, List.setIfInBounds_toArray, List.set_cons_zero, List.set_cons_succ]
      refine wpAnyH_take (i := 6) (v := .int .i64 (h s.toNat)) rfl (by kernel_rfl) (by kernel_rfl) (by kernel_rfl) (fun _ _ _ h => h) (Or.inl ⟨by kernel_rfl, by intro w hS; have hc := hH _ _ hS.2.1; go_simp⟩) ⟨R3, R2, R5⟩ ?_
      simp only [Act.put, List.getElem_toArray, List.getElem_cons_succ, List.getElem_cons_zero, List.setIfInBounds_toArray, List.set_cons_zero, List.set_cons_succ]
      refine wpAnyH_take (i := 7) (v := (.pointer (some ⟨b3, 3, none⟩))) rfl (by kernel_rfl) (by kernel_rfl) (by kernel_rfl) (fun _ _ _ h => h) (Or.inl ⟨by kernel_rfl, by intro w hS; go_simp⟩) ⟨R3, R2, R5⟩ ?_
      simp only [Act.put, List.getElem_toArray, List.getElem_cons_succ, List.getElem_cons_zero, List.setIfInBounds_toArray, List.set_cons_zero, List.set_cons_succ]
      refine wpAnyH_take (i := 8) (v := .int .i64 a) rfl (by kernel_rfl) (by kernel_rfl) (by kernel_rfl) (fun _ _ _ h => h) (Or.inl ⟨by kernel_rfl, by intro w hS; have hc := m3 hS.1; go_simp⟩) ⟨R3, R2, R5⟩ ?_
      simp only [Act.put, List.getElem_toArray, List.getElem_cons_succ, List.getElem_cons_zero, List.setIfInBounds_toArray, List.set_cons_zero, List.set_cons_succ]
      refine wpAnyH_take (i := 9) (v := .int .i64 (a + 1)) rfl (by kernel_rfl) (by kernel_rfl) (by kernel_rfl) (fun _ _ _ h => h) (Or.inl ⟨by kernel_rfl, by intro w hS; go_simp⟩) ⟨R3, R2, R5⟩ ?_
      simp only [Act.put, List.getElem_toArray, List.getElem_cons_succ, List.getElem_cons_zero, List.setIfInBounds_toArray, List.set_cons_zero, List.set_cons_succ]
      refine wpAnyH_take (i := 10) (v := .bool true) rfl (by kernel_rfl) (by kernel_rfl) (by kernel_rfl) (fun _ _ _ h => h) (Or.inl ⟨by kernel_rfl, by intro w hS; go_simp⟩) ⟨R3, R2, R5⟩ ?_
      simp only [Act.put, List.getElem_toArray, List.getElem_cons_succ, List.getElem_cons_zero, List.setIfInBounds_toArray, List.set_cons_zero, List.set_cons_succ]
      refine wpAnyH_take (i := 11) (v := .bool true) rfl (by kernel_rfl) (by kernel_rfl) (by kernel_rfl) (fun _ _ _ h => h) (Or.inl ⟨by kernel_rfl, by intro w hS; go_simp⟩) ⟨R3, R2, R5⟩ ?_
      simp only [Act.put, List.getElem_toArray, List.getElem_cons_succ, List.getElem_cons_zero, List.setIfInBounds_toArray, List.set_cons_zero, List.set_cons_succ]
      refine wpAnyH_take (i := 12) (v := .bool true) rfl (by kernel_rfl) (by kernel_rfl) (by kernel_rfl) (fun _ _ _ h => h) (Or.inl ⟨by kernel_rfl, by intro w hS; go_simp⟩) ⟨R3, R2, R5⟩ ?_
      simp only [Act.put, List.getElem_toArray, List.getElem_cons_succ, List.getElem_cons_zero, List.setIfInBounds_toArray, List.set_cons_zero, List.set_cons_succ]
      refine wpAnyH_take (i := 13) (v := (.pointer (some ⟨b5, 0, none⟩))) rfl (by kernel_rfl) (by kernel_rfl) (by kernel_rfl) (fun _ _ _ h => h) (Or.inl ⟨by kernel_rfl, by intro w hS; go_simp⟩) ⟨R3, R2, R5⟩ ?_
      simp only [Act.put, List.getElem_toArray, List.getElem_cons_succ, List.getElem_cons_zero, List.setIfInBounds_toArray, List.set_cons_zero, List.set_cons_succ]
      refine wpAnyH_take (i := 14) (v := .int .i64 a) rfl (by kernel_rfl) (by kernel_rfl) (by kernel_rfl) (fun _ _ _ h => h) (Or.inl ⟨by kernel_rfl, by intro w hS; have hc := p0B hS.2.2; go_simp⟩) ⟨R3, R2, R5⟩ ?_
      simp only [Act.put, List.getElem_toArray, List.getElem_cons_succ, List.getElem_cons_zero, List.setIfInBounds_toArray, List.set_cons_zero, List.set_cons_succ]
      refine wpAnyH_take (i := 15) (v := (.pointer (some ⟨b5, 1, none⟩))) rfl (by kernel_rfl) (by kernel_rfl) (by kernel_rfl) (fun _ _ _ h => h) (Or.inl ⟨by kernel_rfl, by intro w hS; go_simp⟩) ⟨R3, R2, R5⟩ ?_
      simp only [Act.put, List.getElem_toArray, List.getElem_cons_succ, List.getElem_cons_zero, List.setIfInBounds_toArray, List.set_cons_zero, List.set_cons_succ]
      refine wpAnyH_take (i := 16) (v := .int .i64 K) rfl (by kernel_rfl) (by kernel_rfl) (by kernel_rfl) (fun _ _ _ h => h) (Or.inl ⟨by kernel_rfl, by intro w hS; have hc := p1 hS.2.2; go_simp⟩) ⟨R3, R2, R5⟩ ?_
      simp only [Act.put, List.getElem_toArray, List.getElem_cons_succ, List.getElem_cons_zero, List.setIfInBounds_toArray, List.set_cons_zero, List.set_cons_succ]
      refine wpAnyH_take (i := 17) (v := (.pointer (some ⟨b2, 0, none⟩))) rfl (by kernel_rfl) (by kernel_rfl) (by kernel_rfl) (fun _ _ _ h => h) (Or.inl ⟨by kernel_rfl, by intro w hS; go_simp⟩) ⟨R3, R2, R5⟩ ?_
      simp only [Act.put, List.getElem_toArray, List.getElem_cons_succ, List.getElem_cons_zero, List.setIfInBounds_toArray, List.set_cons_zero, List.set_cons_succ]
      refine wpAnyH_take (i := 18) (v := (.pointer (some ⟨b2, 0, none⟩))) rfl (by kernel_rfl) (by kernel_rfl) (by kernel_rfl) (fun _ _ _ h => h) (Or.inl ⟨by kernel_rfl, by intro w hS; go_simp⟩) ⟨R3, R2, R5⟩ ?_
      simp only [Act.put, List.getElem_toArray, List.getElem_cons_succ, List.getElem_cons_zero, List.setIfInBounds_toArray, List.set_cons_zero, List.set_cons_succ]
      refine wpAnyH_take (i := 19) (v := (.pointer (some ⟨b2, a.toNat * 6, none⟩))) rfl (by kernel_rfl) (by kernel_rfl) (by kernel_rfl) (fun _ _ _ h => h) (Or.inl ⟨by kernel_rfl, by intro w hS; go_simp⟩) ⟨R3, R2, R5⟩ ?_
      simp only [Act.put, List.getElem_toArray, List.getElem_cons_succ, List.getElem_cons_zero, List.setIfInBounds_toArray, List.set_cons_zero, List.set_cons_succ]
      refine wpAnyH_take (i := 20) (v := (.pointer (some ⟨b2, a.toNat * 6 + K.toNat, none⟩))) rfl (by kernel_rfl) (by kernel_rfl) (by kernel_rfl) (fun _ _ _ h => h) (Or.inl ⟨by kernel_rfl, by intro w hS; go_simp⟩) ⟨R3, R2, R5⟩ ?_
      simp only [Act.put, List.getElem_toArray, List.getElem_cons_succ, List.getElem_cons_zero, List.setIfInBounds_toArray, List.set_cons_zero, List.set_cons_succ]
      refine wpAnyH_take (i := 21) (v := .int .i64 (f (a.toNat * 6 + K.toNat))) rfl (by kernel_rfl) (by kernel_rfl) (by kernel_rfl) (fun _ _ _ h => h) (Or.inl ⟨by kernel_rfl, by intro w hS; have hc := hO _ _ hS.2.1; go_simp⟩) ⟨R3, R2, R5⟩ ?_
      simp only [Act.put, List.getElem_toArray, List.getElem_cons_succ, List.getElem_cons_zero, List.setIfInBounds_toArray, List.set_cons_zero, List.set_cons_succ]
      refine wpAnyH_take (i := 22) (v := (.pointer (some ⟨b3, 1, none⟩))) rfl (by kernel_rfl) (by kernel_rfl) (by kernel_rfl) (fun _ _ _ h => h) (Or.inl ⟨by kernel_rfl, by intro w hS; go_simp⟩) ⟨R3, R2, R5⟩ ?_
      simp only [Act.put, List.getElem_toArray, List.getElem_cons_succ, List.getElem_cons_zero, List.setIfInBounds_toArray, List.set_cons_zero, List.set_cons_succ]
      refine wpAnyH_take (i := 23) (v := .int .i64 s) rfl (by kernel_rfl) (by kernel_rfl) (by kernel_rfl) (fun _ _ _ h => h) (Or.inl ⟨by kernel_rfl, by intro w hS; have hc := m1 hS.1; go_simp⟩) ⟨R3, R2, R5⟩ ?_
      simp only [Act.put, List.getElem_toArray, List.getElem_cons_succ, List.getElem_cons_zero, List.setIfInBounds_toArray, List.set_cons_zero, List.set_cons_succ]
      refine wpAnyH_take (i := 24) (v := .int .i64 (s + 1)) rfl (by kernel_rfl) (by kernel_rfl) (by kernel_rfl) (fun _ _ _ h => h) (Or.inl ⟨by kernel_rfl, by intro w hS; go_simp⟩) ⟨R3, R2, R5⟩ ?_
      simp only [Act.put, List.getElem_toArray, List.getElem_cons_succ, List.getElem_cons_zero, List.setIfInBounds_toArray, List.set_cons_zero, List.set_cons_succ]
      refine wpAnyH_take (i := 25) (v := .bool true) rfl (by kernel_rfl) (by kernel_rfl) (by kernel_rfl) (fun _ _ _ h => h) (Or.inl ⟨by kernel_rfl, by intro w hS; go_simp⟩) ⟨R3, R2, R5⟩ ?_
      simp only [Act.put, List.getElem_toArray, List.getElem_cons_succ, List.getElem_cons_zero, List.setIfInBounds_toArray, List.set_cons_zero, List.set_cons_succ]
      refine wpAnyH_take (i := 26) (v := .bool true) rfl (by kernel_rfl) (by kernel_rfl) (by kernel_rfl) (fun _ _ _ h => h) (Or.inl ⟨by kernel_rfl, by intro w hS; go_simp⟩) ⟨R3, R2, R5⟩ ?_
      simp only [Act.put, List.getElem_toArray, List.getElem_cons_succ, List.getElem_cons_zero, List.setIfInBounds_toArray, List.set_cons_zero, List.set_cons_succ]
      refine wpAnyH_take (i := 27) (v := .bool true) rfl (by kernel_rfl) (by kernel_rfl) (by kernel_rfl) (fun _ _ _ h => h) (Or.inl ⟨by kernel_rfl, by intro w hS; go_simp⟩) ⟨R3, R2, R5⟩ ?_
      simp only [Act.put, List.getElem_toArray, List.getElem_cons_succ, List.getElem_cons_zero, List.setIfInBounds_toArray, List.set_cons_zero, List.set_cons_succ]
      refine wpAnyH_done (by kernel_rfl) ?_ _
      refine NoPanic.normal ?_
      go_wp2
      go_ret
      exact ⟨_, by first | exact HF.out | simpa using HF.out, rfl, below_drew hB⟩
    · have HF : Hid ((false = true) ↔ Stands f h (p, s, i, a, q)) := by
        show _ ↔ _
        exact ⟨fun h => by simp at h, fun h => absurd (by have := h.2.2.2.2.2.2; simp only at this; rw [hpl] at this; exact this) hown⟩
      have dz : (f (a.toNat * 6 + K.toNat) == s + 1) = false := by simpa using hown
      clear hs e2 hi e3 hin hI hA hQ hK hpl hhome hown hp
      go_enter Try.func31, Try.ntmps31
      go_wp2_with (first
        | (refine wpList_boxR 30 rfl _ rfl _ rfl ?_; intro b2 w1 l2 R2 hb1; replace l2 := Nat.le_trans hB.size l2; replace hB := hB.trans (hb1.mono hB.size))
        | (refine wpList_boxR 32 rfl _ rfl _ rfl ?_; intro b3 w2 l3 R3 hb2; replace l3 := Nat.le_trans hB.size l3; replace R2 := R2.below hb2; replace hB := hB.trans (hb2.mono hB.size); have c0 := m0 R3; have c1 := m1 R3; have c2 := m2 R3)
        | (go_at_call 37; go_fit (C1 _); rintro e w' ⟨rfl, hw⟩; rw [hw]; clear hw w')
        | (go_at_call 38; go_fit (C2 _); rintro e w' ⟨rfl, hw⟩; rw [hw]; clear hw w')
        | (go_at_call 39; go_fit (C3 _); rintro e w' ⟨rfl, hw⟩; rw [hw]; clear hw w')
        | (refine wpList_loadR 32 _ rfl rfl _ rfl (mc (p, s, i, a, q)) R3 _ Try.underlying32 rfl (mc_info _) ?_)
        | (go_at_call 33; go_fit (C4 _); rintro e w5 ⟨rfl, hb5⟩; clear c0 c1 c2; replace R3 := R3.below hb5; replace R2 := R2.below hb5; replace hB := hB.trans (hb5.mono hB.size))
        | (refine wpList_allocR 67 rfl rfl _ place_zero ?_; intro b5 w6 l5 R5 hb6; have n2 := R2.ne l5; have n3 := R3.ne l5; replace l5 := Nat.le_trans hB.size l5; replace R3 := R3.below hb6; replace R2 := R2.below hb6; replace hB := hB.trans (hb6.mono hB.size))
        | (refine wpList_storeR 67 rfl _ _ rfl b5 rfl (ic2 a K) rfl _ R5 rfl (by kernel_rfl) (by kernel_rfl) ?_; intro w7 R5 t7; replace R3 := t7.row R3 n3; replace R2 := t7.row R2 n2; replace hB := t7.below _ _ l5 hB))
      refine wp_region_noPanic ?_
      refine wp_region_held_drew (S := fun W => Row 32 W b3 (mc (p, s, i, a, q)) ∧ Row 30 W b2 (tc f g h sl) ∧ Row 67 W b5 (ic2 a K)) (by kernel_rfl) ⟨R3, R2, R5⟩ (fun _ => ?_)
      refine wpAnyH_take (i := 0) (v := .bool true) rfl (by kernel_rfl) (by kernel_rfl) (by kernel_rfl) (fun _ _ _ h => h) (Or.inl ⟨by kernel_rfl, by intro w hS; go_simp⟩) ⟨R3, R2, R5⟩ ?_
      simp only [Act.put, List.getElem_toArray, List.getElem_cons_succ, List.getElem_cons_zero, List.setIfInBounds_toArray, List.set_cons_zero, List.set_cons_succ]
      refine wpAnyH_take (i := 1) (v := .bool true) rfl (by kernel_rfl) (by kernel_rfl) (by kernel_rfl) (fun _ _ _ h => h) (Or.inl ⟨by kernel_rfl, by intro w hS; go_simp⟩) ⟨R3, R2, R5⟩ ?_
      simp only [Act.put, List.getElem_toArray, List.getElem_cons_succ, List.getElem_cons_zero, List.setIfInBounds_toArray, List.set_cons_zero, List.set_cons_succ]
      refine wpAnyH_take (i := 2) (v := (.pointer (some ⟨b3, 1, none⟩))) rfl (by kernel_rfl) (by kernel_rfl) (by kernel_rfl) (fun _ _ _ h => h) (Or.inl ⟨by kernel_rfl, by intro w hS; go_simp⟩) ⟨R3, R2, R5⟩ ?_
      simp only [Act.put, List.getElem_toArray, List.getElem_cons_succ, List.getElem_cons_zero, List.setIfInBounds_toArray, List.set_cons_zero, List.set_cons_succ]
      refine wpAnyH_take (i := 3) (v := .int .i64 s) rfl (by kernel_rfl) (by kernel_rfl) (by kernel_rfl) (fun _ _ _ h => h) (Or.inl ⟨by kernel_rfl, by intro w hS; have hc := m1 hS.1; go_simp⟩) ⟨R3, R2, R5⟩ ?_
      simp only [Act.put, List.getElem_toArray, List.getElem_cons_succ, List.getElem_cons_zero, List.setIfInBounds_toArray, List.set_cons_zero, List.set_cons_succ]
      refine wpAnyH_take (i := 4) (v := (.pointer (some ⟨b2, 21, none⟩))) rfl (by kernel_rfl) (by kernel_rfl) (by kernel_rfl) (fun _ _ _ h => h) (Or.inl ⟨by kernel_rfl, by intro w hS; go_simp⟩) ⟨R3, R2, R5⟩ ?_
      simp only [Act.put, List.getElem_toArray, List.getElem_cons_succ, List.getElem_cons_zero, List.setIfInBounds_toArray, List.set_cons_zero, List.set_cons_succ]
      refine wpAnyH_take (i := 5) (v := (.pointer (some ⟨b2, 21 + s.toNat, none⟩))) rfl (by kernel_rfl) (by kernel_rfl) (by kernel_rfl) (fun _ _ _ h => h) (Or.inl ⟨by kernel_rfl, by intro w hS; go_simp⟩) ⟨R3, R2, R5⟩ ?_
      simp only [Act.put, List.getElem_toArray, List.getElem_cons_succ, List.getElem_cons_zero, List.setIfInBounds_toArray, List.set_cons_zero, List.set_cons_succ]
      refine wpAnyH_take (i := 6) (v := .int .i64 (h s.toNat)) rfl (by kernel_rfl) (by kernel_rfl) (by kernel_rfl) (fun _ _ _ h => h) (Or.inl ⟨by kernel_rfl, by intro w hS; have hc := hH _ _ hS.2.1; go_simp⟩) ⟨R3, R2, R5⟩ ?_
      simp only [Act.put, List.getElem_toArray, List.getElem_cons_succ, List.getElem_cons_zero, List.setIfInBounds_toArray, List.set_cons_zero, List.set_cons_succ]
      refine wpAnyH_take (i := 7) (v := (.pointer (some ⟨b3, 3, none⟩))) rfl (by kernel_rfl) (by kernel_rfl) (by kernel_rfl) (fun _ _ _ h => h) (Or.inl ⟨by kernel_rfl, by intro w hS; go_simp⟩) ⟨R3, R2, R5⟩ ?_
      simp only [Act.put, List.getElem_toArray, List.getElem_cons_succ, List.getElem_cons_zero, List.setIfInBounds_toArray, List.set_cons_zero, List.set_cons_succ]
      refine wpAnyH_take (i := 8) (v := .int .i64 a) rfl (by kernel_rfl) (by kernel_rfl) (by kernel_rfl) (fun _ _ _ h => h) (Or.inl ⟨by kernel_rfl, by intro w hS; have hc := m3 hS.1; go_simp⟩) ⟨R3, R2, R5⟩ ?_
      simp only [Act.put, List.getElem_toArray, List.getElem_cons_succ, List.getElem_cons_zero, List.setIfInBounds_toArray, List.set_cons_zero, List.set_cons_succ]
      refine wpAnyH_take (i := 9) (v := .int .i64 (a + 1)) rfl (by kernel_rfl) (by kernel_rfl) (by kernel_rfl) (fun _ _ _ h => h) (Or.inl ⟨by kernel_rfl, by intro w hS; go_simp⟩) ⟨R3, R2, R5⟩ ?_
      simp only [Act.put, List.getElem_toArray, List.getElem_cons_succ, List.getElem_cons_zero, List.setIfInBounds_toArray, List.set_cons_zero, List.set_cons_succ]
      refine wpAnyH_take (i := 10) (v := .bool true) rfl (by kernel_rfl) (by kernel_rfl) (by kernel_rfl) (fun _ _ _ h => h) (Or.inl ⟨by kernel_rfl, by intro w hS; go_simp⟩) ⟨R3, R2, R5⟩ ?_
      simp only [Act.put, List.getElem_toArray, List.getElem_cons_succ, List.getElem_cons_zero, List.setIfInBounds_toArray, List.set_cons_zero, List.set_cons_succ]
      refine wpAnyH_take (i := 11) (v := .bool true) rfl (by kernel_rfl) (by kernel_rfl) (by kernel_rfl) (fun _ _ _ h => h) (Or.inl ⟨by kernel_rfl, by intro w hS; go_simp⟩) ⟨R3, R2, R5⟩ ?_
      simp only [Act.put, List.getElem_toArray, List.getElem_cons_succ, List.getElem_cons_zero, List.setIfInBounds_toArray, List.set_cons_zero, List.set_cons_succ]
      refine wpAnyH_take (i := 12) (v := .bool true) rfl (by kernel_rfl) (by kernel_rfl) (by kernel_rfl) (fun _ _ _ h => h) (Or.inl ⟨by kernel_rfl, by intro w hS; go_simp⟩) ⟨R3, R2, R5⟩ ?_
      simp only [Act.put, List.getElem_toArray, List.getElem_cons_succ, List.getElem_cons_zero, List.setIfInBounds_toArray, List.set_cons_zero, List.set_cons_succ]
      refine wpAnyH_take (i := 13) (v := (.pointer (some ⟨b5, 0, none⟩))) rfl (by kernel_rfl) (by kernel_rfl) (by kernel_rfl) (fun _ _ _ h => h) (Or.inl ⟨by kernel_rfl, by intro w hS; go_simp⟩) ⟨R3, R2, R5⟩ ?_
      simp only [Act.put, List.getElem_toArray, List.getElem_cons_succ, List.getElem_cons_zero, List.setIfInBounds_toArray, List.set_cons_zero, List.set_cons_succ]
      refine wpAnyH_take (i := 14) (v := .int .i64 a) rfl (by kernel_rfl) (by kernel_rfl) (by kernel_rfl) (fun _ _ _ h => h) (Or.inl ⟨by kernel_rfl, by intro w hS; have hc := p0B hS.2.2; go_simp⟩) ⟨R3, R2, R5⟩ ?_
      simp only [Act.put, List.getElem_toArray, List.getElem_cons_succ, List.getElem_cons_zero, List.setIfInBounds_toArray, List.set_cons_zero, List.set_cons_succ]
      refine wpAnyH_take (i := 15) (v := (.pointer (some ⟨b5, 1, none⟩))) rfl (by kernel_rfl) (by kernel_rfl) (by kernel_rfl) (fun _ _ _ h => h) (Or.inl ⟨by kernel_rfl, by intro w hS; go_simp⟩) ⟨R3, R2, R5⟩ ?_
      simp only [Act.put, List.getElem_toArray, List.getElem_cons_succ, List.getElem_cons_zero, List.setIfInBounds_toArray, List.set_cons_zero, List.set_cons_succ]
      refine wpAnyH_take (i := 16) (v := .int .i64 K) rfl (by kernel_rfl) (by kernel_rfl) (by kernel_rfl) (fun _ _ _ h => h) (Or.inl ⟨by kernel_rfl, by intro w hS; have hc := p1 hS.2.2; go_simp⟩) ⟨R3, R2, R5⟩ ?_
      simp only [Act.put, List.getElem_toArray, List.getElem_cons_succ, List.getElem_cons_zero, List.setIfInBounds_toArray, List.set_cons_zero, List.set_cons_succ]
      refine wpAnyH_take (i := 17) (v := (.pointer (some ⟨b2, 0, none⟩))) rfl (by kernel_rfl) (by kernel_rfl) (by kernel_rfl) (fun _ _ _ h => h) (Or.inl ⟨by kernel_rfl, by intro w hS; go_simp⟩) ⟨R3, R2, R5⟩ ?_
      simp only [Act.put, List.getElem_toArray, List.getElem_cons_succ, List.getElem_cons_zero, List.setIfInBounds_toArray, List.set_cons_zero, List.set_cons_succ]
      refine wpAnyH_take (i := 18) (v := (.pointer (some ⟨b2, 0, none⟩))) rfl (by kernel_rfl) (by kernel_rfl) (by kernel_rfl) (fun _ _ _ h => h) (Or.inl ⟨by kernel_rfl, by intro w hS; go_simp⟩) ⟨R3, R2, R5⟩ ?_
      simp only [Act.put, List.getElem_toArray, List.getElem_cons_succ, List.getElem_cons_zero, List.setIfInBounds_toArray, List.set_cons_zero, List.set_cons_succ]
      refine wpAnyH_take (i := 19) (v := (.pointer (some ⟨b2, a.toNat * 6, none⟩))) rfl (by kernel_rfl) (by kernel_rfl) (by kernel_rfl) (fun _ _ _ h => h) (Or.inl ⟨by kernel_rfl, by intro w hS; go_simp⟩) ⟨R3, R2, R5⟩ ?_
      simp only [Act.put, List.getElem_toArray, List.getElem_cons_succ, List.getElem_cons_zero, List.setIfInBounds_toArray, List.set_cons_zero, List.set_cons_succ]
      refine wpAnyH_take (i := 20) (v := (.pointer (some ⟨b2, a.toNat * 6 + K.toNat, none⟩))) rfl (by kernel_rfl) (by kernel_rfl) (by kernel_rfl) (fun _ _ _ h => h) (Or.inl ⟨by kernel_rfl, by intro w hS; go_simp⟩) ⟨R3, R2, R5⟩ ?_
      simp only [Act.put, List.getElem_toArray, List.getElem_cons_succ, List.getElem_cons_zero, List.setIfInBounds_toArray, List.set_cons_zero, List.set_cons_succ]
      refine wpAnyH_take (i := 21) (v := .int .i64 (f (a.toNat * 6 + K.toNat))) rfl (by kernel_rfl) (by kernel_rfl) (by kernel_rfl) (fun _ _ _ h => h) (Or.inl ⟨by kernel_rfl, by intro w hS; have hc := hO _ _ hS.2.1; go_simp⟩) ⟨R3, R2, R5⟩ ?_
      simp only [Act.put, List.getElem_toArray, List.getElem_cons_succ, List.getElem_cons_zero, List.setIfInBounds_toArray, List.set_cons_zero, List.set_cons_succ]
      refine wpAnyH_take (i := 22) (v := (.pointer (some ⟨b3, 1, none⟩))) rfl (by kernel_rfl) (by kernel_rfl) (by kernel_rfl) (fun _ _ _ h => h) (Or.inl ⟨by kernel_rfl, by intro w hS; go_simp⟩) ⟨R3, R2, R5⟩ ?_
      simp only [Act.put, List.getElem_toArray, List.getElem_cons_succ, List.getElem_cons_zero, List.setIfInBounds_toArray, List.set_cons_zero, List.set_cons_succ]
      refine wpAnyH_take (i := 23) (v := .int .i64 s) rfl (by kernel_rfl) (by kernel_rfl) (by kernel_rfl) (fun _ _ _ h => h) (Or.inl ⟨by kernel_rfl, by intro w hS; have hc := m1 hS.1; go_simp⟩) ⟨R3, R2, R5⟩ ?_
      simp only [Act.put, List.getElem_toArray, List.getElem_cons_succ, List.getElem_cons_zero, List.setIfInBounds_toArray, List.set_cons_zero, List.set_cons_succ]
      refine wpAnyH_take (i := 24) (v := .int .i64 (s + 1)) rfl (by kernel_rfl) (by kernel_rfl) (by kernel_rfl) (fun _ _ _ h => h) (Or.inl ⟨by kernel_rfl, by intro w hS; go_simp⟩) ⟨R3, R2, R5⟩ ?_
      simp only [Act.put, List.getElem_toArray, List.getElem_cons_succ, List.getElem_cons_zero, List.setIfInBounds_toArray, List.set_cons_zero, List.set_cons_succ]
      refine wpAnyH_take (i := 25) (v := .bool false) rfl (by kernel_rfl) (by kernel_rfl) (by kernel_rfl) (fun _ _ _ h => h) (Or.inl ⟨by kernel_rfl, by intro w hS; go_simp⟩) ⟨R3, R2, R5⟩ ?_
      simp only [Act.put, List.getElem_toArray, List.getElem_cons_succ, List.getElem_cons_zero, List.setIfInBounds_toArray, List.set_cons_zero, List.set_cons_succ]
      refine wpAnyH_take (i := 26) (v := .bool false) rfl (by kernel_rfl) (by kernel_rfl) (by kernel_rfl) (fun _ _ _ h => h) (Or.inl ⟨by kernel_rfl, by intro w hS; go_simp⟩) ⟨R3, R2, R5⟩ ?_
      simp only [Act.put, List.getElem_toArray, List.getElem_cons_succ, List.getElem_cons_zero, List.setIfInBounds_toArray, List.set_cons_zero, List.set_cons_succ]
      refine wpAnyH_take (i := 27) (v := .bool false) rfl (by kernel_rfl) (by kernel_rfl) (by kernel_rfl) (fun _ _ _ h => h) (Or.inl ⟨by kernel_rfl, by intro w hS; go_simp⟩) ⟨R3, R2, R5⟩ ?_
      simp only [Act.put, List.getElem_toArray, List.getElem_cons_succ, List.getElem_cons_zero, List.setIfInBounds_toArray, List.set_cons_zero, List.set_cons_succ]
      refine wpAnyH_done (by kernel_rfl) ?_ _
      refine NoPanic.normal ?_
      go_wp2
      go_ret
      exact ⟨_, by first | exact HF.out | simpa using HF.out, rfl, below_drew hB⟩
end Go.Proofs.Ytmdijjbkjcnbpaa
