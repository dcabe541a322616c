/-
  Of what BindCloses, BindOpens stands on: part 3.
-/
import Derived.Test.YtmdijjbkjcnbpaaBindCO2
namespace Go.Proofs.Ytmdijjbkjcnbpaa
open Go.ChangeShapes Go.WideShapes Go.ChangeAt Go.RowKit
set_option linter.unusedSimpArgs false
set_option linter.unusedVariables false

/-- the first n addresses of which a block can be taken. -/
def openTo (f : Nat → Int) (g : Nat → Bool) (n : Nat) : List Nat := (List.range n).filter fun a => !g a && decide (0 < (freeL (rowF f a)).length)
def openL (f : Nat → Int) (g : Nat → Bool) : List Nat := openTo f g 3
theorem openTo_step (f : Nat → Int) (g : Nat → Bool) (n : Nat) : openTo f g (n + 1) = openTo f g n ++ if (!g n && decide (0 < (freeL (rowF f n)).length)) = true then [n] else [] := by
  unfold openTo; rw [List.range_succ, List.filter_append]; simp only [List.filter]; split <;> simp_all
theorem openTo_len (f : Nat → Int) (g : Nat → Bool) (n : Nat) : (openTo f g n).length ≤ n := by
  have := List.length_filter_le (fun a => !g a && decide (0 < (freeL (rowF f a)).length)) (List.range n); simpa [openTo] using this
theorem openL_mem (f : Nat → Int) (g : Nat → Bool) (a : Nat) (h : a ∈ openL f g) : a < 3 ∧ g a = false ∧ 0 < (freeL (rowF f a)).length := by
  simpa [openL, openTo] using h
theorem Ints.low {w : World} {base b2 : Nat} {v : Value} {l : List Nat} (h : Ints w base v l) (hb : b2 ≤ base) : Ints w b2 v l := by
  refine ⟨h.1, ?_⟩
  rcases h.2 with e | ⟨b, cap, cur, hv, hbb, r⟩
  · exact .inl e
  · exact .inr ⟨b, cap, cur, hv, by omega, r⟩
set_option maxRecDepth 10000 in
set_option maxHeartbeats 4000000 in
theorem lettable_any (f : Nat → Int) (g : Nat → Bool) (w : World) :
    Calls Try.prog 61 #[plv f g] w fun e w' => ∃ v, e = .returned v ∧ (∃ a c, v = .slice a (openL f g).length c) ∧ Ints w' w.heap.size v (openL f g) ∧ Below w.heap.size w w' := by
  obtain ⟨i0, hi, hz0, hz1, hz2⟩ := info_parts info_int
  have hB : Below w.heap.size w (w.alloc (.cells (pc f g) 26)) := (Below.refl _ _).alloc (Nat.le_refl _) _
  have T0 : PRow (w.alloc (.cells (pc f g) 26)) w.heap.size (pc f g) := PRow.new _ _
  have C0 := fun w => left_any f g 0 w
  have C1 := fun w => left_any f g 1 w
  have C2 := fun w => left_any f g 2 w
  have L0 : Hid (leftP f 0 = ((freeL (rowF f 0)).length : Int)) := leftP_in f 0 (by omega)
  have L1 : Hid (leftP f 1 = ((freeL (rowF f 1)).length : Int)) := leftP_in f 1 (by omega)
  have L2 : Hid (leftP f 2 = ((freeL (rowF f 2)).length : Int)) := leftP_in f 2 (by omega)
  unfold plv at *
  go_enter Try.func61, Try.ntmps61
  go_wp2
  go_loopw [3, 5] (fun v i wr => ∃ (k : Nat) (ao : Option Addr) (cv : Nat), k ≤ 3 ∧ i = .int .i64 k ∧ v = .slice ao (openTo f g k).length cv ∧ Ints wr (w.heap.size + 1) v (openTo f g k) ∧ PRow wr w.heap.size (pc f g) ∧ Below w.heap.size w wr) (fun _ i _ => 3 - (intOf i).toNat)
  case atStart => exact ⟨0, none, 0, by omega, rfl, rfl, Ints.nil _ _, T0, hB⟩
  case round =>
    clear T0 hB
    obtain ⟨k, ao, cv, hk, rfl, rfl, hown, T0, hB⟩ := hrel
    have hsize := hB.size
    have hlt := T0.lt
    rcases (show k = 0 ∨ k = 1 ∨ k = 2 ∨ k = 3 by omega) with rfl | rfl | rfl | rfl
    · have hol := openTo_len f g 0
      have d0 := T0.dr 0 (by omega)
      by_cases hz : 0 < (freeL (rowF f 0)).length
      · cases hg : g 0 with
        | true =>
          have HS : Hid (openTo f g 1 = openTo f g 0) := by show _ = _; rw [openTo_step, if_neg (by simp [hg])]; simp
          have hx : 0 < leftP f 0 := by rw [L0.out]; omega
          clear hz
          rw [hg] at d0
          go_wp2_with (first | (refine wpList_load_pool _ rfl ?_ _ rfl f g T0 ?_; · rfl) | (go_at_call 62; go_fit (C0 _); rintro e w' ⟨rfl, hb⟩; (try replace hb := below_undr' hb); replace hown := Ints.kept hown hb; replace T0 := T0.below hb; replace hB := hB.trans (hb.mono hB.size); replace hsize := hB.size; replace hlt := T0.lt; replace d0 := T0.dr 0 (by omega); rw [hg] at d0))
          go_roundw
          case rel =>
            first
              | exact ⟨1, ao, cv, by omega, rfl, by rw [HS.out], by rw [HS.out]; exact hown, T0, hB⟩
              | ((repeat apply Exists.intro); exact ⟨⟨1, ao, cv, by omega, rfl, by rw [HS.out], by rw [HS.out]; exact hown, T0, hB⟩, rfl⟩)
              | ((repeat apply Exists.intro); exact ⟨⟨1, ao, cv, by omega, rfl, by rw [HS.out], by rw [HS.out]; exact hown, T0, hB⟩, rfl, rfl⟩)
              | ((repeat apply Exists.intro); exact ⟨⟨1, ao, cv, by omega, rfl, by rw [HS.out], by rw [HS.out]; exact hown, T0, hB⟩, rfl, rfl, rfl⟩)
          case measure => simp [intOf]
        | false =>
          have HS : Hid (openTo f g 1 = openTo f g 0 ++ [0]) := by show _ = _; rw [openTo_step, if_pos (by simp [hg, hz])]
          have hx : 0 < leftP f 0 := by rw [L0.out]; omega
          clear hz
          rw [hg] at d0
          go_wp2_with (first
            | (refine wpList_load_pool _ rfl ?_ _ rfl f g T0 ?_; · rfl)
            | (go_at_call 62; go_fit (C0 _); rintro e w' ⟨rfl, hb⟩; (try replace hb := below_undr' hb); replace hown := Ints.kept hown hb; replace T0 := T0.below hb; replace hB := hB.trans (hb.mono hB.size); replace hsize := hB.size; replace hlt := T0.lt; replace d0 := T0.dr 0 (by omega); rw [hg] at d0)
            | (at_builtin; refine wpList_append_own _ rfl _ _ 96 rfl (w.heap.size + 1) 3 i0 (.int .i64 0) 1 8 Try.underlying96 hi hz0 hz1 hz2 rfl (by decide) _ _ _ rfl (hown.alloc _) _ 1 1 [.int .i64 0] rfl rfl (one_new _ _ _) (fun x hx => by simp at hx; subst hx; rfl) (by unfold maxLen; omega) (by omega) (by simp; omega) ?_; intro v' w3 hown' hgrow3 hnil3))
          go_roundw
          case rel =>
            have hi' : Ints w3 (w.heap.size + 1) v' (openTo f g 1) := by
              unfold Ints ic at *
              rw [HS.out, List.length_append, List.map_append]
              exact hown'
            obtain ⟨a3, c3, e3⟩ := hi'.len
            have hb4 := Ints.grown (l := openTo f g 0) (hown.alloc _) ((Below.refl _ _).alloc (by omega) _) (by simp; omega) hgrow3
            have hT := T0.keep hb4 (by omega)
            have hb3 := hB.trans (hb4.mono (by omega))
            first
              | exact ⟨1, a3, c3, by omega, rfl, e3, hi', hT, hb3⟩
              | ((repeat apply Exists.intro); exact ⟨⟨1, a3, c3, by omega, rfl, e3, hi', hT, hb3⟩, rfl⟩)
              | ((repeat apply Exists.intro); exact ⟨⟨1, a3, c3, by omega, rfl, e3, hi', hT, hb3⟩, rfl, rfl⟩)
              | ((repeat apply Exists.intro); exact ⟨⟨1, a3, c3, by omega, rfl, e3, hi', hT, hb3⟩, rfl, rfl, rfl⟩)
          case measure => simp [intOf]
      · have HS : Hid (openTo f g 1 = openTo f g 0) := by show _ = _; rw [openTo_step, if_neg (by rw [Bool.and_eq_true]; rintro ⟨_, h⟩; exact hz (of_decide_eq_true h))]; simp
        have hx : leftP f 0 = 0 := by rw [L0.out]; omega
        clear hz
        cases hg : g 0 <;>
        · rw [hg] at d0
          go_wp2_with (first | (refine wpList_load_pool _ rfl ?_ _ rfl f g T0 ?_; · rfl) | (go_at_call 62; go_fit (C0 _); rintro e w' ⟨rfl, hb⟩; (try replace hb := below_undr' hb); replace hown := Ints.kept hown hb; replace T0 := T0.below hb; replace hB := hB.trans (hb.mono hB.size); replace hsize := hB.size; replace hlt := T0.lt; replace d0 := T0.dr 0 (by omega); rw [hg] at d0))
          go_roundw
          case rel =>
            first
              | exact ⟨1, ao, cv, by omega, rfl, by rw [HS.out], by rw [HS.out]; exact hown, T0, hB⟩
              | ((repeat apply Exists.intro); exact ⟨⟨1, ao, cv, by omega, rfl, by rw [HS.out], by rw [HS.out]; exact hown, T0, hB⟩, rfl⟩)
              | ((repeat apply Exists.intro); exact ⟨⟨1, ao, cv, by omega, rfl, by rw [HS.out], by rw [HS.out]; exact hown, T0, hB⟩, rfl, rfl⟩)
              | ((repeat apply Exists.intro); exact ⟨⟨1, ao, cv, by omega, rfl, by rw [HS.out], by rw [HS.out]; exact hown, T0, hB⟩, rfl, rfl, rfl⟩)
          case measure => simp [intOf]
    · have hol := openTo_len f g 1
      have d0 := T0.dr 1 (by omega)
      by_cases hz : 0 < (freeL (rowF f 1)).length
      · cases hg : g 1 with
        | true =>
          have HS : Hid (openTo f g 2 = openTo f g 1) := by show _ = _; rw [openTo_step, if_neg (by simp [hg])]; simp
          have hx : 0 < leftP f 1 := by rw [L1.out]; omega
          clear hz
          rw [hg] at d0
          go_wp2_with (first | (refine wpList_load_pool _ rfl ?_ _ rfl f g T0 ?_; · rfl) | (go_at_call 62; go_fit (C1 _); rintro e w' ⟨rfl, hb⟩; (try replace hb := below_undr' hb); replace hown := Ints.kept hown hb; replace T0 := T0.below hb; replace hB := hB.trans (hb.mono hB.size); replace hsize := hB.size; replace hlt := T0.lt; replace d0 := T0.dr 1 (by omega); rw [hg] at d0))
          go_roundw
          case rel =>
            first
              | exact ⟨2, ao, cv, by omega, rfl, by rw [HS.out], by rw [HS.out]; exact hown, T0, hB⟩
              | ((repeat apply Exists.intro); exact ⟨⟨2, ao, cv, by omega, rfl, by rw [HS.out], by rw [HS.out]; exact hown, T0, hB⟩, rfl⟩)
              | ((repeat apply Exists.intro); exact ⟨⟨2, ao, cv, by omega, rfl, by rw [HS.out], by rw [HS.out]; exact hown, T0, hB⟩, rfl, rfl⟩)
              | ((repeat apply Exists.intro); exact ⟨⟨2, ao, cv, by omega, rfl, by rw [HS.out], by rw [HS.out]; exact hown, T0, hB⟩, rfl, rfl, rfl⟩)
          case measure => simp [intOf]
        | false =>
          have HS : Hid (openTo f g 2 = openTo f g 1 ++ [1]) := by show _ = _; rw [openTo_step, if_pos (by simp [hg, hz])]
          have hx : 0 < leftP f 1 := by rw [L1.out]; omega
          clear hz
          rw [hg] at d0
          go_wp2_with (first
            | (refine wpList_load_pool _ rfl ?_ _ rfl f g T0 ?_; · rfl)
            | (go_at_call 62; go_fit (C1 _); rintro e w' ⟨rfl, hb⟩; (try replace hb := below_undr' hb); replace hown := Ints.kept hown hb; replace T0 := T0.below hb; replace hB := hB.trans (hb.mono hB.size); replace hsize := hB.size; replace hlt := T0.lt; replace d0 := T0.dr 1 (by omega); rw [hg] at d0)
            | (at_builtin; refine wpList_append_own _ rfl _ _ 96 rfl (w.heap.size + 1) 3 i0 (.int .i64 0) 1 8 Try.underlying96 hi hz0 hz1 hz2 rfl (by decide) _ _ _ rfl (hown.alloc _) _ 1 1 [.int .i64 1] rfl rfl (one_new _ _ _) (fun x hx => by simp at hx; subst hx; rfl) (by unfold maxLen; omega) (by omega) (by simp; omega) ?_; intro v' w3 hown' hgrow3 hnil3))
          go_roundw
          case rel =>
            have hi' : Ints w3 (w.heap.size + 1) v' (openTo f g 2) := by
              unfold Ints ic at *
              rw [HS.out, List.length_append, List.map_append]
              exact hown'
            obtain ⟨a3, c3, e3⟩ := hi'.len
            have hb4 := Ints.grown (l := openTo f g 1) (hown.alloc _) ((Below.refl _ _).alloc (by omega) _) (by simp; omega) hgrow3
            have hT := T0.keep hb4 (by omega)
            have hb3 := hB.trans (hb4.mono (by omega))
            first
              | exact ⟨2, a3, c3, by omega, rfl, e3, hi', hT, hb3⟩
              | ((repeat apply Exists.intro); exact ⟨⟨2, a3, c3, by omega, rfl, e3, hi', hT, hb3⟩, rfl⟩)
              | ((repeat apply Exists.intro); exact ⟨⟨2, a3, c3, by omega, rfl, e3, hi', hT, hb3⟩, rfl, rfl⟩)
              | ((repeat apply Exists.intro); exact ⟨⟨2, a3, c3, by omega, rfl, e3, hi', hT, hb3⟩, rfl, rfl, rfl⟩)
          case measure => simp [intOf]
      · have HS : Hid (openTo f g 2 = openTo f g 1) := by show _ = _; rw [openTo_step, if_neg (by rw [Bool.and_eq_true]; rintro ⟨_, h⟩; exact hz (of_decide_eq_true h))]; simp
        have hx : leftP f 1 = 0 := by rw [L1.out]; omega
        clear hz
        cases hg : g 1 <;>
        · rw [hg] at d0
          go_wp2_with (first | (refine wpList_load_pool _ rfl ?_ _ rfl f g T0 ?_; · rfl) | (go_at_call 62; go_fit (C1 _); rintro e w' ⟨rfl, hb⟩; (try replace hb := below_undr' hb); replace hown := Ints.kept hown hb; replace T0 := T0.below hb; replace hB := hB.trans (hb.mono hB.size); replace hsize := hB.size; replace hlt := T0.lt; replace d0 := T0.dr 1 (by omega); rw [hg] at d0))
          go_roundw
          case rel =>
            first
              | exact ⟨2, ao, cv, by omega, rfl, by rw [HS.out], by rw [HS.out]; exact hown, T0, hB⟩
              | ((repeat apply Exists.intro); exact ⟨⟨2, ao, cv, by omega, rfl, by rw [HS.out], by rw [HS.out]; exact hown, T0, hB⟩, rfl⟩)
              | ((repeat apply Exists.intro); exact ⟨⟨2, ao, cv, by omega, rfl, by rw [HS.out], by rw [HS.out]; exact hown, T0, hB⟩, rfl, rfl⟩)
              | ((repeat apply Exists.intro); exact ⟨⟨2, ao, cv, by omega, rfl, by rw [HS.out], by rw [HS.out]; exact hown, T0, hB⟩, rfl, rfl, rfl⟩)
          case measure => simp [intOf]
    · have hol := openTo_len f g 2
      have d0 := T0.dr 2 (by omega)
      by_cases hz : 0 < (freeL (rowF f 2)).length
      · cases hg : g 2 with
        | true =>
          have HS : Hid (openTo f g 3 = openTo f g 2) := by show _ = _; rw [openTo_step, if_neg (by simp [hg])]; simp
          have hx : 0 < leftP f 2 := by rw [L2.out]; omega
          clear hz
          rw [hg] at d0
          go_wp2_with (first | (refine wpList_load_pool _ rfl ?_ _ rfl f g T0 ?_; · rfl) | (go_at_call 62; go_fit (C2 _); rintro e w' ⟨rfl, hb⟩; (try replace hb := below_undr' hb); replace hown := Ints.kept hown hb; replace T0 := T0.below hb; replace hB := hB.trans (hb.mono hB.size); replace hsize := hB.size; replace hlt := T0.lt; replace d0 := T0.dr 2 (by omega); rw [hg] at d0))
          go_roundw
          case rel =>
            first
              | exact ⟨3, ao, cv, by omega, rfl, by rw [HS.out], by rw [HS.out]; exact hown, T0, hB⟩
              | ((repeat apply Exists.intro); exact ⟨⟨3, ao, cv, by omega, rfl, by rw [HS.out], by rw [HS.out]; exact hown, T0, hB⟩, rfl⟩)
              | ((repeat apply Exists.intro); exact ⟨⟨3, ao, cv, by omega, rfl, by rw [HS.out], by rw [HS.out]; exact hown, T0, hB⟩, rfl, rfl⟩)
              | ((repeat apply Exists.intro); exact ⟨⟨3, ao, cv, by omega, rfl, by rw [HS.out], by rw [HS.out]; exact hown, T0, hB⟩, rfl, rfl, rfl⟩)
          case measure => simp [intOf]
        | false =>
          have HS : Hid (openTo f g 3 = openTo f g 2 ++ [2]) := by show _ = _; rw [openTo_step, if_pos (by simp [hg, hz])]
          have hx : 0 < leftP f 2 := by rw [L2.out]; omega
          clear hz
          rw [hg] at d0
          go_wp2_with (first
            | (refine wpList_load_pool _ rfl ?_ _ rfl f g T0 ?_; · rfl)
            | (go_at_call 62; go_fit (C2 _); rintro e w' ⟨rfl, hb⟩; (try replace hb := below_undr' hb); replace hown := Ints.kept hown hb; replace T0 := T0.below hb; replace hB := hB.trans (hb.mono hB.size); replace hsize := hB.size; replace hlt := T0.lt; replace d0 := T0.dr 2 (by omega); rw [hg] at d0)
            | (at_builtin; refine wpList_append_own _ rfl _ _ 96 rfl (w.heap.size + 1) 3 i0 (.int .i64 0) 1 8 Try.underlying96 hi hz0 hz1 hz2 rfl (by decide) _ _ _ rfl (hown.alloc _) _ 1 1 [.int .i64 2] rfl rfl (one_new _ _ _) (fun x hx => by simp at hx; subst hx; rfl) (by unfold maxLen; omega) (by omega) (by simp; omega) ?_; intro v' w3 hown' hgrow3 hnil3))
          go_roundw
          case rel =>
            have hi' : Ints w3 (w.heap.size + 1) v' (openTo f g 3) := by
              unfold Ints ic at *
              rw [HS.out, List.length_append, List.map_append]
              exact hown'
            obtain ⟨a3, c3, e3⟩ := hi'.len
            have hb4 := Ints.grown (l := openTo f g 2) (hown.alloc _) ((Below.refl _ _).alloc (by omega) _) (by simp; omega) hgrow3
            have hT := T0.keep hb4 (by omega)
            have hb3 := hB.trans (hb4.mono (by omega))
            first
              | exact ⟨3, a3, c3, by omega, rfl, e3, hi', hT, hb3⟩
              | ((repeat apply Exists.intro); exact ⟨⟨3, a3, c3, by omega, rfl, e3, hi', hT, hb3⟩, rfl⟩)
              | ((repeat apply Exists.intro); exact ⟨⟨3, a3, c3, by omega, rfl, e3, hi', hT, hb3⟩, rfl, rfl⟩)
              | ((repeat apply Exists.intro); exact ⟨⟨3, a3, c3, by omega, rfl, e3, hi', hT, hb3⟩, rfl, rfl, rfl⟩)
          case measure => simp [intOf]
      · have HS : Hid (openTo f g 3 = openTo f g 2) := by show _ = _; rw [openTo_step, if_neg (by rw [Bool.and_eq_true]; rintro ⟨_, h⟩; exact hz (of_decide_eq_true h))]; simp
        have hx : leftP f 2 = 0 := by rw [L2.out]; omega
        clear hz
        cases hg : g 2 <;>
        · rw [hg] at d0
          go_wp2_with (first | (refine wpList_load_pool _ rfl ?_ _ rfl f g T0 ?_; · rfl) | (go_at_call 62; go_fit (C2 _); rintro e w' ⟨rfl, hb⟩; (try replace hb := below_undr' hb); replace hown := Ints.kept hown hb; replace T0 := T0.below hb; replace hB := hB.trans (hb.mono hB.size); replace hsize := hB.size; replace hlt := T0.lt; replace d0 := T0.dr 2 (by omega); rw [hg] at d0))
          go_roundw
          case rel =>
            first
              | exact ⟨3, ao, cv, by omega, rfl, by rw [HS.out], by rw [HS.out]; exact hown, T0, hB⟩
              | ((repeat apply Exists.intro); exact ⟨⟨3, ao, cv, by omega, rfl, by rw [HS.out], by rw [HS.out]; exact hown, T0, hB⟩, rfl⟩)
              | ((repeat apply Exists.intro); exact ⟨⟨3, ao, cv, by omega, rfl, by rw [HS.out], by rw [HS.out]; exact hown, T0, hB⟩, rfl, rfl⟩)
              | ((repeat apply Exists.intro); exact ⟨⟨3, ao, cv, by omega, rfl, by rw [HS.out], by rw [HS.out]; exact hown, T0, hB⟩, rfl, rfl, rfl⟩)
          case measure => simp [intOf]
    · go_wp2
      go_ret
      exact ⟨_, rfl, ⟨_, _, rfl⟩, Ints.low hown (by omega), hB⟩

end Go.Proofs.Ytmdijjbkjcnbpaa
