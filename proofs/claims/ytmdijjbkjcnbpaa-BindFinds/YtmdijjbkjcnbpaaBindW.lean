/-
  The small walks of bind: Block, placeOf, innerOf, outerOf, what is a protocol, a subscriber, a word.
-/
import Derived.Test.YtmdijjbkjcnbpaaBindE
namespace Go.Proofs.Ytmdijjbkjcnbpaa
open Go.ChangeShapes Go.WideShapes Go.ChangeAt Go.RowKit
set_option linter.unusedSimpArgs false
set_option linter.unusedVariables false

theorem firstPort_any (k : Int) (h0 : 0 ≤ k) (h1 : k ≤ 6) (w : World) : Calls Try.prog 29 #[.int .i64 k] w fun e w' => e = .returned (.int .i64 (1024 + k * 8)) ∧ w' = w := by
  have e1 : wrap64 (k * 8) = k * 8 := by unfold wrap64; omega
  have e2 : wrap64 (1024 + k * 8) = 1024 + k * 8 := by unfold wrap64; omega
  go_enter Try.func29, Try.ntmps29
  go_wp2
  go_ret
  exact ⟨rfl, rfl⟩
/-- Block: which block, which port of it, whether there is one. -/
def blkS (q : Int) : Value := if 1024 ≤ q ∧ q < 1072 then .tuple #[.int .i64 ((q - 1024) / 8), .int .i64 ((q - 1024) % 8), .bool true] else .tuple #[.int .i64 0, .int .i64 0, .bool false]
set_option maxHeartbeats 1000000 in
theorem block_any (q : Int) (w : World) : Calls Try.prog 12 #[.int .i64 q] w fun e w' => e = .returned (blkS q) ∧ w' = w := by
  have C := fun w => firstPort_any 6 (by omega) (by omega) w
  by_cases h0 : 1024 ≤ q
  · by_cases h1 : q < 1072
    · have HS : Hid (blkS q = _) := if_pos ⟨h0, h1⟩
      have e1 : wrap64 (q - 1024) = q - 1024 := by unfold wrap64; omega
      have e2 : (q - 1024).tdiv 8 = (q - 1024) / 8 := Int.tdiv_eq_ediv_of_nonneg (by omega)
      have e3 : (q - 1024).tmod 8 = (q - 1024) % 8 := Int.tmod_eq_emod_of_nonneg (by omega)
      have e4 : wrap64 ((q - 1024) / 8) = (q - 1024) / 8 := by unfold wrap64; omega
      have h1' : q < 1024 + 6 * 8 := by omega
      go_enter Try.func12, Try.ntmps12
      go_wp2_with (go_at_call 29; go_fit (C _); rintro e w' ⟨rfl, hw⟩; rw [hw]; clear hw w')
      go_ret3
      exact ⟨by rw [HS.out]; rfl, rfl⟩
    · have HS : Hid (blkS q = _) := if_neg (fun h => h1 h.2)
      have h1' : 1024 + 6 * 8 ≤ q := by omega
      go_enter Try.func12, Try.ntmps12
      go_wp2_with (go_at_call 29; go_fit (C _); rintro e w' ⟨rfl, hw⟩; rw [hw]; clear hw w')
      go_ret3
      exact ⟨by rw [HS.out]; rfl, rfl⟩
  · have HS : Hid (blkS q = _) := if_neg (fun h => h0 h.1)
    go_enter Try.func12, Try.ntmps12
    go_wp2
    go_ret3
    exact ⟨by rw [HS.out]; rfl, rfl⟩
theorem isProtocol_any (p : Int) (w : World) : Calls Try.prog 37 #[.int .i64 p] w fun e w' => e = .returned (.bool (isP p)) ∧ w' = w := by
  by_cases h1 : p = 1
  · have HS : Hid (isP p = true) := (isP_iff p).2 (.inl h1)
    have e1 : (p == 1) = true := by simp [h1]
    clear h1
    go_enter Try.func37, Try.ntmps37
    go_wp2
    go_ret
    exact ⟨by rw [HS.out]; rfl, rfl⟩
  · have e1 : (p == 1) = false := by simp [h1]
    by_cases h6 : p = 6
    · have HS : Hid (isP p = true) := (isP_iff p).2 (.inr (.inl h6))
      have e6 : (p == 6) = true := by simp [h6]
      clear h1 h6
      go_enter Try.func37, Try.ntmps37
      go_wp2
      go_ret
      exact ⟨by rw [HS.out]; rfl, rfl⟩
    · have e6 : (p == 6) = false := by simp [h6]
      by_cases h17 : p = 17
      · have HS : Hid (isP p = true) := (isP_iff p).2 (.inr (.inr h17))
        have e17 : (p == 17) = true := by simp [h17]
        clear h1 h6 h17
        go_enter Try.func37, Try.ntmps37
        go_wp2
        go_ret
        exact ⟨by rw [HS.out]; rfl, rfl⟩
      · have HS : Hid (isP p = false) := by
          show _ = _
          rw [Bool.eq_false_iff]; intro h; rcases (isP_iff p).1 h with h | h | h <;> contradiction
        have e17 : (p == 17) = false := by simp [h17]
        clear h1 h6 h17
        go_enter Try.func37, Try.ntmps37
        go_wp2
        go_ret
        exact ⟨by rw [HS.out]; rfl, rfl⟩
theorem isSub_any (s : Int) (w : World) : Calls Try.prog 38 #[.int .i64 s] w fun e w' => e = .returned (.bool (decide (0 ≤ s) && decide (s < 8))) ∧ w' = w := by
  go_enter Try.func38, Try.ntmps38
  by_cases h0 : 0 ≤ s
  · by_cases h1 : s < 8
    · go_wp2
      go_ret
      exact ⟨by simp [h0, h1], rfl⟩
    · go_wp2
      go_ret
      exact ⟨by simp [h0, h1], rfl⟩
  · go_wp2
    go_ret
    exact ⟨by rw [decide_eq_false (show ¬ 0 ≤ s by omega)]; rfl, rfl⟩
theorem isWord_any (s : Int) (w : World) : Calls Try.prog 39 #[.int .i64 s] w fun e w' => e = .returned (.bool (decide (0 ≤ s) && decide (s ≤ 65535))) ∧ w' = w := by
  go_enter Try.func39, Try.ntmps39
  by_cases h0 : 0 ≤ s
  · by_cases h1 : s ≤ 65535
    · go_wp2
      go_ret
      exact ⟨by simp [h0, h1], rfl⟩
    · go_wp2
      go_ret
      exact ⟨by simp [h0, h1], rfl⟩
  · go_wp2
    go_ret
    exact ⟨by rw [decide_eq_false (show ¬ 0 ≤ s by omega)]; rfl, rfl⟩
section
variable {w : World} {b : Nat} {m : Mp}
theorem m0 (h : Row 32 w b (mc m)) : w.cell? ⟨b, 0, none⟩ = some (.int .i64 m.1) := h.cell 0
theorem m1 (h : Row 32 w b (mc m)) : w.cell? ⟨b, 1, none⟩ = some (.int .i64 m.2.1) := h.cell 1
theorem m2 (h : Row 32 w b (mc m)) : w.cell? ⟨b, 2, none⟩ = some (.int .i64 m.2.2.1) := h.cell 2
theorem m3 (h : Row 32 w b (mc m)) : w.cell? ⟨b, 3, none⟩ = some (.int .i64 m.2.2.2.1) := h.cell 3
theorem m4 (h : Row 32 w b (mc m)) : w.cell? ⟨b, 4, none⟩ = some (.int .i64 m.2.2.2.2) := h.cell 4
end
def ic3 (a b c : Int) : Array Value := #[.int .i64 a, .int .i64 b, .int .i64 c]
def ic2 (a b : Int) : Array Value := #[.int .i64 a, .int .i64 b]
theorem inner_zero (w : World) : (zeroValue 58).run Try.prog w = .ok (.agg (ic3 0 0 0)) w := by kernel_rfl
theorem outer_zero (w : World) : (zeroValue 61).run Try.prog w = .ok (.agg (ic3 0 0 0)) w := by kernel_rfl
theorem place_zero (w : World) : (zeroValue 67).run Try.prog w = .ok (.agg (ic2 0 0)) w := by kernel_rfl
set_option maxHeartbeats 1000000 in
theorem innerOf_any (m : Mp) (w : World) : Calls Try.prog 27 #[.agg (mc m)] w fun e w' => e = .returned (.agg (ic3 m.1 m.2.1 m.2.2.1)) ∧ Below w.heap.size w w' := by
  have hB := Below.refl w.heap.size w
  go_enter Try.func27, Try.ntmps27
  go_wp2_with (first
    | (refine wpList_boxR 32 rfl _ rfl _ rfl ?_; intro b1 w1 l1 R1 hb1; replace l1 := Nat.le_trans hB.size l1; have c0 := m0 R1; have c1 := m1 R1; have c2 := m2 R1; replace hB := hB.trans (hb1.mono hB.size))
    | (refine wpList_allocR 58 rfl rfl _ inner_zero ?_; intro b2 w2 l2 R2 hb2; replace l2 := Nat.le_trans hB.size l2; replace R1 := R1.below hb2; replace c0 := m0 R1; replace c1 := m1 R1; replace c2 := m2 R1; replace hB := hB.trans (hb2.mono hB.size))
    | (refine wpList_storeR 58 rfl _ _ rfl _ rfl (ic3 m.1 m.2.1 m.2.2.1) rfl _ R2 rfl (by kernel_rfl) (by kernel_rfl) ?_; intro w3 R3 t3; replace hB := t3.below _ _ l2 hB))
  (try simp only [Exit.inBlock, Exit.then])
  refine bodyPost_ret (results_row1 rfl _ _ _ _ rfl R3 _ Try.underlying58 rfl (by kernel_rfl)) rfl ⟨rfl, hB⟩
set_option maxHeartbeats 1000000 in
theorem outerOf_any (m : Mp) (w : World) : Calls Try.prog 28 #[.agg (mc m)] w fun e w' => e = .returned (.agg (ic3 m.1 m.2.2.2.1 m.2.2.2.2)) ∧ Below w.heap.size w w' := by
  have hB := Below.refl w.heap.size w
  go_enter Try.func28, Try.ntmps28
  go_wp2_with (first
    | (refine wpList_boxR 32 rfl _ rfl _ rfl ?_; intro b1 w1 l1 R1 hb1; replace l1 := Nat.le_trans hB.size l1; have c0 := m0 R1; have c3 := m3 R1; have c4 := m4 R1; replace hB := hB.trans (hb1.mono hB.size))
    | (refine wpList_allocR 61 rfl rfl _ outer_zero ?_; intro b2 w2 l2 R2 hb2; replace l2 := Nat.le_trans hB.size l2; replace R1 := R1.below hb2; replace c0 := m0 R1; replace c3 := m3 R1; replace c4 := m4 R1; replace hB := hB.trans (hb2.mono hB.size))
    | (refine wpList_storeR 61 rfl _ _ rfl _ rfl (ic3 m.1 m.2.2.2.1 m.2.2.2.2) rfl _ R2 rfl (by kernel_rfl) (by kernel_rfl) ?_; intro w3 R3 t3; replace hB := t3.below _ _ l2 hB))
  (try simp only [Exit.inBlock, Exit.then])
  refine bodyPost_ret (results_row1 rfl _ _ _ _ rfl R3 _ Try.underlying61 rfl (by kernel_rfl)) rfl ⟨rfl, hB⟩
/-- placeOf: the block that a map's port lies in, if there is one. -/
def inP (m : Mp) : Bool := decide ((1024 ≤ m.2.2.2.2 ∧ m.2.2.2.2 < 1072) ∧ 0 ≤ m.2.2.2.1 ∧ m.2.2.2.1 < 3)
def plA (m : Mp) : Int := if inP m = true then m.2.2.2.1 else 0
def plB (m : Mp) : Int := if inP m = true then (m.2.2.2.2 - 1024) / 8 else 0
set_option maxHeartbeats 2000000 in
theorem placeOf_any (m : Mp) (w : World) : Calls Try.prog 33 #[.agg (mc m)] w fun e w' => e = .returned (.tuple #[.agg (ic2 (plA m) (plB m)), .bool (inP m)]) ∧ Below w.heap.size w w' := by
  have hB := Below.refl w.heap.size w
  have C := fun w => block_any m.2.2.2.2 w
  by_cases hq : 1024 ≤ m.2.2.2.2 ∧ m.2.2.2.2 < 1072
  · have HS : blkS m.2.2.2.2 = _ := if_pos hq
    rw [HS] at C
    by_cases ha : 0 ≤ m.2.2.2.1
    · by_cases hb : m.2.2.2.1 < 3
      · have hI : Hid (inP m = true) := decide_eq_true ⟨hq, ha, hb⟩
        have hA : Hid (plA m = m.2.2.2.1) := if_pos hI.out
        have hQ : Hid (plB m = (m.2.2.2.2 - 1024) / 8) := if_pos hI.out
        go_enter Try.func33, Try.ntmps33
        go_wp2_with (first
          | (refine wpList_boxR 32 rfl _ rfl _ rfl ?_; intro b1 w1 l1 R1 hb1; replace l1 := Nat.le_trans hB.size l1; have c3 := m3 R1; have c4 := m4 R1; replace hB := hB.trans (hb1.mono hB.size))
          | (refine wpList_allocR 67 rfl rfl _ place_zero ?_; intro b2 w2 l2 R2 hb2; replace l2 := Nat.le_trans hB.size l2; replace R1 := R1.below hb2; replace c3 := m3 R1; replace c4 := m4 R1; replace hB := hB.trans (hb2.mono hB.size))
          | (go_at_call 12; go_fit (C _); rintro e w' ⟨rfl, hw⟩; rw [hw]; clear hw w')
          | (refine wpList_storeR 67 rfl _ _ rfl _ rfl (ic2 m.2.2.2.1 ((m.2.2.2.2 - 1024) / 8)) rfl _ R2 rfl (by kernel_rfl) (by kernel_rfl) ?_; intro w3 R3 t3; replace hB := t3.below _ _ l2 hB))
        (try simp only [Exit.inBlock, Exit.then])
        refine bodyPost_ret (results_row2 rfl _ _ _ _ rfl R3 _ Try.underlying67 rfl (by kernel_rfl)) rfl ⟨?_, hB⟩
        rw [hI.out, hA.out, hQ.out]; rfl
      · have hI : Hid (inP m = false) := decide_eq_false (fun h => hb h.2.2)
        have hA : Hid (plA m = 0) := if_neg (by rw [hI.out]; simp)
        have hQ : Hid (plB m = 0) := if_neg (by rw [hI.out]; simp)
        go_enter Try.func33, Try.ntmps33
        go_wp2_with (first
          | (refine wpList_boxR 32 rfl _ rfl _ rfl ?_; intro b1 w1 l1 R1 hb1; replace l1 := Nat.le_trans hB.size l1; have c3 := m3 R1; have c4 := m4 R1; replace hB := hB.trans (hb1.mono hB.size))
          | (refine wpList_allocR 67 rfl rfl _ place_zero ?_; intro b2 w2 l2 R2 hb2; replace l2 := Nat.le_trans hB.size l2; replace R1 := R1.below hb2; replace c3 := m3 R1; replace c4 := m4 R1; replace hB := hB.trans (hb2.mono hB.size))
          | (go_at_call 12; go_fit (C _); rintro e w' ⟨rfl, hw⟩; rw [hw]; clear hw w')
          | (refine wpList_storeR 67 rfl _ _ rfl _ rfl (ic2 0 0) rfl _ R2 rfl (by kernel_rfl) (by kernel_rfl) ?_; intro w3 R3 t3; replace hB := t3.below _ _ l2 hB))
        (try simp only [Exit.inBlock, Exit.then])
        refine bodyPost_ret (results_row2 rfl _ _ _ _ rfl R3 _ Try.underlying67 rfl (by kernel_rfl)) rfl ⟨?_, hB⟩
        rw [hI.out, hA.out, hQ.out]; rfl
    · have hI : Hid (inP m = false) := decide_eq_false (fun h => ha h.2.1)
      have hA : Hid (plA m = 0) := if_neg (by rw [hI.out]; simp)
      have hQ : Hid (plB m = 0) := if_neg (by rw [hI.out]; simp)
      go_enter Try.func33, Try.ntmps33
      go_wp2_with (first
        | (refine wpList_boxR 32 rfl _ rfl _ rfl ?_; intro b1 w1 l1 R1 hb1; replace l1 := Nat.le_trans hB.size l1; have c3 := m3 R1; have c4 := m4 R1; replace hB := hB.trans (hb1.mono hB.size))
          | (refine wpList_allocR 67 rfl rfl _ place_zero ?_; intro b2 w2 l2 R2 hb2; replace l2 := Nat.le_trans hB.size l2; replace R1 := R1.below hb2; replace c3 := m3 R1; replace c4 := m4 R1; replace hB := hB.trans (hb2.mono hB.size))
          | (go_at_call 12; go_fit (C _); rintro e w' ⟨rfl, hw⟩; rw [hw]; clear hw w')
        | (refine wpList_storeR 67 rfl _ _ rfl _ rfl (ic2 0 0) rfl _ R2 rfl (by kernel_rfl) (by kernel_rfl) ?_; intro w3 R3 t3; replace hB := t3.below _ _ l2 hB))
      (try simp only [Exit.inBlock, Exit.then])
      refine bodyPost_ret (results_row2 rfl _ _ _ _ rfl R3 _ Try.underlying67 rfl (by kernel_rfl)) rfl ⟨?_, hB⟩
      rw [hI.out, hA.out, hQ.out]; rfl
  · have HS : blkS m.2.2.2.2 = _ := if_neg hq
    rw [HS] at C
    have hI : Hid (inP m = false) := decide_eq_false (fun h => hq h.1)
    have hA : Hid (plA m = 0) := if_neg (by rw [hI.out]; simp)
    have hQ : Hid (plB m = 0) := if_neg (by rw [hI.out]; simp)
    go_enter Try.func33, Try.ntmps33
    go_wp2_with (first
      | (refine wpList_boxR 32 rfl _ rfl _ rfl ?_; intro b1 w1 l1 R1 hb1; replace l1 := Nat.le_trans hB.size l1; have c3 := m3 R1; have c4 := m4 R1; replace hB := hB.trans (hb1.mono hB.size))
          | (refine wpList_allocR 67 rfl rfl _ place_zero ?_; intro b2 w2 l2 R2 hb2; replace l2 := Nat.le_trans hB.size l2; replace R1 := R1.below hb2; replace c3 := m3 R1; replace c4 := m4 R1; replace hB := hB.trans (hb2.mono hB.size))
          | (go_at_call 12; go_fit (C _); rintro e w' ⟨rfl, hw⟩; rw [hw]; clear hw w')
      | (refine wpList_storeR 67 rfl _ _ rfl _ rfl (ic2 0 0) rfl _ R2 rfl (by kernel_rfl) (by kernel_rfl) ?_; intro w3 R3 t3; replace hB := t3.below _ _ l2 hB))
    (try simp only [Exit.inBlock, Exit.then])
    refine bodyPost_ret (results_row2 rfl _ _ _ _ rfl R3 _ Try.underlying67 rfl (by kernel_rfl)) rfl ⟨?_, hB⟩
    rw [hI.out, hA.out, hQ.out]; rfl
end Go.Proofs.Ytmdijjbkjcnbpaa
