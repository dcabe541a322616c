/-
  Of what BindCloses, BindOpens stands on: part 4.
-/
import Derived.Test.YtmdijjbkjcnbpaaBindCO1
namespace Go.Proofs.Ytmdijjbkjcnbpaa
open Go.ChangeShapes Go.WideShapes Go.ChangeAt Go.RowKit
set_option linter.unusedSimpArgs false
set_option linter.unusedVariables false
set_option maxHeartbeats 2000000 in
theorem goodr_any (f : Nat → Int) (g : Nat → Bool) (w : World) :
    Calls Try.prog 35 #[plv f g] w fun e w' => e = .returned (.bool (goodP f)) ∧ Below w.heap.size w w' := by
  have x0 : ∀ w : World, (Instr.index 23 (.agg #[.int .i64 (f 0), .int .i64 (f 1), .int .i64 (f 2), .int .i64 (f 3), .int .i64 (f 4), .int .i64 (f 5), .int .i64 (f 6), .int .i64 (f 7), .int .i64 (f 8), .int .i64 (f 9), .int .i64 (f 10), .int .i64 (f 11), .int .i64 (f 12), .int .i64 (f 13), .int .i64 (f 14), .int .i64 (f 15), .int .i64 (f 16), .int .i64 (f 17)]) (.int .i64 0)).run Try.prog w = .ok (.agg #[.int .i64 (f 0), .int .i64 (f 1), .int .i64 (f 2), .int .i64 (f 3), .int .i64 (f 4), .int .i64 (f 5)]) w := fun _ => by kernel_rfl
  have x1 : ∀ w : World, (Instr.index 23 (.agg #[.int .i64 (f 0), .int .i64 (f 1), .int .i64 (f 2), .int .i64 (f 3), .int .i64 (f 4), .int .i64 (f 5), .int .i64 (f 6), .int .i64 (f 7), .int .i64 (f 8), .int .i64 (f 9), .int .i64 (f 10), .int .i64 (f 11), .int .i64 (f 12), .int .i64 (f 13), .int .i64 (f 14), .int .i64 (f 15), .int .i64 (f 16), .int .i64 (f 17)]) (.int .i64 1)).run Try.prog w = .ok (.agg #[.int .i64 (f 6), .int .i64 (f 7), .int .i64 (f 8), .int .i64 (f 9), .int .i64 (f 10), .int .i64 (f 11)]) w := fun _ => by kernel_rfl
  have x2 : ∀ w : World, (Instr.index 23 (.agg #[.int .i64 (f 0), .int .i64 (f 1), .int .i64 (f 2), .int .i64 (f 3), .int .i64 (f 4), .int .i64 (f 5), .int .i64 (f 6), .int .i64 (f 7), .int .i64 (f 8), .int .i64 (f 9), .int .i64 (f 10), .int .i64 (f 11), .int .i64 (f 12), .int .i64 (f 13), .int .i64 (f 14), .int .i64 (f 15), .int .i64 (f 16), .int .i64 (f 17)]) (.int .i64 2)).run Try.prog w = .ok (.agg #[.int .i64 (f 12), .int .i64 (f 13), .int .i64 (f 14), .int .i64 (f 15), .int .i64 (f 16), .int .i64 (f 17)]) w := fun _ => by kernel_rfl
  have hB : Below w.heap.size w (w.alloc (.cells #[.int .i64 (f 0), .int .i64 (f 1), .int .i64 (f 2), .int .i64 (f 3), .int .i64 (f 4), .int .i64 (f 5), .int .i64 (f 6), .int .i64 (f 7), .int .i64 (f 8), .int .i64 (f 9), .int .i64 (f 10), .int .i64 (f 11), .int .i64 (f 12), .int .i64 (f 13), .int .i64 (f 14), .int .i64 (f 15), .int .i64 (f 16), .int .i64 (f 17), .bool (g 0), .bool (g 1), .bool (g 2)] 26)) := (Below.refl _ _).alloc (Nat.le_refl _) _
  unfold plv pc
  go_enter Try.func35, Try.ntmps35
  go_wp2
  go_loopw [9] (fun i W => ∃ k : Nat, k ≤ 3 ∧ i = .int .i64 k ∧ goodTo f (6 * k) ∧ Below w.heap.size w W) (fun i _ => 3 - (intOf i).toNat)
  case atStart => exact ⟨0, by omega, rfl, goodTo_zero f, hB⟩
  case round =>
    clear hB
    obtain ⟨k, hk, rfl, hg, hB⟩ := hrel
    rcases (show k = 0 ∨ k = 1 ∨ k = 2 ∨ k = 3 by omega) with rfl | rfl | rfl | rfl
    · have ix := fun j hj => index6 (fun k => f (k)) j hj
      try simp only [Nat.add_zero, Nat.zero_add, Nat.reduceAdd] at ix
      have hB' := hB.alloc hB.size (.cells #[.int .i64 (f 0), .int .i64 (f 1), .int .i64 (f 2), .int .i64 (f 3), .int .i64 (f 4), .int .i64 (f 5)] 22)
      go_wp2
      go_loop [13] (fun i => ∃ j : Nat, j ≤ 6 ∧ i = .int .i64 j ∧ goodTo f (j)) (fun i => 6 - (intOf i).toNat)
      case atStart => exact ⟨0, by omega, rfl, hg⟩
      case round =>
        obtain ⟨j, hj, rfl, hgj⟩ := hrel
        by_cases hlt : j < 6
        · have ij := ix j hlt
          by_cases h1 : f (j) < 0
          · have H : Hid (goodP f = false) := goodP_bad (j) (by omega) (.inl h1)
            go_wp2
            go_ret
            exact ⟨by rw [H.out]; rfl, hB'⟩
          · have h1' : 0 ≤ f (j) := by omega
            clear h1
            by_cases h2 : 8 < f (j)
            · have H : Hid (goodP f = false) := goodP_bad (j) (by omega) (.inr h2)
              go_wp2
              go_ret
              exact ⟨by rw [H.out]; rfl, hB'⟩
            · have h2' : f (j) ≤ 8 := by omega
              clear h2
              have HG : Hid (goodTo f ((j + 1))) := goodTo_step hgj h1' h2'
              go_wp2
              go_round
              case rel =>
                refine ⟨_, _, _, ⟨j + 1, by omega, ?_, HG.out⟩, rfl, rfl, rfl⟩
                go_num
              case measure => simp [intOf]; omega
        · have e : j = 6 := by omega
          subst e
          go_wp2
          go_roundw
          case rel => exact ⟨1, by omega, rfl, hgj, hB'⟩
          case measure => simp [intOf]
    · have ix := fun j hj => index6 (fun k => f (6 + k)) j hj
      try simp only [Nat.add_zero, Nat.zero_add, Nat.reduceAdd] at ix
      have hB' := hB.alloc hB.size (.cells #[.int .i64 (f 6), .int .i64 (f 7), .int .i64 (f 8), .int .i64 (f 9), .int .i64 (f 10), .int .i64 (f 11)] 22)
      go_wp2
      go_loop [13] (fun i => ∃ j : Nat, j ≤ 6 ∧ i = .int .i64 j ∧ goodTo f (6 + j)) (fun i => 6 - (intOf i).toNat)
      case atStart => exact ⟨0, by omega, rfl, hg⟩
      case round =>
        obtain ⟨j, hj, rfl, hgj⟩ := hrel
        by_cases hlt : j < 6
        · have ij := ix j hlt
          by_cases h1 : f (6 + j) < 0
          · have H : Hid (goodP f = false) := goodP_bad (6 + j) (by omega) (.inl h1)
            go_wp2
            go_ret
            exact ⟨by rw [H.out]; rfl, hB'⟩
          · have h1' : 0 ≤ f (6 + j) := by omega
            clear h1
            by_cases h2 : 8 < f (6 + j)
            · have H : Hid (goodP f = false) := goodP_bad (6 + j) (by omega) (.inr h2)
              go_wp2
              go_ret
              exact ⟨by rw [H.out]; rfl, hB'⟩
            · have h2' : f (6 + j) ≤ 8 := by omega
              clear h2
              have HG : Hid (goodTo f (6 + (j + 1))) := goodTo_step hgj h1' h2'
              go_wp2
              go_round
              case rel =>
                refine ⟨_, _, _, ⟨j + 1, by omega, ?_, HG.out⟩, rfl, rfl, rfl⟩
                go_num
              case measure => simp [intOf]; omega
        · have e : j = 6 := by omega
          subst e
          go_wp2
          go_roundw
          case rel => exact ⟨2, by omega, rfl, hgj, hB'⟩
          case measure => simp [intOf]
    · have ix := fun j hj => index6 (fun k => f (12 + k)) j hj
      try simp only [Nat.add_zero, Nat.zero_add, Nat.reduceAdd] at ix
      have hB' := hB.alloc hB.size (.cells #[.int .i64 (f 12), .int .i64 (f 13), .int .i64 (f 14), .int .i64 (f 15), .int .i64 (f 16), .int .i64 (f 17)] 22)
      go_wp2
      go_loop [13] (fun i => ∃ j : Nat, j ≤ 6 ∧ i = .int .i64 j ∧ goodTo f (12 + j)) (fun i => 6 - (intOf i).toNat)
      case atStart => exact ⟨0, by omega, rfl, hg⟩
      case round =>
        obtain ⟨j, hj, rfl, hgj⟩ := hrel
        by_cases hlt : j < 6
        · have ij := ix j hlt
          by_cases h1 : f (12 + j) < 0
          · have H : Hid (goodP f = false) := goodP_bad (12 + j) (by omega) (.inl h1)
            go_wp2
            go_ret
            exact ⟨by rw [H.out]; rfl, hB'⟩
          · have h1' : 0 ≤ f (12 + j) := by omega
            clear h1
            by_cases h2 : 8 < f (12 + j)
            · have H : Hid (goodP f = false) := goodP_bad (12 + j) (by omega) (.inr h2)
              go_wp2
              go_ret
              exact ⟨by rw [H.out]; rfl, hB'⟩
            · have h2' : f (12 + j) ≤ 8 := by omega
              clear h2
              have HG : Hid (goodTo f (12 + (j + 1))) := goodTo_step hgj h1' h2'
              go_wp2
              go_round
              case rel =>
                refine ⟨_, _, _, ⟨j + 1, by omega, ?_, HG.out⟩, rfl, rfl, rfl⟩
                go_num
              case measure => simp [intOf]; omega
        · have e : j = 6 := by omega
          subst e
          go_wp2
          go_roundw
          case rel => exact ⟨3, by omega, rfl, hgj, hB'⟩
          case measure => simp [intOf]
    · have H : Hid (goodP f = true) := goodP_true hg
      go_wp2
      go_ret
      exact ⟨by rw [H.out]; rfl, hB⟩
end Go.Proofs.Ytmdijjbkjcnbpaa
