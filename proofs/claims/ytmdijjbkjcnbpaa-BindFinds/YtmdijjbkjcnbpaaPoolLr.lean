/-
  The walks of the document: the blocks of an address that nobody has.
-/
import Derived.Test.YtmdijjbkjcnbpaaPoolL
namespace Go.Proofs.Ytmdijjbkjcnbpaa
open Go.ChangeShapes Go.WideShapes Go.ChangeAt Go.RowKit
set_option linter.unusedSimpArgs false
set_option linter.unusedVariables false

set_option maxRecDepth 10000 in
set_option maxHeartbeats 2000000 in
theorem freer_any (f : Nat → Int) (g : Nat → Bool) (a : Nat) (ha : a < 3) (w : World) :
    Calls Try.prog 53 #[plv f g, .int .i64 (a : Int)] w fun e w' => ∃ v, e = .returned v ∧ (∃ a1 c1, v = .slice a1 (freeL (rowF f a)).length c1) ∧ Ints w' w.heap.size v (freeL (rowF f a)) ∧ Below w.heap.size w w' := by
  obtain ⟨i0, hi, hz0, hz1, hz2⟩ := info_parts info_int
  have hB0 : Below w.heap.size w (w.alloc (.cells #[.int .i64 (f 0), .int .i64 (f 1), .int .i64 (f 2), .int .i64 (f 3), .int .i64 (f 4), .int .i64 (f 5), .int .i64 (f 6), .int .i64 (f 7), .int .i64 (f 8), .int .i64 (f 9), .int .i64 (f 10), .int .i64 (f 11), .int .i64 (f 12), .int .i64 (f 13), .int .i64 (f 14), .int .i64 (f 15), .int .i64 (f 16), .int .i64 (f 17), .bool (g 0), .bool (g 1), .bool (g 2)] 26)) := (Below.refl _ _).alloc (Nat.le_refl _) _

  unfold plv pc
  rcases (show a = 0 ∨ a = 1 ∨ a = 2 by omega) with rfl | rfl | rfl
  · go_enter Try.func53, Try.ntmps53
    go_wp2
    go_loopw [5, 18] (fun v i wr => ∃ (k : Nat) (ao : Option Addr) (cv : Nat), k ≤ 6 ∧ i = .int .i64 k ∧ v = .slice ao (freeTo (rowF f 0) k).length cv ∧ Ints wr w.heap.size v (freeTo (rowF f 0) k) ∧ Below w.heap.size w wr) (fun _ i _ => 6 - (intOf i).toNat)
    case atStart => exact ⟨0, none, 0, by omega, rfl, rfl, Ints.nil _ _, hB0⟩
    case round =>
      clear hB0
      obtain ⟨k, ao, cv, hk, rfl, rfl, hown, hB⟩ := hrel
      have hsize := hB.size
      have hfl := freeTo_len (rowF f 0) k
      by_cases hlt : k < 6
      · have ik : ∀ w, (Instr.index 22 (.agg #[.int .i64 (f 0), .int .i64 (f 1), .int .i64 (f 2), .int .i64 (f 3), .int .i64 (f 4), .int .i64 (f 5)]) (.int .i64 (k : Int))).run Try.prog w = .ok (.int .i64 (rowF f 0 k)) w := fun w => index6 (rowF f 0) k hlt w
        by_cases hz : rowF f 0 k = 0
        · have dz : (rowF f 0 k == 0) = true := by simpa using hz
          have HS : Hid (freeTo (rowF f 0) (k + 1) = freeTo (rowF f 0) k ++ [k]) := by show _ = _; rw [freeTo_step, if_pos dz]
          clear hz
          go_wp2_with (at_builtin; refine wpList_append_own _ rfl _ _ 96 rfl w.heap.size 3 i0 (.int .i64 0) 1 8 Try.underlying96 hi hz0 hz1 hz2 rfl (by decide) _ _ _ rfl (hown.alloc _) ⟨wr.heap.size, 0, none⟩ 1 1 [.int .i64 (k : Int)] rfl rfl (one_new _ _ _) (fun x hx => by simp at hx; subst hx; rfl) (by unfold maxLen; omega) (by omega) (by simp; omega) ?_; intro v' w3 hown' hgrow3 hnil3)
          go_roundw
          case rel =>
            have hi' : Ints w3 w.heap.size v' (freeTo (rowF f 0) (k + 1)) := by
              unfold Ints ic at *
              rw [HS.out, List.length_append, List.map_append]
              exact hown'
            obtain ⟨a3, c3, e3⟩ := hi'.len
            have hb3 : Below w.heap.size w w3 := Ints.grown (l := freeTo (rowF f 0) k) (hown.alloc _) (hB.alloc hB.size _) (by simp; omega) hgrow3
            first
              | exact ⟨k + 1, a3, c3, by omega, by go_num, e3, hi', hb3⟩
              | ((repeat apply Exists.intro); exact ⟨⟨k + 1, a3, c3, by omega, by go_num, e3, hi', hb3⟩, rfl⟩)
              | ((repeat apply Exists.intro); exact ⟨⟨k + 1, a3, c3, by omega, by go_num, e3, hi', hb3⟩, rfl, rfl⟩)
          case measure => simp [intOf]; omega
        · have dz : (rowF f 0 k == 0) = false := by simpa using hz
          have HS : Hid (freeTo (rowF f 0) (k + 1) = freeTo (rowF f 0) k) := by show _ = _; rw [freeTo_step, if_neg (by simp [dz])]; simp
          clear hz
          go_wp2
          go_roundw
          case rel =>
            first
              | exact ⟨k + 1, ao, cv, by omega, by go_num, by rw [HS.out], by rw [HS.out]; exact hown, hB⟩
              | ((repeat apply Exists.intro); exact ⟨⟨k + 1, ao, cv, by omega, by go_num, by rw [HS.out], by rw [HS.out]; exact hown, hB⟩, rfl⟩)
              | ((repeat apply Exists.intro); exact ⟨⟨k + 1, ao, cv, by omega, by go_num, by rw [HS.out], by rw [HS.out]; exact hown, hB⟩, rfl, rfl⟩)
          case measure => simp [intOf]; omega
      · have e : k = 6 := by omega
        subst e
        go_wp2
        go_ret
        exact ⟨_, rfl, ⟨_, _, rfl⟩, hown, hB⟩
  · go_enter Try.func53, Try.ntmps53
    go_wp2
    go_loopw [5, 18] (fun v i wr => ∃ (k : Nat) (ao : Option Addr) (cv : Nat), k ≤ 6 ∧ i = .int .i64 k ∧ v = .slice ao (freeTo (rowF f 1) k).length cv ∧ Ints wr w.heap.size v (freeTo (rowF f 1) k) ∧ Below w.heap.size w wr) (fun _ i _ => 6 - (intOf i).toNat)
    case atStart => exact ⟨0, none, 0, by omega, rfl, rfl, Ints.nil _ _, hB0⟩
    case round =>
      clear hB0
      obtain ⟨k, ao, cv, hk, rfl, rfl, hown, hB⟩ := hrel
      have hsize := hB.size
      have hfl := freeTo_len (rowF f 1) k
      by_cases hlt : k < 6
      · have ik : ∀ w, (Instr.index 22 (.agg #[.int .i64 (f 6), .int .i64 (f 7), .int .i64 (f 8), .int .i64 (f 9), .int .i64 (f 10), .int .i64 (f 11)]) (.int .i64 (k : Int))).run Try.prog w = .ok (.int .i64 (rowF f 1 k)) w := fun w => index6 (rowF f 1) k hlt w
        by_cases hz : rowF f 1 k = 0
        · have dz : (rowF f 1 k == 0) = true := by simpa using hz
          have HS : Hid (freeTo (rowF f 1) (k + 1) = freeTo (rowF f 1) k ++ [k]) := by show _ = _; rw [freeTo_step, if_pos dz]
          clear hz
          go_wp2_with (at_builtin; refine wpList_append_own _ rfl _ _ 96 rfl w.heap.size 3 i0 (.int .i64 0) 1 8 Try.underlying96 hi hz0 hz1 hz2 rfl (by decide) _ _ _ rfl (hown.alloc _) ⟨wr.heap.size, 0, none⟩ 1 1 [.int .i64 (k : Int)] rfl rfl (one_new _ _ _) (fun x hx => by simp at hx; subst hx; rfl) (by unfold maxLen; omega) (by omega) (by simp; omega) ?_; intro v' w3 hown' hgrow3 hnil3)
          go_roundw
          case rel =>
            have hi' : Ints w3 w.heap.size v' (freeTo (rowF f 1) (k + 1)) := by
              unfold Ints ic at *
              rw [HS.out, List.length_append, List.map_append]
              exact hown'
            obtain ⟨a3, c3, e3⟩ := hi'.len
            have hb3 : Below w.heap.size w w3 := Ints.grown (l := freeTo (rowF f 1) k) (hown.alloc _) (hB.alloc hB.size _) (by simp; omega) hgrow3
            first
              | exact ⟨k + 1, a3, c3, by omega, by go_num, e3, hi', hb3⟩
              | ((repeat apply Exists.intro); exact ⟨⟨k + 1, a3, c3, by omega, by go_num, e3, hi', hb3⟩, rfl⟩)
              | ((repeat apply Exists.intro); exact ⟨⟨k + 1, a3, c3, by omega, by go_num, e3, hi', hb3⟩, rfl, rfl⟩)
          case measure => simp [intOf]; omega
        · have dz : (rowF f 1 k == 0) = false := by simpa using hz
          have HS : Hid (freeTo (rowF f 1) (k + 1) = freeTo (rowF f 1) k) := by show _ = _; rw [freeTo_step, if_neg (by simp [dz])]; simp
          clear hz
          go_wp2
          go_roundw
          case rel =>
            first
              | exact ⟨k + 1, ao, cv, by omega, by go_num, by rw [HS.out], by rw [HS.out]; exact hown, hB⟩
              | ((repeat apply Exists.intro); exact ⟨⟨k + 1, ao, cv, by omega, by go_num, by rw [HS.out], by rw [HS.out]; exact hown, hB⟩, rfl⟩)
              | ((repeat apply Exists.intro); exact ⟨⟨k + 1, ao, cv, by omega, by go_num, by rw [HS.out], by rw [HS.out]; exact hown, hB⟩, rfl, rfl⟩)
          case measure => simp [intOf]; omega
      · have e : k = 6 := by omega
        subst e
        go_wp2
        go_ret
        exact ⟨_, rfl, ⟨_, _, rfl⟩, hown, hB⟩
  · go_enter Try.func53, Try.ntmps53
    go_wp2
    go_loopw [5, 18] (fun v i wr => ∃ (k : Nat) (ao : Option Addr) (cv : Nat), k ≤ 6 ∧ i = .int .i64 k ∧ v = .slice ao (freeTo (rowF f 2) k).length cv ∧ Ints wr w.heap.size v (freeTo (rowF f 2) k) ∧ Below w.heap.size w wr) (fun _ i _ => 6 - (intOf i).toNat)
    case atStart => exact ⟨0, none, 0, by omega, rfl, rfl, Ints.nil _ _, hB0⟩
    case round =>
      clear hB0
      obtain ⟨k, ao, cv, hk, rfl, rfl, hown, hB⟩ := hrel
      have hsize := hB.size
      have hfl := freeTo_len (rowF f 2) k
      by_cases hlt : k < 6
      · have ik : ∀ w, (Instr.index 22 (.agg #[.int .i64 (f 12), .int .i64 (f 13), .int .i64 (f 14), .int .i64 (f 15), .int .i64 (f 16), .int .i64 (f 17)]) (.int .i64 (k : Int))).run Try.prog w = .ok (.int .i64 (rowF f 2 k)) w := fun w => index6 (rowF f 2) k hlt w
        by_cases hz : rowF f 2 k = 0
        · have dz : (rowF f 2 k == 0) = true := by simpa using hz
          have HS : Hid (freeTo (rowF f 2) (k + 1) = freeTo (rowF f 2) k ++ [k]) := by show _ = _; rw [freeTo_step, if_pos dz]
          clear hz
          go_wp2_with (at_builtin; refine wpList_append_own _ rfl _ _ 96 rfl w.heap.size 3 i0 (.int .i64 0) 1 8 Try.underlying96 hi hz0 hz1 hz2 rfl (by decide) _ _ _ rfl (hown.alloc _) ⟨wr.heap.size, 0, none⟩ 1 1 [.int .i64 (k : Int)] rfl rfl (one_new _ _ _) (fun x hx => by simp at hx; subst hx; rfl) (by unfold maxLen; omega) (by omega) (by simp; omega) ?_; intro v' w3 hown' hgrow3 hnil3)
          go_roundw
          case rel =>
            have hi' : Ints w3 w.heap.size v' (freeTo (rowF f 2) (k + 1)) := by
              unfold Ints ic at *
              rw [HS.out, List.length_append, List.map_append]
              exact hown'
            obtain ⟨a3, c3, e3⟩ := hi'.len
            have hb3 : Below w.heap.size w w3 := Ints.grown (l := freeTo (rowF f 2) k) (hown.alloc _) (hB.alloc hB.size _) (by simp; omega) hgrow3
            first
              | exact ⟨k + 1, a3, c3, by omega, by go_num, e3, hi', hb3⟩
              | ((repeat apply Exists.intro); exact ⟨⟨k + 1, a3, c3, by omega, by go_num, e3, hi', hb3⟩, rfl⟩)
              | ((repeat apply Exists.intro); exact ⟨⟨k + 1, a3, c3, by omega, by go_num, e3, hi', hb3⟩, rfl, rfl⟩)
          case measure => simp [intOf]; omega
        · have dz : (rowF f 2 k == 0) = false := by simpa using hz
          have HS : Hid (freeTo (rowF f 2) (k + 1) = freeTo (rowF f 2) k) := by show _ = _; rw [freeTo_step, if_neg (by simp [dz])]; simp
          clear hz
          go_wp2
          go_roundw
          case rel =>
            first
              | exact ⟨k + 1, ao, cv, by omega, by go_num, by rw [HS.out], by rw [HS.out]; exact hown, hB⟩
              | ((repeat apply Exists.intro); exact ⟨⟨k + 1, ao, cv, by omega, by go_num, by rw [HS.out], by rw [HS.out]; exact hown, hB⟩, rfl⟩)
              | ((repeat apply Exists.intro); exact ⟨⟨k + 1, ao, cv, by omega, by go_num, by rw [HS.out], by rw [HS.out]; exact hown, hB⟩, rfl, rfl⟩)
          case measure => simp [intOf]; omega
      · have e : k = 6 := by omega
        subst e
        go_wp2
        go_ret
        exact ⟨_, rfl, ⟨_, _, rfl⟩, hown, hB⟩

theorem freer_out (f : Nat → Int) (g : Nat → Bool) (a : Int) (ha : a < 0 ∨ 3 ≤ a) (w : World) :
    Calls Try.prog 53 #[plv f g, .int .i64 a] w fun e w' => e = .returned (.slice none 0 0) ∧ Below w.heap.size w w' := by
  have hB : Below w.heap.size w (w.alloc (.cells #[.int .i64 (f 0), .int .i64 (f 1), .int .i64 (f 2), .int .i64 (f 3), .int .i64 (f 4), .int .i64 (f 5), .int .i64 (f 6), .int .i64 (f 7), .int .i64 (f 8), .int .i64 (f 9), .int .i64 (f 10), .int .i64 (f 11), .int .i64 (f 12), .int .i64 (f 13), .int .i64 (f 14), .int .i64 (f 15), .int .i64 (f 16), .int .i64 (f 17), .bool (g 0), .bool (g 1), .bool (g 2)] 26)) := (Below.refl _ _).alloc (Nat.le_refl _) _

  unfold plv pc
  by_cases h0 : a < 0
  · go_enter Try.func53, Try.ntmps53
    go_wp2
    go_ret
    exact ⟨rfl, hB⟩
  · have h1 : 0 ≤ a := by omega
    have h2 : 2 < a := by omega
    clear h0 ha
    go_enter Try.func53, Try.ntmps53
    go_wp2
    go_ret
    exact ⟨rfl, hB⟩
end Go.Proofs.Ytmdijjbkjcnbpaa
