/-
  The walks of track's small functions.
-/
import Derived.Outline
import Derived.WalkSpells
import Derived.Test.YthflhaanndnejafTrackA
import Derived.Test.YthflhaanndnejafRowG
namespace Go.Proofs.Ythflhaanndnejaf
open Go.ChangeShapes Go.WideShapes Go.ChangeAt Go.RowKit
set_option linter.unusedSimpArgs false
set_option linter.unusedVariables false

theorem ret_intT {k : IntKind} {a b : Int} (h : a = b) : Ending.returned (.int k a) = .returned (.int k b) := by rw [h]
theorem ret_boolT {a b : Bool} (h : a = b) : Ending.returned (.bool a) = .returned (.bool b) := by rw [h]
theorem life_any (p s : Int) (w : World) : Calls Try.prog 12 #[.int .i64 p, .int .i64 s] w fun e w' => e = .returned (.int .i64 (lifeZ p s)) ∧ w' = w := by
  by_cases h1 : p = 1
  · have H : Hid ((8 : Int) = lifeZ p s) := by show (8 : Int) = lifeZ p s; simp [lifeZ, h1]
    have d1 : (p == 1) = true := by simp [h1]
    clear h1
    go_enter Try.func12, Try.ntmps12
    go_wp2
    go_ret
    exact ⟨ret_intT H.out, rfl⟩
  · have d1 : (p == 1) = false := by simp [h1]
    by_cases h2 : p = 17
    · have H : Hid ((20 : Int) = lifeZ p s) := by show (20 : Int) = lifeZ p s; simp [lifeZ, h2]
      have d2 : (p == 17) = true := by simp [h2]
      clear h1 h2
      go_enter Try.func12, Try.ntmps12
      go_wp2
      go_ret
      exact ⟨ret_intT H.out, rfl⟩
    · have d2 : (p == 17) = false := by simp [h2]
      by_cases h3 : s = 2
      · have H : Hid ((60 : Int) = lifeZ p s) := by show (60 : Int) = lifeZ p s; simp [lifeZ, h1, h2, h3]
        have d3 : (s == 2) = true := by simp [h3]
        clear h1 h2 h3
        go_enter Try.func12, Try.ntmps12
        go_wp2
        go_ret
        exact ⟨ret_intT H.out, rfl⟩
      · have d3 : (s == 2) = false := by simp [h3]
        by_cases h4 : s = 1
        · have H : Hid ((4 : Int) = lifeZ p s) := by show (4 : Int) = lifeZ p s; simp [lifeZ, h1, h2, h3, h4]
          have d4 : (s == 1) = true := by simp [h4]
          clear h1 h2 h3 h4
          go_enter Try.func12, Try.ntmps12
          go_wp2
          go_ret
          exact ⟨ret_intT H.out, rfl⟩
        · have H : Hid ((6 : Int) = lifeZ p s) := by show (6 : Int) = lifeZ p s; simp [lifeZ, h1, h2, h3, h4]
          have d4 : (s == 1) = false := by simp [h4]
          clear h1 h2 h3 h4
          go_enter Try.func12, Try.ntmps12
          go_wp2
          go_ret
          exact ⟨ret_intT H.out, rfl⟩
theorem hasAll_any (x : Int) (b : Nat) (hb : 63 &&& b = b) (hl : b < 64) (w : World) : Calls Try.prog 15 #[.int .i64 x, .int .i64 (b : Int)] w fun e w' => e = .returned (.bool (has x b)) ∧ w' = w := by
  have hA := and_any x b hb hl
  have hH := has_int x b
  clear hb hl
  go_enter Try.func15, Try.ntmps15
  go_wp2
  go_ret
  exact ⟨rfl, rfl⟩
theorem hasNone_any (x : Int) (b : Nat) (hb : 63 &&& b = b) (hl : b < 64) (w : World) : Calls Try.prog 16 #[.int .i64 x, .int .i64 (b : Int)] w fun e w' => e = .returned (.bool (none' x b)) ∧ w' = w := by
  have hA := and_any x b hb hl
  have hH := none_int x b
  clear hb hl
  go_enter Try.func16, Try.ntmps16
  go_wp2
  go_ret
  exact ⟨rfl, rfl⟩
theorem sideOf_any (b : Bool) (w : World) : Calls Try.prog 20 #[.bool b] w fun e w' => e = .returned (.int .i64 (sideZ b)) ∧ w' = w := by
  cases b
  · go_enter Try.func20, Try.ntmps20
    go_wp2
    go_ret
    exact ⟨rfl, rfl⟩
  · go_enter Try.func20, Try.ntmps20
    go_wp2
    go_ret
    exact ⟨rfl, rfl⟩
end Go.Proofs.Ythflhaanndnejaf
