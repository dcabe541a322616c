/-
  The cells of a pool, one by one.
-/
import Derived.Test.YtnhafdkfjjplkaaDoorPoolM
namespace Go.Proofs.YtnhafdkfjjplkaaDoor
open Go.ChangeShapes Go.WideShapes Go.ChangeAt Go.RowKit
set_option linter.unusedSimpArgs false
set_option linter.unusedVariables false

theorem pc_info (f : Nat → Int) (g : Nat → Bool) : (Tryd.prog.info? 39).map (·.size) = some (pc f g).size := by kernel_rfl
theorem pc_one (f : Nat → Int) (g : Nat → Bool) : (pc f g).all (·.oneCell') = true := by kernel_rfl
theorem pc_size (f : Nat → Int) (g : Nat → Bool) : (pc f g).size = 21 := rfl
theorem pc_own (f : Nat → Int) (g : Nat → Bool) (k : Nat) (h : k < 18) : (pc f g)[k]? = some (.int .i64 (f k)) := by
  rcases (show k = 0 ∨ k = 1 ∨ k = 2 ∨ k = 3 ∨ k = 4 ∨ k = 5 ∨ k = 6 ∨ k = 7 ∨ k = 8 ∨ k = 9 ∨ k = 10 ∨ k = 11 ∨ k = 12 ∨ k = 13 ∨ k = 14 ∨ k = 15 ∨ k = 16 ∨ k = 17 by omega) with rfl | rfl | rfl | rfl | rfl | rfl | rfl | rfl | rfl | rfl | rfl | rfl | rfl | rfl | rfl | rfl | rfl | rfl <;> rfl
theorem pc_dr (f : Nat → Int) (g : Nat → Bool) (a : Nat) (h : a < 3) : (pc f g)[18 + a]? = some (.bool (g a)) := by
  rcases (show a = 0 ∨ a = 1 ∨ a = 2 by omega) with rfl | rfl | rfl <;> rfl
/-- a function changed at one place. -/
def upd (f : Nat → Int) (n : Nat) (x : Int) : Nat → Int := fun i => if i = n then x else f i
def updB (g : Nat → Bool) (n : Nat) (x : Bool) : Nat → Bool := fun i => if i = n then x else g i
theorem pc_set (f : Nat → Int) (g : Nat → Bool) (n : Nat) (x : Int) (h : n < 18) : (pc f g).setIfInBounds n (.int .i64 x) = pc (upd f n x) g := by
  rcases (show n = 0 ∨ n = 1 ∨ n = 2 ∨ n = 3 ∨ n = 4 ∨ n = 5 ∨ n = 6 ∨ n = 7 ∨ n = 8 ∨ n = 9 ∨ n = 10 ∨ n = 11 ∨ n = 12 ∨ n = 13 ∨ n = 14 ∨ n = 15 ∨ n = 16 ∨ n = 17 by omega) with rfl | rfl | rfl | rfl | rfl | rfl | rfl | rfl | rfl | rfl | rfl | rfl | rfl | rfl | rfl | rfl | rfl | rfl <;> simp [pc, upd]
theorem pc_setB (f : Nat → Int) (g : Nat → Bool) (n : Nat) (x : Bool) (h : n < 3) : (pc f g).setIfInBounds (18 + n) (.bool x) = pc f (updB g n x) := by
  rcases (show n = 0 ∨ n = 1 ∨ n = 2 by omega) with rfl | rfl | rfl <;> simp [pc, updB]
end Go.Proofs.YtnhafdkfjjplkaaDoor
