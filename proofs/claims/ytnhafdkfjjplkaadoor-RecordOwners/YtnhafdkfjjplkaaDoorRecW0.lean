/-
  What Owners answers, bounded.
-/
import Derived.Test.YtnhafdkfjjplkaaDoorRecO
import Derived.Test.YtnhafdkfjjplkaaDoorPoolQ
namespace Go.Proofs.YtnhafdkfjjplkaaDoor
open Go.ChangeShapes Go.WideShapes Go.ChangeAt Go.RowKit
set_option linter.unusedSimpArgs false
set_option linter.unusedVariables false

theorem walkO_bd (es : List Ev) (f : Nat → Int) (h : ∀ i, 0 ≤ f i ∧ f i ≤ 8) : ∀ i, 0 ≤ (walkO f es).2 i ∧ (walkO f es).2 i ≤ 8 := by
  induction es generalizing f with
  | nil => exact h
  | cons e r ih =>
    unfold walkO
    by_cases hk : okE e
    · rw [if_pos hk]
      by_cases hE : bhE (f (at6 e)) e = 0
      · rw [if_pos hE]
        refine ih _ (fun i => ?_)
        unfold upd
        split
        · unfold ownN; have := hk.2.1; split <;> omega
        · exact h i
      · rw [if_neg hE]; intro i; simp [z0]
    · rw [if_neg hk]; intro i; simp [z0]
theorem walkO_wf (es : List Ev) : wfF (walkO z0 es).2 := by
  intro i _
  have := walkO_bd es z0 (fun i => by simp [z0]) i
  simp [Lit.wf, IntKind.min, IntKind.max, IntKind.bits, IntKind.signed]; omega
end Go.Proofs.YtnhafdkfjjplkaaDoor
