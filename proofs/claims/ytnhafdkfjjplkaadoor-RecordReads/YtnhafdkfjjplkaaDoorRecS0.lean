/-
  Two events held against each other.
-/
import Derived.Test.YtnhafdkfjjplkaaDoorRecC
import Derived.Test.YtnhafdkfjjplkaaDoorRecU0
namespace Go.Proofs.YtnhafdkfjjplkaaDoor
open Go.ChangeShapes Go.WideShapes Go.ChangeAt Go.RowKit
set_option linter.unusedSimpArgs false
set_option linter.unusedVariables false

theorem eq_ev (e : Ev) (w : World) : (Op.equalIn 10000 29 (.agg (ec e)) (.agg (ec e))).run Tryd.prog w = .ok true w := by
  rw [show (10000 : Nat) = 9999 + 1 from rfl, run_equalIn_struct w 9999 29 _ _ (by kernel_rfl) (by kernel_rfl)]
  unfold ec
  simp [go_sem, Tryd.underlying29]
theorem yields_neE {ops : Array Oper} {S : World → Prop} {o : Oper} {a : Act} (x y : Operand) (ho : o.op = .binOp .neq 29 x y 29) (hw : Region.wanted o (yielded ops a.tmps) = true)
    (e : Ev) (hx : a.eval x = .agg (ec e)) (hy : a.eval y = .agg (ec e)) : YieldsIf Tryd.prog ops S o (.bool false) a :=
  .inl ⟨hw, fun w _ => by
    unfold execOp
    simp only [ho, hx, hy, Sem.run_bind, run_eqGuard_agg w .neq 29 x y _ _ Tryd.eqGuardType29, run_neq_struct, eq_ev e w, Result.andThen_ok, Sem.run_pure, Bool.not_true]⟩
end Go.Proofs.YtnhafdkfjjplkaaDoor
