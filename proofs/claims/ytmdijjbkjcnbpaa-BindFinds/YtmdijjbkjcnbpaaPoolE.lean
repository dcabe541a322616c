/-
  Two pools held against each other; and that the program answers at all.
-/
import Derived.DeepKeys
import Derived.Deep.RegionHeld3
import Derived.Test.YtmdijjbkjcnbpaaPoolTr
import Derived.Test.YtmdijjbkjcnbpaaPoolQ
namespace Go.Proofs.Ytmdijjbkjcnbpaa
open Go.ChangeShapes Go.WideShapes Go.ChangeAt Go.RowKit
set_option linter.unusedSimpArgs false
set_option linter.unusedVariables false

theorem run_eqlp (f : Nat → Int) (g : Nat → Bool) (hf : wfF f) (x y : Operand) (w : World) : (do eqGuard .eql 26 x y (.agg (pc f g)) (.agg (pc f g)); binOp .eql 26 (.agg (pc f g)) (.agg (pc f g)) : Sem Value).run Try.prog w = .ok (.bool true) w := by
  simp only [Sem.run_bind, run_eqGuard_agg w .eql 26 x y (pc f g) (pc f g) Try.eqGuardType26, Result.andThen_ok, run_eql_struct, run_eqp f g hf]
theorem run_neqp (f : Nat → Int) (g : Nat → Bool) (hf : wfF f) (x y : Operand) (w : World) : (do eqGuard .neq 26 x y (.agg (pc f g)) (.agg (pc f g)); binOp .neq 26 (.agg (pc f g)) (.agg (pc f g)) : Sem Value).run Try.prog w = .ok (.bool false) w := by
  simp only [Sem.run_bind, run_eqGuard_agg w .neq 26 x y (pc f g) (pc f g) Try.eqGuardType26, Result.andThen_ok, run_neq_struct, run_eqp f g hf, Bool.not_true]
theorem wpList_eq_pool {ops : Array Oper} {rest : List Oper} {o : Oper} {a : Act} {w : World} {Q : Exit → Act → World → Prop} (x y : Operand) (ho : o.op = .binOp .eql 26 x y 26) (hw : Region.wanted o (yielded ops a.tmps) = true)
    (f : Nat → Int) (g : Nat → Bool) (hf : wfF f) (hx : a.eval x = .agg (pc f g)) (hy : a.eval y = .agg (pc f g))
    (hr : wpList Try.prog ops Q rest (a.put o.dst (.bool true)) w) : wpList Try.prog ops Q (o :: rest) a w :=
  wpList_step fun K hK => by
    rw [if_pos hw]
    unfold Oper.wp execOp
    have := run_eqlp f g hf x y w
    simp only [Sem.run_bind] at this
    simp only [ho, hx, hy, Sem.run_bind, this, Result.andThen_ok, Sem.run_pure]
    exact hK _ _ hr
theorem yields_load_pool {ops : Array Oper} {S : World → Prop} {o : Oper} {a : Act} (x : Operand) (ho : o.op = .load 26 x) (hw : Region.wanted o (yielded ops a.tmps) = true)
    (b : Nat) (hx : a.eval x = .pointer (some ⟨b, 0, none⟩)) (f : Nat → Int) (g : Nat → Bool) (hS : ∀ w, S w → PRow w b (pc f g)) : YieldsIf Try.prog ops S o (.agg (pc f g)) a :=
  .inl ⟨hw, fun w hw' => by
    unfold execOp
    simp only [ho, hx, Instr.loadAt, Instr.sureAddr, Sem.run_bind, Sem.run_pure, Result.andThen_ok, run_loadVar_row w b 26 26 (pc f g) (0, 0) _ (hS w hw') Try.underlying26 rfl (pc_info f g)]⟩
theorem yields_eq_pool {ops : Array Oper} {S : World → Prop} {o : Oper} {a : Act} (x y : Operand) (ho : o.op = .binOp .eql 26 x y 26) (hw : Region.wanted o (yielded ops a.tmps) = true)
    (f : Nat → Int) (g : Nat → Bool) (hf : wfF f) (hx : a.eval x = .agg (pc f g)) (hy : a.eval y = .agg (pc f g)) : YieldsIf Try.prog ops S o (.bool true) a :=
  .inl ⟨hw, fun w _ => by
    unfold execOp
    have := run_eqlp f g hf x y w
    simp only [Sem.run_bind] at this
    simp only [ho, hx, hy, Sem.run_bind, this, Result.andThen_ok, Sem.run_pure]⟩
theorem yields_neq_pool {ops : Array Oper} {S : World → Prop} {o : Oper} {a : Act} (x y : Operand) (ho : o.op = .binOp .neq 26 x y 26) (hw : Region.wanted o (yielded ops a.tmps) = true)
    (f : Nat → Int) (g : Nat → Bool) (hf : wfF f) (hx : a.eval x = .agg (pc f g)) (hy : a.eval y = .agg (pc f g)) : YieldsIf Try.prog ops S o (.bool false) a :=
  .inl ⟨hw, fun w _ => by
    unfold execOp
    have := run_neqp f g hf x y w
    simp only [Sem.run_bind] at this
    simp only [ho, hx, hy, Sem.run_bind, this, Result.andThen_ok, Sem.run_pure]⟩
theorem takeS_zero : takeS (fun _ => 0) (fun _ => false) 2 1 5 = .tuple #[plv (upd (fun _ => 0) 11 3) (fun _ => false), .int .i64 5, .int .i64 0] := by
  have e : takeE (fun _ => 0) (fun _ => false) 2 ((1 : Nat) : Int) = 0 := by decide
  have := takeS_yes (d := 5) e
  have k : drawnL (freeL (rowF (fun _ => 0) 1)) 5 = 5 := by decide
  rw [k] at this
  exact this
end Go.Proofs.Ytmdijjbkjcnbpaa
