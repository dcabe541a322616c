/-
  What plain operations yield in a region that draws its order.
-/
import Derived.Deep.RegionHeld3
import Derived.WalkKit
import Derived.ProofKit
import Derived.OpenShut
import Derived.Test.YtnhafdkfjjplkaaDoorRows
namespace Go.Proofs.YtnhafdkfjjplkaaDoor
open Go.ChangeShapes Go.WideShapes Go.ChangeAt Go.RowKit
set_option linter.unusedSimpArgs false
set_option linter.unusedVariables false

section
variable {ops : Array Oper} {S : World → Prop} {o : Oper} {a : Act}
theorem yields_move (x : Operand) (v : Value) (ho : o.op = .move x) (hw : Region.wanted o (yielded ops a.tmps) = true) (hx : a.eval x = v) : YieldsIf Tryd.prog ops S o v a :=
  .inl ⟨hw, fun w _ => by unfold execOp; simp only [ho, hx, Sem.run_bind, Sem.run_pure, Result.andThen_ok]⟩
theorem yields_assign (x : Operand) (v : Value) (ho : o.op = .assign x) (hw : Region.wanted o (yielded ops a.tmps) = true) (hx : a.eval x = v) : YieldsIf Tryd.prog ops S o v a :=
  .inl ⟨hw, fun w _ => by unfold execOp; simp only [ho, hx, Sem.run_bind, Sem.run_pure, Result.andThen_ok]⟩
theorem yields_pick (c x y : Operand) (b : Bool) (v : Value) (ho : o.op = .pick c x y) (hw : Region.wanted o (yielded ops a.tmps) = true) (hc : a.eval c = .bool b) (hx : (if b = true then a.eval x else a.eval y) = v) : YieldsIf Tryd.prog ops S o v a :=
  .inl ⟨hw, fun w _ => by cases b <;> simp at hx <;> (unfold execOp; simp [ho, hc, hx, asBool, Result.andThen])⟩
theorem yields_pickt (c x y : Operand) (v : Value) (ho : o.op = .pick c x y) (hw : Region.wanted o (yielded ops a.tmps) = true) (hc : a.eval c = .bool true) (hx : a.eval x = v) : YieldsIf Tryd.prog ops S o v a := yields_pick c x y true v ho hw hc (by rw [if_pos rfl]; exact hx)
theorem yields_pickf (c x y : Operand) (v : Value) (ho : o.op = .pick c x y) (hw : Region.wanted o (yielded ops a.tmps) = true) (hc : a.eval c = .bool false) (hy : a.eval y = v) : YieldsIf Tryd.prog ops S o v a := yields_pick c x y false v ho hw hc (by rw [if_neg (by simp)]; exact hy)
theorem yields_eqi (t : TypeId) (x y : Operand) (n m : Int) (b : Bool) (ho : o.op = .binOp .eql t x y t) (hw : Region.wanted o (yielded ops a.tmps) = true) (hx : a.eval x = .int .i64 n) (hy : a.eval y = .int .i64 m) (hb : (n == m) = b) : YieldsIf Tryd.prog ops S o (.bool b) a :=
  .inl ⟨hw, fun w _ => by unfold execOp; simp only [ho, hx, hy]; simp [go_sem, hb, eqGuard]⟩
theorem yields_nei (t : TypeId) (x y : Operand) (n m : Int) (b : Bool) (ho : o.op = .binOp .neq t x y t) (hw : Region.wanted o (yielded ops a.tmps) = true) (hx : a.eval x = .int .i64 n) (hy : a.eval y = .int .i64 m) (hb : (n != m) = b) : YieldsIf Tryd.prog ops S o (.bool b) a :=
  .inl ⟨hw, fun w _ => by unfold execOp; simp only [ho, hx, hy]; simp [go_sem, hb, eqGuard]⟩
theorem yields_eqb (x y : Operand) (n m b : Bool) (ho : o.op = .binOp .eql 4 x y 4) (hw : Region.wanted o (yielded ops a.tmps) = true) (hx : a.eval x = .bool n) (hy : a.eval y = .bool m) (hb : (n == m) = b) : YieldsIf Tryd.prog ops S o (.bool b) a :=
  .inl ⟨hw, fun w _ => by unfold execOp; simp only [ho, hx, hy]; simp [go_sem, hb, eqGuard]⟩
theorem yields_neb (x y : Operand) (n m b : Bool) (ho : o.op = .binOp .neq 4 x y 4) (hw : Region.wanted o (yielded ops a.tmps) = true) (hx : a.eval x = .bool n) (hy : a.eval y = .bool m) (hb : (n != m) = b) : YieldsIf Tryd.prog ops S o (.bool b) a :=
  .inl ⟨hw, fun w _ => by unfold execOp; simp only [ho, hx, hy]; simp [go_sem, eqGuard]; subst hb; cases n <;> cases m <;> rfl⟩
theorem yields_not (x : Operand) (b c : Bool) (ho : o.op = .unOp .not 4 x) (hw : Region.wanted o (yielded ops a.tmps) = true) (hx : a.eval x = .bool b) (hb : (!b) = c) : YieldsIf Tryd.prog ops S o (.bool c) a :=
  .inl ⟨hw, fun w _ => by subst hb; unfold execOp; simp only [ho, hx]; simp [go_sem]⟩
end
end Go.Proofs.YtnhafdkfjjplkaaDoor
