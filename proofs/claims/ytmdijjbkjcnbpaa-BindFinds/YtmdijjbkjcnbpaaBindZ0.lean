/-
  What two tables that are the same want.
-/
import Derived.Test.YtmdijjbkjcnbpaaBindAt
import Derived.Test.YtmdijjbkjcnbpaaPoolE
import Derived.Test.YtmdijjbkjcnbpaaBindH
import Derived.Test.YtmdijjbkjcnbpaaYieldP
namespace Go.Proofs.Ytmdijjbkjcnbpaa
open Go.ChangeShapes Go.WideShapes Go.ChangeAt Go.RowKit
set_option linter.unusedSimpArgs false
set_option linter.unusedVariables false

theorem index_runM {w : World} {sl : Value} {ms : List Mp} (hM : MapsAt w sl ms) (j : Nat) (hj : j < ms.length) (w2 : World) : (Instr.indexAt 28 sl (.int .i64 (j : Int))).run Try.prog w2 = .ok (.pointer (some ⟨mb sl, mo sl + 5 * j, none⟩)) w2 := by
  obtain ⟨a0, cap, e, h1, h2, h3⟩ := hM
  have e1 := h1 (by omega)
  generalize mb sl = B at *
  generalize mo sl = O at *
  subst e1
  subst e
  have hn : ((j : Int)).toNat < ms.length := by simpa using hj
  have hjl : (j : Int) < (ms.length : Int) := by omega
  have hs : (sizeOf 32).run Try.prog w2 = .ok 5 w2 := by kernel_rfl
  simp [go_sem, hj, hn, hjl, Try.underlying28, hs]
theorem yields_indexR {ops : Array Oper} {S : World → Prop} {o : Oper} {a : Act} (x y : Operand) (ho : o.op = .indexAddr 28 x y) (hw : Region.wanted o (yielded ops a.tmps) = true) (p i q : Value) (hx : a.eval x = p) (hy : a.eval y = i) (hrun : ∀ w : World, (Instr.indexAt 28 p i).run Try.prog w = .ok q w) : YieldsIf Try.prog ops S o q a :=
  .inl ⟨hw, fun w _ => by unfold execOp; simp only [ho, hx, hy, Sem.run_bind, hrun w, Result.andThen_ok, Sem.run_pure]⟩
theorem yields_neS {ops : Array Oper} {S : World → Prop} {o : Oper} {a : Act} (t : TypeId) (x y : Operand) (ho : o.op = .binOp .neq t x y t) (hw : Region.wanted o (yielded ops a.tmps) = true)
    (xs ys : Array Value) (hx : a.eval x = .agg xs) (hy : a.eval y = .agg ys) (hg : Try.prog.eqGuardType Try.prog.depth t = false) (r q : Bool) (he : ∀ w : World, (Op.equalIn 10000 t (.agg xs) (.agg ys)).run Try.prog w = .ok r w) (hq : (!r) = q) : YieldsIf Try.prog ops S o (.bool q) a :=
  .inl ⟨hw, fun w _ => by
    subst hq
    unfold execOp
    simp only [ho, hx, hy, Sem.run_bind, run_eqGuard_agg w .neq t x y xs ys hg, run_neq_struct, he w, Result.andThen_ok, Sem.run_pure]⟩
theorem yields_loadQ {ops : Array Oper} {S : World → Prop} {o : Oper} {a : Act} (t : TypeId) (x : Operand) (ho : o.op = .load t x) (hw : Region.wanted o (yielded ops a.tmps) = true) (b k : Nat) (hx : a.eval x = .pointer (some ⟨b, k, none⟩)) (l : List Value) (hS : ∀ w, S w → w.rangeAt b k l)
    (d : TypeDesc) (hu : Try.prog.underlying t = some d) (hd : d.isRow = true) (hi : (Try.prog.info? t).map (·.size) = some l.length) : YieldsIf Try.prog ops S o (.agg l.toArray) a :=
  yieldsIf_load_mid (P := Try.prog) (S := S) hw t x ho b k hx l d hS hu hd hi
theorem wpList_loadW {ops : Array Oper} {rest : List Oper} {o : Oper} {a : Act} {w : World} {Q : Exit → Act → World → Prop} (t : TypeId) (x : Operand) (ho : o.op = .load t x) (hw : Region.wanted o (yielded ops a.tmps) = true) (b k : Nat) (hx : a.eval x = .pointer (some ⟨b, k, none⟩)) (l : List Value) (hc : w.rangeAt b k l)
    (d : TypeDesc) (hu : Try.prog.underlying t = some d) (hd : d.isRow = true) (hi : (Try.prog.info? t).map (·.size) = some l.length) (hr : wpList Try.prog ops Q rest (a.put o.dst (.agg l.toArray)) w) : wpList Try.prog ops Q (o :: rest) a w :=
  wpList_step fun K hK => by
    rw [if_pos hw]
    exact wp_load_mid t x ho b k hx l d hc hu hd hi (hK _ _ hr)
theorem eqTo_self (f : Nat → Int) (n : Nat) : eqTo f f n = true := (eqTo_iff f f n).2 fun _ _ => rfl
theorem below_drewB {B : Nat} {w0 w : World} (h : Below B w0 w) : Below B w0 w.drew := ⟨h.os, h.tape, h.output, h.size, h.block⟩
end Go.Proofs.Ytmdijjbkjcnbpaa
