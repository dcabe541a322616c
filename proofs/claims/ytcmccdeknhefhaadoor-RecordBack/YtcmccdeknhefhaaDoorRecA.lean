/-
  Events: what is wrong with one, as the program and as the document have it.
-/
import Derived.Deep.DeepFit
import Derived.Deep.DeepCutAuto
import Derived.Test.YtcmccdeknhefhaaDoorRowG
namespace Go.Proofs.YtcmccdeknhefhaaDoor
open Go.ChangeShapes Go.WideShapes Go.ChangeAt Go.RowKit
set_option linter.unusedSimpArgs false
set_option linter.unusedVariables false

/-- an event. -/
structure Ev where
  t : Int
  s : Int
  a : Int
  b : Int
  fr : Bool
def ecl (e : Ev) : List Value := [.int .i64 e.t, .int .i64 e.s, .int .i64 e.a, .int .i64 e.b, .bool e.fr]
def ec (e : Ev) : Array Value := #[.int .i64 e.t, .int .i64 e.s, .int .i64 e.a, .int .i64 e.b, .bool e.fr]
theorem ec_info (e : Ev) : (Tryd.prog.info? 32).map (·.size) = some (ec e).size := by kernel_rfl
theorem ecl_info (e : Ev) : (Tryd.prog.info? 32).map (·.size) = some (ecl e).length := by kernel_rfl
theorem ec_one (e : Ev) : (ec e).all (·.oneCell') = true := by kernel_rfl
def noE : Ev := ⟨0, 0, 0, 0, false⟩
theorem ev_zero (w : World) : (zeroValue 32).run Tryd.prog w = .ok (.agg (ec noE)) w := by kernel_rfl
/-- what is wrong with it. -/
def okE (e : Ev) : Prop := (0 ≤ e.t ∧ e.t ≤ 1099511627776) ∧ (0 ≤ e.s ∧ e.s < 8) ∧ (0 ≤ e.a ∧ e.a < 3) ∧ (0 ≤ e.b ∧ e.b < 6)
theorem okE_dec (e : Ev) : okE e ∨ ¬ okE e := Classical.em _
open Classical in
noncomputable def goodE (e : Ev) : Int := if okE e then 0 else 2
theorem goodE_yes {e : Ev} (h : okE e) : goodE e = 0 := if_pos h
theorem goodE_no {e : Ev} (h : ¬ okE e) : goodE e = 2 := if_neg h
theorem atOp {ops : Array Oper} {rest : List Oper} {o : Oper} {a : Act} {w : World} {Q : Exit → Act → World → Prop} (p : Op) (ho : o.op = p) (h : wpList Tryd.prog ops Q (o :: rest) a w) : wpList Tryd.prog ops Q (o :: rest) a w := h
theorem wpList_loadB {ops : Array Oper} {rest : List Oper} {o : Oper} {a : Act} {w : World} {Q : Exit → Act → World → Prop} {t : TypeId} {b : Nat} {cs : Array Value} (R : Row t w b cs) (x : Operand) (ho : o.op = .load 4 x) (hw : Region.wanted o (yielded ops a.tmps) = true)
    (f : Nat) (hx : a.eval x = .pointer (some ⟨b, f, none⟩)) (n : Bool) (hc : cs[f]? = some (.bool n))
    (hr : wpList Tryd.prog ops Q rest (a.put o.dst (.bool n)) w) : wpList Tryd.prog ops Q (o :: rest) a w :=
  wpList_step fun K hK => by
    rw [if_pos hw]
    have hcell := (R.cell f).trans hc
    unfold Oper.wp execOp
    simp only [ho, hx]
    simp [go_sem, hcell, Tryd.underlying4]
    exact hK _ _ hr
end Go.Proofs.YtcmccdeknhefhaaDoor
