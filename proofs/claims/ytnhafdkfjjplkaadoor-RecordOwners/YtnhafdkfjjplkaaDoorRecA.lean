/-
  Events: what is wrong with one, as the program and as the document have it.
-/
import Derived.Deep.DeepFit
import Derived.Deep.DeepCutAuto
import Derived.Test.YtnhafdkfjjplkaaDoorRowG
namespace Go.Proofs.YtnhafdkfjjplkaaDoor
open Go.ChangeShapes Go.WideShapes Go.ChangeAt Go.RowKit
set_option linter.unusedSimpArgs false
set_option linter.unusedVariables false

/-- an event. -/
structure Ev where
  t : Int
  s : Int
  a : Int
  b : Int
  fr : Bool
def ecl (e : Ev) : List Value := [.int .i64 e.t, .int .i64 e.s, .int .i64 e.a, .int .i64 e.b, .bool e.fr]
def ec (e : Ev) : Array Value := #[.int .i64 e.t, .int .i64 e.s, .int .i64 e.a, .int .i64 e.b, .bool e.fr]
theorem ec_info (e : Ev) : (Tryd.prog.info? 29).map (·.size) = some (ec e).size := by kernel_rfl
theorem ecl_info (e : Ev) : (Tryd.prog.info? 29).map (·.size) = some (ecl e).length := by kernel_rfl
theorem ec_one (e : Ev) : (ec e).all (·.oneCell') = true := by kernel_rfl
def noE : Ev := ⟨0, 0, 0, 0, false⟩
theorem ev_zero (w : World) : (zeroValue 29).run Tryd.prog w = .ok (.agg (ec noE)) w := by kernel_rfl
/-- what is wrong with it. -/
def okE (e : Ev) : Prop := (0 ≤ e.t ∧ e.t ≤ 1099511627776) ∧ (0 ≤ e.s ∧ e.s < 8) ∧ (0 ≤ e.a ∧ e.a < 3) ∧ (0 ≤ e.b ∧ e.b < 6)
theorem okE_dec (e : Ev) : okE e ∨ ¬ okE e := Classical.em _
def okE.dec (e : Ev) : Decidable (okE e) := by unfold okE; infer_instance
def goodE (e : Ev) : Int := @ite Int (okE e) (okE.dec e) 0 2
theorem goodE_yes {e : Ev} (h : okE e) : goodE e = 0 := if_pos h
theorem goodE_no {e : Ev} (h : ¬ okE e) : goodE e = 2 := if_neg h
theorem atOp {ops : Array Oper} {rest : List Oper} {o : Oper} {a : Act} {w : World} {Q : Exit → Act → World → Prop} (p : Op) (ho : o.op = p) (h : wpList Tryd.prog ops Q (o :: rest) a w) : wpList Tryd.prog ops Q (o :: rest) a w := h
theorem wpList_loadB {ops : Array Oper} {rest : List Oper} {o : Oper} {a : Act} {w : World} {Q : Exit → Act → World → Prop} {t : TypeId} {b : Nat} {cs : Array Value} (R : Row t w b cs) (x : Operand) (ho : o.op = .load 4 x) (hw : Region.wanted o (yielded ops a.tmps) = true)
    (f : Nat) (hx : a.eval x = .pointer (some ⟨b, f, none⟩)) (n : Bool) (hc : cs[f]? = some (.bool n))
    (hr : wpList Tryd.prog ops Q rest (a.put o.dst (.bool n)) w) : wpList Tryd.prog ops Q (o :: rest) a w :=
  wpList_step fun K hK => by
    rw [if_pos hw]
    have hcell := (R.cell f).trans hc
    unfold Oper.wp execOp
    simp only [ho, hx]
    simp [go_sem, hcell, Tryd.underlying4]
    exact hK _ _ hr
set_option maxRecDepth 10000 in
set_option maxHeartbeats 4000000 in
theorem goodRef_any (e : Ev) (w : World) : Calls Tryd.prog 13 #[.agg (ec e)] w fun x w' => x = .returned (.int .i64 (goodE e)) ∧ Below w.heap.size w w' := by
  have hB := Below.refl w.heap.size w
  by_cases h0 : e.t < 0
  · have HG : Hid (goodE e = 2) := goodE_no (by unfold okE; omega)
    have g0 : decide (e.t < 0) = true := by simpa using h0
    clear h0
    go_enter Tryd.func13, Tryd.ntmps13
    go_wp2_with (first
      | ((with_reducible refine atOp (.box 29 (.tmp 0)) rfl ?_); refine wpList_boxR 29 rfl _ rfl (ec e) rfl ?_; intro b1 w2 l1 R1 hb2; replace hB := hB.trans (hb2.mono hB.size))
      | ((with_reducible refine atOp (.load 3 (.tmp 3)) rfl ?_); refine wpList_loadF R1 _ rfl ?_ 0 rfl _ rfl ?_; · rfl))
    go_ret
    exact ⟨by rw [HG.out]; rfl, hB⟩
  by_cases h1 : 1099511627776 < e.t
  · have HG : Hid (goodE e = 2) := goodE_no (by unfold okE; omega)
    have g0 : decide (e.t < 0) = false := by simpa using h0
    have g1 : decide (1099511627776 < e.t) = true := by simpa using h1
    clear h0 h1
    go_enter Tryd.func13, Tryd.ntmps13
    go_wp2_with (first
      | ((with_reducible refine atOp (.box 29 (.tmp 0)) rfl ?_); refine wpList_boxR 29 rfl _ rfl (ec e) rfl ?_; intro b1 w2 l1 R1 hb2; replace hB := hB.trans (hb2.mono hB.size))
      | ((with_reducible refine atOp (.load 3 (.tmp 3)) rfl ?_); refine wpList_loadF R1 _ rfl ?_ 0 rfl _ rfl ?_; · rfl)
      | ((with_reducible refine atOp (.load 3 (.tmp 7)) rfl ?_); refine wpList_loadF R1 _ rfl ?_ 0 rfl _ rfl ?_; · rfl))
    go_ret
    exact ⟨by rw [HG.out]; rfl, hB⟩
  by_cases h2 : e.s < 0
  · have HG : Hid (goodE e = 2) := goodE_no (by unfold okE; omega)
    have g0 : decide (e.t < 0) = false := by simpa using h0
    have g1 : decide (1099511627776 < e.t) = false := by simpa using h1
    have g2 : decide (e.s < 0) = true := by simpa using h2
    clear h0 h1 h2
    go_enter Tryd.func13, Tryd.ntmps13
    go_wp2_with (first
      | ((with_reducible refine atOp (.box 29 (.tmp 0)) rfl ?_); refine wpList_boxR 29 rfl _ rfl (ec e) rfl ?_; intro b1 w2 l1 R1 hb2; replace hB := hB.trans (hb2.mono hB.size))
      | ((with_reducible refine atOp (.load 3 (.tmp 3)) rfl ?_); refine wpList_loadF R1 _ rfl ?_ 0 rfl _ rfl ?_; · rfl)
      | ((with_reducible refine atOp (.load 3 (.tmp 7)) rfl ?_); refine wpList_loadF R1 _ rfl ?_ 0 rfl _ rfl ?_; · rfl)
      | ((with_reducible refine atOp (.load 3 (.tmp 12)) rfl ?_); refine wpList_loadF R1 _ rfl ?_ 1 rfl _ rfl ?_; · rfl))
    go_ret
    exact ⟨by rw [HG.out]; rfl, hB⟩
  by_cases h3 : 7 < e.s
  · have HG : Hid (goodE e = 2) := goodE_no (by unfold okE; omega)
    have g0 : decide (e.t < 0) = false := by simpa using h0
    have g1 : decide (1099511627776 < e.t) = false := by simpa using h1
    have g2 : decide (e.s < 0) = false := by simpa using h2
    have g3 : decide (7 < e.s) = true := by simpa using h3
    clear h0 h1 h2 h3
    go_enter Tryd.func13, Tryd.ntmps13
    go_wp2_with (first
      | ((with_reducible refine atOp (.box 29 (.tmp 0)) rfl ?_); refine wpList_boxR 29 rfl _ rfl (ec e) rfl ?_; intro b1 w2 l1 R1 hb2; replace hB := hB.trans (hb2.mono hB.size))
      | ((with_reducible refine atOp (.load 3 (.tmp 3)) rfl ?_); refine wpList_loadF R1 _ rfl ?_ 0 rfl _ rfl ?_; · rfl)
      | ((with_reducible refine atOp (.load 3 (.tmp 7)) rfl ?_); refine wpList_loadF R1 _ rfl ?_ 0 rfl _ rfl ?_; · rfl)
      | ((with_reducible refine atOp (.load 3 (.tmp 12)) rfl ?_); refine wpList_loadF R1 _ rfl ?_ 1 rfl _ rfl ?_; · rfl)
      | ((with_reducible refine atOp (.load 3 (.tmp 17)) rfl ?_); refine wpList_loadF R1 _ rfl ?_ 1 rfl _ rfl ?_; · rfl))
    go_ret
    exact ⟨by rw [HG.out]; rfl, hB⟩
  by_cases h4 : e.a < 0
  · have HG : Hid (goodE e = 2) := goodE_no (by unfold okE; omega)
    have g0 : decide (e.t < 0) = false := by simpa using h0
    have g1 : decide (1099511627776 < e.t) = false := by simpa using h1
    have g2 : decide (e.s < 0) = false := by simpa using h2
    have g3 : decide (7 < e.s) = false := by simpa using h3
    have g4 : decide (e.a < 0) = true := by simpa using h4
    clear h0 h1 h2 h3 h4
    go_enter Tryd.func13, Tryd.ntmps13
    go_wp2_with (first
      | ((with_reducible refine atOp (.box 29 (.tmp 0)) rfl ?_); refine wpList_boxR 29 rfl _ rfl (ec e) rfl ?_; intro b1 w2 l1 R1 hb2; replace hB := hB.trans (hb2.mono hB.size))
      | ((with_reducible refine atOp (.load 3 (.tmp 3)) rfl ?_); refine wpList_loadF R1 _ rfl ?_ 0 rfl _ rfl ?_; · rfl)
      | ((with_reducible refine atOp (.load 3 (.tmp 7)) rfl ?_); refine wpList_loadF R1 _ rfl ?_ 0 rfl _ rfl ?_; · rfl)
      | ((with_reducible refine atOp (.load 3 (.tmp 12)) rfl ?_); refine wpList_loadF R1 _ rfl ?_ 1 rfl _ rfl ?_; · rfl)
      | ((with_reducible refine atOp (.load 3 (.tmp 17)) rfl ?_); refine wpList_loadF R1 _ rfl ?_ 1 rfl _ rfl ?_; · rfl)
      | ((with_reducible refine atOp (.load 3 (.tmp 22)) rfl ?_); refine wpList_loadF R1 _ rfl ?_ 2 rfl _ rfl ?_; · rfl))
    go_ret
    exact ⟨by rw [HG.out]; rfl, hB⟩
  by_cases h5 : 2 < e.a
  · have HG : Hid (goodE e = 2) := goodE_no (by unfold okE; omega)
    have g0 : decide (e.t < 0) = false := by simpa using h0
    have g1 : decide (1099511627776 < e.t) = false := by simpa using h1
    have g2 : decide (e.s < 0) = false := by simpa using h2
    have g3 : decide (7 < e.s) = false := by simpa using h3
    have g4 : decide (e.a < 0) = false := by simpa using h4
    have g5 : decide (2 < e.a) = true := by simpa using h5
    clear h0 h1 h2 h3 h4 h5
    go_enter Tryd.func13, Tryd.ntmps13
    go_wp2_with (first
      | ((with_reducible refine atOp (.box 29 (.tmp 0)) rfl ?_); refine wpList_boxR 29 rfl _ rfl (ec e) rfl ?_; intro b1 w2 l1 R1 hb2; replace hB := hB.trans (hb2.mono hB.size))
      | ((with_reducible refine atOp (.load 3 (.tmp 3)) rfl ?_); refine wpList_loadF R1 _ rfl ?_ 0 rfl _ rfl ?_; · rfl)
      | ((with_reducible refine atOp (.load 3 (.tmp 7)) rfl ?_); refine wpList_loadF R1 _ rfl ?_ 0 rfl _ rfl ?_; · rfl)
      | ((with_reducible refine atOp (.load 3 (.tmp 12)) rfl ?_); refine wpList_loadF R1 _ rfl ?_ 1 rfl _ rfl ?_; · rfl)
      | ((with_reducible refine atOp (.load 3 (.tmp 17)) rfl ?_); refine wpList_loadF R1 _ rfl ?_ 1 rfl _ rfl ?_; · rfl)
      | ((with_reducible refine atOp (.load 3 (.tmp 22)) rfl ?_); refine wpList_loadF R1 _ rfl ?_ 2 rfl _ rfl ?_; · rfl)
      | ((with_reducible refine atOp (.load 3 (.tmp 27)) rfl ?_); refine wpList_loadF R1 _ rfl ?_ 2 rfl _ rfl ?_; · rfl))
    go_ret
    exact ⟨by rw [HG.out]; rfl, hB⟩
  by_cases h6 : e.b < 0
  · have HG : Hid (goodE e = 2) := goodE_no (by unfold okE; omega)
    have g0 : decide (e.t < 0) = false := by simpa using h0
    have g1 : decide (1099511627776 < e.t) = false := by simpa using h1
    have g2 : decide (e.s < 0) = false := by simpa using h2
    have g3 : decide (7 < e.s) = false := by simpa using h3
    have g4 : decide (e.a < 0) = false := by simpa using h4
    have g5 : decide (2 < e.a) = false := by simpa using h5
    have g6 : decide (e.b < 0) = true := by simpa using h6
    clear h0 h1 h2 h3 h4 h5 h6
    go_enter Tryd.func13, Tryd.ntmps13
    go_wp2_with (first
      | ((with_reducible refine atOp (.box 29 (.tmp 0)) rfl ?_); refine wpList_boxR 29 rfl _ rfl (ec e) rfl ?_; intro b1 w2 l1 R1 hb2; replace hB := hB.trans (hb2.mono hB.size))
      | ((with_reducible refine atOp (.load 3 (.tmp 3)) rfl ?_); refine wpList_loadF R1 _ rfl ?_ 0 rfl _ rfl ?_; · rfl)
      | ((with_reducible refine atOp (.load 3 (.tmp 7)) rfl ?_); refine wpList_loadF R1 _ rfl ?_ 0 rfl _ rfl ?_; · rfl)
      | ((with_reducible refine atOp (.load 3 (.tmp 12)) rfl ?_); refine wpList_loadF R1 _ rfl ?_ 1 rfl _ rfl ?_; · rfl)
      | ((with_reducible refine atOp (.load 3 (.tmp 17)) rfl ?_); refine wpList_loadF R1 _ rfl ?_ 1 rfl _ rfl ?_; · rfl)
      | ((with_reducible refine atOp (.load 3 (.tmp 22)) rfl ?_); refine wpList_loadF R1 _ rfl ?_ 2 rfl _ rfl ?_; · rfl)
      | ((with_reducible refine atOp (.load 3 (.tmp 27)) rfl ?_); refine wpList_loadF R1 _ rfl ?_ 2 rfl _ rfl ?_; · rfl)
      | ((with_reducible refine atOp (.load 3 (.tmp 32)) rfl ?_); refine wpList_loadF R1 _ rfl ?_ 3 rfl _ rfl ?_; · rfl))
    go_ret
    exact ⟨by rw [HG.out]; rfl, hB⟩
  by_cases h7 : 5 < e.b
  · have HG : Hid (goodE e = 2) := goodE_no (by unfold okE; omega)
    have g0 : decide (e.t < 0) = false := by simpa using h0
    have g1 : decide (1099511627776 < e.t) = false := by simpa using h1
    have g2 : decide (e.s < 0) = false := by simpa using h2
    have g3 : decide (7 < e.s) = false := by simpa using h3
    have g4 : decide (e.a < 0) = false := by simpa using h4
    have g5 : decide (2 < e.a) = false := by simpa using h5
    have g6 : decide (e.b < 0) = false := by simpa using h6
    have g7 : decide (5 < e.b) = true := by simpa using h7
    clear h0 h1 h2 h3 h4 h5 h6 h7
    go_enter Tryd.func13, Tryd.ntmps13
    go_wp2_with (first
      | ((with_reducible refine atOp (.box 29 (.tmp 0)) rfl ?_); refine wpList_boxR 29 rfl _ rfl (ec e) rfl ?_; intro b1 w2 l1 R1 hb2; replace hB := hB.trans (hb2.mono hB.size))
      | ((with_reducible refine atOp (.load 3 (.tmp 3)) rfl ?_); refine wpList_loadF R1 _ rfl ?_ 0 rfl _ rfl ?_; · rfl)
      | ((with_reducible refine atOp (.load 3 (.tmp 7)) rfl ?_); refine wpList_loadF R1 _ rfl ?_ 0 rfl _ rfl ?_; · rfl)
      | ((with_reducible refine atOp (.load 3 (.tmp 12)) rfl ?_); refine wpList_loadF R1 _ rfl ?_ 1 rfl _ rfl ?_; · rfl)
      | ((with_reducible refine atOp (.load 3 (.tmp 17)) rfl ?_); refine wpList_loadF R1 _ rfl ?_ 1 rfl _ rfl ?_; · rfl)
      | ((with_reducible refine atOp (.load 3 (.tmp 22)) rfl ?_); refine wpList_loadF R1 _ rfl ?_ 2 rfl _ rfl ?_; · rfl)
      | ((with_reducible refine atOp (.load 3 (.tmp 27)) rfl ?_); refine wpList_loadF R1 _ rfl ?_ 2 rfl _ rfl ?_; · rfl)
      | ((with_reducible refine atOp (.load 3 (.tmp 32)) rfl ?_); refine wpList_loadF R1 _ rfl ?_ 3 rfl _ rfl ?_; · rfl)
      | ((with_reducible refine atOp (.load 3 (.tmp 37)) rfl ?_); refine wpList_loadF R1 _ rfl ?_ 3 rfl _ rfl ?_; · rfl))
    go_ret
    exact ⟨by rw [HG.out]; rfl, hB⟩
  have HG : Hid (goodE e = 0) := goodE_yes (by unfold okE; omega)
  have g0 : decide (e.t < 0) = false := by simpa using h0
  have g1 : decide (1099511627776 < e.t) = false := by simpa using h1
  have g2 : decide (e.s < 0) = false := by simpa using h2
  have g3 : decide (7 < e.s) = false := by simpa using h3
  have g4 : decide (e.a < 0) = false := by simpa using h4
  have g5 : decide (2 < e.a) = false := by simpa using h5
  have g6 : decide (e.b < 0) = false := by simpa using h6
  have g7 : decide (5 < e.b) = false := by simpa using h7
  clear h0 h1 h2 h3 h4 h5 h6 h7
  go_enter Tryd.func13, Tryd.ntmps13
  go_wp2_with (first
      | ((with_reducible refine atOp (.box 29 (.tmp 0)) rfl ?_); refine wpList_boxR 29 rfl _ rfl (ec e) rfl ?_; intro b1 w2 l1 R1 hb2; replace hB := hB.trans (hb2.mono hB.size))
      | ((with_reducible refine atOp (.load 3 (.tmp 3)) rfl ?_); refine wpList_loadF R1 _ rfl ?_ 0 rfl _ rfl ?_; · rfl)
      | ((with_reducible refine atOp (.load 3 (.tmp 7)) rfl ?_); refine wpList_loadF R1 _ rfl ?_ 0 rfl _ rfl ?_; · rfl)
      | ((with_reducible refine atOp (.load 3 (.tmp 12)) rfl ?_); refine wpList_loadF R1 _ rfl ?_ 1 rfl _ rfl ?_; · rfl)
      | ((with_reducible refine atOp (.load 3 (.tmp 17)) rfl ?_); refine wpList_loadF R1 _ rfl ?_ 1 rfl _ rfl ?_; · rfl)
      | ((with_reducible refine atOp (.load 3 (.tmp 22)) rfl ?_); refine wpList_loadF R1 _ rfl ?_ 2 rfl _ rfl ?_; · rfl)
      | ((with_reducible refine atOp (.load 3 (.tmp 27)) rfl ?_); refine wpList_loadF R1 _ rfl ?_ 2 rfl _ rfl ?_; · rfl)
      | ((with_reducible refine atOp (.load 3 (.tmp 32)) rfl ?_); refine wpList_loadF R1 _ rfl ?_ 3 rfl _ rfl ?_; · rfl)
      | ((with_reducible refine atOp (.load 3 (.tmp 37)) rfl ?_); refine wpList_loadF R1 _ rfl ?_ 3 rfl _ rfl ?_; · rfl))
  go_ret
  exact ⟨by rw [HG.out]; rfl, hB⟩
end Go.Proofs.YtnhafdkfjjplkaaDoor
