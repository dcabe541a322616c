/-
  Two pools held against each other; and that the program answers at all.
-/
import Derived.DeepKeys
import Derived.Deep.RegionHeld3
import Derived.Test.YthflhaanndnejaePoolTr
namespace Go.Proofs.Ythflhaanndnejae
open Go.ChangeShapes Go.WideShapes Go.ChangeAt Go.RowKit
set_option linter.unusedSimpArgs false
set_option linter.unusedVariables false

/-- each owner is a number of 64 bits. -/
def wfF (f : Nat → Int) : Prop := ∀ i, i < 18 → (Lit.int .i64 (f i)).wf = true
set_option maxRecDepth 10000 in
theorem pool_lits (f : Nat → Int) (g : Nat → Bool) (hf : wfF f) : Try.prog.keyLits 4 26 (Value.agg (pc f g)).cells.toList = some [.int .i64 (f 0), .int .i64 (f 1), .int .i64 (f 2), .int .i64 (f 3), .int .i64 (f 4), .int .i64 (f 5), .int .i64 (f 6), .int .i64 (f 7), .int .i64 (f 8), .int .i64 (f 9), .int .i64 (f 10), .int .i64 (f 11), .int .i64 (f 12), .int .i64 (f 13), .int .i64 (f 14), .int .i64 (f 15), .int .i64 (f 16), .int .i64 (f 17), .bool (g 0), .bool (g 1), .bool (g 2)] := by
  have c47 : Try.prog.cellsOf 26 = 21 := by kernel_rfl
  have c44 : Try.prog.cellsOf 23 = 18 := by kernel_rfl
  have c43 : Try.prog.cellsOf 22 = 6 := by kernel_rfl
  have c45 : Try.prog.cellsOf 24 = 3 := by kernel_rfl
  have c3 : Try.prog.cellsOf 3 = 1 := by kernel_rfl
  have c4 : Try.prog.cellsOf 4 = 1 := by kernel_rfl
  have h0 := hf 0 (by omega)
  have h1 := hf 1 (by omega)
  have h2 := hf 2 (by omega)
  have h3 := hf 3 (by omega)
  have h4 := hf 4 (by omega)
  have h5 := hf 5 (by omega)
  have h6 := hf 6 (by omega)
  have h7 := hf 7 (by omega)
  have h8 := hf 8 (by omega)
  have h9 := hf 9 (by omega)
  have h10 := hf 10 (by omega)
  have h11 := hf 11 (by omega)
  have h12 := hf 12 (by omega)
  have h13 := hf 13 (by omega)
  have h14 := hf 14 (by omega)
  have h15 := hf 15 (by omega)
  have h16 := hf 16 (by omega)
  have h17 := hf 17 (by omega)
  simp [Program.keyLits, Value.cells, pc, Try.underlying26, Try.underlying23, Try.underlying22, Try.underlying24, Try.underlying3, Try.underlying4, c47, c44, c43, c45, c3, c4, List.range, List.range.loop, h0, h1, h2, h3, h4, h5, h6, h7, h8, h9, h10, h11, h12, h13, h14, h15, h16, h17]
theorem run_eqp (f : Nat → Int) (g : Nat → Bool) (hf : wfF f) (w : World) : (Op.equalIn 10000 26 (.agg (pc f g)) (.agg (pc f g))).run Try.prog w = .ok true w := by
  obtain ⟨r, h1, h2⟩ := run_equalIn_deep (P := Try.prog) 9996 4 26 (by kernel_rfl) w 4 4 (.agg (pc f g)) (.agg (pc f g)) _ _ (by kernel_rfl) (by kernel_rfl) (pool_lits f g hf) (pool_lits f g hf)
  rw [h2.2 rfl] at h1
  exact h1
theorem run_eqlp (f : Nat → Int) (g : Nat → Bool) (hf : wfF f) (x y : Operand) (w : World) : (do eqGuard .eql 26 x y (.agg (pc f g)) (.agg (pc f g)); binOp .eql 26 (.agg (pc f g)) (.agg (pc f g)) : Sem Value).run Try.prog w = .ok (.bool true) w := by
  simp only [Sem.run_bind, run_eqGuard_agg w .eql 26 x y (pc f g) (pc f g) Try.eqGuardType26, Result.andThen_ok, run_eql_struct, run_eqp f g hf]
theorem run_neqp (f : Nat → Int) (g : Nat → Bool) (hf : wfF f) (x y : Operand) (w : World) : (do eqGuard .neq 26 x y (.agg (pc f g)) (.agg (pc f g)); binOp .neq 26 (.agg (pc f g)) (.agg (pc f g)) : Sem Value).run Try.prog w = .ok (.bool false) w := by
  simp only [Sem.run_bind, run_eqGuard_agg w .neq 26 x y (pc f g) (pc f g) Try.eqGuardType26, Result.andThen_ok, run_neq_struct, run_eqp f g hf, Bool.not_true]
theorem wpList_eq_pool {ops : Array Oper} {rest : List Oper} {o : Oper} {a : Act} {w : World} {Q : Exit → Act → World → Prop} (x y : Operand) (ho : o.op = .binOp .eql 26 x y 26) (hw : Region.wanted o (yielded ops a.tmps) = true)
    (f : Nat → Int) (g : Nat → Bool) (hf : wfF f) (hx : a.eval x = .agg (pc f g)) (hy : a.eval y = .agg (pc f g))
    (hr : wpList Try.prog ops Q rest (a.put o.dst (.bool true)) w) : wpList Try.prog ops Q (o :: rest) a w :=
  wpList_step fun K hK => by
    rw [if_pos hw]
    unfold Oper.wp execOp
    have := run_eqlp f g hf x y w
    simp only [Sem.run_bind] at this
    simp only [ho, hx, hy, Sem.run_bind, this, Result.andThen_ok, Sem.run_pure]
    exact hK _ _ hr
theorem yields_load_pool {ops : Array Oper} {S : World → Prop} {o : Oper} {a : Act} (x : Operand) (ho : o.op = .load 26 x) (hw : Region.wanted o (yielded ops a.tmps) = true)
    (b : Nat) (hx : a.eval x = .pointer (some ⟨b, 0, none⟩)) (f : Nat → Int) (g : Nat → Bool) (hS : ∀ w, S w → PRow w b (pc f g)) : YieldsIf Try.prog ops S o (.agg (pc f g)) a :=
  .inl ⟨hw, fun w hw' => by
    unfold execOp
    simp only [ho, hx, Instr.loadAt, Instr.sureAddr, Sem.run_bind, Sem.run_pure, Result.andThen_ok, run_loadVar_row w b 26 26 (pc f g) (0, 0) _ (hS w hw') Try.underlying26 rfl (pc_info f g)]⟩
theorem yields_eq_pool {ops : Array Oper} {S : World → Prop} {o : Oper} {a : Act} (x y : Operand) (ho : o.op = .binOp .eql 26 x y 26) (hw : Region.wanted o (yielded ops a.tmps) = true)
    (f : Nat → Int) (g : Nat → Bool) (hf : wfF f) (hx : a.eval x = .agg (pc f g)) (hy : a.eval y = .agg (pc f g)) : YieldsIf Try.prog ops S o (.bool true) a :=
  .inl ⟨hw, fun w _ => by
    unfold execOp
    have := run_eqlp f g hf x y w
    simp only [Sem.run_bind] at this
    simp only [ho, hx, hy, Sem.run_bind, this, Result.andThen_ok, Sem.run_pure]⟩
theorem yields_neq_pool {ops : Array Oper} {S : World → Prop} {o : Oper} {a : Act} (x y : Operand) (ho : o.op = .binOp .neq 26 x y 26) (hw : Region.wanted o (yielded ops a.tmps) = true)
    (f : Nat → Int) (g : Nat → Bool) (hf : wfF f) (hx : a.eval x = .agg (pc f g)) (hy : a.eval y = .agg (pc f g)) : YieldsIf Try.prog ops S o (.bool false) a :=
  .inl ⟨hw, fun w _ => by
    unfold execOp
    have := run_neqp f g hf x y w
    simp only [Sem.run_bind] at this
    simp only [ho, hx, hy, Sem.run_bind, this, Result.andThen_ok, Sem.run_pure]⟩
theorem takeS_zero : takeS (fun _ => 0) (fun _ => false) 2 1 5 = .tuple #[plv (upd (fun _ => 0) 11 3) (fun _ => false), .int .i64 5, .int .i64 0] := by
  have e : takeE (fun _ => 0) (fun _ => false) 2 ((1 : Nat) : Int) = 0 := by decide
  have := takeS_yes (d := 5) e
  have k : drawnL (freeL (rowF (fun _ => 0) 1)) 5 = 5 := by decide
  rw [k] at this
  exact this
end Go.Proofs.Ythflhaanndnejae
