/-
  A flow that comes in by value; two flows that are alike.
-/
import Derived.SizedLaws
import Derived.Test.YthflhaanndnejafTrackE
namespace Go.Proofs.Ythflhaanndnejaf
open Go.ChangeShapes Go.WideShapes Go.ChangeAt Go.RowKit
set_option linter.unusedSimpArgs false
set_option linter.unusedVariables false

theorem eq_flow (k : Fl) (w : World) : (Op.equalIn 10000 31 (.agg (fc k)) (.agg (fc k))).run Try.prog w = .ok true w := by
  rw [show (10000 : Nat) = 9999 + 1 from rfl, run_equalIn_struct w 9999 31 _ _ (by kernel_rfl) (by kernel_rfl)]
  unfold fc
  simp [go_sem, Try.underlying31, Try.underlying29]
/-- every number an int. -/
def Fl.wf (k : Fl) : Prop := (Lit.int .i64 k.pr).wf = true ∧ (Lit.int .i64 k.s).wf = true ∧ (Lit.int .i64 k.i).wf = true ∧ (Lit.int .i64 k.a).wf = true ∧ (Lit.int .i64 k.port).wf = true ∧ (Lit.int .i64 k.rem).wf = true ∧ (Lit.int .i64 k.rp).wf = true ∧ (Lit.int .i64 k.st).wf = true ∧ (Lit.int .i64 k.sd).wf = true ∧ (Lit.int .i64 k.du).wf = true
/-- a flow as a datum. -/
def fd (H : Type) (k : Fl) : DataW H := .agg [.agg [.lit (.int .i64 k.pr), .lit (.int .i64 k.s), .lit (.int .i64 k.i), .lit (.int .i64 k.a), .lit (.int .i64 k.port)], .lit (.int .i64 k.rem), .lit (.int .i64 k.rp), .lit (.int .i64 k.st), .lit (.int .i64 k.sd), .lit (.int .i64 k.du)]
set_option maxRecDepth 10000 in
theorem open_flow {H : Type} {enc : TypeId × Value → H} {w : World} {base : Nat} {sp : Nat → Bool} {held : Bool} {r : Reach} {b0 : Nat} {v : Value} {d : DataW H} {ps : List MemPlace}
    (hval : Value.okWide Try.prog w r b0 31 v) (hd : DataW.Trod enc Try.prog w base sp held 31 v d ps) : ∃ k : Fl, v = .agg (fc k) ∧ d = fd H k ∧ ps = [] ∧ k.wf := by
  have hc : Try.prog.cellsOf 31 = 10 := by kernel_rfl
  have hcM : Try.prog.cellsOf 29 = 5 := by kernel_rfl
  have hcI : Try.prog.cellsOf 3 = 1 := by kernel_rfl
  obtain ⟨cs, rfl, hcs⟩ := okWide_struct Try.underlying31 hval
  obtain ⟨fuel, hf⟩ := hd
  obtain ⟨ys, m, _, hx, _, hl, hf⟩ := DataW.trod_struct Try.underlying31 hf
  rw [hc] at hcs
  obtain ⟨l⟩ := cs
  match l, hcs with
  | [c0, c1, c2, c3, c4, c5, c6, c7, c8, c9], _ =>
  match ys, hl with
  | [y0, y1, y2, y3, y4, y5], _ =>
  have hy0 := hf 0 _ rfl
  have hy1 := hf 1 _ rfl
  have hy2 := hf 2 _ rfl
  have hy3 := hf 3 _ rfl
  have hy4 := hf 4 _ rfl
  have hy5 := hf 5 _ rfl
  simp [hcI, hcM, Value.cells] at hy0 hy1 hy2 hy3 hy4 hy5
  obtain ⟨zs, m', _, hx', _, hl', hg⟩ := DataW.trod_struct Try.underlying29 hy0
  match zs, hl' with
  | [z0, z1, z2, z3, z4], _ =>
  have hz0 := hg 0 _ rfl
  have hz1 := hg 1 _ rfl
  have hz2 := hg 2 _ rfl
  have hz3 := hg 3 _ rfl
  have hz4 := hg 4 _ rfl
  simp [hcI, Value.cells] at hz0 hz1 hz2 hz3 hz4
  obtain ⟨a0, e0, rfl, s0⟩ := DataW.trod_int Try.underlying3 hz0
  obtain ⟨a1, e1, rfl, s1⟩ := DataW.trod_int Try.underlying3 hz1
  obtain ⟨a2, e2, rfl, s2⟩ := DataW.trod_int Try.underlying3 hz2
  obtain ⟨a3, e3, rfl, s3⟩ := DataW.trod_int Try.underlying3 hz3
  obtain ⟨a4, e4, rfl, s4⟩ := DataW.trod_int Try.underlying3 hz4
  obtain ⟨a5, e5, rfl, s5⟩ := DataW.trod_int Try.underlying3 hy1
  obtain ⟨a6, e6, rfl, s6⟩ := DataW.trod_int Try.underlying3 hy2
  obtain ⟨a7, e7, rfl, s7⟩ := DataW.trod_int Try.underlying3 hy3
  obtain ⟨a8, e8, rfl, s8⟩ := DataW.trod_int Try.underlying3 hy4
  obtain ⟨a9, e9, rfl, s9⟩ := DataW.trod_int Try.underlying3 hy5
  simp at e0 e1 e2 e3 e4 e5 e6 e7 e8 e9
  subst e0 e1 e2 e3 e4 e5 e6 e7 e8 e9
  simp at hx'
  subst hx'
  simp at hx
  obtain ⟨rfl, rfl⟩ := hx
  exact ⟨⟨a0, a1, a2, a3, a4, a5, a6, a7, a8, a9⟩, rfl, rfl, rfl, ⟨s0, s1, s2, s3, s4, s5, s6, s7, s8, s9⟩⟩
theorem shut_flow {H : Type} {enc : TypeId × Value → H} {w : World} {base : Nat} {sp : Nat → Bool} {held : Bool} {k : Fl} (hw : k.wf) : DataW.Trod enc Try.prog w base sp held 31 (.agg (fc k)) (fd H k) [] := by
  have hc : Try.prog.cellsOf 31 = 10 := by kernel_rfl
  have hcM : Try.prog.cellsOf 29 = 5 := by kernel_rfl
  have hcI : Try.prog.cellsOf 3 = 1 := by kernel_rfl
  obtain ⟨s0, s1, s2, s3, s4, s5, s6, s7, s8, s9⟩ := hw
  exact ⟨3, by simp [DataW.trod, Value.cells, fc, fd, Try.underlying31, Try.underlying29, Try.underlying3, hc, hcM, hcI, s0, s1, s2, s3, s4, s5, s6, s7, s8, s9]⟩
end Go.Proofs.Ythflhaanndnejaf
