/-
  Of what BindCloses, BindOpens stands on: part 14.
-/
import Derived.SizedLaws
import Derived.Deep.Slices
import Derived.Deep.RegionHeld3
import Derived.WalkKit
import Derived.ProofKit
import Derived.OpenShut
import Derived.Test.YtmdijjbkjcnbpaaRows
import Derived.Test.YtmdijjbkjcnbpaaBindCO8
import Derived.Test.YtmdijjbkjcnbpaaBindCO13
namespace Go.Proofs.Ytmdijjbkjcnbpaa
open Go.ChangeShapes Go.WideShapes Go.ChangeAt Go.RowKit
set_option linter.unusedSimpArgs false
set_option linter.unusedVariables false

set_option maxRecDepth 10000 in
set_option maxHeartbeats 2000000 in
set_option maxRecDepth 10000 in
theorem open_pool_cells {H : Type} {enc : TypeId × Value → H} {w : World} {base : Nat} {sp : Nat → Bool} {held : Bool} {fuel : Nat} {l : List Value} {x : DataW H × List MemPlace} (hl0 : l.length = 21) (hf0 : DataW.trod enc Try.prog w base sp held fuel 26 l = some x) : ∃ k : PoolV, l = (pc k.f k.g).toList ∧ wfF k.f := by
  have c44 : Try.prog.cellsOf 23 = 18 := by kernel_rfl
  have c43 : Try.prog.cellsOf 22 = 6 := by kernel_rfl
  have c45 : Try.prog.cellsOf 24 = 3 := by kernel_rfl
  have cI : Try.prog.cellsOf 3 = 1 := by kernel_rfl
  have cO : Try.prog.cellsOf 4 = 1 := by kernel_rfl
  obtain ⟨ys, m, _, hx, _, hl, hf⟩ := DataW.trod_struct Try.underlying26 hf0
  match l, hl0 with
  | [c0, c1, c2, c3, c4, c5, c6, c7, c8, c9, c10, c11, c12, c13, c14, c15, c16, c17, c18, c19, c20], _ =>
  match ys, hl with
  | [y0, y1], _ =>
  have hy0 := hf 0 _ rfl
  have hy1 := hf 1 _ rfl
  simp [c44, c45, Value.cells] at hy0 hy1
  obtain ⟨zs, m1, _, hz, _, hzl, hzf⟩ := DataW.trod_array Try.underlying23 hy0
  match zs, hzl with
  | [z0, z1, z2], _ =>
  have hz0 := hzf 0 (by omega)
  have hz1 := hzf 1 (by omega)
  have hz2 := hzf 2 (by omega)
  simp [c43] at hz0 hz1 hz2
  obtain ⟨ws0, n0, _, hw0, _, hwl0, hwf0⟩ := DataW.trod_array Try.underlying22 hz0
  match ws0, hwl0 with
  | [w00, w01, w02, w03, w04, w05], _ =>
  have hv0 := hwf0 0 (by omega)
  have hv1 := hwf0 1 (by omega)
  have hv2 := hwf0 2 (by omega)
  have hv3 := hwf0 3 (by omega)
  have hv4 := hwf0 4 (by omega)
  have hv5 := hwf0 5 (by omega)
  simp [cI] at hv0 hv1 hv2 hv3 hv4 hv5
  obtain ⟨x0, e0, rfl, s0⟩ := DataW.trod_int Try.underlying3 hv0
  obtain ⟨x1, e1, rfl, s1⟩ := DataW.trod_int Try.underlying3 hv1
  obtain ⟨x2, e2, rfl, s2⟩ := DataW.trod_int Try.underlying3 hv2
  obtain ⟨x3, e3, rfl, s3⟩ := DataW.trod_int Try.underlying3 hv3
  obtain ⟨x4, e4, rfl, s4⟩ := DataW.trod_int Try.underlying3 hv4
  obtain ⟨x5, e5, rfl, s5⟩ := DataW.trod_int Try.underlying3 hv5
  obtain ⟨ws1, n1, _, hw1, _, hwl1, hwf1⟩ := DataW.trod_array Try.underlying22 hz1
  match ws1, hwl1 with
  | [w10, w11, w12, w13, w14, w15], _ =>
  have hv6 := hwf1 0 (by omega)
  have hv7 := hwf1 1 (by omega)
  have hv8 := hwf1 2 (by omega)
  have hv9 := hwf1 3 (by omega)
  have hv10 := hwf1 4 (by omega)
  have hv11 := hwf1 5 (by omega)
  simp [cI] at hv6 hv7 hv8 hv9 hv10 hv11
  obtain ⟨x6, e6, rfl, s6⟩ := DataW.trod_int Try.underlying3 hv6
  obtain ⟨x7, e7, rfl, s7⟩ := DataW.trod_int Try.underlying3 hv7
  obtain ⟨x8, e8, rfl, s8⟩ := DataW.trod_int Try.underlying3 hv8
  obtain ⟨x9, e9, rfl, s9⟩ := DataW.trod_int Try.underlying3 hv9
  obtain ⟨x10, e10, rfl, s10⟩ := DataW.trod_int Try.underlying3 hv10
  obtain ⟨x11, e11, rfl, s11⟩ := DataW.trod_int Try.underlying3 hv11
  obtain ⟨ws2, n2, _, hw2, _, hwl2, hwf2⟩ := DataW.trod_array Try.underlying22 hz2
  match ws2, hwl2 with
  | [w20, w21, w22, w23, w24, w25], _ =>
  have hv12 := hwf2 0 (by omega)
  have hv13 := hwf2 1 (by omega)
  have hv14 := hwf2 2 (by omega)
  have hv15 := hwf2 3 (by omega)
  have hv16 := hwf2 4 (by omega)
  have hv17 := hwf2 5 (by omega)
  simp [cI] at hv12 hv13 hv14 hv15 hv16 hv17
  obtain ⟨x12, e12, rfl, s12⟩ := DataW.trod_int Try.underlying3 hv12
  obtain ⟨x13, e13, rfl, s13⟩ := DataW.trod_int Try.underlying3 hv13
  obtain ⟨x14, e14, rfl, s14⟩ := DataW.trod_int Try.underlying3 hv14
  obtain ⟨x15, e15, rfl, s15⟩ := DataW.trod_int Try.underlying3 hv15
  obtain ⟨x16, e16, rfl, s16⟩ := DataW.trod_int Try.underlying3 hv16
  obtain ⟨x17, e17, rfl, s17⟩ := DataW.trod_int Try.underlying3 hv17
  obtain ⟨us, q1, _, hu, _, hul, huf⟩ := DataW.trod_array Try.underlying24 hy1
  match us, hul with
  | [u0, u1, u2], _ =>
  have hg0 := huf 0 (by omega)
  have hg1 := huf 1 (by omega)
  have hg2 := huf 2 (by omega)
  simp [cO] at hg0 hg1 hg2
  obtain ⟨b0, t0, rfl⟩ := DataW.trod_bool Try.underlying4 hg0
  obtain ⟨b1, t1, rfl⟩ := DataW.trod_bool Try.underlying4 hg1
  obtain ⟨b2, t2, rfl⟩ := DataW.trod_bool Try.underlying4 hg2
  simp at e0 e1 e2 e3 e4 e5 e6 e7 e8 e9 e10 e11 e12 e13 e14 e15 e16 e17 t0 t1 t2
  subst e0 e1 e2 e3 e4 e5 e6 e7 e8 e9 e10 e11 e12 e13 e14 e15 e16 e17 t0 t1 t2
  simp at hw0 hw1 hw2 hu
  subst hw0 hw1 hw2 hu
  refine ⟨⟨fun i => [x0, x1, x2, x3, x4, x5, x6, x7, x8, x9, x10, x11, x12, x13, x14, x15, x16, x17].getD i 0, fun i => [b0, b1, b2].getD i false⟩, rfl, fun i hi => ?_⟩
  rcases (show i = 0 ∨ i = 1 ∨ i = 2 ∨ i = 3 ∨ i = 4 ∨ i = 5 ∨ i = 6 ∨ i = 7 ∨ i = 8 ∨ i = 9 ∨ i = 10 ∨ i = 11 ∨ i = 12 ∨ i = 13 ∨ i = 14 ∨ i = 15 ∨ i = 16 ∨ i = 17 by omega) with rfl | rfl | rfl | rfl | rfl | rfl | rfl | rfl | rfl | rfl | rfl | rfl | rfl | rfl | rfl | rfl | rfl | rfl
  · exact s0
  · exact s1
  · exact s2
  · exact s3
  · exact s4
  · exact s5
  · exact s6
  · exact s7
  · exact s8
  · exact s9
  · exact s10
  · exact s11
  · exact s12
  · exact s13
  · exact s14
  · exact s15
  · exact s16
  · exact s17
set_option maxRecDepth 10000 in
theorem open_home_cells {H : Type} {enc : TypeId × Value → H} {w : World} {base : Nat} {sp : Nat → Bool} {held : Bool} {fuel : Nat} {l : List Value} {x : DataW H × List MemPlace} (hl0 : l.length = 8) (hf0 : DataW.trod enc Try.prog w base sp held fuel 27 l = some x) : ∃ h : Nat → Int, l = hcl h ∧ wfH h := by
  have cI : Try.prog.cellsOf 3 = 1 := by kernel_rfl
  obtain ⟨ws, n0, _, hw, _, hwl, hwf⟩ := DataW.trod_array Try.underlying27 hf0
  match l, hl0 with
  | [c0, c1, c2, c3, c4, c5, c6, c7], _ =>
  match ws, hwl with
  | [w0, w1, w2, w3, w4, w5, w6, w7], _ =>
  have hv0 := hwf 0 (by omega)
  have hv1 := hwf 1 (by omega)
  have hv2 := hwf 2 (by omega)
  have hv3 := hwf 3 (by omega)
  have hv4 := hwf 4 (by omega)
  have hv5 := hwf 5 (by omega)
  have hv6 := hwf 6 (by omega)
  have hv7 := hwf 7 (by omega)
  simp [cI] at hv0 hv1 hv2 hv3 hv4 hv5 hv6 hv7
  obtain ⟨x0, e0, rfl, s0⟩ := DataW.trod_int Try.underlying3 hv0
  obtain ⟨x1, e1, rfl, s1⟩ := DataW.trod_int Try.underlying3 hv1
  obtain ⟨x2, e2, rfl, s2⟩ := DataW.trod_int Try.underlying3 hv2
  obtain ⟨x3, e3, rfl, s3⟩ := DataW.trod_int Try.underlying3 hv3
  obtain ⟨x4, e4, rfl, s4⟩ := DataW.trod_int Try.underlying3 hv4
  obtain ⟨x5, e5, rfl, s5⟩ := DataW.trod_int Try.underlying3 hv5
  obtain ⟨x6, e6, rfl, s6⟩ := DataW.trod_int Try.underlying3 hv6
  obtain ⟨x7, e7, rfl, s7⟩ := DataW.trod_int Try.underlying3 hv7
  simp at e0 e1 e2 e3 e4 e5 e6 e7
  subst e0 e1 e2 e3 e4 e5 e6 e7
  refine ⟨fun i => [x0, x1, x2, x3, x4, x5, x6, x7].getD i 0, rfl, fun i hi => ?_⟩
  rcases (show i = 0 ∨ i = 1 ∨ i = 2 ∨ i = 3 ∨ i = 4 ∨ i = 5 ∨ i = 6 ∨ i = 7 by omega) with rfl | rfl | rfl | rfl | rfl | rfl | rfl | rfl
  · exact s0
  · exact s1
  · exact s2
  · exact s3
  · exact s4
  · exact s5
  · exact s6
  · exact s7
set_option maxRecDepth 10000 in
theorem open_map_cells {H : Type} {enc : TypeId × Value → H} {w : World} {base : Nat} {sp : Nat → Bool} {held : Bool} {fuel : Nat} {l : List Value} {x : DataW H × List MemPlace} (hl0 : l.length = 5) (hf0 : DataW.trod enc Try.prog w base sp held fuel 32 l = some x) : ∃ m : Mp, l = mcl m := by
  have cI : Try.prog.cellsOf 3 = 1 := by kernel_rfl
  obtain ⟨ys, m, _, hx, _, hl, hf⟩ := DataW.trod_struct Try.underlying32 hf0
  match l, hl0 with
  | [c0, c1, c2, c3, c4], _ =>
  match ys, hl with
  | [y0, y1, y2, y3, y4], _ =>
  have hv0 := hf 0 _ rfl
  have hv1 := hf 1 _ rfl
  have hv2 := hf 2 _ rfl
  have hv3 := hf 3 _ rfl
  have hv4 := hf 4 _ rfl
  simp [cI] at hv0 hv1 hv2 hv3 hv4
  obtain ⟨x0, e0, rfl, s0⟩ := DataW.trod_int Try.underlying3 hv0
  obtain ⟨x1, e1, rfl, s1⟩ := DataW.trod_int Try.underlying3 hv1
  obtain ⟨x2, e2, rfl, s2⟩ := DataW.trod_int Try.underlying3 hv2
  obtain ⟨x3, e3, rfl, s3⟩ := DataW.trod_int Try.underlying3 hv3
  obtain ⟨x4, e4, rfl, s4⟩ := DataW.trod_int Try.underlying3 hv4
  simp at e0 e1 e2 e3 e4
  subst e0 e1 e2 e3 e4
  exact ⟨(x0, x1, x2, x3, x4), rfl⟩
end Go.Proofs.Ytmdijjbkjcnbpaa

namespace Go.Proofs.Ytmdijjbkjcnbpaa
open Go.ChangeShapes Go.WideShapes Go.ChangeAt Go.RowKit
set_option linter.unusedSimpArgs false
set_option linter.unusedVariables false

section
variable {ops : Array Oper} {S : World → Prop} {o : Oper} {a : Act}
theorem yields_pick (c x y : Operand) (b : Bool) (v : Value) (ho : o.op = .pick c x y) (hw : Region.wanted o (yielded ops a.tmps) = true) (hc : a.eval c = .bool b) (hx : (if b = true then a.eval x else a.eval y) = v) : YieldsIf Try.prog ops S o v a :=
  .inl ⟨hw, fun w _ => by cases b <;> simp at hx <;> (unfold execOp; simp [ho, hc, hx, asBool, Result.andThen])⟩
theorem yields_pickt (c x y : Operand) (v : Value) (ho : o.op = .pick c x y) (hw : Region.wanted o (yielded ops a.tmps) = true) (hc : a.eval c = .bool true) (hx : a.eval x = v) : YieldsIf Try.prog ops S o v a := yields_pick c x y true v ho hw hc (by rw [if_pos rfl]; exact hx)
theorem yields_pickf (c x y : Operand) (v : Value) (ho : o.op = .pick c x y) (hw : Region.wanted o (yielded ops a.tmps) = true) (hc : a.eval c = .bool false) (hy : a.eval y = v) : YieldsIf Try.prog ops S o v a := yields_pick c x y false v ho hw hc (by rw [if_neg (by simp)]; exact hy)
theorem yields_eqi (t : TypeId) (x y : Operand) (n m : Int) (b : Bool) (ho : o.op = .binOp .eql t x y t) (hw : Region.wanted o (yielded ops a.tmps) = true) (hx : a.eval x = .int .i64 n) (hy : a.eval y = .int .i64 m) (hb : (n == m) = b) : YieldsIf Try.prog ops S o (.bool b) a :=
  .inl ⟨hw, fun w _ => by unfold execOp; simp only [ho, hx, hy]; simp [go_sem, hb, eqGuard]⟩
theorem yields_nei (t : TypeId) (x y : Operand) (n m : Int) (b : Bool) (ho : o.op = .binOp .neq t x y t) (hw : Region.wanted o (yielded ops a.tmps) = true) (hx : a.eval x = .int .i64 n) (hy : a.eval y = .int .i64 m) (hb : (n != m) = b) : YieldsIf Try.prog ops S o (.bool b) a :=
  .inl ⟨hw, fun w _ => by unfold execOp; simp only [ho, hx, hy]; simp [go_sem, hb, eqGuard]⟩
theorem yields_neb (x y : Operand) (n m b : Bool) (ho : o.op = .binOp .neq 4 x y 4) (hw : Region.wanted o (yielded ops a.tmps) = true) (hx : a.eval x = .bool n) (hy : a.eval y = .bool m) (hb : (n != m) = b) : YieldsIf Try.prog ops S o (.bool b) a :=
  .inl ⟨hw, fun w _ => by unfold execOp; simp only [ho, hx, hy]; simp [go_sem, eqGuard]; subst hb; cases n <;> cases m <;> rfl⟩
end
end Go.Proofs.Ytmdijjbkjcnbpaa
