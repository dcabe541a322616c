/-
  A pool that comes in by value: opened, and shut again.
-/
import Derived.SizedLaws
import Derived.Test.YtmdijjbkjcnbpaaPoolE
namespace Go.Proofs.Ytmdijjbkjcnbpaa
open Go.ChangeShapes Go.WideShapes Go.ChangeAt Go.RowKit
set_option linter.unusedSimpArgs false
set_option linter.unusedVariables false

/-- a pool: its owners, and what is drained. -/
structure PoolV where
  f : Nat → Int
  g : Nat → Bool
/-- a pool as a datum. -/
def pld (H : Type) (k : PoolV) : DataW H := .agg [.agg [.agg [.lit (.int .i64 (k.f 0)), .lit (.int .i64 (k.f 1)), .lit (.int .i64 (k.f 2)), .lit (.int .i64 (k.f 3)), .lit (.int .i64 (k.f 4)), .lit (.int .i64 (k.f 5))], .agg [.lit (.int .i64 (k.f 6)), .lit (.int .i64 (k.f 7)), .lit (.int .i64 (k.f 8)), .lit (.int .i64 (k.f 9)), .lit (.int .i64 (k.f 10)), .lit (.int .i64 (k.f 11))], .agg [.lit (.int .i64 (k.f 12)), .lit (.int .i64 (k.f 13)), .lit (.int .i64 (k.f 14)), .lit (.int .i64 (k.f 15)), .lit (.int .i64 (k.f 16)), .lit (.int .i64 (k.f 17))]], .agg [.lit (.bool (k.g 0)), .lit (.bool (k.g 1)), .lit (.bool (k.g 2))]]
set_option maxRecDepth 10000 in
set_option maxHeartbeats 2000000 in
theorem open_pool {H : Type} {enc : TypeId × Value → H} {w : World} {base : Nat} {sp : Nat → Bool} {held : Bool} {r : Reach} {b0 : Nat} {v : Value} {d : DataW H} {ps : List MemPlace}
    (hval : Value.okWide Try.prog w r b0 26 v) (hd : DataW.Trod enc Try.prog w base sp held 26 v d ps) : ∃ k : PoolV, v = plv k.f k.g ∧ d = pld H k ∧ ps = [] ∧ wfF k.f := by
  have c47 : Try.prog.cellsOf 26 = 21 := by kernel_rfl
  have c44 : Try.prog.cellsOf 23 = 18 := by kernel_rfl
  have c43 : Try.prog.cellsOf 22 = 6 := by kernel_rfl
  have c45 : Try.prog.cellsOf 24 = 3 := by kernel_rfl
  have cI : Try.prog.cellsOf 3 = 1 := by kernel_rfl
  have cO : Try.prog.cellsOf 4 = 1 := by kernel_rfl
  obtain ⟨cs, rfl, hcs⟩ := okWide_struct Try.underlying26 hval
  obtain ⟨fuel, hf⟩ := hd
  obtain ⟨ys, m, _, hx, _, hl, hf⟩ := DataW.trod_struct Try.underlying26 hf
  rw [c47] at hcs
  obtain ⟨l⟩ := cs
  match l, hcs with
  | [c0, c1, c2, c3, c4, c5, c6, c7, c8, c9, c10, c11, c12, c13, c14, c15, c16, c17, c18, c19, c20], _ =>
  match ys, hl with
  | [y0, y1], _ =>
  have hy0 := hf 0 _ rfl
  have hy1 := hf 1 _ rfl
  simp [c44, c45, Value.cells] at hy0 hy1
  obtain ⟨zs, m1, _, hz, _, hzl, hzf⟩ := DataW.trod_array Try.underlying23 hy0
  match zs, hzl with
  | [z0, z1, z2], _ =>
  have hz0 := hzf 0 (by omega)
  have hz1 := hzf 1 (by omega)
  have hz2 := hzf 2 (by omega)
  simp [c43] at hz0 hz1 hz2
  obtain ⟨ws0, n0, _, hw0, _, hwl0, hwf0⟩ := DataW.trod_array Try.underlying22 hz0
  match ws0, hwl0 with
  | [w00, w01, w02, w03, w04, w05], _ =>
  have hv0 := hwf0 0 (by omega)
  have hv1 := hwf0 1 (by omega)
  have hv2 := hwf0 2 (by omega)
  have hv3 := hwf0 3 (by omega)
  have hv4 := hwf0 4 (by omega)
  have hv5 := hwf0 5 (by omega)
  simp [cI] at hv0 hv1 hv2 hv3 hv4 hv5
  obtain ⟨x0, e0, rfl, s0⟩ := DataW.trod_int Try.underlying3 hv0
  obtain ⟨x1, e1, rfl, s1⟩ := DataW.trod_int Try.underlying3 hv1
  obtain ⟨x2, e2, rfl, s2⟩ := DataW.trod_int Try.underlying3 hv2
  obtain ⟨x3, e3, rfl, s3⟩ := DataW.trod_int Try.underlying3 hv3
  obtain ⟨x4, e4, rfl, s4⟩ := DataW.trod_int Try.underlying3 hv4
  obtain ⟨x5, e5, rfl, s5⟩ := DataW.trod_int Try.underlying3 hv5
  obtain ⟨ws1, n1, _, hw1, _, hwl1, hwf1⟩ := DataW.trod_array Try.underlying22 hz1
  match ws1, hwl1 with
  | [w10, w11, w12, w13, w14, w15], _ =>
  have hv6 := hwf1 0 (by omega)
  have hv7 := hwf1 1 (by omega)
  have hv8 := hwf1 2 (by omega)
  have hv9 := hwf1 3 (by omega)
  have hv10 := hwf1 4 (by omega)
  have hv11 := hwf1 5 (by omega)
  simp [cI] at hv6 hv7 hv8 hv9 hv10 hv11
  obtain ⟨x6, e6, rfl, s6⟩ := DataW.trod_int Try.underlying3 hv6
  obtain ⟨x7, e7, rfl, s7⟩ := DataW.trod_int Try.underlying3 hv7
  obtain ⟨x8, e8, rfl, s8⟩ := DataW.trod_int Try.underlying3 hv8
  obtain ⟨x9, e9, rfl, s9⟩ := DataW.trod_int Try.underlying3 hv9
  obtain ⟨x10, e10, rfl, s10⟩ := DataW.trod_int Try.underlying3 hv10
  obtain ⟨x11, e11, rfl, s11⟩ := DataW.trod_int Try.underlying3 hv11
  obtain ⟨ws2, n2, _, hw2, _, hwl2, hwf2⟩ := DataW.trod_array Try.underlying22 hz2
  match ws2, hwl2 with
  | [w20, w21, w22, w23, w24, w25], _ =>
  have hv12 := hwf2 0 (by omega)
  have hv13 := hwf2 1 (by omega)
  have hv14 := hwf2 2 (by omega)
  have hv15 := hwf2 3 (by omega)
  have hv16 := hwf2 4 (by omega)
  have hv17 := hwf2 5 (by omega)
  simp [cI] at hv12 hv13 hv14 hv15 hv16 hv17
  obtain ⟨x12, e12, rfl, s12⟩ := DataW.trod_int Try.underlying3 hv12
  obtain ⟨x13, e13, rfl, s13⟩ := DataW.trod_int Try.underlying3 hv13
  obtain ⟨x14, e14, rfl, s14⟩ := DataW.trod_int Try.underlying3 hv14
  obtain ⟨x15, e15, rfl, s15⟩ := DataW.trod_int Try.underlying3 hv15
  obtain ⟨x16, e16, rfl, s16⟩ := DataW.trod_int Try.underlying3 hv16
  obtain ⟨x17, e17, rfl, s17⟩ := DataW.trod_int Try.underlying3 hv17
  obtain ⟨us, q1, _, hu, _, hul, huf⟩ := DataW.trod_array Try.underlying24 hy1
  match us, hul with
  | [u0, u1, u2], _ =>
  have hg0 := huf 0 (by omega)
  have hg1 := huf 1 (by omega)
  have hg2 := huf 2 (by omega)
  simp [cO] at hg0 hg1 hg2
  obtain ⟨b0, t0, rfl⟩ := DataW.trod_bool Try.underlying4 hg0
  obtain ⟨b1, t1, rfl⟩ := DataW.trod_bool Try.underlying4 hg1
  obtain ⟨b2, t2, rfl⟩ := DataW.trod_bool Try.underlying4 hg2
  simp at e0 e1 e2 e3 e4 e5 e6 e7 e8 e9 e10 e11 e12 e13 e14 e15 e16 e17 t0 t1 t2
  subst e0 e1 e2 e3 e4 e5 e6 e7 e8 e9 e10 e11 e12 e13 e14 e15 e16 e17 t0 t1 t2
  simp at hw0 hw1 hw2 hu
  subst hw0 hw1 hw2 hu
  simp at hz
  subst hz
  simp at hx
  obtain ⟨rfl, rfl⟩ := hx
  refine ⟨⟨fun i => [x0, x1, x2, x3, x4, x5, x6, x7, x8, x9, x10, x11, x12, x13, x14, x15, x16, x17].getD i 0, fun i => [b0, b1, b2].getD i false⟩, rfl, rfl, rfl, fun i hi => ?_⟩
  rcases (show i = 0 ∨ i = 1 ∨ i = 2 ∨ i = 3 ∨ i = 4 ∨ i = 5 ∨ i = 6 ∨ i = 7 ∨ i = 8 ∨ i = 9 ∨ i = 10 ∨ i = 11 ∨ i = 12 ∨ i = 13 ∨ i = 14 ∨ i = 15 ∨ i = 16 ∨ i = 17 by omega) with rfl | rfl | rfl | rfl | rfl | rfl | rfl | rfl | rfl | rfl | rfl | rfl | rfl | rfl | rfl | rfl | rfl | rfl
  · exact s0
  · exact s1
  · exact s2
  · exact s3
  · exact s4
  · exact s5
  · exact s6
  · exact s7
  · exact s8
  · exact s9
  · exact s10
  · exact s11
  · exact s12
  · exact s13
  · exact s14
  · exact s15
  · exact s16
  · exact s17
set_option maxRecDepth 10000 in
theorem shut_pool {H : Type} {enc : TypeId × Value → H} {w : World} {base : Nat} {sp : Nat → Bool} {held : Bool} {k : PoolV} (hf : wfF k.f) : DataW.Trod enc Try.prog w base sp held 26 (plv k.f k.g) (pld H k) [] := by
  have c47 : Try.prog.cellsOf 26 = 21 := by kernel_rfl
  have c44 : Try.prog.cellsOf 23 = 18 := by kernel_rfl
  have c43 : Try.prog.cellsOf 22 = 6 := by kernel_rfl
  have c45 : Try.prog.cellsOf 24 = 3 := by kernel_rfl
  have cI : Try.prog.cellsOf 3 = 1 := by kernel_rfl
  have cO : Try.prog.cellsOf 4 = 1 := by kernel_rfl
  have h0 := hf 0 (by omega)
  have h1 := hf 1 (by omega)
  have h2 := hf 2 (by omega)
  have h3 := hf 3 (by omega)
  have h4 := hf 4 (by omega)
  have h5 := hf 5 (by omega)
  have h6 := hf 6 (by omega)
  have h7 := hf 7 (by omega)
  have h8 := hf 8 (by omega)
  have h9 := hf 9 (by omega)
  have h10 := hf 10 (by omega)
  have h11 := hf 11 (by omega)
  have h12 := hf 12 (by omega)
  have h13 := hf 13 (by omega)
  have h14 := hf 14 (by omega)
  have h15 := hf 15 (by omega)
  have h16 := hf 16 (by omega)
  have h17 := hf 17 (by omega)
  exact ⟨4, by simp [DataW.trod, Value.cells, plv, pc, pld, Try.underlying26, Try.underlying23, Try.underlying22, Try.underlying24, Try.underlying3, Try.underlying4, c47, c44, c43, c45, cI, cO, List.range, List.range.loop, h0, h1, h2, h3, h4, h5, h6, h7, h8, h9, h10, h11, h12, h13, h14, h15, h16, h17]⟩
/-- a new variable for a pool. -/
theorem wpList_alloc_pool {ops : Array Oper} {rest : List Oper} {o : Oper} {a : Act} {w : World} {Q : Exit → Act → World → Prop} (hgd : o.guard = none) (ho : o.op = .alloc 26)
    (h : ∀ b w', b = w.heap.size → PRow w' b (pc (fun _ => 0) (fun _ => false)) → (∀ r cs, PRow w r cs → PRow w' r cs ∧ r ≠ b) → (∀ B w0, Below B w0 w → B ≤ w.heap.size → Below B w0 w') → w'.heap.size = w.heap.size + 1 → wpList Try.prog ops Q rest (a.put o.dst (.pointer (some ⟨b, 0, none⟩))) w') : wpList Try.prog ops Q (o :: rest) a w :=
  wpList_plain hgd fun K hK => by
    have hn := PRow.new w (pc (fun _ => 0) (fun _ => false))
    have h' := h w.heap.size (w.alloc (.cells (pc (fun _ => 0) (fun _ => false)) 26)) rfl hn (fun r cs hr => ⟨hr.alloc _, by have := hr.lt; omega⟩) (fun B w0 hb hB => hb.alloc hB _) (by simp)
    unfold Oper.wp execOp
    simp [ho, Instr.alloc, go_sem]
    exact hK _ _ h'
end Go.Proofs.Ytmdijjbkjcnbpaa
