/-
  A table that comes in.
-/
import Derived.SizedLaws
import Derived.Deep.Slices
import Derived.Test.YtmdijjbkjcnbpaaPoolIn
import Derived.Test.YtmdijjbkjcnbpaaBindX
import Derived.Test.YtmdijjbkjcnbpaaBindH
namespace Go.Proofs.Ytmdijjbkjcnbpaa
open Go.ChangeShapes Go.WideShapes Go.ChangeAt Go.RowKit
set_option linter.unusedSimpArgs false
set_option linter.unusedVariables false

set_option maxRecDepth 10000 in
set_option maxHeartbeats 2000000 in
set_option maxRecDepth 10000 in
theorem open_pool_cells {H : Type} {enc : TypeId × Value → H} {w : World} {base : Nat} {sp : Nat → Bool} {held : Bool} {fuel : Nat} {l : List Value} {x : DataW H × List MemPlace} (hl0 : l.length = 21) (hf0 : DataW.trod enc Try.prog w base sp held fuel 26 l = some x) : ∃ k : PoolV, l = (pc k.f k.g).toList ∧ wfF k.f := by
  have c44 : Try.prog.cellsOf 23 = 18 := by kernel_rfl
  have c43 : Try.prog.cellsOf 22 = 6 := by kernel_rfl
  have c45 : Try.prog.cellsOf 24 = 3 := by kernel_rfl
  have cI : Try.prog.cellsOf 3 = 1 := by kernel_rfl
  have cO : Try.prog.cellsOf 4 = 1 := by kernel_rfl
  obtain ⟨ys, m, _, hx, _, hl, hf⟩ := DataW.trod_struct Try.underlying26 hf0
  match l, hl0 with
  | [c0, c1, c2, c3, c4, c5, c6, c7, c8, c9, c10, c11, c12, c13, c14, c15, c16, c17, c18, c19, c20], _ =>
  match ys, hl with
  | [y0, y1], _ =>
  have hy0 := hf 0 _ rfl
  have hy1 := hf 1 _ rfl
  simp [c44, c45, Value.cells] at hy0 hy1
  obtain ⟨zs, m1, _, hz, _, hzl, hzf⟩ := DataW.trod_array Try.underlying23 hy0
  match zs, hzl with
  | [z0, z1, z2], _ =>
  have hz0 := hzf 0 (by omega)
  have hz1 := hzf 1 (by omega)
  have hz2 := hzf 2 (by omega)
  simp [c43] at hz0 hz1 hz2
  obtain ⟨ws0, n0, _, hw0, _, hwl0, hwf0⟩ := DataW.trod_array Try.underlying22 hz0
  match ws0, hwl0 with
  | [w00, w01, w02, w03, w04, w05], _ =>
  have hv0 := hwf0 0 (by omega)
  have hv1 := hwf0 1 (by omega)
  have hv2 := hwf0 2 (by omega)
  have hv3 := hwf0 3 (by omega)
  have hv4 := hwf0 4 (by omega)
  have hv5 := hwf0 5 (by omega)
  simp [cI] at hv0 hv1 hv2 hv3 hv4 hv5
  obtain ⟨x0, e0, rfl, s0⟩ := DataW.trod_int Try.underlying3 hv0
  obtain ⟨x1, e1, rfl, s1⟩ := DataW.trod_int Try.underlying3 hv1
  obtain ⟨x2, e2, rfl, s2⟩ := DataW.trod_int Try.underlying3 hv2
  obtain ⟨x3, e3, rfl, s3⟩ := DataW.trod_int Try.underlying3 hv3
  obtain ⟨x4, e4, rfl, s4⟩ := DataW.trod_int Try.underlying3 hv4
  obtain ⟨x5, e5, rfl, s5⟩ := DataW.trod_int Try.underlying3 hv5
  obtain ⟨ws1, n1, _, hw1, _, hwl1, hwf1⟩ := DataW.trod_array Try.underlying22 hz1
  match ws1, hwl1 with
  | [w10, w11, w12, w13, w14, w15], _ =>
  have hv6 := hwf1 0 (by omega)
  have hv7 := hwf1 1 (by omega)
  have hv8 := hwf1 2 (by omega)
  have hv9 := hwf1 3 (by omega)
  have hv10 := hwf1 4 (by omega)
  have hv11 := hwf1 5 (by omega)
  simp [cI] at hv6 hv7 hv8 hv9 hv10 hv11
  obtain ⟨x6, e6, rfl, s6⟩ := DataW.trod_int Try.underlying3 hv6
  obtain ⟨x7, e7, rfl, s7⟩ := DataW.trod_int Try.underlying3 hv7
  obtain ⟨x8, e8, rfl, s8⟩ := DataW.trod_int Try.underlying3 hv8
  obtain ⟨x9, e9, rfl, s9⟩ := DataW.trod_int Try.underlying3 hv9
  obtain ⟨x10, e10, rfl, s10⟩ := DataW.trod_int Try.underlying3 hv10
  obtain ⟨x11, e11, rfl, s11⟩ := DataW.trod_int Try.underlying3 hv11
  obtain ⟨ws2, n2, _, hw2, _, hwl2, hwf2⟩ := DataW.trod_array Try.underlying22 hz2
  match ws2, hwl2 with
  | [w20, w21, w22, w23, w24, w25], _ =>
  have hv12 := hwf2 0 (by omega)
  have hv13 := hwf2 1 (by omega)
  have hv14 := hwf2 2 (by omega)
  have hv15 := hwf2 3 (by omega)
  have hv16 := hwf2 4 (by omega)
  have hv17 := hwf2 5 (by omega)
  simp [cI] at hv12 hv13 hv14 hv15 hv16 hv17
  obtain ⟨x12, e12, rfl, s12⟩ := DataW.trod_int Try.underlying3 hv12
  obtain ⟨x13, e13, rfl, s13⟩ := DataW.trod_int Try.underlying3 hv13
  obtain ⟨x14, e14, rfl, s14⟩ := DataW.trod_int Try.underlying3 hv14
  obtain ⟨x15, e15, rfl, s15⟩ := DataW.trod_int Try.underlying3 hv15
  obtain ⟨x16, e16, rfl, s16⟩ := DataW.trod_int Try.underlying3 hv16
  obtain ⟨x17, e17, rfl, s17⟩ := DataW.trod_int Try.underlying3 hv17
  obtain ⟨us, q1, _, hu, _, hul, huf⟩ := DataW.trod_array Try.underlying24 hy1
  match us, hul with
  | [u0, u1, u2], _ =>
  have hg0 := huf 0 (by omega)
  have hg1 := huf 1 (by omega)
  have hg2 := huf 2 (by omega)
  simp [cO] at hg0 hg1 hg2
  obtain ⟨b0, t0, rfl⟩ := DataW.trod_bool Try.underlying4 hg0
  obtain ⟨b1, t1, rfl⟩ := DataW.trod_bool Try.underlying4 hg1
  obtain ⟨b2, t2, rfl⟩ := DataW.trod_bool Try.underlying4 hg2
  simp at e0 e1 e2 e3 e4 e5 e6 e7 e8 e9 e10 e11 e12 e13 e14 e15 e16 e17 t0 t1 t2
  subst e0 e1 e2 e3 e4 e5 e6 e7 e8 e9 e10 e11 e12 e13 e14 e15 e16 e17 t0 t1 t2
  simp at hw0 hw1 hw2 hu
  subst hw0 hw1 hw2 hu
  refine ⟨⟨fun i => [x0, x1, x2, x3, x4, x5, x6, x7, x8, x9, x10, x11, x12, x13, x14, x15, x16, x17].getD i 0, fun i => [b0, b1, b2].getD i false⟩, rfl, fun i hi => ?_⟩
  rcases (show i = 0 ∨ i = 1 ∨ i = 2 ∨ i = 3 ∨ i = 4 ∨ i = 5 ∨ i = 6 ∨ i = 7 ∨ i = 8 ∨ i = 9 ∨ i = 10 ∨ i = 11 ∨ i = 12 ∨ i = 13 ∨ i = 14 ∨ i = 15 ∨ i = 16 ∨ i = 17 by omega) with rfl | rfl | rfl | rfl | rfl | rfl | rfl | rfl | rfl | rfl | rfl | rfl | rfl | rfl | rfl | rfl | rfl | rfl
  · exact s0
  · exact s1
  · exact s2
  · exact s3
  · exact s4
  · exact s5
  · exact s6
  · exact s7
  · exact s8
  · exact s9
  · exact s10
  · exact s11
  · exact s12
  · exact s13
  · exact s14
  · exact s15
  · exact s16
  · exact s17
set_option maxRecDepth 10000 in
theorem open_home_cells {H : Type} {enc : TypeId × Value → H} {w : World} {base : Nat} {sp : Nat → Bool} {held : Bool} {fuel : Nat} {l : List Value} {x : DataW H × List MemPlace} (hl0 : l.length = 8) (hf0 : DataW.trod enc Try.prog w base sp held fuel 27 l = some x) : ∃ h : Nat → Int, l = hcl h ∧ wfH h := by
  have cI : Try.prog.cellsOf 3 = 1 := by kernel_rfl
  obtain ⟨ws, n0, _, hw, _, hwl, hwf⟩ := DataW.trod_array Try.underlying27 hf0
  match l, hl0 with
  | [c0, c1, c2, c3, c4, c5, c6, c7], _ =>
  match ws, hwl with
  | [w0, w1, w2, w3, w4, w5, w6, w7], _ =>
  have hv0 := hwf 0 (by omega)
  have hv1 := hwf 1 (by omega)
  have hv2 := hwf 2 (by omega)
  have hv3 := hwf 3 (by omega)
  have hv4 := hwf 4 (by omega)
  have hv5 := hwf 5 (by omega)
  have hv6 := hwf 6 (by omega)
  have hv7 := hwf 7 (by omega)
  simp [cI] at hv0 hv1 hv2 hv3 hv4 hv5 hv6 hv7
  obtain ⟨x0, e0, rfl, s0⟩ := DataW.trod_int Try.underlying3 hv0
  obtain ⟨x1, e1, rfl, s1⟩ := DataW.trod_int Try.underlying3 hv1
  obtain ⟨x2, e2, rfl, s2⟩ := DataW.trod_int Try.underlying3 hv2
  obtain ⟨x3, e3, rfl, s3⟩ := DataW.trod_int Try.underlying3 hv3
  obtain ⟨x4, e4, rfl, s4⟩ := DataW.trod_int Try.underlying3 hv4
  obtain ⟨x5, e5, rfl, s5⟩ := DataW.trod_int Try.underlying3 hv5
  obtain ⟨x6, e6, rfl, s6⟩ := DataW.trod_int Try.underlying3 hv6
  obtain ⟨x7, e7, rfl, s7⟩ := DataW.trod_int Try.underlying3 hv7
  simp at e0 e1 e2 e3 e4 e5 e6 e7
  subst e0 e1 e2 e3 e4 e5 e6 e7
  refine ⟨fun i => [x0, x1, x2, x3, x4, x5, x6, x7].getD i 0, rfl, fun i hi => ?_⟩
  rcases (show i = 0 ∨ i = 1 ∨ i = 2 ∨ i = 3 ∨ i = 4 ∨ i = 5 ∨ i = 6 ∨ i = 7 by omega) with rfl | rfl | rfl | rfl | rfl | rfl | rfl | rfl
  · exact s0
  · exact s1
  · exact s2
  · exact s3
  · exact s4
  · exact s5
  · exact s6
  · exact s7
set_option maxRecDepth 10000 in
theorem open_map_cells {H : Type} {enc : TypeId × Value → H} {w : World} {base : Nat} {sp : Nat → Bool} {held : Bool} {fuel : Nat} {l : List Value} {x : DataW H × List MemPlace} (hl0 : l.length = 5) (hf0 : DataW.trod enc Try.prog w base sp held fuel 32 l = some x) : ∃ m : Mp, l = mcl m := by
  have cI : Try.prog.cellsOf 3 = 1 := by kernel_rfl
  obtain ⟨ys, m, _, hx, _, hl, hf⟩ := DataW.trod_struct Try.underlying32 hf0
  match l, hl0 with
  | [c0, c1, c2, c3, c4], _ =>
  match ys, hl with
  | [y0, y1, y2, y3, y4], _ =>
  have hv0 := hf 0 _ rfl
  have hv1 := hf 1 _ rfl
  have hv2 := hf 2 _ rfl
  have hv3 := hf 3 _ rfl
  have hv4 := hf 4 _ rfl
  simp [cI] at hv0 hv1 hv2 hv3 hv4
  obtain ⟨x0, e0, rfl, s0⟩ := DataW.trod_int Try.underlying3 hv0
  obtain ⟨x1, e1, rfl, s1⟩ := DataW.trod_int Try.underlying3 hv1
  obtain ⟨x2, e2, rfl, s2⟩ := DataW.trod_int Try.underlying3 hv2
  obtain ⟨x3, e3, rfl, s3⟩ := DataW.trod_int Try.underlying3 hv3
  obtain ⟨x4, e4, rfl, s4⟩ := DataW.trod_int Try.underlying3 hv4
  simp at e0 e1 e2 e3 e4
  subst e0 e1 e2 e3 e4
  exact ⟨(x0, x1, x2, x3, x4), rfl⟩
set_option maxRecDepth 10000 in
theorem open_maps {H : Type} {enc : TypeId × Value → H} {w : World} {sp : Nat → Bool} {held : Bool} {fuel : Nat} {l : List Value} {x : DataW H × List MemPlace} (hf0 : DataW.trod enc Try.prog w 0 sp held fuel 28 l = some x) (hw : ∀ y ∈ x.1.weights Try.prog 28, y ≤ reachBytes) : ∃ sl ms, l = [sl] ∧ MapsAt w sl ms ∧ NilOk sl := by
  have c5 : Try.prog.cellsOf 32 = 5 := by kernel_rfl
  have hby : Try.prog.bytesOf 32 = 40 := by kernel_rfl
  rcases Go.Deep.open_slice Try.underlying28 hf0 with ⟨rfl, rfl⟩ | ⟨a, len, cap, m, n, D, Pl, rfl, hb, hl, hm, hmm, rfl, hx⟩
  · exact ⟨_, [], rfl, MapsAt.nil w, fun n c e => by injection e with _ _ e3; exact e3.symm⟩
  · have hlm : len ≤ m := by rw [hmm]; split <;> omega
    have hbd : len ≤ 140737488355328 := by
      have h1 := hw _ (by simp only [DataW.weights, Try.underlying28]; exact List.mem_cons_self)
      rw [hby] at h1
      simp [reachBytes] at h1
      omega
    have each : ∀ i, i < len → ∃ q : Mp, ∀ k v, (mcl q)[k]? = some v → w.cell? (a.add (5 * i + k)) = some v := by
      intro i hi
      obtain ⟨cs', h1, h2⟩ := hx i (by omega)
      rw [c5] at h1
      obtain ⟨_, hlen, hcell⟩ := World.cells?_some h1
      obtain ⟨q, rfl⟩ := open_map_cells hlen h2
      refine ⟨q, fun k v hv => ?_⟩
      have hk : k < 5 := by have := (List.getElem?_eq_some_iff.1 hv).1; simpa [mcl] using this
      have := hcell k hk
      rw [Go.Deep.add_add, Nat.mul_comm i 5] at this
      first | exact this.trans hv | (rw [this]; simpa using hv)
    obtain ⟨q, hq⟩ := Go.Deep.choose_lt each
    have hsp : 0 < len → a = ⟨a.block, a.off, none⟩ := by
      intro h0
      have := hq 0 h0 0 _ rfl
      obtain ⟨b, off, spot⟩ := a
      have hspot : spot = none := by simpa [Addr.add] using World.cell?_spot this
      subst hspot
      rfl
    refine ⟨_, (List.range len).map q, rfl, ⟨some a, cap, by simp, fun h0 => ?_, fun j hj k v hv => ?_, by simpa using hbd, cap, by simp, by simpa using hl⟩, fun n c e => (by injection e with e1; simp at e1)⟩
    · rw [hsp (by simpa using h0)]; rfl
    · have hj' : j < len := by simpa using hj
      have e1 : ((List.range len).map q)[j] = q j := by simp
      rw [e1] at hv
      have := hq j hj' k v hv
      rw [hsp (by omega), Addr.add_lit] at this
      show w.cell? ⟨a.block, a.off + 5 * j + k, none⟩ = some v
      rw [Nat.add_assoc]
      exact this
set_option maxRecDepth 10000 in
theorem open_table {H : Type} {enc : TypeId × Value → H} {w : World} {sp : Nat → Bool} {held : Bool} {r : Reach} {b0 : Nat} {v : Value} {d : DataW H} {ps : List MemPlace}
    (hval : Value.okWide Try.prog w r b0 30 v) (hd : DataW.Trod enc Try.prog w 0 sp held 30 v d ps) (hw : ∀ y ∈ d.weights Try.prog 30, y ≤ reachBytes) :
    ∃ (f : Nat → Int) (g : Nat → Bool) (h : Nat → Int) (sl : Value) (ms : List Mp), v = .agg (tc f g h sl) ∧ wfF f ∧ wfH h ∧ NilOk sl ∧ MapsAt w sl ms := by
  have c30 : Try.prog.cellsOf 30 = 30 := by kernel_rfl
  have c21 : Try.prog.cellsOf 26 = 21 := by kernel_rfl
  have c8 : Try.prog.cellsOf 27 = 8 := by kernel_rfl
  have c1 : Try.prog.cellsOf 28 = 1 := by kernel_rfl
  obtain ⟨cs, rfl, hcs⟩ := okWide_struct Try.underlying30 hval
  obtain ⟨fuel, hf⟩ := hd
  obtain ⟨ys, m, _, hx, _, hl, hf⟩ := DataW.trod_struct Try.underlying30 hf
  rw [c30] at hcs
  match ys, hl with
  | [y0, y1, y2], _ =>
  have hy0 : DataW.trod enc Try.prog w 0 sp held m 26 ((cs.toList.drop 0).take 21) = some y0 := by have := hf 0 _ rfl; simpa [c21, Value.cells] using this
  have hy1 : DataW.trod enc Try.prog w 0 sp held m 27 ((cs.toList.drop 21).take 8) = some y1 := by have := hf 1 _ rfl; simpa [c8, Value.cells] using this
  have hy2 : DataW.trod enc Try.prog w 0 sp held m 28 ((cs.toList.drop 29).take 1) = some y2 := by have := hf 2 _ rfl; simpa [c1, Value.cells] using this
  have hlen : cs.toList.length = 30 := by simpa using hcs
  obtain ⟨k, e0, wk⟩ := open_pool_cells (by simp [hlen]) hy0
  obtain ⟨h, e1, wh⟩ := open_home_cells (by simp [hlen]) hy1
  have hw2 : ∀ y ∈ y2.1.weights Try.prog 28, y ≤ reachBytes := by
    intro y hy
    apply hw
    injection hx with hx1 hx2
    rw [hx1]
    simp only [DataW.weights, Try.underlying30, List.map_cons, List.map_nil, DataW.weightsEach]
    simp [DataW.weightsEach, hy]
  obtain ⟨sl, ms, e2, hM, hno⟩ := open_maps hy2 hw2
  refine ⟨k.f, k.g, h, sl, ms, ?_, wk, wh, hno, hM⟩
  have e3 : cs.toList = (cs.toList.drop 0).take 21 ++ ((cs.toList.drop 21).take 8 ++ (cs.toList.drop 29).take 1) := by
    rw [List.drop_zero]
    conv => lhs; rw [← List.take_append_drop 21 cs.toList]
    congr 1
    conv => lhs; rw [← List.take_append_drop 8 (cs.toList.drop 21)]
    congr 1
    rw [List.drop_drop]
    rw [List.take_of_length_le (by simp [hlen])]
  rw [e0, e1, e2] at e3
  have e4 : cs = (cs.toList).toArray := by simp
  rw [e4, e3]
  congr 1
end Go.Proofs.Ytmdijjbkjcnbpaa
