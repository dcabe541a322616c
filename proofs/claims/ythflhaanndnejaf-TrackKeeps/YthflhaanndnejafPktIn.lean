/-
  A packet that comes in by value: opened, and shut again.
-/
import Derived.Test.YthflhaanndnejafPkt
import Derived.Test.YthflhaanndnejafRows
import Derived.ProofKit
import Derived.OpenShut
import Derived.ShutString
import Derived.SizedLaws
namespace Go.Proofs.Ythflhaanndnejaf
open Go.ChangeShapes Go.WideShapes Go.ChangeAt Go.RowKit

/-- a packet as a datum. -/
def pd (H : Type) (k : Pkt) : DataW H := .agg [.lit (.int .i64 k.proto), .lit (.int .i64 k.src), .lit (.int .i64 k.sport), .lit (.int .i64 k.dst), .lit (.int .i64 k.dport), .lit (.int .i64 k.ttl), .lit (.int .i64 k.id), .lit (.int .i64 k.flags), .lit (.int .i64 k.seq), .lit (.int .i64 k.ack), .lit (.int .i64 k.win), .lit (.string k.body.data.toList)]
set_option maxRecDepth 10000 in
theorem open_pkt {H : Type} {enc : TypeId × Value → H} {w : World} {base : Nat} {sp : Nat → Bool} {held : Bool} {r : Reach} {b0 : Nat} {v : Value} {d : DataW H} {ps : List MemPlace}
    (hval : Value.okWide Try.prog w r b0 23 v) (hd : DataW.Trod enc Try.prog w base sp held 23 v d ps) : ∃ k : Pkt, v = pv k ∧ d = pd H k ∧ ps = [] ∧ k.wf ∧ k.body.size ≤ maxLen := by
  have hc : Try.prog.cellsOf 23 = 12 := by kernel_rfl
  have hcI : Try.prog.cellsOf 3 = 1 := by kernel_rfl
  have hcS : Try.prog.cellsOf 9 = 1 := by kernel_rfl
  obtain ⟨cs, rfl, hcs⟩ := okWide_struct Try.underlying23 hval
  obtain ⟨fuel, hf⟩ := hd
  obtain ⟨ys, m, _, hx, _, hl, hf⟩ := DataW.trod_struct Try.underlying23 hf
  rw [hc] at hcs
  obtain ⟨l⟩ := cs
  match l, hcs with
  | [c0, c1, c2, c3, c4, c5, c6, c7, c8, c9, c10, c11], _ =>
  match ys, hl with
  | [y0, y1, y2, y3, y4, y5, y6, y7, y8, y9, y10, y11], _ =>
  have hy0 := hf 0 _ rfl
  have hy1 := hf 1 _ rfl
  have hy2 := hf 2 _ rfl
  have hy3 := hf 3 _ rfl
  have hy4 := hf 4 _ rfl
  have hy5 := hf 5 _ rfl
  have hy6 := hf 6 _ rfl
  have hy7 := hf 7 _ rfl
  have hy8 := hf 8 _ rfl
  have hy9 := hf 9 _ rfl
  have hy10 := hf 10 _ rfl
  have hy11 := hf 11 _ rfl
  simp [hcI, hcS, Value.cells] at hy0 hy1 hy2 hy3 hy4 hy5 hy6 hy7 hy8 hy9 hy10 hy11
  obtain ⟨n0, e0, rfl, s0⟩ := DataW.trod_int Try.underlying3 hy0
  obtain ⟨n1, e1, rfl, s1⟩ := DataW.trod_int Try.underlying3 hy1
  obtain ⟨n2, e2, rfl, s2⟩ := DataW.trod_int Try.underlying3 hy2
  obtain ⟨n3, e3, rfl, s3⟩ := DataW.trod_int Try.underlying3 hy3
  obtain ⟨n4, e4, rfl, s4⟩ := DataW.trod_int Try.underlying3 hy4
  obtain ⟨n5, e5, rfl, s5⟩ := DataW.trod_int Try.underlying3 hy5
  obtain ⟨n6, e6, rfl, s6⟩ := DataW.trod_int Try.underlying3 hy6
  obtain ⟨n7, e7, rfl, s7⟩ := DataW.trod_int Try.underlying3 hy7
  obtain ⟨n8, e8, rfl, s8⟩ := DataW.trod_int Try.underlying3 hy8
  obtain ⟨n9, e9, rfl, s9⟩ := DataW.trod_int Try.underlying3 hy9
  obtain ⟨n10, e10, rfl, s10⟩ := DataW.trod_int Try.underlying3 hy10
  obtain ⟨n11, e11, rfl, s11⟩ := DataW.trod_string Try.underlying9 hy11
  simp at e0 e1 e2 e3 e4 e5 e6 e7 e8 e9 e10 e11
  subst e0 e1 e2 e3 e4 e5 e6 e7 e8 e9 e10 e11
  simp at hx
  obtain ⟨rfl, rfl⟩ := hx
  exact ⟨⟨n0, n1, n2, n3, n4, n5, n6, n7, n8, n9, n10, n11⟩, rfl, rfl, rfl, ⟨s0, s1, s2, s3, s4, s5, s6, s7, s8, s9, s10⟩, s11⟩
theorem shut_pkt {H : Type} {enc : TypeId × Value → H} {w : World} {base : Nat} {sp : Nat → Bool} {held : Bool} {k : Pkt} (hw : k.wf) (hs : k.body.size ≤ maxLen) : DataW.Trod enc Try.prog w base sp held 23 (pv k) (pd H k) [] := by
  have hc : Try.prog.cellsOf 23 = 12 := by kernel_rfl
  have hcI : Try.prog.cellsOf 3 = 1 := by kernel_rfl
  have hcS : Try.prog.cellsOf 9 = 1 := by kernel_rfl
  obtain ⟨s0, s1, s2, s3, s4, s5, s6, s7, s8, s9, s10⟩ := hw
  exact ⟨2, by simp [DataW.trod, Value.cells, pv, pd, Try.underlying23, Try.underlying3, Try.underlying9, hc, hcI, hcS, s0, s1, s2, s3, s4, s5, s6, s7, s8, s9, s10, hs]⟩
theorem sized_pkt {H : Type} {ts : List TypeId} {ds : List (DataW H)} (h : (DataW.weightsEach Try.prog ts ds).all (· ≤ reachBytes) = true) {j : Nat} {k : Pkt} (ht : ts[j]? = some 23) (hd : ds[j]? = some (pd H k)) : k.body.size ≤ 140737488351232 := by
  have := List.all_eq_true.1 h _ (DataW.weights_mem_each ht hd k.body.data.toList.length (by simp [pd, DataW.weights, DataW.weightsEach, Try.underlying23]))
  have h2 := of_decide_eq_true this
  simpa [reachBytes] using h2
end Go.Proofs.Ythflhaanndnejaf
