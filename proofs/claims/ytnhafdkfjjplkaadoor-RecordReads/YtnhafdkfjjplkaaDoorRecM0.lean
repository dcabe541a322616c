/-
  What Message answers.
-/
import Derived.Test.YtnhafdkfjjplkaaDoorRecE
import Derived.Test.YtnhafdkfjjplkaaDoorRecO
namespace Go.Proofs.YtnhafdkfjjplkaaDoor
open Go.ChangeShapes Go.WideShapes Go.ChangeAt Go.RowKit
set_option linter.unusedSimpArgs false
set_option linter.unusedVariables false

/-- a list of events as bytes; of what time they are. -/
def setB (es : List Ev) : List UInt8 := es.flatMap evB
theorem setB_len (es : List Ev) : (setB es).length = 21 * es.length := by
  induction es with
  | nil => rfl
  | cons e r ih => unfold setB at *; rw [List.flatMap_cons, List.length_append, ih, evB_len, List.length_cons]; omega
theorem setB_step {es : List Ev} {j : Nat} (h : j < es.length) {e : Ev} (he : es[j] = e) : setB (es.take (j + 1)) = setB (es.take j) ++ evB e := by
  unfold setB; rw [List.take_succ_eq_append_getElem h, List.flatMap_append, he]; simp
def tmE : List Ev → Int
  | [] => 0
  | e :: _ => e.t
theorem tmE_zero {es : List Ev} (h : 0 < es.length) : es[0].t = tmE es := by cases es with
  | nil => simp at h
  | cons e r => rfl
def okM (es : List Ev) : Prop := ∀ e ∈ es, okE e ∧ e.t = tmE es
def okM.dec (es : List Ev) : Decidable (okM es) := by unfold okM; have := okE.dec; infer_instance
def mesE (seq : Int) (es : List Ev) : Int := if es.length = 0 then 7 else if 64 < es.length then 6 else @ite Int (okM es) (okM.dec es) (msgE seq) 2
def mesT (seq : Int) (es : List Ev) : ByteArray := if es.length = 0 then ByteArray.empty else if 64 < es.length then ByteArray.empty else @ite ByteArray (okM es) (okM.dec es) (msgT (tmE es) seq 300 (setB es)) ByteArray.empty
def mesS (seq : Int) (es : List Ev) : Value := .tuple #[.string (mesT seq es), .int .i64 (mesE seq es)]
theorem mesS_none {seq : Int} {es : List Ev} (h : es.length = 0) : mesS seq es = .tuple #[.string ByteArray.empty, .int .i64 7] := by simp only [mesS, mesT, mesE, if_pos h]
theorem mesS_full {seq : Int} {es : List Ev} (h : 64 < es.length) : mesS seq es = .tuple #[.string ByteArray.empty, .int .i64 6] := by
  have a : ¬ es.length = 0 := by omega
  simp only [mesS, mesT, mesE, if_neg a, if_pos h]
theorem mesS_bad {seq : Int} {es : List Ev} (h0 : 0 < es.length) (h1 : es.length ≤ 64) (h : ¬ okM es) : mesS seq es = .tuple #[.string ByteArray.empty, .int .i64 2] := by
  have a : ¬ es.length = 0 := by omega
  have b : ¬ 64 < es.length := by omega
  simp only [mesS, mesT, mesE, if_neg a, if_neg b, if_neg h]
theorem mesS_ok {seq : Int} {es : List Ev} (h0 : 0 < es.length) (h1 : es.length ≤ 64) (h : okM es) : mesS seq es = msgS (tmE es) seq 300 (setB es) := by
  have a : ¬ es.length = 0 := by omega
  have b : ¬ 64 < es.length := by omega
  simp only [mesS, mesT, mesE, msgS, if_neg a, if_neg b, if_pos h]
def okTo (es : List Ev) (j : Nat) : Prop := ∀ i (h : i < es.length), i < j → okE es[i] ∧ es[i].t = tmE es
theorem okTo_zero (es : List Ev) : okTo es 0 := fun i _ h => absurd h (Nat.not_lt_zero i)
theorem okTo_step {es : List Ev} {j : Nat} (h : okTo es j) (hj : j < es.length) {e : Ev} (he : es[j] = e) (hk : okE e) (ht : e.t = tmE es) : okTo es (j + 1) := fun i hi hij => by
  by_cases e1 : i = j
  · subst e1; rw [he]; exact ⟨hk, ht⟩
  · exact h i hi (by omega)
theorem okTo_all {es : List Ev} {j : Nat} (h : okTo es j) (hj : es.length ≤ j) : okM es := fun e he => by
  obtain ⟨i, hi, rfl⟩ := List.mem_iff_getElem.1 he
  exact h i hi (by omega)
theorem okM_not {es : List Ev} {j : Nat} (hj : j < es.length) {e : Ev} (he : es[j] = e) (h : ¬ (okE e ∧ e.t = tmE es)) : ¬ okM es := fun hm => h (hm e (by rw [← he]; exact List.getElem_mem hj))
theorem EvAt.index0 {w : World} {sl : Value} {es : List Ev} (h : EvAt w sl es) (hl : 0 < es.length) (w2 : World) : (Instr.indexAt 22 sl (.int .i64 0)).run Tryd.prog w2 = .ok (.pointer (some ⟨eb sl, eo sl, none⟩)) w2 := h.index 0 hl w2
theorem EvAt.time0 {w : World} {sl : Value} {es : List Ev} (h : EvAt w sl es) (hl : 0 < es.length) : w.cell? ⟨eb sl, eo sl, none⟩ = some (.int .i64 (tmE es)) := by
  have := h.at 0 hl rfl 0 _ rfl
  rw [tmE_zero hl] at this
  exact this
theorem cell_keepE {w w' : World} {b f : Nat} {v : Value} (h : w.cell? ⟨b, f, none⟩ = some v) (hb : Below w.heap.size w w') : w'.cell? ⟨b, f, none⟩ = some v := by
  have hl : b < w.heap.size := by
    unfold World.cell? at h
    rcases hh : w.heap[b]? with _ | x
    · simp [hh] at h
    · exact (Array.getElem?_eq_some_iff.1 hh).1
  unfold World.cell? at *
  rw [hb.block _ hl]
  exact h
theorem cell_turnE {w w' : World} {b c f : Nat} {v : Value} (h : w.cell? ⟨b, f, none⟩ = some v) (t : Turned c w w') (hlt : b < c) : w'.cell? ⟨b, f, none⟩ = some v := by
  unfold World.cell? at *
  rw [t.other b (by omega)]
  exact h
theorem wpList_loadC {ops : Array Oper} {rest : List Oper} {o : Oper} {a : Act} {w : World} {Q : Exit → Act → World → Prop} (x : Operand) (ho : o.op = .load 3 x) (hw : Region.wanted o (yielded ops a.tmps) = true) (b f : Nat) (hx : a.eval x = .pointer (some ⟨b, f, none⟩)) (n : Int) (hcell : w.cell? ⟨b, f, none⟩ = some (.int .i64 n))
    (hr : wpList Tryd.prog ops Q rest (a.put o.dst (.int .i64 n)) w) : wpList Tryd.prog ops Q (o :: rest) a w :=
  wpList_step fun K hK => by
    rw [if_pos hw]
    unfold Oper.wp execOp
    simp only [ho, hx]
    simp [go_sem, hcell, Tryd.underlying3]
    exact hK _ _ hr
end Go.Proofs.YtnhafdkfjjplkaaDoor
