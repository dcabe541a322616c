/-
  Of what BindCloses, BindOpens stands on: part 25.
-/
import Derived.DeepKeys
import Derived.Deep.RegionHeld3
import Derived.Deep.DeepFit
import Derived.BigQuiet
import Derived.Test.YtmdijjbkjcnbpaaRows
import Derived.WalkKit
import Derived.ProofKit
import Derived.OpenShut
import Derived.Outline
import Derived.WalkSpells
import Derived.SizedLaws
import Derived.Deep.Slices
import Derived.Test.YtmdijjbkjcnbpaaBindCO7
import Derived.Test.YtmdijjbkjcnbpaaBindCO8
import Derived.Test.YtmdijjbkjcnbpaaBindCO13
import Derived.Test.YtmdijjbkjcnbpaaBindCO14
import Derived.Test.YtmdijjbkjcnbpaaBindCO18
import Derived.Test.YtmdijjbkjcnbpaaBindCO22
import Derived.Test.YtmdijjbkjcnbpaaBindCO24
namespace Go.Proofs.Ytmdijjbkjcnbpaa
open Go.ChangeShapes Go.WideShapes Go.ChangeAt Go.RowKit
set_option linter.unusedSimpArgs false
set_option linter.unusedVariables false

theorem index_runM {w : World} {sl : Value} {ms : List Mp} (hM : MapsAt w sl ms) (j : Nat) (hj : j < ms.length) (w2 : World) : (Instr.indexAt 28 sl (.int .i64 (j : Int))).run Try.prog w2 = .ok (.pointer (some ⟨mb sl, mo sl + 5 * j, none⟩)) w2 := by
  obtain ⟨a0, cap, e, h1, h2, h3⟩ := hM
  have e1 := h1 (by omega)
  generalize mb sl = B at *
  generalize mo sl = O at *
  subst e1
  subst e
  have hn : ((j : Int)).toNat < ms.length := by simpa using hj
  have hjl : (j : Int) < (ms.length : Int) := by omega
  have hs : (sizeOf 32).run Try.prog w2 = .ok 5 w2 := by kernel_rfl
  simp [go_sem, hj, hn, hjl, Try.underlying28, hs]
theorem yields_indexR {ops : Array Oper} {S : World → Prop} {o : Oper} {a : Act} (x y : Operand) (ho : o.op = .indexAddr 28 x y) (hw : Region.wanted o (yielded ops a.tmps) = true) (p i q : Value) (hx : a.eval x = p) (hy : a.eval y = i) (hrun : ∀ w : World, (Instr.indexAt 28 p i).run Try.prog w = .ok q w) : YieldsIf Try.prog ops S o q a :=
  .inl ⟨hw, fun w _ => by unfold execOp; simp only [ho, hx, hy, Sem.run_bind, hrun w, Result.andThen_ok, Sem.run_pure]⟩
theorem yields_neS {ops : Array Oper} {S : World → Prop} {o : Oper} {a : Act} (t : TypeId) (x y : Operand) (ho : o.op = .binOp .neq t x y t) (hw : Region.wanted o (yielded ops a.tmps) = true)
    (xs ys : Array Value) (hx : a.eval x = .agg xs) (hy : a.eval y = .agg ys) (hg : Try.prog.eqGuardType Try.prog.depth t = false) (r q : Bool) (he : ∀ w : World, (Op.equalIn 10000 t (.agg xs) (.agg ys)).run Try.prog w = .ok r w) (hq : (!r) = q) : YieldsIf Try.prog ops S o (.bool q) a :=
  .inl ⟨hw, fun w _ => by
    subst hq
    unfold execOp
    simp only [ho, hx, hy, Sem.run_bind, run_eqGuard_agg w .neq t x y xs ys hg, run_neq_struct, he w, Result.andThen_ok, Sem.run_pure]⟩
theorem yields_loadQ {ops : Array Oper} {S : World → Prop} {o : Oper} {a : Act} (t : TypeId) (x : Operand) (ho : o.op = .load t x) (hw : Region.wanted o (yielded ops a.tmps) = true) (b k : Nat) (hx : a.eval x = .pointer (some ⟨b, k, none⟩)) (l : List Value) (hS : ∀ w, S w → w.rangeAt b k l)
    (d : TypeDesc) (hu : Try.prog.underlying t = some d) (hd : d.isRow = true) (hi : (Try.prog.info? t).map (·.size) = some l.length) : YieldsIf Try.prog ops S o (.agg l.toArray) a :=
  yieldsIf_load_mid (P := Try.prog) (S := S) hw t x ho b k hx l d hS hu hd hi
theorem wpList_loadW {ops : Array Oper} {rest : List Oper} {o : Oper} {a : Act} {w : World} {Q : Exit → Act → World → Prop} (t : TypeId) (x : Operand) (ho : o.op = .load t x) (hw : Region.wanted o (yielded ops a.tmps) = true) (b k : Nat) (hx : a.eval x = .pointer (some ⟨b, k, none⟩)) (l : List Value) (hc : w.rangeAt b k l)
    (d : TypeDesc) (hu : Try.prog.underlying t = some d) (hd : d.isRow = true) (hi : (Try.prog.info? t).map (·.size) = some l.length) (hr : wpList Try.prog ops Q rest (a.put o.dst (.agg l.toArray)) w) : wpList Try.prog ops Q (o :: rest) a w :=
  wpList_step fun K hK => by
    rw [if_pos hw]
    exact wp_load_mid t x ho b k hx l d hc hu hd hi (hK _ _ hr)
theorem eqTo_self (f : Nat → Int) (n : Nat) : eqTo f f n = true := (eqTo_iff f f n).2 fun _ _ => rfl
theorem below_drewB {B : Nat} {w0 w : World} (h : Below B w0 w) : Below B w0 w.drew := ⟨h.os, h.tape, h.output, h.size, h.block⟩
end Go.Proofs.Ytmdijjbkjcnbpaa

namespace Go.Proofs.Ytmdijjbkjcnbpaa
open Go.ChangeShapes Go.WideShapes Go.ChangeAt Go.RowKit
set_option linter.unusedSimpArgs false
set_option linter.unusedVariables false

/-- rows of one's own, apart from each other, and lists of maps that lie in none of them. -/
structure Bd (w W : World) (L : List (Nat × TypeId × Array Value)) (Ms : List (Value × List Mp)) : Prop where
  nodup : (L.map (·.1)).Nodup
  rows : ∀ y ∈ L, Row y.2.1 W y.1 y.2.2 ∧ w.heap.size ≤ y.1
  maps : ∀ q ∈ Ms, MapsAt W q.1 q.2 ∧ ∀ b ∈ L.map (·.1), 0 < q.2.length → mb q.1 ≠ b
  base : Below w.heap.size w W
section
variable {w W W' : World} {L : List (Nat × TypeId × Array Value)} {Ms : List (Value × List Mp)}
theorem Bd.start (w : World) : Bd w w [] [] := ⟨by simp, by simp, by simp, Below.refl _ _⟩
theorem Bd.row (h : Bd w W L Ms) (i : Nat) {b : Nat} {t : TypeId} {cs : Array Value} (hi : L[i]? = some (b, t, cs)) : Row t W b cs := (h.rows _ (List.mem_of_getElem? hi)).1
theorem Bd.map (h : Bd w W L Ms) (k : Nat) {v : Value} {ms : List Mp} (hk : Ms[k]? = some (v, ms)) : MapsAt W v ms := (h.maps _ (List.mem_of_getElem? hk)).1
theorem Bd.below (h : Bd w W L Ms) (hb : Below W.heap.size W W') : Bd w W' L Ms :=
  ⟨h.nodup, fun y hy => ⟨(h.rows y hy).1.below hb, (h.rows y hy).2⟩, fun q hq => ⟨(h.maps q hq).1.below hb, (h.maps q hq).2⟩, h.base.trans (hb.mono h.base.size)⟩
theorem Bd.drew (h : Bd w W L Ms) : Bd w W.drew L Ms := h.below (Below.refl _ _).drew
theorem Bd.lt (h : Bd w W L Ms) {b : Nat} (hb : b ∈ L.map (·.1)) : b < W.heap.size := by
  obtain ⟨y, hy, rfl⟩ := List.mem_map.1 hb
  exact (h.rows y hy).1.lt
theorem Bd.alloc (h : Bd w W L Ms) {b : Nat} {t : TypeId} {cs : Array Value} (hl : W.heap.size ≤ b) (R : Row t W' b cs) (hb : Below W.heap.size W W') : Bd w W' ((b, t, cs) :: L) Ms := by
  have h' := h.below hb
  refine ⟨?_, fun y hy => ?_, fun q hq => ⟨(h'.maps q hq).1, fun c hc hl0 => ?_⟩, h'.base⟩
  · rw [List.map_cons, List.nodup_cons]
    exact ⟨fun hm => by have := h.lt hm; simp only at *; omega, h.nodup⟩
  · rcases List.mem_cons.1 hy with rfl | hy
    · exact ⟨R, Nat.le_trans h.base.size hl⟩
    · exact h'.rows y hy
  · rw [List.map_cons] at hc
    rcases List.mem_cons.1 hc with rfl | hc
    · have := (h.maps q hq).1.lt hl0; omega
    · exact (h.maps q hq).2 c hc hl0
theorem Bd.turn (h : Bd w W L Ms) (i : Nat) {b : Nat} {t : TypeId} {cs cs' : Array Value} (hi : L[i]? = some (b, t, cs)) (R : Row t W' b cs') (T : Turned b W W') : Bd w W' (L.set i (b, t, cs')) Ms := by
  have hlt : i < L.length := (List.getElem?_eq_some_iff.1 hi).1
  have hLi : L[i] = (b, t, cs) := (List.getElem?_eq_some_iff.1 hi).2
  have hm : (L.set i (b, t, cs')).map (·.1) = L.map (·.1) := by
    apply List.ext_getElem?
    intro j
    rw [List.getElem?_map, List.getElem?_set, List.getElem?_map]
    by_cases hj : i = j
    · subst hj; simp [hlt, hLi]
    · simp [hj]
  have hbm : b ∈ L.map (·.1) := List.mem_map.2 ⟨_, List.mem_of_getElem? hi, rfl⟩
  refine ⟨by rw [hm]; exact h.nodup, fun y hy => ?_, fun q hq => ⟨maps_turned3 (h.maps q hq).1 (fun h0 => (h.maps q hq).2 b hbm h0) T, by rw [hm]; exact (h.maps q hq).2⟩, T.below _ _ (h.rows _ (List.mem_of_getElem? hi)).2 h.base⟩
  obtain ⟨j, hj⟩ := List.mem_iff_getElem?.1 hy
  rw [List.getElem?_set] at hj
  by_cases hij : i = j
  · subst hij
    rw [if_pos rfl, if_pos hlt] at hj
    obtain rfl := Option.some.inj hj
    exact ⟨R, (h.rows _ (List.mem_of_getElem? hi)).2⟩
  · rw [if_neg hij] at hj
    have hy' := List.mem_of_getElem? hj
    refine ⟨T.row (h.rows y hy').1 (fun e => hij ?_), (h.rows y hy').2⟩
    have e1 : (L.map (·.1))[i]? = some b := by rw [List.getElem?_map, hi]; rfl
    have e2 : (L.map (·.1))[j]? = some b := by rw [List.getElem?_map, hj]; simp [e]
    exact (List.getElem?_inj (by simpa using hlt) h.nodup).1 (by rw [e1, e2])
theorem Bd.addNew (h : Bd w W L Ms) {v : Value} {ms : List Mp} (hb : Below W.heap.size W W') (hM : MapsAt W' v ms) (hl : 0 < ms.length → W.heap.size ≤ mb v) : Bd w W' L ((v, ms) :: Ms) := by
  have h' := h.below hb
  refine ⟨h'.nodup, h'.rows, fun q hq => ?_, h'.base⟩
  rcases List.mem_cons.1 hq with rfl | hq
  · exact ⟨hM, fun b hbm h0 => by have := h.lt hbm; have := hl h0; simp only at *; omega⟩
  · exact h'.maps q hq
theorem maps_len {W W' : World} {v : Value} {ms ms' : List Mp} (h : MapsAt W v ms) (h' : MapsAt W' v ms') : ms.length = ms'.length := by
  obtain ⟨a, c, e, _⟩ := h
  obtain ⟨a', c', e', _⟩ := h'
  rw [e] at e'
  simp at e'
  exact e'.2.1
theorem Bd.addEither (h : Bd w W L Ms) (k : Nat) {sl v : Value} {ms ms' : List Mp} (hk : Ms[k]? = some (sl, ms)) (hb : Below W.heap.size W W') (hM : MapsAt W' v ms') (ho : v = sl ∨ W.heap.size ≤ mb v) : Bd w W' L ((v, ms') :: Ms) := by
  rcases ho with rfl | ho
  · have h' := h.below hb
    refine ⟨h'.nodup, h'.rows, fun q hq => ?_, h'.base⟩
    rcases List.mem_cons.1 hq with rfl | hq
    · exact ⟨hM, fun b hbm h0 => (h.maps _ (List.mem_of_getElem? hk)).2 b hbm (by rw [maps_len (h.map k hk) hM]; exact h0)⟩
    · exact h'.maps q hq
  · exact h.addNew hb hM (fun _ => ho)
theorem Bd.two (h : Bd w W L Ms) (i j : Nat) (hij : i ≠ j) {y1 y2 : Nat × TypeId × Array Value} (hi : L[i]? = some y1) (hj : L[j]? = some y2) (k : Nat) {q : Value × List Mp} (hk : Ms[k]? = some q) : Bd w W [y1, y2] [q] := by
  have m1 := List.mem_of_getElem? hi
  have m2 := List.mem_of_getElem? hj
  have b1 : y1.1 ∈ L.map (·.1) := List.mem_map.2 ⟨_, m1, rfl⟩
  have b2 : y2.1 ∈ L.map (·.1) := List.mem_map.2 ⟨_, m2, rfl⟩
  have hne : y1.1 ≠ y2.1 := fun e => hij (by
    have e1 : (L.map (·.1))[i]? = some y1.1 := by rw [List.getElem?_map, hi]; rfl
    have e2 : (L.map (·.1))[j]? = some y1.1 := by rw [List.getElem?_map, hj]; simp [e]
    exact (List.getElem?_inj (by simpa using (List.getElem?_eq_some_iff.1 hi).1) h.nodup).1 (by rw [e1, e2]))
  refine ⟨by simp [hne], fun y hy => ?_, fun p hp => ?_, h.base⟩
  · rcases List.mem_cons.1 hy with rfl | hy
    · exact h.rows _ m1
    · obtain rfl := List.mem_singleton.1 hy
      exact h.rows _ m2
  · obtain rfl := List.mem_singleton.1 hp
    have hm := h.maps _ (List.mem_of_getElem? hk)
    refine ⟨hm.1, fun b hb => ?_⟩
    simp only [List.map_cons, List.map_nil, List.mem_cons, List.not_mem_nil, or_false] at hb
    rcases hb with rfl | rfl
    · exact hm.2 _ b1
    · exact hm.2 _ b2
end
end Go.Proofs.Ytmdijjbkjcnbpaa
