/-
  Rows and lists of maps in memory, all in one.
-/
import Derived.Deep.DeepFit
import Derived.BigQuiet
import Derived.Test.YtmdijjbkjcnbpaaBindPk
import Derived.Test.YtmdijjbkjcnbpaaPoolD
import Derived.Test.YtmdijjbkjcnbpaaBindWi
import Derived.Test.YtmdijjbkjcnbpaaBindOp
import Derived.Test.YtmdijjbkjcnbpaaBindCl
import Derived.Test.YtmdijjbkjcnbpaaBindZ
namespace Go.Proofs.Ytmdijjbkjcnbpaa
open Go.ChangeShapes Go.WideShapes Go.ChangeAt Go.RowKit
set_option linter.unusedSimpArgs false
set_option linter.unusedVariables false

/-- rows of one's own, apart from each other, and lists of maps that lie in none of them. -/
structure Bd (w W : World) (L : List (Nat × TypeId × Array Value)) (Ms : List (Value × List Mp)) : Prop where
  nodup : (L.map (·.1)).Nodup
  rows : ∀ y ∈ L, Row y.2.1 W y.1 y.2.2 ∧ w.heap.size ≤ y.1
  maps : ∀ q ∈ Ms, MapsAt W q.1 q.2 ∧ ∀ b ∈ L.map (·.1), 0 < q.2.length → mb q.1 ≠ b
  base : Below w.heap.size w W
section
variable {w W W' : World} {L : List (Nat × TypeId × Array Value)} {Ms : List (Value × List Mp)}
theorem Bd.start (w : World) : Bd w w [] [] := ⟨by simp, by simp, by simp, Below.refl _ _⟩
theorem Bd.row (h : Bd w W L Ms) (i : Nat) {b : Nat} {t : TypeId} {cs : Array Value} (hi : L[i]? = some (b, t, cs)) : Row t W b cs := (h.rows _ (List.mem_of_getElem? hi)).1
theorem Bd.map (h : Bd w W L Ms) (k : Nat) {v : Value} {ms : List Mp} (hk : Ms[k]? = some (v, ms)) : MapsAt W v ms := (h.maps _ (List.mem_of_getElem? hk)).1
theorem Bd.below (h : Bd w W L Ms) (hb : Below W.heap.size W W') : Bd w W' L Ms :=
  ⟨h.nodup, fun y hy => ⟨(h.rows y hy).1.below hb, (h.rows y hy).2⟩, fun q hq => ⟨(h.maps q hq).1.below hb, (h.maps q hq).2⟩, h.base.trans (hb.mono h.base.size)⟩
theorem Bd.drew (h : Bd w W L Ms) : Bd w W.drew L Ms := h.below (Below.refl _ _).drew
theorem Bd.drewN (h : Bd w W L Ms) (n : Nat) : Bd w (W.drewN n) L Ms := h.below ⟨rfl, rfl, rfl, Nat.le_refl _, fun _ _ => rfl⟩
theorem Bd.lt (h : Bd w W L Ms) {b : Nat} (hb : b ∈ L.map (·.1)) : b < W.heap.size := by
  obtain ⟨y, hy, rfl⟩ := List.mem_map.1 hb
  exact (h.rows y hy).1.lt
theorem Bd.alloc (h : Bd w W L Ms) {b : Nat} {t : TypeId} {cs : Array Value} (hl : W.heap.size ≤ b) (R : Row t W' b cs) (hb : Below W.heap.size W W') : Bd w W' ((b, t, cs) :: L) Ms := by
  have h' := h.below hb
  refine ⟨?_, fun y hy => ?_, fun q hq => ⟨(h'.maps q hq).1, fun c hc hl0 => ?_⟩, h'.base⟩
  · rw [List.map_cons, List.nodup_cons]
    exact ⟨fun hm => by have := h.lt hm; simp only at *; omega, h.nodup⟩
  · rcases List.mem_cons.1 hy with rfl | hy
    · exact ⟨R, Nat.le_trans h.base.size hl⟩
    · exact h'.rows y hy
  · rw [List.map_cons] at hc
    rcases List.mem_cons.1 hc with rfl | hc
    · have := (h.maps q hq).1.lt hl0; omega
    · exact (h.maps q hq).2 c hc hl0
theorem Bd.turn (h : Bd w W L Ms) (i : Nat) {b : Nat} {t : TypeId} {cs cs' : Array Value} (hi : L[i]? = some (b, t, cs)) (R : Row t W' b cs') (T : Turned b W W') : Bd w W' (L.set i (b, t, cs')) Ms := by
  have hlt : i < L.length := (List.getElem?_eq_some_iff.1 hi).1
  have hLi : L[i] = (b, t, cs) := (List.getElem?_eq_some_iff.1 hi).2
  have hm : (L.set i (b, t, cs')).map (·.1) = L.map (·.1) := by
    apply List.ext_getElem?
    intro j
    rw [List.getElem?_map, List.getElem?_set, List.getElem?_map]
    by_cases hj : i = j
    · subst hj; simp [hlt, hLi]
    · simp [hj]
  have hbm : b ∈ L.map (·.1) := List.mem_map.2 ⟨_, List.mem_of_getElem? hi, rfl⟩
  refine ⟨by rw [hm]; exact h.nodup, fun y hy => ?_, fun q hq => ⟨maps_turned3 (h.maps q hq).1 (fun h0 => (h.maps q hq).2 b hbm h0) T, by rw [hm]; exact (h.maps q hq).2⟩, T.below _ _ (h.rows _ (List.mem_of_getElem? hi)).2 h.base⟩
  obtain ⟨j, hj⟩ := List.mem_iff_getElem?.1 hy
  rw [List.getElem?_set] at hj
  by_cases hij : i = j
  · subst hij
    rw [if_pos rfl, if_pos hlt] at hj
    obtain rfl := Option.some.inj hj
    exact ⟨R, (h.rows _ (List.mem_of_getElem? hi)).2⟩
  · rw [if_neg hij] at hj
    have hy' := List.mem_of_getElem? hj
    refine ⟨T.row (h.rows y hy').1 (fun e => hij ?_), (h.rows y hy').2⟩
    have e1 : (L.map (·.1))[i]? = some b := by rw [List.getElem?_map, hi]; rfl
    have e2 : (L.map (·.1))[j]? = some b := by rw [List.getElem?_map, hj]; simp [e]
    exact (List.getElem?_inj (by simpa using hlt) h.nodup).1 (by rw [e1, e2])
theorem Bd.addNew (h : Bd w W L Ms) {v : Value} {ms : List Mp} (hb : Below W.heap.size W W') (hM : MapsAt W' v ms) (hl : 0 < ms.length → W.heap.size ≤ mb v) : Bd w W' L ((v, ms) :: Ms) := by
  have h' := h.below hb
  refine ⟨h'.nodup, h'.rows, fun q hq => ?_, h'.base⟩
  rcases List.mem_cons.1 hq with rfl | hq
  · exact ⟨hM, fun b hbm h0 => by have := h.lt hbm; have := hl h0; simp only at *; omega⟩
  · exact h'.maps q hq
theorem maps_len {W W' : World} {v : Value} {ms ms' : List Mp} (h : MapsAt W v ms) (h' : MapsAt W' v ms') : ms.length = ms'.length := by
  obtain ⟨a, c, e, _⟩ := h
  obtain ⟨a', c', e', _⟩ := h'
  rw [e] at e'
  simp at e'
  exact e'.2.1
theorem Bd.addEither (h : Bd w W L Ms) (k : Nat) {sl v : Value} {ms ms' : List Mp} (hk : Ms[k]? = some (sl, ms)) (hb : Below W.heap.size W W') (hM : MapsAt W' v ms') (ho : v = sl ∨ W.heap.size ≤ mb v) : Bd w W' L ((v, ms') :: Ms) := by
  rcases ho with rfl | ho
  · have h' := h.below hb
    refine ⟨h'.nodup, h'.rows, fun q hq => ?_, h'.base⟩
    rcases List.mem_cons.1 hq with rfl | hq
    · exact ⟨hM, fun b hbm h0 => (h.maps _ (List.mem_of_getElem? hk)).2 b hbm (by rw [maps_len (h.map k hk) hM]; exact h0)⟩
    · exact h'.maps q hq
  · exact h.addNew hb hM (fun _ => ho)
theorem Bd.two (h : Bd w W L Ms) (i j : Nat) (hij : i ≠ j) {y1 y2 : Nat × TypeId × Array Value} (hi : L[i]? = some y1) (hj : L[j]? = some y2) (k : Nat) {q : Value × List Mp} (hk : Ms[k]? = some q) : Bd w W [y1, y2] [q] := by
  have m1 := List.mem_of_getElem? hi
  have m2 := List.mem_of_getElem? hj
  have b1 : y1.1 ∈ L.map (·.1) := List.mem_map.2 ⟨_, m1, rfl⟩
  have b2 : y2.1 ∈ L.map (·.1) := List.mem_map.2 ⟨_, m2, rfl⟩
  have hne : y1.1 ≠ y2.1 := fun e => hij (by
    have e1 : (L.map (·.1))[i]? = some y1.1 := by rw [List.getElem?_map, hi]; rfl
    have e2 : (L.map (·.1))[j]? = some y1.1 := by rw [List.getElem?_map, hj]; simp [e]
    exact (List.getElem?_inj (by simpa using (List.getElem?_eq_some_iff.1 hi).1) h.nodup).1 (by rw [e1, e2]))
  refine ⟨by simp [hne], fun y hy => ?_, fun p hp => ?_, h.base⟩
  · rcases List.mem_cons.1 hy with rfl | hy
    · exact h.rows _ m1
    · obtain rfl := List.mem_singleton.1 hy
      exact h.rows _ m2
  · obtain rfl := List.mem_singleton.1 hp
    have hm := h.maps _ (List.mem_of_getElem? hk)
    refine ⟨hm.1, fun b hb => ?_⟩
    simp only [List.map_cons, List.map_nil, List.mem_cons, List.not_mem_nil, or_false] at hb
    rcases hb with rfl | rfl
    · exact hm.2 _ b1
    · exact hm.2 _ b2
end
end Go.Proofs.Ytmdijjbkjcnbpaa
