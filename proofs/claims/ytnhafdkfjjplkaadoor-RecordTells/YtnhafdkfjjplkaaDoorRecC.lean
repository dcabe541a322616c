/-
  A list of events, copied; and one that comes in, opened.
-/
import Derived.Test.YtnhafdkfjjplkaaDoorRecO
import Derived.Deep.AppendSrc
import Derived.Deep.Slices
import Derived.SizedLaws
namespace Go.Proofs.YtnhafdkfjjplkaaDoor
open Go.ChangeShapes Go.WideShapes Go.ChangeAt Go.RowKit
set_option linter.unusedSimpArgs false
set_option linter.unusedVariables false

theorem flat_len (es : List Ev) : (es.flatMap ecl).length = es.length * 5 := by
  induction es with
  | nil => rfl
  | cons e r ih => rw [List.flatMap_cons, List.length_append, ih, List.length_cons]; simp [ecl]; omega
theorem flat_at (es : List Ev) (q r : Nat) (hq : q < es.length) (hr : r < 5) : (es.flatMap ecl)[5 * q + r]? = (ecl es[q])[r]? := by
  induction es generalizing q with
  | nil => simp at hq
  | cons e l ih =>
    rw [List.flatMap_cons]
    have hl : (ecl e).length = 5 := rfl
    cases q with
    | zero => rw [List.getElem?_append_left (by omega)]; simp
    | succ q =>
      rw [List.getElem?_append_right (by omega), hl, show 5 * (q + 1) + r - 5 = 5 * q + r by omega, ih q (by simpa using hq)]
      simp
theorem flat_one (es : List Ev) : ∀ u ∈ es.flatMap ecl, u.oneCell' = true := by
  intro u hu
  obtain ⟨e, _, he⟩ := List.mem_flatMap.1 hu
  simp [ecl] at he
  rcases he with rfl | rfl | rfl | rfl | rfl <;> rfl
theorem info_event : (Tryd.prog.info? 29).map (fun i => (i.zero, i.size, i.bytes)) = some (some (.agg (ec noE)), 5, 40) := by kernel_rfl
theorem EvAt.src {w : World} {sl : Value} {es : List Ev} (h : EvAt w sl es) : Src Tryd.prog 5 22 sl es.length (es.flatMap ecl) w := by
  obtain ⟨a, cap, e, h1, h2, h3⟩ := h
  have hc : ∀ B O, (∀ j (hj : j < es.length), w.rangeAt B (O + 5 * j) (ecl es[j])) → ∀ j u, (es.flatMap ecl)[j]? = some u → w.cell? ⟨B, O + j, none⟩ = some u := by
    intro B O hh j u hu
    have hj : j < es.length * 5 := by have := (List.getElem?_eq_some_iff.1 hu).1; rw [flat_len] at this; exact this
    have e1 : j = 5 * (j / 5) + j % 5 := by omega
    have hq : j / 5 < es.length := by omega
    rw [e1, flat_at es (j / 5) (j % 5) hq (by omega)] at hu
    have := hh (j / 5) hq (j % 5) u hu
    rw [show O + 5 * (j / 5) + j % 5 = O + j by omega] at this
    exact this
  cases hes : es with
  | nil =>
    subst hes
    subst e
    cases a with
    | none => exact Src.ofNil w Tryd.underlying22 cap
    | some a => exact Src.ofSlice w Tryd.underlying22 a 0 cap [] rfl (fun j u hu => by simp at hu) (fun _ h => by cases h)
  | cons e0 r =>
    rw [← hes]
    have e1 := h1 (by rw [hes]; simp)
    have hc' := hc _ _ h2
    generalize eb sl = B at *
    generalize eo sl = O at *
    subst e1
    subst e
    exact Src.ofSlice w Tryd.underlying22 ⟨B, O, none⟩ es.length cap _ (flat_len es) (fun j u hu => by rw [Addr.add_lit]; exact hc' j u hu) (flat_one es)
theorem run_copyE {w : World} {sl : Value} {es : List Ev} (h : EvAt w sl es) (ty : TypeId) : ∃ v' w', (Builtin.append_ #[22, 22] ty #[.slice none 0 0, sl]).run Tryd.prog w = .ok v' w' ∧ EvAt w' v' es ∧ Below w.heap.size w w' := by
  have hlen := h.len
  have hs := h.src
  obtain ⟨i0, hi, hz0, hz1, hz2⟩ := info_parts info_event
  by_cases hm : es.length = 0
  · have hes : es = [] := List.eq_nil_of_length_eq_zero hm
    subst hes
    refine ⟨.slice none 0 0, w, ?_, ⟨none, 0, rfl, fun h => absurd h (by simp), fun j hj => absurd hj (by simp), by simp⟩, Below.refl _ _⟩
    have hs' : Src Tryd.prog i0.size 22 sl 0 [] w := by rw [hz1]; exact hs
    simp [Builtin.append_, run_underlying Tryd.underlying22, sizeOf, typeInfo, hi, hs'.len, hs'.cells]
  · have hr := run_append_grow_src (P := Tryd.prog) w 22 22 ty 29 i0 (.agg (ec noE)) Tryd.underlying22 hi hz0 none 0 0 [] (by simpa using run_firstCells_none (P := Tryd.prog) w.drew i0.size 0 0 0) sl es.length (es.flatMap ecl) (by rw [hz1]; exact hs) (by omega) (by omega)
      (by rw [hz2, Nat.zero_add, nextslicecap_zero (by omega)]; omega)
    simp only [Nat.zero_add, List.nil_append] at hr
    refine ⟨_, _, hr, ⟨_, _, rfl, fun _ => rfl, fun j hj i v hv => ?_, hlen⟩, ((Below.refl _ _).drew).alloc (by simp) _⟩
    have hi5 : i < 5 := by have := (List.getElem?_eq_some_iff.1 hv).1; simpa [ecl] using this
    show World.cell? _ ⟨w.heap.size, 0 + 5 * j + i, none⟩ = some v
    have hn := heap_alloc_new w.drew (.cells ((es.flatMap ecl).toArray ++ Builtin.zeroCells (Value.agg (ec noE)).cells (grownCap w es.length 0 29 - es.length)) 29)
    have hn' : (w.drew.alloc (.cells ((es.flatMap ecl).toArray ++ Builtin.zeroCells (Value.agg (ec noE)).cells (grownCap w es.length 0 29 - es.length)) 29)).heap[w.heap.size]? = _ := hn
    simp only [World.cell?, hn', Nat.zero_add]
    have hl5 : 5 * j + i < (es.flatMap ecl).length := by rw [flat_len]; omega
    have : ((es.flatMap ecl).toArray ++ Builtin.zeroCells (Value.agg (ec noE)).cells (grownCap w es.length 0 29 - es.length))[5 * j + i]? = some v := by
      rw [Array.getElem?_append_left (by simpa using hl5)]
      have := flat_at es j i hj hi5
      simpa using this.trans hv
    simpa using this
theorem wpList_copyE {ops : Array Oper} {rest : List Oper} {o : Oper} {a : Act} {w : World} {Q : Exit → Act → World → Prop} (hgd : o.guard = none) (x y : Operand) (ho : o.op = .call { callee := .builtin .append, args := #[x, y], argTypes := #[22, 22] })
    (sl : Value) (es : List Ev) (hM : EvAt w sl es) (hx : a.eval x = .slice none 0 0) (hy : a.eval y = sl)
    (hr : ∀ v' w', EvAt w' v' es → Below w.heap.size w w' → wpList Tryd.prog ops Q rest (a.put o.dst v') w') : wpList Tryd.prog ops Q (o :: rest) a w :=
  wpList_plain hgd fun K hK => by
    obtain ⟨v', w', hrun, h1, h2⟩ := run_copyE hM o.type
    unfold Oper.wp execOp
    simp only [ho, resolve, invoke, builtin, Sem.run_bind, Sem.run_pure, Result.andThen_ok, List.map_toArray, List.map_cons, List.map_nil, hx, hy, hrun]
    exact hK _ _ (hr v' w' h1 h2)
set_option maxRecDepth 100000 in
theorem open_event_cells {H : Type} {enc : TypeId × Value → H} {w : World} {base : Nat} {sp : Nat → Bool} {held : Bool} {fuel : Nat} {l : List Value} {x : DataW H × List MemPlace} (hl0 : l.length = 5) (hf0 : DataW.trod enc Tryd.prog w base sp held fuel 29 l = some x) : ∃ e : Ev, l = ecl e := by
  have cI : Tryd.prog.cellsOf 3 = 1 := by kernel_rfl
  have cB : Tryd.prog.cellsOf 4 = 1 := by kernel_rfl
  obtain ⟨ys, m, _, hx, _, hl, hf⟩ := DataW.trod_struct Tryd.underlying29 hf0
  match l, hl0 with
  | [c0, c1, c2, c3, c4], _ =>
  match ys, hl with
  | [y0, y1, y2, y3, y4], _ =>
  have hv0 := hf 0 _ rfl
  have hv1 := hf 1 _ rfl
  have hv2 := hf 2 _ rfl
  have hv3 := hf 3 _ rfl
  have hv4 := hf 4 _ rfl
  simp [cI, cB] at hv0 hv1 hv2 hv3 hv4
  obtain ⟨x0, e0, rfl, s0⟩ := DataW.trod_int Tryd.underlying3 hv0
  obtain ⟨x1, e1, rfl, s1⟩ := DataW.trod_int Tryd.underlying3 hv1
  obtain ⟨x2, e2, rfl, s2⟩ := DataW.trod_int Tryd.underlying3 hv2
  obtain ⟨x3, e3, rfl, s3⟩ := DataW.trod_int Tryd.underlying3 hv3
  obtain ⟨x4, e4, rfl⟩ := DataW.trod_bool Tryd.underlying4 hv4
  simp at e0 e1 e2 e3 e4
  subst e0 e1 e2 e3 e4
  exact ⟨⟨x0, x1, x2, x3, x4⟩, rfl⟩
theorem open_events {H : Type} {enc : TypeId × Value → H} {w : World} {sp : Nat → Bool} {held : Bool} {fuel : Nat} {l : List Value} {x : DataW H × List MemPlace} (hf0 : DataW.trod enc Tryd.prog w 0 sp held fuel 22 l = some x) (hw : ∀ y ∈ x.1.weights Tryd.prog 22, y ≤ reachBytes) : ∃ sl, ∃ es : List Ev, l = [sl] ∧ EvAt w sl es := by
  have c5 : Tryd.prog.cellsOf 29 = 5 := by kernel_rfl
  have hby : Tryd.prog.bytesOf 29 = 40 := by kernel_rfl
  rcases Go.Deep.open_slice Tryd.underlying22 hf0 with ⟨rfl, rfl⟩ | ⟨a, len, cap, m, n, D, Pl, rfl, hb, hl, hm, hmm, rfl, hx⟩
  · exact ⟨_, [], rfl, none, 0, rfl, fun h => absurd h (by simp), fun j hj => absurd hj (by simp), by simp⟩
  · have hlm : len ≤ m := by rw [hmm]; split <;> omega
    have hbd : len ≤ 3518437208780 := by
      have h1 := hw _ (by simp only [DataW.weights, Tryd.underlying22]; exact List.mem_cons_self)
      rw [hby] at h1
      simp [reachBytes] at h1
      omega
    have each : ∀ i, i < len → ∃ q : Ev, ∀ k v, (ecl q)[k]? = some v → w.cell? (a.add (5 * i + k)) = some v := by
      intro i hi
      obtain ⟨cs', h1, h2⟩ := hx i (by omega)
      rw [c5] at h1
      obtain ⟨_, hlen, hcell⟩ := World.cells?_some h1
      obtain ⟨q, rfl⟩ := open_event_cells hlen h2
      refine ⟨q, fun k v hv => ?_⟩
      have hk : k < 5 := by have := (List.getElem?_eq_some_iff.1 hv).1; simpa [ecl] using this
      have := hcell k hk
      rw [Go.Deep.add_add, Nat.mul_comm i 5] at this
      first | exact this.trans hv | (rw [this]; simpa using hv)
    haveI : Inhabited Ev := ⟨noE⟩
    obtain ⟨q, hq⟩ := Go.Deep.choose_lt each
    have hsp : 0 < len → a = ⟨a.block, a.off, none⟩ := by
      intro h0
      have := hq 0 h0 0 _ rfl
      obtain ⟨b, off, spot⟩ := a
      have hspot : spot = none := by simpa [Addr.add] using World.cell?_spot this
      subst hspot
      rfl
    refine ⟨_, (List.range len).map q, rfl, some a, cap, by simp, fun h0 => ?_, fun j hj k v hv => ?_, by simpa using hbd⟩
    · rw [hsp (by simpa using h0)]; rfl
    · have hj' : j < len := by simpa using hj
      have e1 : ((List.range len).map q)[j] = q j := by simp
      rw [e1] at hv
      have := hq j hj' k v hv
      rw [hsp (by omega), Addr.add_lit] at this
      show w.cell? ⟨a.block, a.off + 5 * j + k, none⟩ = some v
      rw [Nat.add_assoc]
      exact this
end Go.Proofs.YtnhafdkfjjplkaaDoor
