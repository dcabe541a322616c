/-
  Events of the call's own, added to.
-/
import Derived.Test.YtnhafdkfjjplkaaDoorRecC
import Derived.Test.YtnhafdkfjjplkaaDoorRecY
import Derived.Maps.AppendAt
namespace Go.Proofs.YtnhafdkfjjplkaaDoor
open Go.ChangeShapes Go.WideShapes Go.ChangeAt Go.RowKit
set_option linter.unusedSimpArgs false
set_option linter.unusedVariables false

/-- a list of events of the call's own. -/
def EvO (w : World) (base : Nat) (v : Value) (es : List Ev) : Prop := w.ownsRow base 29 5 v es.length (es.flatMap ecl)
theorem EvO.nil (w : World) (base : Nat) : EvO w base (.slice none 0 0) [] := World.ownsRow_nil w base 29 5
theorem EvO.keep {w w' : World} {base : Nat} {v : Value} {es : List Ev} (h : EvO w base v es) (hk : ∀ g, v.ownBlock = some g → w'.heap[g]? = w.heap[g]?) : EvO w' base v es := by
  refine ⟨h.1, ?_⟩
  rcases h.2 with e | ⟨b, cap, cur, hv, hbb, hh, r⟩
  · exact .inl e
  · exact .inr ⟨b, cap, cur, hv, hbb, (hk b (by rw [hv]; rfl)).trans hh, r⟩
theorem EvO.ge {w : World} {base : Nat} {v : Value} {es : List Ev} (h : EvO w base v es) : ∀ k, v.ownBlock = some k → base ≤ k ∧ k < w.heap.size := fun k hk => h.lt k hk
theorem EvO.below {w w' : World} {base : Nat} {v : Value} {es : List Ev} (h : EvO w base v es) (hb : Below w.heap.size w w') : EvO w' base v es := h.keep (fun g hg => hb.block g (h.ge g hg).2)
theorem EvO.moved {w w' : World} {base p : Nat} {v : Value} {es : List Ev} (h : EvO w base v es) (hm : Moved p w w') (hp : p < base) : EvO w' base v es := h.keep (fun g hg => hm.block g (h.ge g hg).2 (by have := (h.ge g hg).1; omega))
theorem EvO.turned {w w' : World} {base b : Nat} {v : Value} {es : List Ev} (h : EvO w base v es) (t : Turned b w w') (hne : v.ownBlock ≠ some b) : EvO w' base v es := h.keep (fun g hg => t.other g (fun e => hne (by rw [hg, e])))
theorem EvO.new {w : World} {base b : Nat} {v : Value} {es : List Ev} (h : EvO w base v es) (hb : w.heap.size ≤ b) : v.ownBlock ≠ some b := fun e => by have := (h.ge b e).2; omega
theorem EvO.slice {w : World} {base : Nat} {v : Value} {es : List Ev} (h : EvO w base v es) : ∃ a cap, v = .slice a es.length cap := by
  rcases h.2 with ⟨e, n0⟩ | ⟨b, cap, cur, hv, _⟩
  · exact ⟨none, 0, by rw [e, n0]⟩
  · exact ⟨_, _, hv⟩
theorem EvO.at {w : World} {base : Nat} {v : Value} {es : List Ev} (h : EvO w base v es) (hl : es.length ≤ 3518437208780) : EvAt w v es := by
  rcases h.2 with ⟨e, n0⟩ | ⟨b, cap, cur, hv, hbb, hh, hnc, hcm, hcs, ht⟩
  · have : es = [] := List.eq_nil_of_length_eq_zero n0
    subst this
    exact ⟨none, 0, e, fun h => absurd h (by simp), fun j hj => absurd hj (by simp), by simp⟩
  · subst hv
    refine ⟨_, _, rfl, fun _ => rfl, fun j hj i u hu => ?_, hl⟩
    have hi5 : i < 5 := by have := (List.getElem?_eq_some_iff.1 hu).1; simpa [ecl] using this
    show w.cell? ⟨b, 0 + 5 * j + i, none⟩ = some u
    have e := (flat_at es j i hj hi5).trans hu
    rw [← ht, List.getElem?_take_of_lt (by omega)] at e
    simp only [World.cell?, hh, Nat.zero_add]
    simpa using e
theorem flat_push (es : List Ev) (e : Ev) : (es ++ [e]).flatMap ecl = es.flatMap ecl ++ ecl e := by rw [List.flatMap_append]; simp
theorem ec_at (e : Ev) (j : Nat) : (ec e)[j]? = (ecl e)[j]? := by show (ecl e).toArray[j]? = _; simp
theorem run_pushE {w : World} {base b : Nat} {v : Value} {es : List Ev} {e : Ev} (h : EvO w base v es) (R : Row 29 w b (ec e)) (hl : es.length ≤ 5000000000) (hbase : base ≤ w.heap.size) (ty : TypeId) :
    ∃ v' w', (Builtin.append_ #[22, 22] ty #[v, .slice (some ⟨b, 0, none⟩) 1 1]).run Tryd.prog w = .ok v' w' ∧ EvO w' base v' (es ++ [e]) ∧ Grew v v' w w' := by
  obtain ⟨i0, hi, hz0, hz1, hz2⟩ := info_parts info_event
  obtain ⟨v', w', h1, h2, h3, _, h5⟩ := run_append_own_at (P := Tryd.prog) w base 22 ty 29 i0 (.agg (ec noE)) 5 40 Tryd.underlying22 hi hz0 hz1 hz2 rfl (by decide) v es.length (es.flatMap ecl) h ⟨b, 0, none⟩ 1 1 (ecl e) rfl
    (fun j u hu => by rw [Addr.add_lit, Nat.zero_add]; exact (R.cell j).trans ((ec_at e j).trans hu)) (by intro u hu; simp [ecl] at hu; rcases hu with rfl | rfl | rfl | rfl | rfl <;> rfl) (by unfold maxLen; omega) (by omega) hbase
  refine ⟨v', w', h1, ?_, ⟨h3, ?_⟩⟩
  · unfold EvO; rw [flat_push, List.length_append]; exact h2
  · rcases h5 with e | e
    · exact .inl e
    · exact .inr ⟨_, e, Nat.le_refl _⟩
theorem run_buildE (e : Ev) (w : World) : (Instr.buildSlice 22 1 #[(0, .agg (ec e))]).run Tryd.prog w = .ok (.slice (some ⟨w.heap.size, 0, none⟩) 1 1) (w.alloc (.cells (ec e) 29)) := by
  obtain ⟨t, s, a, b, fr⟩ := e
  kernel_rfl
theorem wp_buildE {o : Oper} {a : Act} {w : World} {K : Act → World → Prop} {Q : Exit → Act → World → Prop} (x : Operand) (ho : o.op = .buildSlice 22 1 #[(0, x)]) (e : Ev) (hx : a.eval x = .agg (ec e))
    (hr : ∀ b w', w.heap.size ≤ b → Row 29 w' b (ec e) → Below w.heap.size w w' → K (a.put o.dst (.slice (some ⟨b, 0, none⟩) 1 1)) w') : o.wp Tryd.prog a w K Q := by
  have h' := hr w.heap.size (w.alloc (.cells (ec e) 29)) (Nat.le_refl _) (Row.new _ w _) ((Below.refl _ _).alloc (Nat.le_refl _) _)
  unfold Oper.wp execOp
  simp only [ho, List.map_toArray, List.map_cons, List.map_nil, hx, Sem.run_bind, run_buildE, Result.andThen_ok, Sem.run_pure]
  exact h'
theorem wp_pushE {o : Oper} {a : Act} {w : World} {K : Act → World → Prop} {Q : Exit → Act → World → Prop} (s x : Operand) (ho : o.op = .call { callee := .builtin .append, args := #[s, x], argTypes := #[22, 22] })
    {base b : Nat} {v : Value} {es : List Ev} {e : Ev} (h : EvO w base v es) (R : Row 29 w b (ec e)) (hs : a.eval s = v) (hx : a.eval x = .slice (some ⟨b, 0, none⟩) 1 1) (hl : es.length ≤ 5000000000) (hbase : base ≤ w.heap.size)
    (hr : ∀ v' w', EvO w' base v' (es ++ [e]) → Grew v v' w w' → K (a.put o.dst v') w') : o.wp Tryd.prog a w K Q := by
  obtain ⟨v', w', h1, h2, h3⟩ := run_pushE h R hl hbase o.type
  unfold Oper.wp execOp
  simp only [ho, resolve, invoke, builtin, Sem.run_bind, Sem.run_pure, Result.andThen_ok, List.map_toArray, List.map_cons, List.map_nil, hs, hx, h1]
  exact hr v' w' h2 h3
theorem wpList_buildE {ops : Array Oper} {rest : List Oper} {o : Oper} {a : Act} {w : World} {Q : Exit → Act → World → Prop} (hgd : o.guard = none) (x : Operand) (ho : o.op = .buildSlice 22 1 #[(0, x)]) (e : Ev) (hx : a.eval x = .agg (ec e))
    (hr : ∀ b w', w.heap.size ≤ b → Row 29 w' b (ec e) → Below w.heap.size w w' → wpList Tryd.prog ops Q rest (a.put o.dst (.slice (some ⟨b, 0, none⟩) 1 1)) w') : wpList Tryd.prog ops Q (o :: rest) a w :=
  wpList_plain hgd fun K hK => wp_buildE x ho e hx (fun b w' h1 h2 h3 => hK _ _ (hr b w' h1 h2 h3))
theorem wpList_pushE {ops : Array Oper} {rest : List Oper} {o : Oper} {a : Act} {w : World} {Q : Exit → Act → World → Prop} (hgd : o.guard = none) (s x : Operand) (ho : o.op = .call { callee := .builtin .append, args := #[s, x], argTypes := #[22, 22] })
    {base b : Nat} {v : Value} {es : List Ev} {e : Ev} (h : EvO w base v es) (R : Row 29 w b (ec e)) (hs : a.eval s = v) (hx : a.eval x = .slice (some ⟨b, 0, none⟩) 1 1) (hl : es.length ≤ 5000000000) (hbase : base ≤ w.heap.size)
    (hr : ∀ v' w', EvO w' base v' (es ++ [e]) → Grew v v' w w' → wpList Tryd.prog ops Q rest (a.put o.dst v') w') : wpList Tryd.prog ops Q (o :: rest) a w :=
  wpList_plain hgd fun K hK => wp_pushE s x ho h R hs hx hl hbase (fun v' w' h1 h2 => hK _ _ (hr v' w' h1 h2))
theorem wp_storeL {o : Oper} {a : Act} {w : World} {K : Act → World → Prop} {Q : Exit → Act → World → Prop} {t : TypeId} {b : Nat} {cs : Array Value} (R : Row t w b cs) (x y : Operand) (ho : o.op = .store 22 x y)
    (f : Nat) (hx : a.eval x = .pointer (some ⟨b, f, none⟩)) (sa : Option Addr) (n c : Nat) (hy : a.eval y = .slice sa n c) (m : Value) (hc : cs[f]? = some m) (ds : Array Value) (hd : cs.setIfInBounds f (.slice sa n c) = ds)
    (hr : ∀ w', Row t w' b ds → Turned b w w' → K (a.put o.dst undef) w') : o.wp Tryd.prog a w K Q := by
  have hcell := (R.cell f).trans hc
  have hfr := R.free f
  unfold Oper.wp execOp
  simp only [ho, hx, hy]
  simp [go_sem, hcell, hfr, Tryd.underlying22]
  exact hr _ (hd ▸ R.set) (turned_cell _ _ _ _)
theorem wp_loadL {o : Oper} {a : Act} {w : World} {K : Act → World → Prop} {Q : Exit → Act → World → Prop} {t : TypeId} {b : Nat} {cs : Array Value} (R : Row t w b cs) (x : Operand) (ho : o.op = .load 22 x)
    (f : Nat) (hx : a.eval x = .pointer (some ⟨b, f, none⟩)) (v : Value) (hc : cs[f]? = some v)
    (hr : K (a.put o.dst v) w) : o.wp Tryd.prog a w K Q := by
  have hcell := (R.cell f).trans hc
  unfold Oper.wp execOp
  simp only [ho, hx]
  simp [go_sem, hcell, Tryd.underlying22]
  exact hr
theorem yields_loadL {ops : Array Oper} {S : World → Prop} {o : Oper} {a : Act} (x : Operand) (ho : o.op = .load 22 x) (hw : Region.wanted o (yielded ops a.tmps) = true) (b f : Nat) (hx : a.eval x = .pointer (some ⟨b, f, none⟩)) (v : Value) (hS : ∀ w, S w → w.cell? ⟨b, f, none⟩ = some v) : YieldsIf Tryd.prog ops S o v a :=
  .inl ⟨hw, fun w h => by
    have hcell := hS w h
    unfold execOp
    simp only [ho, hx]
    simp [go_sem, hcell, Tryd.underlying22]⟩
end Go.Proofs.YtnhafdkfjjplkaaDoor
