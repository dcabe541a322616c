/-
  Rows of small structs, read and written whole.
-/
import Derived.Deep.DeepFit
import Derived.Deep.MidRow
import Derived.Deep.RegionHeld3
import Derived.Laws.CopyOwn
import Derived.Test.YtnhafdkfjjplkaaDoorRows
import Derived.WalkKit
import Derived.ProofKit
import Derived.OpenShut
import Derived.Below
namespace Go.Proofs.YtnhafdkfjjplkaaDoor
open Go.ChangeShapes Go.WideShapes Go.ChangeAt Go.RowKit
set_option linter.unusedSimpArgs false
set_option linter.unusedVariables false

/-- block b is a variable of type t with those cells. -/
def Row (t : TypeId) (w : World) (b : Nat) (cs : Array Value) : Prop := w.heap[b]? = some (.cells cs t (0, 0))
section
variable {t : TypeId} {w w' : World} {b r : Nat} {cs : Array Value}
theorem Row.cell (h : Row t w b cs) : ∀ o, w.cell? ⟨b, o, none⟩ = cs[o]? := by intro o; unfold Row at h; simp [World.cell?, h]
theorem Row.free (h : Row t w b cs) : ∀ o, w.frozen? ⟨b, o, none⟩ = false := by intro o; unfold Row at h; simp [World.frozen?, h]
theorem Row.lt (h : Row t w b cs) : b < w.heap.size := (Array.getElem?_eq_some_iff.1 h).1
theorem Row.below (h : Row t w b cs) (hb : Below w.heap.size w w') : Row t w' b cs := (hb.block b h.lt).trans h
theorem Row.keep {B : Nat} (h : Row t w b cs) (hb : Below B w w') (hlt : b < B) : Row t w' b cs := (hb.block b hlt).trans h
theorem Row.ne {c : Nat} (h : Row t w b cs) (hle : w.heap.size ≤ c) : b ≠ c := Nat.ne_of_lt (Nat.lt_of_lt_of_le h.lt hle)
theorem Row.new (t : TypeId) (w : World) (cs : Array Value) : Row t (w.alloc (.cells cs t)) w.heap.size cs := heap_alloc_new w _
theorem Row.alloc (h : Row t w b cs) (o : Obj) : Row t (w.alloc o) b cs := (Below.heap_alloc _ _ _ h.lt).trans h
theorem Row.other {o : Nat} {v : Value} (h : Row t w r cs) (hne : r ≠ b) : Row t (w.setCell ⟨b, o, none⟩ v) r cs := (Below.heap_setCell _ _ _ _ hne).trans h
theorem Row.set {o : Nat} {v : Value} (h : Row t w b cs) : Row t (w.setCell ⟨b, o, none⟩ v) b (cs.setIfInBounds o v) := heap_setCell_same w b o _ t _ h
theorem Row.range {o : Nat} {l : List Value} (h : Row t w b cs) (hl : ∀ j v, l[j]? = some v → cs[o + j]? = some v) : w.rangeAt b o l := fun j v hv => (h.cell _).trans (hl j v hv)
end
/-- what has turned from one world to the next is one block and new ones. -/
structure Turned (b : Nat) (w w' : World) : Prop where
  size : w'.heap.size = w.heap.size
  other : ∀ r, r ≠ b → w'.heap[r]? = w.heap[r]?
  below : ∀ B w0, B ≤ b → Below B w0 w → Below B w0 w'
theorem Turned.row {b r : Nat} {w w' : World} {t : TypeId} {cs : Array Value} (h : Turned b w w') (hr : Row t w r cs) (hne : r ≠ b) : Row t w' r cs := (h.other r hne).trans hr
theorem wpList_loadR {ops : Array Oper} {rest : List Oper} {o : Oper} {a : Act} {w : World} {Q : Exit → Act → World → Prop} (t : TypeId) (x : Operand) (ho : o.op = .load t x) (hw : Region.wanted o (yielded ops a.tmps) = true)
    (b : Nat) (hx : a.eval x = .pointer (some ⟨b, 0, none⟩)) (cs : Array Value) (h : Row t w b cs) (d : TypeDesc) (hu : Tryd.prog.underlying t = some d) (hd : d.isRow = true) (hi : (Tryd.prog.info? t).map (·.size) = some cs.size)
    (hr : wpList Tryd.prog ops Q rest (a.put o.dst (.agg cs)) w) : wpList Tryd.prog ops Q (o :: rest) a w :=
  wpList_step fun K hK => by
    rw [if_pos hw]
    exact wp_load_mid t x ho b 0 hx cs.toList d (h.range (fun j v hv => by rw [Nat.zero_add]; simpa using hv)) hu hd (by simpa using hi) (by simpa using hK _ _ hr)
theorem wpList_storeR {ops : Array Oper} {rest : List Oper} {o : Oper} {a : Act} {w : World} {Q : Exit → Act → World → Prop} (t : TypeId) (hgd : o.guard = none) (x y : Operand) (ho : o.op = .store t x y)
    (b : Nat) (hx : a.eval x = .pointer (some ⟨b, 0, none⟩)) (cs : Array Value) (hy : a.eval y = .agg cs) (old : Array Value) (h : Row t w b old) (hs : old.size = cs.size) (hi : (Tryd.prog.info? t).map (·.size) = some cs.size) (h1 : cs.all (·.oneCell') = true)
    (hr : ∀ w', Row t w' b cs → Turned b w w' → wpList Tryd.prog ops Q rest (a.put o.dst undef) w') : wpList Tryd.prog ops Q (o :: rest) a w :=
  wpList_plain hgd fun K hK => by
    have hst := run_storeVar_row (P := Tryd.prog) w b t t old cs h hi hs h1
    unfold Oper.wp execOp
    simp only [ho, hx, hy, Instr.storeAt, Instr.sureAddr, Sem.run_bind, Sem.run_pure, Result.andThen_ok, hst]
    exact hK _ _ (hr _ (setRow_heap w b old _ _ _ h) ⟨by simp, fun r hne => setRow_other w b r _ hne, fun B w0 hB hb => below_setRow hb hB _⟩)
theorem wpList_allocR {ops : Array Oper} {rest : List Oper} {o : Oper} {a : Act} {w : World} {Q : Exit → Act → World → Prop} (t : TypeId) (hgd : o.guard = none) (ho : o.op = .alloc t) (cs : Array Value) (hz : ∀ w : World, (zeroValue t).run Tryd.prog w = .ok (.agg cs) w)
    (hr : ∀ b w', w.heap.size ≤ b → Row t w' b cs → Below w.heap.size w w' → wpList Tryd.prog ops Q rest (a.put o.dst (.pointer (some ⟨b, 0, none⟩))) w') : wpList Tryd.prog ops Q (o :: rest) a w :=
  wpList_plain hgd fun K hK => by
    have h' := hr w.heap.size (w.alloc (.cells cs t)) (Nat.le_refl _) (Row.new t w cs) ((Below.refl _ _).alloc (Nat.le_refl _) _)
    unfold Oper.wp execOp
    simp [ho, Instr.alloc, newVar, hz w, Result.andThen, Value.cells]
    simp [go_sem]
    exact hK _ _ h'
theorem wpList_boxR {ops : Array Oper} {rest : List Oper} {o : Oper} {a : Act} {w : World} {Q : Exit → Act → World → Prop} (t : TypeId) (hgd : o.guard = none) (x : Operand) (ho : o.op = .box t x) (cs : Array Value) (hx : a.eval x = .agg cs)
    (hr : ∀ b w', w.heap.size ≤ b → Row t w' b cs → Below w.heap.size w w' → wpList Tryd.prog ops Q rest (a.put o.dst (.pointer (some ⟨b, 0, none⟩))) w') : wpList Tryd.prog ops Q (o :: rest) a w :=
  wpList_plain hgd fun K hK => by
    have h' := hr w.heap.size (w.alloc (.cells cs t)) (Nat.le_refl _) (Row.new t w cs) ((Below.refl _ _).alloc (Nat.le_refl _) _)
    unfold Oper.wp execOp
    simp only [ho, hx, Instr.box, newVar, Value.cells]
    simp [go_sem]
    exact hK _ _ h'
/-- what a call hands back whose first result lies in a variable. -/
theorem results_row2 {fn : Func} {p u : Tmp} {t : TypeId} (hf : fn.results = #[.cell p t, .tmp u]) (tmps : Array Value) (w : World) (b : Nat) (cs : Array Value) (hp : tmps.getD p undef = .pointer (some ⟨b, 0, none⟩)) (h : Row t w b cs) (d : TypeDesc) (hu : Tryd.prog.underlying t = some d) (hd : d.isRow = true) (hi : (Tryd.prog.info? t).map (·.size) = some cs.size) :
    (results fn tmps).run Tryd.prog w = .ok (.tuple #[.agg cs, tmps.getD u undef]) w := by
  have hp' : tmps[p]?.getD undef = .pointer (some ⟨b, 0, none⟩) := by simpa using hp
  have hl := run_loadVar_mid (P := Tryd.prog) w b 0 t cs.toList d (h.range (fun j v hv => by rw [Nat.zero_add]; simpa using hv)) hu hd (by simpa using hi)
  simp only [Array.toArray_toList] at hl
  simp [results, hf, hp', asAddr, hl]
theorem results_row1 {fn : Func} {p : Tmp} {t : TypeId} (hf : fn.results = #[.cell p t]) (tmps : Array Value) (w : World) (b : Nat) (cs : Array Value) (hp : tmps.getD p undef = .pointer (some ⟨b, 0, none⟩)) (h : Row t w b cs) (d : TypeDesc) (hu : Tryd.prog.underlying t = some d) (hd : d.isRow = true) (hi : (Tryd.prog.info? t).map (·.size) = some cs.size) :
    (results fn tmps).run Tryd.prog w = .ok (.agg cs) w := by
  have hp' : tmps[p]?.getD undef = .pointer (some ⟨b, 0, none⟩) := by simpa using hp
  have hl := run_loadVar_mid (P := Tryd.prog) w b 0 t cs.toList d (h.range (fun j v hv => by rw [Nat.zero_add]; simpa using hv)) hu hd (by simpa using hi)
  simp only [Array.toArray_toList] at hl
  simp [results, hf, hp', asAddr, hl]
theorem results_row3 {fn : Func} {p u v : Tmp} {t : TypeId} (hf : fn.results = #[.cell p t, .tmp u, .tmp v]) (tmps : Array Value) (w : World) (b : Nat) (cs : Array Value) (hp : tmps.getD p undef = .pointer (some ⟨b, 0, none⟩)) (h : Row t w b cs) (d : TypeDesc) (hu : Tryd.prog.underlying t = some d) (hd : d.isRow = true) (hi : (Tryd.prog.info? t).map (·.size) = some cs.size) :
    (results fn tmps).run Tryd.prog w = .ok (.tuple #[.agg cs, tmps.getD u undef, tmps.getD v undef]) w := by
  have hp' : tmps[p]?.getD undef = .pointer (some ⟨b, 0, none⟩) := by simpa using hp
  have hl := run_loadVar_mid (P := Tryd.prog) w b 0 t cs.toList d (h.range (fun j v hv => by rw [Nat.zero_add]; simpa using hv)) hu hd (by simpa using hi)
  simp only [Array.toArray_toList] at hl
  simp [results, hf, hp', asAddr, hl]
theorem wpList_eqS {ops : Array Oper} {rest : List Oper} {o : Oper} {a : Act} {w : World} {Q : Exit → Act → World → Prop} (t : TypeId) (x y : Operand) (ho : o.op = .binOp .eql t x y t) (hw : Region.wanted o (yielded ops a.tmps) = true)
    (xs ys : Array Value) (hx : a.eval x = .agg xs) (hy : a.eval y = .agg ys) (hg : Tryd.prog.eqGuardType Tryd.prog.depth t = false) (r q : Bool) (he : (Op.equalIn 10000 t (.agg xs) (.agg ys)).run Tryd.prog w = .ok r w) (hq : r = q)
    (hr : wpList Tryd.prog ops Q rest (a.put o.dst (.bool q)) w) : wpList Tryd.prog ops Q (o :: rest) a w :=
  wpList_step fun K hK => by
    rw [if_pos hw]
    subst hq
    unfold Oper.wp execOp
    simp only [ho, hx, hy, Sem.run_bind, run_eqGuard_agg w .eql t x y xs ys hg, run_eql_struct, he, Result.andThen_ok, Sem.run_pure]
    exact hK _ _ hr
theorem wpList_neS {ops : Array Oper} {rest : List Oper} {o : Oper} {a : Act} {w : World} {Q : Exit → Act → World → Prop} (t : TypeId) (x y : Operand) (ho : o.op = .binOp .neq t x y t) (hw : Region.wanted o (yielded ops a.tmps) = true)
    (xs ys : Array Value) (hx : a.eval x = .agg xs) (hy : a.eval y = .agg ys) (hg : Tryd.prog.eqGuardType Tryd.prog.depth t = false) (r q : Bool) (he : (Op.equalIn 10000 t (.agg xs) (.agg ys)).run Tryd.prog w = .ok r w) (hq : (!r) = q)
    (hr : wpList Tryd.prog ops Q rest (a.put o.dst (.bool q)) w) : wpList Tryd.prog ops Q (o :: rest) a w :=
  wpList_step fun K hK => by
    rw [if_pos hw]
    subst hq
    unfold Oper.wp execOp
    simp only [ho, hx, hy, Sem.run_bind, run_eqGuard_agg w .neq t x y xs ys hg, run_neq_struct, he, Result.andThen_ok, Sem.run_pure]
    exact hK _ _ hr
theorem yields_loadR {ops : Array Oper} {S : World → Prop} {o : Oper} {a : Act} (t : TypeId) (x : Operand) (ho : o.op = .load t x) (hw : Region.wanted o (yielded ops a.tmps) = true) (b : Nat) (hx : a.eval x = .pointer (some ⟨b, 0, none⟩)) (cs : Array Value) (hS : ∀ w, S w → Row t w b cs)
    (d : TypeDesc) (hu : Tryd.prog.underlying t = some d) (hd : d.isRow = true) (hi : (Tryd.prog.info? t).map (·.size) = some cs.size) : YieldsIf Tryd.prog ops S o (.agg cs) a := by
  have := yieldsIf_load_mid (P := Tryd.prog) (S := S) hw t x ho b 0 hx cs.toList d (fun w h => (hS w h).range (fun j v hv => by rw [Nat.zero_add]; simpa using hv)) hu hd (by simpa using hi)
  simpa using this
theorem yields_eqS {ops : Array Oper} {S : World → Prop} {o : Oper} {a : Act} (t : TypeId) (x y : Operand) (ho : o.op = .binOp .eql t x y t) (hw : Region.wanted o (yielded ops a.tmps) = true)
    (xs ys : Array Value) (hx : a.eval x = .agg xs) (hy : a.eval y = .agg ys) (hg : Tryd.prog.eqGuardType Tryd.prog.depth t = false) (r q : Bool) (he : ∀ w : World, (Op.equalIn 10000 t (.agg xs) (.agg ys)).run Tryd.prog w = .ok r w) (hq : r = q) : YieldsIf Tryd.prog ops S o (.bool q) a :=
  .inl ⟨hw, fun w _ => by
    subst hq
    unfold execOp
    simp only [ho, hx, hy, Sem.run_bind, run_eqGuard_agg w .eql t x y xs ys hg, run_eql_struct, he w, Result.andThen_ok, Sem.run_pure]⟩
theorem wpList_allocX {ops : Array Oper} {rest : List Oper} {o : Oper} {a : Act} {w : World} {Q : Exit → Act → World → Prop} (k : Nat) (t : TypeId) (hk : o.dst = some k) (hgd : o.guard = none) (ho : o.op = .alloc t) (cs : Array Value) (hz : ∀ w : World, (zeroValue t).run Tryd.prog w = .ok (.agg cs) w)
    (hr : ∀ b w', w.heap.size ≤ b → Row t w' b cs → Below w.heap.size w w' → wpList Tryd.prog ops Q rest (a.put o.dst (.pointer (some ⟨b, 0, none⟩))) w') : wpList Tryd.prog ops Q (o :: rest) a w := wpList_allocR t hgd ho cs hz hr
theorem wp_storeR {o : Oper} {a : Act} {w : World} {K : Act → World → Prop} {Q : Exit → Act → World → Prop} (t : TypeId) (x y : Operand) (ho : o.op = .store t x y)
    (b : Nat) (hx : a.eval x = .pointer (some ⟨b, 0, none⟩)) (cs : Array Value) (hy : a.eval y = .agg cs) (old : Array Value) (h : Row t w b old) (hs : old.size = cs.size) (hi : (Tryd.prog.info? t).map (·.size) = some cs.size) (h1 : cs.all (·.oneCell') = true)
    (hr : ∀ w', Row t w' b cs → Turned b w w' → K (a.put o.dst undef) w') : o.wp Tryd.prog a w K Q := by
  have hst := run_storeVar_row (P := Tryd.prog) w b t t old cs h hi hs h1
  unfold Oper.wp execOp
  simp only [ho, hx, hy, Instr.storeAt, Instr.sureAddr, Sem.run_bind, Sem.run_pure, Result.andThen_ok, hst]
  exact hr _ (setRow_heap w b old _ _ _ h) ⟨by simp, fun r hne => setRow_other w b r _ hne, fun B w0 hB hb => below_setRow hb hB _⟩
/-- one field of a struct in memory. -/
theorem turned_cell (b o : Nat) (v : Value) (w : World) : Turned b w (w.setCell ⟨b, o, none⟩ v) := ⟨by simp, fun r hne => Below.heap_setCell _ _ _ _ hne, fun B w0 hB hb => hb.setCell hB v⟩
theorem wpList_loadF {ops : Array Oper} {rest : List Oper} {o : Oper} {a : Act} {w : World} {Q : Exit → Act → World → Prop} {t : TypeId} {b : Nat} {cs : Array Value} (R : Row t w b cs) (x : Operand) (ho : o.op = .load 3 x) (hw : Region.wanted o (yielded ops a.tmps) = true)
    (f : Nat) (hx : a.eval x = .pointer (some ⟨b, f, none⟩)) (n : Int) (hc : cs[f]? = some (.int .i64 n))
    (hr : wpList Tryd.prog ops Q rest (a.put o.dst (.int .i64 n)) w) : wpList Tryd.prog ops Q (o :: rest) a w :=
  wpList_step fun K hK => by
    rw [if_pos hw]
    have hcell := (R.cell f).trans hc
    unfold Oper.wp execOp
    simp only [ho, hx]
    simp [go_sem, hcell, Tryd.underlying3]
    exact hK _ _ hr
theorem wpList_storeF {ops : Array Oper} {rest : List Oper} {o : Oper} {a : Act} {w : World} {Q : Exit → Act → World → Prop} {t : TypeId} {b : Nat} {cs : Array Value} (R : Row t w b cs) (hgd : o.guard = none) (x y : Operand) (ho : o.op = .store 3 x y)
    (f : Nat) (hx : a.eval x = .pointer (some ⟨b, f, none⟩)) (n : Int) (hy : a.eval y = .int .i64 n) (m : Int) (hc : cs[f]? = some (.int .i64 m)) (ds : Array Value) (hd : cs.setIfInBounds f (.int .i64 n) = ds)
    (hr : ∀ w', Row t w' b ds → Turned b w w' → wpList Tryd.prog ops Q rest (a.put o.dst undef) w') : wpList Tryd.prog ops Q (o :: rest) a w :=
  wpList_plain hgd fun K hK => by
    have hcell := (R.cell f).trans hc
    have hfr := R.free f
    unfold Oper.wp execOp
    simp only [ho, hx, hy]
    simp [go_sem, hcell, hfr, Tryd.underlying3]
    exact hK _ _ (hr _ (hd ▸ R.set) (turned_cell _ _ _ _))
end Go.Proofs.YtnhafdkfjjplkaaDoor
