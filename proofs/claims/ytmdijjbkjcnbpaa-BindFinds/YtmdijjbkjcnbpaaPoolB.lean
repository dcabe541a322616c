/-
  A block that holds a pool, whole: read, written, changed at one place.
-/
import Derived.Deep.MidRow
import Derived.Laws.CopyOwn
import Derived.Test.YtmdijjbkjcnbpaaPoolLr
import Derived.Test.YtmdijjbkjcnbpaaPoolC
namespace Go.Proofs.Ytmdijjbkjcnbpaa
open Go.ChangeShapes Go.WideShapes Go.ChangeAt Go.RowKit
set_option linter.unusedSimpArgs false
set_option linter.unusedVariables false

/-- a block of the cells of a pool. -/
def PRow (w : World) (b : Nat) (cs : Array Value) : Prop := w.heap[b]? = some (.cells cs 26 (0, 0))
theorem PRow.cell {w : World} {b : Nat} {cs : Array Value} (h : PRow w b cs) : ∀ o, w.cell? ⟨b, o, none⟩ = cs[o]? := by
  intro o; unfold PRow at h; simp [World.cell?, h]
theorem PRow.free {w : World} {b : Nat} {cs : Array Value} (h : PRow w b cs) : ∀ o, w.frozen? ⟨b, o, none⟩ = false := by
  intro o; unfold PRow at h; simp [World.frozen?, h]
theorem PRow.own {w : World} {b : Nat} {f : Nat → Int} {g : Nat → Bool} (h : PRow w b (pc f g)) (k : Nat) (hk : k < 18) : w.cell? ⟨b, k, none⟩ = some (.int .i64 (f k)) := (h.cell k).trans (pc_own f g k hk)
theorem PRow.dr {w : World} {b : Nat} {f : Nat → Int} {g : Nat → Bool} (h : PRow w b (pc f g)) (a : Nat) (ha : a < 3) : w.cell? ⟨b, 18 + a, none⟩ = some (.bool (g a)) := (h.cell (18 + a)).trans (pc_dr f g a ha)
theorem PRow.lt {w : World} {b : Nat} {cs : Array Value} (h : PRow w b cs) : b < w.heap.size := (Array.getElem?_eq_some_iff.1 h).1
theorem PRow.below {w w' : World} {b : Nat} {cs : Array Value} (h : PRow w b cs) (hb : Below w.heap.size w w') : PRow w' b cs := (hb.block b h.lt).trans h
theorem PRow.keep {w w' : World} {b B : Nat} {cs : Array Value} (h : PRow w b cs) (hb : Below B w w') (hlt : b < B) : PRow w' b cs := (hb.block b hlt).trans h
theorem PRow.new (w : World) (cs : Array Value) : PRow (w.alloc (.cells cs 26)) w.heap.size cs := heap_alloc_new w _
theorem PRow.alloc {w : World} {b : Nat} {cs : Array Value} (h : PRow w b cs) (o : Obj) : PRow (w.alloc o) b cs := (Below.heap_alloc _ _ _ h.lt).trans h
theorem PRow.other {w : World} {b r o : Nat} {cs : Array Value} {v : Value} (h : PRow w r cs) (hne : r ≠ b) : PRow (w.setCell ⟨b, o, none⟩ v) r cs := (Below.heap_setCell _ _ _ _ hne).trans h
theorem PRow.upd {w : World} {b : Nat} {f : Nat → Int} {g : Nat → Bool} (h : PRow w b (pc f g)) (n : Nat) (x : Int) (hn : n < 18) : PRow (w.setCell ⟨b, n, none⟩ (.int .i64 x)) b (pc (upd f n x) g) := by
  rw [← pc_set f g n x hn]; exact heap_setCell_same w b n _ 26 _ h
theorem PRow.updB {w : World} {b : Nat} {f : Nat → Int} {g : Nat → Bool} (h : PRow w b (pc f g)) (n : Nat) (x : Bool) (hn : n < 3) : PRow (w.setCell ⟨b, 18 + n, none⟩ (.bool x)) b (pc f (updB g n x)) := by
  rw [← pc_setB f g n x hn]; exact heap_setCell_same w b (18 + n) _ 26 _ h
theorem below_undr' {W w' : World} (h : Below W.drew.heap.size W.drew w') : Below W.heap.size W w' := ⟨h.os, h.tape, h.output, h.size, h.block⟩
/-- a pool is read whole. -/
theorem wpList_load_pool {ops : Array Oper} {rest : List Oper} {o : Oper} {a : Act} {w : World} {Q : Exit → Act → World → Prop} (x : Operand) (ho : o.op = .load 26 x) (hw : Region.wanted o (yielded ops a.tmps) = true)
    (b : Nat) (hx : a.eval x = .pointer (some ⟨b, 0, none⟩)) (f : Nat → Int) (g : Nat → Bool) (h : PRow w b (pc f g))
    (hr : wpList Try.prog ops Q rest (a.put o.dst (.agg (pc f g))) w) : wpList Try.prog ops Q (o :: rest) a w :=
  wpList_step fun K hK => by
    rw [if_pos hw]
    exact wp_load_row 26 x ho b hx 26 (pc f g) (0, 0) _ h Try.underlying26 rfl (pc_info f g) (hK _ _ hr)
/-- a pool is written whole. -/
theorem wpList_store_pool {ops : Array Oper} {rest : List Oper} {o : Oper} {a : Act} {w : World} {Q : Exit → Act → World → Prop} (hgd : o.guard = none) (x y : Operand) (ho : o.op = .store 26 x y)
    (b : Nat) (hx : a.eval x = .pointer (some ⟨b, 0, none⟩)) (f : Nat → Int) (g : Nat → Bool) (hy : a.eval y = .agg (pc f g)) (old : Array Value) (h : PRow w b old) (hs : old.size = 21)
    (hr : ∀ w', PRow w' b (pc f g) → w'.heap.size = w.heap.size → (∀ r cs, r ≠ b → PRow w r cs → PRow w' r cs) → (∀ B w0, B ≤ b → Below B w0 w → Below B w0 w') → wpList Try.prog ops Q rest (a.put o.dst undef) w') : wpList Try.prog ops Q (o :: rest) a w :=
  wpList_plain hgd fun K hK => by
    have hst := run_storeVar_row (P := Try.prog) w b 26 26 old (pc f g) h (pc_info f g) (by rw [hs, pc_size]) (pc_one f g)
    unfold Oper.wp execOp
    simp only [ho, hx, hy, Instr.storeAt, Instr.sureAddr, Sem.run_bind, Sem.run_pure, Result.andThen_ok, hst]
    exact hK _ _ (hr _ (setRow_heap w b old _ _ _ h) (by simp) (fun r cs hne hr' => (setRow_other w b r _ hne).trans hr') (fun B w0 hB hb => below_setRow hb hB _))
/-- what a call hands back whose first result is a pool. -/
theorem results_pool2 {fn : Func} {p t : Tmp} (hf : fn.results = #[.cell p 26, .tmp t]) (tmps : Array Value) (w : World) (b : Nat) (f : Nat → Int) (g : Nat → Bool) (hp : tmps.getD p undef = .pointer (some ⟨b, 0, none⟩)) (h : PRow w b (pc f g)) :
    (results fn tmps).run Try.prog w = .ok (.tuple #[plv f g, tmps.getD t undef]) w := by
  have hp' : tmps[p]?.getD undef = .pointer (some ⟨b, 0, none⟩) := by simpa using hp
  have hl := run_loadVar_row (P := Try.prog) w b 26 26 (pc f g) (0, 0) _ h Try.underlying26 rfl (pc_info f g)
  simp [results, hf, hp', asAddr, hl, plv]
theorem results_pool3 {fn : Func} {p t u : Tmp} (hf : fn.results = #[.cell p 26, .tmp t, .tmp u]) (tmps : Array Value) (w : World) (b : Nat) (f : Nat → Int) (g : Nat → Bool) (hp : tmps.getD p undef = .pointer (some ⟨b, 0, none⟩)) (h : PRow w b (pc f g)) :
    (results fn tmps).run Try.prog w = .ok (.tuple #[plv f g, tmps.getD t undef, tmps.getD u undef]) w := by
  have hp' : tmps[p]?.getD undef = .pointer (some ⟨b, 0, none⟩) := by simpa using hp
  have hl := run_loadVar_row (P := Try.prog) w b 26 26 (pc f g) (0, 0) _ h Try.underlying26 rfl (pc_info f g)
  simp [results, hf, hp', asAddr, hl, plv]
end Go.Proofs.Ytmdijjbkjcnbpaa
