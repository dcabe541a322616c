/-
  The walk of the document's own Parse: behind the head.
-/
import Derived.Test.YthcedehppflcgabRefPM
import Derived.Test.YthcedehppflcgabRefG
import Derived.Deep.DeepCutAuto
namespace Go.Proofs.Ythcedehppflcgab
open Go.ChangeShapes Go.WideShapes Go.ChangeAt Go.RowKit
set_option linter.unusedSimpArgs false
set_option linter.unusedVariables false

theorem below_new' {W w' : World} {o : Obj} (h : Below (W.alloc o).heap.size (W.alloc o) w') : Below W.heap.size W w' := ((Below.refl _ _).alloc (Nat.le_refl _) o).trans (h.mono (by simp))
theorem bcell {W w1 : World} (hb : Below W.heap.size W w1) : (∀ b o, b < W.heap.size → w1.cell? ⟨b, o, none⟩ = W.cell? ⟨b, o, none⟩) ∧ (∀ b o, b < W.heap.size → w1.frozen? ⟨b, o, none⟩ = W.frozen? ⟨b, o, none⟩) :=
  ⟨fun b o h => hb.cell (p := ⟨b, o, none⟩) h, fun b o h => hb.frozen (p := ⟨b, o, none⟩) h⟩
theorem twelve_alloc1 {W w' : World} {cs : Array Value} (hb : Below (W.alloc (.cells cs 23)).drew.heap.size (W.alloc (.cells cs 23)).drew w') : Twelve w' W.heap.size cs := (hb.block W.heap.size (by show _ < (W.alloc _).heap.size; simp)).trans (heap_alloc_new W _)
theorem twelve_alloc2 {W w' : World} {cs : Array Value} (hb : Below (W.alloc (.cells cs 23)).heap.size (W.alloc (.cells cs 23)) w') : Twelve w' W.heap.size cs := (hb.block W.heap.size (by simp)).trans (heap_alloc_new W _)
theorem twelve_more (w : World) (cs : Array Value) (o : Obj) {b : Nat} (h : Twelve w b cs) : Twelve (w.alloc o) b cs := (Below.heap_alloc _ _ _ (Array.getElem?_eq_some_iff.1 h).1).trans h
theorem lt_of_below {W w1 : World} (hb : Below W.heap.size W w1) : ∀ n, n < W.heap.size → n < w1.heap.size := fun n h => by have := hb.size; omega

theorem twelve_fill {w : World} {b : Nat} {a0 a1 a2 a3 a4 a5 a6 a7 a8 a9 a10 a11 v0 v1 v2 v3 v4 v5 v6 v7 v8 v9 v10 v11 : Value} (h : Twelve w b #[a0, a1, a2, a3, a4, a5, a6, a7, a8, a9, a10, a11]) :
    Twelve ((((((((((((w.setCell ⟨b, 0, none⟩ v0).setCell ⟨b, 1, none⟩ v1).setCell ⟨b, 2, none⟩ v2).setCell ⟨b, 3, none⟩ v3).setCell ⟨b, 4, none⟩ v4).setCell ⟨b, 5, none⟩ v5).setCell ⟨b, 6, none⟩ v6).setCell ⟨b, 7, none⟩ v7).setCell ⟨b, 8, none⟩ v8).setCell ⟨b, 9, none⟩ v9).setCell ⟨b, 10, none⟩ v10).setCell ⟨b, 11, none⟩ v11) b #[v0, v1, v2, v3, v4, v5, v6, v7, v8, v9, v10, v11] := by
  have := ((((((((((((h.set 0 v0).set 1 v1).set 2 v2).set 3 v3).set 4 v4).set 5 v5).set 6 v6).set 7 v7).set 8 v8).set 9 v9).set 10 v10).set 11 v11)
  simpa using this
theorem twelve_other {w : World} {b r o : Nat} {cs : Array Value} {v : Value} (h : Twelve w r cs) (hne : r ≠ b) : Twelve (w.setCell ⟨b, o, none⟩ v) r cs := (Below.heap_setCell _ _ _ _ hne).trans h
theorem twelve_keep {w : World} {b r : Nat} {cs : Array Value} {v0 v1 v2 v3 v4 v5 v6 v7 v8 v9 v10 v11 : Value} (h : Twelve w r cs) (hne : r ≠ b) :
    Twelve ((((((((((((w.setCell ⟨b, 0, none⟩ v0).setCell ⟨b, 1, none⟩ v1).setCell ⟨b, 2, none⟩ v2).setCell ⟨b, 3, none⟩ v3).setCell ⟨b, 4, none⟩ v4).setCell ⟨b, 5, none⟩ v5).setCell ⟨b, 6, none⟩ v6).setCell ⟨b, 7, none⟩ v7).setCell ⟨b, 8, none⟩ v8).setCell ⟨b, 9, none⟩ v9).setCell ⟨b, 10, none⟩ v10).setCell ⟨b, 11, none⟩ v11) r cs :=
  twelve_other (twelve_other (twelve_other (twelve_other (twelve_other (twelve_other (twelve_other (twelve_other (twelve_other (twelve_other (twelve_other (twelve_other h hne) hne) hne) hne) hne) hne) hne) hne) hne) hne) hne) hne
theorem below_fill {B : Nat} {w0 w : World} {b : Nat} {v0 v1 v2 v3 v4 v5 v6 v7 v8 v9 v10 v11 : Value} (h : Below B w0 w) (hb : B ≤ b) :
    Below B w0 ((((((((((((w.setCell ⟨b, 0, none⟩ v0).setCell ⟨b, 1, none⟩ v1).setCell ⟨b, 2, none⟩ v2).setCell ⟨b, 3, none⟩ v3).setCell ⟨b, 4, none⟩ v4).setCell ⟨b, 5, none⟩ v5).setCell ⟨b, 6, none⟩ v6).setCell ⟨b, 7, none⟩ v7).setCell ⟨b, 8, none⟩ v8).setCell ⟨b, 9, none⟩ v9).setCell ⟨b, 10, none⟩ v10).setCell ⟨b, 11, none⟩ v11) :=
  (((((((((((h.setCell (by exact hb) _).setCell (by exact hb) _).setCell (by exact hb) _).setCell (by exact hb) _).setCell (by exact hb) _).setCell (by exact hb) _).setCell (by exact hb) _).setCell (by exact hb) _).setCell (by exact hb) _).setCell (by exact hb) _).setCell (by exact hb) _).setCell (by exact hb) _
theorem Twelve.lt {w : World} {b : Nat} {cs : Array Value} (h : Twelve w b cs) : b < w.heap.size := (Array.getElem?_eq_some_iff.1 h).1

structure HeadO (l : List UInt8) : Prop where
  mark : byt l 0 = 69
  size : wAt l 2 = l.length
  sum : bk (tot (l.take 20)) = 65535
  serv : byt l 1 = 0
  piece : wAt l 6 = 0
  ttl : byt l 8 ≠ 0
end Go.Proofs.Ythcedehppflcgab