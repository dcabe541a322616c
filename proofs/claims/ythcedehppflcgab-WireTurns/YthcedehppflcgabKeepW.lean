/-
  The walks of the helpers of the statements on wire.
-/
import Derived.Test.YthcedehppflcgabParse5
import Derived.Test.YthcedehppflcgabReads
import Derived.Deep.DeepFit
namespace Go.Proofs.Ythcedehppflcgab
open Go.ChangeShapes Go.WideShapes Go.ChangeAt Go.RowKit

theorem Twelve.more {w : World} {b : Nat} {cs : Array Value} {o : Obj} (h : Twelve w b cs) : Twelve (w.alloc o) b cs := h.below ((Below.refl _ _).alloc (Nat.le_refl _) _)
theorem Twelve.next {w w' : World} {b : Nat} {cs : Array Value} {o : Obj} (h : Twelve w b cs) (hb : Below (w.alloc o).heap.size (w.alloc o) w') : Twelve w' b cs := (h.more (o := o)).below hb
theorem Twelve.lt {w : World} {b : Nat} {cs : Array Value} (h : Twelve w b cs) : b < w.heap.size := (Array.getElem?_eq_some_iff.1 h).1
theorem below_next {B : Nat} {v w w' : World} {o : Obj} (h : Below B v w) (hB : B ≤ w.heap.size) (hb : Below (w.alloc o).heap.size (w.alloc o) w') : Below B v w' := (h.alloc hB o).trans (hb.mono (by simp; omega))
def ping0 : Pkt := ⟨1, 1, 7, 2, 0, 9, 0, 8, 0, 0, 0, ByteArray.empty⟩
theorem ping0_good : good ping0 = 0 := by decide
theorem built_ok (k : Pkt) (h : good k = 0) : built k = txt (frame k) := by unfold built; rw [if_pos h]
theorem built_no (k : Pkt) (h : good k ≠ 0) : built k = ByteArray.empty := by unfold built; rw [if_neg h]
theorem frame_size (k : Pkt) (h : good k = 0) : ((txt (frame k)).size : Int) = flen k := by
  rw [txt_size]; exact fr_len k _ _ (good_zero k h).1
theorem buildsKeep_any (w : World) : Calls Try.prog 17 #[] w fun e w' => e = .returned (.bool true) ∧ Below w.heap.size w w' := by
  have h1 := built_ok ping0 ping0_good
  have h2 := frame_size ping0 ping0_good
  have h3 : flen ping0 = 28 := by decide
  have C : ∀ w, Calls Try.prog 16 #[pv ping0] w fun e w' => e = .returned (.tuple #[.string (txt (frame ping0)), .int .i64 0]) ∧ Below w.heap.size w w' := by
    intro w
    have := build_any ping0 w (by decide)
    rw [h1, ping0_good] at this; exact this
  have h4 : (txt (frame ping0)).size = 28 := by omega
  clear h1 h2 h3
  generalize txt (frame ping0) = t0 at *
  go_enter Try.func17, Try.ntmps17
  go_wp2_with (go_at_call 16; refine (C _).mono ?_; rintro e w' ⟨rfl, hb⟩)
  go_ret
  exact ⟨rfl, hb⟩
end Go.Proofs.Ythcedehppflcgab
