/-
  The walks of the helpers of the statements on wire.
-/
import Derived.Test.YtcfdbmcmemdafaaParse5
import Derived.Test.YtcfdbmcmemdafaaReads
import Derived.Deep.DeepFit
namespace Go.Proofs.Ytcfdbmcmemdafaa
open Go.ChangeShapes Go.WideShapes Go.ChangeAt Go.RowKit

theorem Twelve.more {w : World} {b : Nat} {cs : Array Value} {o : Obj} (h : Twelve w b cs) : Twelve (w.alloc o) b cs := h.below ((Below.refl _ _).alloc (Nat.le_refl _) _)
theorem Twelve.next {w w' : World} {b : Nat} {cs : Array Value} {o : Obj} (h : Twelve w b cs) (hb : Below (w.alloc o).heap.size (w.alloc o) w') : Twelve w' b cs := (h.more (o := o)).below hb
theorem Twelve.lt {w : World} {b : Nat} {cs : Array Value} (h : Twelve w b cs) : b < w.heap.size := (Array.getElem?_eq_some_iff.1 h).1
theorem below_next {B : Nat} {v w w' : World} {o : Obj} (h : Below B v w) (hB : B ≤ w.heap.size) (hb : Below (w.alloc o).heap.size (w.alloc o) w') : Below B v w' := (h.alloc hB o).trans (hb.mono (by simp; omega))
def ping0 : Pkt := ⟨1, 1, 7, 2, 0, 9, 0, 8, 0, 0, 0, ByteArray.empty⟩
theorem ping0_good : good ping0 = 0 := by decide
theorem built_ok (k : Pkt) (h : good k = 0) : built k = txt (frame k) := by unfold built; rw [if_pos h]
theorem built_no (k : Pkt) (h : good k ≠ 0) : built k = ByteArray.empty := by unfold built; rw [if_neg h]
theorem frame_size (k : Pkt) (h : good k = 0) : ((txt (frame k)).size : Int) = flen k := by
  rw [txt_size]; exact fr_len k _ _ (good_zero k h).1
end Go.Proofs.Ytcfdbmcmemdafaa
