/-
  A text with one byte changed.
-/
import Derived.Test.YtcfdbmcmemdafabKeepW
import Derived.Test.YtcfdbmcmemdafabFlip
namespace Go.Proofs.Ytcfdbmcmemdafab
open Go.ChangeShapes Go.WideShapes Go.ChangeAt Go.RowKit

theorem xor_ne (a b : Nat) (h : b ≠ 0) : a ^^^ b ≠ a := by
  intro e
  have h1 : a ^^^ (a ^^^ b) = a ^^^ a := by rw [e]
  rw [← Nat.xor_assoc, Nat.xor_self, Nat.zero_xor] at h1
  exact h h1
theorem flip_byte (x : UInt8) (y : Int) (h1 : 1 ≤ y) (h2 : y ≤ 255) : ∃ c : UInt8, bits .xor .u8 (x.toNat : Int) y = (c.toNat : Int) ∧ c ≠ x := by
  obtain ⟨b, rfl⟩ := Int.eq_ofNat_of_zero_le (show 0 ≤ y by omega)
  have hx := x.toNat_lt
  have hlt : x.toNat ^^^ b < 256 := Nat.xor_lt_two_pow (n := 8) (by omega) (by omega)
  refine ⟨UInt8.ofNat (x.toNat ^^^ b), ?_, fun e => ?_⟩
  · rw [u8_xor_nat _ _ (by omega) (by omega), UInt8.toNat_ofNat', Nat.mod_eq_of_lt (by omega)]
  · have e2 := congrArg UInt8.toNat e
    rw [UInt8.toNat_ofNat', Nat.mod_eq_of_lt (by omega)] at e2
    exact xor_ne _ _ (by omega) e2
theorem one_text (w : World) (c : UInt8) : (convert 38 9 (.slice (some ⟨w.heap.size, 0, none⟩) 1 1)).run Try.prog ((w.alloc (.cells #[.int .u8 (c.toNat : Int)] 5)).drew) = .ok (.string ⟨#[c]⟩) ((w.alloc (.cells #[.int .u8 (c.toNat : Int)] 5)).drew) := by
  refine run_convert_bytes_back (P := Try.prog) ((w.alloc (.cells #[.int .u8 (c.toNat : Int)] 5)).drew) 38 9 5 ⟨w.heap.size, 0, none⟩ 1 [c] Try.underlying38 Try.underlying5 Try.underlying9 ?_
  intro j hj
  have hj' : j = 0 := by simp at hj; omega
  subst hj'
  exact World.cell?_alloc_mark w #[.int .u8 (c.toNat : Int)] 5 (0, 0) 0
theorem txt_get (l : List UInt8) (m : Nat) (h : m < (txt l).size) : (txt l)[m] = l[m]'(by rw [← txt_size]; exact h) := by
  simp [txt, ByteArray.getElem_eq_getElem_data]
theorem set_text (l : List UInt8) (m : Nat) (c : UInt8) (h : m < l.length) : ((txt l).extract 0 m ++ (⟨#[c]⟩ : ByteArray) ++ (txt l).extract (m + 1) (txt l).size).data.toList = l.set m c := by
  rw [ByteArray.data_append, ByteArray.data_append, Array.toList_append, Array.toList_append, ext_list, ext_list, txt_list, txt_size]
  simp only [List.drop_zero, Nat.sub_zero]
  rw [List.take_of_length_le (l := l.drop (m + 1)) (by simp), List.set_eq_take_append_cons_drop, if_pos h]
  simp
theorem below_drewn {B : Nat} {v w w' : World} {o : Obj} (h : Below v.heap.size v w) (hb : Below (w.alloc o).drew.heap.size (w.alloc o).drew w') (hB : B = v.heap.size := by rfl) : Below B v w' := by
  subst hB
  have := h.size
  exact ((h.alloc h.size o).drew).trans (hb.mono (by show _ ≤ (w.alloc o).heap.size; simp; omega))
end Go.Proofs.Ytcfdbmcmemdafab
