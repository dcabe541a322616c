/-
  The document's own Parse: what its walk wants.
-/
import Derived.Test.YthcedehppflcgabRefW
import Derived.Test.YthcedehppflcgabParse5
import Derived.Test.YthcedehppflcgabReads
import Derived.Deep.RegionHeld3
namespace Go.Proofs.Ythcedehppflcgab
open Go.ChangeShapes Go.WideShapes Go.ChangeAt Go.RowKit
set_option linter.unusedSimpArgs false
set_option linter.unusedVariables false

theorem bad_of_head (l : List UInt8) (e : Int) (h : headBad l = e) (he : e ≠ 0) : bad l = e := by unfold bad; rw [if_pos (by omega)]; exact h
theorem hb_1 (l : List UInt8) (h : l.length < 20) : bad l = 1 := bad_of_head _ _ (by unfold headBad; rw [if_pos h]) (by omega)
theorem hb_2 (l : List UInt8) (h : 20 ≤ l.length) (h1 : byt l 0 ≠ 69) : bad l = 1 := bad_of_head _ _ (by unfold headBad; rw [if_neg (by omega), if_pos h1]) (by omega)
theorem hb_3 (l : List UInt8) (h : 20 ≤ l.length) (h1 : byt l 0 = 69) (h2 : wAt l 2 ≠ l.length) : bad l = 1 := bad_of_head _ _ (by unfold headBad; rw [if_neg (by omega), if_neg (by omega), if_pos h2]) (by omega)
theorem hb_4 (l : List UInt8) (h : 20 ≤ l.length) (h1 : byt l 0 = 69) (h2 : wAt l 2 = l.length) (h3 : bk (tot (l.take 20)) ≠ 65535) : bad l = 3 := bad_of_head _ _ (by unfold headBad; rw [if_neg (by omega), if_neg (by omega), if_neg (by omega), if_pos h3]) (by omega)
theorem hb_5 (l : List UInt8) (h : 20 ≤ l.length) (h1 : byt l 0 = 69) (h2 : wAt l 2 = l.length) (h3 : bk (tot (l.take 20)) = 65535) (h4 : byt l 1 ≠ 0 ∨ byt l 6 ≠ 0 ∨ byt l 7 ≠ 0) : bad l = 4 := by
  refine bad_of_head _ _ ?_ (by omega)
  unfold headBad; rw [if_neg (by omega), if_neg (by omega), if_neg (by omega), if_neg (by omega)]
  by_cases h5 : byt l 1 = 0
  · rw [if_neg (by omega), if_pos (by rw [show wAt l 6 = byt l 6 * 256 + byt l 7 from rfl]; have := byt_bd l 6; have := byt_bd l 7; omega)]
  · rw [if_pos h5]
theorem hb_6 (l : List UInt8) (h : 20 ≤ l.length) (h1 : byt l 0 = 69) (h2 : wAt l 2 = l.length) (h3 : bk (tot (l.take 20)) = 65535) (h4 : byt l 1 = 0) (h5 : byt l 6 = 0) (h6 : byt l 7 = 0) (h7 : byt l 8 = 0) : bad l = 12 := by
  refine bad_of_head _ _ ?_ (by omega)
  unfold headBad; rw [if_neg (by omega), if_neg (by omega), if_neg (by omega), if_neg (by omega), if_neg (by omega), if_neg (by rw [show wAt l 6 = byt l 6 * 256 + byt l 7 from rfl]; omega), if_pos h7]
theorem hb_7 (l : List UInt8) (h : 20 ≤ l.length) (h1 : byt l 0 = 69) (h2 : wAt l 2 = l.length) (h3 : bk (tot (l.take 20)) = 65535) (h4 : byt l 1 = 0) (h5 : byt l 6 = 0) (h6 : byt l 7 = 0) (h7 : byt l 8 ≠ 0) (h8 : kindB (byt l 9) = false) : bad l = 4 := by
  refine bad_of_head _ _ ?_ (by omega)
  unfold headBad; rw [if_neg (by omega), if_neg (by omega), if_neg (by omega), if_neg (by omega), if_neg (by omega), if_neg (by rw [show wAt l 6 = byt l 6 * 256 + byt l 7 from rfl]; omega), if_neg h7, if_pos h8]
theorem hb_ok (l : List UInt8) (h : 20 ≤ l.length) (h1 : byt l 0 = 69) (h2 : wAt l 2 = l.length) (h3 : bk (tot (l.take 20)) = 65535) (h4 : byt l 1 = 0) (h5 : byt l 6 = 0) (h6 : byt l 7 = 0) (h7 : byt l 8 ≠ 0) (h8 : kindB (byt l 9) = true) : headBad l = 0 := by
  unfold headBad; rw [if_neg (by omega), if_neg (by omega), if_neg (by omega), if_neg (by omega), if_neg (by omega), if_neg (by rw [show wAt l 6 = byt l 6 * 256 + byt l 7 from rfl]; omega), if_neg h7, if_neg (by simp [h8])]
theorem parsed_bad (l : List UInt8) (e : Int) (h : bad l = e) (he : e ≠ 0) : parsed l = p0 := by unfold parsed; rw [if_neg (by omega)]
/-- two and four bytes of a text as a number. -/
theorem num2_any (s : ByteArray) (a b : Nat) (w : World) (h : b = a + 2) (hs : b ≤ s.size) : Calls Try.prog 24 #[.string (s.extract a b)] w fun e w' => e = .returned (.int .i64 (wAt s.data.toList a)) ∧ Below w.heap.size w w' := by
  have := numberOf_any (s.extract a b) w (by rw [ext_size _ _ _ hs]; omega)
  rw [ext_list, show b - a = 2 by omega, num_two _ _ (by rw [len_list]; omega)] at this
  exact this
theorem num4_any (s : ByteArray) (a b : Nat) (w : World) (h : b = a + 4) (hs : b ≤ s.size) : Calls Try.prog 24 #[.string (s.extract a b)] w fun e w' => e = .returned (.int .i64 (lAt s.data.toList a)) ∧ Below w.heap.size w w' := by
  have := numberOf_any (s.extract a b) w (by rw [ext_size _ _ _ hs]; omega)
  rw [ext_list, show b - a = 4 by omega, num_four _ _ (by rw [len_list]; omega)] at this
  exact this
theorem sum20_any (s : ByteArray) (w : World) (hs : 20 ≤ s.size) : Calls Try.prog 25 #[.string (s.extract 0 20)] w fun e w' => e = .returned (.int .i64 (bk (tot (s.data.toList.take 20)))) ∧ Below w.heap.size w w' := by
  have := sumRef_any (s.extract 0 20) w (by rw [ext_size _ _ _ hs]; omega)
  rw [ext_list] at this
  exact this
end Go.Proofs.Ythcedehppflcgab