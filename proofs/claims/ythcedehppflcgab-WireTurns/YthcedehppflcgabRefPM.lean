/-
  The document's own Parse: what is wrong behind a head, in the order of its text.
-/
import Derived.Test.YthcedehppflcgabRefP1
namespace Go.Proofs.Ythcedehppflcgab
open Go.RowKit
set_option linter.unusedSimpArgs false
set_option linter.unusedVariables false

theorem w16_at (l : List UInt8) (k : Nat) (h : k + 1 < l.length) : w16 (wAt l k) = (l.drop k).take 2 := by
  have e : (l.drop k).take 2 = [l[k], l[k + 1]] := by
    rw [List.drop_eq_getElem_cons (by omega), List.drop_eq_getElem_cons (by omega)]; rfl
  rw [e, ← w16_of]
  unfold wAt byt
  simp [List.getD_eq_getElem?_getD, List.getElem?_eq_getElem (show k < l.length by omega), List.getElem?_eq_getElem h]
theorem l32_at (l : List UInt8) (k : Nat) (h : k + 3 < l.length) : l32 (lAt l k) = (l.drop k).take 4 := by
  have b1 := wAt_bd l k; have b2 := wAt_bd l (k + 2)
  have e1 : w16 (lAt l k / 65536) = w16 (wAt l k) := w16_eq _ _ (by unfold lAt; omega)
  have e2 : w16 (lAt l k) = w16 (wAt l (k + 2)) := w16_eq _ _ (by unfold lAt; omega)
  unfold l32
  rw [e1, e2, w16_at l k (by omega), w16_at l (k + 2) (by omega), show (4 : Nat) = 2 + 2 from rfl, List.take_add, List.drop_drop]
theorem ps_chkd (l : List UInt8) (proto : Int) (h : 20 ≤ l.length) : ps (lAt l 12) (lAt l 16) proto ((l.length : Int) - 20) ++ l.drop 20 = chkd l proto := by
  unfold ps chkd
  by_cases hp : proto = 1
  · rw [if_pos hp, if_pos hp]; rfl
  · rw [if_neg hp, if_neg hp, l32_at l 12 (by omega), l32_at l 16 (by omega), show (8 : Nat) = 4 + 4 from rfl, List.take_add, List.drop_drop]
    simp
theorem bad_part (l : List UInt8) (e : Int) (H : HeadOk l) (h : partBad l (byt l 9) = e) (he : e ≠ 0) : bad l = e := by
  unfold bad; rw [if_neg (by rw [head_ok_bad l H]; omega), h, if_pos he]
theorem bad_good (l : List UInt8) (H : HeadOk l) (h : partBad l (byt l 9) = 0) : bad l = good (pktOf l) := by
  unfold bad; rw [if_neg (by rw [head_ok_bad l H]; omega), h, if_neg (by omega)]
theorem pb_len (l : List UInt8) (H : HeadOk l) (h : (l.length : Int) - 20 < partN (byt l 9)) : bad l = 1 := bad_part l 1 H (by unfold partBad; rw [if_pos h]) (by omega)
theorem pb_sum (l : List UInt8) (H : HeadOk l) (h : partN (byt l 9) ≤ (l.length : Int) - 20) (h1 : bk (tot (chkd l (byt l 9))) ≠ 65535) : bad l = 3 := bad_part l 3 H (by unfold partBad; rw [if_neg (by omega), if_pos h1]) (by omega)
theorem pb_usum (l : List UInt8) (H : HeadOk l) (h : partN (byt l 9) ≤ (l.length : Int) - 20) (h1 : bk (tot (chkd l (byt l 9))) = 65535) (h2 : byt l 9 = 17) (h3 : byt l 26 = 0) (h4 : byt l 27 = 0) : bad l = 3 :=
  bad_part l 3 H (by unfold partBad; rw [if_neg (by omega), if_neg (by omega), if_pos ⟨h2, by rw [show wAt l 26 = byt l 26 * 256 + byt l 27 from rfl]; omega⟩]) (by omega)
theorem pb_ping (l : List UInt8) (H : HeadOk l) (h : partN (byt l 9) ≤ (l.length : Int) - 20) (h1 : bk (tot (chkd l (byt l 9))) = 65535) (h2 : byt l 9 = 1) (h3 : (byt l 20 ≠ 0 ∧ byt l 20 ≠ 8) ∨ byt l 21 ≠ 0) : bad l = 4 := by
  refine bad_part l 4 H ?_ (by omega)
  unfold partBad; rw [if_neg (by omega), if_neg (by omega), if_neg (by omega)]
  by_cases h4 : byt l 20 ≠ 0 ∧ byt l 20 ≠ 8
  · rw [if_pos ⟨h2, h4.2, h4.1⟩]
  · rw [if_neg (by omega), if_pos (by omega)]
theorem pb_pok (l : List UInt8) (H : HeadOk l) (h : partN (byt l 9) ≤ (l.length : Int) - 20) (h1 : bk (tot (chkd l (byt l 9))) = 65535) (h2 : byt l 9 = 1) (h3 : byt l 20 = 0 ∨ byt l 20 = 8) (h4 : byt l 21 = 0) : bad l = good (pktOf l) := by
  refine bad_good l H ?_
  unfold partBad; rw [if_neg (by omega), if_neg (by omega), if_neg (by omega), if_neg (by omega), if_neg (by omega), if_neg (by omega), if_neg (by omega), if_neg (by omega), if_neg (by omega)]
theorem pb_ulen (l : List UInt8) (H : HeadOk l) (h : partN (byt l 9) ≤ (l.length : Int) - 20) (h1 : bk (tot (chkd l (byt l 9))) = 65535) (h2 : byt l 9 = 17) (h3 : ¬ (byt l 26 = 0 ∧ byt l 27 = 0)) (h4 : wAt l 24 ≠ (l.length : Int) - 20) : bad l = 1 := by
  refine bad_part l 1 H ?_ (by omega)
  have e : wAt l 26 = byt l 26 * 256 + byt l 27 := rfl
  have b1 := byt_bd l 26; have b2 := byt_bd l 27
  unfold partBad; rw [if_neg (by omega), if_neg (by omega), if_neg (by omega), if_neg (by omega), if_neg (by omega), if_neg (by omega), if_neg (by omega), if_neg (by omega), if_pos ⟨h2, h4⟩]
theorem pb_uok (l : List UInt8) (H : HeadOk l) (h : partN (byt l 9) ≤ (l.length : Int) - 20) (h1 : bk (tot (chkd l (byt l 9))) = 65535) (h2 : byt l 9 = 17) (h3 : ¬ (byt l 26 = 0 ∧ byt l 27 = 0)) (h4 : wAt l 24 = (l.length : Int) - 20) : bad l = good (pktOf l) := by
  refine bad_good l H ?_
  have e : wAt l 26 = byt l 26 * 256 + byt l 27 := rfl
  have b1 := byt_bd l 26; have b2 := byt_bd l 27
  unfold partBad; rw [if_neg (by omega), if_neg (by omega), if_neg (by omega), if_neg (by omega), if_neg (by omega), if_neg (by omega), if_neg (by omega), if_neg (by omega), if_neg (by omega)]
theorem pb_tcp (l : List UInt8) (H : HeadOk l) (h : partN (byt l 9) ≤ (l.length : Int) - 20) (h1 : bk (tot (chkd l (byt l 9))) = 65535) (h2 : byt l 9 = 6) (h3 : byt l 32 ≠ 80 ∨ 63 < byt l 33 ∨ byt l 38 ≠ 0 ∨ byt l 39 ≠ 0) : bad l = 4 := by
  refine bad_part l 4 H ?_ (by omega)
  have e : wAt l 38 = byt l 38 * 256 + byt l 39 := rfl
  have b1 := byt_bd l 38; have b2 := byt_bd l 39
  unfold partBad; rw [if_neg (by omega), if_neg (by omega), if_neg (by omega), if_neg (by omega), if_neg (by omega)]
  by_cases h4 : byt l 32 = 80
  · rw [if_neg (by omega)]
    by_cases h5 : 63 < byt l 33
    · rw [if_pos ⟨h2, h5⟩]
    · rw [if_neg (by omega), if_pos ⟨h2, by omega⟩]
  · rw [if_pos ⟨h2, h4⟩]
theorem pb_tok (l : List UInt8) (H : HeadOk l) (h : partN (byt l 9) ≤ (l.length : Int) - 20) (h1 : bk (tot (chkd l (byt l 9))) = 65535) (h2 : byt l 9 = 6) (h3 : byt l 32 = 80) (h4 : byt l 33 ≤ 63) (h5 : byt l 38 = 0) (h6 : byt l 39 = 0) : bad l = good (pktOf l) := by
  refine bad_good l H ?_
  have e : wAt l 38 = byt l 38 * 256 + byt l 39 := rfl
  unfold partBad; rw [if_neg (by omega), if_neg (by omega), if_neg (by omega), if_neg (by omega), if_neg (by omega), if_neg (by omega), if_neg (by omega), if_neg (by omega), if_neg (by omega)]
end Go.Proofs.Ythcedehppflcgab
