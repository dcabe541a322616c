/-
  The plain mathematics of a frame with which nothing is wrong.
-/
import Derived.Test.YthcedehppflcgabParseM
namespace Go.Proofs.Ythcedehppflcgab
open Go.RowKit

structure HeadOk (l : List UInt8) : Prop where
  len : 20 ≤ l.length
  mark : byt l 0 = 69
  size : wAt l 2 = l.length
  sum : bk (tot (l.take 20)) = 65535
  serv : byt l 1 = 0
  piece : wAt l 6 = 0
  ttl : byt l 8 ≠ 0
  kind : kindB (byt l 9) = true
theorem head_zero (l : List UInt8) (h : headBad l = 0) : HeadOk l := by
  unfold headBad at h
  by_cases h1 : l.length < 20
  · rw [if_pos h1] at h; omega
  rw [if_neg h1] at h
  by_cases h2 : byt l 0 ≠ 69
  · rw [if_pos h2] at h; omega
  rw [if_neg h2] at h
  by_cases h3 : wAt l 2 ≠ l.length
  · rw [if_pos h3] at h; omega
  rw [if_neg h3] at h
  by_cases h4 : bk (tot (l.take 20)) ≠ 65535
  · rw [if_pos h4] at h; omega
  rw [if_neg h4] at h
  by_cases h5 : byt l 1 ≠ 0
  · rw [if_pos h5] at h; omega
  rw [if_neg h5] at h
  by_cases h6 : wAt l 6 ≠ 0
  · rw [if_pos h6] at h; omega
  rw [if_neg h6] at h
  by_cases h7 : byt l 8 = 0
  · rw [if_pos h7] at h; omega
  rw [if_neg h7] at h
  by_cases h8 : kindB (byt l 9) = false
  · rw [if_pos h8] at h; omega
  exact ⟨by omega, by omega, by omega, by omega, by omega, by omega, h7, by simpa using h8⟩
structure PartOk (l : List UInt8) (proto : Int) : Prop where
  len : partN proto ≤ (l.length : Int) - 20
  sum : bk (tot (chkd l proto)) = 65535
  udpSum : proto = 17 → wAt l 26 ≠ 0
  ping : proto = 1 → byt l 20 = 8 ∨ byt l 20 = 0
  ping' : proto = 1 → byt l 21 = 0
  tcp1 : proto = 6 → byt l 32 = 80
  tcp2 : proto = 6 → byt l 33 ≤ 63
  tcp3 : proto = 6 → wAt l 38 = 0
  udp : proto = 17 → wAt l 24 = (l.length : Int) - 20
theorem part_ok (l : List UInt8) (proto : Int) (h : partBad l proto = 0) : PartOk l proto := by
  unfold partBad at h
  by_cases h1 : (l.length : Int) - 20 < partN proto
  · rw [if_pos h1] at h; omega
  rw [if_neg h1] at h
  by_cases h2 : bk (tot (chkd l proto)) ≠ 65535
  · rw [if_pos h2] at h; omega
  rw [if_neg h2] at h
  by_cases h3 : proto = 17 ∧ wAt l 26 = 0
  · rw [if_pos h3] at h; omega
  rw [if_neg h3] at h
  by_cases h4 : proto = 1 ∧ byt l 20 ≠ 8 ∧ byt l 20 ≠ 0
  · rw [if_pos h4] at h; omega
  rw [if_neg h4] at h
  by_cases h5 : proto = 1 ∧ byt l 21 ≠ 0
  · rw [if_pos h5] at h; omega
  rw [if_neg h5] at h
  by_cases h6 : proto = 6 ∧ byt l 32 ≠ 80
  · rw [if_pos h6] at h; omega
  rw [if_neg h6] at h
  by_cases h7 : proto = 6 ∧ 63 < byt l 33
  · rw [if_pos h7] at h; omega
  rw [if_neg h7] at h
  by_cases h8 : proto = 6 ∧ wAt l 38 ≠ 0
  · rw [if_pos h8] at h; omega
  rw [if_neg h8] at h
  by_cases h9 : proto = 17 ∧ wAt l 24 ≠ (l.length : Int) - 20
  · rw [if_pos h9] at h; omega
  exact ⟨by omega, by omega, by omega, by omega, by omega, by omega, by omega, by omega, by omega⟩
theorem HeadOk.small {l : List UInt8} (h : HeadOk l) : l.length ≤ 65535 := by
  have := h.size; have := wAt_bd l 2; omega
theorem part_least (n : Int) (h : kindB n = true) : 8 ≤ partN n := by
  rcases (kind_iff _).1 h with rfl | rfl | rfl <;> decide
theorem bad_zero (l : List UInt8) (h : bad l = 0) : HeadOk l ∧ PartOk l (byt l 9) ∧ good (pktOf l) = 0 := by
  unfold bad at h
  by_cases h1 : headBad l ≠ 0
  · rw [if_pos h1] at h; omega
  rw [if_neg h1] at h
  by_cases h2 : partBad l (byt l 9) ≠ 0
  · rw [if_pos h2] at h; omega
  rw [if_neg h2] at h
  exact ⟨head_zero l (by omega), part_ok l _ (by omega), h⟩
end Go.Proofs.Ythcedehppflcgab
