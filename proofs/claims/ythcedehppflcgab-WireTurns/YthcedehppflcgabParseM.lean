/-
  The plain mathematics of reading a frame: what is wrong with it, and its packet.
-/
import Derived.Test.YthcedehppflcgabBuilt
namespace Go.Proofs.Ythcedehppflcgab
open Go.RowKit

def lAt (l : List UInt8) (k : Nat) : Int := wAt l k * 65536 + wAt l (k + 2)
/-- what is wrong with a head. -/
def headBad (l : List UInt8) : Int :=
  if l.length < 20 then 1 else if byt l 0 ≠ 69 then 1 else if wAt l 2 ≠ l.length then 1 else if bk (tot (l.take 20)) ≠ 65535 then 3 else if byt l 1 ≠ 0 then 4 else if wAt l 6 ≠ 0 then 4 else if byt l 8 = 0 then 12 else if kindB (byt l 9) = false then 4 else 0
/-- what is wrong with what stands behind it. -/
def partBad (l : List UInt8) (proto : Int) : Int :=
  if (l.length : Int) - 20 < partN proto then 1 else if bk (tot (chkd l proto)) ≠ 65535 then 3 else if proto = 17 ∧ wAt l 26 = 0 then 3
  else if proto = 1 ∧ byt l 20 ≠ 8 ∧ byt l 20 ≠ 0 then 4 else if proto = 1 ∧ byt l 21 ≠ 0 then 4
  else if proto = 6 ∧ byt l 32 ≠ 80 then 4 else if proto = 6 ∧ 63 < byt l 33 then 4 else if proto = 6 ∧ wAt l 38 ≠ 0 then 4
  else if proto = 17 ∧ wAt l 24 ≠ (l.length : Int) - 20 then 1 else 0
/-- the packet. -/
def pktOf (l : List UInt8) : Pkt :=
  if byt l 9 = 1 then ⟨1, lAt l 12, if byt l 20 = 8 then wAt l 24 else 0, lAt l 16, if byt l 20 = 8 then 0 else wAt l 24, byt l 8, wAt l 4, byt l 20, wAt l 26, 0, 0, txt (l.drop 28)⟩
  else if byt l 9 = 6 then ⟨6, lAt l 12, wAt l 20, lAt l 16, wAt l 22, byt l 8, wAt l 4, byt l 33, lAt l 24, lAt l 28, wAt l 34, txt (l.drop 40)⟩
  else ⟨byt l 9, lAt l 12, wAt l 20, lAt l 16, wAt l 22, byt l 8, wAt l 4, 0, 0, 0, 0, txt (l.drop 28)⟩
/-- what is wrong with a frame. -/
def bad (l : List UInt8) : Int := if headBad l ≠ 0 then headBad l else if partBad l (byt l 9) ≠ 0 then partBad l (byt l 9) else good (pktOf l)
/-- what Parse hands back. -/
def parsed (l : List UInt8) : Pkt := if bad l = 0 then pktOf l else p0

theorem byt_get (s : ByteArray) (k : Nat) (h : k < s.size) : (s[k].toNat : Int) = byt s.data.toList k := by
  unfold byt
  have e : s.data.toList.getD k 0 = s[k] := by
    rw [List.getD_eq_getElem?_getD, Array.getElem?_toList, Array.getElem?_eq_getElem h]; rfl
  rw [e]
theorem byt_drop (l : List UInt8) (n k : Nat) : byt (l.drop n) k = byt l (n + k) := by
  unfold byt
  simp [List.getD_eq_getElem?_getD, List.getElem?_drop]
theorem wAt_drop (l : List UInt8) (n k : Nat) : wAt (l.drop n) k = wAt l (n + k) := by
  unfold wAt; rw [byt_drop, byt_drop, Nat.add_assoc]
theorem lAt_drop (l : List UInt8) (n k : Nat) : lAt (l.drop n) k = lAt l (n + k) := by
  unfold lAt; rw [wAt_drop, wAt_drop, Nat.add_assoc]
theorem lAt_bd (l : List UInt8) (k : Nat) : 0 ≤ lAt l k ∧ lAt l k ≤ 4294967295 := by
  unfold lAt
  have := wAt_bd l k; have := wAt_bd l (k + 2); omega
theorem len_list (s : ByteArray) : s.data.toList.length = s.size := by simp
theorem get_ext (s : ByteArray) (k : Nat) (h : k < (s.extract 20 s.size).size) : ((s.extract 20 s.size)[k].toNat : Int) = byt s.data.toList (20 + k) := by
  rw [byt_get, ext_from, byt_drop]
end Go.Proofs.Ythcedehppflcgab
