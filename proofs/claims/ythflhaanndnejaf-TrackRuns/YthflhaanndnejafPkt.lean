/-
  The plain mathematics of packets and frames: what is wrong with a packet, its frame, byte by byte.
-/
import Derived.Test.YthflhaanndnejafBytes
namespace Go.Proofs.Ythflhaanndnejaf
/-- a packet. -/
structure Pkt where
  proto : Int
  src : Int
  sport : Int
  dst : Int
  dport : Int
  ttl : Int
  id : Int
  flags : Int
  seq : Int
  ack : Int
  win : Int
  body : ByteArray
/-- a packet as a value. -/
def pv (p : Pkt) : Value := .agg #[.int .i64 p.proto, .int .i64 p.src, .int .i64 p.sport, .int .i64 p.dst, .int .i64 p.dport, .int .i64 p.ttl, .int .i64 p.id, .int .i64 p.flags, .int .i64 p.seq, .int .i64 p.ack, .int .i64 p.win, .string p.body]
/-- every number an int. -/
def Pkt.wf (p : Pkt) : Prop := (Lit.int .i64 p.proto).wf = true ∧ (Lit.int .i64 p.src).wf = true ∧ (Lit.int .i64 p.sport).wf = true ∧ (Lit.int .i64 p.dst).wf = true ∧ (Lit.int .i64 p.dport).wf = true ∧ (Lit.int .i64 p.ttl).wf = true ∧ (Lit.int .i64 p.id).wf = true ∧ (Lit.int .i64 p.flags).wf = true ∧ (Lit.int .i64 p.seq).wf = true ∧ (Lit.int .i64 p.ack).wf = true ∧ (Lit.int .i64 p.win).wf = true
/-- the packet of nothing. -/
def p0 : Pkt := ⟨0, 0, 0, 0, 0, 0, 0, 0, 0, 0, 0, ByteArray.empty⟩

def kindB (n : Int) : Bool := n == 1 || n == 6 || n == 17
def wordB' (n : Int) : Bool := decide (0 ≤ n ∧ n ≤ 65535)
def longB (n : Int) : Bool := decide (0 ≤ n ∧ n ≤ 4294967295)
def rangeB (p : Pkt) : Bool := ((longB p.src && longB p.dst && longB p.seq && longB p.ack) && (wordB' p.sport && wordB' p.dport && wordB' p.id && wordB' p.win)) && decide (1 ≤ p.ttl) && decide (p.ttl ≤ 255) && decide (0 ≤ p.flags) && decide (p.flags ≤ 63)
theorem range_iff (p : Pkt) : rangeB p = true ↔ (0 ≤ p.src ∧ p.src ≤ 4294967295 ∧ 0 ≤ p.dst ∧ p.dst ≤ 4294967295 ∧ 0 ≤ p.seq ∧ p.seq ≤ 4294967295 ∧ 0 ≤ p.ack ∧ p.ack ≤ 4294967295 ∧
    0 ≤ p.sport ∧ p.sport ≤ 65535 ∧ 0 ≤ p.dport ∧ p.dport ≤ 65535 ∧ 0 ≤ p.id ∧ p.id ≤ 65535 ∧ 0 ≤ p.win ∧ p.win ≤ 65535 ∧ 1 ≤ p.ttl ∧ p.ttl ≤ 255 ∧ 0 ≤ p.flags ∧ p.flags ≤ 63) := by
  unfold rangeB longB wordB'
  simp only [Bool.and_eq_true, decide_eq_true_eq, and_assoc]
def formB (p : Pkt) : Bool := if p.proto = 1 then ((p.flags == 8 && p.dport == 0) || (p.flags == 0 && p.sport == 0)) && wordB' p.seq && p.ack == 0 && p.win == 0 else if p.proto = 17 then p.flags == 0 && p.seq == 0 && p.ack == 0 && p.win == 0 else true
theorem form_iff (p : Pkt) : formB p = true ↔ ((p.proto = 1 → ((p.flags = 8 ∧ p.dport = 0) ∨ (p.flags = 0 ∧ p.sport = 0)) ∧ 0 ≤ p.seq ∧ p.seq ≤ 65535 ∧ p.ack = 0 ∧ p.win = 0) ∧ (p.proto = 17 → p.flags = 0 ∧ p.seq = 0 ∧ p.ack = 0 ∧ p.win = 0)) := by
  unfold formB wordB'
  by_cases h : p.proto = 1
  · simp [h, and_assoc]
  · by_cases h' : p.proto = 17
    · simp [h', and_assoc]
    · simp [h, h']
theorem kind_iff (n : Int) : kindB n = true ↔ n = 1 ∨ n = 6 ∨ n = 17 := by unfold kindB; simp [or_assoc]
/-- what is wrong with a packet. -/
def good (p : Pkt) : Int := if kindB p.proto = false then 4 else if rangeB p = false then 2 else if 64 < p.body.size then 5 else if formB p = false then 1 else 0

def partN (n : Int) : Int := if n = 1 ∨ n = 17 then 8 else if n = 6 then 20 else 0
def chkAt (n : Int) : Nat := if n = 1 then 22 else if n = 17 then 26 else 36
/-- a head, its check given. -/
def hd (p : Pkt) (len c : Int) : List UInt8 :=
  [69, 0] ++ w16 len ++ w16 p.id ++ w16 0 ++ [b8 p.ttl, b8 p.proto] ++ w16 c ++ l32 p.src ++ l32 p.dst
/-- what stands between head and body, its check given. -/
def pt (p : Pkt) (c : Int) : List UInt8 :=
  if p.proto = 1 then [b8 p.flags, 0] ++ w16 c ++ w16 (p.sport + p.dport) ++ w16 p.seq
  else if p.proto = 17 then w16 p.sport ++ w16 p.dport ++ w16 (8 + p.body.size) ++ w16 c
  else w16 p.sport ++ w16 p.dport ++ l32 p.seq ++ l32 p.ack ++ [80, b8 p.flags] ++ w16 p.win ++ w16 c ++ w16 0
/-- how many bytes the frame has. -/
def flen (p : Pkt) : Int := 20 + partN p.proto + p.body.size
/-- a frame, its checks given. -/
def fr (p : Pkt) (c1 c2 : Int) : List UInt8 := hd p (flen p) c1 ++ (pt p c2 ++ p.body.data.toList)
/-- what is summed ahead of what stands behind the head. -/
def ps (src dst proto n : Int) : List UInt8 := if proto = 1 then [] else l32 src ++ l32 dst ++ w16 proto ++ w16 n
/-- the head's check, and the other one. -/
def chkH (p : Pkt) : Int := 65535 - bk (tot (hd p (flen p) 0))
def chkP0 (p : Pkt) : Int := 65535 - bk (tot (ps p.src p.dst p.proto (partN p.proto + p.body.size) ++ (pt p 0 ++ p.body.data.toList)))
def chkP (p : Pkt) : Int := if p.proto = 17 ∧ chkP0 p = 0 then 65535 else chkP0 p
/-- a packet's frame. -/
def frame (p : Pkt) : List UInt8 := fr p (chkH p) (chkP p)
/-- bytes as a text. -/
def txt (l : List UInt8) : ByteArray := ⟨l.toArray⟩
theorem txt_list (l : List UInt8) : (txt l).data.toList = l := by simp [txt]
theorem txt_size (l : List UInt8) : (txt l).size = l.length := by simp [txt, ByteArray.size]
theorem txt_of (s : ByteArray) : txt s.data.toList = s := by cases s; simp [txt]

theorem part_zero (n : Int) : (partN n == 0) = !kindB n := by
  unfold partN kindB
  by_cases h1 : n = 1
  · simp [h1]
  · by_cases h2 : n = 17
    · simp [h2]
    · by_cases h3 : n = 6
      · simp [h3]
      · simp [h1, h2, h3]
@[simp] theorem hd_len (p : Pkt) (len c : Int) : (hd p len c).length = 20 := rfl
theorem pt_len (p : Pkt) (c : Int) (h : kindB p.proto = true) : ((pt p c).length : Int) = partN p.proto := by
  unfold kindB at h
  unfold pt partN
  simp at h
  rcases h with (h | h) | h <;> simp [h, w16, l32]
theorem fr_len (p : Pkt) (c1 c2 : Int) (h : kindB p.proto = true) : ((fr p c1 c2).length : Int) = flen p := by
  have := pt_len p c2 h
  unfold fr flen
  simp only [List.length_append, hd_len]
  have : p.body.data.toList.length = p.body.size := by simp
  omega
theorem size_lt (p : Pkt) (h : p.body.size ≤ 64) : flen p ≤ 104 ∧ 20 ≤ flen p := by
  unfold flen partN; split <;> (try split) <;> omega
end Go.Proofs.Ythflhaanndnejaf
