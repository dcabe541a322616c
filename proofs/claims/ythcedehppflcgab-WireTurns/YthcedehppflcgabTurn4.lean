/-
  The walk of a frame that is settled, and of Turn.
-/
import Derived.Test.YthcedehppflcgabTurn3
import Derived.Test.YthcedehppflcgabParse5
namespace Go.Proofs.Ythcedehppflcgab
open Go.ChangeShapes Go.WideShapes Go.ChangeAt Go.RowKit

def twoB (n : Int) : Bool := n == 0 || n == 65535
def settled (l : List UInt8) (proto : Int) : List UInt8 := if twoB (wAt l (chkAt proto)) = true then sealP l proto else l
theorem settle_any (p g : Nat) (l : List UInt8) (w : World) (h : Rd w p g l) (proto : Int) (hl : chkAt proto + 1 < l.length) (hm : l.length ≤ 400000) :
    Calls Try.prog 34 #[.pointer (some ⟨p, 0, none⟩), .int .i64 proto] w fun e w' => e = .returned (.tuple #[]) ∧ Rd w' p g (settled l proto) ∧ Step p (some g) (some g) w w' := by
  have hS := Step.refl p (some g) w
  have two : ∀ (n : Int) (w : World), Calls Try.prog 60 #[.int .i64 n] w fun e w' => e = .returned (.bool (twoB n)) ∧ w' = w := twofold_any
  by_cases ht : twoB (wAt l (chkAt proto)) = true
  · have E : Hid (settled l proto = sealP l proto) := by show _ = _; unfold settled; rw [if_pos ht]
    go_enter Try.func34, Try.ntmps34
    go_wp2_with (first
      | (go_at_call 52; refine (checkAt_any _ _).mono ?_; rintro e w' ⟨rfl, rfl⟩)
      | (go_at_call 58; refine (word_any p g _ _ h _ hl).mono ?_; rintro e w' ⟨rfl, h, hst⟩; replace hS := hS.trans hst; clear hst)
      | (go_at_call 60; refine (two _ _).mono ?_; rintro e w' ⟨rfl, rfl⟩)
      | (go_at_call 42; refine (sealPart_any p g _ _ h _ hl hm).mono ?_; rintro e w' ⟨rfl, h, hst⟩; replace hS := hS.trans hst; clear hst))
    go_end0
    exact ⟨rfl, by rw [E.out]; exact h, hS⟩
  · have E : Hid (settled l proto = l) := by show _ = _; unfold settled; rw [if_neg ht]
    have ht' : twoB (wAt l (chkAt proto)) = false := by simpa using ht
    go_enter Try.func34, Try.ntmps34
    go_wp2_with (first
      | (go_at_call 52; refine (checkAt_any _ _).mono ?_; rintro e w' ⟨rfl, rfl⟩)
      | (go_at_call 58; refine (word_any p g _ _ h _ hl).mono ?_; rintro e w' ⟨rfl, h, hst⟩; replace hS := hS.trans hst; clear hst)
      | (go_at_call 60; refine (two _ _).mono ?_; rintro e w' ⟨rfl, rfl⟩))
    go_end0
    exact ⟨rfl, by rw [E.out]; exact h, hS⟩
theorem bytes_frame (s : ByteArray) (w : World) : ∃ (C : Array Value) (cap : Nat),
    (convert 9 38 (.string s)).run Try.prog w = .ok (.slice (some ⟨w.heap.size, 0, none⟩) s.size cap) (w.drew.alloc (.cells C 5 (C.size, C.size + 1))) ∧
    s.size ≤ cap ∧ (s.size ≤ maxLen → cap ≤ maxLen) ∧ C.toList.take s.data.toList.length = bc s.data.toList := by
  refine ⟨_, _, run_bytes_of_string w 9 38 5 s Try.underlying9 Try.underlying38 Try.underlying5, grownCap_ge _ _ _ _, fun h => grownCap_le_maxLen _ _ _ _ h, ?_⟩
  unfold bytesRow bc
  rw [Array.toList_append, List.take_append_of_le_length (by simp), List.take_of_length_le (by simp)]
  simp
theorem rd_new (w : World) (s : ByteArray) (C : Array Value) (cap p g : Nat) (hg : w.heap.size = g) (hp : w.heap.size + 1 = p) (h1 : s.size ≤ cap) (h2 : cap ≤ maxLen) (h3 : C.toList.take s.data.toList.length = bc s.data.toList) :
    Rd (((w.alloc (.cells C 5 (C.size, C.size + 1))).alloc (.cells #[.slice (some ⟨g, 0, none⟩) s.size cap] 51)).drew) p g s.data.toList := by
  show Rd ((w.alloc (.cells C 5 (C.size, C.size + 1))).alloc (.cells #[.slice (some ⟨g, 0, none⟩) s.size cap] 51)) p g s.data.toList
  subst hg hp
  refine ⟨cap, C, (C.size, C.size + 1), ?_, by omega, ?_, .inr (Nat.le_refl _), by rw [len_list]; exact h1, h2, h3⟩
  · rw [len_list]
    have := heap_alloc_new (w.alloc (.cells C 5 (C.size, C.size + 1))) (.cells #[.slice (some ⟨w.heap.size, 0, none⟩) s.size cap] 51)
    simpa using this
  · rw [Below.heap_alloc _ _ _ (by simp)]
    exact heap_alloc_new w _
set_option maxHeartbeats 1000000 in
theorem turn_bad (s : ByteArray) (side addr port : Int) (w : World) (hs : s.size ≤ 140737488351232) (k : Pkt) (hk : parsed s.data.toList = k) (e0 : Int) (hb : bad s.data.toList = e0) (he : e0 ≠ 0) :
    Calls Try.prog 12 #[.string s, .int .i64 side, .int .i64 addr, .int .i64 port] w fun e w' => e = .returned (.tuple #[.string ByteArray.empty, .int .i64 e0]) ∧ Below w.heap.size w w' := by
  have hz : (e0 == 0) = false := by simpa using he
  go_enter Try.func12, Try.ntmps12
  go_wp2_with (first
    | (go_at_call 9; refine (parse_any s _ hs).mono ?_; rintro e w1 ⟨rfl, hb1⟩; rw [hb, hk]; unfold pv; have T1 : Twelve (w1.alloc (.cells #[.int .i64 k.proto, .int .i64 k.src, .int .i64 k.sport, .int .i64 k.dst, .int .i64 k.dport, .int .i64 k.ttl, .int .i64 k.id, .int .i64 k.flags, .int .i64 k.seq, .int .i64 k.ack, .int .i64 k.win, .string k.body] 23)) w1.heap.size #[.int .i64 k.proto, .int .i64 k.src, .int .i64 k.sport, .int .i64 k.dst, .int .i64 k.dport, .int .i64 k.ttl, .int .i64 k.id, .int .i64 k.flags, .int .i64 k.seq, .int .i64 k.ack, .int .i64 k.win, .string k.body] := heap_alloc_new w1 _; have c1 := T1.cell)
    | (go_at_call 29; refine (failedS_any _ _).mono ?_; rintro e w' ⟨rfl, rfl⟩)
    | (go_at_call 30; refine (isLong_any _ _).mono ?_; rintro e w' ⟨rfl, rfl⟩)
    | (go_at_call 31; refine (isWord_any _ _).mono ?_; rintro e w' ⟨rfl, rfl⟩))
  all_goals
    go_ret2
    exact ⟨rfl, hb1.alloc hb1.size _⟩
set_option maxHeartbeats 1000000 in
theorem turn_side (s : ByteArray) (side addr port : Int) (w : World) (hs : s.size ≤ 140737488351232) (k : Pkt) (hk : parsed s.data.toList = k) (hb : bad s.data.toList = 0) (h0 : side ≠ 0) (h1 : side ≠ 1) :
    Calls Try.prog 12 #[.string s, .int .i64 side, .int .i64 addr, .int .i64 port] w fun e w' => e = .returned (.tuple #[.string ByteArray.empty, .int .i64 2]) ∧ Below w.heap.size w w' := by
  have h0' : (side == 0) = false := by simpa using h0
  have h1' : (side == 1) = false := by simpa using h1
  go_enter Try.func12, Try.ntmps12
  go_wp2_with (first
    | (go_at_call 9; refine (parse_any s _ hs).mono ?_; rintro e w1 ⟨rfl, hb1⟩; rw [hb, hk]; unfold pv; have T1 : Twelve (w1.alloc (.cells #[.int .i64 k.proto, .int .i64 k.src, .int .i64 k.sport, .int .i64 k.dst, .int .i64 k.dport, .int .i64 k.ttl, .int .i64 k.id, .int .i64 k.flags, .int .i64 k.seq, .int .i64 k.ack, .int .i64 k.win, .string k.body] 23)) w1.heap.size #[.int .i64 k.proto, .int .i64 k.src, .int .i64 k.sport, .int .i64 k.dst, .int .i64 k.dport, .int .i64 k.ttl, .int .i64 k.id, .int .i64 k.flags, .int .i64 k.seq, .int .i64 k.ack, .int .i64 k.win, .string k.body] := heap_alloc_new w1 _; have c1 := T1.cell)
    | (go_at_call 29; refine (failedS_any _ _).mono ?_; rintro e w' ⟨rfl, rfl⟩)
    | (go_at_call 30; refine (isLong_any _ _).mono ?_; rintro e w' ⟨rfl, rfl⟩)
    | (go_at_call 31; refine (isWord_any _ _).mono ?_; rintro e w' ⟨rfl, rfl⟩))
  all_goals
    go_ret2
    exact ⟨rfl, hb1.alloc hb1.size _⟩
set_option maxHeartbeats 1000000 in
theorem turn_addr (s : ByteArray) (side addr port : Int) (w : World) (hs : s.size ≤ 140737488351232) (k : Pkt) (hk : parsed s.data.toList = k) (hb : bad s.data.toList = 0) (h0 : side = 0 ∨ side = 1) (ha : longB addr = false) :
    Calls Try.prog 12 #[.string s, .int .i64 side, .int .i64 addr, .int .i64 port] w fun e w' => e = .returned (.tuple #[.string ByteArray.empty, .int .i64 2]) ∧ Below w.heap.size w w' := by
  rcases h0 with rfl | rfl
  all_goals
    go_enter Try.func12, Try.ntmps12
    go_wp2_with (first
      | (go_at_call 9; refine (parse_any s _ hs).mono ?_; rintro e w1 ⟨rfl, hb1⟩; rw [hb, hk]; unfold pv; have T1 : Twelve (w1.alloc (.cells #[.int .i64 k.proto, .int .i64 k.src, .int .i64 k.sport, .int .i64 k.dst, .int .i64 k.dport, .int .i64 k.ttl, .int .i64 k.id, .int .i64 k.flags, .int .i64 k.seq, .int .i64 k.ack, .int .i64 k.win, .string k.body] 23)) w1.heap.size #[.int .i64 k.proto, .int .i64 k.src, .int .i64 k.sport, .int .i64 k.dst, .int .i64 k.dport, .int .i64 k.ttl, .int .i64 k.id, .int .i64 k.flags, .int .i64 k.seq, .int .i64 k.ack, .int .i64 k.win, .string k.body] := heap_alloc_new w1 _; have c1 := T1.cell)
      | (go_at_call 29; refine (failedS_any _ _).mono ?_; rintro e w' ⟨rfl, rfl⟩)
      | (go_at_call 30; refine (isLong_any _ _).mono ?_; rintro e w' ⟨rfl, rfl⟩)
      | (go_at_call 31; refine (isWord_any _ _).mono ?_; rintro e w' ⟨rfl, rfl⟩))
    all_goals
      go_ret2
      exact ⟨rfl, hb1.alloc hb1.size _⟩
set_option maxHeartbeats 1000000 in
theorem turn_port (s : ByteArray) (side addr port : Int) (w : World) (hs : s.size ≤ 140737488351232) (k : Pkt) (hk : parsed s.data.toList = k) (hb : bad s.data.toList = 0) (h0 : side = 0 ∨ side = 1) (ha : longB addr = true) (hp : wordB' port = false) :
    Calls Try.prog 12 #[.string s, .int .i64 side, .int .i64 addr, .int .i64 port] w fun e w' => e = .returned (.tuple #[.string ByteArray.empty, .int .i64 2]) ∧ Below w.heap.size w w' := by
  rcases h0 with rfl | rfl
  all_goals
    go_enter Try.func12, Try.ntmps12
    go_wp2_with (first
      | (go_at_call 9; refine (parse_any s _ hs).mono ?_; rintro e w1 ⟨rfl, hb1⟩; rw [hb, hk]; unfold pv; have T1 : Twelve (w1.alloc (.cells #[.int .i64 k.proto, .int .i64 k.src, .int .i64 k.sport, .int .i64 k.dst, .int .i64 k.dport, .int .i64 k.ttl, .int .i64 k.id, .int .i64 k.flags, .int .i64 k.seq, .int .i64 k.ack, .int .i64 k.win, .string k.body] 23)) w1.heap.size #[.int .i64 k.proto, .int .i64 k.src, .int .i64 k.sport, .int .i64 k.dst, .int .i64 k.dport, .int .i64 k.ttl, .int .i64 k.id, .int .i64 k.flags, .int .i64 k.seq, .int .i64 k.ack, .int .i64 k.win, .string k.body] := heap_alloc_new w1 _; have c1 := T1.cell)
      | (go_at_call 29; refine (failedS_any _ _).mono ?_; rintro e w' ⟨rfl, rfl⟩)
      | (go_at_call 30; refine (isLong_any _ _).mono ?_; rintro e w' ⟨rfl, rfl⟩)
      | (go_at_call 31; refine (isWord_any _ _).mono ?_; rintro e w' ⟨rfl, rfl⟩))
    all_goals
      go_ret2
      exact ⟨rfl, hb1.alloc hb1.size _⟩
set_option maxHeartbeats 1000000 in
theorem turn_dead (s : ByteArray) (side addr port : Int) (w : World) (hs : s.size ≤ 140737488351232) (k : Pkt) (hk : parsed s.data.toList = k) (hb : bad s.data.toList = 0) (h0 : side = 0 ∨ side = 1) (ha : longB addr = true) (hp : wordB' port = true) (h1 : k.ttl = 1) :
    Calls Try.prog 12 #[.string s, .int .i64 side, .int .i64 addr, .int .i64 port] w fun e w' => e = .returned (.tuple #[.string ByteArray.empty, .int .i64 12]) ∧ Below w.heap.size w w' := by
  rcases h0 with rfl | rfl
  all_goals
    go_enter Try.func12, Try.ntmps12
    go_wp2_with (first
      | (go_at_call 9; refine (parse_any s _ hs).mono ?_; rintro e w1 ⟨rfl, hb1⟩; rw [hb, hk]; unfold pv; have T1 : Twelve (w1.alloc (.cells #[.int .i64 k.proto, .int .i64 k.src, .int .i64 k.sport, .int .i64 k.dst, .int .i64 k.dport, .int .i64 k.ttl, .int .i64 k.id, .int .i64 k.flags, .int .i64 k.seq, .int .i64 k.ack, .int .i64 k.win, .string k.body] 23)) w1.heap.size #[.int .i64 k.proto, .int .i64 k.src, .int .i64 k.sport, .int .i64 k.dst, .int .i64 k.dport, .int .i64 k.ttl, .int .i64 k.id, .int .i64 k.flags, .int .i64 k.seq, .int .i64 k.ack, .int .i64 k.win, .string k.body] := heap_alloc_new w1 _; have c1 := T1.cell)
      | (go_at_call 29; refine (failedS_any _ _).mono ?_; rintro e w' ⟨rfl, rfl⟩)
      | (go_at_call 30; refine (isLong_any _ _).mono ?_; rintro e w' ⟨rfl, rfl⟩)
      | (go_at_call 31; refine (isWord_any _ _).mono ?_; rintro e w' ⟨rfl, rfl⟩))
    all_goals
      go_ret2
      exact ⟨rfl, hb1.alloc hb1.size _⟩
set_option maxHeartbeats 1000000 in
theorem turn_kind (s : ByteArray) (side addr port : Int) (w : World) (hs : s.size ≤ 140737488351232) (k : Pkt) (hk : parsed s.data.toList = k) (hb : bad s.data.toList = 0) (h0 : side = 0 ∨ side = 1) (ha : longB addr = true) (hp : wordB' port = true) (h1 : k.ttl ≠ 1) (h2 : k.proto = 1) (h3 : (k.flags == 8) ≠ (side == 0)) :
    Calls Try.prog 12 #[.string s, .int .i64 side, .int .i64 addr, .int .i64 port] w fun e w' => e = .returned (.tuple #[.string ByteArray.empty, .int .i64 4]) ∧ Below w.heap.size w w' := by
  have h1' : (k.ttl == 1) = false := by simpa using h1
  rcases h0 with rfl | rfl
  · have h4 : (k.flags == 8) = false := by simpa using h3
    clear h3
    go_enter Try.func12, Try.ntmps12
    go_wp2_with (first
      | (go_at_call 9; refine (parse_any s _ hs).mono ?_; rintro e w1 ⟨rfl, hb1⟩; rw [hb, hk]; unfold pv; have T1 : Twelve (w1.alloc (.cells #[.int .i64 k.proto, .int .i64 k.src, .int .i64 k.sport, .int .i64 k.dst, .int .i64 k.dport, .int .i64 k.ttl, .int .i64 k.id, .int .i64 k.flags, .int .i64 k.seq, .int .i64 k.ack, .int .i64 k.win, .string k.body] 23)) w1.heap.size #[.int .i64 k.proto, .int .i64 k.src, .int .i64 k.sport, .int .i64 k.dst, .int .i64 k.dport, .int .i64 k.ttl, .int .i64 k.id, .int .i64 k.flags, .int .i64 k.seq, .int .i64 k.ack, .int .i64 k.win, .string k.body] := heap_alloc_new w1 _; have c1 := T1.cell)
      | (go_at_call 29; refine (failedS_any _ _).mono ?_; rintro e w' ⟨rfl, rfl⟩)
      | (go_at_call 30; refine (isLong_any _ _).mono ?_; rintro e w' ⟨rfl, rfl⟩)
      | (go_at_call 31; refine (isWord_any _ _).mono ?_; rintro e w' ⟨rfl, rfl⟩))
    all_goals
      go_ret2
      exact ⟨rfl, hb1.alloc hb1.size _⟩
  · have h4 : (k.flags == 8) = true := by simpa using h3
    clear h3
    go_enter Try.func12, Try.ntmps12
    go_wp2_with (first
      | (go_at_call 9; refine (parse_any s _ hs).mono ?_; rintro e w1 ⟨rfl, hb1⟩; rw [hb, hk]; unfold pv; have T1 : Twelve (w1.alloc (.cells #[.int .i64 k.proto, .int .i64 k.src, .int .i64 k.sport, .int .i64 k.dst, .int .i64 k.dport, .int .i64 k.ttl, .int .i64 k.id, .int .i64 k.flags, .int .i64 k.seq, .int .i64 k.ack, .int .i64 k.win, .string k.body] 23)) w1.heap.size #[.int .i64 k.proto, .int .i64 k.src, .int .i64 k.sport, .int .i64 k.dst, .int .i64 k.dport, .int .i64 k.ttl, .int .i64 k.id, .int .i64 k.flags, .int .i64 k.seq, .int .i64 k.ack, .int .i64 k.win, .string k.body] := heap_alloc_new w1 _; have c1 := T1.cell)
      | (go_at_call 29; refine (failedS_any _ _).mono ?_; rintro e w' ⟨rfl, rfl⟩)
      | (go_at_call 30; refine (isLong_any _ _).mono ?_; rintro e w' ⟨rfl, rfl⟩)
      | (go_at_call 31; refine (isWord_any _ _).mono ?_; rintro e w' ⟨rfl, rfl⟩))
    all_goals
      go_ret2
      exact ⟨rfl, hb1.alloc hb1.size _⟩
theorem turn_box (w : World) (cs : Array Value) (t : TypeId) (o1 o2 : Obj) (o : Nat) : ((((w.alloc (.cells cs t)).alloc o1).alloc o2).drew).cell? ⟨w.heap.size, o, none⟩ = cs[o]? := by
  have h : (((w.alloc (.cells cs t)).alloc o1).alloc o2).heap[w.heap.size]? = some (.cells cs t (0, 0)) := by
    rw [Below.heap_alloc _ _ _ (by simp; omega), Below.heap_alloc _ _ _ (by simp)]
    exact heap_alloc_new w _
  show (((w.alloc (.cells cs t)).alloc o1).alloc o2).cell? _ = _
  simp [World.cell?, h]
theorem readd_any (p g : Nat) (l : List UInt8) (w : World) (h : Rd w p g l) (proto side addr port : Int) (hs : side = 0 ∨ side = 1) (a0 : 0 ≤ addr) (a1 : addr ≤ 4294967295) (hl : 28 ≤ l.length) (hq : chkAt proto + 1 < l.length) :
    Calls Try.prog 33 #[.pointer (some ⟨p, 0, none⟩), .int .i64 proto, .int .i64 side, .int .i64 addr, .int .i64 port] w fun e w' => e = .returned (.tuple #[]) ∧ Rd w' p g (readd l proto side addr port) ∧ Step p (some g) (some g) w w' := by
  by_cases hp : proto = 1
  · subst hp; exact readd_ping p g l w h side addr port hs a0 a1 hl
  · exact readd_other p g l w h proto side addr port hs a0 a1 hl hp hq
@[simp] theorem readd_len (l : List UInt8) (proto side addr port : Int) : (readd l proto side addr port).length = l.length := by simp [readd]
/-- a frame turned on the spot. -/
def spun (l : List UInt8) (proto side addr port : Int) : List UInt8 := settled (readd (aged l) proto side addr port) proto
theorem turn_below {w w1 w' : World} {o1 o2 o3 : Obj} {G' : Option Nat} (hb : Below w.heap.size w w1) (hS : Step (w1.heap.size + 1 + 1) (some (w1.heap.size + 1)) G' ((((w1.alloc o1).alloc o2).alloc o3).drew) w') : Below w.heap.size w w' := by
  have h1 := hb.size
  have b1 : Below w.heap.size w ((((w1.alloc o1).alloc o2).alloc o3).drew) := ((((hb.alloc h1 o1).alloc (by simp; omega) o2).alloc (by simp; omega) o3)).drew
  exact b1.trans (hS.below (by have := b1.size; omega) (by omega) (fun k e => by cases e; omega))
set_option maxHeartbeats 2000000 in
theorem turn_ok (s : ByteArray) (side addr port : Int) (w : World) (hs : s.size ≤ 140737488351232) (k : Pkt) (hk : parsed s.data.toList = k) (hb : bad s.data.toList = 0) (hsd : side = 0 ∨ side = 1) (ha : longB addr = true) (hp : wordB' port = true) (h1 : k.ttl ≠ 1) (h2 : k.proto = 1 → (k.flags == 8) = (side == 0)) (hl : 28 ≤ s.size) (hsm : s.size ≤ 65535) (hq : chkAt k.proto + 1 < s.size) :
    Calls Try.prog 12 #[.string s, .int .i64 side, .int .i64 addr, .int .i64 port] w fun e w' => e = .returned (.tuple #[.string (txt (spun s.data.toList k.proto side addr port)), .int .i64 0]) ∧ Below w.heap.size w w' := by
  have ha' : 0 ≤ addr ∧ addr ≤ 4294967295 := by unfold longB at ha; simpa using ha
  have hll := len_list s
  have h1' : (k.ttl == 1) = false := by simpa using h1
  clear h1
  by_cases hpr : k.proto = 1
  · have hpr' : (k.proto == 1) = true := by simpa using hpr
    have h3 := h2 hpr
    clear h2 hpr
    rcases hsd with rfl | rfl
    · have h4 : (k.flags == 8) = true := by simpa using h3
      clear h3
      go_enter Try.func12, Try.ntmps12
      go_wp2_with (first
        | (go_at_call 9; refine (parse_any s _ hs).mono ?_; rintro e w1 ⟨rfl, hb1⟩; rw [hb, hk]; unfold pv; have T1 : Twelve (w1.alloc (.cells #[.int .i64 k.proto, .int .i64 k.src, .int .i64 k.sport, .int .i64 k.dst, .int .i64 k.dport, .int .i64 k.ttl, .int .i64 k.id, .int .i64 k.flags, .int .i64 k.seq, .int .i64 k.ack, .int .i64 k.win, .string k.body] 23)) w1.heap.size #[.int .i64 k.proto, .int .i64 k.src, .int .i64 k.sport, .int .i64 k.dst, .int .i64 k.dport, .int .i64 k.ttl, .int .i64 k.id, .int .i64 k.flags, .int .i64 k.seq, .int .i64 k.ack, .int .i64 k.win, .string k.body] := heap_alloc_new w1 _; have c1 := T1.cell; obtain ⟨C, cap, hconv, hc1, hc2, hc3⟩ := bytes_frame s (w1.alloc (.cells #[.int .i64 k.proto, .int .i64 k.src, .int .i64 k.sport, .int .i64 k.dst, .int .i64 k.dport, .int .i64 k.ttl, .int .i64 k.id, .int .i64 k.flags, .int .i64 k.seq, .int .i64 k.ack, .int .i64 k.win, .string k.body] 23)); have h := rd_new (w1.alloc (.cells #[.int .i64 k.proto, .int .i64 k.src, .int .i64 k.sport, .int .i64 k.dst, .int .i64 k.dport, .int .i64 k.ttl, .int .i64 k.id, .int .i64 k.flags, .int .i64 k.seq, .int .i64 k.ack, .int .i64 k.win, .string k.body] 23)) s C cap (w1.heap.size + 1 + 1) (w1.heap.size + 1) (by simp) (by simp) hc1 (hc2 (by unfold maxLen; omega)) hc3; have hI : Inv w1.heap.size (w1.heap.size + 1 + 1) (some (w1.heap.size + 1)) ((((w1.alloc (.cells #[.int .i64 k.proto, .int .i64 k.src, .int .i64 k.sport, .int .i64 k.dst, .int .i64 k.dport, .int .i64 k.ttl, .int .i64 k.id, .int .i64 k.flags, .int .i64 k.seq, .int .i64 k.ack, .int .i64 k.win, .string k.body] 23)).alloc (.cells C 5 (C.size, C.size + 1))).alloc (.cells #[.slice (some ⟨w1.heap.size + 1, 0, none⟩) s.size cap] 51)).drew) #[.int .i64 k.proto, .int .i64 k.src, .int .i64 k.sport, .int .i64 k.dst, .int .i64 k.dport, .int .i64 k.ttl, .int .i64 k.id, .int .i64 k.flags, .int .i64 k.seq, .int .i64 k.ack, .int .i64 k.win, .string k.body] := ⟨by simp; omega, by omega, by simp, fun o => turn_box w1 _ _ _ _ o⟩; have hS := Step.refl (w1.heap.size + 1 + 1) (some (w1.heap.size + 1)) ((((w1.alloc (.cells #[.int .i64 k.proto, .int .i64 k.src, .int .i64 k.sport, .int .i64 k.dst, .int .i64 k.dport, .int .i64 k.ttl, .int .i64 k.id, .int .i64 k.flags, .int .i64 k.seq, .int .i64 k.ack, .int .i64 k.win, .string k.body] 23)).alloc (.cells C 5 (C.size, C.size + 1))).alloc (.cells #[.slice (some ⟨w1.heap.size + 1, 0, none⟩) s.size cap] 51)).drew); clear hc1 hc2 hc3; have hbx := hI.cell)
        | (go_at_call 30; refine (isLong_any _ _).mono ?_; rintro e w' ⟨rfl, rfl⟩)
        | (go_at_call 31; refine (isWord_any _ _).mono ?_; rintro e w' ⟨rfl, rfl⟩)
        | (go_at_call 32; go_fit (age_any _ _ _ _ h (by omega)); rintro e w' ⟨rfl, h, hst⟩; replace hI := hI.step hst; replace hS := hS.trans hst; clear hst; have hbx := hI.cell)
        | (go_at_call 33; (go_fit (readd_any _ _ _ _ h k.proto _ _ _ (by omega) ha'.1 ha'.2 (by simp; omega) (by simp; omega)); rintro e w' ⟨rfl, h, hst⟩; replace hI := hI.step hst; replace hS := hS.trans hst; clear hst; have hbx := hI.cell))
        | (go_at_call 34; go_fit (settle_any _ _ _ _ h k.proto (by simp; omega) (by simp; omega)); rintro e w' ⟨rfl, h, hst⟩; replace hS := hS.trans hst; clear hst)
        | (go_at_call 35; go_fit (text_any _ _ _ _ h); rintro e w' ⟨rfl, rfl⟩))
      go_ret2
      exact ⟨rfl, turn_below hb1 hS⟩
    · have h4 : (k.flags == 8) = false := by simpa using h3
      clear h3
      go_enter Try.func12, Try.ntmps12
      go_wp2_with (first
        | (go_at_call 9; refine (parse_any s _ hs).mono ?_; rintro e w1 ⟨rfl, hb1⟩; rw [hb, hk]; unfold pv; have T1 : Twelve (w1.alloc (.cells #[.int .i64 k.proto, .int .i64 k.src, .int .i64 k.sport, .int .i64 k.dst, .int .i64 k.dport, .int .i64 k.ttl, .int .i64 k.id, .int .i64 k.flags, .int .i64 k.seq, .int .i64 k.ack, .int .i64 k.win, .string k.body] 23)) w1.heap.size #[.int .i64 k.proto, .int .i64 k.src, .int .i64 k.sport, .int .i64 k.dst, .int .i64 k.dport, .int .i64 k.ttl, .int .i64 k.id, .int .i64 k.flags, .int .i64 k.seq, .int .i64 k.ack, .int .i64 k.win, .string k.body] := heap_alloc_new w1 _; have c1 := T1.cell; obtain ⟨C, cap, hconv, hc1, hc2, hc3⟩ := bytes_frame s (w1.alloc (.cells #[.int .i64 k.proto, .int .i64 k.src, .int .i64 k.sport, .int .i64 k.dst, .int .i64 k.dport, .int .i64 k.ttl, .int .i64 k.id, .int .i64 k.flags, .int .i64 k.seq, .int .i64 k.ack, .int .i64 k.win, .string k.body] 23)); have h := rd_new (w1.alloc (.cells #[.int .i64 k.proto, .int .i64 k.src, .int .i64 k.sport, .int .i64 k.dst, .int .i64 k.dport, .int .i64 k.ttl, .int .i64 k.id, .int .i64 k.flags, .int .i64 k.seq, .int .i64 k.ack, .int .i64 k.win, .string k.body] 23)) s C cap (w1.heap.size + 1 + 1) (w1.heap.size + 1) (by simp) (by simp) hc1 (hc2 (by unfold maxLen; omega)) hc3; have hI : Inv w1.heap.size (w1.heap.size + 1 + 1) (some (w1.heap.size + 1)) ((((w1.alloc (.cells #[.int .i64 k.proto, .int .i64 k.src, .int .i64 k.sport, .int .i64 k.dst, .int .i64 k.dport, .int .i64 k.ttl, .int .i64 k.id, .int .i64 k.flags, .int .i64 k.seq, .int .i64 k.ack, .int .i64 k.win, .string k.body] 23)).alloc (.cells C 5 (C.size, C.size + 1))).alloc (.cells #[.slice (some ⟨w1.heap.size + 1, 0, none⟩) s.size cap] 51)).drew) #[.int .i64 k.proto, .int .i64 k.src, .int .i64 k.sport, .int .i64 k.dst, .int .i64 k.dport, .int .i64 k.ttl, .int .i64 k.id, .int .i64 k.flags, .int .i64 k.seq, .int .i64 k.ack, .int .i64 k.win, .string k.body] := ⟨by simp; omega, by omega, by simp, fun o => turn_box w1 _ _ _ _ o⟩; have hS := Step.refl (w1.heap.size + 1 + 1) (some (w1.heap.size + 1)) ((((w1.alloc (.cells #[.int .i64 k.proto, .int .i64 k.src, .int .i64 k.sport, .int .i64 k.dst, .int .i64 k.dport, .int .i64 k.ttl, .int .i64 k.id, .int .i64 k.flags, .int .i64 k.seq, .int .i64 k.ack, .int .i64 k.win, .string k.body] 23)).alloc (.cells C 5 (C.size, C.size + 1))).alloc (.cells #[.slice (some ⟨w1.heap.size + 1, 0, none⟩) s.size cap] 51)).drew); clear hc1 hc2 hc3; have hbx := hI.cell)
        | (go_at_call 30; refine (isLong_any _ _).mono ?_; rintro e w' ⟨rfl, rfl⟩)
        | (go_at_call 31; refine (isWord_any _ _).mono ?_; rintro e w' ⟨rfl, rfl⟩)
        | (go_at_call 32; go_fit (age_any _ _ _ _ h (by omega)); rintro e w' ⟨rfl, h, hst⟩; replace hI := hI.step hst; replace hS := hS.trans hst; clear hst; have hbx := hI.cell)
        | (go_at_call 33; (go_fit (readd_any _ _ _ _ h k.proto _ _ _ (by omega) ha'.1 ha'.2 (by simp; omega) (by simp; omega)); rintro e w' ⟨rfl, h, hst⟩; replace hI := hI.step hst; replace hS := hS.trans hst; clear hst; have hbx := hI.cell))
        | (go_at_call 34; go_fit (settle_any _ _ _ _ h k.proto (by simp; omega) (by simp; omega)); rintro e w' ⟨rfl, h, hst⟩; replace hS := hS.trans hst; clear hst)
        | (go_at_call 35; go_fit (text_any _ _ _ _ h); rintro e w' ⟨rfl, rfl⟩))
      go_ret2
      exact ⟨rfl, turn_below hb1 hS⟩
  · have hpr' : (k.proto == 1) = false := by simpa using hpr
    clear h2 hpr
    rcases hsd with rfl | rfl
    · go_enter Try.func12, Try.ntmps12
      go_wp2_with (first
        | (go_at_call 9; refine (parse_any s _ hs).mono ?_; rintro e w1 ⟨rfl, hb1⟩; rw [hb, hk]; unfold pv; have T1 : Twelve (w1.alloc (.cells #[.int .i64 k.proto, .int .i64 k.src, .int .i64 k.sport, .int .i64 k.dst, .int .i64 k.dport, .int .i64 k.ttl, .int .i64 k.id, .int .i64 k.flags, .int .i64 k.seq, .int .i64 k.ack, .int .i64 k.win, .string k.body] 23)) w1.heap.size #[.int .i64 k.proto, .int .i64 k.src, .int .i64 k.sport, .int .i64 k.dst, .int .i64 k.dport, .int .i64 k.ttl, .int .i64 k.id, .int .i64 k.flags, .int .i64 k.seq, .int .i64 k.ack, .int .i64 k.win, .string k.body] := heap_alloc_new w1 _; have c1 := T1.cell; obtain ⟨C, cap, hconv, hc1, hc2, hc3⟩ := bytes_frame s (w1.alloc (.cells #[.int .i64 k.proto, .int .i64 k.src, .int .i64 k.sport, .int .i64 k.dst, .int .i64 k.dport, .int .i64 k.ttl, .int .i64 k.id, .int .i64 k.flags, .int .i64 k.seq, .int .i64 k.ack, .int .i64 k.win, .string k.body] 23)); have h := rd_new (w1.alloc (.cells #[.int .i64 k.proto, .int .i64 k.src, .int .i64 k.sport, .int .i64 k.dst, .int .i64 k.dport, .int .i64 k.ttl, .int .i64 k.id, .int .i64 k.flags, .int .i64 k.seq, .int .i64 k.ack, .int .i64 k.win, .string k.body] 23)) s C cap (w1.heap.size + 1 + 1) (w1.heap.size + 1) (by simp) (by simp) hc1 (hc2 (by unfold maxLen; omega)) hc3; have hI : Inv w1.heap.size (w1.heap.size + 1 + 1) (some (w1.heap.size + 1)) ((((w1.alloc (.cells #[.int .i64 k.proto, .int .i64 k.src, .int .i64 k.sport, .int .i64 k.dst, .int .i64 k.dport, .int .i64 k.ttl, .int .i64 k.id, .int .i64 k.flags, .int .i64 k.seq, .int .i64 k.ack, .int .i64 k.win, .string k.body] 23)).alloc (.cells C 5 (C.size, C.size + 1))).alloc (.cells #[.slice (some ⟨w1.heap.size + 1, 0, none⟩) s.size cap] 51)).drew) #[.int .i64 k.proto, .int .i64 k.src, .int .i64 k.sport, .int .i64 k.dst, .int .i64 k.dport, .int .i64 k.ttl, .int .i64 k.id, .int .i64 k.flags, .int .i64 k.seq, .int .i64 k.ack, .int .i64 k.win, .string k.body] := ⟨by simp; omega, by omega, by simp, fun o => turn_box w1 _ _ _ _ o⟩; have hS := Step.refl (w1.heap.size + 1 + 1) (some (w1.heap.size + 1)) ((((w1.alloc (.cells #[.int .i64 k.proto, .int .i64 k.src, .int .i64 k.sport, .int .i64 k.dst, .int .i64 k.dport, .int .i64 k.ttl, .int .i64 k.id, .int .i64 k.flags, .int .i64 k.seq, .int .i64 k.ack, .int .i64 k.win, .string k.body] 23)).alloc (.cells C 5 (C.size, C.size + 1))).alloc (.cells #[.slice (some ⟨w1.heap.size + 1, 0, none⟩) s.size cap] 51)).drew); clear hc1 hc2 hc3; have hbx := hI.cell)
        | (go_at_call 30; refine (isLong_any _ _).mono ?_; rintro e w' ⟨rfl, rfl⟩)
        | (go_at_call 31; refine (isWord_any _ _).mono ?_; rintro e w' ⟨rfl, rfl⟩)
        | (go_at_call 32; go_fit (age_any _ _ _ _ h (by omega)); rintro e w' ⟨rfl, h, hst⟩; replace hI := hI.step hst; replace hS := hS.trans hst; clear hst; have hbx := hI.cell)
        | (go_at_call 33; (go_fit (readd_any _ _ _ _ h k.proto _ _ _ (by omega) ha'.1 ha'.2 (by simp; omega) (by simp; omega)); rintro e w' ⟨rfl, h, hst⟩; replace hI := hI.step hst; replace hS := hS.trans hst; clear hst; have hbx := hI.cell))
        | (go_at_call 34; go_fit (settle_any _ _ _ _ h k.proto (by simp; omega) (by simp; omega)); rintro e w' ⟨rfl, h, hst⟩; replace hS := hS.trans hst; clear hst)
        | (go_at_call 35; go_fit (text_any _ _ _ _ h); rintro e w' ⟨rfl, rfl⟩))
      go_ret2
      exact ⟨rfl, turn_below hb1 hS⟩
    · go_enter Try.func12, Try.ntmps12
      go_wp2_with (first
        | (go_at_call 9; refine (parse_any s _ hs).mono ?_; rintro e w1 ⟨rfl, hb1⟩; rw [hb, hk]; unfold pv; have T1 : Twelve (w1.alloc (.cells #[.int .i64 k.proto, .int .i64 k.src, .int .i64 k.sport, .int .i64 k.dst, .int .i64 k.dport, .int .i64 k.ttl, .int .i64 k.id, .int .i64 k.flags, .int .i64 k.seq, .int .i64 k.ack, .int .i64 k.win, .string k.body] 23)) w1.heap.size #[.int .i64 k.proto, .int .i64 k.src, .int .i64 k.sport, .int .i64 k.dst, .int .i64 k.dport, .int .i64 k.ttl, .int .i64 k.id, .int .i64 k.flags, .int .i64 k.seq, .int .i64 k.ack, .int .i64 k.win, .string k.body] := heap_alloc_new w1 _; have c1 := T1.cell; obtain ⟨C, cap, hconv, hc1, hc2, hc3⟩ := bytes_frame s (w1.alloc (.cells #[.int .i64 k.proto, .int .i64 k.src, .int .i64 k.sport, .int .i64 k.dst, .int .i64 k.dport, .int .i64 k.ttl, .int .i64 k.id, .int .i64 k.flags, .int .i64 k.seq, .int .i64 k.ack, .int .i64 k.win, .string k.body] 23)); have h := rd_new (w1.alloc (.cells #[.int .i64 k.proto, .int .i64 k.src, .int .i64 k.sport, .int .i64 k.dst, .int .i64 k.dport, .int .i64 k.ttl, .int .i64 k.id, .int .i64 k.flags, .int .i64 k.seq, .int .i64 k.ack, .int .i64 k.win, .string k.body] 23)) s C cap (w1.heap.size + 1 + 1) (w1.heap.size + 1) (by simp) (by simp) hc1 (hc2 (by unfold maxLen; omega)) hc3; have hI : Inv w1.heap.size (w1.heap.size + 1 + 1) (some (w1.heap.size + 1)) ((((w1.alloc (.cells #[.int .i64 k.proto, .int .i64 k.src, .int .i64 k.sport, .int .i64 k.dst, .int .i64 k.dport, .int .i64 k.ttl, .int .i64 k.id, .int .i64 k.flags, .int .i64 k.seq, .int .i64 k.ack, .int .i64 k.win, .string k.body] 23)).alloc (.cells C 5 (C.size, C.size + 1))).alloc (.cells #[.slice (some ⟨w1.heap.size + 1, 0, none⟩) s.size cap] 51)).drew) #[.int .i64 k.proto, .int .i64 k.src, .int .i64 k.sport, .int .i64 k.dst, .int .i64 k.dport, .int .i64 k.ttl, .int .i64 k.id, .int .i64 k.flags, .int .i64 k.seq, .int .i64 k.ack, .int .i64 k.win, .string k.body] := ⟨by simp; omega, by omega, by simp, fun o => turn_box w1 _ _ _ _ o⟩; have hS := Step.refl (w1.heap.size + 1 + 1) (some (w1.heap.size + 1)) ((((w1.alloc (.cells #[.int .i64 k.proto, .int .i64 k.src, .int .i64 k.sport, .int .i64 k.dst, .int .i64 k.dport, .int .i64 k.ttl, .int .i64 k.id, .int .i64 k.flags, .int .i64 k.seq, .int .i64 k.ack, .int .i64 k.win, .string k.body] 23)).alloc (.cells C 5 (C.size, C.size + 1))).alloc (.cells #[.slice (some ⟨w1.heap.size + 1, 0, none⟩) s.size cap] 51)).drew); clear hc1 hc2 hc3; have hbx := hI.cell)
        | (go_at_call 30; refine (isLong_any _ _).mono ?_; rintro e w' ⟨rfl, rfl⟩)
        | (go_at_call 31; refine (isWord_any _ _).mono ?_; rintro e w' ⟨rfl, rfl⟩)
        | (go_at_call 32; go_fit (age_any _ _ _ _ h (by omega)); rintro e w' ⟨rfl, h, hst⟩; replace hI := hI.step hst; replace hS := hS.trans hst; clear hst; have hbx := hI.cell)
        | (go_at_call 33; (go_fit (readd_any _ _ _ _ h k.proto _ _ _ (by omega) ha'.1 ha'.2 (by simp; omega) (by simp; omega)); rintro e w' ⟨rfl, h, hst⟩; replace hI := hI.step hst; replace hS := hS.trans hst; clear hst; have hbx := hI.cell))
        | (go_at_call 34; go_fit (settle_any _ _ _ _ h k.proto (by simp; omega) (by simp; omega)); rintro e w' ⟨rfl, h, hst⟩; replace hS := hS.trans hst; clear hst)
        | (go_at_call 35; go_fit (text_any _ _ _ _ h); rintro e w' ⟨rfl, rfl⟩))
      go_ret2
      exact ⟨rfl, turn_below hb1 hS⟩
end Go.Proofs.Ythcedehppflcgab
