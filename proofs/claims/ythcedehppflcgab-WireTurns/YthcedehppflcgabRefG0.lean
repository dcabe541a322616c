/-
  The walk of the document's own GoodPacket.
-/
import Derived.Test.YthcedehppflcgabRefW
import Derived.Deep.QuietTactic
import Derived.BigQuiet
namespace Go.Proofs.Ythcedehppflcgab
open Go.ChangeShapes Go.WideShapes Go.ChangeAt Go.RowKit

def inB (n hi : Int) : Bool := decide (0 ≤ n ∧ n ≤ hi)
theorem in_any (n hi : Int) (w : World) : Calls Try.prog 56 #[.int .i64 n, .int .i64 hi] w fun e w' => e = .returned (.bool (inB n hi)) ∧ w' = w := by
  by_cases h0 : 0 ≤ n
  · by_cases h1 : n ≤ hi
    · have HG : Hid (true = inB n hi) := by show _ = _; unfold inB; rw [eq_comm, decide_eq_true_eq]; exact ⟨h0, h1⟩
      go_enter Try.func56, Try.ntmps56
      go_wp2
      go_ret
      exact ⟨ret_bool HG.out, rfl⟩
    · have HG : Hid (false = inB n hi) := by show _ = _; unfold inB; rw [eq_comm, decide_eq_false_iff_not]; omega
      go_enter Try.func56, Try.ntmps56
      go_wp2
      go_ret
      exact ⟨ret_bool HG.out, rfl⟩
  · have HG : Hid (false = inB n hi) := by show _ = _; unfold inB; rw [eq_comm, decide_eq_false_iff_not]; omega
    go_enter Try.func56, Try.ntmps56
    go_wp2
    go_ret
    exact ⟨ret_bool HG.out, rfl⟩
theorem ttl_wrap (t : Int) (h0 : -9223372036854775808 ≤ t) (h1 : t ≤ 9223372036854775807) (h : 0 ≤ IntKind.i64.wrap (t - 1) ∧ IntKind.i64.wrap (t - 1) ≤ 254) : 1 ≤ t ∧ t ≤ 255 := by
  by_cases e : t = -9223372036854775808
  · subst e
    exact absurd h.2 (by decide)
  · rw [wrap_i64 _ (by omega) (by omega)] at h; omega
theorem in_iff (n hi : Int) : inB n hi = true ↔ 0 ≤ n ∧ n ≤ hi := by unfold inB; rw [decide_eq_true_eq]
theorem in_not (n hi : Int) : inB n hi = false ↔ ¬ (0 ≤ n ∧ n ≤ hi) := by unfold inB; rw [decide_eq_false_iff_not]

theorem range_all (src dst seq ack sport dport id win ttl flags : Int) (t0 : -9223372036854775808 ≤ ttl) (t1 : ttl ≤ 9223372036854775807)
    (hr : ¬ (0 ≤ src ∧ src ≤ 4294967295 ∧ 0 ≤ dst ∧ dst ≤ 4294967295 ∧ 0 ≤ seq ∧ seq ≤ 4294967295 ∧ 0 ≤ ack ∧ ack ≤ 4294967295 ∧ 0 ≤ sport ∧ sport ≤ 65535 ∧ 0 ≤ dport ∧ dport ≤ 65535 ∧ 0 ≤ id ∧ id ≤ 65535 ∧ 0 ≤ win ∧ win ≤ 65535 ∧ 1 ≤ ttl ∧ ttl ≤ 255 ∧ 0 ≤ flags ∧ flags ≤ 63))
    (r0 : inB src 4294967295 = true) (r1 : inB dst 4294967295 = true) (r2 : inB seq 4294967295 = true) (r3 : inB ack 4294967295 = true) (r4 : inB sport 65535 = true) (r5 : inB dport 65535 = true) (r6 : inB id 65535 = true) (r7 : inB win 65535 = true) (r8 : inB (wrap64 (ttl - 1)) 254 = true) (r9' : (!inB flags 63) = false) : False := by
  have r9 : inB flags 63 = true := by simpa using r9'
  have a0 := (in_iff _ _).1 r0; have a1 := (in_iff _ _).1 r1; have a2 := (in_iff _ _).1 r2; have a3 := (in_iff _ _).1 r3; have a4 := (in_iff _ _).1 r4; have a5 := (in_iff _ _).1 r5; have a6 := (in_iff _ _).1 r6; have a7 := (in_iff _ _).1 r7; have a9 := (in_iff _ _).1 r9
  have a8 := (in_iff _ _).1 r8
  unfold wrap64 at a8
  exact hr (by omega)
theorem below_dr {B : Nat} {v w : World} (h : Below B v w) (n : Nat) : Below B v (w.drewN n) := h.trans ⟨rfl, rfl, rfl, by simp, by simp⟩
theorem good_kind (k : Pkt) (h : kindB k.proto = false) : 4 = good k := by unfold good; rw [if_pos h]
theorem good_range (k : Pkt) (h : kindB k.proto = true) (h1 : ¬ (0 ≤ k.src ∧ k.src ≤ 4294967295 ∧ 0 ≤ k.dst ∧ k.dst ≤ 4294967295 ∧ 0 ≤ k.seq ∧ k.seq ≤ 4294967295 ∧ 0 ≤ k.ack ∧ k.ack ≤ 4294967295 ∧
    0 ≤ k.sport ∧ k.sport ≤ 65535 ∧ 0 ≤ k.dport ∧ k.dport ≤ 65535 ∧ 0 ≤ k.id ∧ k.id ≤ 65535 ∧ 0 ≤ k.win ∧ k.win ≤ 65535 ∧ 1 ≤ k.ttl ∧ k.ttl ≤ 255 ∧ 0 ≤ k.flags ∧ k.flags ≤ 63)) : 2 = good k := by
  have : rangeB k = false := by
    cases e : rangeB k
    · rfl
    · exact absurd ((range_iff k).1 e) h1
  unfold good; rw [if_neg (by simp [h]), if_pos this]
theorem good_rest (k : Pkt) (h : kindB k.proto = true) (h1 : 0 ≤ k.src ∧ k.src ≤ 4294967295 ∧ 0 ≤ k.dst ∧ k.dst ≤ 4294967295 ∧ 0 ≤ k.seq ∧ k.seq ≤ 4294967295 ∧ 0 ≤ k.ack ∧ k.ack ≤ 4294967295 ∧
    0 ≤ k.sport ∧ k.sport ≤ 65535 ∧ 0 ≤ k.dport ∧ k.dport ≤ 65535 ∧ 0 ≤ k.id ∧ k.id ≤ 65535 ∧ 0 ≤ k.win ∧ k.win ≤ 65535 ∧ 1 ≤ k.ttl ∧ k.ttl ≤ 255 ∧ 0 ≤ k.flags ∧ k.flags ≤ 63) : good k = if 64 < k.body.size then 5 else if formB k = false then 1 else 0 := by
  unfold good; rw [if_neg (by simp [h]), if_neg (by rw [(range_iff k).2 h1]; simp)]
theorem good_no (k : Pkt) (h : kindB k.proto = true) (h1 : 0 ≤ k.src ∧ k.src ≤ 4294967295 ∧ 0 ≤ k.dst ∧ k.dst ≤ 4294967295 ∧ 0 ≤ k.seq ∧ k.seq ≤ 4294967295 ∧ 0 ≤ k.ack ∧ k.ack ≤ 4294967295 ∧
    0 ≤ k.sport ∧ k.sport ≤ 65535 ∧ 0 ≤ k.dport ∧ k.dport ≤ 65535 ∧ 0 ≤ k.id ∧ k.id ≤ 65535 ∧ 0 ≤ k.win ∧ k.win ≤ 65535 ∧ 1 ≤ k.ttl ∧ k.ttl ≤ 255 ∧ 0 ≤ k.flags ∧ k.flags ≤ 63) (h2 : k.body.size ≤ 64)
    (h3 : ¬ ((k.proto = 1 → ((k.flags = 8 ∧ k.dport = 0) ∨ (k.flags = 0 ∧ k.sport = 0)) ∧ 0 ≤ k.seq ∧ k.seq ≤ 65535 ∧ k.ack = 0 ∧ k.win = 0) ∧ (k.proto = 17 → k.flags = 0 ∧ k.seq = 0 ∧ k.ack = 0 ∧ k.win = 0))) : 1 = good k := by
  have : formB k = false := by
    cases e : formB k
    · rfl
    · exact absurd ((form_iff k).1 e) h3
  rw [good_rest k h h1, if_neg (by omega), if_pos this]
theorem good_yes (k : Pkt) (h : kindB k.proto = true) (h1 : 0 ≤ k.src ∧ k.src ≤ 4294967295 ∧ 0 ≤ k.dst ∧ k.dst ≤ 4294967295 ∧ 0 ≤ k.seq ∧ k.seq ≤ 4294967295 ∧ 0 ≤ k.ack ∧ k.ack ≤ 4294967295 ∧
    0 ≤ k.sport ∧ k.sport ≤ 65535 ∧ 0 ≤ k.dport ∧ k.dport ≤ 65535 ∧ 0 ≤ k.id ∧ k.id ≤ 65535 ∧ 0 ≤ k.win ∧ k.win ≤ 65535 ∧ 1 ≤ k.ttl ∧ k.ttl ≤ 255 ∧ 0 ≤ k.flags ∧ k.flags ≤ 63) (h2 : k.body.size ≤ 64)
    (h3 : ((k.proto = 1 → ((k.flags = 8 ∧ k.dport = 0) ∨ (k.flags = 0 ∧ k.sport = 0)) ∧ 0 ≤ k.seq ∧ k.seq ≤ 65535 ∧ k.ack = 0 ∧ k.win = 0) ∧ (k.proto = 17 → k.flags = 0 ∧ k.seq = 0 ∧ k.ack = 0 ∧ k.win = 0))) : 0 = good k := by
  rw [good_rest k h h1, if_neg (by omega), if_neg (by rw [(form_iff k).2 h3]; simp)]

set_option linter.unusedVariables false in
set_option maxRecDepth 10000 in
set_option maxHeartbeats 4000000 in
theorem gref_kind (proto src sport dst dport ttl id flags seq ack win : Int) (body : ByteArray) (w : World) (hsz : body.size ≤ 140737488351232) (ht : -9223372036854775808 ≤ ttl ∧ ttl ≤ 9223372036854775807) (h1 : proto ≠ 1) (h6 : proto ≠ 6) (h17 : proto ≠ 17) : Calls Try.prog 27 #[.agg #[.int .i64 proto, .int .i64 src, .int .i64 sport, .int .i64 dst, .int .i64 dport, .int .i64 ttl, .int .i64 id, .int .i64 flags, .int .i64 seq, .int .i64 ack, .int .i64 win, .string body]] w fun e w' => e = .returned (.int .i64 (good ⟨proto, src, sport, dst, dport, ttl, id, flags, seq, ack, win, body⟩)) ∧ Below w.heap.size w w' := by
  have hbox := box_cell w #[.int .i64 proto, .int .i64 src, .int .i64 sport, .int .i64 dst, .int .i64 dport, .int .i64 ttl, .int .i64 id, .int .i64 flags, .int .i64 seq, .int .i64 ack, .int .i64 win, .string body] 23
  have hB : Below w.heap.size w (w.alloc (.cells #[.int .i64 proto, .int .i64 src, .int .i64 sport, .int .i64 dst, .int .i64 dport, .int .i64 ttl, .int .i64 id, .int .i64 flags, .int .i64 seq, .int .i64 ack, .int .i64 win, .string body] 23)) := (Below.refl _ _).alloc (Nat.le_refl _) _
  have e1 : (proto != 1) = true := by simpa using h1
  have e6 : (proto != 6) = true := by simpa using h6
  have e17 : (proto != 17) = true := by simpa using h17
  have HG : Hid (4 = good ⟨proto, src, sport, dst, dport, ttl, id, flags, seq, ack, win, body⟩) := by show _ = _; exact good_kind ⟨proto, src, sport, dst, dport, ttl, id, flags, seq, ack, win, body⟩ (by simp [kindB, h1, h6, h17])
  go_enter Try.func27, Try.ntmps27
  go_wp2_with (go_at_call 56; refine (in_any _ _ _).mono ?_; rintro e w' ⟨rfl, rfl⟩)
  go_ret
  exact ⟨ret_int HG.out, hB⟩
end Go.Proofs.Ythcedehppflcgab
