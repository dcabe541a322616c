/-
  The walk of the document's own GoodPacket: a part of it.
-/
import Derived.Test.YthcedehppflcgabRefG0
import Derived.Deep.QuietTactic
import Derived.BigQuiet
namespace Go.Proofs.Ythcedehppflcgab
open Go.ChangeShapes Go.WideShapes Go.ChangeAt Go.RowKit
set_option linter.unusedVariables false in
set_option maxRecDepth 10000 in
set_option maxHeartbeats 4000000 in
theorem gref_ok1 (proto src sport dst dport ttl id flags seq ack win : Int) (body : ByteArray) (w : World) (hsz : body.size ≤ 140737488351232) (ht : -9223372036854775808 ≤ ttl ∧ ttl ≤ 9223372036854775807) (hp : proto = 1) (hr : 0 ≤ src ∧ src ≤ 4294967295 ∧ 0 ≤ dst ∧ dst ≤ 4294967295 ∧ 0 ≤ seq ∧ seq ≤ 4294967295 ∧ 0 ≤ ack ∧ ack ≤ 4294967295 ∧ 0 ≤ sport ∧ sport ≤ 65535 ∧ 0 ≤ dport ∧ dport ≤ 65535 ∧ 0 ≤ id ∧ id ≤ 65535 ∧ 0 ≤ win ∧ win ≤ 65535 ∧ 1 ≤ ttl ∧ ttl ≤ 255 ∧ 0 ≤ flags ∧ flags ≤ 63) : Calls Try.prog 27 #[.agg #[.int .i64 proto, .int .i64 src, .int .i64 sport, .int .i64 dst, .int .i64 dport, .int .i64 ttl, .int .i64 id, .int .i64 flags, .int .i64 seq, .int .i64 ack, .int .i64 win, .string body]] w fun e w' => e = .returned (.int .i64 (good ⟨proto, src, sport, dst, dport, ttl, id, flags, seq, ack, win, body⟩)) ∧ Below w.heap.size w w' := by
  have hbox := box_cell w #[.int .i64 proto, .int .i64 src, .int .i64 sport, .int .i64 dst, .int .i64 dport, .int .i64 ttl, .int .i64 id, .int .i64 flags, .int .i64 seq, .int .i64 ack, .int .i64 win, .string body] 23
  have hB : Below w.heap.size w (w.alloc (.cells #[.int .i64 proto, .int .i64 src, .int .i64 sport, .int .i64 dst, .int .i64 dport, .int .i64 ttl, .int .i64 id, .int .i64 flags, .int .i64 seq, .int .i64 ack, .int .i64 win, .string body] 23)) := (Below.refl _ _).alloc (Nat.le_refl _) _
  subst hp
  have hw : IntKind.i64.wrap (ttl - 1) = ttl - 1 := wrap_i64 _ (by omega) (by omega)
  have r0 : inB src 4294967295 = true := (in_iff _ _).2 (by omega)
  have r1 : inB dst 4294967295 = true := (in_iff _ _).2 (by omega)
  have r2 : inB seq 4294967295 = true := (in_iff _ _).2 (by omega)
  have r3 : inB ack 4294967295 = true := (in_iff _ _).2 (by omega)
  have r4 : inB sport 65535 = true := (in_iff _ _).2 (by omega)
  have r5 : inB dport 65535 = true := (in_iff _ _).2 (by omega)
  have r6 : inB id 65535 = true := (in_iff _ _).2 (by omega)
  have r7 : inB win 65535 = true := (in_iff _ _).2 (by omega)
  have r8 : inB (ttl - 1) 254 = true := (in_iff _ _).2 (by omega)
  have r9 : inB flags 63 = true := (in_iff _ _).2 (by omega)
  obtain ⟨q0, q1, q2, q3, q4, q5, q6, q7, q8, q9, q10, q11, q12, q13, q14, q15, q16, q17, q18, q19⟩ := hr
  have G5 : 64 < body.size → 5 = good ⟨1, src, sport, dst, dport, ttl, id, flags, seq, ack, win, body⟩ := fun hb => by rw [good_rest ⟨1, src, sport, dst, dport, ttl, id, flags, seq, ack, win, body⟩ rfl ⟨q0, q1, q2, q3, q4, q5, q6, q7, q8, q9, q10, q11, q12, q13, q14, q15, q16, q17, q18, q19⟩, if_pos hb]
  have G1 : body.size ≤ 64 → (0 < ack + win ∨ 65535 < seq ∨ ¬ ((flags = 8 ∧ dport = 0) ∨ (flags = 0 ∧ sport = 0))) → 1 = good ⟨1, src, sport, dst, dport, ttl, id, flags, seq, ack, win, body⟩ := fun hb h => good_no ⟨1, src, sport, dst, dport, ttl, id, flags, seq, ack, win, body⟩ rfl ⟨q0, q1, q2, q3, q4, q5, q6, q7, q8, q9, q10, q11, q12, q13, q14, q15, q16, q17, q18, q19⟩ hb (by intro x; have y := x.1 rfl; simp only [] at y; omega)
  have G0 : body.size ≤ 64 → (ack + win ≤ 0 ∧ seq ≤ 65535 ∧ ((flags = 8 ∧ dport = 0) ∨ (flags = 0 ∧ sport = 0))) → 0 = good ⟨1, src, sport, dst, dport, ttl, id, flags, seq, ack, win, body⟩ := fun hb h => good_yes ⟨1, src, sport, dst, dport, ttl, id, flags, seq, ack, win, body⟩ rfl ⟨q0, q1, q2, q3, q4, q5, q6, q7, q8, q9, q10, q11, q12, q13, q14, q15, q16, q17, q18, q19⟩ hb ⟨fun _ => by simp only []; omega, fun x => absurd x (by simp)⟩
  go_enter Try.func27, Try.ntmps27
  go_wp2_with (go_at_call 56; refine (in_any _ _ _).mono ?_; rintro e w' ⟨rfl, rfl⟩)
  all_goals first
    | (go_ret; exact ⟨ret_int (G5 (by omega)), hB⟩)
    | (go_ret; exact ⟨ret_int (G1 (by omega) (by omega)), hB⟩)
    | skip
  by_cases h8 : flags = 8
  · have e8 : (flags == 8) = true := by simpa using h8
    have e0 : (flags == 0) = false := by simp; omega
    have l8 : 8 ≤ flags ∧ flags ≤ 8 := by omega
    clear h8
    by_cases hx : dport = 0
    · have ex : (dport == 0) = true := by simpa using hx
      have lx : dport ≤ 0 := by omega
      clear hx
      go_quiet (fail)
      go_wp2
      all_goals first
        | (go_ret; exact ⟨ret_int (G1 (by omega) (by omega)), below_dr hB nq⟩)
        | (go_ret; exact ⟨ret_int (G0 (by omega) (by omega)), below_dr hB nq⟩)
    · have ex : (dport == 0) = false := by simpa using hx
      go_quiet (fail)
      go_wp2
      all_goals first
        | (go_ret; exact ⟨ret_int (G1 (by omega) (by omega)), below_dr hB nq⟩)
        | (go_ret; exact ⟨ret_int (G0 (by omega) (by omega)), below_dr hB nq⟩)
  have e8 : (flags == 8) = false := by simpa using h8
  by_cases h0 : flags = 0
  · have e0 : (flags == 0) = true := by simpa using h0
    have l0 : flags ≤ 0 := by omega
    clear h0
    by_cases hx : sport = 0
    · have ex : (sport == 0) = true := by simpa using hx
      have lx : sport ≤ 0 := by omega
      clear hx
      go_quiet (fail)
      go_wp2
      all_goals first
        | (go_ret; exact ⟨ret_int (G1 (by omega) (by omega)), below_dr hB nq⟩)
        | (go_ret; exact ⟨ret_int (G0 (by omega) (by omega)), below_dr hB nq⟩)
    · have ex : (sport == 0) = false := by simpa using hx
      go_quiet (fail)
      go_wp2
      all_goals first
        | (go_ret; exact ⟨ret_int (G1 (by omega) (by omega)), below_dr hB nq⟩)
        | (go_ret; exact ⟨ret_int (G0 (by omega) (by omega)), below_dr hB nq⟩)
  have e0 : (flags == 0) = false := by simpa using h0
  go_quiet (fail)
  go_wp2
  all_goals first
    | (go_ret; exact ⟨ret_int (G1 (by omega) (by omega)), below_dr hB nq⟩)
    | (go_ret; exact ⟨ret_int (G0 (by omega) (by omega)), below_dr hB nq⟩)
end Go.Proofs.Ythcedehppflcgab
