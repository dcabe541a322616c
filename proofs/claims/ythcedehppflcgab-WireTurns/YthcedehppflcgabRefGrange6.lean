/-
  The walk of the document's own GoodPacket: a part of it.
-/
import Derived.Test.YthcedehppflcgabRefG0
import Derived.Deep.QuietTactic
import Derived.BigQuiet
namespace Go.Proofs.Ythcedehppflcgab
open Go.ChangeShapes Go.WideShapes Go.ChangeAt Go.RowKit
set_option linter.unusedVariables false in
set_option maxRecDepth 10000 in
set_option maxHeartbeats 4000000 in
theorem gref_range6 (proto src sport dst dport ttl id flags seq ack win : Int) (body : ByteArray) (w : World) (hsz : body.size ≤ 140737488351232) (ht : -9223372036854775808 ≤ ttl ∧ ttl ≤ 9223372036854775807) (hp : proto = 6) (hr : ¬ (0 ≤ src ∧ src ≤ 4294967295 ∧ 0 ≤ dst ∧ dst ≤ 4294967295 ∧ 0 ≤ seq ∧ seq ≤ 4294967295 ∧ 0 ≤ ack ∧ ack ≤ 4294967295 ∧ 0 ≤ sport ∧ sport ≤ 65535 ∧ 0 ≤ dport ∧ dport ≤ 65535 ∧ 0 ≤ id ∧ id ≤ 65535 ∧ 0 ≤ win ∧ win ≤ 65535 ∧ 1 ≤ ttl ∧ ttl ≤ 255 ∧ 0 ≤ flags ∧ flags ≤ 63)) : Calls Try.prog 27 #[.agg #[.int .i64 proto, .int .i64 src, .int .i64 sport, .int .i64 dst, .int .i64 dport, .int .i64 ttl, .int .i64 id, .int .i64 flags, .int .i64 seq, .int .i64 ack, .int .i64 win, .string body]] w fun e w' => e = .returned (.int .i64 (good ⟨proto, src, sport, dst, dport, ttl, id, flags, seq, ack, win, body⟩)) ∧ Below w.heap.size w w' := by
  have hbox := box_cell w #[.int .i64 proto, .int .i64 src, .int .i64 sport, .int .i64 dst, .int .i64 dport, .int .i64 ttl, .int .i64 id, .int .i64 flags, .int .i64 seq, .int .i64 ack, .int .i64 win, .string body] 23
  have hB : Below w.heap.size w (w.alloc (.cells #[.int .i64 proto, .int .i64 src, .int .i64 sport, .int .i64 dst, .int .i64 dport, .int .i64 ttl, .int .i64 id, .int .i64 flags, .int .i64 seq, .int .i64 ack, .int .i64 win, .string body] 23)) := (Below.refl _ _).alloc (Nat.le_refl _) _
  subst hp
  have HG : Hid (2 = good ⟨6, src, sport, dst, dport, ttl, id, flags, seq, ack, win, body⟩) := good_range _ rfl hr
  have R := fun r0 r1 r2 r3 r4 r5 r6 r7 r8 r9 => range_all src dst seq ack sport dport id win ttl flags ht.1 ht.2 hr r0 r1 r2 r3 r4 r5 r6 r7 r8 r9
  go_enter Try.func27, Try.ntmps27
  go_wp2_with (go_at_call 56; refine (in_any _ _ _).mono ?_; rintro e w' ⟨rfl, rfl⟩)
  all_goals first
    | (go_ret; exact ⟨ret_int HG.out, hB⟩)
    | (exfalso; apply R <;> assumption)
end Go.Proofs.Ythcedehppflcgab
