/-
  The walk of the document's own GoodPacket, whole.
-/
import Derived.Test.YthcedehppflcgabRefGrange1
import Derived.Test.YthcedehppflcgabRefGrange6
import Derived.Test.YthcedehppflcgabRefGrange17
import Derived.Test.YthcedehppflcgabRefGok1
import Derived.Test.YthcedehppflcgabRefGok6
import Derived.Test.YthcedehppflcgabRefGok17
namespace Go.Proofs.Ythcedehppflcgab
open Go.ChangeShapes Go.WideShapes Go.ChangeAt Go.RowKit
theorem gref_any (k : Pkt) (w : World) (hsz : k.body.size ≤ 140737488351232) (ht : -9223372036854775808 ≤ k.ttl ∧ k.ttl ≤ 9223372036854775807) : Calls Try.prog 27 #[pv k] w fun e w' => e = .returned (.int .i64 (good k)) ∧ Below w.heap.size w w' := by
  obtain ⟨proto, src, sport, dst, dport, ttl, id, flags, seq, ack, win, body⟩ := k
  by_cases hr : 0 ≤ src ∧ src ≤ 4294967295 ∧ 0 ≤ dst ∧ dst ≤ 4294967295 ∧ 0 ≤ seq ∧ seq ≤ 4294967295 ∧ 0 ≤ ack ∧ ack ≤ 4294967295 ∧ 0 ≤ sport ∧ sport ≤ 65535 ∧ 0 ≤ dport ∧ dport ≤ 65535 ∧ 0 ≤ id ∧ id ≤ 65535 ∧ 0 ≤ win ∧ win ≤ 65535 ∧ 1 ≤ ttl ∧ ttl ≤ 255 ∧ 0 ≤ flags ∧ flags ≤ 63
  · by_cases h1 : proto = 1
    · exact gref_ok1 proto src sport dst dport ttl id flags seq ack win body w hsz ht h1 hr
    by_cases h6 : proto = 6
    · exact gref_ok6 proto src sport dst dport ttl id flags seq ack win body w hsz ht h6 hr
    by_cases h17 : proto = 17
    · exact gref_ok17 proto src sport dst dport ttl id flags seq ack win body w hsz ht h17 hr
    exact gref_kind proto src sport dst dport ttl id flags seq ack win body w hsz ht h1 h6 h17
  · by_cases h1 : proto = 1
    · exact gref_range1 proto src sport dst dport ttl id flags seq ack win body w hsz ht h1 hr
    by_cases h6 : proto = 6
    · exact gref_range6 proto src sport dst dport ttl id flags seq ack win body w hsz ht h6 hr
    by_cases h17 : proto = 17
    · exact gref_range17 proto src sport dst dport ttl id flags seq ack win body w hsz ht h17 hr
    exact gref_kind proto src sport dst dport ttl id flags seq ack win body w hsz ht h1 h6 h17
end Go.Proofs.Ythcedehppflcgab