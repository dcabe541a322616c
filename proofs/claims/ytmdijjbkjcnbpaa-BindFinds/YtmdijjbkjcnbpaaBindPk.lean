/-
  rentrollkeep.pick: a number brought to 0 to n - 1.
-/
import Derived.Test.YtmdijjbkjcnbpaaRows
import Derived.WalkKit
import Derived.ProofKit
import Derived.OpenShut
import Derived.Outline
import Derived.WalkSpells
namespace Go.Proofs.Ytmdijjbkjcnbpaa
open Go.ChangeShapes Go.WideShapes Go.ChangeAt Go.RowKit

theorem tmodP_bd (k n : Int) (hn : 0 < n) : -n < k.tmod n ∧ k.tmod n < n ∧ (k.tmod n < 0 → k.tmod n + n = k % n) ∧ (0 ≤ k.tmod n → k.tmod n = k % n) := by
  have h1 := Int.tmod_eq_emod (a := k) (b := n)
  have h2 := Int.emod_nonneg k (show n ≠ 0 by omega)
  have h3 := Int.emod_lt_of_pos k hn
  have h4 : (n.natAbs : Int) = n := by omega
  split at h1
  · simp at h1; omega
  · rename_i hd
    have h5 : k % n ≠ 0 := fun e => hd (.inr (Int.dvd_of_emod_eq_zero e))
    omega
theorem pickP_any (k n : Int) (w : World) (hn : 0 < n) (hm : n ≤ 4611686018427387904) :
    Calls Try.prog 23 #[.int .i64 k, .int .i64 n] w fun e w' => e = .returned (.int .i64 (k % n)) ∧ w' = w := by
  obtain ⟨h1, h2, h3, h4⟩ := tmodP_bd k n hn
  have hz : (n == 0) = false := by simp; omega
  have hw : wrap64 (k.tmod n) = k.tmod n := by unfold wrap64; omega
  by_cases hneg : k.tmod n < 0
  · have H : Hid (k.tmod n + n = k % n) := h3 hneg
    clear h3 h4
    go_enter Try.func23, Try.ntmps23
    go_wp2
    go_ret
    exact ⟨congrArg (fun z => Ending.returned (.int .i64 z)) H.out, rfl⟩
  · have H : Hid (k.tmod n = k % n) := h4 (by omega)
    clear h3 h4
    go_enter Try.func23, Try.ntmps23
    go_wp2
    go_ret
    exact ⟨congrArg (fun z => Ending.returned (.int .i64 z)) H.out, rfl⟩
end Go.Proofs.Ytmdijjbkjcnbpaa
