/-
  rentrollkeep.pick: a number brought to 0 to n - 1.
-/
import Derived.Test.YthflhaanndnejafWalks
namespace Go.Proofs.Ythflhaanndnejaf
open Go.ChangeShapes Go.WideShapes Go.ChangeAt Go.RowKit

theorem tmod_bd (k n : Int) (hn : 0 < n) : -n < k.tmod n ∧ k.tmod n < n ∧ (k.tmod n < 0 → k.tmod n + n = k % n) ∧ (0 ≤ k.tmod n → k.tmod n = k % n) := by
  have h1 := Int.tmod_eq_emod (a := k) (b := n)
  have h2 := Int.emod_nonneg k (show n ≠ 0 by omega)
  have h3 := Int.emod_lt_of_pos k hn
  have h4 : (n.natAbs : Int) = n := by omega
  split at h1
  · simp at h1; omega
  · rename_i hd
    have h5 : k % n ≠ 0 := fun e => hd (.inr (Int.dvd_of_emod_eq_zero e))
    omega
theorem pick_any (k n : Int) (w : World) (hn : 0 < n) (hm : n ≤ 4611686018427387904) :
    Calls Try.prog 13 #[.int .i64 k, .int .i64 n] w fun e w' => e = .returned (.int .i64 (k % n)) ∧ w' = w := by
  obtain ⟨h1, h2, h3, h4⟩ := tmod_bd k n hn
  have hz : (n == 0) = false := by simp; omega
  have hw : wrap64 (k.tmod n) = k.tmod n := by unfold wrap64; omega
  by_cases hneg : k.tmod n < 0
  · have H : Hid (k.tmod n + n = k % n) := h3 hneg
    clear h3 h4
    go_enter Try.func13, Try.ntmps13
    go_wp2
    go_ret
    exact ⟨ret_int H.out, rfl⟩
  · have H : Hid (k.tmod n = k % n) := h4 (by omega)
    clear h3 h4
    go_enter Try.func13, Try.ntmps13
    go_wp2
    go_ret
    exact ⟨ret_int H.out, rfl⟩
end Go.Proofs.Ythflhaanndnejaf
