/-
  The list of a time: its level, and which one there.
-/
import Derived.Test.YtphijplgnffoiaaWhL
import Derived.Test.YtphijplgnffoiaaWhM
import Derived.WalkKit
import Derived.ProofKit
import Derived.Below
namespace Go.Proofs.Ytphijplgnffoiaa
open Go.ChangeShapes Go.WideShapes Go.ChangeAt Go.RowKit
set_option linter.unusedSimpArgs false
set_option linter.unusedVariables false

theorem xor_i64 (a b : Nat) (ha : a < 2 ^ 62) (hb : b < 2 ^ 62) : bits .xor .i64 (a : Int) (b : Int) = ((a ^^^ b : Nat) : Int) := by
  have e1 : (BitVec.ofInt 64 (a : Int)).toNat = a := by rw [BitVec.toNat_ofInt]; omega
  have e2 : (BitVec.ofInt 64 (b : Int)).toNat = b := by rw [BitVec.toNat_ofInt]; omega
  have e3 : (BitVec.ofInt 64 (a : Int) ^^^ BitVec.ofInt 64 (b : Int)).toNat = a ^^^ b := by rw [BitVec.toNat_xor, e1, e2]
  have hx : a ^^^ b < 2 ^ 62 := Nat.xor_lt_two_pow ha hb
  unfold bits
  show IntKind.i64.wrap ((BitVec.ofInt 64 (a : Int) ^^^ BitVec.ofInt 64 (b : Int)).toNat : Int) = _
  rw [e3]
  simp [IntKind.wrap, IntKind.bits, IntKind.signed]
  omega
theorem len_any (x : Int) (w : World) (h0 : 0 ≤ x) (h1 : x ≤ 18446744073709551615) : Calls Try.prog 34 #[.int .u64 x] w fun e w' => e = .returned (.int .i64 (Lib.bitLen x.toNat : Int)) ∧ w' = w := by
  have C := fun w => len64_any x w h0 h1
  go_enter Try.func34, Try.ntmps34
  go_wp2_with (go_at_call 45; refine (C _).mono ?_; rintro e w' ⟨rfl, rfl⟩)
  go_ret
  exact ⟨rfl, rfl⟩
theorem digit_any (t l : Nat) (ht : t ≤ 1099511627776) (hl : l ≤ 6) (w : World) : Calls Try.prog 31 #[.int .i64 (t : Int), .int .i64 (l : Int)] w fun e w' => e = .returned (.int .i64 (dg t l : Int)) ∧ w' = w := by
  have hc : l = 0 ∨ l = 1 ∨ l = 2 ∨ l = 3 ∨ l = 4 ∨ l = 5 ∨ l = 6 := by omega
  rcases hc with rfl | rfl | rfl | rfl | rfl | rfl | rfl
  all_goals
    go_enter Try.func31, Try.ntmps31
    go_wp2
    go_ret
    refine ⟨?_, rfl⟩
    unfold dg
    first
    | rfl
    | (congr 2; simp; done)
    | (congr 2; omega)
set_option maxHeartbeats 1000000 in
theorem place_any (b o : Nat) (now d : Nat) (hn : now ≤ 1099511627776) (hd : d ≤ 1099511627776) (w : World) (c0 : w.cell? ⟨b, o, none⟩ = some (.int .i64 (now : Int))) :
    Calls Try.prog 28 #[.pointer (some ⟨b, o, none⟩), .int .i64 (d : Int)] w fun e w' => e = .returned (.tuple #[.int .i64 (lv d now : Int), .int .i64 (dg d (lv d now) : Int)]) ∧ w' = w := by
  have hx := xor_i64 d now (by omega) (by omega)
  have hxl : d ^^^ now < 2 ^ 41 := Nat.xor_lt_two_pow (by omega) (by omega)
  have C := fun w => len_any ((d ^^^ now : Nat) : Int) w (by omega) (by omega)
  rw [Int.toNat_natCast] at C
  have hbl := Lib.bitLen_le (d ^^^ now) 41 (by decide) hxl
  have hlv := lv_le d now hd hn
  have D := fun w => digit_any d (lv d now) hd hlv w
  have hlv2 : Hid (lv d now = (Lib.bitLen (d ^^^ now) - 1) / 6) := rfl
  generalize lv d now = v at *
  generalize Lib.bitLen (d ^^^ now) = q at *
  generalize d ^^^ now = x at *
  by_cases h0 : 0 < q
  · have hv : ((q : Int) - 1) / 6 = (v : Int) := by have := hlv2.out; omega
    have hw1 : wrap64 ((q : Int) - 1) = (q : Int) - 1 := by unfold wrap64; omega
    have hlt : (0 : Int) < (q : Int) := by omega
    have hq1 : 0 ≤ (q : Int) - 1 := by omega
    go_enter Try.func28, Try.ntmps28
    go_wp2_with (first
      | (go_at_call 34; refine (C _).mono ?_; rintro e w' ⟨rfl, rfl⟩)
      | (go_at_call 31; refine (D _).mono ?_; rintro e w' ⟨rfl, rfl⟩))
    go_ret2
    exact ⟨rfl, rfl⟩
  · obtain rfl : q = 0 := by omega
    obtain rfl : v = 0 := by have := hlv2.out; omega
    go_enter Try.func28, Try.ntmps28
    go_wp2_with (first
      | (go_at_call 34; refine (C _).mono ?_; rintro e w' ⟨rfl, rfl⟩)
      | (go_at_call 31; refine (D _).mono ?_; rintro e w' ⟨rfl, rfl⟩))
    go_ret2
    exact ⟨rfl, rfl⟩
end Go.Proofs.Ytphijplgnffoiaa
