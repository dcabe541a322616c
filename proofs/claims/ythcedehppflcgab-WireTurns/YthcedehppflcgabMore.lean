/-
  The walks of package sums' faces, of the document's own answers, and of the statements' small helpers.
-/
import Derived.Test.YthcedehppflcgabWalks
namespace Go.Proofs.Ythcedehppflcgab
open Go.ChangeShapes Go.WideShapes Go.ChangeAt Go.RowKit

theorem low_bd (a : Int) : 0 ≤ a % 65536 ∧ a % 65536 ≤ 65535 := by omega
theorem wl_bd (a : Int) : 0 ≤ IntKind.u16.wrap a ∧ IntKind.u16.wrap a ≤ 65535 := by rw [wrap_u16]; omega

/-- what Update answers. -/
def upd (c m n : Int) : Int := 65535 - bk (bk (65535 - c % 65536 + (65535 - m % 65536)) + n % 65536)
theorem nat_not16 (b : Nat) (hb : b < 2 ^ 16) : (2 ^ 16 - 1) ^^^ b = 2 ^ 16 - 1 - b := by
  apply Nat.eq_of_testBit_eq
  intro i
  rw [Nat.testBit_xor, Nat.testBit_two_pow_sub_one, show 2 ^ 16 - 1 - b = 2 ^ 16 - (b + 1) by omega, Nat.testBit_two_pow_sub_succ hb]
  by_cases h : i < 16
  · simp [h]
  · have : b.testBit i = false := Nat.testBit_lt_two_pow (Nat.lt_of_lt_of_le hb (Nat.pow_le_pow_right (by omega) (by omega)))
    simp [h, this]
/-- all bits of a word turned. -/
theorem not_u16 (x : Int) (h0 : 0 ≤ x) (h1 : x ≤ 65535) : bits .xor .u16 IntKind.u16.max x = 65535 - x := by
  rw [show IntKind.u16.max = 65535 from rfl, u16_xor _ _ (by omega) (by omega) (by omega) (by omega)]
  have := nat_not16 x.toNat (by omega)
  rw [show (65535 : Int).toNat = 2 ^ 16 - 1 by decide, this]; omega
theorem not_bd (x : Int) (h0 : 0 ≤ x) (h1 : x ≤ 65535) : 0 ≤ bits .xor .u16 IntKind.u16.max x ∧ bits .xor .u16 IntKind.u16.max x ≤ 65535 := by
  rw [not_u16 x h0 h1]; omega
/-- sums.Update. -/
theorem upd_any (c m n : Int) (w : World) :
    Calls Try.prog 67 #[.int .i64 c, .int .i64 m, .int .i64 n] w fun e w' => e = .returned (.int .i64 (upd c m n)) ∧ w' = w := by
  have hc := wl_bd c; have hm := wl_bd m; have hn := wl_bd n
  have hc' := not_bd _ hc.1 hc.2; have hm' := not_bd _ hm.1 hm.2
  have E : Hid (65535 - bk (bk (bits .xor .u16 IntKind.u16.max (IntKind.u16.wrap c) + bits .xor .u16 IntKind.u16.max (IntKind.u16.wrap m)) + IntKind.u16.wrap n) = upd c m n) := by
    show _ = _
    rw [not_u16 _ hc.1 hc.2, not_u16 _ hm.1 hm.2, wrap_u16, wrap_u16, wrap_u16]; rfl
  have hsg : IntKind.u16.signed = false := rfl
  have hk := bk_bd (bits .xor .u16 IntKind.u16.max (IntKind.u16.wrap c) + bits .xor .u16 IntKind.u16.max (IntKind.u16.wrap m))
  have hk2 := bk_bd (bk (bits .xor .u16 IntKind.u16.max (IntKind.u16.wrap c) + bits .xor .u16 IntKind.u16.max (IntKind.u16.wrap m)) + IntKind.u16.wrap n)
  have N : Hid (bits .xor .u16 IntKind.u16.max (bk (bk (bits .xor .u16 IntKind.u16.max (IntKind.u16.wrap c) + bits .xor .u16 IntKind.u16.max (IntKind.u16.wrap m)) + IntKind.u16.wrap n)) = _) := not_u16 _ hk2.1 hk2.2
  have hk3 := not_bd _ hk2.1 hk2.2
  go_enter Try.func67, Try.ntmps67
  go_wp2_with (go_at_call 65; refine (addWords_any _ _ _ (by omega) (by omega) (by omega) (by omega)).mono ?_; rintro e w' ⟨rfl, rfl⟩)
  go_ret
  exact ⟨ret_int (by rw [N.out]; exact E.out), rfl⟩
/-- sums.Check. -/
theorem check_any (s : ByteArray) (w : World) (hs : s.size ≤ 562949953421312) :
    Calls Try.prog 64 #[.string s] w fun e w' => e = .returned (.int .i64 (65535 - bk (tot s.data.toList))) ∧ w' = w := by
  have hk := bk_bd (tot s.data.toList)
  have N : Hid (bits .xor .u16 IntKind.u16.max (bk (tot s.data.toList)) = 65535 - bk (tot s.data.toList)) := not_u16 _ hk.1 hk.2
  have hb := not_bd _ hk.1 hk.2
  have hsg : IntKind.u16.signed = false := rfl
  go_enter Try.func64, Try.ntmps64
  go_wp2_with (go_at_call 50; refine (of_any _ _ hs).mono ?_; rintro e w' ⟨rfl, rfl⟩)
  go_ret
  exact ⟨ret_int N.out, rfl⟩
def known : ByteArray := { data := #[0, 1, 242, 3, 244, 245, 246, 247] }
theorem known_is : bk (tot known.data.toList) = 56818 := by decide
end Go.Proofs.Ythcedehppflcgab
