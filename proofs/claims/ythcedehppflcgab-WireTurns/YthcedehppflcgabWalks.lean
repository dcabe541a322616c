/-
  The walks of the small functions: what package sums and the document's own answers hand back, function by function.
-/
import Derived.Test.YthcedehppflcgabRows
import Derived.Test.YthcedehppflcgabSum
import Derived.WalkKit
import Derived.ProofKit
import Derived.OpenShut
import Derived.ShutString
import Derived.Outline
import Derived.WalkSpells
import Derived.Laws.BitsAllLaws
namespace Go.Proofs.Ythcedehppflcgab
open Go.ChangeShapes Go.WideShapes Go.ChangeAt Go.RowKit

theorem ret_int {k : IntKind} {a b : Int} (h : a = b) : Ending.returned (.int k a) = .returned (.int k b) := by rw [h]
theorem wrap_u16 (n : Int) : IntKind.u16.wrap n = n % 65536 := by
  simp [IntKind.wrap, IntKind.bits, IntKind.signed]

theorem addWords_any (a b : Int) (w : World) (a0 : 0 ≤ a) (a1 : a ≤ 65535) (b0 : 0 ≤ b) (b1 : b ≤ 65535) :
    Calls Try.prog 65 #[.int .u16 a, .int .u16 b] w fun e w' => e = .returned (.int .u16 (bk (a + b))) ∧ w' = w := by
  have h := bk_two a b a0 a1 b0 b1
  have H : Hid (((a + b) % 65536 + (a + b) / 65536) % 65536 = bk (a + b)) := h
  clear h
  go_enter Try.func65, Try.ntmps65
  go_wp2
  go_ret
  exact ⟨ret_int (by rw [wrap_u16, wrap_u16]; exact H.out), rfl⟩

theorem back_any (a : Int) (w : World) (h : 0 ≤ a) (hm : a ≤ 9223372036854775807) :
    Calls Try.prog 55 #[.int .i64 a] w fun e w' => e = .returned (.int .i64 (bk a)) ∧ w' = w := by
  by_cases h0 : a = 0
  · subst h0
    go_enter Try.func55, Try.ntmps55
    go_wp2
    go_ret
    exact ⟨ret_int rfl, rfl⟩
  · have h1 : 1 ≤ a := by omega
    go_enter Try.func55, Try.ntmps55
    go_wp2
    go_ret
    exact ⟨ret_int (by unfold bk; rw [if_neg h0]), rfl⟩

/-- a high byte and a low one, joined. -/
theorem join_u16 (a b : UInt8) : bits .or .u16 (IntKind.u16.wrap (IntKind.u16.wrap (a.toNat : Int) * 256)) (IntKind.u16.wrap (b.toNat : Int)) = (a.toNat : Int) * 256 + (b.toNat : Int) := by
  have ha := a.toNat_lt; have hb := b.toNat_lt
  have e1 : IntKind.u16.wrap (IntKind.u16.wrap (a.toNat : Int) * 256) = ((a.toNat * 256 : Nat) : Int) := by rw [wrap_u16, wrap_u16]; omega
  have e2 : IntKind.u16.wrap (b.toNat : Int) = ((b.toNat : Nat) : Int) := by rw [wrap_u16]; omega
  rw [e1, e2, u16_or_nat _ _ (by omega) (by omega), nat_join 8 _ _ (by omega) (by omega)]; omega
theorem high_u16 (a : UInt8) : IntKind.u16.wrap (IntKind.u16.wrap (a.toNat : Int) * 256) = (a.toNat : Int) * 256 := by
  have ha := a.toNat_lt
  rw [wrap_u16, wrap_u16]; omega

theorem wordAt_two (s : ByteArray) (k : Nat) (w : World) (hs : s.size ≤ 562949953421312) (h : k < s.size) (h1 : k + 1 < s.size) :
    Calls Try.prog 66 #[.string s, .int .i64 k] w fun e w' => e = .returned (.int .u16 ((s[k].toNat : Int) * 256 + (s[k + 1].toNat : Int))) ∧ w' = w := by
  go_enter Try.func66, Try.ntmps66
  go_wp2
  go_ret
  exact ⟨ret_int (join_u16 _ _), rfl⟩
theorem wordAt_one (s : ByteArray) (k : Nat) (w : World) (hs : s.size ≤ 562949953421312) (h : k < s.size) (h1 : ¬ k + 1 < s.size) :
    Calls Try.prog 66 #[.string s, .int .i64 k] w fun e w' => e = .returned (.int .u16 ((s[k].toNat : Int) * 256)) ∧ w' = w := by
  go_enter Try.func66, Try.ntmps66
  go_wp2
  go_ret
  exact ⟨ret_int (high_u16 _), rfl⟩

/-- sums.Of: all words, carries put back. -/
theorem of_any (s : ByteArray) (w : World) (hs : s.size ≤ 562949953421312) :
    Calls Try.prog 50 #[.string s] w fun e w' => e = .returned (.int .i64 (bk (tot s.data.toList))) ∧ w' = w := by
  go_enter Try.func50, Try.ntmps50
  go_wp2
  go_loop [3, 4] (fun t i => ∃ k : Nat, k % 2 = 0 ∧ k ≤ s.size + 1 ∧ i = .int .i64 k ∧ t = .int .u16 (bk (tot (s.data.toList.take k)))) (fun _ i => s.size + 1 - (intOf i).toNat)
  case atStart => exact ⟨0, by omega, by omega, rfl, by simp [tot, bk]⟩
  case round =>
    obtain ⟨k, hk2, hk, rfl, rfl⟩ := hrel
    have hb := bk_bd (tot (s.data.toList.take k))
    have h0 := tot_nonneg (s.data.toList.take k)
    by_cases hlt : k < s.size
    · by_cases hlt1 : k + 1 < s.size
      · have HW : Hid (tot (s.data.toList.take (k + 2)) = tot (s.data.toList.take k) + ((s[k].toNat : Int) * 256 + (s[k + 1].toNat : Int))) := tot_word s k hk2 hlt1
        have c0 := byte_bd s[k]; have c1 := byte_bd s[k + 1]
        have HB : Hid (bk (bk (tot (s.data.toList.take k)) + ((s[k].toNat : Int) * 256 + (s[k + 1].toNat : Int))) = bk (tot (s.data.toList.take k) + ((s[k].toNat : Int) * 256 + (s[k + 1].toNat : Int)))) := bk_add _ _ h0 (by omega)
        go_wp2_with (first | (go_at_call 66; refine (wordAt_two s k _ hs hlt hlt1).mono ?_; rintro e w' ⟨rfl, rfl⟩) | (go_at_call 65; refine (addWords_any _ _ _ (by omega) (by omega) (by omega) (by omega)).mono ?_; rintro e w' ⟨rfl, rfl⟩))
        go_round
        case rel => exact ⟨k + 2, by omega, by omega, by go_num, by rw [HW.out, HB.out]⟩
        case measure => simp [intOf]; omega
      · have HW : Hid (tot (s.data.toList.take (k + 2)) = tot (s.data.toList.take k) + (s[k].toNat : Int) * 256) := tot_last s k hk2 hlt hlt1
        have c0 := byte_bd s[k]
        have HB : Hid (bk (bk (tot (s.data.toList.take k)) + (s[k].toNat : Int) * 256) = bk (tot (s.data.toList.take k) + (s[k].toNat : Int) * 256)) := bk_add _ _ h0 (by omega)
        go_wp2_with (first | (go_at_call 66; refine (wordAt_one s k _ hs hlt hlt1).mono ?_; rintro e w' ⟨rfl, rfl⟩) | (go_at_call 65; refine (addWords_any _ _ _ (by omega) (by omega) (by omega) (by omega)).mono ?_; rintro e w' ⟨rfl, rfl⟩))
        go_round
        case rel => exact ⟨k + 2, by omega, by omega, by go_num, by rw [HW.out, HB.out]⟩
        case measure => simp [intOf]; omega
    · have HA : Hid (tot (s.data.toList.take k) = tot s.data.toList) := tot_all s k (by omega)
      go_wp2
      go_ret
      exact ⟨ret_int (by rw [HA.out]), rfl⟩
end Go.Proofs.Ythcedehppflcgab
