/-
  The walk of the document's own sum over a text: all bytes in one number, then by its remainder.
-/
import Derived.Test.YthcedehppflcgabMore
import Derived.Laws.IdiomStrings
import Derived.Below
namespace Go.Proofs.Ythcedehppflcgab
open Go.ChangeShapes Go.WideShapes Go.ChangeAt Go.RowKit
/-- a text as bytes: a new block whose first cells are its bytes. -/
theorem bytes_new (s : ByteArray) (w : World) : ∃ (C : Array Value) (cap : Nat),
    (convert 9 38 (.string s)).run Try.prog w = .ok (.slice (some ⟨w.heap.size, 0, none⟩) s.size cap) (w.drew.alloc (.cells C 5 (C.size, C.size + 1))) ∧
    ∀ (j : Nat) (h : j < s.size), (w.alloc (.cells C 5 (C.size, C.size + 1))).cell? ⟨w.heap.size, j, none⟩ = some (.int .u8 (s[j].toNat : Int)) := by
  refine ⟨_, _, run_bytes_of_string w 9 38 5 s Try.underlying9 Try.underlying38 Try.underlying5, fun j h => ?_⟩
  exact (World.cell?_alloc_mark w _ 5 _ j).trans (bytesRow_at s _ j (by simpa using h))
/-- the document's SumOf. -/
theorem sumRef_any (s : ByteArray) (w : World) (hs : s.size ≤ 140737488351232) :
    Calls Try.prog 25 #[.string s] w fun e w' => e = .returned (.int .i64 (bk (tot s.data.toList))) ∧ Below w.heap.size w w' := by
  obtain ⟨C, cap, hconv, hcell⟩ := bytes_new s w
  go_enter Try.func25, Try.ntmps25
  go_wp2
  go_loop [3, 10] (fun t i => ∃ k : Nat, k ≤ s.size ∧ i = .int .i64 k ∧ t = .int .i64 (tot (s.data.toList.take k))) (fun _ i => s.size - (intOf i).toNat)
  case atStart => exact ⟨0, by omega, rfl, by simp [tot]⟩
  case round =>
    obtain ⟨k, hk, rfl, rfl⟩ := hrel
    have h0 := tot_nonneg (s.data.toList.take k)
    have h1 := tot_half (s.data.toList.take k)
    rw [take_len s k hk] at h1
    by_cases hlt : k < s.size
    · have HS : Hid (tot (s.data.toList.take (k + 1)) = _) := tot_step s k hlt
      have c0 := byte_bd s[k]
      have hc := hcell k hlt
      by_cases hp : k % 2 = 0
      · have hp' : ((k : Int) % 2 == 0) = true := by simp; omega
        go_wp2
        go_round
        case rel => exact ⟨k + 1, by omega, by go_num, by rw [HS.out, if_pos hp]⟩
        case measure => simp [intOf]; omega
      · have hp' : ((k : Int) % 2 == 0) = false := by simp; omega
        go_wp2
        go_round
        case rel => exact ⟨k + 1, by omega, by go_num, by rw [HS.out, if_neg hp]⟩
        case measure => simp [intOf]; omega
    · have HA : Hid (tot (s.data.toList.take k) = tot s.data.toList) := tot_all s k (by omega)
      go_wp2_with (go_at_call 55; refine (back_any _ _ (by omega) (by omega)).mono ?_; rintro e w' ⟨rfl, rfl⟩)
      go_ret
      exact ⟨ret_int (by rw [HA.out]), ((Below.refl _ _).alloc (Nat.le_refl _) _).drew⟩
/-- the document's CheckOf. -/
theorem checkRef_any (s : ByteArray) (w : World) (hs : s.size ≤ 140737488351232) :
    Calls Try.prog 45 #[.string s] w fun e w' => e = .returned (.int .i64 (65535 - bk (tot s.data.toList))) ∧ Below w.heap.size w w' := by
  have hk := bk_bd (tot s.data.toList)
  go_enter Try.func45, Try.ntmps45
  go_wp2_with (go_at_call 25; refine (sumRef_any _ _ hs).mono ?_; rintro e w' ⟨rfl, hb⟩)
  go_ret
  exact ⟨ret_int rfl, hb⟩
end Go.Proofs.Ythcedehppflcgab
