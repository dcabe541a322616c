/-
  The plain mathematics of a frame with one byte changed: it is refused.
-/
import Derived.Test.YtcfdbmcmemdafabReads
namespace Go.Proofs.Ytcfdbmcmemdafab
open Go.RowKit

theorem tot_set (b : UInt8) : (l : List UInt8) → (i : Nat) → (h : i < l.length) → tot (l.set i b) = tot l + ((b.toNat : Int) - (l[i].toNat : Int)) * (if i % 2 = 0 then 256 else 1)
  | [], i, h => by simp at h
  | [a], 0, _ => by simp [tot]; omega
  | [a], i + 1, h => by simp at h
  | a :: c :: r, 0, _ => by simp [tot]; omega
  | a :: c :: r, 1, _ => by simp [tot]; omega
  | a :: c :: r, i + 2, h => by
    have h' : i < r.length := by simp at h; omega
    have ih := tot_set b r i h'
    have e : (i + 2) % 2 = i % 2 := by omega
    simp only [List.set_cons_succ, tot, List.getElem_cons_succ]
    rw [ih, e]; omega
theorem full_mod (x : Int) (h : bk x = 65535) : x % 65535 = 0 := by
  have := bk_mod x; omega
/-- one byte makes a difference. -/
theorem set_not_full (pre l : List UInt8) (i : Nat) (b : UInt8) (hp : pre.length % 2 = 0) (hi : i < l.length) (hb : b ≠ l[i]) (h1 : bk (tot (pre ++ l)) = 65535) : bk (tot (pre ++ l.set i b)) ≠ 65535 := by
  intro h2
  have m1 := full_mod _ h1; have m2 := full_mod _ h2
  rw [tot_append _ _ hp] at m1 m2
  rw [tot_set b l i hi] at m2
  have hne : (b.toNat : Int) ≠ (l[i].toNat : Int) := fun e => hb (UInt8.toNat_inj.1 (by omega))
  have := byte_bd b; have := byte_bd l[i]
  split at m2 <;> omega
theorem byt_set_ne (l : List UInt8) (i k : Nat) (b : UInt8) (h : i ≠ k) : byt (l.set i b) k = byt l k := by
  unfold byt; simp [h]
/-- whichever byte is changed: something is wrong. -/
theorem flip_bad (k : Pkt) (hg : good k = 0) (i : Nat) (hi : i < (frame k).length) (b : UInt8) (hb : b ≠ (frame k)[i]) : bad ((frame k).set i b) ≠ 0 := by
  intro h0
  obtain ⟨H, P, _⟩ := bad_zero _ h0
  have hk := (good_zero k hg).1
  have h := frame_head k hg (chkP k)
  have hp := frame_part k hg
  have hl : 20 ≤ (frame k).length := h.len
  by_cases h20 : i < 20
  · have e : ((frame k).set i b).take 20 = ((frame k).take 20).set i b := by rw [List.take_set]
    have hs := H.sum
    rw [e] at hs
    have hi' : i < ((frame k).take 20).length := by rw [List.length_take]; omega
    have hg' : ((frame k).take 20)[i] = (frame k)[i] := by simp
    exact set_not_full [] _ i b rfl hi' (by rw [hg']; exact hb) h.sum hs
  · have e9 : byt ((frame k).set i b) 9 = k.proto := by rw [byt_set_ne _ _ _ _ (by omega)]; exact frame_proto k hk _ _
    have hs := P.sum
    rw [e9] at hs
    have hs1 := hp.sum
    have ed : ((frame k).set i b).drop 20 = ((frame k).drop 20).set (i - 20) b := by rw [List.drop_set, if_neg (by omega)]
    have hi' : i - 20 < ((frame k).drop 20).length := by rw [List.length_drop]; omega
    have hg' : ((frame k).drop 20)[i - 20] = (frame k)[i] := by
      rw [List.getElem_drop]; congr 1; omega
    unfold chkd at hs hs1
    by_cases h1 : k.proto = 1
    · rw [if_pos h1, ed] at hs
      rw [if_pos h1] at hs1
      exact set_not_full [] _ _ b rfl hi' (by rw [hg']; exact hb) hs1 hs
    · rw [if_neg h1, ed, List.length_set] at hs
      rw [if_neg h1] at hs1
      have ep : (((frame k).set i b).drop 12).take 8 = ((frame k).drop 12).take 8 := by
        rw [List.drop_set, if_neg (by omega), List.take_set, List.set_eq_of_length_le (by rw [List.length_take]; omega)]
      rw [ep] at hs
      have hpre : (((frame k).drop 12).take 8 ++ (w16 k.proto ++ w16 (((frame k).length : Int) - 20))).length % 2 = 0 := by
        simp only [List.length_append, w16_len, List.length_take, List.length_drop]; omega
      have as1 : ∀ r : List UInt8, ((frame k).drop 12).take 8 ++ (w16 k.proto ++ (w16 (((frame k).length : Int) - 20) ++ r)) = (((frame k).drop 12).take 8 ++ (w16 k.proto ++ w16 (((frame k).length : Int) - 20))) ++ r := fun r => by simp
      rw [as1] at hs hs1
      exact set_not_full _ _ _ b hpre hi' (by rw [hg']; exact hb) hs1 hs
end Go.Proofs.Ytcfdbmcmemdafab
