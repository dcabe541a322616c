/-
  The walk of what Parse asks of what stands behind a head, of Udp and Tcp.
-/
import Derived.Test.YthcedehppflcgabParse2
namespace Go.Proofs.Ythcedehppflcgab
open Go.ChangeShapes Go.WideShapes Go.ChangeAt Go.RowKit

set_option maxHeartbeats 2000000 in
theorem partUdp (s : ByteArray) (w : World) (hl : 28 ≤ s.size) (hs : s.size ≤ 65535) :
    Calls Try.prog 22 #[.string s, .int .i64 17] w fun e w' => e = .returned (.int .i64 (partBad s.data.toList 17)) ∧ Below w.heap.size w w' := by
  have z2 : (s.extract 20 s.size).size = s.size - 20 := ext_size s 20 s.size (Nat.le_refl _)
  have z3 : ((s.size - 20 : Nat) : Int) = (s.size : Int) - 20 := by omega
  have z4 : ((s.extract 20 s.size).size : Int) = (s.size : Int) - 20 := by omega
  have pn : partN 17 = 8 := rfl
  have cn : ((chkAt 17 : Nat) : Int) = 26 := rfl
  have hB := Below.refl w.heap.size w
  go_enter Try.func22, Try.ntmps22
  go_wp2_with (first
    | (go_at_call 38; refine (partBytes_any _ _).mono ?_; rintro e w' ⟨rfl, rfl⟩)
    | (go_at_call 52; refine (checkAt_any _ _).mono ?_; rintro e w' ⟨rfl, rfl⟩)
    | (go_at_call 51; refine (checked_any _ _ _ (by omega) (by omega)).mono ?_; rintro e w' ⟨rfl, hb⟩; replace hB := hB.trans (hb.mono hB.size))
    | (go_at_call_of 49 (Value.string (s.extract 20 s.size)); refine (wAtP_any s 4 _ (by omega) hs (by omega) (by omega)).mono ?_; rintro e w' ⟨rfl, hb⟩; replace hB := hB.trans (hb.mono hB.size); simp only [Int.reduceToNat, Nat.reduceAdd])
    | (go_at_call_of 49 (Value.string s); refine (wAtI_any s _ _ (by omega) (by omega) (by omega)).mono ?_; rintro e w' ⟨rfl, hb⟩; replace hB := hB.trans (hb.mono hB.size); simp only [Int.reduceToNat])
    | (go_at_call 50; refine (ofP_any _ _ _ (by rw [len_list]; omega)).mono ?_; rintro e w' ⟨rfl, rfl⟩))
  all_goals
    go_ret
    refine ⟨ret_int ?_, hB⟩
    unfold partBad
    rw [len_list]
    unfold sumP at *
    clear hB
    simp_all
  all_goals omega
set_option maxHeartbeats 2000000 in
theorem partTcp (s : ByteArray) (w : World) (hl : 40 ≤ s.size) (hs : s.size ≤ 65535) :
    Calls Try.prog 22 #[.string s, .int .i64 6] w fun e w' => e = .returned (.int .i64 (partBad s.data.toList 6)) ∧ Below w.heap.size w w' := by
  have z2 : (s.extract 20 s.size).size = s.size - 20 := ext_size s 20 s.size (Nat.le_refl _)
  have z3 : ((s.size - 20 : Nat) : Int) = (s.size : Int) - 20 := by omega
  have z4 : ((s.extract 20 s.size).size : Int) = (s.size : Int) - 20 := by omega
  have pn : partN 6 = 20 := rfl
  have ge0 : ∀ h, (((s.extract 20 s.size)[12]'h).toNat : Int) = byt s.data.toList 32 := fun h => get_ext s 12 h
  have ge1 : ∀ h, (((s.extract 20 s.size)[13]'h).toNat : Int) = byt s.data.toList 33 := fun h => get_ext s 13 h
  have hB := Below.refl w.heap.size w
  go_enter Try.func22, Try.ntmps22
  go_wp2_with (first
    | (go_at_call 38; refine (partBytes_any _ _).mono ?_; rintro e w' ⟨rfl, rfl⟩)
    | (go_at_call 51; refine (checked_any _ _ _ (by omega) (by omega)).mono ?_; rintro e w' ⟨rfl, hb⟩; replace hB := hB.trans (hb.mono hB.size))
    | (go_at_call_of 49 (Value.string (s.extract 20 s.size)); refine (wAtP_any s 18 _ (by omega) hs (by omega) (by omega)).mono ?_; rintro e w' ⟨rfl, hb⟩; replace hB := hB.trans (hb.mono hB.size); simp only [Int.reduceToNat, Nat.reduceAdd])
    | (go_at_call 50; refine (ofP_any _ _ _ (by rw [len_list]; omega)).mono ?_; rintro e w' ⟨rfl, rfl⟩))
  all_goals
    go_ret
    refine ⟨ret_int ?_, hB⟩
    unfold partBad
    rw [len_list]
    unfold sumP at *
    clear hB
    simp_all
  all_goals omega
theorem partWrong_any (s : ByteArray) (proto : Int) (w : World) (h20 : 20 ≤ s.size) (hs : s.size ≤ 65535) (hk : kindB proto = true) :
    Calls Try.prog 22 #[.string s, .int .i64 proto] w fun e w' => e = .returned (.int .i64 (partBad s.data.toList proto)) ∧ Below w.heap.size w w' := by
  by_cases h : (s.size : Int) - 20 < partN proto
  · have E : partBad s.data.toList proto = 1 := by unfold partBad; rw [len_list, if_pos h]
    rw [E]
    exact (partShort s proto w h20 hs h).mono fun e w' ⟨he, hw⟩ => ⟨he, by rw [hw]; exact Below.refl _ _⟩
  · rcases (kind_iff _).1 hk with rfl | rfl | rfl
    · exact partPing s w (by rw [show partN 1 = 8 from rfl] at h; omega) hs
    · exact partTcp s w (by rw [show partN 6 = 20 from rfl] at h; omega) hs
    · exact partUdp s w (by rw [show partN 17 = 8 from rfl] at h; omega) hs
end Go.Proofs.Ythcedehppflcgab
