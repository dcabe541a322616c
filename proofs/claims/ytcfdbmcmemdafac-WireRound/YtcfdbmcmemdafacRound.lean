/-
  A frame that is turned, and turned back.
-/
import Derived.Test.YtcfdbmcmemdafacTurn5
import Derived.Test.YtcfdbmcmemdafacKeepW
import Derived.BigQuiet
namespace Go.Proofs.Ytcfdbmcmemdafac
open Go.ChangeShapes Go.WideShapes Go.ChangeAt Go.RowKit

theorem turn_again (k : Pkt) (side addr port : Int) (hg : good k = 0) (h : turnE (frame k) side addr port = 0) :
    (k.ttl = 2 → turnE (frame (turned k side addr port)) side (if side = 0 then k.src else k.dst) (if side = 0 then k.sport else k.dport) = 12) ∧
    (k.ttl ≠ 2 → turnE (frame (turned k side addr port)) side (if side = 0 then k.src else k.dst) (if side = 0 then k.sport else k.dport) = 0 ∧ turned (turned k side addr port) side (if side = 0 then k.src else k.dst) (if side = 0 then k.sport else k.dport) = { k with ttl := k.ttl - 1 - 1 }) := by
  obtain ⟨_, hq, _, hs⟩ := turn_frame k side addr port hg h
  have hk : pktOf (frame k) = k := frame_pkt k hg _ _
  have hkq : pktOf (frame (turned k side addr port)) = turned k side addr port := frame_pkt _ hq _ _
  have hbq := (frame_back _ hq).1
  have hb := (frame_back _ hg).1
  have R := (range_iff k).1 (good_zero k hg).2.1
  have hx : longB (if side = 0 then k.src else k.dst) = true := by unfold longB; split <;> (rw [decide_eq_true_eq]; omega)
  have hy : wordB' (if side = 0 then k.sport else k.dport) = true := by unfold wordB'; split <;> (rw [decide_eq_true_eq]; omega)
  have ht : (turned k side addr port).ttl = k.ttl - 1 := by unfold turned; split <;> rfl
  have hp : (turned k side addr port).proto = k.proto := by unfold turned; split <;> rfl
  have hf : (turned k side addr port).flags = k.flags := by unfold turned; split <;> rfl
  have hT : ¬ (k.proto = 1 ∧ (k.flags == 8) ≠ (side == 0)) := by
    intro h2
    unfold turnE at h
    rw [hk, if_neg (by omega)] at h
    by_cases h0 : side ≠ 0 ∧ side ≠ 1
    · rw [if_pos h0] at h; omega
    rw [if_neg h0] at h
    by_cases ha : longB addr = false
    · rw [if_pos ha] at h; omega
    rw [if_neg ha] at h
    by_cases hp : wordB' port = false
    · rw [if_pos hp] at h; omega
    rw [if_neg hp] at h
    by_cases h1 : k.ttl = 1
    · rw [if_pos h1] at h; omega
    rw [if_neg h1, if_pos h2] at h; omega
  have E : turnE (frame (turned k side addr port)) side (if side = 0 then k.src else k.dst) (if side = 0 then k.sport else k.dport) = if k.ttl - 1 = 1 then 12 else 0 := by
    unfold turnE
    rw [hkq, if_neg (by omega), if_neg (by omega), if_neg (by simp [hx]), if_neg (by simp [hy]), ht, hp, hf, if_neg hT]
  refine ⟨fun h2 => by rw [E, if_pos (by omega)], fun h2 => ⟨by rw [E, if_neg (by omega)], ?_⟩⟩
  rcases hs with rfl | rfl <;> rfl
end Go.Proofs.Ytcfdbmcmemdafac
