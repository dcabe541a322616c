/-
  wire.Turn, whole: what it hands back for all bytes.
-/
import Derived.Test.YthcedehppflcgabTurnM
namespace Go.Proofs.Ythcedehppflcgab
open Go.ChangeShapes Go.WideShapes Go.ChangeAt Go.RowKit

/-- what is wrong with a turn. -/
def turnE (l : List UInt8) (side addr port : Int) : Int :=
  if bad l ≠ 0 then bad l else if side ≠ 0 ∧ side ≠ 1 then 2 else if longB addr = false then 2 else if wordB' port = false then 2 else if (pktOf l).ttl = 1 then 12 else if (pktOf l).proto = 1 ∧ ((pktOf l).flags == 8) ≠ (side == 0) then 4 else 0
def turnS (l : List UInt8) (side addr port : Int) : ByteArray := if turnE l side addr port = 0 then txt (spun l (pktOf l).proto side addr port) else ByteArray.empty
theorem pkt_proto (l : List UInt8) : (pktOf l).proto = byt l 9 := by
  unfold pktOf
  by_cases h1 : byt l 9 = 1
  · rw [if_pos h1]; exact h1.symm
  · rw [if_neg h1]
    by_cases h2 : byt l 9 = 6
    · rw [if_pos h2]; exact h2.symm
    · rw [if_neg h2]
theorem turn_any (s : ByteArray) (side addr port : Int) (w : World) (hs : s.size ≤ 140737488351232) :
    Calls Try.prog 12 #[.string s, .int .i64 side, .int .i64 addr, .int .i64 port] w fun e w' => e = .returned (.tuple #[.string (turnS s.data.toList side addr port), .int .i64 (turnE s.data.toList side addr port)]) ∧ Below w.heap.size w w' := by
  unfold turnS
  by_cases hb : bad s.data.toList = 0
  · have hk : parsed s.data.toList = pktOf s.data.toList := by unfold parsed; rw [if_pos hb]
    by_cases h0 : side ≠ 0 ∧ side ≠ 1
    · have e : turnE s.data.toList side addr port = 2 := by unfold turnE; rw [if_neg (by omega), if_pos h0]
      rw [e]; exact turn_side s side addr port w hs _ rfl hb h0.1 h0.2
    by_cases ha : longB addr = false
    · have e : turnE s.data.toList side addr port = 2 := by unfold turnE; rw [if_neg (by omega), if_neg h0, if_pos ha]
      rw [e]; exact turn_addr s side addr port w hs _ rfl hb (by omega) ha
    by_cases hp : wordB' port = false
    · have e : turnE s.data.toList side addr port = 2 := by unfold turnE; rw [if_neg (by omega), if_neg h0, if_neg ha, if_pos hp]
      rw [e]; exact turn_port s side addr port w hs _ rfl hb (by omega) (by simpa using ha) hp
    by_cases h1 : (pktOf s.data.toList).ttl = 1
    · have e : turnE s.data.toList side addr port = 12 := by unfold turnE; rw [if_neg (by omega), if_neg h0, if_neg ha, if_neg hp, if_pos h1]
      rw [e]; exact turn_dead s side addr port w hs _ hk hb (by omega) (by simpa using ha) (by simpa using hp) h1
    by_cases h2 : (pktOf s.data.toList).proto = 1 ∧ ((pktOf s.data.toList).flags == 8) ≠ (side == 0)
    · have e : turnE s.data.toList side addr port = 4 := by unfold turnE; rw [if_neg (by omega), if_neg h0, if_neg ha, if_neg hp, if_neg h1, if_pos h2]
      rw [e]; exact turn_kind s side addr port w hs _ hk hb (by omega) (by simpa using ha) (by simpa using hp) h1 h2.1 h2.2
    have e : turnE s.data.toList side addr port = 0 := by unfold turnE; rw [if_neg (by omega), if_neg h0, if_neg ha, if_neg hp, if_neg h1, if_neg h2]
    rw [e, if_pos rfl]
    obtain ⟨H, P, _⟩ := bad_zero _ hb
    have hpl := part_least _ H.kind
    have hln := P.len
    have hll := len_list s
    have hK := (kind_iff _).1 H.kind
    refine turn_ok s side addr port w hs _ hk hb (by omega) (by simpa using ha) (by simpa using hp) h1 (fun h3 => ?_) (by omega) ?_ ?_
    · by_cases h4 : ((pktOf s.data.toList).flags == 8) = (side == 0)
      · exact h4
      · exact absurd ⟨h3, h4⟩ h2
    · have := H.small; omega
    · rw [pkt_proto]
      unfold partN at hln
      unfold chkAt
      rcases hK with h | h | h <;> simp only [h] at hln ⊢ <;> simp at hln ⊢ <;> omega
  · have e : turnE s.data.toList side addr port = bad s.data.toList := by unfold turnE; rw [if_pos hb]
    rw [e, if_neg hb]; exact turn_bad s side addr port w hs _ rfl _ rfl hb
/-- a frame that was built, turned. -/
theorem turn_frame (k : Pkt) (side addr port : Int) (hg : good k = 0) (h : turnE (frame k) side addr port = 0) : turnS (frame k) side addr port = txt (frame (turned k side addr port)) ∧ good (turned k side addr port) = 0 ∧ k.ttl ≠ 1 ∧ (side = 0 ∨ side = 1) := by
  have hk : pktOf (frame k) = k := frame_pkt k hg _ _
  unfold turnS
  rw [if_pos h, hk]
  unfold turnE at h
  rw [hk] at h
  have hb := (frame_back k hg).1
  rw [if_neg (by omega)] at h
  by_cases h0 : side ≠ 0 ∧ side ≠ 1
  · rw [if_pos h0] at h; omega
  rw [if_neg h0] at h
  by_cases ha : longB addr = false
  · rw [if_pos ha] at h; omega
  rw [if_neg ha] at h
  by_cases hp : wordB' port = false
  · rw [if_pos hp] at h; omega
  rw [if_neg hp] at h
  by_cases h1 : k.ttl = 1
  · rw [if_pos h1] at h; omega
  rw [if_neg h1] at h
  by_cases h2 : k.proto = 1 ∧ (k.flags == 8) ≠ (side == 0)
  · rw [if_pos h2] at h; omega
  have ha' : 0 ≤ addr ∧ addr ≤ 4294967295 := by unfold longB at ha; simpa using ha
  have hp' : 0 ≤ port ∧ port ≤ 65535 := by unfold wordB' at hp; simpa using hp
  have hs : side = 0 ∨ side = 1 := by omega
  have hf : k.proto = 1 → (k.flags == 8) = (side == 0) := fun h3 => by
    by_cases h4 : (k.flags == 8) = (side == 0)
    · exact h4
    · exact absurd ⟨h3, h4⟩ h2
  exact ⟨by rw [spun_built k side addr port hg hs ha' hp' h1 hf], turned_good k side addr port hg hs ha' hp' h1 hf, h1, hs⟩
end Go.Proofs.Ythcedehppflcgab
