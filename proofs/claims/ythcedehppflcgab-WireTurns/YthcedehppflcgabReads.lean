/-
  The plain mathematics of a frame that is built and read again: what is read is what was built.
-/
import Derived.Test.YthcedehppflcgabZero
namespace Go.Proofs.Ythcedehppflcgab
open Go.RowKit

theorem byt_cons (a : UInt8) (l : List UInt8) : byt (a :: l) 0 = (a.toNat : Int) := rfl
/-- the sums of a frame. -/
theorem tot_fr_head (p : Pkt) (c : Int) (h0 : 0 ≤ c) (h1 : c ≤ 65535) : tot (hd p (flen p) c) = tot (hd p (flen p) 0) + c := by
  unfold hd w16 l32 w16
  simp only [List.cons_append, List.nil_append, tot, b8_nat]
  omega
theorem hd_pos (p : Pkt) (n c : Int) : 0 < tot (hd p n c) := by
  have h1 := tot_nonneg ((hd p n c).drop 2)
  have e : hd p n c = [69, 0] ++ (hd p n c).drop 2 := rfl
  rw [e, tot_append _ _ (by rfl)]
  have : tot [69, 0] = 17664 := by decide
  omega
theorem chkH_bd (p : Pkt) : 0 ≤ chkH p ∧ chkH p ≤ 65534 := by
  unfold chkH
  have := bk_bd (tot (hd p (flen p) 0)); have := bk_pos (tot (hd p (flen p) 0)) (by have := hd_pos p (flen p) 0; omega); omega
theorem head_full (p : Pkt) : bk (tot (hd p (flen p) (chkH p))) = 65535 := by
  have hb := chkH_bd p
  rw [tot_fr_head p _ hb.1 (by omega)]
  exact bk_full _ (tot_nonneg _)
theorem pt_even (p : Pkt) (c : Int) : (pt p c).length % 2 = 0 := by
  unfold pt; split <;> (try split) <;> simp [w16, l32]
theorem ps_even (a b c n : Int) : (ps a b c n).length % 2 = 0 := by
  unfold ps; split <;> simp
theorem tot_pt (p : Pkt) (c : Int) (h0 : 0 ≤ c) (h1 : c ≤ 65535) : tot (pt p c) = tot (pt p 0) + c := by
  unfold pt
  split
  · unfold w16
    simp only [List.cons_append, List.nil_append, tot, b8_nat]
    omega
  · split
    · unfold w16
      simp only [List.cons_append, List.nil_append, tot, b8_nat]
      omega
    · unfold l32 w16
      simp only [List.cons_append, List.nil_append, tot, b8_nat]
      omega
/-- what the other check is of, as one number. -/
def allP (p : Pkt) (c : Int) : Int := tot (ps p.src p.dst p.proto (partN p.proto + p.body.size) ++ (pt p c ++ p.body.data.toList))
theorem allP_eq (p : Pkt) (c : Int) (h0 : 0 ≤ c) (h1 : c ≤ 65535) : allP p c = allP p 0 + c := by
  unfold allP
  rw [tot_append _ _ (ps_even _ _ _ _), tot_append _ _ (ps_even _ _ _ _), tot_append _ _ (pt_even _ _), tot_append _ _ (pt_even _ _), tot_pt p c h0 h1]
  omega
theorem chkP_bd (p : Pkt) : 0 ≤ chkP p ∧ chkP p ≤ 65535 := by
  have := bk_bd (allP p 0)
  have e : chkP0 p = 65535 - bk (allP p 0) := rfl
  unfold chkP; split <;> omega
theorem bk_more (x : Int) (h : 0 < x) (hx : bk x = 65535) : bk (x + 65535) = 65535 := by
  rw [← hx]
  refine bk_eq _ _ ?_ ?_ <;> omega
theorem part_full (p : Pkt) : bk (allP p (chkP p)) = 65535 := by
  have hb := chkP_bd p
  rw [allP_eq p _ hb.1 hb.2]
  have e : chkP0 p = 65535 - bk (allP p 0) := rfl
  have hn : 0 ≤ allP p 0 := tot_nonneg _
  unfold chkP
  split
  · rename_i h
    have h2 : bk (allP p 0) = 65535 := by omega
    have hz := bk_zero (allP p 0)
    exact bk_more _ (by omega) h2
  · rw [e]; exact bk_full _ hn
theorem udp_sum (p : Pkt) (h : p.proto = 17) : chkP p ≠ 0 := by
  unfold chkP
  split
  · omega
  · rename_i h'; intro e; exact h' ⟨h, e⟩
theorem head_ok_bad (l : List UInt8) (h : HeadOk l) : headBad l = 0 := by
  unfold headBad
  have h1 := h.len
  rw [if_neg (by omega), if_neg (by have := h.mark; omega), if_neg (by have := h.size; omega), if_neg (by have := h.sum; omega), if_neg (by have := h.serv; omega), if_neg (by have := h.piece; omega), if_neg h.ttl, if_neg (by rw [h.kind]; simp)]
theorem part_ok_bad (l : List UInt8) (proto : Int) (h : PartOk l proto) : partBad l proto = 0 := by
  unfold partBad
  have := h.len; have := h.sum; have := h.udpSum; have := h.ping; have := h.ping'; have := h.tcp1; have := h.tcp2; have := h.tcp3; have := h.udp
  rw [if_neg (by omega), if_neg (by omega), if_neg (by omega), if_neg (by omega), if_neg (by omega), if_neg (by omega), if_neg (by omega), if_neg (by omega), if_neg (by omega)]
theorem two_of (x : Int) (h0 : 0 ≤ x) (h1 : x ≤ 65535) : ((b8 (x / 256)).toNat : Int) * 256 + ((b8 x).toNat : Int) = x := by rw [b8_nat, b8_nat]; omega
theorem four_of (x : Int) (h0 : 0 ≤ x) (h1 : x ≤ 4294967295) : (((b8 (x / 65536 / 256)).toNat : Int) * 256 + ((b8 (x / 65536)).toNat : Int)) * 65536 + (((b8 (x / 256)).toNat : Int) * 256 + ((b8 x).toNat : Int)) = x := by
  rw [b8_nat, b8_nat, b8_nat, b8_nat]; omega
theorem one_of (x : Int) (h0 : 0 ≤ x) (h1 : x ≤ 255) : ((b8 x).toNat : Int) = x := by rw [b8_nat]; omega
section
variable (k : Pkt) (c1 c2 : Int)
theorem fr_0 : byt (fr k c1 c2) 0 = 69 := rfl
theorem fr_1 : byt (fr k c1 c2) 1 = 0 := rfl
theorem fr_2 : wAt (fr k c1 c2) 2 = ((b8 (flen k / 256)).toNat : Int) * 256 + ((b8 (flen k)).toNat : Int) := rfl
theorem fr_4 : wAt (fr k c1 c2) 4 = ((b8 (k.id / 256)).toNat : Int) * 256 + ((b8 k.id).toNat : Int) := rfl
theorem fr_6 : wAt (fr k c1 c2) 6 = ((b8 (0 / 256)).toNat : Int) * 256 + ((b8 0).toNat : Int) := rfl
theorem fr_8 : byt (fr k c1 c2) 8 = ((b8 k.ttl).toNat : Int) := rfl
theorem fr_9 : byt (fr k c1 c2) 9 = ((b8 k.proto).toNat : Int) := rfl
theorem fr_12 : lAt (fr k c1 c2) 12 = (((b8 (k.src / 65536 / 256)).toNat : Int) * 256 + ((b8 (k.src / 65536)).toNat : Int)) * 65536 + (((b8 (k.src / 256)).toNat : Int) * 256 + ((b8 k.src).toNat : Int)) := rfl
theorem fr_16 : lAt (fr k c1 c2) 16 = (((b8 (k.dst / 65536 / 256)).toNat : Int) * 256 + ((b8 (k.dst / 65536)).toNat : Int)) * 65536 + (((b8 (k.dst / 256)).toNat : Int) * 256 + ((b8 k.dst).toNat : Int)) := rfl
end
theorem frame_head (k : Pkt) (hg : good k = 0) (c2 : Int) : HeadOk (fr k (chkH k) c2) := by
  obtain ⟨hk, hr, hb, _⟩ := good_zero k hg
  have hr' := (range_iff k).1 hr
  have hl := fr_len k (chkH k) c2 hk
  have hs := size_lt k hb
  refine ⟨by omega, fr_0 _ _ _, ?_, ?_, fr_1 _ _ _, by rw [fr_6, two_of 0 (by omega) (by omega)], ?_, ?_⟩
  · rw [fr_2, two_of _ (by omega) (by omega), hl]
  · rw [take_head]; exact head_full k
  · rw [fr_8, one_of _ (by omega) (by omega)]; omega
  · rw [fr_9, one_of]
    · exact hk
    · rcases (kind_iff _).1 hk with h | h | h <;> omega
    · rcases (kind_iff _).1 hk with h | h | h <;> omega
theorem frame_proto (k : Pkt) (hk : kindB k.proto = true) (c1 c2 : Int) : byt (fr k c1 c2) 9 = k.proto := by
  rw [fr_9, one_of]
  · rcases (kind_iff _).1 hk with h | h | h <;> omega
  · rcases (kind_iff _).1 hk with h | h | h <;> omega
set_option maxHeartbeats 800000 in
theorem frame_part (k : Pkt) (hg : good k = 0) : PartOk (frame k) k.proto := by
  obtain ⟨hk, hr, hb, hf⟩ := good_zero k hg
  have hr' := (range_iff k).1 hr
  have hf' := (form_iff k).1 hf
  have hl := fr_len k (chkH k) (chkP k) hk
  have hs := size_lt k hb
  have hc := chkP_bd k
  unfold frame
  have hsum : bk (tot (chkd (fr k (chkH k) (chkP k)) k.proto)) = 65535 := by rw [chkd_fr k _ _ hk]; exact part_full k
  have hu := udp_sum k
  generalize hc2 : chkP k = c2 at *
  generalize chkH k = c1 at *
  obtain ⟨proto, src, sport, dst, dport, ttl, id, flags, seq, ack, win, body⟩ := k
  simp only at *
  rcases (kind_iff _).1 hk with rfl | rfl | rfl
  · refine ⟨by unfold flen at hl; simp only at hl; omega, hsum, by omega, fun _ => ?_, fun _ => ?_, by omega, by omega, by omega, by omega⟩
    rotate_left
    · have e : byt (fr ⟨1, src, sport, dst, dport, ttl, id, flags, seq, ack, win, body⟩ c1 c2) 21 = ((0 : UInt8).toNat : Int) := rfl
      rw [e]; decide
    have e : byt (fr ⟨1, src, sport, dst, dport, ttl, id, flags, seq, ack, win, body⟩ c1 c2) 20 = ((b8 flags).toNat : Int) := rfl
    rw [e, one_of _ (by omega) (by omega)]; omega
  · refine ⟨by unfold flen at hl; simp only at hl; omega, hsum, by omega, by omega, by omega, fun _ => ?_, fun _ => ?_, fun _ => ?_, by omega⟩
    · have e : byt (fr ⟨6, src, sport, dst, dport, ttl, id, flags, seq, ack, win, body⟩ c1 c2) 32 = ((80 : UInt8).toNat : Int) := rfl
      rw [e]; decide
    rotate_left
    · have e : wAt (fr ⟨6, src, sport, dst, dport, ttl, id, flags, seq, ack, win, body⟩ c1 c2) 38 = ((b8 (0 / 256)).toNat : Int) * 256 + ((b8 0).toNat : Int) := rfl
      rw [e, two_of 0 (by omega) (by omega)]
    have e : byt (fr ⟨6, src, sport, dst, dport, ttl, id, flags, seq, ack, win, body⟩ c1 c2) 33 = ((b8 flags).toNat : Int) := rfl
    rw [e, one_of _ (by omega) (by omega)]; omega
  · have e : wAt (fr ⟨17, src, sport, dst, dport, ttl, id, flags, seq, ack, win, body⟩ c1 c2) 26 = ((b8 (c2 / 256)).toNat : Int) * 256 + ((b8 c2).toNat : Int) := rfl
    have e2 : wAt (fr ⟨17, src, sport, dst, dport, ttl, id, flags, seq, ack, win, body⟩ c1 c2) 24 = ((b8 ((8 + body.size) / 256)).toNat : Int) * 256 + ((b8 (8 + body.size)).toNat : Int) := rfl
    refine ⟨by unfold flen at hl; simp only at hl; omega, hsum, fun _ => ?_, by omega, by omega, by omega, by omega, by omega, fun _ => ?_⟩
    · rw [e, two_of _ (by omega) (by omega)]; exact hu rfl
    · rw [e2, two_of _ (by omega) (by omega), hl]; unfold flen partN; simp; omega
theorem frame_pkt (k : Pkt) (hg : good k = 0) (c1 c2 : Int) : pktOf (fr k c1 c2) = k := by
  obtain ⟨hk, hr, hb, hf⟩ := good_zero k hg
  have hr' := (range_iff k).1 hr
  have hf' := (form_iff k).1 hf
  have h9 := frame_proto k hk c1 c2
  have e12 := fr_12 k c1 c2; have e16 := fr_16 k c1 c2; have e8 := fr_8 k c1 c2; have e4 := fr_4 k c1 c2
  obtain ⟨proto, src, sport, dst, dport, ttl, id, flags, seq, ack, win, body⟩ := k
  simp only at *
  rw [four_of _ (by omega) (by omega)] at e12 e16
  rw [two_of _ (by omega) (by omega)] at e4
  rw [one_of _ (by omega) (by omega)] at e8
  unfold pktOf
  rw [h9, e12, e16, e8, e4]
  rcases (kind_iff _).1 hk with rfl | rfl | rfl
  · have e20 : byt (fr ⟨1, src, sport, dst, dport, ttl, id, flags, seq, ack, win, body⟩ c1 c2) 20 = ((b8 flags).toNat : Int) := rfl
    have e24 : wAt (fr ⟨1, src, sport, dst, dport, ttl, id, flags, seq, ack, win, body⟩ c1 c2) 24 = ((b8 ((sport + dport) / 256)).toNat : Int) * 256 + ((b8 (sport + dport)).toNat : Int) := rfl
    have e26 : wAt (fr ⟨1, src, sport, dst, dport, ttl, id, flags, seq, ack, win, body⟩ c1 c2) 26 = ((b8 (seq / 256)).toNat : Int) * 256 + ((b8 seq).toNat : Int) := rfl
    have eb : (fr ⟨1, src, sport, dst, dport, ttl, id, flags, seq, ack, win, body⟩ c1 c2).drop 28 = body.data.toList := rfl
    have hp := hf'.1 rfl
    rw [if_pos rfl, e20, e24, e26, eb, txt_of, one_of flags (by omega) (by omega), two_of seq (by omega) (by omega), two_of (sport + dport) (by omega) (by omega)]
    obtain ⟨h | h, _, _, ha, hw⟩ := hp
    · rw [h.1, h.2, ha, hw]; simp
    · rw [h.1, h.2, ha, hw]; simp
  · have e20 : wAt (fr ⟨6, src, sport, dst, dport, ttl, id, flags, seq, ack, win, body⟩ c1 c2) 20 = ((b8 (sport / 256)).toNat : Int) * 256 + ((b8 sport).toNat : Int) := rfl
    have e22 : wAt (fr ⟨6, src, sport, dst, dport, ttl, id, flags, seq, ack, win, body⟩ c1 c2) 22 = ((b8 (dport / 256)).toNat : Int) * 256 + ((b8 dport).toNat : Int) := rfl
    have e33 : byt (fr ⟨6, src, sport, dst, dport, ttl, id, flags, seq, ack, win, body⟩ c1 c2) 33 = ((b8 flags).toNat : Int) := rfl
    have e24 : lAt (fr ⟨6, src, sport, dst, dport, ttl, id, flags, seq, ack, win, body⟩ c1 c2) 24 = (((b8 (seq / 65536 / 256)).toNat : Int) * 256 + ((b8 (seq / 65536)).toNat : Int)) * 65536 + (((b8 (seq / 256)).toNat : Int) * 256 + ((b8 seq).toNat : Int)) := rfl
    have e28 : lAt (fr ⟨6, src, sport, dst, dport, ttl, id, flags, seq, ack, win, body⟩ c1 c2) 28 = (((b8 (ack / 65536 / 256)).toNat : Int) * 256 + ((b8 (ack / 65536)).toNat : Int)) * 65536 + (((b8 (ack / 256)).toNat : Int) * 256 + ((b8 ack).toNat : Int)) := rfl
    have e34 : wAt (fr ⟨6, src, sport, dst, dport, ttl, id, flags, seq, ack, win, body⟩ c1 c2) 34 = ((b8 (win / 256)).toNat : Int) * 256 + ((b8 win).toNat : Int) := rfl
    have eb : (fr ⟨6, src, sport, dst, dport, ttl, id, flags, seq, ack, win, body⟩ c1 c2).drop 40 = body.data.toList := rfl
    rw [if_neg (by omega), if_pos rfl, e20, e22, e33, e24, e28, e34, eb, txt_of, two_of sport (by omega) (by omega), two_of dport (by omega) (by omega), one_of flags (by omega) (by omega), four_of seq (by omega) (by omega), four_of ack (by omega) (by omega), two_of win (by omega) (by omega)]
  · have e20 : wAt (fr ⟨17, src, sport, dst, dport, ttl, id, flags, seq, ack, win, body⟩ c1 c2) 20 = ((b8 (sport / 256)).toNat : Int) * 256 + ((b8 sport).toNat : Int) := rfl
    have e22 : wAt (fr ⟨17, src, sport, dst, dport, ttl, id, flags, seq, ack, win, body⟩ c1 c2) 22 = ((b8 (dport / 256)).toNat : Int) * 256 + ((b8 dport).toNat : Int) := rfl
    have eb : (fr ⟨17, src, sport, dst, dport, ttl, id, flags, seq, ack, win, body⟩ c1 c2).drop 28 = body.data.toList := rfl
    obtain ⟨h1, h2, h3, h4⟩ := hf'.2 rfl
    rw [if_neg (by omega), if_neg (by omega), e20, e22, eb, txt_of, two_of sport (by omega) (by omega), two_of dport (by omega) (by omega), h1, h2, h3, h4]
/-- what is built is read as it was. -/
theorem frame_back (k : Pkt) (hg : good k = 0) : bad (frame k) = 0 ∧ parsed (frame k) = k := by
  have hk := (good_zero k hg).1
  have h1 : headBad (frame k) = 0 := head_ok_bad _ (frame_head k hg _)
  have h9 : byt (frame k) 9 = k.proto := frame_proto k hk _ _
  have h2 : partBad (frame k) (byt (frame k) 9) = 0 := by rw [h9]; exact part_ok_bad _ _ (frame_part k hg)
  have hp : pktOf (frame k) = k := frame_pkt k hg _ _
  have hb : bad (frame k) = 0 := by unfold bad; rw [if_neg (by omega), if_neg (by omega), hp]; exact hg
  exact ⟨hb, by unfold parsed; rw [if_pos hb]; exact hp⟩
/-- with a byte more or less the length is not that of the frame. -/
theorem frame_more (k : Pkt) (hg : good k = 0) (r : List UInt8) (hr : r ≠ []) : bad (frame k ++ r) = 1 := by
  have h := frame_head k hg (chkP k)
  have hl := h.len; have hs := h.size
  have h1 : headBad (frame k ++ r) = 1 := by
    unfold headBad
    have e0 : byt (frame k ++ r) 0 = 69 := rfl
    have e2 : wAt (frame k ++ r) 2 = wAt (frame k) 2 := rfl
    have hlen : (frame k ++ r).length = (frame k).length + r.length := List.length_append
    have hr' : 0 < r.length := by cases r with | nil => exact absurd rfl hr | cons _ _ => simp
    have hl' : 20 ≤ (frame k).length := hl
    have hs' : wAt (frame k) 2 = (frame k).length := hs
    rw [if_neg (by omega), if_neg (by omega), if_pos (by omega)]
  unfold bad; rw [h1, if_pos (by omega)]
theorem frame_less (k : Pkt) (hg : good k = 0) (n : Nat) (hn : n < (frame k).length) : bad ((frame k).take n) = 1 := by
  have h := frame_head k hg (chkP k)
  have hl' : 20 ≤ (frame k).length := h.len
  have hs' : wAt (frame k) 2 = (frame k).length := h.size
  have hlen : ((frame k).take n).length = n := by rw [List.length_take]; omega
  have h1 : headBad ((frame k).take n) = 1 := by
    unfold headBad
    by_cases h20 : n < 20
    · rw [if_pos (by omega)]
    · have e0 : byt ((frame k).take n) 0 = byt (frame k) 0 := by unfold byt; simp [show 0 < n by omega]
      have e2 : wAt ((frame k).take n) 2 = wAt (frame k) 2 := by unfold wAt byt; simp [show 2 < n by omega, show 3 < n by omega]
      have e0' : byt (frame k) 0 = 69 := rfl
      rw [if_neg (by omega), if_neg (by omega), if_pos (by omega)]
  unfold bad; rw [h1, if_pos (by omega)]
end Go.Proofs.Ythcedehppflcgab
