/-
  For all bytes, sides, addresses and ports, rentrolllaw.WireTurns returns true: Turn answers exactly what the document's own Turn says, errors too; no condition but the form's own reach.
-/
import Derived.Test.YthcedehppflcgabRows
import Derived.WalkKit
import Derived.ProofKit
import Derived.OpenShut
import Derived.ShutString
import Derived.SizedLaws
import Derived.Below
import Derived.Test.YthcedehppflcgabLawW
import Derived.Test.YthcedehppflcgabKeepW
import Derived.Test.YthcedehppflcgabRefPA
import Derived.Test.YthcedehppflcgabRefB
import Derived.Test.YthcedehppflcgabTurnM
import Derived.Test.YthcedehppflcgabTurn5
import Derived.Test.YthcedehppflcgabRefPM
namespace Go.Proofs.Ythcedehppflcgab
open Go.ChangeShapes Go.WideShapes Go.ChangeAt Go.RowKit
set_option linter.unusedSimpArgs false
set_option linter.unusedVariables false

theorem tot_hd' (p : Pkt) (n c : Int) (h0 : 0 ≤ c) (h1 : c ≤ 65535) : tot (hd p n c) = tot (hd p n 0) + c := by
  have e : ∀ c, tot (hd p n c) = tot ([69, 0] ++ w16 n ++ w16 p.id ++ w16 0 ++ [b8 p.ttl, b8 p.proto]) + (tot (w16 c) + tot (l32 p.src ++ l32 p.dst)) := fun c => by
    unfold hd
    rw [List.append_assoc, List.append_assoc, tot_append _ _ (by simp), tot_append _ (w16 c) (by simp)]
  rw [e c, e 0, w16_tot, w16_tot]; omega
theorem cut1 (l : List UInt8) (k : Nat) (h : k < l.length) : l.drop k = [b8 (byt l k)] ++ l.drop (k + 1) := by
  have e : b8 (byt l k) = l[k] := by
    unfold byt
    rw [List.getD_eq_getElem?_getD, List.getElem?_eq_getElem h]
    show b8 (l[k].toNat : Int) = l[k]
    have h1 := b8_nat (l[k].toNat : Int)
    have h2 := byte_bd l[k]
    exact UInt8.toNat_inj.1 (by omega)
  rw [List.drop_eq_getElem_cons h, e]; rfl
theorem cut2 (l : List UInt8) (k : Nat) (h : k + 1 < l.length) : l.drop k = w16 (wAt l k) ++ l.drop (k + 2) := by
  rw [w16_at l k h, ← List.drop_drop, List.take_append_drop]
theorem cut4 (l : List UInt8) (k : Nat) (h : k + 3 < l.length) : l.drop k = l32 (lAt l k) ++ l.drop (k + 4) := by
  rw [l32_at l k h, ← List.drop_drop, List.take_append_drop]
/-- the head of a frame, its fields read off. -/
theorem cut_head (l : List UInt8) (h : 20 ≤ l.length) (h0 : byt l 0 = 69) (h1 : byt l 1 = 0) (h6 : wAt l 6 = 0) (k : Pkt) (hi : k.id = wAt l 4) (ht : k.ttl = byt l 8) (hp : k.proto = byt l 9) (hs : k.src = lAt l 12) (hd' : k.dst = lAt l 16) :
    l = hd k (wAt l 2) (wAt l 10) ++ l.drop 20 := by
  have e : l = [b8 (byt l 0)] ++ ([b8 (byt l 1)] ++ (w16 (wAt l 2) ++ (w16 (wAt l 4) ++ (w16 (wAt l 6) ++ ([b8 (byt l 8)] ++ ([b8 (byt l 9)] ++ (w16 (wAt l 10) ++ (l32 (lAt l 12) ++ (l32 (lAt l 16) ++ l.drop 20))))))))) := by
    rw [← cut4 l 16 (by omega), ← cut4 l 12 (by omega), ← cut2 l 10 (by omega), ← cut1 l 9 (by omega), ← cut1 l 8 (by omega), ← cut2 l 6 (by omega), ← cut2 l 4 (by omega), ← cut2 l 2 (by omega), ← cut1 l 1 (by omega), ← cut1 l 0 (by omega)]; rfl
  rw [h0, h1, h6] at e
  unfold hd
  rw [hi, ht, hp, hs, hd']
  simp only [List.append_assoc, List.singleton_append, List.cons_append, List.nil_append]
  exact e
theorem pk_id (l : List UInt8) : (pktOf l).id = wAt l 4 := by unfold pktOf; split <;> (try split) <;> rfl
theorem pk_ttl (l : List UInt8) : (pktOf l).ttl = byt l 8 := by unfold pktOf; split <;> (try split) <;> rfl
theorem pk_src (l : List UInt8) : (pktOf l).src = lAt l 12 := by unfold pktOf; split <;> (try split) <;> rfl
theorem pk_dst (l : List UInt8) : (pktOf l).dst = lAt l 16 := by unfold pktOf; split <;> (try split) <;> rfl
theorem cut_part (l : List UInt8) (H : HeadOk l) (P : PartOk l (byt l 9)) : l.drop 20 = pt (pktOf l) (wAt l (chkAt (byt l 9))) ++ (pktOf l).body.data.toList ∧ partN (byt l 9) + (pktOf l).body.size = (l.length : Int) - 20 := by
  have hn := P.len
  rcases (kind_iff _).1 H.kind with hp | hp | hp
  · have e8 : partN (byt l 9) = 8 := by rw [hp]; rfl
    rw [e8] at hn
    have hb : (pktOf l).body = txt (l.drop 28) := by unfold pktOf; rw [if_pos hp]
    refine ⟨?_, by rw [e8, hb, txt_size, List.length_drop]; omega⟩
    have e : l.drop 20 = [b8 (byt l 20)] ++ ([b8 (byt l 21)] ++ (w16 (wAt l 22) ++ (w16 (wAt l 24) ++ (w16 (wAt l 26) ++ l.drop 28)))) := by
      rw [← cut2 l 26 (by omega), ← cut2 l 24 (by omega), ← cut2 l 22 (by omega), ← cut1 l 21 (by omega), ← cut1 l 20 (by omega)]
    rw [P.ping' hp] at e
    rw [hb, txt_list, e, show chkAt (byt l 9) = 22 by rw [hp]; rfl]
    unfold pt
    rw [if_pos (by rw [pkt_proto]; exact hp)]
    have f1 : (pktOf l).flags = byt l 20 := by unfold pktOf; rw [if_pos hp]
    have f2 : (pktOf l).seq = wAt l 26 := by unfold pktOf; rw [if_pos hp]
    have f3 : (pktOf l).sport + (pktOf l).dport = wAt l 24 := by
      unfold pktOf; rw [if_pos hp]
      show (if byt l 20 = 8 then wAt l 24 else 0) + (if byt l 20 = 8 then 0 else wAt l 24) = wAt l 24
      split <;> omega
    rw [f1, f2, f3]
    simp only [List.append_assoc, List.singleton_append, List.cons_append, List.nil_append]
    rfl
  · have e8 : partN (byt l 9) = 20 := by rw [hp]; rfl
    rw [e8] at hn
    have n1 : ¬ byt l 9 = 1 := by omega
    have hb : (pktOf l).body = txt (l.drop 40) := by unfold pktOf; rw [if_neg n1, if_pos hp]
    refine ⟨?_, by rw [e8, hb, txt_size, List.length_drop]; omega⟩
    have e : l.drop 20 = w16 (wAt l 20) ++ (w16 (wAt l 22) ++ (l32 (lAt l 24) ++ (l32 (lAt l 28) ++ ([b8 (byt l 32)] ++ ([b8 (byt l 33)] ++ (w16 (wAt l 34) ++ (w16 (wAt l 36) ++ (w16 (wAt l 38) ++ l.drop 40)))))))) := by
      rw [← cut2 l 38 (by omega), ← cut2 l 36 (by omega), ← cut2 l 34 (by omega), ← cut1 l 33 (by omega), ← cut1 l 32 (by omega), ← cut4 l 28 (by omega), ← cut4 l 24 (by omega), ← cut2 l 22 (by omega), ← cut2 l 20 (by omega)]
    rw [P.tcp1 hp, P.tcp3 hp] at e
    rw [hb, txt_list, e, show chkAt (byt l 9) = 36 by rw [hp]; rfl]
    unfold pt
    rw [if_neg (by rw [pkt_proto]; exact n1), if_neg (by rw [pkt_proto]; omega)]
    have f : (pktOf l).sport = wAt l 20 ∧ (pktOf l).dport = wAt l 22 ∧ (pktOf l).seq = lAt l 24 ∧ (pktOf l).ack = lAt l 28 ∧ (pktOf l).flags = byt l 33 ∧ (pktOf l).win = wAt l 34 := by
      unfold pktOf; rw [if_neg n1, if_pos hp]; exact ⟨rfl, rfl, rfl, rfl, rfl, rfl⟩
    obtain ⟨f1, f2, f3, f4, f5, f6⟩ := f
    rw [f1, f2, f3, f4, f5, f6]
    simp only [List.append_assoc, List.singleton_append, List.cons_append, List.nil_append]
    rfl
  · have e8 : partN (byt l 9) = 8 := by rw [hp]; rfl
    rw [e8] at hn
    have n1 : ¬ byt l 9 = 1 := by omega
    have n6 : ¬ byt l 9 = 6 := by omega
    have hb : (pktOf l).body = txt (l.drop 28) := by unfold pktOf; rw [if_neg n1, if_neg n6]
    have hz : partN (byt l 9) + (pktOf l).body.size = (l.length : Int) - 20 := by rw [e8, hb, txt_size, List.length_drop]; omega
    refine ⟨?_, hz⟩
    have e : l.drop 20 = w16 (wAt l 20) ++ (w16 (wAt l 22) ++ (w16 (wAt l 24) ++ (w16 (wAt l 26) ++ l.drop 28))) := by
      rw [← cut2 l 26 (by omega), ← cut2 l 24 (by omega), ← cut2 l 22 (by omega), ← cut2 l 20 (by omega)]
    rw [e, show chkAt (byt l 9) = 26 by rw [hp]; rfl]
    unfold pt
    rw [if_neg (by rw [pkt_proto]; exact n1), if_pos (by rw [pkt_proto]; exact hp)]
    have f : (pktOf l).sport = wAt l 20 ∧ (pktOf l).dport = wAt l 22 := by
      unfold pktOf; rw [if_neg n1, if_neg n6]; exact ⟨rfl, rfl⟩
    have f3 : 8 + ((pktOf l).body.size : Int) = wAt l 24 := by have := P.udp hp; omega
    rw [f.1, f.2, f3, hb, txt_list]
    simp only [List.append_assoc]
/-- a frame that is read as a packet. -/
theorem frame_of (l : List UInt8) (hb : bad l = 0) : l = fr (pktOf l) (wAt l 10) (wAt l (chkAt (byt l 9))) ∧ (wAt l 10 + tot (hd (pktOf l) (flen (pktOf l)) 0)) % 65535 = 0 ∧ (wAt l (chkAt (byt l 9)) + allP (pktOf l) 0) % 65535 = 0 := by
  obtain ⟨H, P, hg⟩ := bad_zero l hb
  obtain ⟨hc, hz⟩ := cut_part l H P
  have hlen : wAt l 2 = flen (pktOf l) := by
    unfold flen; rw [pkt_proto, H.size]; omega
  have hh := cut_head l H.len H.mark H.serv H.piece (pktOf l) (pk_id l) (pk_ttl l) (pkt_proto l) (pk_src l) (pk_dst l)
  rw [hlen] at hh
  have e : l = fr (pktOf l) (wAt l 10) (wAt l (chkAt (byt l 9))) := by
    unfold fr; rw [← hc]; exact hh
  have w1 := wAt_bd l 10
  have w2 := wAt_bd l (chkAt (byt l 9))
  refine ⟨e, ?_, ?_⟩
  · have h20 : l.take 20 = hd (pktOf l) (flen (pktOf l)) (wAt l 10) := by
      have := congrArg (List.take 20) hh
      rw [this, List.take_left' (by rfl)]
    have hs := H.sum
    rw [h20, tot_hd' _ _ _ w1.1 w1.2] at hs
    have := bk_mod (tot (hd (pktOf l) (flen (pktOf l)) 0) + wAt l 10)
    rw [hs] at this
    omega
  · have hs := P.sum
    rw [← ps_chkd l _ H.len, hc] at hs
    have ha : tot (ps (lAt l 12) (lAt l 16) (byt l 9) ((l.length : Int) - 20) ++ (pt (pktOf l) (wAt l (chkAt (byt l 9))) ++ (pktOf l).body.data.toList)) = allP (pktOf l) (wAt l (chkAt (byt l 9))) := by
      unfold allP; rw [pk_src, pk_dst, pkt_proto, hz]
    rw [ha, allP_eq _ _ w2.1 w2.2] at hs
    have := bk_mod (allP (pktOf l) 0 + wAt l (chkAt (byt l 9)))
    rw [hs] at this
    omega
theorem turnS_no (l : List UInt8) (side addr port e : Int) (h : turnE l side addr port = e) (he : e ≠ 0) : turnS l side addr port = ByteArray.empty := by unfold turnS; rw [if_neg (by omega)]
theorem turnS_yes (l : List UInt8) (side addr port : Int) (hb : bad l = 0) (h : turnE l side addr port = 0) (hs : side = 0 ∨ side = 1) (ha : 0 ≤ addr ∧ addr ≤ 4294967295) (hp : 0 ≤ port ∧ port ≤ 65535) (ht : (pktOf l).ttl ≠ 1) (hf : (pktOf l).proto = 1 → ((pktOf l).flags == 8) = (side == 0)) :
    turnS l side addr port = built (turned (pktOf l) side addr port) ∧ good (turned (pktOf l) side addr port) = 0 := by
  obtain ⟨H, P, hg⟩ := bad_zero l hb
  obtain ⟨e, m1, m2⟩ := frame_of l hb
  have w1 := wAt_bd l 10
  have w2 := wAt_bd l (chkAt (byt l 9))
  have hg2 := turned_good (pktOf l) side addr port hg hs ha hp ht hf
  have := spun_frame (pktOf l) _ _ side addr port hg hs ha hp ht hf w1.1 w1.2 w2.1 w2.2 m1 m2
  rw [← e] at this
  refine ⟨?_, hg2⟩
  rw [built_ok _ hg2]
  unfold turnS
  rw [if_pos h, this]
set_option maxRecDepth 10000 in
set_option maxHeartbeats 8000000 in
theorem tref_any (s : ByteArray) (side addr port : Int) (w : World) (hs : s.size ≤ 140737488351232) :
    Calls Try.prog 13 #[.string s, .int .i64 side, .int .i64 addr, .int .i64 port] w fun e w' => e = .returned (.tuple #[.string (turnS s.data.toList side addr port), .int .i64 (turnE s.data.toList side addr port)]) ∧ Below w.heap.size w w' := by
  have C1 := fun w => pref_any s w hs
  have hB := Below.refl w.heap.size w
  by_cases hb : bad s.data.toList = 0
  rotate_left
  · have HE : Hid (turnE s.data.toList side addr port = bad s.data.toList) := by show _ = _; unfold turnE; rw [if_pos hb]
    have HS : Hid (turnS s.data.toList side addr port = ByteArray.empty) := turnS_no _ _ _ _ _ HE.out hb
    generalize parsed s.data.toList = k at *
    generalize bad s.data.toList = e0 at *
    have hne : (e0 != 0) = true := by simpa using hb
    clear hb
    unfold pv at *
    go_enter Try.func13, Try.ntmps13
    go_wp2_with (go_at_call 10; go_fit (C1 _); rintro e w3 ⟨rfl, hb⟩; replace hB := hB.trans (hb.mono hB.size))
    go_ret2
    exact ⟨by rw [HE.out, HS.out]; rfl, hB.alloc hB.size _⟩
  have hk : parsed s.data.toList = pktOf s.data.toList := by unfold parsed; rw [if_pos hb]
  rw [hb, hk] at C1
  have Y := turnS_yes s.data.toList side addr port hb
  obtain ⟨_, _, hg⟩ := bad_zero s.data.toList hb
  obtain ⟨hkd, hr, hbd, hfm⟩ := good_zero (pktOf s.data.toList) hg
  have RR := (range_iff (pktOf s.data.toList)).1 hr
  have FF := (form_iff (pktOf s.data.toList)).1 hfm
  have ht1 : 1 ≤ (pktOf s.data.toList).ttl ∧ (pktOf s.data.toList).ttl ≤ 255 := by omega
  have hE0 : turnE s.data.toList side addr port = if side ≠ 0 ∧ side ≠ 1 then 2 else if longB addr = false then 2 else if wordB' port = false then 2 else if (pktOf s.data.toList).ttl = 1 then 12 else if (pktOf s.data.toList).proto = 1 ∧ ((pktOf s.data.toList).flags == 8) ≠ (side == 0) then 4 else 0 := by
    unfold turnE; rw [if_neg (by omega)]
  by_cases hin : (0 ≤ side ∧ side ≤ 1) ∧ (0 ≤ addr ∧ addr ≤ 4294967295) ∧ (0 ≤ port ∧ port ≤ 65535)
  rotate_left
  · have HE : Hid (turnE s.data.toList side addr port = 2) := by
      show _ = _
      rw [hE0]
      by_cases q1 : side ≠ 0 ∧ side ≠ 1
      · rw [if_pos q1]
      rw [if_neg q1]
      by_cases q2 : longB addr = false
      · rw [if_pos q2]
      rw [if_neg q2]
      by_cases q3 : wordB' port = false
      · rw [if_pos q3]
      exfalso
      apply hin
      have a2 : 0 ≤ addr ∧ addr ≤ 4294967295 := of_decide_eq_true (by unfold longB at q2; simpa using q2)
      have a3 : 0 ≤ port ∧ port ≤ 65535 := of_decide_eq_true (by unfold wordB' at q3; simpa using q3)
      omega
    have HS : Hid (turnS s.data.toList side addr port = ByteArray.empty) := turnS_no _ _ _ _ _ HE.out (by omega)
    clear Y hE0 hk hb hg hkd hr hbd hfm RR FF ht1
    generalize pktOf s.data.toList = k at *
    unfold pv at *
    by_cases t0 : side < 0
    · clear hin
      go_enter Try.func13, Try.ntmps13
      go_wp2_with (go_at_call 10; go_fit (C1 _); rintro e w3 ⟨rfl, hb⟩; replace hB := hB.trans (hb.mono hB.size))
      go_ret2
      exact ⟨by rw [HE.out, HS.out]; rfl, hB.alloc hB.size _⟩
    have g0 : 0 ≤ side := by omega
    clear t0
    by_cases t1 : 1 < side
    · clear hin
      go_enter Try.func13, Try.ntmps13
      go_wp2_with (go_at_call 10; go_fit (C1 _); rintro e w3 ⟨rfl, hb⟩; replace hB := hB.trans (hb.mono hB.size))
      go_ret2
      exact ⟨by rw [HE.out, HS.out]; rfl, hB.alloc hB.size _⟩
    have g1 : side ≤ 1 := by omega
    clear t1
    by_cases t2 : addr < 0
    · clear hin
      go_enter Try.func13, Try.ntmps13
      go_wp2_with (go_at_call 10; go_fit (C1 _); rintro e w3 ⟨rfl, hb⟩; replace hB := hB.trans (hb.mono hB.size))
      go_ret2
      exact ⟨by rw [HE.out, HS.out]; rfl, hB.alloc hB.size _⟩
    have g2 : 0 ≤ addr := by omega
    clear t2
    by_cases t3 : 4294967295 < addr
    · clear hin
      go_enter Try.func13, Try.ntmps13
      go_wp2_with (go_at_call 10; go_fit (C1 _); rintro e w3 ⟨rfl, hb⟩; replace hB := hB.trans (hb.mono hB.size))
      go_ret2
      exact ⟨by rw [HE.out, HS.out]; rfl, hB.alloc hB.size _⟩
    have g3 : addr ≤ 4294967295 := by omega
    clear t3
    by_cases t4 : port < 0
    · clear hin
      go_enter Try.func13, Try.ntmps13
      go_wp2_with (go_at_call 10; go_fit (C1 _); rintro e w3 ⟨rfl, hb⟩; replace hB := hB.trans (hb.mono hB.size))
      go_ret2
      exact ⟨by rw [HE.out, HS.out]; rfl, hB.alloc hB.size _⟩
    have g4 : 0 ≤ port := by omega
    clear t4
    have t5 : 65535 < port := by omega
    clear hin
    go_enter Try.func13, Try.ntmps13
    go_wp2_with (go_at_call 10; go_fit (C1 _); rintro e w3 ⟨rfl, hb⟩; replace hB := hB.trans (hb.mono hB.size))
    go_ret2
    exact ⟨by rw [HE.out, HS.out]; rfl, hB.alloc hB.size _⟩
  obtain ⟨⟨s0, s1⟩, ha, hp⟩ := hin
  have hsd : side = 0 ∨ side = 1 := by omega
  have g2 : 0 ≤ addr := ha.1
  have g3 : addr ≤ 4294967295 := ha.2
  have g4 : 0 ≤ port := hp.1
  have g5 : port ≤ 65535 := hp.2
  have hl1 : longB addr = true := by unfold longB; exact decide_eq_true ha
  have hw1 : wordB' port = true := by unfold wordB'; exact decide_eq_true hp
  rw [if_neg (by omega), if_neg (by simp [hl1]), if_neg (by simp [hw1])] at hE0
  clear hl1 hw1
  by_cases ht : (pktOf s.data.toList).ttl = 1
  · have HE : Hid (turnE s.data.toList side addr port = 12) := by show _ = _; rw [hE0, if_pos ht]
    have HS : Hid (turnS s.data.toList side addr port = ByteArray.empty) := turnS_no _ _ _ _ _ HE.out (by omega)
    clear Y hE0 hk hb hg hkd hr hbd hfm RR FF ht1 ha hp hsd
    generalize pktOf s.data.toList = k at *
    have ht2 : k.ttl < 2 := by omega
    clear ht
    unfold pv at *
    go_enter Try.func13, Try.ntmps13
    go_wp2_with (go_at_call 10; go_fit (C1 _); rintro e w3 ⟨rfl, hb⟩; replace hB := hB.trans (hb.mono hB.size))
    go_ret2
    exact ⟨by rw [HE.out, HS.out]; rfl, hB.alloc hB.size _⟩
  rw [if_neg ht] at hE0
  have ht2 : 2 ≤ (pktOf s.data.toList).ttl := by omega
  by_cases hkk : (pktOf s.data.toList).proto = 1 ∧ ((pktOf s.data.toList).flags == 8) ≠ (side == 0)
  · have HE : Hid (turnE s.data.toList side addr port = 4) := by show _ = _; rw [hE0, if_pos hkk]
    have HS : Hid (turnS s.data.toList side addr port = ByteArray.empty) := turnS_no _ _ _ _ _ HE.out (by omega)
    have hfs : ((pktOf s.data.toList).flags = 8 ∧ side = 1) ∨ ((pktOf s.data.toList).flags = 0 ∧ side = 0) := by
      obtain ⟨p1, p2⟩ := hkk
      have := (FF.1 p1).1
      rcases hsd with rfl | rfl <;> rcases this with q | q <;> simp_all
    have hp1 : ((pktOf s.data.toList).proto == 1) = true := by simpa using hkk.1
    clear Y hE0 hk hb hg hkd hr hbd hfm RR FF ht1 ha hp hsd ht hkk
    generalize pktOf s.data.toList = k at *
    unfold pv at *
    rcases hfs with ⟨q, rfl⟩ | ⟨q, rfl⟩
    · have d1 : (k.flags == 8) = true := by simpa using q
      clear q
      go_enter Try.func13, Try.ntmps13
      go_wp2_with (go_at_call 10; go_fit (C1 _); rintro e w3 ⟨rfl, hb⟩; replace hB := hB.trans (hb.mono hB.size))
      go_ret2
      exact ⟨by rw [HE.out, HS.out]; rfl, hB.alloc hB.size _⟩
    · have d1 : (k.flags == 8) = false := by rw [q]; rfl
      have d2 : (k.flags == 0) = true := by simpa using q
      clear q
      go_enter Try.func13, Try.ntmps13
      go_wp2_with (go_at_call 10; go_fit (C1 _); rintro e w3 ⟨rfl, hb⟩; replace hB := hB.trans (hb.mono hB.size))
      go_ret2
      exact ⟨by rw [HE.out, HS.out]; rfl, hB.alloc hB.size _⟩
  rw [if_neg hkk] at hE0
  have hf : (pktOf s.data.toList).proto = 1 → ((pktOf s.data.toList).flags == 8) = (side == 0) := fun h => by
    by_cases q : ((pktOf s.data.toList).flags == 8) = (side == 0)
    · exact q
    · exact absurd ⟨h, q⟩ hkk
  obtain ⟨Y1, Y2⟩ := Y hE0 hsd ha hp ht hf
  have HE : Hid (turnE s.data.toList side addr port = 0) := hE0
  have HS : Hid (turnS s.data.toList side addr port = built (turned (pktOf s.data.toList) side addr port)) := Y1
  have hps : ((pktOf s.data.toList).proto == 1) = true → ((pktOf s.data.toList).flags = 8 ∧ side = 0) ∨ ((pktOf s.data.toList).flags = 0 ∧ side = 1) := fun h => by
    have h1 : (pktOf s.data.toList).proto = 1 := by simpa using h
    have := (FF.1 h1).1
    have h2 := hf h1
    rcases hsd with rfl | rfl <;> rcases this with q | q <;> simp_all
  have hbs : (pktOf s.data.toList).body.size ≤ 140737488351232 := by omega
  have htb : (turned (pktOf s.data.toList) side addr port).ttl = (pktOf s.data.toList).ttl - 1 ∧ (turned (pktOf s.data.toList) side addr port).body = (pktOf s.data.toList).body := by unfold turned; split <;> exact ⟨rfl, rfl⟩
  have CB : ∀ w, Calls Try.prog 36 #[pv (turned (pktOf s.data.toList) side addr port)] w fun e w' => e = .returned (.tuple #[.string (built (turned (pktOf s.data.toList) side addr port)), .int .i64 0]) ∧ Below w.heap.size w w' := fun w => by
    have := bref_any (turned (pktOf s.data.toList) side addr port) w (by rw [htb.2]; exact hbs) (by rw [htb.1]; omega)
    rw [Y2] at this; exact this
  clear hE0 hk hb hg hkd hr hbd hfm RR FF ha hp ht hkk hf Y1 Y2 hbs htb Y
  generalize hbu : built (turned (pktOf s.data.toList) side addr port) = bu at *
  clear hbu
  generalize pktOf s.data.toList = k at *
  have hw2 : wrap64 (k.ttl - 1) = k.ttl - 1 := by unfold wrap64; omega
  unfold turned pv at *
  rcases hsd with rfl | rfl
  · have CB' : ∀ w, Calls Try.prog 36 #[.agg #[.int .i64 k.proto, .int .i64 addr, .int .i64 port, .int .i64 k.dst, .int .i64 k.dport, .int .i64 (k.ttl - 1), .int .i64 k.id, .int .i64 k.flags, .int .i64 k.seq, .int .i64 k.ack, .int .i64 k.win, .string k.body]] w fun e w' => e = .returned (.tuple #[.string bu, .int .i64 0]) ∧ Below w.heap.size w w' := fun w => by
      have := CB w
      rw [if_pos rfl] at this
      exact this
    clear CB
    by_cases hp1 : k.proto = 1
    · have d0 : (k.proto == 1) = true := by simpa using hp1
      have q : k.flags = 8 := by rcases hps d0 with ⟨q, h⟩ | ⟨q, h⟩ <;> first | exact q | omega
      clear hps hp1
      have d1 : (k.flags == 8) = true := by rw [q]; rfl
      have d2 : (k.flags == 0) = false := by rw [q]; rfl
      clear q
      go_enter Try.func13, Try.ntmps13
      go_wp2_with (first | (go_at_call 10; go_fit (C1 _); rintro e w3 ⟨rfl, hb⟩; replace hB := hB.trans (hb.mono hB.size)) | (go_at_call 36; go_fit (CB' _); rintro e w4 ⟨rfl, hb⟩; replace hB := below_next hB (by have := hB.size; omega) hb))
      go_ret2
      exact ⟨by rw [HE.out, HS.out]; rfl, hB⟩
    · have d0 : (k.proto == 1) = false := by simpa using hp1
      clear hps hp1
      go_enter Try.func13, Try.ntmps13
      go_wp2_with (first | (go_at_call 10; go_fit (C1 _); rintro e w3 ⟨rfl, hb⟩; replace hB := hB.trans (hb.mono hB.size)) | (go_at_call 36; go_fit (CB' _); rintro e w4 ⟨rfl, hb⟩; replace hB := below_next hB (by have := hB.size; omega) hb))
      go_ret2
      exact ⟨by rw [HE.out, HS.out]; rfl, hB⟩
  · have CB' : ∀ w, Calls Try.prog 36 #[.agg #[.int .i64 k.proto, .int .i64 k.src, .int .i64 k.sport, .int .i64 addr, .int .i64 port, .int .i64 (k.ttl - 1), .int .i64 k.id, .int .i64 k.flags, .int .i64 k.seq, .int .i64 k.ack, .int .i64 k.win, .string k.body]] w fun e w' => e = .returned (.tuple #[.string bu, .int .i64 0]) ∧ Below w.heap.size w w' := fun w => by
      have := CB w
      rw [if_neg (by omega)] at this
      exact this
    clear CB
    by_cases hp1 : k.proto = 1
    · have d0 : (k.proto == 1) = true := by simpa using hp1
      have q : k.flags = 0 := by rcases hps d0 with ⟨q, h⟩ | ⟨q, h⟩ <;> first | exact q | omega
      clear hps hp1
      have d1 : (k.flags == 8) = false := by rw [q]; rfl
      have d2 : (k.flags == 0) = true := by rw [q]; rfl
      clear q
      go_enter Try.func13, Try.ntmps13
      go_wp2_with (first | (go_at_call 10; go_fit (C1 _); rintro e w3 ⟨rfl, hb⟩; replace hB := hB.trans (hb.mono hB.size)) | (go_at_call 36; go_fit (CB' _); rintro e w4 ⟨rfl, hb⟩; replace hB := below_next hB (by have := hB.size; omega) hb))
      go_ret2
      exact ⟨by rw [HE.out, HS.out]; rfl, hB⟩
    · have d0 : (k.proto == 1) = false := by simpa using hp1
      clear hps hp1
      go_enter Try.func13, Try.ntmps13
      go_wp2_with (first | (go_at_call 10; go_fit (C1 _); rintro e w3 ⟨rfl, hb⟩; replace hB := hB.trans (hb.mono hB.size)) | (go_at_call 36; go_fit (CB' _); rintro e w4 ⟨rfl, hb⟩; replace hB := below_next hB (by have := hB.size; omega) hb))
      go_ret2
      exact ⟨by rw [HE.out, HS.out]; rfl, hB⟩
end Go.Proofs.Ythcedehppflcgab
namespace Go.Proofs.Ythcedehppflcgab.wireTurns
open Go.ChangeShapes Go.WideShapes Go.ChangeAt Go.RowKit
open Go.ChangeMaps (open_string shut_string)
set_option linter.unusedVariables false
set_option linter.unusedSimpArgs false

theorem own : ownKnob Try.prog.godebug = none := by kernel_rfl

set_option maxHeartbeats 4000000 in
theorem walk (a0 : ByteArray) (a1 : Int) (a2 : Int) (a3 : Int) (w0 : a0.size ≤ 140737488351232) (w1 : (Lit.int .i64 a1).wf = true) (w2 : (Lit.int .i64 a2).wf = true) (w3 : (Lit.int .i64 a3).wf = true) (w : World) :
    Calls Try.prog 4 #[.string a0, .int .i64 a1, .int .i64 a2, .int .i64 a3] w fun e w' => e = .returned (.bool true) ∧ Below w.heap.size w w' := by
  have C1 := fun w => turn_any a0 a1 a2 a3 w w0
  have C2 := fun w => tref_any a0 a1 a2 a3 w w0
  generalize turnS a0.data.toList a1 a2 a3 = t0 at *
  generalize turnE a0.data.toList a1 a2 a3 = e0 at *
  have hB := Below.refl w.heap.size w
  go_enter Try.func4, Try.ntmps4
  go_wp2_with (first
    | (go_at_call 12; go_fit (C1 _); rintro e w3 ⟨rfl, hb⟩; replace hB := hB.trans (hb.mono hB.size))
    | (go_at_call 13; go_fit (C2 _); rintro e w4 ⟨rfl, hb⟩; replace hB := hB.trans (hb.mono hB.size))
    | (go_at_call 11; refine (buildsLaw_any _).mono ?_; rintro e w5 ⟨rfl, hb⟩; replace hB := hB.trans (hb.mono hB.size)))
  go_ret
  exact ⟨rfl, hB⟩

set_option maxRecDepth 100000 in
theorem lifted (os : Os) (started : os.Started) (H : Type) (enc : TypeId × Value → H) :
    ReturnsInHanded {} Try.checked os 4 .any (Rows.wireTurnsSpec.pre6 enc Try.prog Try.f4 Rows.wireTurnsRow.domain false) (Rows.wireTurnsSpec.post enc Try.prog Try.f4 false true false false) := by
  refine returnsInHanded_of_change_sized (C := Try.checked) own started (by kernel_rfl) Try.func4
    (ChangeSpec.witness6 (enc := enc) (C := Try.checked) false ⟨#[], #[.string ByteArray.empty, .int .i64 0, .int .i64 0, .int .i64 0], []⟩ 8 (by kernel_rfl) (by kernel_rfl) (by kernel_rfl) (by kernel_rfl)) ?_
  intro W base args ds gs before hval0 hW hcnd hsz0 _
  have hval : ∀ (j : Nat) t v, Try.f4.params[j]? = some t → args[j]? = some v → Value.okWide Try.prog W .any base t v := hval0
  have hW' := hW
  obtain ⟨p, q, hA0, hV, rfl, hfz, hnd⟩ := hW
  have hA : DataW.TrodAll enc Try.prog W 0 (fun _ => true) true Try.f4.params.toList args.toList ds p := hA0
  have hsz : (DataW.weightsEach Try.prog (Try.f4.params.toList ++ Rows.wireTurnsSpec.plain.varTypes Try.prog) (ds ++ gs)).all (· ≤ reachBytes) = true := hsz0
  rw [Try.params4] at hA hval hsz
  obtain ⟨v0, vs0, d0, ds0, p0, q0, hargs, rfl, rfl, h0, r0⟩ := trodAll_cons hA
  obtain ⟨v1, vs1, d1, ds1, p1, q1, rfl, rfl, rfl, h1, r1⟩ := trodAll_cons r0
  obtain ⟨v2, vs2, d2, ds2, p2, q2, rfl, rfl, rfl, h2, r2⟩ := trodAll_cons r1
  obtain ⟨v3, vs3, d3, ds3, p3, q3, rfl, rfl, rfl, h3, r3⟩ := trodAll_cons r2
  obtain ⟨rfl, rfl, rfl⟩ := trodAll_nil r3
  obtain rfl : args = #[v0, v1, v2, v3] := by cases args; simp_all
  obtain ⟨rfl, rfl⟩ := trodVars_none hV
  obtain ⟨a0, rfl, rfl, rfl, m0⟩ := open_string Try.underlying9 (hval 0 9 v0 rfl rfl) h0
  obtain ⟨a1, rfl, rfl, rfl, w1⟩ := open_int Try.underlying3 (hval 1 3 v1 rfl rfl) h1
  obtain ⟨a2, rfl, rfl, rfl, w2⟩ := open_int Try.underlying3 (hval 2 3 v2 rfl rfl) h2
  obtain ⟨a3, rfl, rfl, rfl, w3⟩ := open_int Try.underlying3 (hval 3 3 v3 rfl rfl) h3
  have w0 : a0.size ≤ 140737488351232 := by
    have := sized_string hsz (j := 0) (t := 9) rfl rfl
    simpa [reachBytes] using this
  clear hA0 hval0
  simp only [List.append_nil] at hW'
  refine (walk a0 a1 a2 a3 w0 w1 w2 w3 W).mono fun e W' ⟨he, bel⟩ => ?_
  subst he
  exact ⟨_, rfl, _, _, _, [], [], [], hW', trodAll_mk1 (shut_bool Try.underlying4 _), (trodAll_cons_mk (shut_string Try.underlying9 m0) (trodAll_cons_mk (shut_int Try.underlying3 w1) (trodAll_cons_mk (shut_int Try.underlying3 w2) (trodAll_cons_mk (shut_int Try.underlying3 w3) trodAll_mk0)))), rfl, bel.frame _, fun h => by cases h⟩

theorem over : Rows.wireTurnsRow.holds Try.pinned (OpenSpec.ofChange Rows.wireTurnsSpec) :=
  OpenClaim.holds_of_wide 4 Try.f4 rfl rfl rfl rfl rfl rfl rfl ⟨rfl, rfl, rfl, rfl, rfl⟩ rfl rfl rfl rfl rfl (by kernel_rfl) Try.func4 (by kernel_rfl)
    (of_decide_eq_true (by kernel_rfl)) (by unfold Func.isWrapper; first | (rw [if_pos (by decide +kernel)]; kernel_rfl) | (rw [if_neg (by decide +kernel)]; exact ⟨rfl, rfl⟩))
    (fun os started H enc _ => lifted os started H enc)

end Go.Proofs.Ythcedehppflcgab.wireTurns
namespace Go.Proofs.Ythcedehppflcgab
theorem wireTurns_holds : Rows.WireTurnsSaid := wireTurns.over
#print axioms wireTurns_holds
end Go.Proofs.Ythcedehppflcgab
