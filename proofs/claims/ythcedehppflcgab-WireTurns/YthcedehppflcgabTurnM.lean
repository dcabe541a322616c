/-
  The plain mathematics of words of a frame that change, and of its checks: a frame turned on the spot is the one built anew.
-/
import Derived.Test.YthcedehppflcgabTurn4
import Derived.Test.YthcedehppflcgabReads
namespace Go.Proofs.Ythcedehppflcgab
open Go.RowKit

theorem upd_mod (c m n : Int) (c0 : 0 ≤ c) (c1 : c ≤ 65535) (m0 : 0 ≤ m) (m1 : m ≤ 65535) (n0 : 0 ≤ n) (n1 : n ≤ 65535) : upd c m n % 65535 = (c + m - n) % 65535 := by
  unfold upd
  rw [show c % 65536 = c by omega, show m % 65536 = m by omega, show n % 65536 = n by omega]
  have h1 := bk_mod (65535 - c + (65535 - m))
  have h2 := bk_mod (bk (65535 - c + (65535 - m)) + n)
  omega
theorem upd_bd (c m n : Int) : 0 ≤ upd c m n ∧ upd c m n ≤ 65535 := by
  unfold upd
  have := bk_bd (bk (65535 - c % 65536 + (65535 - m % 65536)) + n % 65536); omega
theorem upd_lt (c m n : Int) (c0 : 0 ≤ c) (c1 : c ≤ 65535) (m0 : 0 ≤ m) (m1 : m ≤ 65535) (n0 : 0 ≤ n) (n1 : n ≤ 65535) (h : 0 < n ∨ c < 65535) : upd c m n ≤ 65534 := by
  unfold upd
  rw [show c % 65536 = c by omega, show m % 65536 = m by omega, show n % 65536 = n by omega]
  have h1 := bk_bd (65535 - c + (65535 - m))
  have h2 := bk_zero (65535 - c + (65535 - m))
  have h3 := bk_pos (bk (65535 - c + (65535 - m)) + n) (by omega)
  omega
/-- the frame's words that change. -/
theorem setW_ttl (k : Pkt) (c1 c2 : Int) : setW (fr k c1 c2) 8 (k.ttl * 256 + k.proto - 256) = fr { k with ttl := k.ttl - 1 } c1 c2 ∨ ¬ (0 ≤ k.proto ∧ k.proto ≤ 255) := by
  by_cases h : 0 ≤ k.proto ∧ k.proto ≤ 255
  · left
    have e1 : b8 ((k.ttl * 256 + k.proto - 256) / 256) = b8 (k.ttl - 1) := b8_eq _ _ (by omega)
    have e2 : b8 (k.ttl * 256 + k.proto - 256) = b8 k.proto := b8_eq _ _ (by omega)
    unfold setW
    rw [e1, e2]; rfl
  · exact .inr h
theorem setW_src1 (k : Pkt) (c1 c2 a : Int) : setW (fr k c1 c2) 12 a = fr { k with src := a * 65536 + k.src % 65536 } c1 c2 := by
  have e1 : b8 (a / 256) = b8 ((a * 65536 + k.src % 65536) / 65536 / 256) := b8_eq _ _ (by omega)
  have e2 : b8 a = b8 ((a * 65536 + k.src % 65536) / 65536) := b8_eq _ _ (by omega)
  have e3 : b8 (k.src / 256) = b8 ((a * 65536 + k.src % 65536) / 256) := b8_eq _ _ (by omega)
  have e4 : b8 k.src = b8 (a * 65536 + k.src % 65536) := b8_eq _ _ (by omega)
  have E : fr { k with src := a * 65536 + k.src % 65536 } c1 c2 = (hd { k with src := a * 65536 + k.src % 65536 } (flen k) c1) ++ (pt k c2 ++ k.body.data.toList) := rfl
  rw [E]
  unfold setW fr hd l32 w16
  simp only [List.cons_append, List.nil_append, List.set_cons_succ, List.set_cons_zero, e1, e2, e3, e4]

theorem setW_src2 (k : Pkt) (c1 c2 a : Int) (h0 : 0 ≤ a) (h1 : a ≤ 65535) : setW (fr k c1 c2) 14 a = fr { k with src := k.src / 65536 * 65536 + a } c1 c2 := by
  have e1 : b8 (k.src / 65536 / 256) = b8 ((k.src / 65536 * 65536 + a) / 65536 / 256) := b8_eq _ _ (by omega)
  have e2 : b8 (k.src / 65536) = b8 ((k.src / 65536 * 65536 + a) / 65536) := b8_eq _ _ (by omega)
  have e3 : b8 (a / 256) = b8 ((k.src / 65536 * 65536 + a) / 256) := b8_eq _ _ (by omega)
  have e4 : b8 a = b8 (k.src / 65536 * 65536 + a) := b8_eq _ _ (by omega)
  have E : fr { k with src := k.src / 65536 * 65536 + a } c1 c2 = (hd { k with src := k.src / 65536 * 65536 + a } (flen k) c1) ++ (pt k c2 ++ k.body.data.toList) := rfl
  rw [E]
  unfold setW fr hd l32 w16
  simp only [List.cons_append, List.nil_append, List.set_cons_succ, List.set_cons_zero, e1, e2, e3, e4]
theorem setW_dst1 (k : Pkt) (c1 c2 a : Int) : setW (fr k c1 c2) 16 a = fr { k with dst := a * 65536 + k.dst % 65536 } c1 c2 := by
  have e1 : b8 (a / 256) = b8 ((a * 65536 + k.dst % 65536) / 65536 / 256) := b8_eq _ _ (by omega)
  have e2 : b8 a = b8 ((a * 65536 + k.dst % 65536) / 65536) := b8_eq _ _ (by omega)
  have e3 : b8 (k.dst / 256) = b8 ((a * 65536 + k.dst % 65536) / 256) := b8_eq _ _ (by omega)
  have e4 : b8 k.dst = b8 (a * 65536 + k.dst % 65536) := b8_eq _ _ (by omega)
  have E : fr { k with dst := a * 65536 + k.dst % 65536 } c1 c2 = (hd { k with dst := a * 65536 + k.dst % 65536 } (flen k) c1) ++ (pt k c2 ++ k.body.data.toList) := rfl
  rw [E]
  unfold setW fr hd l32 w16
  simp only [List.cons_append, List.nil_append, List.set_cons_succ, List.set_cons_zero, e1, e2, e3, e4]
theorem setW_dst2 (k : Pkt) (c1 c2 a : Int) (h0 : 0 ≤ a) (h1 : a ≤ 65535) : setW (fr k c1 c2) 18 a = fr { k with dst := k.dst / 65536 * 65536 + a } c1 c2 := by
  have e1 : b8 (k.dst / 65536 / 256) = b8 ((k.dst / 65536 * 65536 + a) / 65536 / 256) := b8_eq _ _ (by omega)
  have e2 : b8 (k.dst / 65536) = b8 ((k.dst / 65536 * 65536 + a) / 65536) := b8_eq _ _ (by omega)
  have e3 : b8 (a / 256) = b8 ((k.dst / 65536 * 65536 + a) / 256) := b8_eq _ _ (by omega)
  have e4 : b8 a = b8 (k.dst / 65536 * 65536 + a) := b8_eq _ _ (by omega)
  have E : fr { k with dst := k.dst / 65536 * 65536 + a } c1 c2 = (hd { k with dst := k.dst / 65536 * 65536 + a } (flen k) c1) ++ (pt k c2 ++ k.body.data.toList) := rfl
  rw [E]
  unfold setW fr hd l32 w16
  simp only [List.cons_append, List.nil_append, List.set_cons_succ, List.set_cons_zero, e1, e2, e3, e4]
theorem setW_sport (k : Pkt) (c1 c2 a : Int) (h : k.proto ≠ 1) : setW (fr k c1 c2) 20 a = fr { k with sport := a } c1 c2 := by
  unfold setW fr pt
  simp only [h, if_false]
  split <;> rfl
theorem setW_dport (k : Pkt) (c1 c2 a : Int) (h : k.proto ≠ 1) : setW (fr k c1 c2) 22 a = fr { k with dport := a } c1 c2 := by
  unfold setW fr pt
  simp only [h, if_false]
  split <;> rfl
theorem setW_ping0 (k : Pkt) (c1 c2 a : Int) (h : k.proto = 1) (hd0 : k.dport = 0) : setW (fr k c1 c2) 24 a = fr { k with sport := a } c1 c2 := by
  have E : fr { k with sport := a } c1 c2 = hd k (flen k) c1 ++ (([b8 k.flags, 0] ++ w16 c2 ++ w16 (a + k.dport) ++ w16 k.seq) ++ k.body.data.toList) := by
    show hd k (flen k) c1 ++ (pt { k with sport := a } c2 ++ k.body.data.toList) = _
    unfold pt; rw [if_pos h]
  rw [E, hd0, Int.add_zero]
  unfold setW fr pt
  rw [if_pos h]
  rfl
theorem setW_ping1 (k : Pkt) (c1 c2 a : Int) (h : k.proto = 1) (hd0 : k.sport = 0) : setW (fr k c1 c2) 24 a = fr { k with dport := a } c1 c2 := by
  have E : fr { k with dport := a } c1 c2 = hd k (flen k) c1 ++ (([b8 k.flags, 0] ++ w16 c2 ++ w16 (k.sport + a) ++ w16 k.seq) ++ k.body.data.toList) := by
    show hd k (flen k) c1 ++ (pt { k with dport := a } c2 ++ k.body.data.toList) = _
    unfold pt; rw [if_pos h]
  rw [E, hd0, Int.zero_add]
  unfold setW fr pt
  rw [if_pos h]
  rfl

theorem two_mod (x : Int) : ((b8 (x / 256)).toNat : Int) * 256 + ((b8 x).toNat : Int) = x % 65536 := by rw [b8_nat, b8_nat]; omega
section
variable (k : Pkt) (c1 c2 : Int)
theorem rd_ttl : wAt (fr k c1 c2) 8 = k.ttl % 256 * 256 + k.proto % 256 := by rw [← b8_nat, ← b8_nat]; rfl
theorem rd_c1 (h0 : 0 ≤ c1) (h1 : c1 ≤ 65535) : wAt (fr k c1 c2) 10 = c1 := (two_mod c1).trans (by omega)
theorem rd_src1 : wAt (fr k c1 c2) 12 = k.src / 65536 % 65536 := two_mod (k.src / 65536)
theorem rd_src2 : wAt (fr k c1 c2) 14 = k.src % 65536 := two_mod k.src
theorem rd_dst1 : wAt (fr k c1 c2) 16 = k.dst / 65536 % 65536 := two_mod (k.dst / 65536)
theorem rd_dst2 : wAt (fr k c1 c2) 18 = k.dst % 65536 := two_mod k.dst
theorem rd_sport (h : k.proto ≠ 1) : wAt (fr k c1 c2) 20 = k.sport % 65536 := by
  refine Eq.trans ?_ (two_mod k.sport)
  unfold fr pt
  simp only [h, if_false]
  split <;> rfl
theorem rd_dport (h : k.proto ≠ 1) : wAt (fr k c1 c2) 22 = k.dport % 65536 := by
  refine Eq.trans ?_ (two_mod k.dport)
  unfold fr pt
  simp only [h, if_false]
  split <;> rfl
theorem rd_ping (h : k.proto = 1) : wAt (fr k c1 c2) 24 = (k.sport + k.dport) % 65536 := by
  refine Eq.trans ?_ (two_mod (k.sport + k.dport))
  unfold fr pt
  simp only [h, if_true]
  rfl
theorem rd_c2 (hk : kindB k.proto = true) (h0 : 0 ≤ c2) (h1 : c2 ≤ 65535) : wAt (fr k c1 c2) (chkAt k.proto) = c2 := by
  refine Eq.trans ?_ ((two_mod c2).trans (by omega))
  unfold fr pt chkAt
  unfold kindB at hk
  simp at hk
  rcases hk with (h | h) | h <;> simp only [h] <;> rfl
end

theorem hd_tot (p : Pkt) (len : Int) : tot (hd p len 0) = 17664 + len % 65536 + p.id % 65536 + (p.ttl % 256 * 256 + p.proto % 256) + (p.src / 65536 % 65536 + p.src % 65536) + (p.dst / 65536 % 65536 + p.dst % 65536) := by
  unfold hd
  simp only [List.append_assoc]
  rw [tot_append _ [69, 0] (by simp), tot_append _ (w16 len) (by simp), tot_append _ (w16 p.id) (by simp), tot_append _ (w16 0) (by simp), tot_append _ [b8 p.ttl, b8 p.proto] (by simp), tot_append _ (w16 0) (by simp), tot_append _ (l32 p.src) (by simp),
    w16_tot, w16_tot, w16_tot, l32_tot, l32_tot]
  simp [tot, b8_nat]; omega
/-- what the port words add to what is checked. -/
def ports (p : Pkt) : Int := if p.proto = 1 then (p.sport + p.dport) % 65536 else p.sport % 65536 + p.dport % 65536
def addrs (p : Pkt) : Int := if p.proto = 1 then 0 else p.src / 65536 % 65536 + p.src % 65536 + (p.dst / 65536 % 65536 + p.dst % 65536)
/-- what else is in it. -/
def others (p : Pkt) : Int := if p.proto = 1 then p.flags % 256 * 256 + p.seq % 65536 + tot p.body.data.toList
  else if p.proto = 17 then 17 + (8 + p.body.size) % 65536 + (8 + p.body.size) % 65536 + tot p.body.data.toList
  else p.proto % 65536 + (partN p.proto + p.body.size) % 65536 + p.seq / 65536 % 65536 + p.seq % 65536 + p.ack / 65536 % 65536 + p.ack % 65536 + 20480 + p.flags % 256 + p.win % 65536 + tot p.body.data.toList
theorem allP_sum (p : Pkt) : allP p 0 = addrs p + ports p + others p := by
  unfold allP
  rw [tot_append _ _ (ps_even _ _ _ _), tot_append _ _ (pt_even _ _)]
  unfold ps pt addrs ports others
  by_cases h1 : p.proto = 1
  · simp only [h1, if_true, List.append_assoc]
    rw [tot_append _ [b8 p.flags, 0] (by simp), tot_append _ (w16 0) (by simp), tot_append _ (w16 _) (by simp), w16_tot, w16_tot, w16_tot]
    simp [tot, b8_nat]; omega
  · by_cases h2 : p.proto = 17
    · simp only [h2, if_true, List.append_assoc, if_neg (show ¬ (17 : Int) = 1 by omega), show partN 17 = 8 from rfl]
      rw [tot_append _ (l32 _) (by simp), tot_append _ (l32 _) (by simp), tot_append _ (w16 17) (by simp), tot_append _ (w16 _) (by simp), tot_append _ (w16 _) (by simp), tot_append _ (w16 _) (by simp)]
      simp only [w16_tot, l32_tot]; omega
    · simp only [h1, h2, if_false, List.append_assoc]
      rw [tot_append _ (l32 _) (by simp), tot_append _ (l32 _) (by simp), tot_append _ (w16 p.proto) (by simp), tot_append _ (w16 p.sport) (by simp), tot_append _ (w16 p.dport) (by simp), tot_append _ (l32 p.seq) (by simp), tot_append _ (l32 p.ack) (by simp), tot_append _ [80, b8 p.flags] (by simp), tot_append _ (w16 p.win) (by simp), tot_append _ (w16 0) (by simp)]
      simp only [w16_tot, l32_tot]
      simp [tot, b8_nat]; omega

/-- a word moved, with the checks that it is in. -/
theorem moved_head (k k' : Pkt) (c1 c2 n m : Int) (pos : Nat) (hset : ∀ c1 c2, setW (fr k c1 c2) pos n = fr k' c1 c2) (hm : ∀ c1 c2, wAt (fr k c1 c2) pos = m) (h0 : 0 ≤ c1) (h1 : c1 ≤ 65535) : moved (fr k c1 c2) pos n [10] = fr k' (upd c1 m n) c2 := by
  unfold moved chks chk1
  simp only [List.foldl_cons, List.foldl_nil]
  rw [hm, rd_c1 _ _ _ h0 h1, setW_head, hset]
theorem moved_part (k k' : Pkt) (c1 c2 n m : Int) (pos : Nat) (hk : kindB k.proto = true) (hset : ∀ c1 c2, setW (fr k c1 c2) pos n = fr k' c1 c2) (hm : ∀ c1 c2, wAt (fr k c1 c2) pos = m) (h0 : 0 ≤ c2) (h1 : c2 ≤ 65535) : moved (fr k c1 c2) pos n [chkAt k.proto] = fr k' c1 (upd c2 m n) := by
  unfold moved chks chk1
  simp only [List.foldl_cons, List.foldl_nil]
  rw [hm, rd_c2 _ _ _ hk h0 h1, setW_part _ _ _ _ hk, hset]
theorem moved_both (k k' : Pkt) (c1 c2 n m : Int) (pos : Nat) (hk : kindB k.proto = true) (hset : ∀ c1 c2, setW (fr k c1 c2) pos n = fr k' c1 c2) (hm : ∀ c1 c2, wAt (fr k c1 c2) pos = m) (h0 : 0 ≤ c1) (h1 : c1 ≤ 65535) (h2 : 0 ≤ c2) (h3 : c2 ≤ 65535) : moved (fr k c1 c2) pos n [10, chkAt k.proto] = fr k' (upd c1 m n) (upd c2 m n) := by
  unfold moved chks chk1
  simp only [List.foldl_cons, List.foldl_nil]
  rw [hm, rd_c1 _ _ _ h0 h1, setW_head, hm, rd_c2 _ _ _ hk h2 h3, setW_part _ _ _ _ hk, hset]

/-- the packet with another end, its time to live one less. -/
def turned (k : Pkt) (side addr port : Int) : Pkt := if side = 0 then { k with ttl := k.ttl - 1, src := addr, sport := port } else { k with ttl := k.ttl - 1, dst := addr, dport := port }

/-- which check stands in the end. -/
theorem settled_fr (q : Pkt) (c1 c2 : Int) (hk : kindB q.proto = true) (h0 : 0 ≤ c1) (h1 : c1 ≤ 65534) (h2 : 0 ≤ c2) (h3 : c2 ≤ 65535) (m1 : (c1 + tot (hd q (flen q) 0)) % 65535 = 0) (m2 : (c2 + allP q 0) % 65535 = 0) :
    settled (fr q c1 c2) q.proto = frame q := by
  have e1 : c1 = chkH q := by
    have a := chkH_bd q; have b := bk_mod (tot (hd q (flen q) 0))
    unfold chkH at *; omega
  unfold settled frame
  rw [rd_c2 _ _ _ hk h2 h3]
  by_cases ht : twoB c2 = true
  · rw [if_pos ht]
    have e2 : sealP (fr q c1 c2) q.proto = sealP (fr q c1 0) q.proto := by
      unfold sealP; simp only [setW_part _ _ _ _ hk]
    rw [e2, sealP_fr _ _ hk, e1]
  · rw [if_neg ht]
    have e3 : chkP0 q = 65535 - bk (allP q 0) := rfl
    have b := bk_mod (allP q 0); have d := bk_bd (allP q 0)
    have t : c2 ≠ 0 ∧ c2 ≠ 65535 := by unfold twoB at ht; simpa using ht
    have e4 : chkP0 q = c2 := by omega
    have e5 : chkP q = c2 := by unfold chkP; rw [if_neg (by omega), e4]
    rw [e5, e1]

theorem chain3 (c1 d1 d2 d3 t0 t1 x1 x2 y1 y2 r : Int) (h1 : d1 % 65535 = (c1 + t0 - t1) % 65535) (h2 : d2 % 65535 = (d1 + x1 - y1) % 65535) (h3 : d3 % 65535 = (d2 + x2 - y2) % 65535) (h : (c1 + (r + t0 + x1 + x2)) % 65535 = 0) : (d3 + (r + t1 + y1 + y2)) % 65535 = 0 := by omega
set_option maxHeartbeats 1000000 in
theorem turned_ping (k : Pkt) (c1 c2 side addr port : Int) (hg : good k = 0) (hp1 : k.proto = 1) (hs : side = 0 ∨ side = 1) (ha : 0 ≤ addr ∧ addr ≤ 4294967295) (hp : 0 ≤ port ∧ port ≤ 65535) (_ht : k.ttl ≠ 1) (hf : (k.flags == 8) = (side == 0))
    (h0 : 0 ≤ c1) (h1 : c1 ≤ 65535) (h2 : 0 ≤ c2) (h3 : c2 ≤ 65535) (m1 : (c1 + tot (hd k (flen k) 0)) % 65535 = 0) (m2 : (c2 + allP k 0) % 65535 = 0) :
    spun (fr k c1 c2) k.proto side addr port = frame (turned k side addr port) := by
  obtain ⟨hk, hr, hb, hfm⟩ := good_zero k hg
  have R := (range_iff k).1 hr
  have F := ((form_iff k).1 hfm).1 hp1
  rw [hd_tot] at m1
  rw [allP_sum] at m2
  have A : aged (fr k c1 c2) = fr { k with ttl := k.ttl - 1 } (upd c1 (k.ttl * 256 + k.proto) (k.ttl * 256 + k.proto - 256)) c2 := by
    have e : wAt (fr k c1 c2) 8 = k.ttl * 256 + k.proto := by rw [rd_ttl]; omega
    have := moved_head k { k with ttl := k.ttl - 1 } c1 c2 (k.ttl * 256 + k.proto - 256) (k.ttl * 256 + k.proto) 8 (fun a b => by rcases setW_ttl k a b with x | x; exact x; omega) (fun a b => by rw [rd_ttl]; omega) h0 h1
    unfold aged; rw [e]; exact this
  have u1 := upd_mod c1 (k.ttl * 256 + k.proto) (k.ttl * 256 + k.proto - 256) h0 h1 (by omega) (by omega) (by omega) (by omega)
  have l1 := upd_lt c1 (k.ttl * 256 + k.proto) (k.ttl * 256 + k.proto - 256) h0 h1 (by omega) (by omega) (by omega) (by omega) (.inl (by omega))
  have b1 := upd_bd c1 (k.ttl * 256 + k.proto) (k.ttl * 256 + k.proto - 256)
  unfold spun
  rw [A]
  generalize upd c1 (k.ttl * 256 + k.proto) (k.ttl * 256 + k.proto - 256) = d1 at *
  clear A
  unfold readd withChecks portPos
  rw [if_pos hp1, if_pos hp1]
  rcases hs with rfl | rfl
  · have hfl : k.flags = 8 := by simpa using hf
    have hdp : k.dport = 0 := by rcases F.1 with x | x <;> omega
    rw [show addrPos 0 = 12 from rfl]
    rw [moved_head { k with ttl := k.ttl - 1 } { k with ttl := k.ttl - 1, src := addr / 65536 * 65536 + k.src % 65536 } d1 c2 (addr / 65536) (k.src / 65536) 12 (fun a b => setW_src1 _ a b _) (fun a b => by rw [rd_src1]; show k.src / 65536 % 65536 = _; omega) b1.1 (by omega)]
    have u2 := upd_mod d1 (k.src / 65536) (addr / 65536) b1.1 (by omega) (by omega) (by omega) (by omega) (by omega)
    have l2 := upd_lt d1 (k.src / 65536) (addr / 65536) b1.1 (by omega) (by omega) (by omega) (by omega) (by omega) (.inr (by omega))
    have b2 := upd_bd d1 (k.src / 65536) (addr / 65536)
    generalize upd d1 (k.src / 65536) (addr / 65536) = d2 at *
    rw [moved_head { k with ttl := k.ttl - 1, src := addr / 65536 * 65536 + k.src % 65536 } { k with ttl := k.ttl - 1, src := addr } d2 c2 (addr % 65536) (k.src % 65536) 14 (fun a b => by rw [setW_src2 _ a b _ (by omega) (by omega)]; congr 2; show (addr / 65536 * 65536 + k.src % 65536) / 65536 * 65536 + addr % 65536 = addr; omega) (fun a b => by rw [rd_src2]; show (addr / 65536 * 65536 + k.src % 65536) % 65536 = _; omega) b2.1 (by omega)]
    have u3 := upd_mod d2 (k.src % 65536) (addr % 65536) b2.1 (by omega) (by omega) (by omega) (by omega) (by omega)
    have l3 := upd_lt d2 (k.src % 65536) (addr % 65536) b2.1 (by omega) (by omega) (by omega) (by omega) (by omega) (.inr (by omega))
    have b3 := upd_bd d2 (k.src % 65536) (addr % 65536)
    generalize upd d2 (k.src % 65536) (addr % 65536) = d3 at *
    have P := moved_part { k with ttl := k.ttl - 1, src := addr } { k with ttl := k.ttl - 1, src := addr, sport := port } d3 c2 port k.sport 24 hk (fun a b => setW_ping0 _ a b _ hp1 hdp) (fun a b => by rw [rd_ping _ _ _ (by exact hp1)]; show (k.sport + k.dport) % 65536 = _; omega) h2 h3
    rw [show ({ k with ttl := k.ttl - 1, src := addr } : Pkt).proto = k.proto from rfl] at P
    rw [P]
    have u4 := upd_mod c2 k.sport port h2 h3 (by omega) (by omega) (by omega) (by omega)
    have b4 := upd_bd c2 k.sport port
    generalize upd c2 k.sport port = d4 at *
    have S := settled_fr { k with ttl := k.ttl - 1, src := addr, sport := port } d3 d4 hk (by omega) (by omega) (by omega) (by omega)
      (by
        have e1 : 17664 + flen k % 65536 + k.id % 65536 + (k.ttl % 256 * 256 + k.proto % 256) + (k.src / 65536 % 65536 + k.src % 65536) + (k.dst / 65536 % 65536 + k.dst % 65536) = 17664 + flen k % 65536 + k.id % 65536 + (k.dst / 65536 % 65536 + k.dst % 65536) + (k.ttl * 256 + k.proto) + k.src / 65536 + k.src % 65536 := by clear u1 u2 u3 u4 m1 m2; omega
        have e2 : 17664 + flen k % 65536 + k.id % 65536 + ((k.ttl - 1) % 256 * 256 + k.proto % 256) + (addr / 65536 % 65536 + addr % 65536) + (k.dst / 65536 % 65536 + k.dst % 65536) = 17664 + flen k % 65536 + k.id % 65536 + (k.dst / 65536 % 65536 + k.dst % 65536) + (k.ttl * 256 + k.proto - 256) + addr / 65536 + addr % 65536 := by clear u1 u2 u3 u4 m1 m2; omega
        rw [e1] at m1
        rw [hd_tot]; show (d3 + (17664 + flen k % 65536 + k.id % 65536 + ((k.ttl - 1) % 256 * 256 + k.proto % 256) + (addr / 65536 % 65536 + addr % 65536) + (k.dst / 65536 % 65536 + k.dst % 65536))) % 65535 = 0
        rw [e2]; exact chain3 _ _ _ _ _ _ _ _ _ _ _ u1 u2 u3 m1)
      (by rw [allP_sum]; unfold addrs ports others at *; simp only [hp1, if_true] at *; omega)
    exact S
  · have hfl : k.flags ≠ 8 := by simpa using hf
    have hdp : k.sport = 0 := by rcases F.1 with x | x <;> omega
    rw [show addrPos 1 = 16 from rfl]
    rw [moved_head { k with ttl := k.ttl - 1 } { k with ttl := k.ttl - 1, dst := addr / 65536 * 65536 + k.dst % 65536 } d1 c2 (addr / 65536) (k.dst / 65536) 16 (fun a b => setW_dst1 _ a b _) (fun a b => by rw [rd_dst1]; show k.dst / 65536 % 65536 = _; omega) b1.1 (by omega)]
    have u2 := upd_mod d1 (k.dst / 65536) (addr / 65536) b1.1 (by omega) (by omega) (by omega) (by omega) (by omega)
    have l2 := upd_lt d1 (k.dst / 65536) (addr / 65536) b1.1 (by omega) (by omega) (by omega) (by omega) (by omega) (.inr (by omega))
    have b2 := upd_bd d1 (k.dst / 65536) (addr / 65536)
    generalize upd d1 (k.dst / 65536) (addr / 65536) = d2 at *
    rw [moved_head { k with ttl := k.ttl - 1, dst := addr / 65536 * 65536 + k.dst % 65536 } { k with ttl := k.ttl - 1, dst := addr } d2 c2 (addr % 65536) (k.dst % 65536) 18 (fun a b => by rw [setW_dst2 _ a b _ (by omega) (by omega)]; congr 2; show (addr / 65536 * 65536 + k.dst % 65536) / 65536 * 65536 + addr % 65536 = addr; omega) (fun a b => by rw [rd_dst2]; show (addr / 65536 * 65536 + k.dst % 65536) % 65536 = _; omega) b2.1 (by omega)]
    have u3 := upd_mod d2 (k.dst % 65536) (addr % 65536) b2.1 (by omega) (by omega) (by omega) (by omega) (by omega)
    have l3 := upd_lt d2 (k.dst % 65536) (addr % 65536) b2.1 (by omega) (by omega) (by omega) (by omega) (by omega) (.inr (by omega))
    have b3 := upd_bd d2 (k.dst % 65536) (addr % 65536)
    generalize upd d2 (k.dst % 65536) (addr % 65536) = d3 at *
    have P := moved_part { k with ttl := k.ttl - 1, dst := addr } { k with ttl := k.ttl - 1, dst := addr, dport := port } d3 c2 port k.dport 24 hk (fun a b => setW_ping1 _ a b _ hp1 hdp) (fun a b => by rw [rd_ping _ _ _ (by exact hp1)]; show (k.sport + k.dport) % 65536 = _; omega) h2 h3
    rw [show ({ k with ttl := k.ttl - 1, dst := addr } : Pkt).proto = k.proto from rfl] at P
    rw [P]
    have u4 := upd_mod c2 k.dport port h2 h3 (by omega) (by omega) (by omega) (by omega)
    have b4 := upd_bd c2 k.dport port
    generalize upd c2 k.dport port = d4 at *
    have S := settled_fr { k with ttl := k.ttl - 1, dst := addr, dport := port } d3 d4 hk (by omega) (by omega) (by omega) (by omega)
      (by
        have e1 : 17664 + flen k % 65536 + k.id % 65536 + (k.ttl % 256 * 256 + k.proto % 256) + (k.src / 65536 % 65536 + k.src % 65536) + (k.dst / 65536 % 65536 + k.dst % 65536) = 17664 + flen k % 65536 + k.id % 65536 + (k.src / 65536 % 65536 + k.src % 65536) + (k.ttl * 256 + k.proto) + k.dst / 65536 + k.dst % 65536 := by clear u1 u2 u3 u4 m1 m2; omega
        have e2 : 17664 + flen k % 65536 + k.id % 65536 + ((k.ttl - 1) % 256 * 256 + k.proto % 256) + (k.src / 65536 % 65536 + k.src % 65536) + (addr / 65536 % 65536 + addr % 65536) = 17664 + flen k % 65536 + k.id % 65536 + (k.src / 65536 % 65536 + k.src % 65536) + (k.ttl * 256 + k.proto - 256) + addr / 65536 + addr % 65536 := by clear u1 u2 u3 u4 m1 m2; omega
        rw [e1] at m1
        rw [hd_tot]; show (d3 + (17664 + flen k % 65536 + k.id % 65536 + ((k.ttl - 1) % 256 * 256 + k.proto % 256) + (k.src / 65536 % 65536 + k.src % 65536) + (addr / 65536 % 65536 + addr % 65536))) % 65535 = 0
        rw [e2]; exact chain3 _ _ _ _ _ _ _ _ _ _ _ u1 u2 u3 m1)
      (by rw [allP_sum]; unfold addrs ports others at *; simp only [hp1, if_true] at *; omega)
    exact S
theorem chain3' (c1 d1 d2 d3 x1 x2 y1 y2 x3 y3 r : Int) (h1 : d1 % 65535 = (c1 + x1 - y1) % 65535) (h2 : d2 % 65535 = (d1 + x2 - y2) % 65535) (h3 : d3 % 65535 = (d2 + x3 - y3) % 65535) (h : (c1 + (r + x1 + x2 + x3)) % 65535 = 0) : (d3 + (r + y1 + y2 + y3)) % 65535 = 0 := by omega
set_option maxHeartbeats 1000000 in
theorem turned_other (k : Pkt) (c1 c2 side addr port : Int) (hg : good k = 0) (hp1 : k.proto ≠ 1) (hs : side = 0 ∨ side = 1) (ha : 0 ≤ addr ∧ addr ≤ 4294967295) (hp : 0 ≤ port ∧ port ≤ 65535) (_ht : k.ttl ≠ 1)
    (h0 : 0 ≤ c1) (h1 : c1 ≤ 65535) (h2 : 0 ≤ c2) (h3 : c2 ≤ 65535) (m1 : (c1 + tot (hd k (flen k) 0)) % 65535 = 0) (m2 : (c2 + allP k 0) % 65535 = 0) :
    spun (fr k c1 c2) k.proto side addr port = frame (turned k side addr port) := by
  obtain ⟨hk, hr, hb, hfm⟩ := good_zero k hg
  have R := (range_iff k).1 hr
  have K := (kind_iff _).1 hk
  rw [hd_tot] at m1
  rw [allP_sum] at m2
  have A : aged (fr k c1 c2) = fr { k with ttl := k.ttl - 1 } (upd c1 (k.ttl * 256 + k.proto) (k.ttl * 256 + k.proto - 256)) c2 := by
    have e : wAt (fr k c1 c2) 8 = k.ttl * 256 + k.proto := by rw [rd_ttl]; omega
    have := moved_head k { k with ttl := k.ttl - 1 } c1 c2 (k.ttl * 256 + k.proto - 256) (k.ttl * 256 + k.proto) 8 (fun a b => by rcases setW_ttl k a b with x | x; exact x; omega) (fun a b => by rw [rd_ttl]; omega) h0 h1
    unfold aged; rw [e]; exact this
  have u1 := upd_mod c1 (k.ttl * 256 + k.proto) (k.ttl * 256 + k.proto - 256) h0 h1 (by omega) (by omega) (by omega) (by omega)
  have l1 := upd_lt c1 (k.ttl * 256 + k.proto) (k.ttl * 256 + k.proto - 256) h0 h1 (by omega) (by omega) (by omega) (by omega) (.inl (by omega))
  have b1 := upd_bd c1 (k.ttl * 256 + k.proto) (k.ttl * 256 + k.proto - 256)
  unfold spun
  rw [A]
  generalize upd c1 (k.ttl * 256 + k.proto) (k.ttl * 256 + k.proto - 256) = d1 at *
  clear A
  unfold readd withChecks portPos
  rw [if_neg hp1, if_neg hp1]
  rcases hs with rfl | rfl
  · rw [show addrPos 0 = 12 from rfl, if_pos rfl]
    have M1 := moved_both { k with ttl := k.ttl - 1 } { k with ttl := k.ttl - 1, src := addr / 65536 * 65536 + k.src % 65536 } d1 c2 (addr / 65536) (k.src / 65536) 12 hk (fun a b => setW_src1 _ a b _) (fun a b => by rw [rd_src1]; show k.src / 65536 % 65536 = _; omega) b1.1 (by omega) h2 h3
    rw [show ({ k with ttl := k.ttl - 1 } : Pkt).proto = k.proto from rfl] at M1
    rw [M1]; clear M1
    have u2 := upd_mod d1 (k.src / 65536) (addr / 65536) b1.1 (by omega) (by omega) (by omega) (by omega) (by omega)
    have l2 := upd_lt d1 (k.src / 65536) (addr / 65536) b1.1 (by omega) (by omega) (by omega) (by omega) (by omega) (.inr (by omega))
    have b2 := upd_bd d1 (k.src / 65536) (addr / 65536)
    generalize upd d1 (k.src / 65536) (addr / 65536) = d2 at *
    have v2 := upd_mod c2 (k.src / 65536) (addr / 65536) h2 h3 (by omega) (by omega) (by omega) (by omega)
    have f2 := upd_bd c2 (k.src / 65536) (addr / 65536)
    generalize upd c2 (k.src / 65536) (addr / 65536) = e2 at *
    have M2 := moved_both { k with ttl := k.ttl - 1, src := addr / 65536 * 65536 + k.src % 65536 } { k with ttl := k.ttl - 1, src := addr } d2 e2 (addr % 65536) (k.src % 65536) 14 hk (fun a b => by rw [setW_src2 _ a b _ (by omega) (by omega)]; congr 2; show (addr / 65536 * 65536 + k.src % 65536) / 65536 * 65536 + addr % 65536 = addr; omega) (fun a b => by rw [rd_src2]; show (addr / 65536 * 65536 + k.src % 65536) % 65536 = _; omega) b2.1 (by omega) f2.1 f2.2
    rw [show ({ k with ttl := k.ttl - 1, src := addr / 65536 * 65536 + k.src % 65536 } : Pkt).proto = k.proto from rfl] at M2
    rw [M2]; clear M2
    have u3 := upd_mod d2 (k.src % 65536) (addr % 65536) b2.1 (by omega) (by omega) (by omega) (by omega) (by omega)
    have l3 := upd_lt d2 (k.src % 65536) (addr % 65536) b2.1 (by omega) (by omega) (by omega) (by omega) (by omega) (.inr (by omega))
    have b3 := upd_bd d2 (k.src % 65536) (addr % 65536)
    generalize upd d2 (k.src % 65536) (addr % 65536) = d3 at *
    have v3 := upd_mod e2 (k.src % 65536) (addr % 65536) f2.1 f2.2 (by omega) (by omega) (by omega) (by omega)
    have f3 := upd_bd e2 (k.src % 65536) (addr % 65536)
    generalize upd e2 (k.src % 65536) (addr % 65536) = e3 at *
    have P := moved_part { k with ttl := k.ttl - 1, src := addr } { k with ttl := k.ttl - 1, src := addr, sport := port } d3 e3 port k.sport 20 hk (fun a b => setW_sport _ a b _ hp1) (fun a b => by rw [rd_sport _ _ _ (by exact hp1)]; show k.sport % 65536 = _; omega) f3.1 f3.2
    rw [show ({ k with ttl := k.ttl - 1, src := addr } : Pkt).proto = k.proto from rfl] at P
    rw [P]; clear P
    have u4 := upd_mod e3 k.sport port f3.1 f3.2 (by omega) (by omega) (by omega) (by omega)
    have b4 := upd_bd e3 k.sport port
    generalize upd e3 k.sport port = d4 at *
    have S := settled_fr { k with ttl := k.ttl - 1, src := addr, sport := port } d3 d4 hk (by omega) (by omega) (by omega) (by omega)
      (by
        have e1 : 17664 + flen k % 65536 + k.id % 65536 + (k.ttl % 256 * 256 + k.proto % 256) + (k.src / 65536 % 65536 + k.src % 65536) + (k.dst / 65536 % 65536 + k.dst % 65536) = 17664 + flen k % 65536 + k.id % 65536 + (k.dst / 65536 % 65536 + k.dst % 65536) + (k.ttl * 256 + k.proto) + k.src / 65536 + k.src % 65536 := by clear u1 u2 u3 u4 v2 v3 m1 m2; omega
        have e2 : 17664 + flen k % 65536 + k.id % 65536 + ((k.ttl - 1) % 256 * 256 + k.proto % 256) + (addr / 65536 % 65536 + addr % 65536) + (k.dst / 65536 % 65536 + k.dst % 65536) = 17664 + flen k % 65536 + k.id % 65536 + (k.dst / 65536 % 65536 + k.dst % 65536) + (k.ttl * 256 + k.proto - 256) + addr / 65536 + addr % 65536 := by clear u1 u2 u3 u4 v2 v3 m1 m2; omega
        rw [e1] at m1
        rw [hd_tot]; show (d3 + (17664 + flen k % 65536 + k.id % 65536 + ((k.ttl - 1) % 256 * 256 + k.proto % 256) + (addr / 65536 % 65536 + addr % 65536) + (k.dst / 65536 % 65536 + k.dst % 65536))) % 65535 = 0
        rw [e2]; exact chain3 _ _ _ _ _ _ _ _ _ _ _ u1 u2 u3 m1)
      (by
        have e1 : addrs k + ports k + others k = others k + (k.dst / 65536 % 65536 + k.dst % 65536) + k.dport + k.src / 65536 + k.src % 65536 + k.sport := by unfold addrs ports; rw [if_neg hp1, if_neg hp1]; clear u1 u2 u3 u4 v2 v3 m1 m2; omega
        have e2 : addrs { k with ttl := k.ttl - 1, src := addr, sport := port } + ports { k with ttl := k.ttl - 1, src := addr, sport := port } + others { k with ttl := k.ttl - 1, src := addr, sport := port } = others k + (k.dst / 65536 % 65536 + k.dst % 65536) + k.dport + addr / 65536 + addr % 65536 + port := by
          rw [show others { k with ttl := k.ttl - 1, src := addr, sport := port } = others k from rfl]
          unfold addrs ports; rw [if_neg (by exact hp1), if_neg (by exact hp1)]; clear u1 u2 u3 u4 v2 v3 m1 m2; simp only []; omega
        rw [e1] at m2; rw [allP_sum, e2]; exact chain3' _ _ _ _ _ _ _ _ _ _ _ v2 v3 u4 m2)
    exact S
  · rw [show addrPos 1 = 16 from rfl, if_neg (by omega)]
    have M1 := moved_both { k with ttl := k.ttl - 1 } { k with ttl := k.ttl - 1, dst := addr / 65536 * 65536 + k.dst % 65536 } d1 c2 (addr / 65536) (k.dst / 65536) 16 hk (fun a b => setW_dst1 _ a b _) (fun a b => by rw [rd_dst1]; show k.dst / 65536 % 65536 = _; omega) b1.1 (by omega) h2 h3
    rw [show ({ k with ttl := k.ttl - 1 } : Pkt).proto = k.proto from rfl] at M1
    rw [M1]; clear M1
    have u2 := upd_mod d1 (k.dst / 65536) (addr / 65536) b1.1 (by omega) (by omega) (by omega) (by omega) (by omega)
    have l2 := upd_lt d1 (k.dst / 65536) (addr / 65536) b1.1 (by omega) (by omega) (by omega) (by omega) (by omega) (.inr (by omega))
    have b2 := upd_bd d1 (k.dst / 65536) (addr / 65536)
    generalize upd d1 (k.dst / 65536) (addr / 65536) = d2 at *
    have v2 := upd_mod c2 (k.dst / 65536) (addr / 65536) h2 h3 (by omega) (by omega) (by omega) (by omega)
    have f2 := upd_bd c2 (k.dst / 65536) (addr / 65536)
    generalize upd c2 (k.dst / 65536) (addr / 65536) = e2 at *
    have M2 := moved_both { k with ttl := k.ttl - 1, dst := addr / 65536 * 65536 + k.dst % 65536 } { k with ttl := k.ttl - 1, dst := addr } d2 e2 (addr % 65536) (k.dst % 65536) 18 hk (fun a b => by rw [setW_dst2 _ a b _ (by omega) (by omega)]; congr 2; show (addr / 65536 * 65536 + k.dst % 65536) / 65536 * 65536 + addr % 65536 = addr; omega) (fun a b => by rw [rd_dst2]; show (addr / 65536 * 65536 + k.dst % 65536) % 65536 = _; omega) b2.1 (by omega) f2.1 f2.2
    rw [show ({ k with ttl := k.ttl - 1, dst := addr / 65536 * 65536 + k.dst % 65536 } : Pkt).proto = k.proto from rfl] at M2
    rw [M2]; clear M2
    have u3 := upd_mod d2 (k.dst % 65536) (addr % 65536) b2.1 (by omega) (by omega) (by omega) (by omega) (by omega)
    have l3 := upd_lt d2 (k.dst % 65536) (addr % 65536) b2.1 (by omega) (by omega) (by omega) (by omega) (by omega) (.inr (by omega))
    have b3 := upd_bd d2 (k.dst % 65536) (addr % 65536)
    generalize upd d2 (k.dst % 65536) (addr % 65536) = d3 at *
    have v3 := upd_mod e2 (k.dst % 65536) (addr % 65536) f2.1 f2.2 (by omega) (by omega) (by omega) (by omega)
    have f3 := upd_bd e2 (k.dst % 65536) (addr % 65536)
    generalize upd e2 (k.dst % 65536) (addr % 65536) = e3 at *
    have P := moved_part { k with ttl := k.ttl - 1, dst := addr } { k with ttl := k.ttl - 1, dst := addr, dport := port } d3 e3 port k.dport 22 hk (fun a b => setW_dport _ a b _ hp1) (fun a b => by rw [rd_dport _ _ _ (by exact hp1)]; show k.dport % 65536 = _; omega) f3.1 f3.2
    rw [show ({ k with ttl := k.ttl - 1, dst := addr } : Pkt).proto = k.proto from rfl] at P
    rw [P]; clear P
    have u4 := upd_mod e3 k.dport port f3.1 f3.2 (by omega) (by omega) (by omega) (by omega)
    have b4 := upd_bd e3 k.dport port
    generalize upd e3 k.dport port = d4 at *
    have S := settled_fr { k with ttl := k.ttl - 1, dst := addr, dport := port } d3 d4 hk (by omega) (by omega) (by omega) (by omega)
      (by
        have e1 : 17664 + flen k % 65536 + k.id % 65536 + (k.ttl % 256 * 256 + k.proto % 256) + (k.src / 65536 % 65536 + k.src % 65536) + (k.dst / 65536 % 65536 + k.dst % 65536) = 17664 + flen k % 65536 + k.id % 65536 + (k.src / 65536 % 65536 + k.src % 65536) + (k.ttl * 256 + k.proto) + k.dst / 65536 + k.dst % 65536 := by clear u1 u2 u3 u4 v2 v3 m1 m2; omega
        have e2 : 17664 + flen k % 65536 + k.id % 65536 + ((k.ttl - 1) % 256 * 256 + k.proto % 256) + (k.src / 65536 % 65536 + k.src % 65536) + (addr / 65536 % 65536 + addr % 65536) = 17664 + flen k % 65536 + k.id % 65536 + (k.src / 65536 % 65536 + k.src % 65536) + (k.ttl * 256 + k.proto - 256) + addr / 65536 + addr % 65536 := by clear u1 u2 u3 u4 v2 v3 m1 m2; omega
        rw [e1] at m1
        rw [hd_tot]; show (d3 + (17664 + flen k % 65536 + k.id % 65536 + ((k.ttl - 1) % 256 * 256 + k.proto % 256) + (k.src / 65536 % 65536 + k.src % 65536) + (addr / 65536 % 65536 + addr % 65536))) % 65535 = 0
        rw [e2]; exact chain3 _ _ _ _ _ _ _ _ _ _ _ u1 u2 u3 m1)
      (by
        have e1 : addrs k + ports k + others k = others k + (k.src / 65536 % 65536 + k.src % 65536) + k.sport + k.dst / 65536 + k.dst % 65536 + k.dport := by unfold addrs ports; rw [if_neg hp1, if_neg hp1]; clear u1 u2 u3 u4 v2 v3 m1 m2; omega
        have e2 : addrs { k with ttl := k.ttl - 1, dst := addr, dport := port } + ports { k with ttl := k.ttl - 1, dst := addr, dport := port } + others { k with ttl := k.ttl - 1, dst := addr, dport := port } = others k + (k.src / 65536 % 65536 + k.src % 65536) + k.sport + addr / 65536 + addr % 65536 + port := by
          rw [show others { k with ttl := k.ttl - 1, dst := addr, dport := port } = others k from rfl]
          unfold addrs ports; rw [if_neg (by exact hp1), if_neg (by exact hp1)]; clear u1 u2 u3 u4 v2 v3 m1 m2; simp only []; omega
        rw [e1] at m2; rw [allP_sum, e2]; exact chain3' _ _ _ _ _ _ _ _ _ _ _ v2 v3 u4 m2)
    exact S
/-- TURNED ON THE SPOT IS BUILT ANEW. -/
theorem spun_frame (k : Pkt) (c1 c2 side addr port : Int) (hg : good k = 0) (hs : side = 0 ∨ side = 1) (ha : 0 ≤ addr ∧ addr ≤ 4294967295) (hp : 0 ≤ port ∧ port ≤ 65535) (ht : k.ttl ≠ 1) (hf : k.proto = 1 → (k.flags == 8) = (side == 0))
    (h0 : 0 ≤ c1) (h1 : c1 ≤ 65535) (h2 : 0 ≤ c2) (h3 : c2 ≤ 65535) (m1 : (c1 + tot (hd k (flen k) 0)) % 65535 = 0) (m2 : (c2 + allP k 0) % 65535 = 0) :
    spun (fr k c1 c2) k.proto side addr port = frame (turned k side addr port) := by
  by_cases hp1 : k.proto = 1
  · exact turned_ping k c1 c2 side addr port hg hp1 hs ha hp ht (hf hp1) h0 h1 h2 h3 m1 m2
  · exact turned_other k c1 c2 side addr port hg hp1 hs ha hp ht h0 h1 h2 h3 m1 m2
theorem turned_good (k : Pkt) (side addr port : Int) (hg : good k = 0) (hs : side = 0 ∨ side = 1) (ha : 0 ≤ addr ∧ addr ≤ 4294967295) (hp : 0 ≤ port ∧ port ≤ 65535) (ht : k.ttl ≠ 1) (hf : k.proto = 1 → (k.flags == 8) = (side == 0)) : good (turned k side addr port) = 0 := by
  obtain ⟨hk, hr, hb, hfm⟩ := good_zero k hg
  have R := (range_iff k).1 hr
  have F := (form_iff k).1 hfm
  unfold good
  rcases hs with rfl | rfl
  · have e : turned k 0 addr port = { k with ttl := k.ttl - 1, src := addr, sport := port } := rfl
    rw [e, if_neg (by simp [hk]), if_neg (by simp only [Bool.not_eq_false]; rw [range_iff]; simp only []; omega), if_neg (by simp only []; omega), if_neg ?_]
    simp only [Bool.not_eq_false]; rw [form_iff]; simp only []
    refine ⟨fun h => ?_, F.2⟩
    have := F.1 h; have := hf h; simp at this; omega
  · have e : turned k 1 addr port = { k with ttl := k.ttl - 1, dst := addr, dport := port } := rfl
    rw [e, if_neg (by simp [hk]), if_neg (by simp only [Bool.not_eq_false]; rw [range_iff]; simp only []; omega), if_neg (by simp only []; omega), if_neg ?_]
    simp only [Bool.not_eq_false]; rw [form_iff]; simp only []
    refine ⟨fun h => ?_, F.2⟩
    have := F.1 h; have := hf h; simp at this; omega
theorem chkH_mod (k : Pkt) : (chkH k + tot (hd k (flen k) 0)) % 65535 = 0 := by
  have := bk_mod (tot (hd k (flen k) 0)); unfold chkH; omega
theorem chkP_mod (k : Pkt) : (chkP k + allP k 0) % 65535 = 0 := by
  have := bk_mod (allP k 0)
  have e : chkP0 k = 65535 - bk (allP k 0) := rfl
  unfold chkP; split <;> omega
theorem spun_built (k : Pkt) (side addr port : Int) (hg : good k = 0) (hs : side = 0 ∨ side = 1) (ha : 0 ≤ addr ∧ addr ≤ 4294967295) (hp : 0 ≤ port ∧ port ≤ 65535) (ht : k.ttl ≠ 1) (hf : k.proto = 1 → (k.flags == 8) = (side == 0)) :
    spun (frame k) k.proto side addr port = frame (turned k side addr port) := by
  have a := chkH_bd k; have b := chkP_bd k
  exact spun_frame k _ _ side addr port hg hs ha hp ht hf a.1 (by omega) b.1 b.2 (chkH_mod k) (chkP_mod k)
end Go.Proofs.Ythcedehppflcgab
