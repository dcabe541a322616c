/-
  wire.Refuse: what it hands back for all bytes.
-/
import Derived.Test.YthcedehppflcgabParse5
import Derived.Test.YthcedehppflcgabReads
import Derived.Deep.DeepFit
namespace Go.Proofs.Ythcedehppflcgab
open Go.ChangeShapes Go.WideShapes Go.ChangeAt Go.RowKit

/-- the head of what tells of a refusal. -/
def rp (dst id : Int) : Pkt := ⟨1, 167772414, 0, dst, 0, 64, id, 0, 0, 0, 0, ByteArray.empty⟩
/-- what tells of it, its checks given. -/
def rfr (dst id : Int) (x : List UInt8) (c1 c2 : Int) : List UInt8 := hd (rp dst id) 56 c1 ++ ([3, 13] ++ w16 c2 ++ [0, 0, 0, 0] ++ x)
def rchkH (dst id : Int) : Int := 65535 - bk (tot (hd (rp dst id) 56 0))
def rchkP (x : List UInt8) : Int := 65535 - bk (tot ([3, 13] ++ w16 0 ++ [0, 0, 0, 0] ++ x))
def refusal (dst id : Int) (x : List UInt8) : List UInt8 := rfr dst id x (rchkH dst id) (rchkP x)
theorem rfr_sealH (dst id : Int) (x : List UInt8) : sealH (rfr dst id x 0 0) = rfr dst id x (rchkH dst id) 0 := rfl
theorem rfr_sealP (dst id : Int) (x : List UInt8) (c1 : Int) : sealP (rfr dst id x c1 0) 1 = rfr dst id x c1 (rchkP x) := by
  unfold sealP
  have e1 : setW (rfr dst id x c1 0) (chkAt 1) 0 = rfr dst id x c1 0 := rfl
  have e2 : ckP (rfr dst id x c1 0) 1 = rchkP x := rfl
  have e3 : ∀ c, setW (rfr dst id x c1 0) (chkAt 1) c = rfr dst id x c1 c := fun _ => rfl
  rw [e1, e2, e3]
  have e4 : ckQ (rchkP x) 1 = rchkP x := by unfold ckQ; rw [if_neg (by omega)]
  rw [e4]
theorem rfr_len (dst id : Int) (x : List UInt8) (c1 c2 : Int) : (rfr dst id x c1 c2).length = 28 + x.length := by
  simp [rfr]; omega
/-- what is wrong with a refusal. -/
def refE (l : List UInt8) (id : Int) : Int := if bad l ≠ 0 then bad l else if wordB' id = false then 2 else 0
def refS (l : List UInt8) (id : Int) : ByteArray := if refE l id = 0 then txt (refusal (pktOf l).src id (l.take 28)) else ByteArray.empty

set_option maxHeartbeats 2000000 in
theorem refuse_bad (s : ByteArray) (id : Int) (w : World) (hs : s.size ≤ 140737488351232) (k : Pkt) (hk : parsed s.data.toList = k) (e0 : Int) (hb : bad s.data.toList = e0) (he : e0 ≠ 0) :
    Calls Try.prog 14 #[.string s, .int .i64 id] w fun e w' => e = .returned (.tuple #[.string ByteArray.empty, .int .i64 e0]) ∧ Below w.heap.size w w' := by
  have hz : (e0 == 0) = false := by simpa using he
  go_enter Try.func14, Try.ntmps14
  go_wp2_with (first
    | (go_at_call 9; refine (parse_any s _ hs).mono ?_; rintro e w1 ⟨rfl, hb1⟩; rw [hb, hk]; unfold pv)
    | (go_at_call 29; refine (failedS_any _ _).mono ?_; rintro e w' ⟨rfl, rfl⟩)
    | (go_at_call 31; refine (isWord_any _ _).mono ?_; rintro e w' ⟨rfl, rfl⟩))
  all_goals
    go_ret2
    exact ⟨rfl, hb1.alloc hb1.size _⟩
set_option maxHeartbeats 2000000 in
theorem refuse_word (s : ByteArray) (id : Int) (w : World) (hs : s.size ≤ 140737488351232) (k : Pkt) (hk : parsed s.data.toList = k) (hb : bad s.data.toList = 0) (hid : wordB' id = false) :
    Calls Try.prog 14 #[.string s, .int .i64 id] w fun e w' => e = .returned (.tuple #[.string ByteArray.empty, .int .i64 2]) ∧ Below w.heap.size w w' := by
  go_enter Try.func14, Try.ntmps14
  go_wp2_with (first
    | (go_at_call 9; refine (parse_any s _ hs).mono ?_; rintro e w1 ⟨rfl, hb1⟩; rw [hb, hk]; unfold pv)
    | (go_at_call 29; refine (failedS_any _ _).mono ?_; rintro e w' ⟨rfl, rfl⟩)
    | (go_at_call 31; refine (isWord_any _ _).mono ?_; rintro e w' ⟨rfl, rfl⟩))
  all_goals
    go_ret2
    exact ⟨rfl, hb1.alloc hb1.size _⟩
theorem refuse_below {w w1 w' : World} {o1 o2 o3 : Obj} {G' : Option Nat} (hb : Below w.heap.size w w1) (hS : Step (w1.heap.size + 1 + 1) none G' (((w1.alloc o1).alloc o2).alloc o3) w') : Below w.heap.size w w' := by
  have h1 := hb.size
  have b1 : Below w.heap.size w (((w1.alloc o1).alloc o2).alloc o3) := ((hb.alloc h1 o1).alloc (by simp; omega) o2).alloc (by simp; omega) o3
  exact b1.trans (hS.below (by have := b1.size; omega) (by omega) (fun k e => by cases e))
set_option maxHeartbeats 4000000 in
theorem refuse_ok (s : ByteArray) (id : Int) (w : World) (hs : s.size ≤ 140737488351232) (k : Pkt) (hk : parsed s.data.toList = k) (hb : bad s.data.toList = 0) (hid : wordB' id = true) (hl : 28 ≤ s.size) :
    Calls Try.prog 14 #[.string s, .int .i64 id] w fun e w' => e = .returned (.tuple #[.string (txt (refusal k.src id (s.data.toList.take 28))), .int .i64 0]) ∧ Below w.heap.size w w' := by
  have hx : (s.extract 0 28).data.toList = s.data.toList.take 28 := by rw [ext_list]; simp
  have hxs : (s.extract 0 28).size = 28 := by rw [ext_size _ _ _ hl]
  have z1 : (28 : Int) ≤ (s.size : Int) := by omega
  go_enter Try.func14, Try.ntmps14
  go_wp2_with (first
    | (go_at_call 9; refine (parse_any s _ hs).mono ?_; rintro e w1 ⟨rfl, hb1⟩; rw [hb, hk]; unfold pv)
    | (go_at_call 29; refine (failedS_any _ _).mono ?_; rintro e w' ⟨rfl, rfl⟩)
    | (go_at_call 31; refine (isWord_any _ _).mono ?_; rintro e w' ⟨rfl, rfl⟩))
  have h : Fr (((w1.alloc (.cells #[.int .i64 k.proto, .int .i64 k.src, .int .i64 k.sport, .int .i64 k.dst, .int .i64 k.dport, .int .i64 k.ttl, .int .i64 k.id, .int .i64 k.flags, .int .i64 k.seq, .int .i64 k.ack, .int .i64 k.win, .string k.body] 23)).alloc (.cells #[.int .i64 1, .int .i64 167772414, .int .i64 0, .int .i64 k.src, .int .i64 0, .int .i64 64, .int .i64 id, .int .i64 0, .int .i64 0, .int .i64 0, .int .i64 0, .string ByteArray.empty] 23)).alloc (.cells #[.slice none 0 0] 51)) (w1.heap.size + 1 + 1) none [] := by
    have := fr_new ((w1.alloc (.cells #[.int .i64 k.proto, .int .i64 k.src, .int .i64 k.sport, .int .i64 k.dst, .int .i64 k.dport, .int .i64 k.ttl, .int .i64 k.id, .int .i64 k.flags, .int .i64 k.seq, .int .i64 k.ack, .int .i64 k.win, .string k.body] 23)).alloc (.cells #[.int .i64 1, .int .i64 167772414, .int .i64 0, .int .i64 k.src, .int .i64 0, .int .i64 64, .int .i64 id, .int .i64 0, .int .i64 0, .int .i64 0, .int .i64 0, .string ByteArray.empty] 23))
    simpa using this
  have hS := Step.refl (w1.heap.size + 1 + 1) none (((w1.alloc (.cells #[.int .i64 k.proto, .int .i64 k.src, .int .i64 k.sport, .int .i64 k.dst, .int .i64 k.dport, .int .i64 k.ttl, .int .i64 k.id, .int .i64 k.flags, .int .i64 k.seq, .int .i64 k.ack, .int .i64 k.win, .string k.body] 23)).alloc (.cells #[.int .i64 1, .int .i64 167772414, .int .i64 0, .int .i64 k.src, .int .i64 0, .int .i64 64, .int .i64 id, .int .i64 0, .int .i64 0, .int .i64 0, .int .i64 0, .string ByteArray.empty] 23)).alloc (.cells #[.slice none 0 0] 51))
  have hI : Inv (w1.heap.size + 1) (w1.heap.size + 1 + 1) none (((w1.alloc (.cells #[.int .i64 k.proto, .int .i64 k.src, .int .i64 k.sport, .int .i64 k.dst, .int .i64 k.dport, .int .i64 k.ttl, .int .i64 k.id, .int .i64 k.flags, .int .i64 k.seq, .int .i64 k.ack, .int .i64 k.win, .string k.body] 23)).alloc (.cells #[.int .i64 1, .int .i64 167772414, .int .i64 0, .int .i64 k.src, .int .i64 0, .int .i64 64, .int .i64 id, .int .i64 0, .int .i64 0, .int .i64 0, .int .i64 0, .string ByteArray.empty] 23)).alloc (.cells #[.slice none 0 0] 51)) #[.int .i64 1, .int .i64 167772414, .int .i64 0, .int .i64 k.src, .int .i64 0, .int .i64 64, .int .i64 id, .int .i64 0, .int .i64 0, .int .i64 0, .int .i64 0, .string ByteArray.empty] :=
    ⟨by simp, by omega, by simp, fun o => by
      have := box_cell (w1.alloc (.cells #[.int .i64 k.proto, .int .i64 k.src, .int .i64 k.sport, .int .i64 k.dst, .int .i64 k.dport, .int .i64 k.ttl, .int .i64 k.id, .int .i64 k.flags, .int .i64 k.seq, .int .i64 k.ack, .int .i64 k.win, .string k.body] 23)) #[.int .i64 1, .int .i64 167772414, .int .i64 0, .int .i64 k.src, .int .i64 0, .int .i64 64, .int .i64 id, .int .i64 0, .int .i64 0, .int .i64 0, .int .i64 0, .string ByteArray.empty] 23 o
      rw [show (w1.alloc (.cells #[.int .i64 k.proto, .int .i64 k.src, .int .i64 k.sport, .int .i64 k.dst, .int .i64 k.dport, .int .i64 k.ttl, .int .i64 k.id, .int .i64 k.flags, .int .i64 k.seq, .int .i64 k.ack, .int .i64 k.win, .string k.body] 23)).heap.size = w1.heap.size + 1 by simp] at this
      exact (World.cell?_of_block (a := ⟨w1.heap.size + 1, o, none⟩) (Below.heap_alloc _ _ _ (by simp))).trans this⟩
  have hbox2 := hI.cell
  go_region_held3 (fun w' => w'.cell? ⟨w1.heap.size + 1, 0, none⟩ = some (.int .i64 1) ∧ w'.cell? ⟨w1.heap.size + 1, 1, none⟩ = some (.int .i64 167772414) ∧ w'.cell? ⟨w1.heap.size + 1, 2, none⟩ = some (.int .i64 0) ∧ w'.cell? ⟨w1.heap.size + 1, 3, none⟩ = some (.int .i64 k.src) ∧ w'.cell? ⟨w1.heap.size + 1, 4, none⟩ = some (.int .i64 0) ∧ w'.cell? ⟨w1.heap.size + 1, 5, none⟩ = some (.int .i64 64) ∧ w'.cell? ⟨w1.heap.size + 1, 6, none⟩ = some (.int .i64 id) ∧ w'.cell? ⟨w1.heap.size + 1, 7, none⟩ = some (.int .i64 0) ∧ w'.cell? ⟨w1.heap.size + 1, 8, none⟩ = some (.int .i64 0) ∧ w'.cell? ⟨w1.heap.size + 1, 9, none⟩ = some (.int .i64 0) ∧ w'.cell? ⟨w1.heap.size + 1, 10, none⟩ = some (.int .i64 0) ∧ w'.cell? ⟨w1.heap.size + 1, 11, none⟩ = some (.string ByteArray.empty))
    (first | exact ⟨hI.cell 0, hI.cell 1, hI.cell 2, hI.cell 3, hI.cell 4, hI.cell 5, hI.cell 6, hI.cell 7, hI.cell 8, hI.cell 9, hI.cell 10, hI.cell 11⟩ | go_keep)
    (first
    | (go_at_call 38; refine (partBytes_any _ _).mono ?_; rintro e w' ⟨rfl, rfl⟩)
    | (go_at_call 37; refine (addHead_any _ _ _ _ h.drew (rp k.src id) _ (by (try simp) <;> omega)).mono ?_; rintro e w' ⟨rfl, G1, h, hst⟩; replace hst := step_drew hst; replace hI := hI.step hst; replace hS := hS.trans hst; clear hst; have hbox := hI.cell))
  go_wp2_with (first
    | (go_at_call 39; (refine (addBytes_any _ _ _ _ (h.alloc _) _ 8 [3, 13, 0, 0, 0, 0, 0, 0] (new_cells _ _ _ rfl) (by (try simp) <;> omega)).mono ?_; rintro e w' ⟨rfl, G1, h, hst⟩; replace hst := step_new hst; replace hI := hI.step hst; replace hS := hS.trans hst; clear hst; have hbox := hI.cell))
    | (go_at_call 40; refine (addText_any _ _ _ _ h _ (by simp <;> omega)).mono ?_; rintro e w' ⟨rfl, G1, h, hst⟩; replace hI := hI.step hst; replace hS := hS.trans hst; clear hst; have hbox := hI.cell; rw [hx, List.nil_append, List.append_assoc] at h; change Fr _ _ _ (rfr k.src id (s.data.toList.take 28) 0 0) at h)
    | (go_at_call 41; obtain ⟨g, hG, hpg, hrd⟩ := h.rd (by intro e; have := congrArg List.length e; simp [rfr_len] at this); rw [hG] at hS; refine (sealHead_any _ g _ _ hrd (by rw [rfr_len]; omega)).mono ?_; rintro e w' ⟨rfl, hrd, hst⟩; rw [hG] at hI; replace hI := hI.step hst; replace hS := hS.trans hst; clear hst; have hbox := hI.cell; rw [rfr_sealH] at hrd)
    | (go_at_call 42; refine (sealPart_any _ g _ _ hrd 1 (by rw [rfr_len]; show 22 + 1 < _; omega) (by rw [rfr_len]; simp; omega)).mono ?_; rintro e w' ⟨rfl, hrd, hst⟩; replace hS := hS.trans hst; clear hst; rw [rfr_sealP] at hrd)
    | (go_at_call 35; refine (text_any _ g _ _ hrd).mono ?_; rintro e w' ⟨rfl, rfl⟩))
  go_ret2
  exact ⟨rfl, refuse_below hb1 hS⟩
/-- the sum of a text. -/
def sumT (s : ByteArray) : Int := bk (tot s.data.toList)
theorem ofsum_any (s : ByteArray) (w : World) (hs : s.size ≤ 562949953421312) : Calls Try.prog 50 #[.string s] w fun e w' => e = .returned (.int .i64 (sumT s)) ∧ w' = w := of_any s w hs
theorem refuse_any (s : ByteArray) (id : Int) (w : World) (hs : s.size ≤ 140737488351232) :
    Calls Try.prog 14 #[.string s, .int .i64 id] w fun e w' => e = .returned (.tuple #[.string (refS s.data.toList id), .int .i64 (refE s.data.toList id)]) ∧ Below w.heap.size w w' := by
  unfold refS
  by_cases hb : bad s.data.toList = 0
  · have hk : parsed s.data.toList = pktOf s.data.toList := by unfold parsed; rw [if_pos hb]
    by_cases hi : wordB' id = false
    · have e : refE s.data.toList id = 2 := by unfold refE; rw [if_neg (by omega), if_pos hi]
      rw [e]; exact refuse_word s id w hs _ rfl hb hi
    have e : refE s.data.toList id = 0 := by unfold refE; rw [if_neg (by omega), if_neg hi]
    rw [e, if_pos rfl]
    obtain ⟨H, P, _⟩ := bad_zero _ hb
    have hpl := part_least _ H.kind
    have hln := P.len
    have hll := len_list s
    exact refuse_ok s id w hs _ hk hb (by simpa using hi) (by omega)
  · have e : refE s.data.toList id = bad s.data.toList := by unfold refE; rw [if_pos hb]
    rw [e, if_neg hb]; exact refuse_bad s id w hs _ rfl _ rfl hb

theorem tot_hd (p : Pkt) (n c : Int) (h0 : 0 ≤ c) (h1 : c ≤ 65535) : tot (hd p n c) = tot (hd p n 0) + c := by
  have e : ∀ c, tot (hd p n c) = tot ([69, 0] ++ w16 n ++ w16 p.id ++ w16 0 ++ [b8 p.ttl, b8 p.proto]) + (tot (w16 c) + tot (l32 p.src ++ l32 p.dst)) := fun c => by
    unfold hd
    rw [List.append_assoc, List.append_assoc, tot_append _ _ (by simp), tot_append _ (w16 c) (by simp)]
  rw [e c, e 0, w16_tot, w16_tot]; omega
theorem refusal_head (dst id : Int) : bk (tot (hd (rp dst id) 56 (rchkH dst id))) = 65535 := by
  have h := bk_bd (tot (hd (rp dst id) 56 0))
  unfold rchkH
  rw [tot_hd _ _ _ (by omega) (by omega)]
  exact bk_full _ (tot_nonneg _)
theorem refusal_part (x : List UInt8) : bk (tot ([3, 13] ++ w16 (rchkP x) ++ [0, 0, 0, 0] ++ x)) = 65535 := by
  have e : ∀ c, tot ([3, 13] ++ w16 c ++ [0, 0, 0, 0] ++ x) = tot [3, 13] + (tot (w16 c) + tot ([0, 0, 0, 0] ++ x)) := fun c => by
    rw [List.append_assoc, List.append_assoc, tot_append _ _ (by simp), tot_append _ (w16 c) (by simp)]
  have h := bk_bd (tot ([3, 13] ++ w16 0 ++ [0, 0, 0, 0] ++ x))
  have g : tot ([3, 13] ++ w16 (rchkP x) ++ [0, 0, 0, 0] ++ x) = tot ([3, 13] ++ w16 0 ++ [0, 0, 0, 0] ++ x) + rchkP x := by
    rw [e, e, w16_tot, w16_tot]
    unfold rchkP; omega
  rw [g]
  exact bk_full _ (tot_nonneg _)
theorem refusal_bad (dst id : Int) (x : List UInt8) (hx : x.length = 28) : bad (refusal dst id x) = 4 := by
  have hl : (refusal dst id x).length = 56 := by unfold refusal; rw [rfr_len]; omega
  have H : headBad (refusal dst id x) = 0 := by
    refine head_ok_bad _ ⟨by omega, rfl, ?_, refusal_head dst id, rfl, by rw [show wAt (refusal dst id x) 6 = ((b8 (0 / 256)).toNat : Int) * 256 + ((b8 0).toNat : Int) from rfl, b8_nat, b8_nat]; omega, by rw [show byt (refusal dst id x) 8 = ((b8 64).toNat : Int) from rfl, b8_nat]; omega, by rw [show byt (refusal dst id x) 9 = ((b8 1).toNat : Int) from rfl, b8_nat]; rfl⟩
    rw [hl, show wAt (refusal dst id x) 2 = ((b8 (56 / 256)).toNat : Int) * 256 + ((b8 56).toNat : Int) from rfl, b8_nat, b8_nat]; omega
  have h20 : byt (refusal dst id x) 20 = 3 := rfl
  have P : partBad (refusal dst id x) (byt (refusal dst id x) 9) = 4 := by
    rw [show byt (refusal dst id x) 9 = 1 by rw [show byt (refusal dst id x) 9 = ((b8 1).toNat : Int) from rfl, b8_nat]; omega]
    unfold partBad
    rw [hl, if_neg (by show ¬ ((56 : Nat) : Int) - 20 < 8; omega), if_neg (by rw [show chkd (refusal dst id x) 1 = [3, 13] ++ w16 (rchkP x) ++ [0, 0, 0, 0] ++ x from rfl, refusal_part x]; omega), if_neg (by omega), if_pos ⟨rfl, by rw [h20]; omega, by rw [h20]; omega⟩]
  unfold bad
  rw [if_neg (by omega), P, if_pos (by omega)]
end Go.Proofs.Ythcedehppflcgab
