/-
  The walk of the document's own Build.
-/
import Derived.Test.YthcedehppflcgabRefG
import Derived.Test.YthcedehppflcgabReads
import Derived.Test.YthcedehppflcgabReadPing
import Derived.Deep.RegionHeld3
namespace Go.Proofs.Ythcedehppflcgab
open Go.ChangeShapes Go.WideShapes Go.ChangeAt Go.RowKit

@[simp] theorem txt_hd (k : Pkt) (n c : Int) : (txt (hd k n c)).size = 20 := rfl
theorem of_list {s : ByteArray} {l : List UInt8} (h : s.data.toList = l) : s = txt l := by rw [← h, txt_of]
theorem below_undrew {W w' : World} (h : Below W.drew.heap.size W.drew w') : Below W.heap.size W w' := ⟨h.os, h.tape, h.output, h.size, h.block⟩
theorem twelve_bel {w w' : World} {b : Nat} {cs : Array Value} (h : Twelve w b cs) (hb : Below w.heap.size w w') : Twelve w' b cs := (hb.block b (Array.getElem?_eq_some_iff.1 h).1).trans h
theorem ahead_eq (src dst proto n m : Int) (w : World) (h : n = m) (h0 : 0 ≤ proto ∧ proto ≤ 255) (h1 : 0 ≤ src ∧ src ≤ 4294967295) (h2 : 0 ≤ dst ∧ dst ≤ 4294967295) (h3 : 0 ≤ m ∧ m ≤ 140737488351232) :
    Calls Try.prog 26 #[.int .i64 src, .int .i64 dst, .int .i64 proto, .int .i64 n] w fun e w' => e = .returned (.string (txt (ps src dst proto m))) ∧ Below w.heap.size w w' := by
  subst h; exact ahead_any src dst proto n w h0 h1 h2 h3
theorem check_eq (s : ByteArray) (l : List UInt8) (w : World) (h : s = txt l) (hs : l.length ≤ 140737488351232) :
    Calls Try.prog 45 #[.string s] w fun e w' => e = .returned (.int .i64 (65535 - bk (tot l))) ∧ Below w.heap.size w w' := by
  subst h
  have := checkRef_any (txt l) w (by rw [txt_size]; exact hs)
  rw [txt_list] at this; exact this
theorem head_eq (k : Pkt) (n m : Int) (w : World) (h : n = m) (n0 : 0 ≤ m) (n1 : m ≤ 1000000) (h0 : 0 ≤ k.proto ∧ k.proto ≤ 255) (h1 : 0 ≤ k.src ∧ k.src ≤ 4294967295) (h2 : 0 ≤ k.dst ∧ k.dst ≤ 4294967295) (h3 : 0 ≤ k.ttl ∧ k.ttl ≤ 255) (h4 : 0 ≤ k.id ∧ k.id ≤ 65535) :
    Calls Try.prog 43 #[.int .i64 k.proto, .int .i64 k.src, .int .i64 k.dst, .int .i64 k.ttl, .int .i64 k.id, .int .i64 n] w fun e w' => e = .returned (.string (txt (hd k (20 + m) (65535 - bk (tot (hd k (20 + m) 0)))))) ∧ Below w.heap.size w w' := by
  subst h; exact headOf_any k n w n0 n1 h0 h1 h2 h3 h4

set_option maxRecDepth 10000 in
set_option maxHeartbeats 4000000 in
theorem bref_1 (src sport dst dport ttl id flags seq ack win : Int) (body : ByteArray) (w : World) (hg : good ⟨1, src, sport, dst, dport, ttl, id, flags, seq, ack, win, body⟩ = 0) :
    Calls Try.prog 36 #[.agg #[.int .i64 1, .int .i64 src, .int .i64 sport, .int .i64 dst, .int .i64 dport, .int .i64 ttl, .int .i64 id, .int .i64 flags, .int .i64 seq, .int .i64 ack, .int .i64 win, .string body]] w fun e w' => e = .returned (.tuple #[.string (txt (frame ⟨1, src, sport, dst, dport, ttl, id, flags, seq, ack, win, body⟩)), .int .i64 0]) ∧ Below w.heap.size w w' := by
  have T0 : Twelve (w.alloc (.cells #[.int .i64 1, .int .i64 src, .int .i64 sport, .int .i64 dst, .int .i64 dport, .int .i64 ttl, .int .i64 id, .int .i64 flags, .int .i64 seq, .int .i64 ack, .int .i64 win, .string body] 23)) w.heap.size #[.int .i64 1, .int .i64 src, .int .i64 sport, .int .i64 dst, .int .i64 dport, .int .i64 ttl, .int .i64 id, .int .i64 flags, .int .i64 seq, .int .i64 ack, .int .i64 win, .string body] := heap_alloc_new w _
  have hB : Below w.heap.size w (w.alloc (.cells #[.int .i64 1, .int .i64 src, .int .i64 sport, .int .i64 dst, .int .i64 dport, .int .i64 ttl, .int .i64 id, .int .i64 flags, .int .i64 seq, .int .i64 ack, .int .i64 win, .string body] 23)) := (Below.refl _ _).alloc (Nat.le_refl _) _
  have c0 := T0.cell
  have h64 : body.size ≤ 64 := (good_zero _ hg).2.2.1
  have R := (range_iff _).1 (good_zero _ hg).2.1
  simp only [] at R
  have CG : ∀ w, Calls Try.prog 27 #[.agg #[.int .i64 1, .int .i64 src, .int .i64 sport, .int .i64 dst, .int .i64 dport, .int .i64 ttl, .int .i64 id, .int .i64 flags, .int .i64 seq, .int .i64 ack, .int .i64 win, .string body]] w fun e w' => e = .returned (.int .i64 0) ∧ Below w.heap.size w w' := by
    intro w
    have := gref_any ⟨1, src, sport, dst, dport, ttl, id, flags, seq, ack, win, body⟩ w (by show body.size ≤ _; omega) (by show _ ≤ ttl ∧ ttl ≤ _; omega)
    rw [hg] at this; exact this
  obtain ⟨q0, q1, q2, q3, q4, q5, q6, q7, q8, q9, q10, q11, q12, q13, q14, q15, q16, q17, q18, q19⟩ := R
  clear hg
  have hcb := bk_bd (tot (ps src dst 1 (8 + (body.size : Int)) ++ (pt ⟨1, src, sport, dst, dport, ttl, id, flags, seq, ack, win, body⟩ 0 ++ body.data.toList)))
  have CC : ∀ s w, s = txt (ps src dst 1 (8 + (body.size : Int)) ++ (pt ⟨1, src, sport, dst, dport, ttl, id, flags, seq, ack, win, body⟩ 0 ++ body.data.toList)) → Calls Try.prog 45 #[.string s] w fun e w' => e = .returned (.int .i64 (chkP0 ⟨1, src, sport, dst, dport, ttl, id, flags, seq, ack, win, body⟩)) ∧ Below w.heap.size w w' := by
    intro s w h
    refine check_eq s _ w h ?_
    simp [pt, ps, w16]; omega
  have hc0 : chkP0 ⟨1, src, sport, dst, dport, ttl, id, flags, seq, ack, win, body⟩ = 65535 - bk (tot (ps src dst 1 (8 + (body.size : Int)) ++ (pt ⟨1, src, sport, dst, dport, ttl, id, flags, seq, ack, win, body⟩ 0 ++ body.data.toList))) := rfl
  have hc1 : 0 ≤ chkP0 ⟨1, src, sport, dst, dport, ttl, id, flags, seq, ack, win, body⟩ ∧ chkP0 ⟨1, src, sport, dst, dport, ttl, id, flags, seq, ack, win, body⟩ ≤ 65535 := by omega
  have HF : Hid (∀ s, s = txt (hd ⟨1, src, sport, dst, dport, ttl, id, flags, seq, ack, win, body⟩ (20 + (8 + (body.size : Int))) (65535 - bk (tot (hd ⟨1, src, sport, dst, dport, ttl, id, flags, seq, ack, win, body⟩ (20 + (8 + (body.size : Int))) 0)))) ++ (txt [b8 flags] ++ { data := #[0] }) ++ txt (w16 (chkP ⟨1, src, sport, dst, dport, ttl, id, flags, seq, ack, win, body⟩)) ++ (txt (w16 (sport + dport)) ++ txt (w16 seq) ++ body) → s = txt (frame ⟨1, src, sport, dst, dport, ttl, id, flags, seq, ack, win, body⟩)) := by
    show ∀ s, _ → _
    rintro s rfl
    have e : flen ⟨1, src, sport, dst, dport, ttl, id, flags, seq, ack, win, body⟩ = 20 + (8 + (body.size : Int)) := by show 20 + 8 + (body.size : Int) = _; omega
    apply of_list
    unfold frame chkH fr
    rw [e]
    simp [txt, pt, w16]
  clear hcb hc0
  have Hc : Hid (chkP ⟨1, src, sport, dst, dport, ttl, id, flags, seq, ack, win, body⟩ = chkP0 ⟨1, src, sport, dst, dport, ttl, id, flags, seq, ack, win, body⟩) := by show _ = _; unfold chkP; rw [if_neg (by simp)]
  generalize chkP0 ⟨1, src, sport, dst, dport, ttl, id, flags, seq, ack, win, body⟩ = ck at *
  have hps : (txt (ps src dst 1 (8 + (body.size : Int)))).size = 0 := rfl
  have hw1 : IntKind.i64.wrap (sport + dport) = sport + dport := wrap_i64 _ (by omega) (by omega)
  have hw2 : IntKind.i64.wrap (8 + (body.size : Int)) = 8 + (body.size : Int) := wrap_i64 _ (by omega) (by omega)
  go_enter Try.func36, Try.ntmps36
  go_wp2_with (go_at_call 27; go_fit (CG _); rintro e w' ⟨rfl, hb⟩; (try replace hb := below_undrew hb); replace T0 := twelve_bel T0 hb; have c0 := T0.cell; replace hB := hB.trans (hb.mono hB.size))
  go_region_held3 (fun w' => w'.cell? ⟨w.heap.size, 0, none⟩ = some (.int .i64 1) ∧ w'.cell? ⟨w.heap.size, 1, none⟩ = some (.int .i64 src) ∧ w'.cell? ⟨w.heap.size, 2, none⟩ = some (.int .i64 sport) ∧ w'.cell? ⟨w.heap.size, 3, none⟩ = some (.int .i64 dst) ∧ w'.cell? ⟨w.heap.size, 4, none⟩ = some (.int .i64 dport) ∧ w'.cell? ⟨w.heap.size, 5, none⟩ = some (.int .i64 ttl) ∧ w'.cell? ⟨w.heap.size, 6, none⟩ = some (.int .i64 id) ∧ w'.cell? ⟨w.heap.size, 7, none⟩ = some (.int .i64 flags) ∧ w'.cell? ⟨w.heap.size, 8, none⟩ = some (.int .i64 seq) ∧ w'.cell? ⟨w.heap.size, 9, none⟩ = some (.int .i64 ack) ∧ w'.cell? ⟨w.heap.size, 10, none⟩ = some (.int .i64 win) ∧ w'.cell? ⟨w.heap.size, 11, none⟩ = some (.string body))
    (first | exact ⟨T0.cell 0, T0.cell 1, T0.cell 2, T0.cell 3, T0.cell 4, T0.cell 5, T0.cell 6, T0.cell 7, T0.cell 8, T0.cell 9, T0.cell 10, T0.cell 11⟩ | go_keep)
    (first
    | (go_at_call 44; go_fit (bytes2_any _ _ (by omega) (by omega)); rintro e w' ⟨rfl, hb⟩; (try replace hb := below_undrew hb); replace T0 := twelve_bel T0 hb; have c0 := T0.cell; replace hB := hB.trans (hb.mono hB.size))
    | (go_at_call 44; go_fit (bytes1_any _ _ (by omega) (by omega)); rintro e w' ⟨rfl, hb⟩; (try replace hb := below_undrew hb); replace T0 := twelve_bel T0 hb; have c0 := T0.cell; replace hB := hB.trans (hb.mono hB.size))
    | (go_at_call 44; go_fit (bytes4_any _ _ (by omega) (by omega)); rintro e w' ⟨rfl, hb⟩; (try replace hb := below_undrew hb); replace T0 := twelve_bel T0 hb; have c0 := T0.cell; replace hB := hB.trans (hb.mono hB.size)))
  go_wp2_with (first
    | (go_at_call 26; go_fit (ahead_eq _ _ _ _ (8 + (body.size : Int)) _ (by omega) (by omega) (by omega) (by omega) (by omega)); rintro e w' ⟨rfl, hb⟩; (try replace hb := below_undrew hb); replace T0 := twelve_bel T0 hb; have c0 := T0.cell; replace hB := hB.trans (hb.mono hB.size))
    | (go_at_call 45; go_fit (CC _ _ (by apply of_list; simp [txt, pt, ps, w16] <;> rfl)); rintro e w' ⟨rfl, hb⟩; (try replace hb := below_undrew hb); replace T0 := twelve_bel T0 hb; have c0 := T0.cell; replace hB := hB.trans (hb.mono hB.size))
    | (go_at_call 43; go_fit (head_eq ⟨1, src, sport, dst, dport, ttl, id, flags, seq, ack, win, body⟩ _ (8 + (body.size : Int)) _ (by omega) (by omega) (by omega) (by show (0:Int) ≤ 1 ∧ (1:Int) ≤ 255; omega) ⟨q0, q1⟩ ⟨q2, q3⟩ (by show 0 ≤ ttl ∧ ttl ≤ 255; omega) (by show 0 ≤ id ∧ id ≤ 65535; omega)); rintro e w' ⟨rfl, hb⟩; (try replace hb := below_undrew hb); replace T0 := twelve_bel T0 hb; have c0 := T0.cell; replace hB := hB.trans (hb.mono hB.size))
    | (go_at_call 44; go_fit (bytes2_any _ _ (by omega) (by omega)); rintro e w' ⟨rfl, hb⟩; (try replace hb := below_undrew hb); replace T0 := twelve_bel T0 hb; have c0 := T0.cell; replace hB := hB.trans (hb.mono hB.size)))
  go_ret2
  exact ⟨ret_two (congrArg Value.string (HF.out _ (by rw [Hc.out]))) rfl, hB⟩

set_option maxRecDepth 10000 in
set_option maxHeartbeats 4000000 in
theorem bref_17 (src sport dst dport ttl id flags seq ack win : Int) (body : ByteArray) (w : World) (hg : good ⟨17, src, sport, dst, dport, ttl, id, flags, seq, ack, win, body⟩ = 0) :
    Calls Try.prog 36 #[.agg #[.int .i64 17, .int .i64 src, .int .i64 sport, .int .i64 dst, .int .i64 dport, .int .i64 ttl, .int .i64 id, .int .i64 flags, .int .i64 seq, .int .i64 ack, .int .i64 win, .string body]] w fun e w' => e = .returned (.tuple #[.string (txt (frame ⟨17, src, sport, dst, dport, ttl, id, flags, seq, ack, win, body⟩)), .int .i64 0]) ∧ Below w.heap.size w w' := by
  have T0 : Twelve (w.alloc (.cells #[.int .i64 17, .int .i64 src, .int .i64 sport, .int .i64 dst, .int .i64 dport, .int .i64 ttl, .int .i64 id, .int .i64 flags, .int .i64 seq, .int .i64 ack, .int .i64 win, .string body] 23)) w.heap.size #[.int .i64 17, .int .i64 src, .int .i64 sport, .int .i64 dst, .int .i64 dport, .int .i64 ttl, .int .i64 id, .int .i64 flags, .int .i64 seq, .int .i64 ack, .int .i64 win, .string body] := heap_alloc_new w _
  have hB : Below w.heap.size w (w.alloc (.cells #[.int .i64 17, .int .i64 src, .int .i64 sport, .int .i64 dst, .int .i64 dport, .int .i64 ttl, .int .i64 id, .int .i64 flags, .int .i64 seq, .int .i64 ack, .int .i64 win, .string body] 23)) := (Below.refl _ _).alloc (Nat.le_refl _) _
  have c0 := T0.cell
  have h64 : body.size ≤ 64 := (good_zero _ hg).2.2.1
  have R := (range_iff _).1 (good_zero _ hg).2.1
  simp only [] at R
  have CG : ∀ w, Calls Try.prog 27 #[.agg #[.int .i64 17, .int .i64 src, .int .i64 sport, .int .i64 dst, .int .i64 dport, .int .i64 ttl, .int .i64 id, .int .i64 flags, .int .i64 seq, .int .i64 ack, .int .i64 win, .string body]] w fun e w' => e = .returned (.int .i64 0) ∧ Below w.heap.size w w' := by
    intro w
    have := gref_any ⟨17, src, sport, dst, dport, ttl, id, flags, seq, ack, win, body⟩ w (by show body.size ≤ _; omega) (by show _ ≤ ttl ∧ ttl ≤ _; omega)
    rw [hg] at this; exact this
  obtain ⟨q0, q1, q2, q3, q4, q5, q6, q7, q8, q9, q10, q11, q12, q13, q14, q15, q16, q17, q18, q19⟩ := R
  clear hg
  have hcb := bk_bd (tot (ps src dst 17 (8 + (body.size : Int)) ++ (pt ⟨17, src, sport, dst, dport, ttl, id, flags, seq, ack, win, body⟩ 0 ++ body.data.toList)))
  have CC : ∀ s w, s = txt (ps src dst 17 (8 + (body.size : Int)) ++ (pt ⟨17, src, sport, dst, dport, ttl, id, flags, seq, ack, win, body⟩ 0 ++ body.data.toList)) → Calls Try.prog 45 #[.string s] w fun e w' => e = .returned (.int .i64 (chkP0 ⟨17, src, sport, dst, dport, ttl, id, flags, seq, ack, win, body⟩)) ∧ Below w.heap.size w w' := by
    intro s w h
    refine check_eq s _ w h ?_
    simp [pt, ps, w16, l32]; omega
  have hc0 : chkP0 ⟨17, src, sport, dst, dport, ttl, id, flags, seq, ack, win, body⟩ = 65535 - bk (tot (ps src dst 17 (8 + (body.size : Int)) ++ (pt ⟨17, src, sport, dst, dport, ttl, id, flags, seq, ack, win, body⟩ 0 ++ body.data.toList))) := rfl
  have hc1 : 0 ≤ chkP0 ⟨17, src, sport, dst, dport, ttl, id, flags, seq, ack, win, body⟩ ∧ chkP0 ⟨17, src, sport, dst, dport, ttl, id, flags, seq, ack, win, body⟩ ≤ 65535 := by omega
  have HF : Hid (∀ s, s = txt (hd ⟨17, src, sport, dst, dport, ttl, id, flags, seq, ack, win, body⟩ (20 + (8 + (body.size : Int))) (65535 - bk (tot (hd ⟨17, src, sport, dst, dport, ttl, id, flags, seq, ack, win, body⟩ (20 + (8 + (body.size : Int))) 0)))) ++ (txt (w16 sport) ++ txt (w16 dport) ++ txt (w16 (8 + (body.size : Int)))) ++ txt (w16 (chkP ⟨17, src, sport, dst, dport, ttl, id, flags, seq, ack, win, body⟩)) ++ ({ data := #[] } ++ body) → s = txt (frame ⟨17, src, sport, dst, dport, ttl, id, flags, seq, ack, win, body⟩)) := by
    show ∀ s, _ → _
    rintro s rfl
    have e : flen ⟨17, src, sport, dst, dport, ttl, id, flags, seq, ack, win, body⟩ = 20 + (8 + (body.size : Int)) := by show 20 + 8 + (body.size : Int) = _; omega
    apply of_list
    unfold frame chkH fr
    rw [e]
    simp [txt, pt, w16]
  clear hcb hc0
  have Hc : Hid (chkP ⟨17, src, sport, dst, dport, ttl, id, flags, seq, ack, win, body⟩ = if chkP0 ⟨17, src, sport, dst, dport, ttl, id, flags, seq, ack, win, body⟩ = 0 then 65535 else chkP0 ⟨17, src, sport, dst, dport, ttl, id, flags, seq, ack, win, body⟩) := by show _ = _; unfold chkP; simp
  generalize chkP0 ⟨17, src, sport, dst, dport, ttl, id, flags, seq, ack, win, body⟩ = ck at *
  have hps : (txt (ps src dst 17 (8 + (body.size : Int)))).size = 12 := rfl
  have hw1 : IntKind.i64.wrap (sport + dport) = sport + dport := wrap_i64 _ (by omega) (by omega)
  have hw2 : IntKind.i64.wrap (8 + (body.size : Int)) = 8 + (body.size : Int) := wrap_i64 _ (by omega) (by omega)
  by_cases hz0 : ck = 0
  · have hz : Hid (ck = 0) := hz0
    have ez : (ck == 0) = true := by simpa using hz0
    clear hz0
    go_enter Try.func36, Try.ntmps36
    go_wp2_with (go_at_call 27; go_fit (CG _); rintro e w' ⟨rfl, hb⟩; (try replace hb := below_undrew hb); replace T0 := twelve_bel T0 hb; have c0 := T0.cell; replace hB := hB.trans (hb.mono hB.size))
    go_region_held3 (fun w' => w'.cell? ⟨w.heap.size, 0, none⟩ = some (.int .i64 17) ∧ w'.cell? ⟨w.heap.size, 1, none⟩ = some (.int .i64 src) ∧ w'.cell? ⟨w.heap.size, 2, none⟩ = some (.int .i64 sport) ∧ w'.cell? ⟨w.heap.size, 3, none⟩ = some (.int .i64 dst) ∧ w'.cell? ⟨w.heap.size, 4, none⟩ = some (.int .i64 dport) ∧ w'.cell? ⟨w.heap.size, 5, none⟩ = some (.int .i64 ttl) ∧ w'.cell? ⟨w.heap.size, 6, none⟩ = some (.int .i64 id) ∧ w'.cell? ⟨w.heap.size, 7, none⟩ = some (.int .i64 flags) ∧ w'.cell? ⟨w.heap.size, 8, none⟩ = some (.int .i64 seq) ∧ w'.cell? ⟨w.heap.size, 9, none⟩ = some (.int .i64 ack) ∧ w'.cell? ⟨w.heap.size, 10, none⟩ = some (.int .i64 win) ∧ w'.cell? ⟨w.heap.size, 11, none⟩ = some (.string body))
      (first | exact ⟨T0.cell 0, T0.cell 1, T0.cell 2, T0.cell 3, T0.cell 4, T0.cell 5, T0.cell 6, T0.cell 7, T0.cell 8, T0.cell 9, T0.cell 10, T0.cell 11⟩ | go_keep)
      (first
      | (go_at_call 44; go_fit (bytes2_any _ _ (by omega) (by omega)); rintro e w' ⟨rfl, hb⟩; (try replace hb := below_undrew hb); replace T0 := twelve_bel T0 hb; have c0 := T0.cell; replace hB := hB.trans (hb.mono hB.size))
      | (go_at_call 44; go_fit (bytes1_any _ _ (by omega) (by omega)); rintro e w' ⟨rfl, hb⟩; (try replace hb := below_undrew hb); replace T0 := twelve_bel T0 hb; have c0 := T0.cell; replace hB := hB.trans (hb.mono hB.size))
      | (go_at_call 44; go_fit (bytes4_any _ _ (by omega) (by omega)); rintro e w' ⟨rfl, hb⟩; (try replace hb := below_undrew hb); replace T0 := twelve_bel T0 hb; have c0 := T0.cell; replace hB := hB.trans (hb.mono hB.size)))
    go_wp2_with (first
      | (go_at_call 26; go_fit (ahead_eq _ _ _ _ (8 + (body.size : Int)) _ (by omega) (by omega) (by omega) (by omega) (by omega)); rintro e w' ⟨rfl, hb⟩; (try replace hb := below_undrew hb); replace T0 := twelve_bel T0 hb; have c0 := T0.cell; replace hB := hB.trans (hb.mono hB.size))
      | (go_at_call 45; go_fit (CC _ _ (by apply of_list; simp [txt, pt, ps, w16, l32] <;> rfl)); rintro e w' ⟨rfl, hb⟩; (try replace hb := below_undrew hb); replace T0 := twelve_bel T0 hb; have c0 := T0.cell; replace hB := hB.trans (hb.mono hB.size))
      | (go_at_call 43; go_fit (head_eq ⟨17, src, sport, dst, dport, ttl, id, flags, seq, ack, win, body⟩ _ (8 + (body.size : Int)) _ (by omega) (by omega) (by omega) (by show (0:Int) ≤ 17 ∧ (17:Int) ≤ 255; omega) ⟨q0, q1⟩ ⟨q2, q3⟩ (by show 0 ≤ ttl ∧ ttl ≤ 255; omega) (by show 0 ≤ id ∧ id ≤ 65535; omega)); rintro e w' ⟨rfl, hb⟩; (try replace hb := below_undrew hb); replace T0 := twelve_bel T0 hb; have c0 := T0.cell; replace hB := hB.trans (hb.mono hB.size))
      | (go_at_call 44; go_fit (bytes2_any _ _ (by omega) (by omega)); rintro e w' ⟨rfl, hb⟩; (try replace hb := below_undrew hb); replace T0 := twelve_bel T0 hb; have c0 := T0.cell; replace hB := hB.trans (hb.mono hB.size)))
    go_ret2
    exact ⟨ret_two (congrArg Value.string (HF.out _ (by rw [Hc.out, if_pos hz.out]))) rfl, hB⟩
  · have hz : Hid (¬ ck = 0) := hz0
    have ez : (ck == 0) = false := by simpa using hz0
    clear hz0
    go_enter Try.func36, Try.ntmps36
    go_wp2_with (go_at_call 27; go_fit (CG _); rintro e w' ⟨rfl, hb⟩; (try replace hb := below_undrew hb); replace T0 := twelve_bel T0 hb; have c0 := T0.cell; replace hB := hB.trans (hb.mono hB.size))
    go_region_held3 (fun w' => w'.cell? ⟨w.heap.size, 0, none⟩ = some (.int .i64 17) ∧ w'.cell? ⟨w.heap.size, 1, none⟩ = some (.int .i64 src) ∧ w'.cell? ⟨w.heap.size, 2, none⟩ = some (.int .i64 sport) ∧ w'.cell? ⟨w.heap.size, 3, none⟩ = some (.int .i64 dst) ∧ w'.cell? ⟨w.heap.size, 4, none⟩ = some (.int .i64 dport) ∧ w'.cell? ⟨w.heap.size, 5, none⟩ = some (.int .i64 ttl) ∧ w'.cell? ⟨w.heap.size, 6, none⟩ = some (.int .i64 id) ∧ w'.cell? ⟨w.heap.size, 7, none⟩ = some (.int .i64 flags) ∧ w'.cell? ⟨w.heap.size, 8, none⟩ = some (.int .i64 seq) ∧ w'.cell? ⟨w.heap.size, 9, none⟩ = some (.int .i64 ack) ∧ w'.cell? ⟨w.heap.size, 10, none⟩ = some (.int .i64 win) ∧ w'.cell? ⟨w.heap.size, 11, none⟩ = some (.string body))
      (first | exact ⟨T0.cell 0, T0.cell 1, T0.cell 2, T0.cell 3, T0.cell 4, T0.cell 5, T0.cell 6, T0.cell 7, T0.cell 8, T0.cell 9, T0.cell 10, T0.cell 11⟩ | go_keep)
      (first
      | (go_at_call 44; go_fit (bytes2_any _ _ (by omega) (by omega)); rintro e w' ⟨rfl, hb⟩; (try replace hb := below_undrew hb); replace T0 := twelve_bel T0 hb; have c0 := T0.cell; replace hB := hB.trans (hb.mono hB.size))
      | (go_at_call 44; go_fit (bytes1_any _ _ (by omega) (by omega)); rintro e w' ⟨rfl, hb⟩; (try replace hb := below_undrew hb); replace T0 := twelve_bel T0 hb; have c0 := T0.cell; replace hB := hB.trans (hb.mono hB.size))
      | (go_at_call 44; go_fit (bytes4_any _ _ (by omega) (by omega)); rintro e w' ⟨rfl, hb⟩; (try replace hb := below_undrew hb); replace T0 := twelve_bel T0 hb; have c0 := T0.cell; replace hB := hB.trans (hb.mono hB.size)))
    go_wp2_with (first
      | (go_at_call 26; go_fit (ahead_eq _ _ _ _ (8 + (body.size : Int)) _ (by omega) (by omega) (by omega) (by omega) (by omega)); rintro e w' ⟨rfl, hb⟩; (try replace hb := below_undrew hb); replace T0 := twelve_bel T0 hb; have c0 := T0.cell; replace hB := hB.trans (hb.mono hB.size))
      | (go_at_call 45; go_fit (CC _ _ (by apply of_list; simp [txt, pt, ps, w16, l32] <;> rfl)); rintro e w' ⟨rfl, hb⟩; (try replace hb := below_undrew hb); replace T0 := twelve_bel T0 hb; have c0 := T0.cell; replace hB := hB.trans (hb.mono hB.size))
      | (go_at_call 43; go_fit (head_eq ⟨17, src, sport, dst, dport, ttl, id, flags, seq, ack, win, body⟩ _ (8 + (body.size : Int)) _ (by omega) (by omega) (by omega) (by show (0:Int) ≤ 17 ∧ (17:Int) ≤ 255; omega) ⟨q0, q1⟩ ⟨q2, q3⟩ (by show 0 ≤ ttl ∧ ttl ≤ 255; omega) (by show 0 ≤ id ∧ id ≤ 65535; omega)); rintro e w' ⟨rfl, hb⟩; (try replace hb := below_undrew hb); replace T0 := twelve_bel T0 hb; have c0 := T0.cell; replace hB := hB.trans (hb.mono hB.size))
      | (go_at_call 44; go_fit (bytes2_any _ _ (by omega) (by omega)); rintro e w' ⟨rfl, hb⟩; (try replace hb := below_undrew hb); replace T0 := twelve_bel T0 hb; have c0 := T0.cell; replace hB := hB.trans (hb.mono hB.size)))
    go_ret2
    exact ⟨ret_two (congrArg Value.string (HF.out _ (by rw [Hc.out, if_neg hz.out]))) rfl, hB⟩

set_option maxRecDepth 10000 in
set_option maxHeartbeats 4000000 in
theorem bref_6 (src sport dst dport ttl id flags seq ack win : Int) (body : ByteArray) (w : World) (hg : good ⟨6, src, sport, dst, dport, ttl, id, flags, seq, ack, win, body⟩ = 0) :
    Calls Try.prog 36 #[.agg #[.int .i64 6, .int .i64 src, .int .i64 sport, .int .i64 dst, .int .i64 dport, .int .i64 ttl, .int .i64 id, .int .i64 flags, .int .i64 seq, .int .i64 ack, .int .i64 win, .string body]] w fun e w' => e = .returned (.tuple #[.string (txt (frame ⟨6, src, sport, dst, dport, ttl, id, flags, seq, ack, win, body⟩)), .int .i64 0]) ∧ Below w.heap.size w w' := by
  have T0 : Twelve (w.alloc (.cells #[.int .i64 6, .int .i64 src, .int .i64 sport, .int .i64 dst, .int .i64 dport, .int .i64 ttl, .int .i64 id, .int .i64 flags, .int .i64 seq, .int .i64 ack, .int .i64 win, .string body] 23)) w.heap.size #[.int .i64 6, .int .i64 src, .int .i64 sport, .int .i64 dst, .int .i64 dport, .int .i64 ttl, .int .i64 id, .int .i64 flags, .int .i64 seq, .int .i64 ack, .int .i64 win, .string body] := heap_alloc_new w _
  have hB : Below w.heap.size w (w.alloc (.cells #[.int .i64 6, .int .i64 src, .int .i64 sport, .int .i64 dst, .int .i64 dport, .int .i64 ttl, .int .i64 id, .int .i64 flags, .int .i64 seq, .int .i64 ack, .int .i64 win, .string body] 23)) := (Below.refl _ _).alloc (Nat.le_refl _) _
  have c0 := T0.cell
  have h64 : body.size ≤ 64 := (good_zero _ hg).2.2.1
  have R := (range_iff _).1 (good_zero _ hg).2.1
  simp only [] at R
  have CG : ∀ w, Calls Try.prog 27 #[.agg #[.int .i64 6, .int .i64 src, .int .i64 sport, .int .i64 dst, .int .i64 dport, .int .i64 ttl, .int .i64 id, .int .i64 flags, .int .i64 seq, .int .i64 ack, .int .i64 win, .string body]] w fun e w' => e = .returned (.int .i64 0) ∧ Below w.heap.size w w' := by
    intro w
    have := gref_any ⟨6, src, sport, dst, dport, ttl, id, flags, seq, ack, win, body⟩ w (by show body.size ≤ _; omega) (by show _ ≤ ttl ∧ ttl ≤ _; omega)
    rw [hg] at this; exact this
  obtain ⟨q0, q1, q2, q3, q4, q5, q6, q7, q8, q9, q10, q11, q12, q13, q14, q15, q16, q17, q18, q19⟩ := R
  clear hg
  have hcb := bk_bd (tot (ps src dst 6 (20 + (body.size : Int)) ++ (pt ⟨6, src, sport, dst, dport, ttl, id, flags, seq, ack, win, body⟩ 0 ++ body.data.toList)))
  have CC : ∀ s w, s = txt (ps src dst 6 (20 + (body.size : Int)) ++ (pt ⟨6, src, sport, dst, dport, ttl, id, flags, seq, ack, win, body⟩ 0 ++ body.data.toList)) → Calls Try.prog 45 #[.string s] w fun e w' => e = .returned (.int .i64 (chkP0 ⟨6, src, sport, dst, dport, ttl, id, flags, seq, ack, win, body⟩)) ∧ Below w.heap.size w w' := by
    intro s w h
    refine check_eq s _ w h ?_
    simp [pt, ps, w16, l32]; omega
  have hc0 : chkP0 ⟨6, src, sport, dst, dport, ttl, id, flags, seq, ack, win, body⟩ = 65535 - bk (tot (ps src dst 6 (20 + (body.size : Int)) ++ (pt ⟨6, src, sport, dst, dport, ttl, id, flags, seq, ack, win, body⟩ 0 ++ body.data.toList))) := rfl
  have hc1 : 0 ≤ chkP0 ⟨6, src, sport, dst, dport, ttl, id, flags, seq, ack, win, body⟩ ∧ chkP0 ⟨6, src, sport, dst, dport, ttl, id, flags, seq, ack, win, body⟩ ≤ 65535 := by omega
  have HF : Hid (∀ s, s = txt (hd ⟨6, src, sport, dst, dport, ttl, id, flags, seq, ack, win, body⟩ (20 + (20 + (body.size : Int))) (65535 - bk (tot (hd ⟨6, src, sport, dst, dport, ttl, id, flags, seq, ack, win, body⟩ (20 + (20 + (body.size : Int))) 0)))) ++ (txt (w16 sport) ++ txt (w16 dport) ++ txt (l32 seq) ++ txt (l32 ack) ++ { data := #[80] } ++ txt [b8 flags] ++ txt (w16 win)) ++ txt (w16 (chkP ⟨6, src, sport, dst, dport, ttl, id, flags, seq, ack, win, body⟩)) ++ ({ data := #[0, 0] } ++ body) → s = txt (frame ⟨6, src, sport, dst, dport, ttl, id, flags, seq, ack, win, body⟩)) := by
    show ∀ s, _ → _
    rintro s rfl
    have e : flen ⟨6, src, sport, dst, dport, ttl, id, flags, seq, ack, win, body⟩ = 20 + (20 + (body.size : Int)) := by show 20 + 20 + (body.size : Int) = _; omega
    apply of_list
    unfold frame chkH fr
    rw [e]
    simp [txt, pt, w16, l32] <;> rfl
  clear hcb hc0
  have Hc : Hid (chkP ⟨6, src, sport, dst, dport, ttl, id, flags, seq, ack, win, body⟩ = chkP0 ⟨6, src, sport, dst, dport, ttl, id, flags, seq, ack, win, body⟩) := by show _ = _; unfold chkP; rw [if_neg (by simp)]
  generalize chkP0 ⟨6, src, sport, dst, dport, ttl, id, flags, seq, ack, win, body⟩ = ck at *
  have hps : (txt (ps src dst 6 (20 + (body.size : Int)))).size = 12 := rfl
  have hw1 : IntKind.i64.wrap (sport + dport) = sport + dport := wrap_i64 _ (by omega) (by omega)
  have hw2 : IntKind.i64.wrap (8 + (body.size : Int)) = 8 + (body.size : Int) := wrap_i64 _ (by omega) (by omega)
  go_enter Try.func36, Try.ntmps36
  go_wp2_with (go_at_call 27; go_fit (CG _); rintro e w' ⟨rfl, hb⟩; (try replace hb := below_undrew hb); replace T0 := twelve_bel T0 hb; have c0 := T0.cell; replace hB := hB.trans (hb.mono hB.size))
  go_region_held3 (fun w' => w'.cell? ⟨w.heap.size, 0, none⟩ = some (.int .i64 6) ∧ w'.cell? ⟨w.heap.size, 1, none⟩ = some (.int .i64 src) ∧ w'.cell? ⟨w.heap.size, 2, none⟩ = some (.int .i64 sport) ∧ w'.cell? ⟨w.heap.size, 3, none⟩ = some (.int .i64 dst) ∧ w'.cell? ⟨w.heap.size, 4, none⟩ = some (.int .i64 dport) ∧ w'.cell? ⟨w.heap.size, 5, none⟩ = some (.int .i64 ttl) ∧ w'.cell? ⟨w.heap.size, 6, none⟩ = some (.int .i64 id) ∧ w'.cell? ⟨w.heap.size, 7, none⟩ = some (.int .i64 flags) ∧ w'.cell? ⟨w.heap.size, 8, none⟩ = some (.int .i64 seq) ∧ w'.cell? ⟨w.heap.size, 9, none⟩ = some (.int .i64 ack) ∧ w'.cell? ⟨w.heap.size, 10, none⟩ = some (.int .i64 win) ∧ w'.cell? ⟨w.heap.size, 11, none⟩ = some (.string body))
    (first | exact ⟨T0.cell 0, T0.cell 1, T0.cell 2, T0.cell 3, T0.cell 4, T0.cell 5, T0.cell 6, T0.cell 7, T0.cell 8, T0.cell 9, T0.cell 10, T0.cell 11⟩ | go_keep)
    (first
    | (go_at_call 44; go_fit (bytes2_any _ _ (by omega) (by omega)); rintro e w' ⟨rfl, hb⟩; (try replace hb := below_undrew hb); replace T0 := twelve_bel T0 hb; have c0 := T0.cell; replace hB := hB.trans (hb.mono hB.size))
    | (go_at_call 44; go_fit (bytes1_any _ _ (by omega) (by omega)); rintro e w' ⟨rfl, hb⟩; (try replace hb := below_undrew hb); replace T0 := twelve_bel T0 hb; have c0 := T0.cell; replace hB := hB.trans (hb.mono hB.size))
    | (go_at_call 44; go_fit (bytes4_any _ _ (by omega) (by omega)); rintro e w' ⟨rfl, hb⟩; (try replace hb := below_undrew hb); replace T0 := twelve_bel T0 hb; have c0 := T0.cell; replace hB := hB.trans (hb.mono hB.size)))
  go_wp2_with (first
    | (go_at_call 26; go_fit (ahead_eq _ _ _ _ (20 + (body.size : Int)) _ (by omega) (by omega) (by omega) (by omega) (by omega)); rintro e w' ⟨rfl, hb⟩; (try replace hb := below_undrew hb); replace T0 := twelve_bel T0 hb; have c0 := T0.cell; replace hB := hB.trans (hb.mono hB.size))
    | (go_at_call 45; go_fit (CC _ _ (by apply of_list; simp [txt, pt, ps, w16, l32] <;> rfl)); rintro e w' ⟨rfl, hb⟩; (try replace hb := below_undrew hb); replace T0 := twelve_bel T0 hb; have c0 := T0.cell; replace hB := hB.trans (hb.mono hB.size))
    | (go_at_call 43; go_fit (head_eq ⟨6, src, sport, dst, dport, ttl, id, flags, seq, ack, win, body⟩ _ (20 + (body.size : Int)) _ (by omega) (by omega) (by omega) (by show (0:Int) ≤ 6 ∧ (6:Int) ≤ 255; omega) ⟨q0, q1⟩ ⟨q2, q3⟩ (by show 0 ≤ ttl ∧ ttl ≤ 255; omega) (by show 0 ≤ id ∧ id ≤ 65535; omega)); rintro e w' ⟨rfl, hb⟩; (try replace hb := below_undrew hb); replace T0 := twelve_bel T0 hb; have c0 := T0.cell; replace hB := hB.trans (hb.mono hB.size))
    | (go_at_call 44; go_fit (bytes2_any _ _ (by omega) (by omega)); rintro e w' ⟨rfl, hb⟩; (try replace hb := below_undrew hb); replace T0 := twelve_bel T0 hb; have c0 := T0.cell; replace hB := hB.trans (hb.mono hB.size)))
  go_ret2
  exact ⟨ret_two (congrArg Value.string (HF.out _ (by rw [Hc.out]))) rfl, hB⟩

set_option maxRecDepth 10000 in
set_option maxHeartbeats 4000000 in
theorem bref_no (k : Pkt) (w : World) (hsz : k.body.size ≤ 140737488351232) (ht : -9223372036854775808 ≤ k.ttl ∧ k.ttl ≤ 9223372036854775807) (hg : good k ≠ 0) :
    Calls Try.prog 36 #[pv k] w fun e w' => e = .returned (.tuple #[.string ByteArray.empty, .int .i64 (good k)]) ∧ Below w.heap.size w w' := by
  have hB : Below w.heap.size w (w.alloc (.cells #[.int .i64 k.proto, .int .i64 k.src, .int .i64 k.sport, .int .i64 k.dst, .int .i64 k.dport, .int .i64 k.ttl, .int .i64 k.id, .int .i64 k.flags, .int .i64 k.seq, .int .i64 k.ack, .int .i64 k.win, .string k.body] 23)) := (Below.refl _ _).alloc (Nat.le_refl _) _
  have c0 := box_cell w #[.int .i64 k.proto, .int .i64 k.src, .int .i64 k.sport, .int .i64 k.dst, .int .i64 k.dport, .int .i64 k.ttl, .int .i64 k.id, .int .i64 k.flags, .int .i64 k.seq, .int .i64 k.ack, .int .i64 k.win, .string k.body] 23
  have CG := fun w => gref_any k w hsz ht
  have hg' : (good k != 0) = true := by simpa using hg
  generalize good k = ge at *
  unfold pv at *
  go_enter Try.func36, Try.ntmps36
  go_wp2_with (go_at_call 27; go_fit (CG _); rintro e w' ⟨rfl, hb⟩; replace hB := hB.trans (hb.mono hB.size))
  go_ret2
  exact ⟨rfl, hB⟩
/-- the document's Build. -/
theorem bref_any (k : Pkt) (w : World) (hsz : k.body.size ≤ 140737488351232) (ht : -9223372036854775808 ≤ k.ttl ∧ k.ttl ≤ 9223372036854775807) :
    Calls Try.prog 36 #[pv k] w fun e w' => e = .returned (.tuple #[.string (built k), .int .i64 (good k)]) ∧ Below w.heap.size w w' := by
  by_cases hg : good k = 0
  · have hK := (kind_iff _).1 (good_zero k hg).1
    unfold built
    rw [if_pos hg, hg]
    obtain ⟨proto, src, sport, dst, dport, ttl, id, flags, seq, ack, win, body⟩ := k
    simp only [] at hK
    rcases hK with rfl | rfl | rfl
    · exact bref_1 src sport dst dport ttl id flags seq ack win body w hg
    · exact bref_6 src sport dst dport ttl id flags seq ack win body w hg
    · exact bref_17 src sport dst dport ttl id flags seq ack win body w hg
  · unfold built
    rw [if_neg hg]
    exact bref_no k w hsz ht hg
end Go.Proofs.Ythcedehppflcgab