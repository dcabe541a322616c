/-
  The document's own Refuse, for all bytes.
-/
import Derived.Test.YthcedehppflcgabRefPA
import Derived.Test.YthcedehppflcgabRefB
import Derived.Test.YthcedehppflcgabRefuse1
namespace Go.Proofs.Ythcedehppflcgab
open Go.ChangeShapes Go.WideShapes Go.ChangeAt Go.RowKit
set_option linter.unusedSimpArgs false
set_option linter.unusedVariables false

set_option maxRecDepth 10000 in
set_option maxHeartbeats 4000000 in
theorem rref_any (s : ByteArray) (id : Int) (w : World) (hs : s.size ≤ 140737488351232) :
    Calls Try.prog 15 #[.string s, .int .i64 id] w fun e w' => e = .returned (.tuple #[.string (refS s.data.toList id), .int .i64 (refE s.data.toList id)]) ∧ Below w.heap.size w w' := by
  have C1 := fun w => pref_any s w hs
  have hB := Below.refl w.heap.size w
  by_cases hb : bad s.data.toList = 0
  rotate_left
  · have HE : Hid (refE s.data.toList id = bad s.data.toList) := by show _ = _; unfold refE; rw [if_pos hb]
    have HS : Hid (refS s.data.toList id = ByteArray.empty) := by show _ = _; unfold refS; rw [if_neg (by rw [HE.out]; exact hb)]
    generalize parsed s.data.toList = k at *
    generalize bad s.data.toList = e0 at *
    have hne : (e0 != 0) = true := by simpa using hb
    clear hb
    unfold pv at *
    go_enter Try.func15, Try.ntmps15
    go_wp2_with (go_at_call 10; go_fit (C1 _); rintro e w3 ⟨rfl, hb⟩; replace hB := hB.trans (hb.mono hB.size))
    go_ret2
    exact ⟨by rw [HE.out, HS.out]; rfl, hB.alloc hB.size _⟩
  have hk : parsed s.data.toList = pktOf s.data.toList := by unfold parsed; rw [if_pos hb]
  rw [hb, hk] at C1
  by_cases hid : wordB' id = true
  rotate_left
  · have HE : Hid (refE s.data.toList id = 2) := by show _ = _; unfold refE; rw [if_neg (by omega), if_pos (by simpa using hid)]
    have HS : Hid (refS s.data.toList id = ByteArray.empty) := by show _ = _; unfold refS; rw [if_neg (by rw [HE.out]; omega)]
    have hdd : id < 0 ∨ 65535 < id := by
      unfold wordB' at hid; simp at hid; omega
    clear hid hk hb
    generalize pktOf s.data.toList = k at *
    unfold pv at *
    by_cases h0 : id < 0
    · go_enter Try.func15, Try.ntmps15
      go_wp2_with (go_at_call 10; go_fit (C1 _); rintro e w3 ⟨rfl, hb⟩; replace hB := hB.trans (hb.mono hB.size))
      go_ret2
      exact ⟨by rw [HE.out, HS.out]; rfl, hB.alloc hB.size _⟩
    · have h1 : 0 ≤ id := by omega
      have h2 : 65535 < id := by omega
      clear h0 hdd
      go_enter Try.func15, Try.ntmps15
      go_wp2_with (go_at_call 10; go_fit (C1 _); rintro e w3 ⟨rfl, hb⟩; replace hB := hB.trans (hb.mono hB.size))
      go_ret2
      exact ⟨by rw [HE.out, HS.out]; rfl, hB.alloc hB.size _⟩
  have hdd : 0 ≤ id ∧ id ≤ 65535 := of_decide_eq_true hid
  have HE : Hid (refE s.data.toList id = 0) := by show _ = _; unfold refE; rw [if_neg (by omega), if_neg (by simp [hid])]
  have HS : Hid (refS s.data.toList id = txt (refusal (pktOf s.data.toList).src id (s.data.toList.take 28))) := by show _ = _; unfold refS; rw [if_pos HE.out]
  have hll := len_list s
  have hl : 28 ≤ s.size := by
    obtain ⟨H, P, _⟩ := bad_zero s.data.toList hb
    have := P.len; have := part_least _ H.kind; omega
  have hsrc : (pktOf s.data.toList).src = lAt s.data.toList 12 := by unfold pktOf; split <;> (try split) <;> rfl
  have hsb := lAt_bd s.data.toList 12
  rw [← hsrc] at hsb
  clear hsrc hid hk hb
  generalize pktOf s.data.toList = k at *
  have hx : (s.extract 0 28).data.toList = s.data.toList.take 28 := by rw [ext_list]; simp
  have hxs : (s.extract 0 28).size = 28 := by rw [ext_size _ _ _ hl]
  have CH : ∀ w, Calls Try.prog 43 #[.int .i64 1, .int .i64 167772414, .int .i64 k.src, .int .i64 64, .int .i64 id, .int .i64 36] w fun e w' => e = .returned (.string (txt (hd (rp k.src id) 56 (rchkH k.src id)))) ∧ Below w.heap.size w w' := fun w =>
    headOf_any (rp k.src id) 36 w (by omega) (by omega) (by show (0 : Int) ≤ 1 ∧ (1 : Int) ≤ 255; omega) (by show (0 : Int) ≤ 167772414 ∧ (167772414 : Int) ≤ 4294967295; omega) hsb (by show (0 : Int) ≤ 64 ∧ (64 : Int) ≤ 255; omega) hdd
  have CC : ∀ w, Calls Try.prog 45 #[.string ((⟨#[3, 13, 0, 0]⟩ : ByteArray) ++ ((⟨#[0, 0, 0, 0]⟩ : ByteArray) ++ s.extract 0 28))] w fun e w' => e = .returned (.int .i64 (rchkP (s.data.toList.take 28))) ∧ Below w.heap.size w w' := fun w => by
    have := checkRef_any ((⟨#[3, 13, 0, 0]⟩ : ByteArray) ++ ((⟨#[0, 0, 0, 0]⟩ : ByteArray) ++ s.extract 0 28)) w (by rw [ByteArray.size_append, ByteArray.size_append, hxs]; decide)
    rw [ByteArray.data_append, ByteArray.data_append, Array.toList_append, Array.toList_append, hx] at this
    exact this
  have hc2 : 0 ≤ rchkP (s.data.toList.take 28) ∧ rchkP (s.data.toList.take 28) ≤ 65535 := by
    unfold rchkP; have := bk_bd (tot ([3, 13] ++ w16 0 ++ [0, 0, 0, 0] ++ s.data.toList.take 28)); omega
  have CB : ∀ w, Calls Try.prog 44 #[.int .i64 (rchkP (s.data.toList.take 28)), .int .i64 2] w fun e w' => e = .returned (.string (txt (w16 (rchkP (s.data.toList.take 28))))) ∧ Below w.heap.size w w' := fun w =>
    bytesOf_any (rchkP (s.data.toList.take 28)) 2 w hc2.1 (by omega) (by omega)
  have HT : Hid (txt (hd (rp k.src id) 56 (rchkH k.src id)) ++ ⟨#[3, 13]⟩ ++ txt (w16 (rchkP (s.data.toList.take 28))) ++ ((⟨#[0, 0, 0, 0]⟩ : ByteArray) ++ s.extract 0 28) = txt (refusal k.src id (s.data.toList.take 28))) := by
    show _ = _
    apply of_list
    rw [ByteArray.data_append, ByteArray.data_append, ByteArray.data_append, ByteArray.data_append, Array.toList_append, Array.toList_append, Array.toList_append, Array.toList_append, hx, txt_list, txt_list]
    unfold refusal rfr
    simp [List.append_assoc]
  have zH : (txt (hd (rp k.src id) 56 (rchkH k.src id))).size = 20 := by rw [txt_size]; rfl
  have zB : (txt (w16 (rchkP (s.data.toList.take 28)))).size = 2 := by rw [txt_size]; rfl
  rw [← HS.out] at HT
  clear HS hx hsb hc2
  generalize txt (hd (rp k.src id) 56 (rchkH k.src id)) = th at *
  generalize txt (w16 (rchkP (s.data.toList.take 28))) = tb at *
  generalize rchkP (s.data.toList.take 28) = cc at *
  generalize hX : s.extract 0 28 = X at *
  have z28 : (28 : Int) ≤ (s.size : Int) := by omega
  have h0 : 0 ≤ id := hdd.1
  have h1 : id ≤ 65535 := hdd.2
  unfold pv at *
  go_enter Try.func15, Try.ntmps15
  go_wp2_with (first
    | (go_at_call 10; go_fit (C1 _); rintro e w3 ⟨rfl, hb⟩; replace hB := hB.trans (hb.mono hB.size))
    | (go_at_call 43; go_fit (CH _); rintro e w4 ⟨rfl, hb⟩; replace hB := (hB.alloc hB.size _).trans (hb.mono (by have := hB.size; simp; omega)))
    | (go_at_call 45; go_fit (CC _); rintro e w5 ⟨rfl, hb⟩; replace hB := hB.trans (hb.mono hB.size))
    | (go_at_call 44; go_fit (CB _); rintro e w6 ⟨rfl, hb⟩; replace hB := hB.trans (hb.mono hB.size)))
  go_ret2
  exact ⟨by rw [HE.out, ← HT.out]; rfl, hB⟩
end Go.Proofs.Ythcedehppflcgab
