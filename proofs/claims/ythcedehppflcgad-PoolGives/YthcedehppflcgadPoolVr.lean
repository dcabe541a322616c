/-
  The walk of the document's GiveBlock.
-/
import Derived.Test.YthcedehppflcgadPoolV
namespace Go.Proofs.Ythcedehppflcgad
open Go.ChangeShapes Go.WideShapes Go.ChangeAt Go.RowKit
set_option linter.unusedSimpArgs false
set_option linter.unusedVariables false
set_option maxRecDepth 10000 in
set_option maxHeartbeats 4000000 in
theorem giver_any (f : Nat → Int) (g : Nat → Bool) (s a k : Int) (w : World) :
    Calls Try.prog 30 #[plv f g, .int .i64 s, .int .i64 a, .int .i64 k] w fun e w' => e = .returned (giveS f g s a k) ∧ Below w.heap.size w w' := by
  have T0 : PRow ((w.alloc (.cells (pc f g) 47)).alloc (.cells #[.int .i64 0, .int .i64 0, .int .i64 0, .int .i64 0, .int .i64 0, .int .i64 0, .int .i64 0, .int .i64 0, .int .i64 0, .int .i64 0, .int .i64 0, .int .i64 0, .int .i64 0, .int .i64 0, .int .i64 0, .int .i64 0, .int .i64 0, .int .i64 0, .bool false, .bool false, .bool false] 47)) w.heap.size (pc f g) := (PRow.new _ _).alloc _
  have T8 : PRow ((w.alloc (.cells (pc f g) 47)).alloc (.cells #[.int .i64 0, .int .i64 0, .int .i64 0, .int .i64 0, .int .i64 0, .int .i64 0, .int .i64 0, .int .i64 0, .int .i64 0, .int .i64 0, .int .i64 0, .int .i64 0, .int .i64 0, .int .i64 0, .int .i64 0, .int .i64 0, .int .i64 0, .int .i64 0, .bool false, .bool false, .bool false] 47)) (w.heap.size + 1) (pc (fun _ => 0) (fun _ => false)) := by
    have h8 : PRow ((w.alloc (.cells (pc f g) 47)).alloc (.cells #[.int .i64 0, .int .i64 0, .int .i64 0, .int .i64 0, .int .i64 0, .int .i64 0, .int .i64 0, .int .i64 0, .int .i64 0, .int .i64 0, .int .i64 0, .int .i64 0, .int .i64 0, .int .i64 0, .int .i64 0, .int .i64 0, .int .i64 0, .int .i64 0, .bool false, .bool false, .bool false] 47)) (w.alloc (.cells (pc f g) 47)).heap.size #[.int .i64 0, .int .i64 0, .int .i64 0, .int .i64 0, .int .i64 0, .int .i64 0, .int .i64 0, .int .i64 0, .int .i64 0, .int .i64 0, .int .i64 0, .int .i64 0, .int .i64 0, .int .i64 0, .int .i64 0, .int .i64 0, .int .i64 0, .int .i64 0, .bool false, .bool false, .bool false] := PRow.new _ _
    have e8 : (w.alloc (.cells (pc f g) 47)).heap.size = w.heap.size + 1 := by simp
    rw [e8] at h8
    exact h8
  have hB : Below w.heap.size w ((w.alloc (.cells (pc f g) 47)).alloc (.cells #[.int .i64 0, .int .i64 0, .int .i64 0, .int .i64 0, .int .i64 0, .int .i64 0, .int .i64 0, .int .i64 0, .int .i64 0, .int .i64 0, .int .i64 0, .int .i64 0, .int .i64 0, .int .i64 0, .int .i64 0, .int .i64 0, .int .i64 0, .int .i64 0, .bool false, .bool false, .bool false] 47)) := ((Below.refl _ _).alloc (Nat.le_refl _) _).alloc (by simp) _
  have CG := fun w => goodr_any f g w
  unfold plv at CG
  unfold plv
  cases hgp : goodP f with
  | false =>
    have HS : Hid (giveS f g s a k = _) := giveS_no (giveE_bad hgp) (by omega)
    rw [hgp] at CG
    go_enter Try.func30, Try.ntmps30
    go_wp2_with (first
          | (refine wpList_load_pool _ rfl ?_ _ rfl f g T0 ?_; · rfl)
          | (refine wpList_store_pool rfl _ _ rfl _ rfl f g rfl _ T8 rfl ?_; intro w8 T8 hs8 hk8 hb8; replace T0 := hk8 _ _ (by omega) T0; replace hB := hb8 _ _ (by omega) hB)
          | (go_at_call 25; go_fit (CG _); rintro e w' ⟨rfl, hb⟩; (try replace hb := below_undr' hb); replace T0 := T0.below hb; replace T8 := T8.below hb; replace hB := hB.trans (hb.mono hB.size)))
    ((try simp only [Exit.inBlock, Exit.then]); refine bodyPost_ret (results_pool2 rfl _ _ _ _ _ rfl T8) rfl ⟨?_, hB⟩)
    rw [HS.out]; rfl
  | true =>
    rw [hgp] at CG
    by_cases hin : (inR a 3 = true ∧ inR k 6 = true) ∧ inR s 8 = true
    rotate_left
    · have HS : Hid (giveS f g s a k = _) := giveS_no (giveE_none hgp (fun h => hin ⟨h.1, h.2.1⟩)) (by omega)
      clear hgp
      have hin' : (a < 0 ∨ 2 < a) ∨ (k < 0 ∨ 5 < k) ∨ (s < 0 ∨ 7 < s) := by
        by_cases h : (a < 0 ∨ 2 < a) ∨ (k < 0 ∨ 5 < k) ∨ (s < 0 ∨ 7 < s)
        · exact h
        · exact absurd ⟨⟨inR_true (by omega) (by omega), inR_true (by omega) (by omega)⟩, inR_true (by omega) (by omega)⟩ hin
      clear hin
      by_cases h0 : a < 0
      · clear hin'
        go_enter Try.func30, Try.ntmps30
        go_wp2_with (first
          | (refine wpList_load_pool _ rfl ?_ _ rfl f g T0 ?_; · rfl)
          | (refine wpList_store_pool rfl _ _ rfl _ rfl f g rfl _ T8 rfl ?_; intro w8 T8 hs8 hk8 hb8; replace T0 := hk8 _ _ (by omega) T0; replace hB := hb8 _ _ (by omega) hB)
          | (go_at_call 25; go_fit (CG _); rintro e w' ⟨rfl, hb⟩; (try replace hb := below_undr' hb); replace T0 := T0.below hb; replace T8 := T8.below hb; replace hB := hB.trans (hb.mono hB.size)))
        ((try simp only [Exit.inBlock, Exit.then]); refine bodyPost_ret (results_pool2 rfl _ _ _ _ _ rfl T8) rfl ⟨?_, hB⟩)
        rw [HS.out]; rfl
      have g0 : 0 ≤ a := by omega
      clear h0
      by_cases h1 : 2 < a
      · clear hin'
        go_enter Try.func30, Try.ntmps30
        go_wp2_with (first
          | (refine wpList_load_pool _ rfl ?_ _ rfl f g T0 ?_; · rfl)
          | (refine wpList_store_pool rfl _ _ rfl _ rfl f g rfl _ T8 rfl ?_; intro w8 T8 hs8 hk8 hb8; replace T0 := hk8 _ _ (by omega) T0; replace hB := hb8 _ _ (by omega) hB)
          | (go_at_call 25; go_fit (CG _); rintro e w' ⟨rfl, hb⟩; (try replace hb := below_undr' hb); replace T0 := T0.below hb; replace T8 := T8.below hb; replace hB := hB.trans (hb.mono hB.size)))
        ((try simp only [Exit.inBlock, Exit.then]); refine bodyPost_ret (results_pool2 rfl _ _ _ _ _ rfl T8) rfl ⟨?_, hB⟩)
        rw [HS.out]; rfl
      have g1 : a ≤ 2 := by omega
      clear h1
      by_cases h2 : k < 0
      · clear hin'
        go_enter Try.func30, Try.ntmps30
        go_wp2_with (first
          | (refine wpList_load_pool _ rfl ?_ _ rfl f g T0 ?_; · rfl)
          | (refine wpList_store_pool rfl _ _ rfl _ rfl f g rfl _ T8 rfl ?_; intro w8 T8 hs8 hk8 hb8; replace T0 := hk8 _ _ (by omega) T0; replace hB := hb8 _ _ (by omega) hB)
          | (go_at_call 25; go_fit (CG _); rintro e w' ⟨rfl, hb⟩; (try replace hb := below_undr' hb); replace T0 := T0.below hb; replace T8 := T8.below hb; replace hB := hB.trans (hb.mono hB.size)))
        ((try simp only [Exit.inBlock, Exit.then]); refine bodyPost_ret (results_pool2 rfl _ _ _ _ _ rfl T8) rfl ⟨?_, hB⟩)
        rw [HS.out]; rfl
      have g2 : 0 ≤ k := by omega
      clear h2
      by_cases h3 : 5 < k
      · clear hin'
        go_enter Try.func30, Try.ntmps30
        go_wp2_with (first
          | (refine wpList_load_pool _ rfl ?_ _ rfl f g T0 ?_; · rfl)
          | (refine wpList_store_pool rfl _ _ rfl _ rfl f g rfl _ T8 rfl ?_; intro w8 T8 hs8 hk8 hb8; replace T0 := hk8 _ _ (by omega) T0; replace hB := hb8 _ _ (by omega) hB)
          | (go_at_call 25; go_fit (CG _); rintro e w' ⟨rfl, hb⟩; (try replace hb := below_undr' hb); replace T0 := T0.below hb; replace T8 := T8.below hb; replace hB := hB.trans (hb.mono hB.size)))
        ((try simp only [Exit.inBlock, Exit.then]); refine bodyPost_ret (results_pool2 rfl _ _ _ _ _ rfl T8) rfl ⟨?_, hB⟩)
        rw [HS.out]; rfl
      have g3 : k ≤ 5 := by omega
      clear h3
      by_cases h4 : s < 0
      · clear hin'
        go_enter Try.func30, Try.ntmps30
        go_wp2_with (first
          | (refine wpList_load_pool _ rfl ?_ _ rfl f g T0 ?_; · rfl)
          | (refine wpList_store_pool rfl _ _ rfl _ rfl f g rfl _ T8 rfl ?_; intro w8 T8 hs8 hk8 hb8; replace T0 := hk8 _ _ (by omega) T0; replace hB := hb8 _ _ (by omega) hB)
          | (go_at_call 25; go_fit (CG _); rintro e w' ⟨rfl, hb⟩; (try replace hb := below_undr' hb); replace T0 := T0.below hb; replace T8 := T8.below hb; replace hB := hB.trans (hb.mono hB.size)))
        ((try simp only [Exit.inBlock, Exit.then]); refine bodyPost_ret (results_pool2 rfl _ _ _ _ _ rfl T8) rfl ⟨?_, hB⟩)
        rw [HS.out]; rfl
      have g4 : 0 ≤ s := by omega
      clear h4
      have h5 : 7 < s := by omega
      clear hin'
      go_enter Try.func30, Try.ntmps30
      go_wp2_with (first
          | (refine wpList_load_pool _ rfl ?_ _ rfl f g T0 ?_; · rfl)
          | (refine wpList_store_pool rfl _ _ rfl _ rfl f g rfl _ T8 rfl ?_; intro w8 T8 hs8 hk8 hb8; replace T0 := hk8 _ _ (by omega) T0; replace hB := hb8 _ _ (by omega) hB)
          | (go_at_call 25; go_fit (CG _); rintro e w' ⟨rfl, hb⟩; (try replace hb := below_undr' hb); replace T0 := T0.below hb; replace T8 := T8.below hb; replace hB := hB.trans (hb.mono hB.size)))
      ((try simp only [Exit.inBlock, Exit.then]); refine bodyPost_ret (results_pool2 rfl _ _ _ _ _ rfl T8) rfl ⟨?_, hB⟩)
      rw [HS.out]; rfl
    obtain ⟨⟨hia, hik⟩, his⟩ := hin
    have hba : 0 ≤ a ∧ a < 3 := of_decide_eq_true hia
    have hbk : 0 ≤ k ∧ k < 6 := of_decide_eq_true hik
    have hbs : 0 ≤ s ∧ s < 8 := of_decide_eq_true his
    obtain ⟨n, rfl⟩ : ∃ n : Nat, a = n := ⟨a.toNat, by omega⟩
    obtain ⟨K, rfl⟩ : ∃ K : Nat, k = K := ⟨k.toNat, by omega⟩
    have hn : n < 3 := by omega
    have hK : K < 6 := by omega
    have hK6 : (K : Int) < 6 := by omega
    have hK5 : (K : Int) ≤ 5 := by omega
    have hK0 : (0 : Int) ≤ (K : Int) := by omega
    have hs0 : 0 ≤ s := hbs.1
    have hs7 : s ≤ 7 := by omega
    have hs1 : wrap64 (s + 1) = s + 1 := by unfold wrap64; omega
    rcases (show n = 0 ∨ n = 1 ∨ n = 2 by omega) with rfl | rfl | rfl
    · have cw := T0.own (K) (by omega)
      have fw := T0.free (K)
      by_cases ho : f (K) = s + 1
      rotate_left
      · have HS : Hid (giveS f g s ((0 : Nat) : Int) (K : Int) = _) := giveS_no (giveE_none hgp (fun h => ho (by have := h.2.2; rw [Int.toNat_natCast, Int.toNat_natCast] at this; simpa using this))) (by omega)
        have hne : (f (K) != s + 1) = true := by simpa using ho
        clear ho hgp hia hik his
        go_enter Try.func30, Try.ntmps30
        go_wp2_with (first
          | (refine wpList_load_pool _ rfl ?_ _ rfl f g T0 ?_; · rfl)
          | (refine wpList_store_pool rfl _ _ rfl _ rfl f g rfl _ T8 rfl ?_; intro w8 T8 hs8 hk8 hb8; replace T0 := hk8 _ _ (by omega) T0; replace hB := hb8 _ _ (by omega) hB)
          | (go_at_call 25; go_fit (CG _); rintro e w' ⟨rfl, hb⟩; (try replace hb := below_undr' hb); replace T0 := T0.below hb; replace T8 := T8.below hb; replace hB := hB.trans (hb.mono hB.size); replace cw := T0.own (K) (by omega); replace fw := T0.free (K)))
        ((try simp only [Exit.inBlock, Exit.then]); refine bodyPost_ret (results_pool2 rfl _ _ _ _ _ rfl T8) rfl ⟨?_, hB⟩)
        rw [HS.out]; rfl
      · have HS : Hid (giveS f g s ((0 : Nat) : Int) (K : Int) = .tuple #[plv (upd f (K) 0) g, .int .i64 0]) := by
          show _ = _
          rw [giveS_yes (giveE_ok hgp hn hK his (by simpa using ho))]; simp
        have hne : (f (K) != s + 1) = false := by simpa using ho
        clear ho hgp hia hik his
        go_enter Try.func30, Try.ntmps30
        go_wp2_with (first
          | (refine wpList_load_pool _ rfl ?_ _ rfl f g T0 ?_; · rfl)
          | (refine wpList_store_pool rfl _ _ rfl _ rfl f g rfl _ T8 rfl ?_; intro w8 T8 hs8 hk8 hb8; replace T0 := hk8 _ _ (by omega) T0; replace hB := hb8 _ _ (by omega) hB)
          | (replace T0 := T0.upd (K) (0) (by omega); replace T8 := T8.other (o := K) (v := .int .i64 (0)) (show w.heap.size + 1 ≠ w.heap.size by omega); replace hB := hB.setCell (p := ⟨w.heap.size, K, none⟩) (Nat.le_refl _) (.int .i64 (0)); refine wpList_load_pool _ rfl ?_ _ rfl (upd f (K) (0)) g T0 ?_; · rfl)
          | (refine wpList_store_pool rfl _ _ rfl _ rfl (upd f (K) (0)) g rfl _ T8 rfl ?_; intro w8 T8 hs8 hk8 hb8; replace hB := hb8 _ _ (by omega) hB)
          | (go_at_call 25; go_fit (CG _); rintro e w' ⟨rfl, hb⟩; (try replace hb := below_undr' hb); replace T0 := T0.below hb; replace T8 := T8.below hb; replace hB := hB.trans (hb.mono hB.size); replace cw := T0.own (K) (by omega); replace fw := T0.free (K)))
        ((try simp only [Exit.inBlock, Exit.then]); refine bodyPost_ret (results_pool2 rfl _ _ _ _ _ rfl T8) rfl ⟨?_, hB⟩)
        rw [HS.out]; rfl
    · have cw := T0.own (6 + K) (by omega)
      have fw := T0.free (6 + K)
      by_cases ho : f (6 + K) = s + 1
      rotate_left
      · have HS : Hid (giveS f g s ((1 : Nat) : Int) (K : Int) = _) := giveS_no (giveE_none hgp (fun h => ho (by have := h.2.2; rw [Int.toNat_natCast, Int.toNat_natCast] at this; simpa using this))) (by omega)
        have hne : (f (6 + K) != s + 1) = true := by simpa using ho
        clear ho hgp hia hik his
        go_enter Try.func30, Try.ntmps30
        go_wp2_with (first
          | (refine wpList_load_pool _ rfl ?_ _ rfl f g T0 ?_; · rfl)
          | (refine wpList_store_pool rfl _ _ rfl _ rfl f g rfl _ T8 rfl ?_; intro w8 T8 hs8 hk8 hb8; replace T0 := hk8 _ _ (by omega) T0; replace hB := hb8 _ _ (by omega) hB)
          | (go_at_call 25; go_fit (CG _); rintro e w' ⟨rfl, hb⟩; (try replace hb := below_undr' hb); replace T0 := T0.below hb; replace T8 := T8.below hb; replace hB := hB.trans (hb.mono hB.size); replace cw := T0.own (6 + K) (by omega); replace fw := T0.free (6 + K)))
        ((try simp only [Exit.inBlock, Exit.then]); refine bodyPost_ret (results_pool2 rfl _ _ _ _ _ rfl T8) rfl ⟨?_, hB⟩)
        rw [HS.out]; rfl
      · have HS : Hid (giveS f g s ((1 : Nat) : Int) (K : Int) = .tuple #[plv (upd f (6 + K) 0) g, .int .i64 0]) := by
          show _ = _
          rw [giveS_yes (giveE_ok hgp hn hK his (by simpa using ho))]
        have hne : (f (6 + K) != s + 1) = false := by simpa using ho
        clear ho hgp hia hik his
        go_enter Try.func30, Try.ntmps30
        go_wp2_with (first
          | (refine wpList_load_pool _ rfl ?_ _ rfl f g T0 ?_; · rfl)
          | (refine wpList_store_pool rfl _ _ rfl _ rfl f g rfl _ T8 rfl ?_; intro w8 T8 hs8 hk8 hb8; replace T0 := hk8 _ _ (by omega) T0; replace hB := hb8 _ _ (by omega) hB)
          | (replace T0 := T0.upd (6 + K) (0) (by omega); replace T8 := T8.other (o := 6 + K) (v := .int .i64 (0)) (show w.heap.size + 1 ≠ w.heap.size by omega); replace hB := hB.setCell (p := ⟨w.heap.size, 6 + K, none⟩) (Nat.le_refl _) (.int .i64 (0)); refine wpList_load_pool _ rfl ?_ _ rfl (upd f (6 + K) (0)) g T0 ?_; · rfl)
          | (refine wpList_store_pool rfl _ _ rfl _ rfl (upd f (6 + K) (0)) g rfl _ T8 rfl ?_; intro w8 T8 hs8 hk8 hb8; replace hB := hb8 _ _ (by omega) hB)
          | (go_at_call 25; go_fit (CG _); rintro e w' ⟨rfl, hb⟩; (try replace hb := below_undr' hb); replace T0 := T0.below hb; replace T8 := T8.below hb; replace hB := hB.trans (hb.mono hB.size); replace cw := T0.own (6 + K) (by omega); replace fw := T0.free (6 + K)))
        ((try simp only [Exit.inBlock, Exit.then]); refine bodyPost_ret (results_pool2 rfl _ _ _ _ _ rfl T8) rfl ⟨?_, hB⟩)
        rw [HS.out]; rfl
    · have cw := T0.own (12 + K) (by omega)
      have fw := T0.free (12 + K)
      by_cases ho : f (12 + K) = s + 1
      rotate_left
      · have HS : Hid (giveS f g s ((2 : Nat) : Int) (K : Int) = _) := giveS_no (giveE_none hgp (fun h => ho (by have := h.2.2; rw [Int.toNat_natCast, Int.toNat_natCast] at this; simpa using this))) (by omega)
        have hne : (f (12 + K) != s + 1) = true := by simpa using ho
        clear ho hgp hia hik his
        go_enter Try.func30, Try.ntmps30
        go_wp2_with (first
          | (refine wpList_load_pool _ rfl ?_ _ rfl f g T0 ?_; · rfl)
          | (refine wpList_store_pool rfl _ _ rfl _ rfl f g rfl _ T8 rfl ?_; intro w8 T8 hs8 hk8 hb8; replace T0 := hk8 _ _ (by omega) T0; replace hB := hb8 _ _ (by omega) hB)
          | (go_at_call 25; go_fit (CG _); rintro e w' ⟨rfl, hb⟩; (try replace hb := below_undr' hb); replace T0 := T0.below hb; replace T8 := T8.below hb; replace hB := hB.trans (hb.mono hB.size); replace cw := T0.own (12 + K) (by omega); replace fw := T0.free (12 + K)))
        ((try simp only [Exit.inBlock, Exit.then]); refine bodyPost_ret (results_pool2 rfl _ _ _ _ _ rfl T8) rfl ⟨?_, hB⟩)
        rw [HS.out]; rfl
      · have HS : Hid (giveS f g s ((2 : Nat) : Int) (K : Int) = .tuple #[plv (upd f (12 + K) 0) g, .int .i64 0]) := by
          show _ = _
          rw [giveS_yes (giveE_ok hgp hn hK his (by simpa using ho))]
        have hne : (f (12 + K) != s + 1) = false := by simpa using ho
        clear ho hgp hia hik his
        go_enter Try.func30, Try.ntmps30
        go_wp2_with (first
          | (refine wpList_load_pool _ rfl ?_ _ rfl f g T0 ?_; · rfl)
          | (refine wpList_store_pool rfl _ _ rfl _ rfl f g rfl _ T8 rfl ?_; intro w8 T8 hs8 hk8 hb8; replace T0 := hk8 _ _ (by omega) T0; replace hB := hb8 _ _ (by omega) hB)
          | (replace T0 := T0.upd (12 + K) (0) (by omega); replace T8 := T8.other (o := 12 + K) (v := .int .i64 (0)) (show w.heap.size + 1 ≠ w.heap.size by omega); replace hB := hB.setCell (p := ⟨w.heap.size, 12 + K, none⟩) (Nat.le_refl _) (.int .i64 (0)); refine wpList_load_pool _ rfl ?_ _ rfl (upd f (12 + K) (0)) g T0 ?_; · rfl)
          | (refine wpList_store_pool rfl _ _ rfl _ rfl (upd f (12 + K) (0)) g rfl _ T8 rfl ?_; intro w8 T8 hs8 hk8 hb8; replace hB := hb8 _ _ (by omega) hB)
          | (go_at_call 25; go_fit (CG _); rintro e w' ⟨rfl, hb⟩; (try replace hb := below_undr' hb); replace T0 := T0.below hb; replace T8 := T8.below hb; replace hB := hB.trans (hb.mono hB.size); replace cw := T0.own (12 + K) (by omega); replace fw := T0.free (12 + K)))
        ((try simp only [Exit.inBlock, Exit.then]); refine bodyPost_ret (results_pool2 rfl _ _ _ _ _ rfl T8) rfl ⟨?_, hB⟩)
        rw [HS.out]; rfl
end Go.Proofs.Ythcedehppflcgad
