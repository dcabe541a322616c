/-
  Of what BindCloses, BindOpens stands on: part 7.
-/
import Derived.Test.YtmdijjbkjcnbpaaBindCO6
namespace Go.Proofs.Ytmdijjbkjcnbpaa
open Go.ChangeShapes Go.WideShapes Go.ChangeAt Go.RowKit
set_option linter.unusedSimpArgs false
set_option linter.unusedVariables false
set_option maxRecDepth 10000 in
set_option maxHeartbeats 4000000 in
theorem taker_any (f : Nat → Int) (g : Nat → Bool) (s a d : Int) (hd : (Lit.int .i64 d).wf = true) (w : World) :
    Calls Try.prog 44 #[plv f g, .int .i64 s, .int .i64 a, .int .i64 d] w fun e w' => e = .returned (takeS f g s a d) ∧ Below w.heap.size w w' := by
  have T0 : PRow ((w.alloc (.cells (pc f g) 26)).alloc (.cells #[.int .i64 0, .int .i64 0, .int .i64 0, .int .i64 0, .int .i64 0, .int .i64 0, .int .i64 0, .int .i64 0, .int .i64 0, .int .i64 0, .int .i64 0, .int .i64 0, .int .i64 0, .int .i64 0, .int .i64 0, .int .i64 0, .int .i64 0, .int .i64 0, .bool false, .bool false, .bool false] 26)) w.heap.size (pc f g) := (PRow.new _ _).alloc _
  have T8 : PRow ((w.alloc (.cells (pc f g) 26)).alloc (.cells #[.int .i64 0, .int .i64 0, .int .i64 0, .int .i64 0, .int .i64 0, .int .i64 0, .int .i64 0, .int .i64 0, .int .i64 0, .int .i64 0, .int .i64 0, .int .i64 0, .int .i64 0, .int .i64 0, .int .i64 0, .int .i64 0, .int .i64 0, .int .i64 0, .bool false, .bool false, .bool false] 26)) (w.heap.size + 1) (pc (fun _ => 0) (fun _ => false)) := by
    have h8 : PRow ((w.alloc (.cells (pc f g) 26)).alloc (.cells #[.int .i64 0, .int .i64 0, .int .i64 0, .int .i64 0, .int .i64 0, .int .i64 0, .int .i64 0, .int .i64 0, .int .i64 0, .int .i64 0, .int .i64 0, .int .i64 0, .int .i64 0, .int .i64 0, .int .i64 0, .int .i64 0, .int .i64 0, .int .i64 0, .bool false, .bool false, .bool false] 26)) (w.alloc (.cells (pc f g) 26)).heap.size #[.int .i64 0, .int .i64 0, .int .i64 0, .int .i64 0, .int .i64 0, .int .i64 0, .int .i64 0, .int .i64 0, .int .i64 0, .int .i64 0, .int .i64 0, .int .i64 0, .int .i64 0, .int .i64 0, .int .i64 0, .int .i64 0, .int .i64 0, .int .i64 0, .bool false, .bool false, .bool false] := PRow.new _ _
    have e8 : (w.alloc (.cells (pc f g) 26)).heap.size = w.heap.size + 1 := by simp
    rw [e8] at h8
    exact h8
  have hB : Below w.heap.size w ((w.alloc (.cells (pc f g) 26)).alloc (.cells #[.int .i64 0, .int .i64 0, .int .i64 0, .int .i64 0, .int .i64 0, .int .i64 0, .int .i64 0, .int .i64 0, .int .i64 0, .int .i64 0, .int .i64 0, .int .i64 0, .int .i64 0, .int .i64 0, .int .i64 0, .int .i64 0, .int .i64 0, .int .i64 0, .bool false, .bool false, .bool false] 26)) := ((Below.refl _ _).alloc (Nat.le_refl _) _).alloc (by simp) _
  have CG := fun w => goodr_any f g w
  unfold plv at CG
  unfold plv
  cases hgp : goodP f with
  | false =>
    have HS : Hid (takeS f g s a d = _) := takeS_no (takeE_bad hgp) (by omega)
    rw [hgp] at CG
    go_enter Try.func44, Try.ntmps44
    go_wp2_with (first
          | (refine wpList_load_pool _ rfl ?_ _ rfl f g T0 ?_; · rfl)
          | (refine wpList_store_pool rfl _ _ rfl _ rfl f g rfl _ T8 rfl ?_; intro w8 T8 hs8 hk8 hb8; replace T0 := hk8 _ _ (by omega) T0; replace hB := hb8 _ _ (by omega) hB)
          | (go_at_call 35; go_fit (CG _); rintro e w' ⟨rfl, hb⟩; (try replace hb := below_undr' hb); replace T0 := T0.below hb; replace T8 := T8.below hb; replace hB := hB.trans (hb.mono hB.size)))
    ((try simp only [Exit.inBlock, Exit.then]); refine bodyPost_ret (results_pool3 rfl _ _ _ _ _ rfl T8) rfl ⟨?_, hB⟩)
    rw [HS.out]; rfl
  | true =>
    rw [hgp] at CG
    by_cases hin : inR a 3 = true ∧ inR s 8 = true
    rotate_left
    · have HS : Hid (takeS f g s a d = _) := takeS_no (takeE_none hgp hin) (by omega)
      clear hgp
      have hin' : (a < 0 ∨ 2 < a) ∨ (s < 0 ∨ 7 < s) := by
        by_cases h : (a < 0 ∨ 2 < a) ∨ (s < 0 ∨ 7 < s)
        · exact h
        · exact absurd ⟨inR_true (by omega) (by omega), inR_true (by omega) (by omega)⟩ hin
      clear hin
      by_cases h1 : a < 0
      · go_enter Try.func44, Try.ntmps44
        go_wp2_with (first
          | (refine wpList_load_pool _ rfl ?_ _ rfl f g T0 ?_; · rfl)
          | (refine wpList_store_pool rfl _ _ rfl _ rfl f g rfl _ T8 rfl ?_; intro w8 T8 hs8 hk8 hb8; replace T0 := hk8 _ _ (by omega) T0; replace hB := hb8 _ _ (by omega) hB)
          | (go_at_call 35; go_fit (CG _); rintro e w' ⟨rfl, hb⟩; (try replace hb := below_undr' hb); replace T0 := T0.below hb; replace T8 := T8.below hb; replace hB := hB.trans (hb.mono hB.size)))
        ((try simp only [Exit.inBlock, Exit.then]); refine bodyPost_ret (results_pool3 rfl _ _ _ _ _ rfl T8) rfl ⟨?_, hB⟩)
        rw [HS.out]; rfl
      · have h1' : 0 ≤ a := by omega
        clear h1
        by_cases h2 : 2 < a
        · go_enter Try.func44, Try.ntmps44
          go_wp2_with (first
          | (refine wpList_load_pool _ rfl ?_ _ rfl f g T0 ?_; · rfl)
          | (refine wpList_store_pool rfl _ _ rfl _ rfl f g rfl _ T8 rfl ?_; intro w8 T8 hs8 hk8 hb8; replace T0 := hk8 _ _ (by omega) T0; replace hB := hb8 _ _ (by omega) hB)
          | (go_at_call 35; go_fit (CG _); rintro e w' ⟨rfl, hb⟩; (try replace hb := below_undr' hb); replace T0 := T0.below hb; replace T8 := T8.below hb; replace hB := hB.trans (hb.mono hB.size)))
          ((try simp only [Exit.inBlock, Exit.then]); refine bodyPost_ret (results_pool3 rfl _ _ _ _ _ rfl T8) rfl ⟨?_, hB⟩)
          rw [HS.out]; rfl
        · have h2' : a ≤ 2 := by omega
          clear h2
          by_cases h3 : s < 0
          · go_enter Try.func44, Try.ntmps44
            go_wp2_with (first
          | (refine wpList_load_pool _ rfl ?_ _ rfl f g T0 ?_; · rfl)
          | (refine wpList_store_pool rfl _ _ rfl _ rfl f g rfl _ T8 rfl ?_; intro w8 T8 hs8 hk8 hb8; replace T0 := hk8 _ _ (by omega) T0; replace hB := hb8 _ _ (by omega) hB)
          | (go_at_call 35; go_fit (CG _); rintro e w' ⟨rfl, hb⟩; (try replace hb := below_undr' hb); replace T0 := T0.below hb; replace T8 := T8.below hb; replace hB := hB.trans (hb.mono hB.size)))
            ((try simp only [Exit.inBlock, Exit.then]); refine bodyPost_ret (results_pool3 rfl _ _ _ _ _ rfl T8) rfl ⟨?_, hB⟩)
            rw [HS.out]; rfl
          · have h3' : 0 ≤ s := by omega
            have h4' : 7 < s := by omega
            clear h3 hin'
            go_enter Try.func44, Try.ntmps44
            go_wp2_with (first
          | (refine wpList_load_pool _ rfl ?_ _ rfl f g T0 ?_; · rfl)
          | (refine wpList_store_pool rfl _ _ rfl _ rfl f g rfl _ T8 rfl ?_; intro w8 T8 hs8 hk8 hb8; replace T0 := hk8 _ _ (by omega) T0; replace hB := hb8 _ _ (by omega) hB)
          | (go_at_call 35; go_fit (CG _); rintro e w' ⟨rfl, hb⟩; (try replace hb := below_undr' hb); replace T0 := T0.below hb; replace T8 := T8.below hb; replace hB := hB.trans (hb.mono hB.size)))
            ((try simp only [Exit.inBlock, Exit.then]); refine bodyPost_ret (results_pool3 rfl _ _ _ _ _ rfl T8) rfl ⟨?_, hB⟩)
            rw [HS.out]; rfl
    obtain ⟨hia, his⟩ := hin
    have hba : 0 ≤ a ∧ a < 3 := of_decide_eq_true hia
    have hbs : 0 ≤ s ∧ s < 8 := of_decide_eq_true his
    obtain ⟨n, rfl⟩ : ∃ n : Nat, a = n := ⟨a.toNat, by omega⟩
    have hn : n < 3 := by omega
    have hs0 : 0 ≤ s := hbs.1
    have hs7 : s ≤ 7 := by omega
    rcases (show n = 0 ∨ n = 1 ∨ n = 2 by omega) with rfl | rfl | rfl
    · have CF := fun w => freer_any f g 0 (by omega) w
      unfold plv at CF
      have dr := T0.dr 0 (by omega)
      have hfl := freeTo_len (rowF f 0) 6
      have hfl' : (freeL (rowF f 0)).length ≤ 6 := hfl
      clear hfl
      cases hg : g 0 with
      | true =>
        have HS : Hid (takeS f g s ((0 : Nat) : Int) d = _) := takeS_no (takeE_dr hgp hn his hg) (by omega)
        rw [hg] at dr
        clear hgp hia his
        go_enter Try.func44, Try.ntmps44
        go_wp2_with (first
          | (refine wpList_load_pool _ rfl ?_ _ rfl f g T0 ?_; · rfl)
          | (refine wpList_store_pool rfl _ _ rfl _ rfl f g rfl _ T8 rfl ?_; intro w8 T8 hs8 hk8 hb8; replace T0 := hk8 _ _ (by omega) T0; replace hB := hb8 _ _ (by omega) hB)
          | (go_at_call 35; go_fit (CG _); rintro e w' ⟨rfl, hb⟩; (try replace hb := below_undr' hb); replace T0 := T0.below hb; replace T8 := T8.below hb; replace hB := hB.trans (hb.mono hB.size); replace dr := T0.dr 0 (by omega); rw [hg] at dr))
        ((try simp only [Exit.inBlock, Exit.then]); refine bodyPost_ret (results_pool3 rfl _ _ _ _ _ rfl T8) rfl ⟨?_, hB⟩)
        rw [HS.out]; rfl
      | false =>
        rw [hg] at dr
        by_cases hz : (freeL (rowF f 0)).length = 0
        · have HS : Hid (takeS f g s ((0 : Nat) : Int) d = _) := takeS_no (takeE_down hgp hn his hg hz) (by omega)
          have hz' : ((freeL (rowF f 0)).length : Int) = 0 := by omega
          clear hgp hia his hz
          go_enter Try.func44, Try.ntmps44
          go_wp2_with (first
          | (refine wpList_load_pool _ rfl ?_ _ rfl f g T0 ?_; · rfl)
          | (refine wpList_store_pool rfl _ _ rfl _ rfl f g rfl _ T8 rfl ?_; intro w8 T8 hs8 hk8 hb8; replace T0 := hk8 _ _ (by omega) T0; replace hB := hb8 _ _ (by omega) hB)
          | (go_at_call 35; go_fit (CG _); rintro e w' ⟨rfl, hb⟩; (try replace hb := below_undr' hb); replace T0 := T0.below hb; replace T8 := T8.below hb; replace hB := hB.trans (hb.mono hB.size); replace dr := T0.dr 0 (by omega); rw [hg] at dr)
          | (go_at_call 53; go_fit (CF _); rintro e w' ⟨v, rfl, ⟨a1, c1, rfl⟩, hI, hb⟩; (try replace hb := below_undr' hb); replace T0 := T0.below hb; replace T8 := T8.below hb; replace hB := hB.trans (hb.mono hB.size)))
          ((try simp only [Exit.inBlock, Exit.then]); refine bodyPost_ret (results_pool3 rfl _ _ _ _ _ rfl T8) rfl ⟨?_, hB⟩)
          rw [HS.out]; rfl
        · have HS : Hid (takeS f g s ((0 : Nat) : Int) d = _) := takeS_yes (takeE_ok hgp hn his hg hz)
          have hpos : 0 < (freeL (rowF f 0)).length := by omega
          have hz' : (((freeL (rowF f 0)).length : Int) == 0) = false := by simp; intro h; rw [h] at hpos; simp at hpos
          obtain ⟨K, hK⟩ : ∃ K, drawnL (freeL (rowF f 0)) d = K := ⟨_, rfl⟩
          have hm := freeL_mem _ _ (drawnL_mem (freeL (rowF f 0)) d hpos)
          rw [hK] at hm
          have hK6 : (K : Int) < 6 := by omega
          have hK0 : (0 : Int) ≤ (K : Int) := by omega
          have hs1 : wrap64 (s + 1) = s + 1 := by unfold wrap64; omega
          replace HS : Hid (takeS f g s ((0 : Nat) : Int) d = .tuple #[plv (upd f (K) (s + 1)) g, .int .i64 (K : Int), .int .i64 0]) := by
            show _ = _
            rw [HS.out, hK]; simp
          obtain ⟨q0, q1⟩ := at_bd d (freeL (rowF f 0)).length hpos
          have hq : (d % ((freeL (rowF f 0)).length : Int)).toNat < (freeL (rowF f 0)).length := by omega
          have hKq : (freeL (rowF f 0))[(d % ((freeL (rowF f 0)).length : Int)).toNat] = K := by
            rw [← hK]; unfold drawnL
            rw [List.getD_eq_getElem?_getD, List.getElem?_eq_getElem hq]; rfl
          have CC := fun w => chosen_any d (freeL (rowF f 0)).length w hpos hfl'
          have hm6 : K < 6 := hm.1
          clear hgp hia his hz hm
          go_enter Try.func44, Try.ntmps44
          go_wp2_with (first
          | (refine wpList_load_pool _ rfl ?_ _ rfl f g T0 ?_; · rfl)
          | (refine wpList_store_pool rfl _ _ rfl _ rfl f g rfl _ T8 rfl ?_; intro w8 T8 hs8 hk8 hb8; replace T0 := hk8 _ _ (by omega) T0; replace hB := hb8 _ _ (by omega) hB)
          | (replace T0 := T0.upd (K) (s + 1) (by omega); replace T8 := T8.other (o := K) (v := .int .i64 (s + 1)) (show w.heap.size + 1 ≠ w.heap.size by omega); replace hB := hB.setCell (p := ⟨w.heap.size, K, none⟩) (Nat.le_refl _) (.int .i64 (s + 1)); refine wpList_load_pool _ rfl ?_ _ rfl (upd f (K) (s + 1)) g T0 ?_; · rfl)
          | (refine wpList_store_pool rfl _ _ rfl _ rfl (upd f (K) (s + 1)) g rfl _ T8 rfl ?_; intro w8 T8 hs8 hk8 hb8; replace hB := hb8 _ _ (by omega) hB)
          | (go_at_call 35; go_fit (CG _); rintro e w' ⟨rfl, hb⟩; (try replace hb := below_undr' hb); replace T0 := T0.below hb; replace T8 := T8.below hb; replace hB := hB.trans (hb.mono hB.size); replace dr := T0.dr 0 (by omega); rw [hg] at dr)
          | (go_at_call 53; go_fit (CF _); rintro e w' ⟨v, rfl, ⟨a1, c1, rfl⟩, hI, hb⟩; (try replace hb := below_undr' hb); replace T0 := T0.below hb; replace T8 := T8.below hb; replace hB := hB.trans (hb.mono hB.size); obtain ⟨b1, cap1, e1, hc⟩ := hI.at hpos; have e2 : a1 = some ⟨b1, 0, none⟩ := (by injection e1); subst e2; have hcell := hc _ hq; rw [hKq] at hcell; clear hc; have cw := T0.own (K) (by omega); have fw := T0.free (K))
          | (go_at_call 54; go_fit (CC _); rintro e w' ⟨rfl, rfl⟩))
          ((try simp only [Exit.inBlock, Exit.then]); refine bodyPost_ret (results_pool3 rfl _ _ _ _ _ rfl T8) rfl ⟨?_, hB⟩)
          rw [HS.out]; rfl
    · have CF := fun w => freer_any f g 1 (by omega) w
      unfold plv at CF
      have dr := T0.dr 1 (by omega)
      have hfl := freeTo_len (rowF f 1) 6
      have hfl' : (freeL (rowF f 1)).length ≤ 6 := hfl
      clear hfl
      cases hg : g 1 with
      | true =>
        have HS : Hid (takeS f g s ((1 : Nat) : Int) d = _) := takeS_no (takeE_dr hgp hn his hg) (by omega)
        rw [hg] at dr
        clear hgp hia his
        go_enter Try.func44, Try.ntmps44
        go_wp2_with (first
          | (refine wpList_load_pool _ rfl ?_ _ rfl f g T0 ?_; · rfl)
          | (refine wpList_store_pool rfl _ _ rfl _ rfl f g rfl _ T8 rfl ?_; intro w8 T8 hs8 hk8 hb8; replace T0 := hk8 _ _ (by omega) T0; replace hB := hb8 _ _ (by omega) hB)
          | (go_at_call 35; go_fit (CG _); rintro e w' ⟨rfl, hb⟩; (try replace hb := below_undr' hb); replace T0 := T0.below hb; replace T8 := T8.below hb; replace hB := hB.trans (hb.mono hB.size); replace dr := T0.dr 1 (by omega); rw [hg] at dr))
        ((try simp only [Exit.inBlock, Exit.then]); refine bodyPost_ret (results_pool3 rfl _ _ _ _ _ rfl T8) rfl ⟨?_, hB⟩)
        rw [HS.out]; rfl
      | false =>
        rw [hg] at dr
        by_cases hz : (freeL (rowF f 1)).length = 0
        · have HS : Hid (takeS f g s ((1 : Nat) : Int) d = _) := takeS_no (takeE_down hgp hn his hg hz) (by omega)
          have hz' : ((freeL (rowF f 1)).length : Int) = 0 := by omega
          clear hgp hia his hz
          go_enter Try.func44, Try.ntmps44
          go_wp2_with (first
          | (refine wpList_load_pool _ rfl ?_ _ rfl f g T0 ?_; · rfl)
          | (refine wpList_store_pool rfl _ _ rfl _ rfl f g rfl _ T8 rfl ?_; intro w8 T8 hs8 hk8 hb8; replace T0 := hk8 _ _ (by omega) T0; replace hB := hb8 _ _ (by omega) hB)
          | (go_at_call 35; go_fit (CG _); rintro e w' ⟨rfl, hb⟩; (try replace hb := below_undr' hb); replace T0 := T0.below hb; replace T8 := T8.below hb; replace hB := hB.trans (hb.mono hB.size); replace dr := T0.dr 1 (by omega); rw [hg] at dr)
          | (go_at_call 53; go_fit (CF _); rintro e w' ⟨v, rfl, ⟨a1, c1, rfl⟩, hI, hb⟩; (try replace hb := below_undr' hb); replace T0 := T0.below hb; replace T8 := T8.below hb; replace hB := hB.trans (hb.mono hB.size)))
          ((try simp only [Exit.inBlock, Exit.then]); refine bodyPost_ret (results_pool3 rfl _ _ _ _ _ rfl T8) rfl ⟨?_, hB⟩)
          rw [HS.out]; rfl
        · have HS : Hid (takeS f g s ((1 : Nat) : Int) d = _) := takeS_yes (takeE_ok hgp hn his hg hz)
          have hpos : 0 < (freeL (rowF f 1)).length := by omega
          have hz' : (((freeL (rowF f 1)).length : Int) == 0) = false := by simp; intro h; rw [h] at hpos; simp at hpos
          obtain ⟨K, hK⟩ : ∃ K, drawnL (freeL (rowF f 1)) d = K := ⟨_, rfl⟩
          have hm := freeL_mem _ _ (drawnL_mem (freeL (rowF f 1)) d hpos)
          rw [hK] at hm
          have hK6 : (K : Int) < 6 := by omega
          have hK0 : (0 : Int) ≤ (K : Int) := by omega
          have hs1 : wrap64 (s + 1) = s + 1 := by unfold wrap64; omega
          replace HS : Hid (takeS f g s ((1 : Nat) : Int) d = .tuple #[plv (upd f (6 + K) (s + 1)) g, .int .i64 (K : Int), .int .i64 0]) := by
            show _ = _
            rw [HS.out, hK]
          obtain ⟨q0, q1⟩ := at_bd d (freeL (rowF f 1)).length hpos
          have hq : (d % ((freeL (rowF f 1)).length : Int)).toNat < (freeL (rowF f 1)).length := by omega
          have hKq : (freeL (rowF f 1))[(d % ((freeL (rowF f 1)).length : Int)).toNat] = K := by
            rw [← hK]; unfold drawnL
            rw [List.getD_eq_getElem?_getD, List.getElem?_eq_getElem hq]; rfl
          have CC := fun w => chosen_any d (freeL (rowF f 1)).length w hpos hfl'
          have hm6 : K < 6 := hm.1
          clear hgp hia his hz hm
          go_enter Try.func44, Try.ntmps44
          go_wp2_with (first
          | (refine wpList_load_pool _ rfl ?_ _ rfl f g T0 ?_; · rfl)
          | (refine wpList_store_pool rfl _ _ rfl _ rfl f g rfl _ T8 rfl ?_; intro w8 T8 hs8 hk8 hb8; replace T0 := hk8 _ _ (by omega) T0; replace hB := hb8 _ _ (by omega) hB)
          | (replace T0 := T0.upd (6 + K) (s + 1) (by omega); replace T8 := T8.other (o := 6 + K) (v := .int .i64 (s + 1)) (show w.heap.size + 1 ≠ w.heap.size by omega); replace hB := hB.setCell (p := ⟨w.heap.size, 6 + K, none⟩) (Nat.le_refl _) (.int .i64 (s + 1)); refine wpList_load_pool _ rfl ?_ _ rfl (upd f (6 + K) (s + 1)) g T0 ?_; · rfl)
          | (refine wpList_store_pool rfl _ _ rfl _ rfl (upd f (6 + K) (s + 1)) g rfl _ T8 rfl ?_; intro w8 T8 hs8 hk8 hb8; replace hB := hb8 _ _ (by omega) hB)
          | (go_at_call 35; go_fit (CG _); rintro e w' ⟨rfl, hb⟩; (try replace hb := below_undr' hb); replace T0 := T0.below hb; replace T8 := T8.below hb; replace hB := hB.trans (hb.mono hB.size); replace dr := T0.dr 1 (by omega); rw [hg] at dr)
          | (go_at_call 53; go_fit (CF _); rintro e w' ⟨v, rfl, ⟨a1, c1, rfl⟩, hI, hb⟩; (try replace hb := below_undr' hb); replace T0 := T0.below hb; replace T8 := T8.below hb; replace hB := hB.trans (hb.mono hB.size); obtain ⟨b1, cap1, e1, hc⟩ := hI.at hpos; have e2 : a1 = some ⟨b1, 0, none⟩ := (by injection e1); subst e2; have hcell := hc _ hq; rw [hKq] at hcell; clear hc; have cw := T0.own (6 + K) (by omega); have fw := T0.free (6 + K))
          | (go_at_call 54; go_fit (CC _); rintro e w' ⟨rfl, rfl⟩))
          ((try simp only [Exit.inBlock, Exit.then]); refine bodyPost_ret (results_pool3 rfl _ _ _ _ _ rfl T8) rfl ⟨?_, hB⟩)
          rw [HS.out]; rfl
    · have CF := fun w => freer_any f g 2 (by omega) w
      unfold plv at CF
      have dr := T0.dr 2 (by omega)
      have hfl := freeTo_len (rowF f 2) 6
      have hfl' : (freeL (rowF f 2)).length ≤ 6 := hfl
      clear hfl
      cases hg : g 2 with
      | true =>
        have HS : Hid (takeS f g s ((2 : Nat) : Int) d = _) := takeS_no (takeE_dr hgp hn his hg) (by omega)
        rw [hg] at dr
        clear hgp hia his
        go_enter Try.func44, Try.ntmps44
        go_wp2_with (first
          | (refine wpList_load_pool _ rfl ?_ _ rfl f g T0 ?_; · rfl)
          | (refine wpList_store_pool rfl _ _ rfl _ rfl f g rfl _ T8 rfl ?_; intro w8 T8 hs8 hk8 hb8; replace T0 := hk8 _ _ (by omega) T0; replace hB := hb8 _ _ (by omega) hB)
          | (go_at_call 35; go_fit (CG _); rintro e w' ⟨rfl, hb⟩; (try replace hb := below_undr' hb); replace T0 := T0.below hb; replace T8 := T8.below hb; replace hB := hB.trans (hb.mono hB.size); replace dr := T0.dr 2 (by omega); rw [hg] at dr))
        ((try simp only [Exit.inBlock, Exit.then]); refine bodyPost_ret (results_pool3 rfl _ _ _ _ _ rfl T8) rfl ⟨?_, hB⟩)
        rw [HS.out]; rfl
      | false =>
        rw [hg] at dr
        by_cases hz : (freeL (rowF f 2)).length = 0
        · have HS : Hid (takeS f g s ((2 : Nat) : Int) d = _) := takeS_no (takeE_down hgp hn his hg hz) (by omega)
          have hz' : ((freeL (rowF f 2)).length : Int) = 0 := by omega
          clear hgp hia his hz
          go_enter Try.func44, Try.ntmps44
          go_wp2_with (first
          | (refine wpList_load_pool _ rfl ?_ _ rfl f g T0 ?_; · rfl)
          | (refine wpList_store_pool rfl _ _ rfl _ rfl f g rfl _ T8 rfl ?_; intro w8 T8 hs8 hk8 hb8; replace T0 := hk8 _ _ (by omega) T0; replace hB := hb8 _ _ (by omega) hB)
          | (go_at_call 35; go_fit (CG _); rintro e w' ⟨rfl, hb⟩; (try replace hb := below_undr' hb); replace T0 := T0.below hb; replace T8 := T8.below hb; replace hB := hB.trans (hb.mono hB.size); replace dr := T0.dr 2 (by omega); rw [hg] at dr)
          | (go_at_call 53; go_fit (CF _); rintro e w' ⟨v, rfl, ⟨a1, c1, rfl⟩, hI, hb⟩; (try replace hb := below_undr' hb); replace T0 := T0.below hb; replace T8 := T8.below hb; replace hB := hB.trans (hb.mono hB.size)))
          ((try simp only [Exit.inBlock, Exit.then]); refine bodyPost_ret (results_pool3 rfl _ _ _ _ _ rfl T8) rfl ⟨?_, hB⟩)
          rw [HS.out]; rfl
        · have HS : Hid (takeS f g s ((2 : Nat) : Int) d = _) := takeS_yes (takeE_ok hgp hn his hg hz)
          have hpos : 0 < (freeL (rowF f 2)).length := by omega
          have hz' : (((freeL (rowF f 2)).length : Int) == 0) = false := by simp; intro h; rw [h] at hpos; simp at hpos
          obtain ⟨K, hK⟩ : ∃ K, drawnL (freeL (rowF f 2)) d = K := ⟨_, rfl⟩
          have hm := freeL_mem _ _ (drawnL_mem (freeL (rowF f 2)) d hpos)
          rw [hK] at hm
          have hK6 : (K : Int) < 6 := by omega
          have hK0 : (0 : Int) ≤ (K : Int) := by omega
          have hs1 : wrap64 (s + 1) = s + 1 := by unfold wrap64; omega
          replace HS : Hid (takeS f g s ((2 : Nat) : Int) d = .tuple #[plv (upd f (12 + K) (s + 1)) g, .int .i64 (K : Int), .int .i64 0]) := by
            show _ = _
            rw [HS.out, hK]
          obtain ⟨q0, q1⟩ := at_bd d (freeL (rowF f 2)).length hpos
          have hq : (d % ((freeL (rowF f 2)).length : Int)).toNat < (freeL (rowF f 2)).length := by omega
          have hKq : (freeL (rowF f 2))[(d % ((freeL (rowF f 2)).length : Int)).toNat] = K := by
            rw [← hK]; unfold drawnL
            rw [List.getD_eq_getElem?_getD, List.getElem?_eq_getElem hq]; rfl
          have CC := fun w => chosen_any d (freeL (rowF f 2)).length w hpos hfl'
          have hm6 : K < 6 := hm.1
          clear hgp hia his hz hm
          go_enter Try.func44, Try.ntmps44
          go_wp2_with (first
          | (refine wpList_load_pool _ rfl ?_ _ rfl f g T0 ?_; · rfl)
          | (refine wpList_store_pool rfl _ _ rfl _ rfl f g rfl _ T8 rfl ?_; intro w8 T8 hs8 hk8 hb8; replace T0 := hk8 _ _ (by omega) T0; replace hB := hb8 _ _ (by omega) hB)
          | (replace T0 := T0.upd (12 + K) (s + 1) (by omega); replace T8 := T8.other (o := 12 + K) (v := .int .i64 (s + 1)) (show w.heap.size + 1 ≠ w.heap.size by omega); replace hB := hB.setCell (p := ⟨w.heap.size, 12 + K, none⟩) (Nat.le_refl _) (.int .i64 (s + 1)); refine wpList_load_pool _ rfl ?_ _ rfl (upd f (12 + K) (s + 1)) g T0 ?_; · rfl)
          | (refine wpList_store_pool rfl _ _ rfl _ rfl (upd f (12 + K) (s + 1)) g rfl _ T8 rfl ?_; intro w8 T8 hs8 hk8 hb8; replace hB := hb8 _ _ (by omega) hB)
          | (go_at_call 35; go_fit (CG _); rintro e w' ⟨rfl, hb⟩; (try replace hb := below_undr' hb); replace T0 := T0.below hb; replace T8 := T8.below hb; replace hB := hB.trans (hb.mono hB.size); replace dr := T0.dr 2 (by omega); rw [hg] at dr)
          | (go_at_call 53; go_fit (CF _); rintro e w' ⟨v, rfl, ⟨a1, c1, rfl⟩, hI, hb⟩; (try replace hb := below_undr' hb); replace T0 := T0.below hb; replace T8 := T8.below hb; replace hB := hB.trans (hb.mono hB.size); obtain ⟨b1, cap1, e1, hc⟩ := hI.at hpos; have e2 : a1 = some ⟨b1, 0, none⟩ := (by injection e1); subst e2; have hcell := hc _ hq; rw [hKq] at hcell; clear hc; have cw := T0.own (12 + K) (by omega); have fw := T0.free (12 + K))
          | (go_at_call 54; go_fit (CC _); rintro e w' ⟨rfl, rfl⟩))
          ((try simp only [Exit.inBlock, Exit.then]); refine bodyPost_ret (results_pool3 rfl _ _ _ _ _ rfl T8) rfl ⟨?_, hB⟩)
          rw [HS.out]; rfl
end Go.Proofs.Ytmdijjbkjcnbpaa
