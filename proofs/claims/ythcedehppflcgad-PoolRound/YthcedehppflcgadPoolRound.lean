/-
  For every pool, rentrollkeep.PoolRound returns true: what is taken was nobody's, is that subscriber's alone, and given back all is as it was; no condition but the form's own reach.
-/
import Derived.Test.YthcedehppflcgadRows
import Derived.WalkKit
import Derived.ProofKit
import Derived.OpenShut
import Derived.ShutString
import Derived.SizedLaws
import Derived.Below
import Derived.Test.YthcedehppflcgadPoolR
import Derived.Test.YthcedehppflcgadYieldP
import Derived.Deep.RegionHeld3
import Derived.Deep.DeepCutAuto
namespace Go.Proofs.Ythcedehppflcgad.poolRound
open Go.ChangeShapes Go.WideShapes Go.ChangeAt Go.RowKit
open Go.ChangeMaps (open_string shut_string)
set_option linter.unusedVariables false
set_option linter.unusedSimpArgs false

theorem own : ownKnob Try.prog.godebug = none := by kernel_rfl

set_option maxRecDepth 10000 in
set_option maxHeartbeats 16000000 in
theorem walk (a0 : PoolV) (a1 : Int) (a2 : Int) (a3 : Int) (w0 : wfF a0.f) (w1 : (Lit.int .i64 a1).wf = true) (w2 : (Lit.int .i64 a2).wf = true) (w3 : (Lit.int .i64 a3).wf = true) (w : World) :
    Calls Try.prog 6 #[plv a0.f a0.g, .int .i64 a1, .int .i64 a2, .int .i64 a3] w fun e w' => e = .returned (.bool true) ∧ Below w.heap.size w w' := by
  obtain ⟨f, g⟩ := a0
  simp only at w0 ⊢
  have hB : Below w.heap.size w (w.alloc (.cells (pc f g) 47)) := (Below.refl _ _).alloc (Nat.le_refl _) _
  have T4 : PRow (w.alloc (.cells (pc f g) 47)) w.heap.size (pc f g) := PRow.new _ _
  by_cases he : takeE f g a1 a2 = 0
  rotate_left
  · have C1 : ∀ w, Calls Try.prog 20 #[plv f g, .int .i64 a1, .int .i64 a2, .int .i64 a3] w fun e w' => e = .returned (.tuple #[plv f g, .int .i64 0, .int .i64 (takeE f g a1 a2)]) ∧ Below w.heap.size w w' := fun w => by
      have := take_any f g a1 a2 a3 w3 w
      rw [takeS_no rfl he] at this; exact this
    generalize takeE f g a1 a2 = ee at *
    have hne : (ee != 0) = true := by simpa using he
    clear he
    unfold plv at *
    go_enter Try.func6, Try.ntmps6
    go_wp2_with (first | (refine wpList_load_pool _ rfl ?_ _ rfl f g T4 ?_; · kernel_rfl) | (refine wpList_load_pool _ rfl ?_ _ rfl f g T9 ?_; · kernel_rfl) | (refine wpList_eq_pool _ _ rfl ?_ f g w0 rfl rfl ?_; · kernel_rfl) | (go_at_call 20; go_fit (C1 _); rintro e w' ⟨rfl, hb⟩; (try replace hb := below_undr' hb); replace T4 := T4.below hb; (try replace T9 := T9.below hb); (try replace T12 := T12.below hb); replace hB := hB.trans (hb.mono hB.size)) | (refine wpList_alloc_pool rfl rfl ?_; intro b9 w8 eb9 T9 hk8 hb8 hs8; have nb9T4 := (hk8 _ _ T4).2; replace T4 := (hk8 _ _ T4).1; replace hB := hb8 _ _ hB hB.size; have lb9 : w.heap.size ≤ b9 := (by rw [eb9]; have := T4.lt; omega); clear hs8 hk8 hb8 eb9) | (refine wpList_store_pool rfl _ _ rfl b9 rfl f g rfl (pc (fun _ => 0) (fun _ => false)) T9 rfl ?_; intro w8 T9 hs8 hk8 hb8; replace T4 := hk8 _ _ nb9T4 T4; replace hB := hb8 _ _ lb9 hB; clear hs8 hk8 hb8) | (go_at_call 36; refine (poolsKeep_any _).mono ?_; rintro e w' ⟨rfl, hb⟩; (try replace hb := below_undr' hb); replace T4 := T4.below hb; (try replace T9 := T9.below hb); (try replace T12 := T12.below hb); replace hB := hB.trans (hb.mono hB.size)))
    go_ret
    exact ⟨by kernel_rfl, hB⟩
  obtain ⟨hgp, ha, hs, hgd, hpos⟩ := takeE_inv he
  have hs1 : wrap64 (a1 + 1) = a1 + 1 := by unfold wrap64; omega
  have hs2 : IntKind.i64.wrap (a1 + 1) = a1 + 1 := by simp [IntKind.wrap, IntKind.bits, IntKind.signed]; omega
  have C3 := fun w => pickKeep_any (a1 + 1) w
  obtain ⟨q, hq⟩ : ∃ q, (a1 + 1) % 8 = q := ⟨_, rfl⟩
  rw [hq] at C3
  have hqn : ¬ (a1 + 1 = q + 1) := by omega
  rcases (show a2 = 0 ∨ a2 = 1 ∨ a2 = 2 by omega) with rfl | rfl | rfl
  · have hgd : g 0 = false := hgd
    have hpos : 0 < (freeL (rowF f 0)).length := hpos
    obtain ⟨K, hK⟩ : ∃ K, drawnL (freeL (rowF f 0)) a3 = K := ⟨_, rfl⟩
    have hm := freeL_mem _ _ (drawnL_mem (freeL (rowF f 0)) a3 hpos)
    rw [hK] at hm
    obtain ⟨hm6, hm0⟩ := hm
    have hK6 : (K : Int) < 6 := by omega
    have hK0 : (0 : Int) ≤ (K : Int) := by omega
    have h0 : f (K) = 0 := by have := hm0; unfold rowF at this; simpa using this
    have h0b : (f (K) == 0) = true := by simpa using h0
    have hF : wfF (upd f (K) (a1 + 1)) := fun i hi => by
      unfold upd
      by_cases e : i = K
      · rw [if_pos e]; simp [Lit.wf, IntKind.min, IntKind.max, IntKind.bits, IntKind.signed]; omega
      · rw [if_neg e]; exact w0 i hi
    have hFn : upd f (K) (a1 + 1) (K) = a1 + 1 := upd_at _ _ _
    have hgF : goodP (upd f (K) (a1 + 1)) = true := goodP_upd hgp _ _ (by omega) (by omega)
    have C1 : ∀ w, Calls Try.prog 20 #[plv f g, .int .i64 a1, .int .i64 0, .int .i64 a3] w fun e w' => e = .returned (.tuple #[plv (upd f (K) (a1 + 1)) g, .int .i64 (K : Int), .int .i64 0]) ∧ Below w.heap.size w w' := fun w => by
      have := take_any f g a1 0 a3 w3 w
      have e : takeS f g a1 0 a3 = _ := takeS_yes (a := 0) he
      rw [e, hK] at this
      simpa using this
    have C2 : ∀ w, Calls Try.prog 29 #[plv (upd f (K) (a1 + 1)) g, .int .i64 a1, .int .i64 0, .int .i64 (K : Int)] w fun e w' => e = .returned (.tuple #[plv f g, .int .i64 0]) ∧ Below w.heap.size w w' := fun w => by
      have := give_any (upd f (K) (a1 + 1)) g a1 0 K w
      have e : giveS (upd f (K) (a1 + 1)) g a1 0 K = _ := giveS_yes (a := 0) (giveE_ok (a := 0) hgF (by omega) hm6 (inR_true hs.1 hs.2) (by simpa using hFn))
      have e2 : upd (upd f (K) (a1 + 1)) (6 * 0 + K) 0 = f := by
        have := upd_back (x := a1 + 1) h0
        simpa using this
      rw [e, e2] at this
      exact this
    have C4 : ∀ w, Calls Try.prog 29 #[plv (upd f (K) (a1 + 1)) g, .int .i64 q, .int .i64 0, .int .i64 (K : Int)] w fun e w' => e = .returned (.tuple #[plv (upd f (K) (a1 + 1)) g, .int .i64 7]) ∧ Below w.heap.size w w' := fun w => by
      have := give_any (upd f (K) (a1 + 1)) g q 0 K w
      have e : giveS (upd f (K) (a1 + 1)) g q 0 K = _ := giveS_no (giveE_none hgF (fun h => hqn (by
        have h2 := h.2.2
        rw [Int.toNat_natCast] at h2
        have h3 : upd f (K) (a1 + 1) (K) = q + 1 := by simpa using h2
        rw [hFn] at h3; exact h3))) (by omega)
      rw [e] at this
      exact this
    have C5 := fun w => left_any f g 0 w
    have C6 := fun w => left_any (upd f (K) (a1 + 1)) g 0 w
    have hl : leftP f 0 - leftP (upd f (K) (a1 + 1)) 0 = 1 := by
      have := left_upd f 0 K (a1 + 1) (by omega) hm6 (by omega) (by simpa using h0)
      simpa using this
    clear hgp hs hpos hm0 h0 he hK hgF w3
    have hFb : (upd f (K) (a1 + 1) (K) == a1 + 1) = true := by simpa using hFn
    clear hFn
    generalize upd f (K) (a1 + 1) = F at *
    generalize leftP f 0 = lf at *
    generalize leftP F 0 = lg at *
    have hlb : (lf - lg == 1) = true := by simpa using hl
    have hlw : wrap64 (lf - lg) = lf - lg := by rw [hl]; unfold wrap64; rfl
    have hlx : IntKind.i64.wrap (lf - lg) = lf - lg := by rw [hl]; rfl
    clear hl
    unfold plv at *
    go_enter Try.func6, Try.ntmps6
    go_upto_region 5 with (first | (refine wpList_load_pool _ rfl ?_ _ rfl f g T4 ?_; · kernel_rfl) | (refine wpList_load_pool _ rfl ?_ _ rfl F g T9 ?_; · kernel_rfl) | (go_at_call 20; go_fit (C1 _); rintro e w' ⟨rfl, hb⟩; (try replace hb := below_undr' hb); replace T4 := T4.below hb; (try replace T9 := T9.below hb); (try replace T12 := T12.below hb); replace hB := hB.trans (hb.mono hB.size)) | (go_at_call 29; go_fit (C2 _); rintro e w' ⟨rfl, hb⟩; (try replace hb := below_undr' hb); replace T4 := T4.below hb; (try replace T9 := T9.below hb); (try replace T12 := T12.below hb); replace hB := hB.trans (hb.mono hB.size)) | (refine wpList_alloc_pool rfl rfl ?_; intro b12 w8 eb12 T12 hk8 hb8 hs8; have nb12T4 := (hk8 _ _ T4).2; replace T4 := (hk8 _ _ T4).1; have nb12T9 := (hk8 _ _ T9).2; replace T9 := (hk8 _ _ T9).1; replace hB := hb8 _ _ hB hB.size; have lb12 : w.heap.size ≤ b12 := (by rw [eb12]; have := T4.lt; omega); clear hs8 hk8 hb8 eb12) | (refine wpList_alloc_pool rfl rfl ?_; intro b9 w8 eb9 T9 hk8 hb8 hs8; have nb9T4 := (hk8 _ _ T4).2; replace T4 := (hk8 _ _ T4).1; replace hB := hb8 _ _ hB hB.size; have lb9 : w.heap.size ≤ b9 := (by rw [eb9]; have := T4.lt; omega); clear hs8 hk8 hb8 eb9) | (refine wpList_store_pool rfl _ _ rfl b12 rfl f g rfl (pc (fun _ => 0) (fun _ => false)) T12 rfl ?_; intro w8 T12 hs8 hk8 hb8; replace T4 := hk8 _ _ nb12T4 T4; replace T9 := hk8 _ _ nb12T9 T9; replace hB := hb8 _ _ lb12 hB; clear hs8 hk8 hb8) | (refine wpList_store_pool rfl _ _ rfl b9 rfl F g rfl (pc (fun _ => 0) (fun _ => false)) T9 rfl ?_; intro w8 T9 hs8 hk8 hb8; replace T4 := hk8 _ _ nb9T4 T4; replace hB := hb8 _ _ lb9 hB; clear hs8 hk8 hb8) | (go_at_call 36; refine (poolsKeep_any _).mono ?_; rintro e w' ⟨rfl, hb⟩; (try replace hb := below_undr' hb); replace T4 := T4.below hb; (try replace T9 := T9.below hb); (try replace T12 := T12.below hb); replace hB := hB.trans (hb.mono hB.size)))
    go_cut [15] (fun s15 wx => s15 = .int .i64 7 ∧ PRow wx w.heap.size (pc f g) ∧ PRow wx b9 (pc F g) ∧ PRow wx b12 (pc f g) ∧ Below w.heap.size w wx)
    case first =>
      refine wp_region_noPanic ?_
      refine wp_region_held_drew (S := fun w' => PRow w' w.heap.size (pc f g) ∧ PRow w' b9 (pc F g) ∧ PRow w' b12 (pc f g)) (by kernel_rfl) ⟨T4, T9, T12⟩ (fun _ => ?_)
      refine wpAnyH_take (i := 0) (v := .agg (pc F g)) rfl (by kernel_rfl) (by kernel_rfl) (by kernel_rfl) (fun _ _ _ h => h) (yields_load_pool (.tmp 9) rfl (by kernel_rfl) b9 (by kernel_rfl) F g (fun _ h => h.2.1)) ⟨T4, T9, T12⟩ ?_
      simp only [Act.put, List.getElem_toArray, List.getElem_cons_succ, List.getElem_cons_zero, List.setIfInBounds_toArray, List.set_cons_zero, List.set_cons_succ]
      refine wpAnyH_take (i := 1) (v := .int .i64 a1) rfl (by kernel_rfl) (by kernel_rfl) (by kernel_rfl) (fun _ _ _ h => h) (yields_move (.tmp 1) (.int .i64 a1) rfl (by kernel_rfl) (by kernel_rfl)) ⟨T4, T9, T12⟩ ?_
      simp only [Act.put, List.getElem_toArray, List.getElem_cons_succ, List.getElem_cons_zero, List.setIfInBounds_toArray, List.set_cons_zero, List.set_cons_succ]
      refine wpAnyH_take (i := 2) (v := .int .i64 (a1 + 1)) rfl (by kernel_rfl) (by kernel_rfl) (by kernel_rfl) (fun _ _ _ h => h) (Or.inl ⟨by kernel_rfl, by intro w _; go_simp⟩) ⟨T4, T9, T12⟩ ?_
      simp only [Act.put, List.getElem_toArray, List.getElem_cons_succ, List.getElem_cons_zero, List.setIfInBounds_toArray, List.set_cons_zero, List.set_cons_succ]
      refine wpAnyH_take (i := 4) (v := .int .i64 0) rfl (by kernel_rfl) (by kernel_rfl) (by kernel_rfl) (fun _ _ _ h => h) (yields_move (.tmp 2) (.int .i64 0) rfl (by kernel_rfl) (by kernel_rfl)) ⟨T4, T9, T12⟩ ?_
      simp only [Act.put, List.getElem_toArray, List.getElem_cons_succ, List.getElem_cons_zero, List.setIfInBounds_toArray, List.set_cons_zero, List.set_cons_succ]
      refine wpAnyH_take (i := 5) (v := .int .i64 (K : Int)) rfl (by kernel_rfl) (by kernel_rfl) (by kernel_rfl) (fun _ _ _ h => h) (yields_move (.tmp 10) (.int .i64 (K : Int)) rfl (by kernel_rfl) (by kernel_rfl)) ⟨T4, T9, T12⟩ ?_
      simp only [Act.put, List.getElem_toArray, List.getElem_cons_succ, List.getElem_cons_zero, List.setIfInBounds_toArray, List.set_cons_zero, List.set_cons_succ]
      refine wpAnyH_ready (rs := [3, 10]) (by kernel_rfl) (by simp) ?_
      refine AllReadyH.cons rfl (fun K hK => ?_) ?_
      · go_simp
        go_fit (C3 _); rintro e w' ⟨rfl, rfl⟩
        go_wp2_with fail
        refine hK.out _ _ ⟨T4, T9, T12⟩ (fun _ => ?_)
        clear hK K
        try simp only [Act.put, List.getElem_toArray, List.getElem_cons_succ, List.getElem_cons_zero, List.setIfInBounds_toArray, List.set_cons_zero, List.set_cons_succ]
        refine wpAnyH_ready (rs := [6, 10]) (by kernel_rfl) (by simp) ?_
        refine AllReadyH.cons rfl (fun K hK => ?_) ?_
        · go_simp
          go_fit (C4 _); rintro e w' ⟨rfl, hb⟩; (try replace hb := below_undr' hb); replace T4 := T4.below hb; replace T9 := T9.below hb; replace T12 := T12.below hb; (try replace T14 := T14.below hb); replace hB := hB.trans (hb.mono hB.size)
          go_wp2_with fail
          refine hK.out _ _ ⟨T4, T9, T12⟩ (fun _ => ?_)
          clear hK K
          try simp only [Act.put, List.getElem_toArray, List.getElem_cons_succ, List.getElem_cons_zero, List.setIfInBounds_toArray, List.set_cons_zero, List.set_cons_succ]
          refine wpAnyH_take (i := 7) (v := .tuple #[.agg (pc F g), .int .i64 7]) rfl (by kernel_rfl) (by kernel_rfl) (by kernel_rfl) (fun _ _ _ h => h) (yields_move (.tmp 56) (.tuple #[.agg (pc F g), .int .i64 7]) rfl (by kernel_rfl) (by kernel_rfl)) ⟨T4, T9, T12⟩ ?_
          simp only [Act.put, List.getElem_toArray, List.getElem_cons_succ, List.getElem_cons_zero, List.setIfInBounds_toArray, List.set_cons_zero, List.set_cons_succ]
          refine wpAnyH_take (i := 8) (v := .agg (pc F g)) rfl (by kernel_rfl) (by kernel_rfl) (by kernel_rfl) (fun _ _ _ h => h) (Or.inl ⟨by kernel_rfl, by intro w _; go_simp⟩) ⟨T4, T9, T12⟩ ?_
          simp only [Act.put, List.getElem_toArray, List.getElem_cons_succ, List.getElem_cons_zero, List.setIfInBounds_toArray, List.set_cons_zero, List.set_cons_succ]
          refine wpAnyH_take (i := 9) (v := .int .i64 7) rfl (by kernel_rfl) (by kernel_rfl) (by kernel_rfl) (fun _ _ _ h => h) (Or.inl ⟨by kernel_rfl, by intro w _; go_simp⟩) ⟨T4, T9, T12⟩ ?_
          simp only [Act.put, List.getElem_toArray, List.getElem_cons_succ, List.getElem_cons_zero, List.setIfInBounds_toArray, List.set_cons_zero, List.set_cons_succ]
          refine wpAnyH_ready (rs := [10]) (by kernel_rfl) (by simp) ?_
          refine AllReadyH.cons rfl (fun K hK => ?_) ?_
          · rw [if_pos (by kernel_rfl)]
            refine wp_alloc_pool rfl ?_; intro b14 w8 e14 T14 hk8 hb8 hs8; have n144 := (hk8 _ _ T4).2; have n149 := (hk8 _ _ T9).2; have n1412 := (hk8 _ _ T12).2; replace T4 := (hk8 _ _ T4).1; replace T9 := (hk8 _ _ T9).1; replace T12 := (hk8 _ _ T12).1; (first | (replace hB := hb8 _ _ hB hB.size) | (replace hB := hb8 _ _ (below_drew hB) hB.size)); have l14 : w.heap.size ≤ b14 := (by rw [e14]; have := T4.lt; omega); clear hs8 hk8 hb8 e14
            refine hK.out _ _ ⟨T4, T9, T12⟩ (fun _ => ?_)
            clear hK K
            try simp only [Act.put, List.getElem_toArray, List.getElem_cons_succ, List.getElem_cons_zero, List.setIfInBounds_toArray, List.set_cons_zero, List.set_cons_succ]
            refine wpAnyH_ready (rs := [11]) (by kernel_rfl) (by simp) ?_
            refine AllReadyH.cons rfl (fun K hK => ?_) ?_
            · rw [if_pos (by kernel_rfl)]
              refine wp_store_pool _ _ rfl b14 rfl F g rfl _ T14 rfl ?_; intro w8 T14 hs8 hk8 hb8; replace T4 := hk8 _ _ n144 T4; replace T9 := hk8 _ _ n149 T9; replace T12 := hk8 _ _ n1412 T12; (first | (replace hB := hb8 _ _ l14 hB) | (replace hB := hb8 _ _ l14 (below_drew hB))); clear hs8 hk8 hb8
              refine hK.out _ _ ⟨T4, T9, T12⟩ (fun _ => ?_)
              clear hK K
              try simp only [Act.put, List.getElem_toArray, List.getElem_cons_succ, List.getElem_cons_zero, List.setIfInBounds_toArray, List.set_cons_zero, List.set_cons_succ]
              refine wpAnyH_take (i := 12) (v := .int .i64 7) rfl (by kernel_rfl) (by kernel_rfl) (by kernel_rfl) (fun _ _ _ h => h) (yields_assign (.tmp 58) (.int .i64 7) rfl (by kernel_rfl) (by kernel_rfl)) ⟨T4, T9, T12⟩ ?_
              simp only [Act.put, List.getElem_toArray, List.getElem_cons_succ, List.getElem_cons_zero, List.setIfInBounds_toArray, List.set_cons_zero, List.set_cons_succ]
              refine wpAnyH_done (by kernel_rfl) ?_ _
              refine NoPanic.normal ?_
              go_wp2_with fail
              go_meet
              case rel => exact ⟨rfl, T4, T9, T12, hB⟩
            exact AllReadyH.nil
          exact AllReadyH.nil
        refine AllReadyH.cons rfl (fun K hK => ?_) ?_
        · rw [if_pos (by kernel_rfl)]
          refine wp_alloc_pool rfl ?_; intro b14 w8 e14 T14 hk8 hb8 hs8; have n144 := (hk8 _ _ T4).2; have n149 := (hk8 _ _ T9).2; have n1412 := (hk8 _ _ T12).2; replace T4 := (hk8 _ _ T4).1; replace T9 := (hk8 _ _ T9).1; replace T12 := (hk8 _ _ T12).1; (first | (replace hB := hb8 _ _ hB hB.size) | (replace hB := hb8 _ _ (below_drew hB) hB.size)); have l14 : w.heap.size ≤ b14 := (by rw [e14]; have := T4.lt; omega); clear hs8 hk8 hb8 e14
          refine hK.out _ _ ⟨T4, T9, T12⟩ (fun _ => ?_)
          clear hK K
          try simp only [Act.put, List.getElem_toArray, List.getElem_cons_succ, List.getElem_cons_zero, List.setIfInBounds_toArray, List.set_cons_zero, List.set_cons_succ]
          refine wpAnyH_ready (rs := [6]) (by kernel_rfl) (by simp) ?_
          refine AllReadyH.cons rfl (fun K hK => ?_) ?_
          · go_simp
            go_fit (C4 _); rintro e w' ⟨rfl, hb⟩; (try replace hb := below_undr' hb); replace T4 := T4.below hb; replace T9 := T9.below hb; replace T12 := T12.below hb; (try replace T14 := T14.below hb); replace hB := hB.trans (hb.mono hB.size)
            go_wp2_with fail
            refine hK.out _ _ ⟨T4, T9, T12⟩ (fun _ => ?_)
            clear hK K
            try simp only [Act.put, List.getElem_toArray, List.getElem_cons_succ, List.getElem_cons_zero, List.setIfInBounds_toArray, List.set_cons_zero, List.set_cons_succ]
            refine wpAnyH_take (i := 7) (v := .tuple #[.agg (pc F g), .int .i64 7]) rfl (by kernel_rfl) (by kernel_rfl) (by kernel_rfl) (fun _ _ _ h => h) (yields_move (.tmp 56) (.tuple #[.agg (pc F g), .int .i64 7]) rfl (by kernel_rfl) (by kernel_rfl)) ⟨T4, T9, T12⟩ ?_
            simp only [Act.put, List.getElem_toArray, List.getElem_cons_succ, List.getElem_cons_zero, List.setIfInBounds_toArray, List.set_cons_zero, List.set_cons_succ]
            refine wpAnyH_take (i := 8) (v := .agg (pc F g)) rfl (by kernel_rfl) (by kernel_rfl) (by kernel_rfl) (fun _ _ _ h => h) (Or.inl ⟨by kernel_rfl, by intro w _; go_simp⟩) ⟨T4, T9, T12⟩ ?_
            simp only [Act.put, List.getElem_toArray, List.getElem_cons_succ, List.getElem_cons_zero, List.setIfInBounds_toArray, List.set_cons_zero, List.set_cons_succ]
            refine wpAnyH_take (i := 9) (v := .int .i64 7) rfl (by kernel_rfl) (by kernel_rfl) (by kernel_rfl) (fun _ _ _ h => h) (Or.inl ⟨by kernel_rfl, by intro w _; go_simp⟩) ⟨T4, T9, T12⟩ ?_
            simp only [Act.put, List.getElem_toArray, List.getElem_cons_succ, List.getElem_cons_zero, List.setIfInBounds_toArray, List.set_cons_zero, List.set_cons_succ]
            refine wpAnyH_ready (rs := [11]) (by kernel_rfl) (by simp) ?_
            refine AllReadyH.cons rfl (fun K hK => ?_) ?_
            · rw [if_pos (by kernel_rfl)]
              refine wp_store_pool _ _ rfl b14 rfl F g rfl _ T14 rfl ?_; intro w8 T14 hs8 hk8 hb8; replace T4 := hk8 _ _ n144 T4; replace T9 := hk8 _ _ n149 T9; replace T12 := hk8 _ _ n1412 T12; (first | (replace hB := hb8 _ _ l14 hB) | (replace hB := hb8 _ _ l14 (below_drew hB))); clear hs8 hk8 hb8
              refine hK.out _ _ ⟨T4, T9, T12⟩ (fun _ => ?_)
              clear hK K
              try simp only [Act.put, List.getElem_toArray, List.getElem_cons_succ, List.getElem_cons_zero, List.setIfInBounds_toArray, List.set_cons_zero, List.set_cons_succ]
              refine wpAnyH_take (i := 12) (v := .int .i64 7) rfl (by kernel_rfl) (by kernel_rfl) (by kernel_rfl) (fun _ _ _ h => h) (yields_assign (.tmp 58) (.int .i64 7) rfl (by kernel_rfl) (by kernel_rfl)) ⟨T4, T9, T12⟩ ?_
              simp only [Act.put, List.getElem_toArray, List.getElem_cons_succ, List.getElem_cons_zero, List.setIfInBounds_toArray, List.set_cons_zero, List.set_cons_succ]
              refine wpAnyH_done (by kernel_rfl) ?_ _
              refine NoPanic.normal ?_
              go_wp2_with fail
              go_meet
              case rel => exact ⟨rfl, T4, T9, T12, hB⟩
            exact AllReadyH.nil
          exact AllReadyH.nil
        exact AllReadyH.nil
      refine AllReadyH.cons rfl (fun K hK => ?_) ?_
      · rw [if_pos (by kernel_rfl)]
        refine wp_alloc_pool rfl ?_; intro b14 w8 e14 T14 hk8 hb8 hs8; have n144 := (hk8 _ _ T4).2; have n149 := (hk8 _ _ T9).2; have n1412 := (hk8 _ _ T12).2; replace T4 := (hk8 _ _ T4).1; replace T9 := (hk8 _ _ T9).1; replace T12 := (hk8 _ _ T12).1; (first | (replace hB := hb8 _ _ hB hB.size) | (replace hB := hb8 _ _ (below_drew hB) hB.size)); have l14 : w.heap.size ≤ b14 := (by rw [e14]; have := T4.lt; omega); clear hs8 hk8 hb8 e14
        refine hK.out _ _ ⟨T4, T9, T12⟩ (fun _ => ?_)
        clear hK K
        try simp only [Act.put, List.getElem_toArray, List.getElem_cons_succ, List.getElem_cons_zero, List.setIfInBounds_toArray, List.set_cons_zero, List.set_cons_succ]
        refine wpAnyH_ready (rs := [3]) (by kernel_rfl) (by simp) ?_
        refine AllReadyH.cons rfl (fun K hK => ?_) ?_
        · go_simp
          go_fit (C3 _); rintro e w' ⟨rfl, rfl⟩
          go_wp2_with fail
          refine hK.out _ _ ⟨T4, T9, T12⟩ (fun _ => ?_)
          clear hK K
          try simp only [Act.put, List.getElem_toArray, List.getElem_cons_succ, List.getElem_cons_zero, List.setIfInBounds_toArray, List.set_cons_zero, List.set_cons_succ]
          refine wpAnyH_ready (rs := [6]) (by kernel_rfl) (by simp) ?_
          refine AllReadyH.cons rfl (fun K hK => ?_) ?_
          · go_simp
            go_fit (C4 _); rintro e w' ⟨rfl, hb⟩; (try replace hb := below_undr' hb); replace T4 := T4.below hb; replace T9 := T9.below hb; replace T12 := T12.below hb; (try replace T14 := T14.below hb); replace hB := hB.trans (hb.mono hB.size)
            go_wp2_with fail
            refine hK.out _ _ ⟨T4, T9, T12⟩ (fun _ => ?_)
            clear hK K
            try simp only [Act.put, List.getElem_toArray, List.getElem_cons_succ, List.getElem_cons_zero, List.setIfInBounds_toArray, List.set_cons_zero, List.set_cons_succ]
            refine wpAnyH_take (i := 7) (v := .tuple #[.agg (pc F g), .int .i64 7]) rfl (by kernel_rfl) (by kernel_rfl) (by kernel_rfl) (fun _ _ _ h => h) (yields_move (.tmp 56) (.tuple #[.agg (pc F g), .int .i64 7]) rfl (by kernel_rfl) (by kernel_rfl)) ⟨T4, T9, T12⟩ ?_
            simp only [Act.put, List.getElem_toArray, List.getElem_cons_succ, List.getElem_cons_zero, List.setIfInBounds_toArray, List.set_cons_zero, List.set_cons_succ]
            refine wpAnyH_take (i := 8) (v := .agg (pc F g)) rfl (by kernel_rfl) (by kernel_rfl) (by kernel_rfl) (fun _ _ _ h => h) (Or.inl ⟨by kernel_rfl, by intro w _; go_simp⟩) ⟨T4, T9, T12⟩ ?_
            simp only [Act.put, List.getElem_toArray, List.getElem_cons_succ, List.getElem_cons_zero, List.setIfInBounds_toArray, List.set_cons_zero, List.set_cons_succ]
            refine wpAnyH_take (i := 9) (v := .int .i64 7) rfl (by kernel_rfl) (by kernel_rfl) (by kernel_rfl) (fun _ _ _ h => h) (Or.inl ⟨by kernel_rfl, by intro w _; go_simp⟩) ⟨T4, T9, T12⟩ ?_
            simp only [Act.put, List.getElem_toArray, List.getElem_cons_succ, List.getElem_cons_zero, List.setIfInBounds_toArray, List.set_cons_zero, List.set_cons_succ]
            refine wpAnyH_ready (rs := [11]) (by kernel_rfl) (by simp) ?_
            refine AllReadyH.cons rfl (fun K hK => ?_) ?_
            · rw [if_pos (by kernel_rfl)]
              refine wp_store_pool _ _ rfl b14 rfl F g rfl _ T14 rfl ?_; intro w8 T14 hs8 hk8 hb8; replace T4 := hk8 _ _ n144 T4; replace T9 := hk8 _ _ n149 T9; replace T12 := hk8 _ _ n1412 T12; (first | (replace hB := hb8 _ _ l14 hB) | (replace hB := hb8 _ _ l14 (below_drew hB))); clear hs8 hk8 hb8
              refine hK.out _ _ ⟨T4, T9, T12⟩ (fun _ => ?_)
              clear hK K
              try simp only [Act.put, List.getElem_toArray, List.getElem_cons_succ, List.getElem_cons_zero, List.setIfInBounds_toArray, List.set_cons_zero, List.set_cons_succ]
              refine wpAnyH_take (i := 12) (v := .int .i64 7) rfl (by kernel_rfl) (by kernel_rfl) (by kernel_rfl) (fun _ _ _ h => h) (yields_assign (.tmp 58) (.int .i64 7) rfl (by kernel_rfl) (by kernel_rfl)) ⟨T4, T9, T12⟩ ?_
              simp only [Act.put, List.getElem_toArray, List.getElem_cons_succ, List.getElem_cons_zero, List.setIfInBounds_toArray, List.set_cons_zero, List.set_cons_succ]
              refine wpAnyH_done (by kernel_rfl) ?_ _
              refine NoPanic.normal ?_
              go_wp2_with fail
              go_meet
              case rel => exact ⟨rfl, T4, T9, T12, hB⟩
            exact AllReadyH.nil
          exact AllReadyH.nil
        exact AllReadyH.nil
      exact AllReadyH.nil
    case rest =>
    clear T4 T9 T12 hB
    obtain ⟨rfl, T4, T9, T12, hB⟩ := hcut
    go_upto_region 6 with fail
    refine wp_region_noPanic ?_
    refine wp_region_held_drew (S := fun w' => PRow w' w.heap.size (pc f g) ∧ PRow w' b9 (pc F g) ∧ PRow w' b12 (pc f g)) (by kernel_rfl) ⟨T4, T9, T12⟩ (fun _ => ?_)
    refine wpAnyH_take (i := 0) (v := .int .i64 0) rfl (by kernel_rfl) (by kernel_rfl) (by kernel_rfl) (fun _ _ _ h => h) (yields_move (.tmp 2) (.int .i64 0) rfl (by kernel_rfl) (by kernel_rfl)) ⟨T4, T9, T12⟩ ?_
    simp only [Act.put, List.getElem_toArray, List.getElem_cons_succ, List.getElem_cons_zero, List.setIfInBounds_toArray, List.set_cons_zero, List.set_cons_succ]
    refine wpAnyH_take (i := 1) (v := .int .i64 (K : Int)) rfl (by kernel_rfl) (by kernel_rfl) (by kernel_rfl) (fun _ _ _ h => h) (yields_move (.tmp 10) (.int .i64 (K : Int)) rfl (by kernel_rfl) (by kernel_rfl)) ⟨T4, T9, T12⟩ ?_
    simp only [Act.put, List.getElem_toArray, List.getElem_cons_succ, List.getElem_cons_zero, List.setIfInBounds_toArray, List.set_cons_zero, List.set_cons_succ]
    refine wpAnyH_take (i := 2) (v := .pointer (some ⟨w.heap.size, 0, none⟩)) rfl (by kernel_rfl) (by kernel_rfl) (by kernel_rfl) (fun _ _ _ h => h) (Or.inl ⟨by kernel_rfl, by intro w _; go_simp⟩) ⟨T4, T9, T12⟩ ?_
    simp only [Act.put, List.getElem_toArray, List.getElem_cons_succ, List.getElem_cons_zero, List.setIfInBounds_toArray, List.set_cons_zero, List.set_cons_succ]
    refine wpAnyH_take (i := 3) (v := .pointer (some ⟨w.heap.size, 0, none⟩)) rfl (by kernel_rfl) (by kernel_rfl) (by kernel_rfl) (fun _ _ _ h => h) (Or.inl ⟨by kernel_rfl, by intro w _; go_simp⟩) ⟨T4, T9, T12⟩ ?_
    simp only [Act.put, List.getElem_toArray, List.getElem_cons_succ, List.getElem_cons_zero, List.setIfInBounds_toArray, List.set_cons_zero, List.set_cons_succ]
    refine wpAnyH_take (i := 4) (v := .pointer (some ⟨w.heap.size, K, none⟩)) rfl (by kernel_rfl) (by kernel_rfl) (by kernel_rfl) (fun _ _ _ h => h) (Or.inl ⟨by kernel_rfl, by intro w _; go_simp⟩) ⟨T4, T9, T12⟩ ?_
    simp only [Act.put, List.getElem_toArray, List.getElem_cons_succ, List.getElem_cons_zero, List.setIfInBounds_toArray, List.set_cons_zero, List.set_cons_succ]
    refine wpAnyH_take (i := 5) (v := .int .i64 (f (K))) rfl (by kernel_rfl) (by kernel_rfl) (by kernel_rfl) (fun _ _ _ h => h) (Or.inl ⟨by kernel_rfl, by intro w' h; have c := h.1.own (K) (by omega); go_simp⟩) ⟨T4, T9, T12⟩ ?_
    simp only [Act.put, List.getElem_toArray, List.getElem_cons_succ, List.getElem_cons_zero, List.setIfInBounds_toArray, List.set_cons_zero, List.set_cons_succ]
    refine wpAnyH_take (i := 6) (v := .bool true) rfl (by kernel_rfl) (by kernel_rfl) (by kernel_rfl) (fun _ _ _ h => h) (yields_eqi 3 (.tmp 64) (.const (.int .i64 0)) ((f (K))) (0) true rfl (by kernel_rfl) (by kernel_rfl) (by kernel_rfl) (h0b)) ⟨T4, T9, T12⟩ ?_
    simp only [Act.put, List.getElem_toArray, List.getElem_cons_succ, List.getElem_cons_zero, List.setIfInBounds_toArray, List.set_cons_zero, List.set_cons_succ]
    refine wpAnyH_take (i := 7) (v := .bool true) rfl (by kernel_rfl) (by kernel_rfl) (by kernel_rfl) (fun _ _ _ h => h) (yields_move (.tmp 65) (.bool true) rfl (by kernel_rfl) (by kernel_rfl)) ⟨T4, T9, T12⟩ ?_
    simp only [Act.put, List.getElem_toArray, List.getElem_cons_succ, List.getElem_cons_zero, List.setIfInBounds_toArray, List.set_cons_zero, List.set_cons_succ]
    refine wpAnyH_take (i := 8) (v := .int .i64 0) rfl (by kernel_rfl) (by kernel_rfl) (by kernel_rfl) (fun _ _ _ h => h) (yields_move (.tmp 2) (.int .i64 0) rfl (by kernel_rfl) (by kernel_rfl)) ⟨T4, T9, T12⟩ ?_
    simp only [Act.put, List.getElem_toArray, List.getElem_cons_succ, List.getElem_cons_zero, List.setIfInBounds_toArray, List.set_cons_zero, List.set_cons_succ]
    refine wpAnyH_take (i := 9) (v := .int .i64 (K : Int)) rfl (by kernel_rfl) (by kernel_rfl) (by kernel_rfl) (fun _ _ _ h => h) (yields_move (.tmp 10) (.int .i64 (K : Int)) rfl (by kernel_rfl) (by kernel_rfl)) ⟨T4, T9, T12⟩ ?_
    simp only [Act.put, List.getElem_toArray, List.getElem_cons_succ, List.getElem_cons_zero, List.setIfInBounds_toArray, List.set_cons_zero, List.set_cons_succ]
    refine wpAnyH_take (i := 10) (v := .pointer (some ⟨b9, 0, none⟩)) rfl (by kernel_rfl) (by kernel_rfl) (by kernel_rfl) (fun _ _ _ h => h) (Or.inl ⟨by kernel_rfl, by intro w _; go_simp⟩) ⟨T4, T9, T12⟩ ?_
    simp only [Act.put, List.getElem_toArray, List.getElem_cons_succ, List.getElem_cons_zero, List.setIfInBounds_toArray, List.set_cons_zero, List.set_cons_succ]
    refine wpAnyH_take (i := 11) (v := .pointer (some ⟨b9, 0, none⟩)) rfl (by kernel_rfl) (by kernel_rfl) (by kernel_rfl) (fun _ _ _ h => h) (Or.inl ⟨by kernel_rfl, by intro w _; go_simp⟩) ⟨T4, T9, T12⟩ ?_
    simp only [Act.put, List.getElem_toArray, List.getElem_cons_succ, List.getElem_cons_zero, List.setIfInBounds_toArray, List.set_cons_zero, List.set_cons_succ]
    refine wpAnyH_take (i := 12) (v := .pointer (some ⟨b9, K, none⟩)) rfl (by kernel_rfl) (by kernel_rfl) (by kernel_rfl) (fun _ _ _ h => h) (Or.inl ⟨by kernel_rfl, by intro w _; go_simp⟩) ⟨T4, T9, T12⟩ ?_
    simp only [Act.put, List.getElem_toArray, List.getElem_cons_succ, List.getElem_cons_zero, List.setIfInBounds_toArray, List.set_cons_zero, List.set_cons_succ]
    refine wpAnyH_take (i := 13) (v := .int .i64 (F (K))) rfl (by kernel_rfl) (by kernel_rfl) (by kernel_rfl) (fun _ _ _ h => h) (Or.inl ⟨by kernel_rfl, by intro w' h; have c := h.2.1.own (K) (by omega); go_simp⟩) ⟨T4, T9, T12⟩ ?_
    simp only [Act.put, List.getElem_toArray, List.getElem_cons_succ, List.getElem_cons_zero, List.setIfInBounds_toArray, List.set_cons_zero, List.set_cons_succ]
    refine wpAnyH_take (i := 14) (v := .int .i64 a1) rfl (by kernel_rfl) (by kernel_rfl) (by kernel_rfl) (fun _ _ _ h => h) (yields_move (.tmp 1) (.int .i64 a1) rfl (by kernel_rfl) (by kernel_rfl)) ⟨T4, T9, T12⟩ ?_
    simp only [Act.put, List.getElem_toArray, List.getElem_cons_succ, List.getElem_cons_zero, List.setIfInBounds_toArray, List.set_cons_zero, List.set_cons_succ]
    refine wpAnyH_take (i := 15) (v := .int .i64 (a1 + 1)) rfl (by kernel_rfl) (by kernel_rfl) (by kernel_rfl) (fun _ _ _ h => h) (Or.inl ⟨by kernel_rfl, by intro w _; go_simp⟩) ⟨T4, T9, T12⟩ ?_
    simp only [Act.put, List.getElem_toArray, List.getElem_cons_succ, List.getElem_cons_zero, List.setIfInBounds_toArray, List.set_cons_zero, List.set_cons_succ]
    refine wpAnyH_take (i := 16) (v := .bool true) rfl (by kernel_rfl) (by kernel_rfl) (by kernel_rfl) (fun _ _ _ h => h) (yields_eqi 3 (.tmp 72) (.tmp 74) ((F (K))) ((a1 + 1)) true rfl (by kernel_rfl) (by kernel_rfl) (by kernel_rfl) (hFb)) ⟨T4, T9, T12⟩ ?_
    simp only [Act.put, List.getElem_toArray, List.getElem_cons_succ, List.getElem_cons_zero, List.setIfInBounds_toArray, List.set_cons_zero, List.set_cons_succ]
    refine wpAnyH_take (i := 17) (v := .bool true) rfl (by kernel_rfl) (by kernel_rfl) (by kernel_rfl) (fun _ _ _ h => h) (yields_pickt (.tmp 66) (.tmp 75) (.const (.bool false)) (.bool true) rfl (by kernel_rfl) (by kernel_rfl) (by kernel_rfl)) ⟨T4, T9, T12⟩ ?_
    simp only [Act.put, List.getElem_toArray, List.getElem_cons_succ, List.getElem_cons_zero, List.setIfInBounds_toArray, List.set_cons_zero, List.set_cons_succ]
    refine wpAnyH_take (i := 18) (v := .bool true) rfl (by kernel_rfl) (by kernel_rfl) (by kernel_rfl) (fun _ _ _ h => h) (yields_move (.tmp 76) (.bool true) rfl (by kernel_rfl) (by kernel_rfl)) ⟨T4, T9, T12⟩ ?_
    simp only [Act.put, List.getElem_toArray, List.getElem_cons_succ, List.getElem_cons_zero, List.setIfInBounds_toArray, List.set_cons_zero, List.set_cons_succ]
    refine wpAnyH_take (i := 19) (v := .int .i64 0) rfl (by kernel_rfl) (by kernel_rfl) (by kernel_rfl) (fun _ _ _ h => h) (yields_move (.tmp 13) (.int .i64 0) rfl (by kernel_rfl) (by kernel_rfl)) ⟨T4, T9, T12⟩ ?_
    simp only [Act.put, List.getElem_toArray, List.getElem_cons_succ, List.getElem_cons_zero, List.setIfInBounds_toArray, List.set_cons_zero, List.set_cons_succ]
    refine wpAnyH_take (i := 20) (v := .bool true) rfl (by kernel_rfl) (by kernel_rfl) (by kernel_rfl) (fun _ _ _ h => h) (yields_eqi 24 (.tmp 78) (.const (.int .i64 0)) (0) (0) true rfl (by kernel_rfl) (by kernel_rfl) (by kernel_rfl) (by simp)) ⟨T4, T9, T12⟩ ?_
    simp only [Act.put, List.getElem_toArray, List.getElem_cons_succ, List.getElem_cons_zero, List.setIfInBounds_toArray, List.set_cons_zero, List.set_cons_succ]
    refine wpAnyH_take (i := 21) (v := .bool true) rfl (by kernel_rfl) (by kernel_rfl) (by kernel_rfl) (fun _ _ _ h => h) (yields_pickt (.tmp 77) (.tmp 79) (.const (.bool false)) (.bool true) rfl (by kernel_rfl) (by kernel_rfl) (by kernel_rfl)) ⟨T4, T9, T12⟩ ?_
    simp only [Act.put, List.getElem_toArray, List.getElem_cons_succ, List.getElem_cons_zero, List.setIfInBounds_toArray, List.set_cons_zero, List.set_cons_succ]
    refine wpAnyH_take (i := 22) (v := .bool true) rfl (by kernel_rfl) (by kernel_rfl) (by kernel_rfl) (fun _ _ _ h => h) (yields_move (.tmp 80) (.bool true) rfl (by kernel_rfl) (by kernel_rfl)) ⟨T4, T9, T12⟩ ?_
    simp only [Act.put, List.getElem_toArray, List.getElem_cons_succ, List.getElem_cons_zero, List.setIfInBounds_toArray, List.set_cons_zero, List.set_cons_succ]
    refine wpAnyH_take (i := 23) (v := .agg (pc f g)) rfl (by kernel_rfl) (by kernel_rfl) (by kernel_rfl) (fun _ _ _ h => h) (yields_load_pool (.tmp 12) rfl (by kernel_rfl) b12 (by kernel_rfl) f g (fun _ h => h.2.2)) ⟨T4, T9, T12⟩ ?_
    simp only [Act.put, List.getElem_toArray, List.getElem_cons_succ, List.getElem_cons_zero, List.setIfInBounds_toArray, List.set_cons_zero, List.set_cons_succ]
    refine wpAnyH_take (i := 24) (v := .agg (pc f g)) rfl (by kernel_rfl) (by kernel_rfl) (by kernel_rfl) (fun _ _ _ h => h) (yields_load_pool (.tmp 4) rfl (by kernel_rfl) w.heap.size (by kernel_rfl) f g (fun _ h => h.1)) ⟨T4, T9, T12⟩ ?_
    simp only [Act.put, List.getElem_toArray, List.getElem_cons_succ, List.getElem_cons_zero, List.setIfInBounds_toArray, List.set_cons_zero, List.set_cons_succ]
    refine wpAnyH_take (i := 25) (v := .bool true) rfl (by kernel_rfl) (by kernel_rfl) (by kernel_rfl) (fun _ _ _ h => h) (yields_eq_pool (.tmp 82) (.tmp 83) rfl (by kernel_rfl) f g w0 (by kernel_rfl) (by kernel_rfl)) ⟨T4, T9, T12⟩ ?_
    simp only [Act.put, List.getElem_toArray, List.getElem_cons_succ, List.getElem_cons_zero, List.setIfInBounds_toArray, List.set_cons_zero, List.set_cons_succ]
    refine wpAnyH_take (i := 26) (v := .bool true) rfl (by kernel_rfl) (by kernel_rfl) (by kernel_rfl) (fun _ _ _ h => h) (yields_pickt (.tmp 81) (.tmp 84) (.const (.bool false)) (.bool true) rfl (by kernel_rfl) (by kernel_rfl) (by kernel_rfl)) ⟨T4, T9, T12⟩ ?_
    simp only [Act.put, List.getElem_toArray, List.getElem_cons_succ, List.getElem_cons_zero, List.setIfInBounds_toArray, List.set_cons_zero, List.set_cons_succ]
    refine wpAnyH_take (i := 27) (v := .bool true) rfl (by kernel_rfl) (by kernel_rfl) (by kernel_rfl) (fun _ _ _ h => h) (yields_move (.tmp 85) (.bool true) rfl (by kernel_rfl) (by kernel_rfl)) ⟨T4, T9, T12⟩ ?_
    simp only [Act.put, List.getElem_toArray, List.getElem_cons_succ, List.getElem_cons_zero, List.setIfInBounds_toArray, List.set_cons_zero, List.set_cons_succ]
    refine wpAnyH_take (i := 28) (v := .agg (pc f g)) rfl (by kernel_rfl) (by kernel_rfl) (by kernel_rfl) (fun _ _ _ h => h) (yields_load_pool (.tmp 4) rfl (by kernel_rfl) w.heap.size (by kernel_rfl) f g (fun _ h => h.1)) ⟨T4, T9, T12⟩ ?_
    simp only [Act.put, List.getElem_toArray, List.getElem_cons_succ, List.getElem_cons_zero, List.setIfInBounds_toArray, List.set_cons_zero, List.set_cons_succ]
    refine wpAnyH_take (i := 29) (v := .int .i64 0) rfl (by kernel_rfl) (by kernel_rfl) (by kernel_rfl) (fun _ _ _ h => h) (yields_move (.tmp 2) (.int .i64 0) rfl (by kernel_rfl) (by kernel_rfl)) ⟨T4, T9, T12⟩ ?_
    simp only [Act.put, List.getElem_toArray, List.getElem_cons_succ, List.getElem_cons_zero, List.setIfInBounds_toArray, List.set_cons_zero, List.set_cons_succ]
    refine wpAnyH_take (i := 31) (v := .agg (pc F g)) rfl (by kernel_rfl) (by kernel_rfl) (by kernel_rfl) (fun _ _ _ h => h) (yields_load_pool (.tmp 9) rfl (by kernel_rfl) b9 (by kernel_rfl) F g (fun _ h => h.2.1)) ⟨T4, T9, T12⟩ ?_
    simp only [Act.put, List.getElem_toArray, List.getElem_cons_succ, List.getElem_cons_zero, List.setIfInBounds_toArray, List.set_cons_zero, List.set_cons_succ]
    refine wpAnyH_take (i := 32) (v := .int .i64 0) rfl (by kernel_rfl) (by kernel_rfl) (by kernel_rfl) (fun _ _ _ h => h) (yields_move (.tmp 2) (.int .i64 0) rfl (by kernel_rfl) (by kernel_rfl)) ⟨T4, T9, T12⟩ ?_
    simp only [Act.put, List.getElem_toArray, List.getElem_cons_succ, List.getElem_cons_zero, List.setIfInBounds_toArray, List.set_cons_zero, List.set_cons_succ]
    refine wpAnyH_ready (rs := [30]) (by kernel_rfl) (by simp) ?_
    refine AllReadyH.cons rfl (fun K hK => ?_) ?_
    · go_simp
      go_fit (C5 _); rintro e w' ⟨rfl, hb⟩; (try replace hb := below_undr' hb); replace T4 := T4.below hb; replace T9 := T9.below hb; replace T12 := T12.below hb; replace hB := hB.trans (hb.mono hB.size)
      go_wp2_with fail
      refine hK.out _ _ ⟨T4, T9, T12⟩ (fun _ => ?_)
      clear hK K
      try simp only [Act.put, List.getElem_toArray, List.getElem_cons_succ, List.getElem_cons_zero, List.setIfInBounds_toArray, List.set_cons_zero, List.set_cons_succ]
      refine wpAnyH_ready (rs := [33]) (by kernel_rfl) (by simp) ?_
      refine AllReadyH.cons rfl (fun K hK => ?_) ?_
      · go_simp
        go_fit (C6 _); rintro e w' ⟨rfl, hb⟩; (try replace hb := below_undr' hb); replace T4 := T4.below hb; replace T9 := T9.below hb; replace T12 := T12.below hb; replace hB := hB.trans (hb.mono hB.size)
        go_wp2_with fail
        refine hK.out _ _ ⟨T4, T9, T12⟩ (fun _ => ?_)
        clear hK K
        try simp only [Act.put, List.getElem_toArray, List.getElem_cons_succ, List.getElem_cons_zero, List.setIfInBounds_toArray, List.set_cons_zero, List.set_cons_succ]
        refine wpAnyH_take (i := 34) (v := .int .i64 (lf - lg)) rfl (by kernel_rfl) (by kernel_rfl) (by kernel_rfl) (fun _ _ _ h => h) (Or.inl ⟨by kernel_rfl, by intro w _; go_simp⟩) ⟨T4, T9, T12⟩ ?_
        simp only [Act.put, List.getElem_toArray, List.getElem_cons_succ, List.getElem_cons_zero, List.setIfInBounds_toArray, List.set_cons_zero, List.set_cons_succ]
        refine wpAnyH_take (i := 35) (v := .bool true) rfl (by kernel_rfl) (by kernel_rfl) (by kernel_rfl) (fun _ _ _ h => h) (yields_eqi 3 (.tmp 93) (.const (.int .i64 1)) ((lf - lg)) (1) true rfl (by kernel_rfl) (by kernel_rfl) (by kernel_rfl) (hlb)) ⟨T4, T9, T12⟩ ?_
        simp only [Act.put, List.getElem_toArray, List.getElem_cons_succ, List.getElem_cons_zero, List.setIfInBounds_toArray, List.set_cons_zero, List.set_cons_succ]
        refine wpAnyH_take (i := 36) (v := .bool true) rfl (by kernel_rfl) (by kernel_rfl) (by kernel_rfl) (fun _ _ _ h => h) (yields_pickt (.tmp 86) (.tmp 94) (.const (.bool false)) (.bool true) rfl (by kernel_rfl) (by kernel_rfl) (by kernel_rfl)) ⟨T4, T9, T12⟩ ?_
        simp only [Act.put, List.getElem_toArray, List.getElem_cons_succ, List.getElem_cons_zero, List.setIfInBounds_toArray, List.set_cons_zero, List.set_cons_succ]
        refine wpAnyH_take (i := 37) (v := .bool true) rfl (by kernel_rfl) (by kernel_rfl) (by kernel_rfl) (fun _ _ _ h => h) (yields_move (.tmp 95) (.bool true) rfl (by kernel_rfl) (by kernel_rfl)) ⟨T4, T9, T12⟩ ?_
        simp only [Act.put, List.getElem_toArray, List.getElem_cons_succ, List.getElem_cons_zero, List.setIfInBounds_toArray, List.set_cons_zero, List.set_cons_succ]
        refine wpAnyH_take (i := 38) (v := .int .i64 7) rfl (by kernel_rfl) (by kernel_rfl) (by kernel_rfl) (fun _ _ _ h => h) (yields_move (.tmp 15) (.int .i64 7) rfl (by kernel_rfl) (by kernel_rfl)) ⟨T4, T9, T12⟩ ?_
        simp only [Act.put, List.getElem_toArray, List.getElem_cons_succ, List.getElem_cons_zero, List.setIfInBounds_toArray, List.set_cons_zero, List.set_cons_succ]
        refine wpAnyH_take (i := 39) (v := .bool true) rfl (by kernel_rfl) (by kernel_rfl) (by kernel_rfl) (fun _ _ _ h => h) (yields_eqi 24 (.tmp 97) (.const (.int .i64 7)) (7) (7) true rfl (by kernel_rfl) (by kernel_rfl) (by kernel_rfl) (by simp)) ⟨T4, T9, T12⟩ ?_
        simp only [Act.put, List.getElem_toArray, List.getElem_cons_succ, List.getElem_cons_zero, List.setIfInBounds_toArray, List.set_cons_zero, List.set_cons_succ]
        refine wpAnyH_take (i := 40) (v := .bool true) rfl (by kernel_rfl) (by kernel_rfl) (by kernel_rfl) (fun _ _ _ h => h) (yields_pickt (.tmp 96) (.tmp 98) (.const (.bool false)) (.bool true) rfl (by kernel_rfl) (by kernel_rfl) (by kernel_rfl)) ⟨T4, T9, T12⟩ ?_
        simp only [Act.put, List.getElem_toArray, List.getElem_cons_succ, List.getElem_cons_zero, List.setIfInBounds_toArray, List.set_cons_zero, List.set_cons_succ]
        refine wpAnyH_take (i := 41) (v := .bool true) rfl (by kernel_rfl) (by kernel_rfl) (by kernel_rfl) (fun _ _ _ h => h) (yields_move (.tmp 99) (.bool true) rfl (by kernel_rfl) (by kernel_rfl)) ⟨T4, T9, T12⟩ ?_
        simp only [Act.put, List.getElem_toArray, List.getElem_cons_succ, List.getElem_cons_zero, List.setIfInBounds_toArray, List.set_cons_zero, List.set_cons_succ]
        refine wpAnyH_take (i := 42) (v := .int .i64 0) rfl (by kernel_rfl) (by kernel_rfl) (by kernel_rfl) (fun _ _ _ h => h) (yields_move (.tmp 2) (.int .i64 0) rfl (by kernel_rfl) (by kernel_rfl)) ⟨T4, T9, T12⟩ ?_
        simp only [Act.put, List.getElem_toArray, List.getElem_cons_succ, List.getElem_cons_zero, List.setIfInBounds_toArray, List.set_cons_zero, List.set_cons_succ]
        refine wpAnyH_take (i := 43) (v := .pointer (some ⟨w.heap.size, 18, none⟩)) rfl (by kernel_rfl) (by kernel_rfl) (by kernel_rfl) (fun _ _ _ h => h) (Or.inl ⟨by kernel_rfl, by intro w _; go_simp⟩) ⟨T4, T9, T12⟩ ?_
        simp only [Act.put, List.getElem_toArray, List.getElem_cons_succ, List.getElem_cons_zero, List.setIfInBounds_toArray, List.set_cons_zero, List.set_cons_succ]
        refine wpAnyH_take (i := 44) (v := .pointer (some ⟨w.heap.size, 18, none⟩)) rfl (by kernel_rfl) (by kernel_rfl) (by kernel_rfl) (fun _ _ _ h => h) (Or.inl ⟨by kernel_rfl, by intro w _; go_simp⟩) ⟨T4, T9, T12⟩ ?_
        simp only [Act.put, List.getElem_toArray, List.getElem_cons_succ, List.getElem_cons_zero, List.setIfInBounds_toArray, List.set_cons_zero, List.set_cons_succ]
        refine wpAnyH_take (i := 45) (v := .bool false) rfl (by kernel_rfl) (by kernel_rfl) (by kernel_rfl) (fun _ _ _ h => h) (Or.inl ⟨by kernel_rfl, by intro w' h; have c := h.1.dr 0 (by omega); rw [hgd] at c; go_simp⟩) ⟨T4, T9, T12⟩ ?_
        simp only [Act.put, List.getElem_toArray, List.getElem_cons_succ, List.getElem_cons_zero, List.setIfInBounds_toArray, List.set_cons_zero, List.set_cons_succ]
        refine wpAnyH_take (i := 46) (v := .bool true) rfl (by kernel_rfl) (by kernel_rfl) (by kernel_rfl) (fun _ _ _ h => h) (yields_not (.tmp 104) false true rfl (by kernel_rfl) (by kernel_rfl) (rfl)) ⟨T4, T9, T12⟩ ?_
        simp only [Act.put, List.getElem_toArray, List.getElem_cons_succ, List.getElem_cons_zero, List.setIfInBounds_toArray, List.set_cons_zero, List.set_cons_succ]
        refine wpAnyH_take (i := 47) (v := .bool true) rfl (by kernel_rfl) (by kernel_rfl) (by kernel_rfl) (fun _ _ _ h => h) (yields_pickt (.tmp 100) (.tmp 105) (.const (.bool false)) (.bool true) rfl (by kernel_rfl) (by kernel_rfl) (by kernel_rfl)) ⟨T4, T9, T12⟩ ?_
        simp only [Act.put, List.getElem_toArray, List.getElem_cons_succ, List.getElem_cons_zero, List.setIfInBounds_toArray, List.set_cons_zero, List.set_cons_succ]
        refine wpAnyH_take (i := 48) (v := .bool true) rfl (by kernel_rfl) (by kernel_rfl) (by kernel_rfl) (fun _ _ _ h => h) (yields_assign (.tmp 106) (.bool true) rfl (by kernel_rfl) (by kernel_rfl)) ⟨T4, T9, T12⟩ ?_
        simp only [Act.put, List.getElem_toArray, List.getElem_cons_succ, List.getElem_cons_zero, List.setIfInBounds_toArray, List.set_cons_zero, List.set_cons_succ]
        refine wpAnyH_done (by kernel_rfl) ?_ _
        refine NoPanic.normal ?_
        go_wp2_with fail
        go_ret
        exact ⟨by kernel_rfl, hB⟩
      exact AllReadyH.nil
    exact AllReadyH.nil
  · have hgd : g 1 = false := hgd
    have hpos : 0 < (freeL (rowF f 1)).length := hpos
    obtain ⟨K, hK⟩ : ∃ K, drawnL (freeL (rowF f 1)) a3 = K := ⟨_, rfl⟩
    have hm := freeL_mem _ _ (drawnL_mem (freeL (rowF f 1)) a3 hpos)
    rw [hK] at hm
    obtain ⟨hm6, hm0⟩ := hm
    have hK6 : (K : Int) < 6 := by omega
    have hK0 : (0 : Int) ≤ (K : Int) := by omega
    have h0 : f (6 + K) = 0 := hm0
    have h0b : (f (6 + K) == 0) = true := by simpa using h0
    have hF : wfF (upd f (6 + K) (a1 + 1)) := fun i hi => by
      unfold upd
      by_cases e : i = 6 + K
      · rw [if_pos e]; simp [Lit.wf, IntKind.min, IntKind.max, IntKind.bits, IntKind.signed]; omega
      · rw [if_neg e]; exact w0 i hi
    have hFn : upd f (6 + K) (a1 + 1) (6 + K) = a1 + 1 := upd_at _ _ _
    have hgF : goodP (upd f (6 + K) (a1 + 1)) = true := goodP_upd hgp _ _ (by omega) (by omega)
    have C1 : ∀ w, Calls Try.prog 20 #[plv f g, .int .i64 a1, .int .i64 1, .int .i64 a3] w fun e w' => e = .returned (.tuple #[plv (upd f (6 + K) (a1 + 1)) g, .int .i64 (K : Int), .int .i64 0]) ∧ Below w.heap.size w w' := fun w => by
      have := take_any f g a1 1 a3 w3 w
      have e : takeS f g a1 1 a3 = _ := takeS_yes (a := 1) he
      rw [e, hK] at this
      simpa using this
    have C2 : ∀ w, Calls Try.prog 29 #[plv (upd f (6 + K) (a1 + 1)) g, .int .i64 a1, .int .i64 1, .int .i64 (K : Int)] w fun e w' => e = .returned (.tuple #[plv f g, .int .i64 0]) ∧ Below w.heap.size w w' := fun w => by
      have := give_any (upd f (6 + K) (a1 + 1)) g a1 1 K w
      have e : giveS (upd f (6 + K) (a1 + 1)) g a1 1 K = _ := giveS_yes (a := 1) (giveE_ok (a := 1) hgF (by omega) hm6 (inR_true hs.1 hs.2) (by simpa using hFn))
      have e2 : upd (upd f (6 + K) (a1 + 1)) (6 * 1 + K) 0 = f := by
        have := upd_back (x := a1 + 1) h0
        simpa using this
      rw [e, e2] at this
      exact this
    have C4 : ∀ w, Calls Try.prog 29 #[plv (upd f (6 + K) (a1 + 1)) g, .int .i64 q, .int .i64 1, .int .i64 (K : Int)] w fun e w' => e = .returned (.tuple #[plv (upd f (6 + K) (a1 + 1)) g, .int .i64 7]) ∧ Below w.heap.size w w' := fun w => by
      have := give_any (upd f (6 + K) (a1 + 1)) g q 1 K w
      have e : giveS (upd f (6 + K) (a1 + 1)) g q 1 K = _ := giveS_no (giveE_none hgF (fun h => hqn (by
        have h2 := h.2.2
        rw [Int.toNat_natCast] at h2
        have h3 : upd f (6 + K) (a1 + 1) (6 + K) = q + 1 := by simpa using h2
        rw [hFn] at h3; exact h3))) (by omega)
      rw [e] at this
      exact this
    have C5 := fun w => left_any f g 1 w
    have C6 := fun w => left_any (upd f (6 + K) (a1 + 1)) g 1 w
    have hl : leftP f 1 - leftP (upd f (6 + K) (a1 + 1)) 1 = 1 := by
      have := left_upd f 1 K (a1 + 1) (by omega) hm6 (by omega) (by simpa using h0)
      simpa using this
    clear hgp hs hpos hm0 h0 he hK hgF w3
    have hFb : (upd f (6 + K) (a1 + 1) (6 + K) == a1 + 1) = true := by simpa using hFn
    clear hFn
    generalize upd f (6 + K) (a1 + 1) = F at *
    generalize leftP f 1 = lf at *
    generalize leftP F 1 = lg at *
    have hlb : (lf - lg == 1) = true := by simpa using hl
    have hlw : wrap64 (lf - lg) = lf - lg := by rw [hl]; unfold wrap64; rfl
    have hlx : IntKind.i64.wrap (lf - lg) = lf - lg := by rw [hl]; rfl
    clear hl
    unfold plv at *
    go_enter Try.func6, Try.ntmps6
    go_upto_region 5 with (first | (refine wpList_load_pool _ rfl ?_ _ rfl f g T4 ?_; · kernel_rfl) | (refine wpList_load_pool _ rfl ?_ _ rfl F g T9 ?_; · kernel_rfl) | (go_at_call 20; go_fit (C1 _); rintro e w' ⟨rfl, hb⟩; (try replace hb := below_undr' hb); replace T4 := T4.below hb; (try replace T9 := T9.below hb); (try replace T12 := T12.below hb); replace hB := hB.trans (hb.mono hB.size)) | (go_at_call 29; go_fit (C2 _); rintro e w' ⟨rfl, hb⟩; (try replace hb := below_undr' hb); replace T4 := T4.below hb; (try replace T9 := T9.below hb); (try replace T12 := T12.below hb); replace hB := hB.trans (hb.mono hB.size)) | (refine wpList_alloc_pool rfl rfl ?_; intro b12 w8 eb12 T12 hk8 hb8 hs8; have nb12T4 := (hk8 _ _ T4).2; replace T4 := (hk8 _ _ T4).1; have nb12T9 := (hk8 _ _ T9).2; replace T9 := (hk8 _ _ T9).1; replace hB := hb8 _ _ hB hB.size; have lb12 : w.heap.size ≤ b12 := (by rw [eb12]; have := T4.lt; omega); clear hs8 hk8 hb8 eb12) | (refine wpList_alloc_pool rfl rfl ?_; intro b9 w8 eb9 T9 hk8 hb8 hs8; have nb9T4 := (hk8 _ _ T4).2; replace T4 := (hk8 _ _ T4).1; replace hB := hb8 _ _ hB hB.size; have lb9 : w.heap.size ≤ b9 := (by rw [eb9]; have := T4.lt; omega); clear hs8 hk8 hb8 eb9) | (refine wpList_store_pool rfl _ _ rfl b12 rfl f g rfl (pc (fun _ => 0) (fun _ => false)) T12 rfl ?_; intro w8 T12 hs8 hk8 hb8; replace T4 := hk8 _ _ nb12T4 T4; replace T9 := hk8 _ _ nb12T9 T9; replace hB := hb8 _ _ lb12 hB; clear hs8 hk8 hb8) | (refine wpList_store_pool rfl _ _ rfl b9 rfl F g rfl (pc (fun _ => 0) (fun _ => false)) T9 rfl ?_; intro w8 T9 hs8 hk8 hb8; replace T4 := hk8 _ _ nb9T4 T4; replace hB := hb8 _ _ lb9 hB; clear hs8 hk8 hb8) | (go_at_call 36; refine (poolsKeep_any _).mono ?_; rintro e w' ⟨rfl, hb⟩; (try replace hb := below_undr' hb); replace T4 := T4.below hb; (try replace T9 := T9.below hb); (try replace T12 := T12.below hb); replace hB := hB.trans (hb.mono hB.size)))
    go_cut [15] (fun s15 wx => s15 = .int .i64 7 ∧ PRow wx w.heap.size (pc f g) ∧ PRow wx b9 (pc F g) ∧ PRow wx b12 (pc f g) ∧ Below w.heap.size w wx)
    case first =>
      refine wp_region_noPanic ?_
      refine wp_region_held_drew (S := fun w' => PRow w' w.heap.size (pc f g) ∧ PRow w' b9 (pc F g) ∧ PRow w' b12 (pc f g)) (by kernel_rfl) ⟨T4, T9, T12⟩ (fun _ => ?_)
      refine wpAnyH_take (i := 0) (v := .agg (pc F g)) rfl (by kernel_rfl) (by kernel_rfl) (by kernel_rfl) (fun _ _ _ h => h) (yields_load_pool (.tmp 9) rfl (by kernel_rfl) b9 (by kernel_rfl) F g (fun _ h => h.2.1)) ⟨T4, T9, T12⟩ ?_
      simp only [Act.put, List.getElem_toArray, List.getElem_cons_succ, List.getElem_cons_zero, List.setIfInBounds_toArray, List.set_cons_zero, List.set_cons_succ]
      refine wpAnyH_take (i := 1) (v := .int .i64 a1) rfl (by kernel_rfl) (by kernel_rfl) (by kernel_rfl) (fun _ _ _ h => h) (yields_move (.tmp 1) (.int .i64 a1) rfl (by kernel_rfl) (by kernel_rfl)) ⟨T4, T9, T12⟩ ?_
      simp only [Act.put, List.getElem_toArray, List.getElem_cons_succ, List.getElem_cons_zero, List.setIfInBounds_toArray, List.set_cons_zero, List.set_cons_succ]
      refine wpAnyH_take (i := 2) (v := .int .i64 (a1 + 1)) rfl (by kernel_rfl) (by kernel_rfl) (by kernel_rfl) (fun _ _ _ h => h) (Or.inl ⟨by kernel_rfl, by intro w _; go_simp⟩) ⟨T4, T9, T12⟩ ?_
      simp only [Act.put, List.getElem_toArray, List.getElem_cons_succ, List.getElem_cons_zero, List.setIfInBounds_toArray, List.set_cons_zero, List.set_cons_succ]
      refine wpAnyH_take (i := 4) (v := .int .i64 1) rfl (by kernel_rfl) (by kernel_rfl) (by kernel_rfl) (fun _ _ _ h => h) (yields_move (.tmp 2) (.int .i64 1) rfl (by kernel_rfl) (by kernel_rfl)) ⟨T4, T9, T12⟩ ?_
      simp only [Act.put, List.getElem_toArray, List.getElem_cons_succ, List.getElem_cons_zero, List.setIfInBounds_toArray, List.set_cons_zero, List.set_cons_succ]
      refine wpAnyH_take (i := 5) (v := .int .i64 (K : Int)) rfl (by kernel_rfl) (by kernel_rfl) (by kernel_rfl) (fun _ _ _ h => h) (yields_move (.tmp 10) (.int .i64 (K : Int)) rfl (by kernel_rfl) (by kernel_rfl)) ⟨T4, T9, T12⟩ ?_
      simp only [Act.put, List.getElem_toArray, List.getElem_cons_succ, List.getElem_cons_zero, List.setIfInBounds_toArray, List.set_cons_zero, List.set_cons_succ]
      refine wpAnyH_ready (rs := [3, 10]) (by kernel_rfl) (by simp) ?_
      refine AllReadyH.cons rfl (fun K hK => ?_) ?_
      · go_simp
        go_fit (C3 _); rintro e w' ⟨rfl, rfl⟩
        go_wp2_with fail
        refine hK.out _ _ ⟨T4, T9, T12⟩ (fun _ => ?_)
        clear hK K
        try simp only [Act.put, List.getElem_toArray, List.getElem_cons_succ, List.getElem_cons_zero, List.setIfInBounds_toArray, List.set_cons_zero, List.set_cons_succ]
        refine wpAnyH_ready (rs := [6, 10]) (by kernel_rfl) (by simp) ?_
        refine AllReadyH.cons rfl (fun K hK => ?_) ?_
        · go_simp
          go_fit (C4 _); rintro e w' ⟨rfl, hb⟩; (try replace hb := below_undr' hb); replace T4 := T4.below hb; replace T9 := T9.below hb; replace T12 := T12.below hb; (try replace T14 := T14.below hb); replace hB := hB.trans (hb.mono hB.size)
          go_wp2_with fail
          refine hK.out _ _ ⟨T4, T9, T12⟩ (fun _ => ?_)
          clear hK K
          try simp only [Act.put, List.getElem_toArray, List.getElem_cons_succ, List.getElem_cons_zero, List.setIfInBounds_toArray, List.set_cons_zero, List.set_cons_succ]
          refine wpAnyH_take (i := 7) (v := .tuple #[.agg (pc F g), .int .i64 7]) rfl (by kernel_rfl) (by kernel_rfl) (by kernel_rfl) (fun _ _ _ h => h) (yields_move (.tmp 56) (.tuple #[.agg (pc F g), .int .i64 7]) rfl (by kernel_rfl) (by kernel_rfl)) ⟨T4, T9, T12⟩ ?_
          simp only [Act.put, List.getElem_toArray, List.getElem_cons_succ, List.getElem_cons_zero, List.setIfInBounds_toArray, List.set_cons_zero, List.set_cons_succ]
          refine wpAnyH_take (i := 8) (v := .agg (pc F g)) rfl (by kernel_rfl) (by kernel_rfl) (by kernel_rfl) (fun _ _ _ h => h) (Or.inl ⟨by kernel_rfl, by intro w _; go_simp⟩) ⟨T4, T9, T12⟩ ?_
          simp only [Act.put, List.getElem_toArray, List.getElem_cons_succ, List.getElem_cons_zero, List.setIfInBounds_toArray, List.set_cons_zero, List.set_cons_succ]
          refine wpAnyH_take (i := 9) (v := .int .i64 7) rfl (by kernel_rfl) (by kernel_rfl) (by kernel_rfl) (fun _ _ _ h => h) (Or.inl ⟨by kernel_rfl, by intro w _; go_simp⟩) ⟨T4, T9, T12⟩ ?_
          simp only [Act.put, List.getElem_toArray, List.getElem_cons_succ, List.getElem_cons_zero, List.setIfInBounds_toArray, List.set_cons_zero, List.set_cons_succ]
          refine wpAnyH_ready (rs := [10]) (by kernel_rfl) (by simp) ?_
          refine AllReadyH.cons rfl (fun K hK => ?_) ?_
          · rw [if_pos (by kernel_rfl)]
            refine wp_alloc_pool rfl ?_; intro b14 w8 e14 T14 hk8 hb8 hs8; have n144 := (hk8 _ _ T4).2; have n149 := (hk8 _ _ T9).2; have n1412 := (hk8 _ _ T12).2; replace T4 := (hk8 _ _ T4).1; replace T9 := (hk8 _ _ T9).1; replace T12 := (hk8 _ _ T12).1; (first | (replace hB := hb8 _ _ hB hB.size) | (replace hB := hb8 _ _ (below_drew hB) hB.size)); have l14 : w.heap.size ≤ b14 := (by rw [e14]; have := T4.lt; omega); clear hs8 hk8 hb8 e14
            refine hK.out _ _ ⟨T4, T9, T12⟩ (fun _ => ?_)
            clear hK K
            try simp only [Act.put, List.getElem_toArray, List.getElem_cons_succ, List.getElem_cons_zero, List.setIfInBounds_toArray, List.set_cons_zero, List.set_cons_succ]
            refine wpAnyH_ready (rs := [11]) (by kernel_rfl) (by simp) ?_
            refine AllReadyH.cons rfl (fun K hK => ?_) ?_
            · rw [if_pos (by kernel_rfl)]
              refine wp_store_pool _ _ rfl b14 rfl F g rfl _ T14 rfl ?_; intro w8 T14 hs8 hk8 hb8; replace T4 := hk8 _ _ n144 T4; replace T9 := hk8 _ _ n149 T9; replace T12 := hk8 _ _ n1412 T12; (first | (replace hB := hb8 _ _ l14 hB) | (replace hB := hb8 _ _ l14 (below_drew hB))); clear hs8 hk8 hb8
              refine hK.out _ _ ⟨T4, T9, T12⟩ (fun _ => ?_)
              clear hK K
              try simp only [Act.put, List.getElem_toArray, List.getElem_cons_succ, List.getElem_cons_zero, List.setIfInBounds_toArray, List.set_cons_zero, List.set_cons_succ]
              refine wpAnyH_take (i := 12) (v := .int .i64 7) rfl (by kernel_rfl) (by kernel_rfl) (by kernel_rfl) (fun _ _ _ h => h) (yields_assign (.tmp 58) (.int .i64 7) rfl (by kernel_rfl) (by kernel_rfl)) ⟨T4, T9, T12⟩ ?_
              simp only [Act.put, List.getElem_toArray, List.getElem_cons_succ, List.getElem_cons_zero, List.setIfInBounds_toArray, List.set_cons_zero, List.set_cons_succ]
              refine wpAnyH_done (by kernel_rfl) ?_ _
              refine NoPanic.normal ?_
              go_wp2_with fail
              go_meet
              case rel => exact ⟨rfl, T4, T9, T12, hB⟩
            exact AllReadyH.nil
          exact AllReadyH.nil
        refine AllReadyH.cons rfl (fun K hK => ?_) ?_
        · rw [if_pos (by kernel_rfl)]
          refine wp_alloc_pool rfl ?_; intro b14 w8 e14 T14 hk8 hb8 hs8; have n144 := (hk8 _ _ T4).2; have n149 := (hk8 _ _ T9).2; have n1412 := (hk8 _ _ T12).2; replace T4 := (hk8 _ _ T4).1; replace T9 := (hk8 _ _ T9).1; replace T12 := (hk8 _ _ T12).1; (first | (replace hB := hb8 _ _ hB hB.size) | (replace hB := hb8 _ _ (below_drew hB) hB.size)); have l14 : w.heap.size ≤ b14 := (by rw [e14]; have := T4.lt; omega); clear hs8 hk8 hb8 e14
          refine hK.out _ _ ⟨T4, T9, T12⟩ (fun _ => ?_)
          clear hK K
          try simp only [Act.put, List.getElem_toArray, List.getElem_cons_succ, List.getElem_cons_zero, List.setIfInBounds_toArray, List.set_cons_zero, List.set_cons_succ]
          refine wpAnyH_ready (rs := [6]) (by kernel_rfl) (by simp) ?_
          refine AllReadyH.cons rfl (fun K hK => ?_) ?_
          · go_simp
            go_fit (C4 _); rintro e w' ⟨rfl, hb⟩; (try replace hb := below_undr' hb); replace T4 := T4.below hb; replace T9 := T9.below hb; replace T12 := T12.below hb; (try replace T14 := T14.below hb); replace hB := hB.trans (hb.mono hB.size)
            go_wp2_with fail
            refine hK.out _ _ ⟨T4, T9, T12⟩ (fun _ => ?_)
            clear hK K
            try simp only [Act.put, List.getElem_toArray, List.getElem_cons_succ, List.getElem_cons_zero, List.setIfInBounds_toArray, List.set_cons_zero, List.set_cons_succ]
            refine wpAnyH_take (i := 7) (v := .tuple #[.agg (pc F g), .int .i64 7]) rfl (by kernel_rfl) (by kernel_rfl) (by kernel_rfl) (fun _ _ _ h => h) (yields_move (.tmp 56) (.tuple #[.agg (pc F g), .int .i64 7]) rfl (by kernel_rfl) (by kernel_rfl)) ⟨T4, T9, T12⟩ ?_
            simp only [Act.put, List.getElem_toArray, List.getElem_cons_succ, List.getElem_cons_zero, List.setIfInBounds_toArray, List.set_cons_zero, List.set_cons_succ]
            refine wpAnyH_take (i := 8) (v := .agg (pc F g)) rfl (by kernel_rfl) (by kernel_rfl) (by kernel_rfl) (fun _ _ _ h => h) (Or.inl ⟨by kernel_rfl, by intro w _; go_simp⟩) ⟨T4, T9, T12⟩ ?_
            simp only [Act.put, List.getElem_toArray, List.getElem_cons_succ, List.getElem_cons_zero, List.setIfInBounds_toArray, List.set_cons_zero, List.set_cons_succ]
            refine wpAnyH_take (i := 9) (v := .int .i64 7) rfl (by kernel_rfl) (by kernel_rfl) (by kernel_rfl) (fun _ _ _ h => h) (Or.inl ⟨by kernel_rfl, by intro w _; go_simp⟩) ⟨T4, T9, T12⟩ ?_
            simp only [Act.put, List.getElem_toArray, List.getElem_cons_succ, List.getElem_cons_zero, List.setIfInBounds_toArray, List.set_cons_zero, List.set_cons_succ]
            refine wpAnyH_ready (rs := [11]) (by kernel_rfl) (by simp) ?_
            refine AllReadyH.cons rfl (fun K hK => ?_) ?_
            · rw [if_pos (by kernel_rfl)]
              refine wp_store_pool _ _ rfl b14 rfl F g rfl _ T14 rfl ?_; intro w8 T14 hs8 hk8 hb8; replace T4 := hk8 _ _ n144 T4; replace T9 := hk8 _ _ n149 T9; replace T12 := hk8 _ _ n1412 T12; (first | (replace hB := hb8 _ _ l14 hB) | (replace hB := hb8 _ _ l14 (below_drew hB))); clear hs8 hk8 hb8
              refine hK.out _ _ ⟨T4, T9, T12⟩ (fun _ => ?_)
              clear hK K
              try simp only [Act.put, List.getElem_toArray, List.getElem_cons_succ, List.getElem_cons_zero, List.setIfInBounds_toArray, List.set_cons_zero, List.set_cons_succ]
              refine wpAnyH_take (i := 12) (v := .int .i64 7) rfl (by kernel_rfl) (by kernel_rfl) (by kernel_rfl) (fun _ _ _ h => h) (yields_assign (.tmp 58) (.int .i64 7) rfl (by kernel_rfl) (by kernel_rfl)) ⟨T4, T9, T12⟩ ?_
              simp only [Act.put, List.getElem_toArray, List.getElem_cons_succ, List.getElem_cons_zero, List.setIfInBounds_toArray, List.set_cons_zero, List.set_cons_succ]
              refine wpAnyH_done (by kernel_rfl) ?_ _
              refine NoPanic.normal ?_
              go_wp2_with fail
              go_meet
              case rel => exact ⟨rfl, T4, T9, T12, hB⟩
            exact AllReadyH.nil
          exact AllReadyH.nil
        exact AllReadyH.nil
      refine AllReadyH.cons rfl (fun K hK => ?_) ?_
      · rw [if_pos (by kernel_rfl)]
        refine wp_alloc_pool rfl ?_; intro b14 w8 e14 T14 hk8 hb8 hs8; have n144 := (hk8 _ _ T4).2; have n149 := (hk8 _ _ T9).2; have n1412 := (hk8 _ _ T12).2; replace T4 := (hk8 _ _ T4).1; replace T9 := (hk8 _ _ T9).1; replace T12 := (hk8 _ _ T12).1; (first | (replace hB := hb8 _ _ hB hB.size) | (replace hB := hb8 _ _ (below_drew hB) hB.size)); have l14 : w.heap.size ≤ b14 := (by rw [e14]; have := T4.lt; omega); clear hs8 hk8 hb8 e14
        refine hK.out _ _ ⟨T4, T9, T12⟩ (fun _ => ?_)
        clear hK K
        try simp only [Act.put, List.getElem_toArray, List.getElem_cons_succ, List.getElem_cons_zero, List.setIfInBounds_toArray, List.set_cons_zero, List.set_cons_succ]
        refine wpAnyH_ready (rs := [3]) (by kernel_rfl) (by simp) ?_
        refine AllReadyH.cons rfl (fun K hK => ?_) ?_
        · go_simp
          go_fit (C3 _); rintro e w' ⟨rfl, rfl⟩
          go_wp2_with fail
          refine hK.out _ _ ⟨T4, T9, T12⟩ (fun _ => ?_)
          clear hK K
          try simp only [Act.put, List.getElem_toArray, List.getElem_cons_succ, List.getElem_cons_zero, List.setIfInBounds_toArray, List.set_cons_zero, List.set_cons_succ]
          refine wpAnyH_ready (rs := [6]) (by kernel_rfl) (by simp) ?_
          refine AllReadyH.cons rfl (fun K hK => ?_) ?_
          · go_simp
            go_fit (C4 _); rintro e w' ⟨rfl, hb⟩; (try replace hb := below_undr' hb); replace T4 := T4.below hb; replace T9 := T9.below hb; replace T12 := T12.below hb; (try replace T14 := T14.below hb); replace hB := hB.trans (hb.mono hB.size)
            go_wp2_with fail
            refine hK.out _ _ ⟨T4, T9, T12⟩ (fun _ => ?_)
            clear hK K
            try simp only [Act.put, List.getElem_toArray, List.getElem_cons_succ, List.getElem_cons_zero, List.setIfInBounds_toArray, List.set_cons_zero, List.set_cons_succ]
            refine wpAnyH_take (i := 7) (v := .tuple #[.agg (pc F g), .int .i64 7]) rfl (by kernel_rfl) (by kernel_rfl) (by kernel_rfl) (fun _ _ _ h => h) (yields_move (.tmp 56) (.tuple #[.agg (pc F g), .int .i64 7]) rfl (by kernel_rfl) (by kernel_rfl)) ⟨T4, T9, T12⟩ ?_
            simp only [Act.put, List.getElem_toArray, List.getElem_cons_succ, List.getElem_cons_zero, List.setIfInBounds_toArray, List.set_cons_zero, List.set_cons_succ]
            refine wpAnyH_take (i := 8) (v := .agg (pc F g)) rfl (by kernel_rfl) (by kernel_rfl) (by kernel_rfl) (fun _ _ _ h => h) (Or.inl ⟨by kernel_rfl, by intro w _; go_simp⟩) ⟨T4, T9, T12⟩ ?_
            simp only [Act.put, List.getElem_toArray, List.getElem_cons_succ, List.getElem_cons_zero, List.setIfInBounds_toArray, List.set_cons_zero, List.set_cons_succ]
            refine wpAnyH_take (i := 9) (v := .int .i64 7) rfl (by kernel_rfl) (by kernel_rfl) (by kernel_rfl) (fun _ _ _ h => h) (Or.inl ⟨by kernel_rfl, by intro w _; go_simp⟩) ⟨T4, T9, T12⟩ ?_
            simp only [Act.put, List.getElem_toArray, List.getElem_cons_succ, List.getElem_cons_zero, List.setIfInBounds_toArray, List.set_cons_zero, List.set_cons_succ]
            refine wpAnyH_ready (rs := [11]) (by kernel_rfl) (by simp) ?_
            refine AllReadyH.cons rfl (fun K hK => ?_) ?_
            · rw [if_pos (by kernel_rfl)]
              refine wp_store_pool _ _ rfl b14 rfl F g rfl _ T14 rfl ?_; intro w8 T14 hs8 hk8 hb8; replace T4 := hk8 _ _ n144 T4; replace T9 := hk8 _ _ n149 T9; replace T12 := hk8 _ _ n1412 T12; (first | (replace hB := hb8 _ _ l14 hB) | (replace hB := hb8 _ _ l14 (below_drew hB))); clear hs8 hk8 hb8
              refine hK.out _ _ ⟨T4, T9, T12⟩ (fun _ => ?_)
              clear hK K
              try simp only [Act.put, List.getElem_toArray, List.getElem_cons_succ, List.getElem_cons_zero, List.setIfInBounds_toArray, List.set_cons_zero, List.set_cons_succ]
              refine wpAnyH_take (i := 12) (v := .int .i64 7) rfl (by kernel_rfl) (by kernel_rfl) (by kernel_rfl) (fun _ _ _ h => h) (yields_assign (.tmp 58) (.int .i64 7) rfl (by kernel_rfl) (by kernel_rfl)) ⟨T4, T9, T12⟩ ?_
              simp only [Act.put, List.getElem_toArray, List.getElem_cons_succ, List.getElem_cons_zero, List.setIfInBounds_toArray, List.set_cons_zero, List.set_cons_succ]
              refine wpAnyH_done (by kernel_rfl) ?_ _
              refine NoPanic.normal ?_
              go_wp2_with fail
              go_meet
              case rel => exact ⟨rfl, T4, T9, T12, hB⟩
            exact AllReadyH.nil
          exact AllReadyH.nil
        exact AllReadyH.nil
      exact AllReadyH.nil
    case rest =>
    clear T4 T9 T12 hB
    obtain ⟨rfl, T4, T9, T12, hB⟩ := hcut
    go_upto_region 6 with fail
    refine wp_region_noPanic ?_
    refine wp_region_held_drew (S := fun w' => PRow w' w.heap.size (pc f g) ∧ PRow w' b9 (pc F g) ∧ PRow w' b12 (pc f g)) (by kernel_rfl) ⟨T4, T9, T12⟩ (fun _ => ?_)
    refine wpAnyH_take (i := 0) (v := .int .i64 1) rfl (by kernel_rfl) (by kernel_rfl) (by kernel_rfl) (fun _ _ _ h => h) (yields_move (.tmp 2) (.int .i64 1) rfl (by kernel_rfl) (by kernel_rfl)) ⟨T4, T9, T12⟩ ?_
    simp only [Act.put, List.getElem_toArray, List.getElem_cons_succ, List.getElem_cons_zero, List.setIfInBounds_toArray, List.set_cons_zero, List.set_cons_succ]
    refine wpAnyH_take (i := 1) (v := .int .i64 (K : Int)) rfl (by kernel_rfl) (by kernel_rfl) (by kernel_rfl) (fun _ _ _ h => h) (yields_move (.tmp 10) (.int .i64 (K : Int)) rfl (by kernel_rfl) (by kernel_rfl)) ⟨T4, T9, T12⟩ ?_
    simp only [Act.put, List.getElem_toArray, List.getElem_cons_succ, List.getElem_cons_zero, List.setIfInBounds_toArray, List.set_cons_zero, List.set_cons_succ]
    refine wpAnyH_take (i := 2) (v := .pointer (some ⟨w.heap.size, 0, none⟩)) rfl (by kernel_rfl) (by kernel_rfl) (by kernel_rfl) (fun _ _ _ h => h) (Or.inl ⟨by kernel_rfl, by intro w _; go_simp⟩) ⟨T4, T9, T12⟩ ?_
    simp only [Act.put, List.getElem_toArray, List.getElem_cons_succ, List.getElem_cons_zero, List.setIfInBounds_toArray, List.set_cons_zero, List.set_cons_succ]
    refine wpAnyH_take (i := 3) (v := .pointer (some ⟨w.heap.size, 6, none⟩)) rfl (by kernel_rfl) (by kernel_rfl) (by kernel_rfl) (fun _ _ _ h => h) (Or.inl ⟨by kernel_rfl, by intro w _; go_simp⟩) ⟨T4, T9, T12⟩ ?_
    simp only [Act.put, List.getElem_toArray, List.getElem_cons_succ, List.getElem_cons_zero, List.setIfInBounds_toArray, List.set_cons_zero, List.set_cons_succ]
    refine wpAnyH_take (i := 4) (v := .pointer (some ⟨w.heap.size, 6 + K, none⟩)) rfl (by kernel_rfl) (by kernel_rfl) (by kernel_rfl) (fun _ _ _ h => h) (Or.inl ⟨by kernel_rfl, by intro w _; go_simp⟩) ⟨T4, T9, T12⟩ ?_
    simp only [Act.put, List.getElem_toArray, List.getElem_cons_succ, List.getElem_cons_zero, List.setIfInBounds_toArray, List.set_cons_zero, List.set_cons_succ]
    refine wpAnyH_take (i := 5) (v := .int .i64 (f (6 + K))) rfl (by kernel_rfl) (by kernel_rfl) (by kernel_rfl) (fun _ _ _ h => h) (Or.inl ⟨by kernel_rfl, by intro w' h; have c := h.1.own (6 + K) (by omega); go_simp⟩) ⟨T4, T9, T12⟩ ?_
    simp only [Act.put, List.getElem_toArray, List.getElem_cons_succ, List.getElem_cons_zero, List.setIfInBounds_toArray, List.set_cons_zero, List.set_cons_succ]
    refine wpAnyH_take (i := 6) (v := .bool true) rfl (by kernel_rfl) (by kernel_rfl) (by kernel_rfl) (fun _ _ _ h => h) (yields_eqi 3 (.tmp 64) (.const (.int .i64 0)) ((f (6 + K))) (0) true rfl (by kernel_rfl) (by kernel_rfl) (by kernel_rfl) (h0b)) ⟨T4, T9, T12⟩ ?_
    simp only [Act.put, List.getElem_toArray, List.getElem_cons_succ, List.getElem_cons_zero, List.setIfInBounds_toArray, List.set_cons_zero, List.set_cons_succ]
    refine wpAnyH_take (i := 7) (v := .bool true) rfl (by kernel_rfl) (by kernel_rfl) (by kernel_rfl) (fun _ _ _ h => h) (yields_move (.tmp 65) (.bool true) rfl (by kernel_rfl) (by kernel_rfl)) ⟨T4, T9, T12⟩ ?_
    simp only [Act.put, List.getElem_toArray, List.getElem_cons_succ, List.getElem_cons_zero, List.setIfInBounds_toArray, List.set_cons_zero, List.set_cons_succ]
    refine wpAnyH_take (i := 8) (v := .int .i64 1) rfl (by kernel_rfl) (by kernel_rfl) (by kernel_rfl) (fun _ _ _ h => h) (yields_move (.tmp 2) (.int .i64 1) rfl (by kernel_rfl) (by kernel_rfl)) ⟨T4, T9, T12⟩ ?_
    simp only [Act.put, List.getElem_toArray, List.getElem_cons_succ, List.getElem_cons_zero, List.setIfInBounds_toArray, List.set_cons_zero, List.set_cons_succ]
    refine wpAnyH_take (i := 9) (v := .int .i64 (K : Int)) rfl (by kernel_rfl) (by kernel_rfl) (by kernel_rfl) (fun _ _ _ h => h) (yields_move (.tmp 10) (.int .i64 (K : Int)) rfl (by kernel_rfl) (by kernel_rfl)) ⟨T4, T9, T12⟩ ?_
    simp only [Act.put, List.getElem_toArray, List.getElem_cons_succ, List.getElem_cons_zero, List.setIfInBounds_toArray, List.set_cons_zero, List.set_cons_succ]
    refine wpAnyH_take (i := 10) (v := .pointer (some ⟨b9, 0, none⟩)) rfl (by kernel_rfl) (by kernel_rfl) (by kernel_rfl) (fun _ _ _ h => h) (Or.inl ⟨by kernel_rfl, by intro w _; go_simp⟩) ⟨T4, T9, T12⟩ ?_
    simp only [Act.put, List.getElem_toArray, List.getElem_cons_succ, List.getElem_cons_zero, List.setIfInBounds_toArray, List.set_cons_zero, List.set_cons_succ]
    refine wpAnyH_take (i := 11) (v := .pointer (some ⟨b9, 6, none⟩)) rfl (by kernel_rfl) (by kernel_rfl) (by kernel_rfl) (fun _ _ _ h => h) (Or.inl ⟨by kernel_rfl, by intro w _; go_simp⟩) ⟨T4, T9, T12⟩ ?_
    simp only [Act.put, List.getElem_toArray, List.getElem_cons_succ, List.getElem_cons_zero, List.setIfInBounds_toArray, List.set_cons_zero, List.set_cons_succ]
    refine wpAnyH_take (i := 12) (v := .pointer (some ⟨b9, 6 + K, none⟩)) rfl (by kernel_rfl) (by kernel_rfl) (by kernel_rfl) (fun _ _ _ h => h) (Or.inl ⟨by kernel_rfl, by intro w _; go_simp⟩) ⟨T4, T9, T12⟩ ?_
    simp only [Act.put, List.getElem_toArray, List.getElem_cons_succ, List.getElem_cons_zero, List.setIfInBounds_toArray, List.set_cons_zero, List.set_cons_succ]
    refine wpAnyH_take (i := 13) (v := .int .i64 (F (6 + K))) rfl (by kernel_rfl) (by kernel_rfl) (by kernel_rfl) (fun _ _ _ h => h) (Or.inl ⟨by kernel_rfl, by intro w' h; have c := h.2.1.own (6 + K) (by omega); go_simp⟩) ⟨T4, T9, T12⟩ ?_
    simp only [Act.put, List.getElem_toArray, List.getElem_cons_succ, List.getElem_cons_zero, List.setIfInBounds_toArray, List.set_cons_zero, List.set_cons_succ]
    refine wpAnyH_take (i := 14) (v := .int .i64 a1) rfl (by kernel_rfl) (by kernel_rfl) (by kernel_rfl) (fun _ _ _ h => h) (yields_move (.tmp 1) (.int .i64 a1) rfl (by kernel_rfl) (by kernel_rfl)) ⟨T4, T9, T12⟩ ?_
    simp only [Act.put, List.getElem_toArray, List.getElem_cons_succ, List.getElem_cons_zero, List.setIfInBounds_toArray, List.set_cons_zero, List.set_cons_succ]
    refine wpAnyH_take (i := 15) (v := .int .i64 (a1 + 1)) rfl (by kernel_rfl) (by kernel_rfl) (by kernel_rfl) (fun _ _ _ h => h) (Or.inl ⟨by kernel_rfl, by intro w _; go_simp⟩) ⟨T4, T9, T12⟩ ?_
    simp only [Act.put, List.getElem_toArray, List.getElem_cons_succ, List.getElem_cons_zero, List.setIfInBounds_toArray, List.set_cons_zero, List.set_cons_succ]
    refine wpAnyH_take (i := 16) (v := .bool true) rfl (by kernel_rfl) (by kernel_rfl) (by kernel_rfl) (fun _ _ _ h => h) (yields_eqi 3 (.tmp 72) (.tmp 74) ((F (6 + K))) ((a1 + 1)) true rfl (by kernel_rfl) (by kernel_rfl) (by kernel_rfl) (hFb)) ⟨T4, T9, T12⟩ ?_
    simp only [Act.put, List.getElem_toArray, List.getElem_cons_succ, List.getElem_cons_zero, List.setIfInBounds_toArray, List.set_cons_zero, List.set_cons_succ]
    refine wpAnyH_take (i := 17) (v := .bool true) rfl (by kernel_rfl) (by kernel_rfl) (by kernel_rfl) (fun _ _ _ h => h) (yields_pickt (.tmp 66) (.tmp 75) (.const (.bool false)) (.bool true) rfl (by kernel_rfl) (by kernel_rfl) (by kernel_rfl)) ⟨T4, T9, T12⟩ ?_
    simp only [Act.put, List.getElem_toArray, List.getElem_cons_succ, List.getElem_cons_zero, List.setIfInBounds_toArray, List.set_cons_zero, List.set_cons_succ]
    refine wpAnyH_take (i := 18) (v := .bool true) rfl (by kernel_rfl) (by kernel_rfl) (by kernel_rfl) (fun _ _ _ h => h) (yields_move (.tmp 76) (.bool true) rfl (by kernel_rfl) (by kernel_rfl)) ⟨T4, T9, T12⟩ ?_
    simp only [Act.put, List.getElem_toArray, List.getElem_cons_succ, List.getElem_cons_zero, List.setIfInBounds_toArray, List.set_cons_zero, List.set_cons_succ]
    refine wpAnyH_take (i := 19) (v := .int .i64 0) rfl (by kernel_rfl) (by kernel_rfl) (by kernel_rfl) (fun _ _ _ h => h) (yields_move (.tmp 13) (.int .i64 0) rfl (by kernel_rfl) (by kernel_rfl)) ⟨T4, T9, T12⟩ ?_
    simp only [Act.put, List.getElem_toArray, List.getElem_cons_succ, List.getElem_cons_zero, List.setIfInBounds_toArray, List.set_cons_zero, List.set_cons_succ]
    refine wpAnyH_take (i := 20) (v := .bool true) rfl (by kernel_rfl) (by kernel_rfl) (by kernel_rfl) (fun _ _ _ h => h) (yields_eqi 24 (.tmp 78) (.const (.int .i64 0)) (0) (0) true rfl (by kernel_rfl) (by kernel_rfl) (by kernel_rfl) (by simp)) ⟨T4, T9, T12⟩ ?_
    simp only [Act.put, List.getElem_toArray, List.getElem_cons_succ, List.getElem_cons_zero, List.setIfInBounds_toArray, List.set_cons_zero, List.set_cons_succ]
    refine wpAnyH_take (i := 21) (v := .bool true) rfl (by kernel_rfl) (by kernel_rfl) (by kernel_rfl) (fun _ _ _ h => h) (yields_pickt (.tmp 77) (.tmp 79) (.const (.bool false)) (.bool true) rfl (by kernel_rfl) (by kernel_rfl) (by kernel_rfl)) ⟨T4, T9, T12⟩ ?_
    simp only [Act.put, List.getElem_toArray, List.getElem_cons_succ, List.getElem_cons_zero, List.setIfInBounds_toArray, List.set_cons_zero, List.set_cons_succ]
    refine wpAnyH_take (i := 22) (v := .bool true) rfl (by kernel_rfl) (by kernel_rfl) (by kernel_rfl) (fun _ _ _ h => h) (yields_move (.tmp 80) (.bool true) rfl (by kernel_rfl) (by kernel_rfl)) ⟨T4, T9, T12⟩ ?_
    simp only [Act.put, List.getElem_toArray, List.getElem_cons_succ, List.getElem_cons_zero, List.setIfInBounds_toArray, List.set_cons_zero, List.set_cons_succ]
    refine wpAnyH_take (i := 23) (v := .agg (pc f g)) rfl (by kernel_rfl) (by kernel_rfl) (by kernel_rfl) (fun _ _ _ h => h) (yields_load_pool (.tmp 12) rfl (by kernel_rfl) b12 (by kernel_rfl) f g (fun _ h => h.2.2)) ⟨T4, T9, T12⟩ ?_
    simp only [Act.put, List.getElem_toArray, List.getElem_cons_succ, List.getElem_cons_zero, List.setIfInBounds_toArray, List.set_cons_zero, List.set_cons_succ]
    refine wpAnyH_take (i := 24) (v := .agg (pc f g)) rfl (by kernel_rfl) (by kernel_rfl) (by kernel_rfl) (fun _ _ _ h => h) (yields_load_pool (.tmp 4) rfl (by kernel_rfl) w.heap.size (by kernel_rfl) f g (fun _ h => h.1)) ⟨T4, T9, T12⟩ ?_
    simp only [Act.put, List.getElem_toArray, List.getElem_cons_succ, List.getElem_cons_zero, List.setIfInBounds_toArray, List.set_cons_zero, List.set_cons_succ]
    refine wpAnyH_take (i := 25) (v := .bool true) rfl (by kernel_rfl) (by kernel_rfl) (by kernel_rfl) (fun _ _ _ h => h) (yields_eq_pool (.tmp 82) (.tmp 83) rfl (by kernel_rfl) f g w0 (by kernel_rfl) (by kernel_rfl)) ⟨T4, T9, T12⟩ ?_
    simp only [Act.put, List.getElem_toArray, List.getElem_cons_succ, List.getElem_cons_zero, List.setIfInBounds_toArray, List.set_cons_zero, List.set_cons_succ]
    refine wpAnyH_take (i := 26) (v := .bool true) rfl (by kernel_rfl) (by kernel_rfl) (by kernel_rfl) (fun _ _ _ h => h) (yields_pickt (.tmp 81) (.tmp 84) (.const (.bool false)) (.bool true) rfl (by kernel_rfl) (by kernel_rfl) (by kernel_rfl)) ⟨T4, T9, T12⟩ ?_
    simp only [Act.put, List.getElem_toArray, List.getElem_cons_succ, List.getElem_cons_zero, List.setIfInBounds_toArray, List.set_cons_zero, List.set_cons_succ]
    refine wpAnyH_take (i := 27) (v := .bool true) rfl (by kernel_rfl) (by kernel_rfl) (by kernel_rfl) (fun _ _ _ h => h) (yields_move (.tmp 85) (.bool true) rfl (by kernel_rfl) (by kernel_rfl)) ⟨T4, T9, T12⟩ ?_
    simp only [Act.put, List.getElem_toArray, List.getElem_cons_succ, List.getElem_cons_zero, List.setIfInBounds_toArray, List.set_cons_zero, List.set_cons_succ]
    refine wpAnyH_take (i := 28) (v := .agg (pc f g)) rfl (by kernel_rfl) (by kernel_rfl) (by kernel_rfl) (fun _ _ _ h => h) (yields_load_pool (.tmp 4) rfl (by kernel_rfl) w.heap.size (by kernel_rfl) f g (fun _ h => h.1)) ⟨T4, T9, T12⟩ ?_
    simp only [Act.put, List.getElem_toArray, List.getElem_cons_succ, List.getElem_cons_zero, List.setIfInBounds_toArray, List.set_cons_zero, List.set_cons_succ]
    refine wpAnyH_take (i := 29) (v := .int .i64 1) rfl (by kernel_rfl) (by kernel_rfl) (by kernel_rfl) (fun _ _ _ h => h) (yields_move (.tmp 2) (.int .i64 1) rfl (by kernel_rfl) (by kernel_rfl)) ⟨T4, T9, T12⟩ ?_
    simp only [Act.put, List.getElem_toArray, List.getElem_cons_succ, List.getElem_cons_zero, List.setIfInBounds_toArray, List.set_cons_zero, List.set_cons_succ]
    refine wpAnyH_take (i := 31) (v := .agg (pc F g)) rfl (by kernel_rfl) (by kernel_rfl) (by kernel_rfl) (fun _ _ _ h => h) (yields_load_pool (.tmp 9) rfl (by kernel_rfl) b9 (by kernel_rfl) F g (fun _ h => h.2.1)) ⟨T4, T9, T12⟩ ?_
    simp only [Act.put, List.getElem_toArray, List.getElem_cons_succ, List.getElem_cons_zero, List.setIfInBounds_toArray, List.set_cons_zero, List.set_cons_succ]
    refine wpAnyH_take (i := 32) (v := .int .i64 1) rfl (by kernel_rfl) (by kernel_rfl) (by kernel_rfl) (fun _ _ _ h => h) (yields_move (.tmp 2) (.int .i64 1) rfl (by kernel_rfl) (by kernel_rfl)) ⟨T4, T9, T12⟩ ?_
    simp only [Act.put, List.getElem_toArray, List.getElem_cons_succ, List.getElem_cons_zero, List.setIfInBounds_toArray, List.set_cons_zero, List.set_cons_succ]
    refine wpAnyH_ready (rs := [30]) (by kernel_rfl) (by simp) ?_
    refine AllReadyH.cons rfl (fun K hK => ?_) ?_
    · go_simp
      go_fit (C5 _); rintro e w' ⟨rfl, hb⟩; (try replace hb := below_undr' hb); replace T4 := T4.below hb; replace T9 := T9.below hb; replace T12 := T12.below hb; replace hB := hB.trans (hb.mono hB.size)
      go_wp2_with fail
      refine hK.out _ _ ⟨T4, T9, T12⟩ (fun _ => ?_)
      clear hK K
      try simp only [Act.put, List.getElem_toArray, List.getElem_cons_succ, List.getElem_cons_zero, List.setIfInBounds_toArray, List.set_cons_zero, List.set_cons_succ]
      refine wpAnyH_ready (rs := [33]) (by kernel_rfl) (by simp) ?_
      refine AllReadyH.cons rfl (fun K hK => ?_) ?_
      · go_simp
        go_fit (C6 _); rintro e w' ⟨rfl, hb⟩; (try replace hb := below_undr' hb); replace T4 := T4.below hb; replace T9 := T9.below hb; replace T12 := T12.below hb; replace hB := hB.trans (hb.mono hB.size)
        go_wp2_with fail
        refine hK.out _ _ ⟨T4, T9, T12⟩ (fun _ => ?_)
        clear hK K
        try simp only [Act.put, List.getElem_toArray, List.getElem_cons_succ, List.getElem_cons_zero, List.setIfInBounds_toArray, List.set_cons_zero, List.set_cons_succ]
        refine wpAnyH_take (i := 34) (v := .int .i64 (lf - lg)) rfl (by kernel_rfl) (by kernel_rfl) (by kernel_rfl) (fun _ _ _ h => h) (Or.inl ⟨by kernel_rfl, by intro w _; go_simp⟩) ⟨T4, T9, T12⟩ ?_
        simp only [Act.put, List.getElem_toArray, List.getElem_cons_succ, List.getElem_cons_zero, List.setIfInBounds_toArray, List.set_cons_zero, List.set_cons_succ]
        refine wpAnyH_take (i := 35) (v := .bool true) rfl (by kernel_rfl) (by kernel_rfl) (by kernel_rfl) (fun _ _ _ h => h) (yields_eqi 3 (.tmp 93) (.const (.int .i64 1)) ((lf - lg)) (1) true rfl (by kernel_rfl) (by kernel_rfl) (by kernel_rfl) (hlb)) ⟨T4, T9, T12⟩ ?_
        simp only [Act.put, List.getElem_toArray, List.getElem_cons_succ, List.getElem_cons_zero, List.setIfInBounds_toArray, List.set_cons_zero, List.set_cons_succ]
        refine wpAnyH_take (i := 36) (v := .bool true) rfl (by kernel_rfl) (by kernel_rfl) (by kernel_rfl) (fun _ _ _ h => h) (yields_pickt (.tmp 86) (.tmp 94) (.const (.bool false)) (.bool true) rfl (by kernel_rfl) (by kernel_rfl) (by kernel_rfl)) ⟨T4, T9, T12⟩ ?_
        simp only [Act.put, List.getElem_toArray, List.getElem_cons_succ, List.getElem_cons_zero, List.setIfInBounds_toArray, List.set_cons_zero, List.set_cons_succ]
        refine wpAnyH_take (i := 37) (v := .bool true) rfl (by kernel_rfl) (by kernel_rfl) (by kernel_rfl) (fun _ _ _ h => h) (yields_move (.tmp 95) (.bool true) rfl (by kernel_rfl) (by kernel_rfl)) ⟨T4, T9, T12⟩ ?_
        simp only [Act.put, List.getElem_toArray, List.getElem_cons_succ, List.getElem_cons_zero, List.setIfInBounds_toArray, List.set_cons_zero, List.set_cons_succ]
        refine wpAnyH_take (i := 38) (v := .int .i64 7) rfl (by kernel_rfl) (by kernel_rfl) (by kernel_rfl) (fun _ _ _ h => h) (yields_move (.tmp 15) (.int .i64 7) rfl (by kernel_rfl) (by kernel_rfl)) ⟨T4, T9, T12⟩ ?_
        simp only [Act.put, List.getElem_toArray, List.getElem_cons_succ, List.getElem_cons_zero, List.setIfInBounds_toArray, List.set_cons_zero, List.set_cons_succ]
        refine wpAnyH_take (i := 39) (v := .bool true) rfl (by kernel_rfl) (by kernel_rfl) (by kernel_rfl) (fun _ _ _ h => h) (yields_eqi 24 (.tmp 97) (.const (.int .i64 7)) (7) (7) true rfl (by kernel_rfl) (by kernel_rfl) (by kernel_rfl) (by simp)) ⟨T4, T9, T12⟩ ?_
        simp only [Act.put, List.getElem_toArray, List.getElem_cons_succ, List.getElem_cons_zero, List.setIfInBounds_toArray, List.set_cons_zero, List.set_cons_succ]
        refine wpAnyH_take (i := 40) (v := .bool true) rfl (by kernel_rfl) (by kernel_rfl) (by kernel_rfl) (fun _ _ _ h => h) (yields_pickt (.tmp 96) (.tmp 98) (.const (.bool false)) (.bool true) rfl (by kernel_rfl) (by kernel_rfl) (by kernel_rfl)) ⟨T4, T9, T12⟩ ?_
        simp only [Act.put, List.getElem_toArray, List.getElem_cons_succ, List.getElem_cons_zero, List.setIfInBounds_toArray, List.set_cons_zero, List.set_cons_succ]
        refine wpAnyH_take (i := 41) (v := .bool true) rfl (by kernel_rfl) (by kernel_rfl) (by kernel_rfl) (fun _ _ _ h => h) (yields_move (.tmp 99) (.bool true) rfl (by kernel_rfl) (by kernel_rfl)) ⟨T4, T9, T12⟩ ?_
        simp only [Act.put, List.getElem_toArray, List.getElem_cons_succ, List.getElem_cons_zero, List.setIfInBounds_toArray, List.set_cons_zero, List.set_cons_succ]
        refine wpAnyH_take (i := 42) (v := .int .i64 1) rfl (by kernel_rfl) (by kernel_rfl) (by kernel_rfl) (fun _ _ _ h => h) (yields_move (.tmp 2) (.int .i64 1) rfl (by kernel_rfl) (by kernel_rfl)) ⟨T4, T9, T12⟩ ?_
        simp only [Act.put, List.getElem_toArray, List.getElem_cons_succ, List.getElem_cons_zero, List.setIfInBounds_toArray, List.set_cons_zero, List.set_cons_succ]
        refine wpAnyH_take (i := 43) (v := .pointer (some ⟨w.heap.size, 18, none⟩)) rfl (by kernel_rfl) (by kernel_rfl) (by kernel_rfl) (fun _ _ _ h => h) (Or.inl ⟨by kernel_rfl, by intro w _; go_simp⟩) ⟨T4, T9, T12⟩ ?_
        simp only [Act.put, List.getElem_toArray, List.getElem_cons_succ, List.getElem_cons_zero, List.setIfInBounds_toArray, List.set_cons_zero, List.set_cons_succ]
        refine wpAnyH_take (i := 44) (v := .pointer (some ⟨w.heap.size, 19, none⟩)) rfl (by kernel_rfl) (by kernel_rfl) (by kernel_rfl) (fun _ _ _ h => h) (Or.inl ⟨by kernel_rfl, by intro w _; go_simp⟩) ⟨T4, T9, T12⟩ ?_
        simp only [Act.put, List.getElem_toArray, List.getElem_cons_succ, List.getElem_cons_zero, List.setIfInBounds_toArray, List.set_cons_zero, List.set_cons_succ]
        refine wpAnyH_take (i := 45) (v := .bool false) rfl (by kernel_rfl) (by kernel_rfl) (by kernel_rfl) (fun _ _ _ h => h) (Or.inl ⟨by kernel_rfl, by intro w' h; have c := h.1.dr 1 (by omega); rw [hgd] at c; go_simp⟩) ⟨T4, T9, T12⟩ ?_
        simp only [Act.put, List.getElem_toArray, List.getElem_cons_succ, List.getElem_cons_zero, List.setIfInBounds_toArray, List.set_cons_zero, List.set_cons_succ]
        refine wpAnyH_take (i := 46) (v := .bool true) rfl (by kernel_rfl) (by kernel_rfl) (by kernel_rfl) (fun _ _ _ h => h) (yields_not (.tmp 104) false true rfl (by kernel_rfl) (by kernel_rfl) (rfl)) ⟨T4, T9, T12⟩ ?_
        simp only [Act.put, List.getElem_toArray, List.getElem_cons_succ, List.getElem_cons_zero, List.setIfInBounds_toArray, List.set_cons_zero, List.set_cons_succ]
        refine wpAnyH_take (i := 47) (v := .bool true) rfl (by kernel_rfl) (by kernel_rfl) (by kernel_rfl) (fun _ _ _ h => h) (yields_pickt (.tmp 100) (.tmp 105) (.const (.bool false)) (.bool true) rfl (by kernel_rfl) (by kernel_rfl) (by kernel_rfl)) ⟨T4, T9, T12⟩ ?_
        simp only [Act.put, List.getElem_toArray, List.getElem_cons_succ, List.getElem_cons_zero, List.setIfInBounds_toArray, List.set_cons_zero, List.set_cons_succ]
        refine wpAnyH_take (i := 48) (v := .bool true) rfl (by kernel_rfl) (by kernel_rfl) (by kernel_rfl) (fun _ _ _ h => h) (yields_assign (.tmp 106) (.bool true) rfl (by kernel_rfl) (by kernel_rfl)) ⟨T4, T9, T12⟩ ?_
        simp only [Act.put, List.getElem_toArray, List.getElem_cons_succ, List.getElem_cons_zero, List.setIfInBounds_toArray, List.set_cons_zero, List.set_cons_succ]
        refine wpAnyH_done (by kernel_rfl) ?_ _
        refine NoPanic.normal ?_
        go_wp2_with fail
        go_ret
        exact ⟨by kernel_rfl, hB⟩
      exact AllReadyH.nil
    exact AllReadyH.nil
  · have hgd : g 2 = false := hgd
    have hpos : 0 < (freeL (rowF f 2)).length := hpos
    obtain ⟨K, hK⟩ : ∃ K, drawnL (freeL (rowF f 2)) a3 = K := ⟨_, rfl⟩
    have hm := freeL_mem _ _ (drawnL_mem (freeL (rowF f 2)) a3 hpos)
    rw [hK] at hm
    obtain ⟨hm6, hm0⟩ := hm
    have hK6 : (K : Int) < 6 := by omega
    have hK0 : (0 : Int) ≤ (K : Int) := by omega
    have h0 : f (12 + K) = 0 := hm0
    have h0b : (f (12 + K) == 0) = true := by simpa using h0
    have hF : wfF (upd f (12 + K) (a1 + 1)) := fun i hi => by
      unfold upd
      by_cases e : i = 12 + K
      · rw [if_pos e]; simp [Lit.wf, IntKind.min, IntKind.max, IntKind.bits, IntKind.signed]; omega
      · rw [if_neg e]; exact w0 i hi
    have hFn : upd f (12 + K) (a1 + 1) (12 + K) = a1 + 1 := upd_at _ _ _
    have hgF : goodP (upd f (12 + K) (a1 + 1)) = true := goodP_upd hgp _ _ (by omega) (by omega)
    have C1 : ∀ w, Calls Try.prog 20 #[plv f g, .int .i64 a1, .int .i64 2, .int .i64 a3] w fun e w' => e = .returned (.tuple #[plv (upd f (12 + K) (a1 + 1)) g, .int .i64 (K : Int), .int .i64 0]) ∧ Below w.heap.size w w' := fun w => by
      have := take_any f g a1 2 a3 w3 w
      have e : takeS f g a1 2 a3 = _ := takeS_yes (a := 2) he
      rw [e, hK] at this
      simpa using this
    have C2 : ∀ w, Calls Try.prog 29 #[plv (upd f (12 + K) (a1 + 1)) g, .int .i64 a1, .int .i64 2, .int .i64 (K : Int)] w fun e w' => e = .returned (.tuple #[plv f g, .int .i64 0]) ∧ Below w.heap.size w w' := fun w => by
      have := give_any (upd f (12 + K) (a1 + 1)) g a1 2 K w
      have e : giveS (upd f (12 + K) (a1 + 1)) g a1 2 K = _ := giveS_yes (a := 2) (giveE_ok (a := 2) hgF (by omega) hm6 (inR_true hs.1 hs.2) (by simpa using hFn))
      have e2 : upd (upd f (12 + K) (a1 + 1)) (6 * 2 + K) 0 = f := by
        have := upd_back (x := a1 + 1) h0
        simpa using this
      rw [e, e2] at this
      exact this
    have C4 : ∀ w, Calls Try.prog 29 #[plv (upd f (12 + K) (a1 + 1)) g, .int .i64 q, .int .i64 2, .int .i64 (K : Int)] w fun e w' => e = .returned (.tuple #[plv (upd f (12 + K) (a1 + 1)) g, .int .i64 7]) ∧ Below w.heap.size w w' := fun w => by
      have := give_any (upd f (12 + K) (a1 + 1)) g q 2 K w
      have e : giveS (upd f (12 + K) (a1 + 1)) g q 2 K = _ := giveS_no (giveE_none hgF (fun h => hqn (by
        have h2 := h.2.2
        rw [Int.toNat_natCast] at h2
        have h3 : upd f (12 + K) (a1 + 1) (12 + K) = q + 1 := by simpa using h2
        rw [hFn] at h3; exact h3))) (by omega)
      rw [e] at this
      exact this
    have C5 := fun w => left_any f g 2 w
    have C6 := fun w => left_any (upd f (12 + K) (a1 + 1)) g 2 w
    have hl : leftP f 2 - leftP (upd f (12 + K) (a1 + 1)) 2 = 1 := by
      have := left_upd f 2 K (a1 + 1) (by omega) hm6 (by omega) (by simpa using h0)
      simpa using this
    clear hgp hs hpos hm0 h0 he hK hgF w3
    have hFb : (upd f (12 + K) (a1 + 1) (12 + K) == a1 + 1) = true := by simpa using hFn
    clear hFn
    generalize upd f (12 + K) (a1 + 1) = F at *
    generalize leftP f 2 = lf at *
    generalize leftP F 2 = lg at *
    have hlb : (lf - lg == 1) = true := by simpa using hl
    have hlw : wrap64 (lf - lg) = lf - lg := by rw [hl]; unfold wrap64; rfl
    have hlx : IntKind.i64.wrap (lf - lg) = lf - lg := by rw [hl]; rfl
    clear hl
    unfold plv at *
    go_enter Try.func6, Try.ntmps6
    go_upto_region 5 with (first | (refine wpList_load_pool _ rfl ?_ _ rfl f g T4 ?_; · kernel_rfl) | (refine wpList_load_pool _ rfl ?_ _ rfl F g T9 ?_; · kernel_rfl) | (go_at_call 20; go_fit (C1 _); rintro e w' ⟨rfl, hb⟩; (try replace hb := below_undr' hb); replace T4 := T4.below hb; (try replace T9 := T9.below hb); (try replace T12 := T12.below hb); replace hB := hB.trans (hb.mono hB.size)) | (go_at_call 29; go_fit (C2 _); rintro e w' ⟨rfl, hb⟩; (try replace hb := below_undr' hb); replace T4 := T4.below hb; (try replace T9 := T9.below hb); (try replace T12 := T12.below hb); replace hB := hB.trans (hb.mono hB.size)) | (refine wpList_alloc_pool rfl rfl ?_; intro b12 w8 eb12 T12 hk8 hb8 hs8; have nb12T4 := (hk8 _ _ T4).2; replace T4 := (hk8 _ _ T4).1; have nb12T9 := (hk8 _ _ T9).2; replace T9 := (hk8 _ _ T9).1; replace hB := hb8 _ _ hB hB.size; have lb12 : w.heap.size ≤ b12 := (by rw [eb12]; have := T4.lt; omega); clear hs8 hk8 hb8 eb12) | (refine wpList_alloc_pool rfl rfl ?_; intro b9 w8 eb9 T9 hk8 hb8 hs8; have nb9T4 := (hk8 _ _ T4).2; replace T4 := (hk8 _ _ T4).1; replace hB := hb8 _ _ hB hB.size; have lb9 : w.heap.size ≤ b9 := (by rw [eb9]; have := T4.lt; omega); clear hs8 hk8 hb8 eb9) | (refine wpList_store_pool rfl _ _ rfl b12 rfl f g rfl (pc (fun _ => 0) (fun _ => false)) T12 rfl ?_; intro w8 T12 hs8 hk8 hb8; replace T4 := hk8 _ _ nb12T4 T4; replace T9 := hk8 _ _ nb12T9 T9; replace hB := hb8 _ _ lb12 hB; clear hs8 hk8 hb8) | (refine wpList_store_pool rfl _ _ rfl b9 rfl F g rfl (pc (fun _ => 0) (fun _ => false)) T9 rfl ?_; intro w8 T9 hs8 hk8 hb8; replace T4 := hk8 _ _ nb9T4 T4; replace hB := hb8 _ _ lb9 hB; clear hs8 hk8 hb8) | (go_at_call 36; refine (poolsKeep_any _).mono ?_; rintro e w' ⟨rfl, hb⟩; (try replace hb := below_undr' hb); replace T4 := T4.below hb; (try replace T9 := T9.below hb); (try replace T12 := T12.below hb); replace hB := hB.trans (hb.mono hB.size)))
    go_cut [15] (fun s15 wx => s15 = .int .i64 7 ∧ PRow wx w.heap.size (pc f g) ∧ PRow wx b9 (pc F g) ∧ PRow wx b12 (pc f g) ∧ Below w.heap.size w wx)
    case first =>
      refine wp_region_noPanic ?_
      refine wp_region_held_drew (S := fun w' => PRow w' w.heap.size (pc f g) ∧ PRow w' b9 (pc F g) ∧ PRow w' b12 (pc f g)) (by kernel_rfl) ⟨T4, T9, T12⟩ (fun _ => ?_)
      refine wpAnyH_take (i := 0) (v := .agg (pc F g)) rfl (by kernel_rfl) (by kernel_rfl) (by kernel_rfl) (fun _ _ _ h => h) (yields_load_pool (.tmp 9) rfl (by kernel_rfl) b9 (by kernel_rfl) F g (fun _ h => h.2.1)) ⟨T4, T9, T12⟩ ?_
      simp only [Act.put, List.getElem_toArray, List.getElem_cons_succ, List.getElem_cons_zero, List.setIfInBounds_toArray, List.set_cons_zero, List.set_cons_succ]
      refine wpAnyH_take (i := 1) (v := .int .i64 a1) rfl (by kernel_rfl) (by kernel_rfl) (by kernel_rfl) (fun _ _ _ h => h) (yields_move (.tmp 1) (.int .i64 a1) rfl (by kernel_rfl) (by kernel_rfl)) ⟨T4, T9, T12⟩ ?_
      simp only [Act.put, List.getElem_toArray, List.getElem_cons_succ, List.getElem_cons_zero, List.setIfInBounds_toArray, List.set_cons_zero, List.set_cons_succ]
      refine wpAnyH_take (i := 2) (v := .int .i64 (a1 + 1)) rfl (by kernel_rfl) (by kernel_rfl) (by kernel_rfl) (fun _ _ _ h => h) (Or.inl ⟨by kernel_rfl, by intro w _; go_simp⟩) ⟨T4, T9, T12⟩ ?_
      simp only [Act.put, List.getElem_toArray, List.getElem_cons_succ, List.getElem_cons_zero, List.setIfInBounds_toArray, List.set_cons_zero, List.set_cons_succ]
      refine wpAnyH_take (i := 4) (v := .int .i64 2) rfl (by kernel_rfl) (by kernel_rfl) (by kernel_rfl) (fun _ _ _ h => h) (yields_move (.tmp 2) (.int .i64 2) rfl (by kernel_rfl) (by kernel_rfl)) ⟨T4, T9, T12⟩ ?_
      simp only [Act.put, List.getElem_toArray, List.getElem_cons_succ, List.getElem_cons_zero, List.setIfInBounds_toArray, List.set_cons_zero, List.set_cons_succ]
      refine wpAnyH_take (i := 5) (v := .int .i64 (K : Int)) rfl (by kernel_rfl) (by kernel_rfl) (by kernel_rfl) (fun _ _ _ h => h) (yields_move (.tmp 10) (.int .i64 (K : Int)) rfl (by kernel_rfl) (by kernel_rfl)) ⟨T4, T9, T12⟩ ?_
      simp only [Act.put, List.getElem_toArray, List.getElem_cons_succ, List.getElem_cons_zero, List.setIfInBounds_toArray, List.set_cons_zero, List.set_cons_succ]
      refine wpAnyH_ready (rs := [3, 10]) (by kernel_rfl) (by simp) ?_
      refine AllReadyH.cons rfl (fun K hK => ?_) ?_
      · go_simp
        go_fit (C3 _); rintro e w' ⟨rfl, rfl⟩
        go_wp2_with fail
        refine hK.out _ _ ⟨T4, T9, T12⟩ (fun _ => ?_)
        clear hK K
        try simp only [Act.put, List.getElem_toArray, List.getElem_cons_succ, List.getElem_cons_zero, List.setIfInBounds_toArray, List.set_cons_zero, List.set_cons_succ]
        refine wpAnyH_ready (rs := [6, 10]) (by kernel_rfl) (by simp) ?_
        refine AllReadyH.cons rfl (fun K hK => ?_) ?_
        · go_simp
          go_fit (C4 _); rintro e w' ⟨rfl, hb⟩; (try replace hb := below_undr' hb); replace T4 := T4.below hb; replace T9 := T9.below hb; replace T12 := T12.below hb; (try replace T14 := T14.below hb); replace hB := hB.trans (hb.mono hB.size)
          go_wp2_with fail
          refine hK.out _ _ ⟨T4, T9, T12⟩ (fun _ => ?_)
          clear hK K
          try simp only [Act.put, List.getElem_toArray, List.getElem_cons_succ, List.getElem_cons_zero, List.setIfInBounds_toArray, List.set_cons_zero, List.set_cons_succ]
          refine wpAnyH_take (i := 7) (v := .tuple #[.agg (pc F g), .int .i64 7]) rfl (by kernel_rfl) (by kernel_rfl) (by kernel_rfl) (fun _ _ _ h => h) (yields_move (.tmp 56) (.tuple #[.agg (pc F g), .int .i64 7]) rfl (by kernel_rfl) (by kernel_rfl)) ⟨T4, T9, T12⟩ ?_
          simp only [Act.put, List.getElem_toArray, List.getElem_cons_succ, List.getElem_cons_zero, List.setIfInBounds_toArray, List.set_cons_zero, List.set_cons_succ]
          refine wpAnyH_take (i := 8) (v := .agg (pc F g)) rfl (by kernel_rfl) (by kernel_rfl) (by kernel_rfl) (fun _ _ _ h => h) (Or.inl ⟨by kernel_rfl, by intro w _; go_simp⟩) ⟨T4, T9, T12⟩ ?_
          simp only [Act.put, List.getElem_toArray, List.getElem_cons_succ, List.getElem_cons_zero, List.setIfInBounds_toArray, List.set_cons_zero, List.set_cons_succ]
          refine wpAnyH_take (i := 9) (v := .int .i64 7) rfl (by kernel_rfl) (by kernel_rfl) (by kernel_rfl) (fun _ _ _ h => h) (Or.inl ⟨by kernel_rfl, by intro w _; go_simp⟩) ⟨T4, T9, T12⟩ ?_
          simp only [Act.put, List.getElem_toArray, List.getElem_cons_succ, List.getElem_cons_zero, List.setIfInBounds_toArray, List.set_cons_zero, List.set_cons_succ]
          refine wpAnyH_ready (rs := [10]) (by kernel_rfl) (by simp) ?_
          refine AllReadyH.cons rfl (fun K hK => ?_) ?_
          · rw [if_pos (by kernel_rfl)]
            refine wp_alloc_pool rfl ?_; intro b14 w8 e14 T14 hk8 hb8 hs8; have n144 := (hk8 _ _ T4).2; have n149 := (hk8 _ _ T9).2; have n1412 := (hk8 _ _ T12).2; replace T4 := (hk8 _ _ T4).1; replace T9 := (hk8 _ _ T9).1; replace T12 := (hk8 _ _ T12).1; (first | (replace hB := hb8 _ _ hB hB.size) | (replace hB := hb8 _ _ (below_drew hB) hB.size)); have l14 : w.heap.size ≤ b14 := (by rw [e14]; have := T4.lt; omega); clear hs8 hk8 hb8 e14
            refine hK.out _ _ ⟨T4, T9, T12⟩ (fun _ => ?_)
            clear hK K
            try simp only [Act.put, List.getElem_toArray, List.getElem_cons_succ, List.getElem_cons_zero, List.setIfInBounds_toArray, List.set_cons_zero, List.set_cons_succ]
            refine wpAnyH_ready (rs := [11]) (by kernel_rfl) (by simp) ?_
            refine AllReadyH.cons rfl (fun K hK => ?_) ?_
            · rw [if_pos (by kernel_rfl)]
              refine wp_store_pool _ _ rfl b14 rfl F g rfl _ T14 rfl ?_; intro w8 T14 hs8 hk8 hb8; replace T4 := hk8 _ _ n144 T4; replace T9 := hk8 _ _ n149 T9; replace T12 := hk8 _ _ n1412 T12; (first | (replace hB := hb8 _ _ l14 hB) | (replace hB := hb8 _ _ l14 (below_drew hB))); clear hs8 hk8 hb8
              refine hK.out _ _ ⟨T4, T9, T12⟩ (fun _ => ?_)
              clear hK K
              try simp only [Act.put, List.getElem_toArray, List.getElem_cons_succ, List.getElem_cons_zero, List.setIfInBounds_toArray, List.set_cons_zero, List.set_cons_succ]
              refine wpAnyH_take (i := 12) (v := .int .i64 7) rfl (by kernel_rfl) (by kernel_rfl) (by kernel_rfl) (fun _ _ _ h => h) (yields_assign (.tmp 58) (.int .i64 7) rfl (by kernel_rfl) (by kernel_rfl)) ⟨T4, T9, T12⟩ ?_
              simp only [Act.put, List.getElem_toArray, List.getElem_cons_succ, List.getElem_cons_zero, List.setIfInBounds_toArray, List.set_cons_zero, List.set_cons_succ]
              refine wpAnyH_done (by kernel_rfl) ?_ _
              refine NoPanic.normal ?_
              go_wp2_with fail
              go_meet
              case rel => exact ⟨rfl, T4, T9, T12, hB⟩
            exact AllReadyH.nil
          exact AllReadyH.nil
        refine AllReadyH.cons rfl (fun K hK => ?_) ?_
        · rw [if_pos (by kernel_rfl)]
          refine wp_alloc_pool rfl ?_; intro b14 w8 e14 T14 hk8 hb8 hs8; have n144 := (hk8 _ _ T4).2; have n149 := (hk8 _ _ T9).2; have n1412 := (hk8 _ _ T12).2; replace T4 := (hk8 _ _ T4).1; replace T9 := (hk8 _ _ T9).1; replace T12 := (hk8 _ _ T12).1; (first | (replace hB := hb8 _ _ hB hB.size) | (replace hB := hb8 _ _ (below_drew hB) hB.size)); have l14 : w.heap.size ≤ b14 := (by rw [e14]; have := T4.lt; omega); clear hs8 hk8 hb8 e14
          refine hK.out _ _ ⟨T4, T9, T12⟩ (fun _ => ?_)
          clear hK K
          try simp only [Act.put, List.getElem_toArray, List.getElem_cons_succ, List.getElem_cons_zero, List.setIfInBounds_toArray, List.set_cons_zero, List.set_cons_succ]
          refine wpAnyH_ready (rs := [6]) (by kernel_rfl) (by simp) ?_
          refine AllReadyH.cons rfl (fun K hK => ?_) ?_
          · go_simp
            go_fit (C4 _); rintro e w' ⟨rfl, hb⟩; (try replace hb := below_undr' hb); replace T4 := T4.below hb; replace T9 := T9.below hb; replace T12 := T12.below hb; (try replace T14 := T14.below hb); replace hB := hB.trans (hb.mono hB.size)
            go_wp2_with fail
            refine hK.out _ _ ⟨T4, T9, T12⟩ (fun _ => ?_)
            clear hK K
            try simp only [Act.put, List.getElem_toArray, List.getElem_cons_succ, List.getElem_cons_zero, List.setIfInBounds_toArray, List.set_cons_zero, List.set_cons_succ]
            refine wpAnyH_take (i := 7) (v := .tuple #[.agg (pc F g), .int .i64 7]) rfl (by kernel_rfl) (by kernel_rfl) (by kernel_rfl) (fun _ _ _ h => h) (yields_move (.tmp 56) (.tuple #[.agg (pc F g), .int .i64 7]) rfl (by kernel_rfl) (by kernel_rfl)) ⟨T4, T9, T12⟩ ?_
            simp only [Act.put, List.getElem_toArray, List.getElem_cons_succ, List.getElem_cons_zero, List.setIfInBounds_toArray, List.set_cons_zero, List.set_cons_succ]
            refine wpAnyH_take (i := 8) (v := .agg (pc F g)) rfl (by kernel_rfl) (by kernel_rfl) (by kernel_rfl) (fun _ _ _ h => h) (Or.inl ⟨by kernel_rfl, by intro w _; go_simp⟩) ⟨T4, T9, T12⟩ ?_
            simp only [Act.put, List.getElem_toArray, List.getElem_cons_succ, List.getElem_cons_zero, List.setIfInBounds_toArray, List.set_cons_zero, List.set_cons_succ]
            refine wpAnyH_take (i := 9) (v := .int .i64 7) rfl (by kernel_rfl) (by kernel_rfl) (by kernel_rfl) (fun _ _ _ h => h) (Or.inl ⟨by kernel_rfl, by intro w _; go_simp⟩) ⟨T4, T9, T12⟩ ?_
            simp only [Act.put, List.getElem_toArray, List.getElem_cons_succ, List.getElem_cons_zero, List.setIfInBounds_toArray, List.set_cons_zero, List.set_cons_succ]
            refine wpAnyH_ready (rs := [11]) (by kernel_rfl) (by simp) ?_
            refine AllReadyH.cons rfl (fun K hK => ?_) ?_
            · rw [if_pos (by kernel_rfl)]
              refine wp_store_pool _ _ rfl b14 rfl F g rfl _ T14 rfl ?_; intro w8 T14 hs8 hk8 hb8; replace T4 := hk8 _ _ n144 T4; replace T9 := hk8 _ _ n149 T9; replace T12 := hk8 _ _ n1412 T12; (first | (replace hB := hb8 _ _ l14 hB) | (replace hB := hb8 _ _ l14 (below_drew hB))); clear hs8 hk8 hb8
              refine hK.out _ _ ⟨T4, T9, T12⟩ (fun _ => ?_)
              clear hK K
              try simp only [Act.put, List.getElem_toArray, List.getElem_cons_succ, List.getElem_cons_zero, List.setIfInBounds_toArray, List.set_cons_zero, List.set_cons_succ]
              refine wpAnyH_take (i := 12) (v := .int .i64 7) rfl (by kernel_rfl) (by kernel_rfl) (by kernel_rfl) (fun _ _ _ h => h) (yields_assign (.tmp 58) (.int .i64 7) rfl (by kernel_rfl) (by kernel_rfl)) ⟨T4, T9, T12⟩ ?_
              simp only [Act.put, List.getElem_toArray, List.getElem_cons_succ, List.getElem_cons_zero, List.setIfInBounds_toArray, List.set_cons_zero, List.set_cons_succ]
              refine wpAnyH_done (by kernel_rfl) ?_ _
              refine NoPanic.normal ?_
              go_wp2_with fail
              go_meet
              case rel => exact ⟨rfl, T4, T9, T12, hB⟩
            exact AllReadyH.nil
          exact AllReadyH.nil
        exact AllReadyH.nil
      refine AllReadyH.cons rfl (fun K hK => ?_) ?_
      · rw [if_pos (by kernel_rfl)]
        refine wp_alloc_pool rfl ?_; intro b14 w8 e14 T14 hk8 hb8 hs8; have n144 := (hk8 _ _ T4).2; have n149 := (hk8 _ _ T9).2; have n1412 := (hk8 _ _ T12).2; replace T4 := (hk8 _ _ T4).1; replace T9 := (hk8 _ _ T9).1; replace T12 := (hk8 _ _ T12).1; (first | (replace hB := hb8 _ _ hB hB.size) | (replace hB := hb8 _ _ (below_drew hB) hB.size)); have l14 : w.heap.size ≤ b14 := (by rw [e14]; have := T4.lt; omega); clear hs8 hk8 hb8 e14
        refine hK.out _ _ ⟨T4, T9, T12⟩ (fun _ => ?_)
        clear hK K
        try simp only [Act.put, List.getElem_toArray, List.getElem_cons_succ, List.getElem_cons_zero, List.setIfInBounds_toArray, List.set_cons_zero, List.set_cons_succ]
        refine wpAnyH_ready (rs := [3]) (by kernel_rfl) (by simp) ?_
        refine AllReadyH.cons rfl (fun K hK => ?_) ?_
        · go_simp
          go_fit (C3 _); rintro e w' ⟨rfl, rfl⟩
          go_wp2_with fail
          refine hK.out _ _ ⟨T4, T9, T12⟩ (fun _ => ?_)
          clear hK K
          try simp only [Act.put, List.getElem_toArray, List.getElem_cons_succ, List.getElem_cons_zero, List.setIfInBounds_toArray, List.set_cons_zero, List.set_cons_succ]
          refine wpAnyH_ready (rs := [6]) (by kernel_rfl) (by simp) ?_
          refine AllReadyH.cons rfl (fun K hK => ?_) ?_
          · go_simp
            go_fit (C4 _); rintro e w' ⟨rfl, hb⟩; (try replace hb := below_undr' hb); replace T4 := T4.below hb; replace T9 := T9.below hb; replace T12 := T12.below hb; (try replace T14 := T14.below hb); replace hB := hB.trans (hb.mono hB.size)
            go_wp2_with fail
            refine hK.out _ _ ⟨T4, T9, T12⟩ (fun _ => ?_)
            clear hK K
            try simp only [Act.put, List.getElem_toArray, List.getElem_cons_succ, List.getElem_cons_zero, List.setIfInBounds_toArray, List.set_cons_zero, List.set_cons_succ]
            refine wpAnyH_take (i := 7) (v := .tuple #[.agg (pc F g), .int .i64 7]) rfl (by kernel_rfl) (by kernel_rfl) (by kernel_rfl) (fun _ _ _ h => h) (yields_move (.tmp 56) (.tuple #[.agg (pc F g), .int .i64 7]) rfl (by kernel_rfl) (by kernel_rfl)) ⟨T4, T9, T12⟩ ?_
            simp only [Act.put, List.getElem_toArray, List.getElem_cons_succ, List.getElem_cons_zero, List.setIfInBounds_toArray, List.set_cons_zero, List.set_cons_succ]
            refine wpAnyH_take (i := 8) (v := .agg (pc F g)) rfl (by kernel_rfl) (by kernel_rfl) (by kernel_rfl) (fun _ _ _ h => h) (Or.inl ⟨by kernel_rfl, by intro w _; go_simp⟩) ⟨T4, T9, T12⟩ ?_
            simp only [Act.put, List.getElem_toArray, List.getElem_cons_succ, List.getElem_cons_zero, List.setIfInBounds_toArray, List.set_cons_zero, List.set_cons_succ]
            refine wpAnyH_take (i := 9) (v := .int .i64 7) rfl (by kernel_rfl) (by kernel_rfl) (by kernel_rfl) (fun _ _ _ h => h) (Or.inl ⟨by kernel_rfl, by intro w _; go_simp⟩) ⟨T4, T9, T12⟩ ?_
            simp only [Act.put, List.getElem_toArray, List.getElem_cons_succ, List.getElem_cons_zero, List.setIfInBounds_toArray, List.set_cons_zero, List.set_cons_succ]
            refine wpAnyH_ready (rs := [11]) (by kernel_rfl) (by simp) ?_
            refine AllReadyH.cons rfl (fun K hK => ?_) ?_
            · rw [if_pos (by kernel_rfl)]
              refine wp_store_pool _ _ rfl b14 rfl F g rfl _ T14 rfl ?_; intro w8 T14 hs8 hk8 hb8; replace T4 := hk8 _ _ n144 T4; replace T9 := hk8 _ _ n149 T9; replace T12 := hk8 _ _ n1412 T12; (first | (replace hB := hb8 _ _ l14 hB) | (replace hB := hb8 _ _ l14 (below_drew hB))); clear hs8 hk8 hb8
              refine hK.out _ _ ⟨T4, T9, T12⟩ (fun _ => ?_)
              clear hK K
              try simp only [Act.put, List.getElem_toArray, List.getElem_cons_succ, List.getElem_cons_zero, List.setIfInBounds_toArray, List.set_cons_zero, List.set_cons_succ]
              refine wpAnyH_take (i := 12) (v := .int .i64 7) rfl (by kernel_rfl) (by kernel_rfl) (by kernel_rfl) (fun _ _ _ h => h) (yields_assign (.tmp 58) (.int .i64 7) rfl (by kernel_rfl) (by kernel_rfl)) ⟨T4, T9, T12⟩ ?_
              simp only [Act.put, List.getElem_toArray, List.getElem_cons_succ, List.getElem_cons_zero, List.setIfInBounds_toArray, List.set_cons_zero, List.set_cons_succ]
              refine wpAnyH_done (by kernel_rfl) ?_ _
              refine NoPanic.normal ?_
              go_wp2_with fail
              go_meet
              case rel => exact ⟨rfl, T4, T9, T12, hB⟩
            exact AllReadyH.nil
          exact AllReadyH.nil
        exact AllReadyH.nil
      exact AllReadyH.nil
    case rest =>
    clear T4 T9 T12 hB
    obtain ⟨rfl, T4, T9, T12, hB⟩ := hcut
    go_upto_region 6 with fail
    refine wp_region_noPanic ?_
    refine wp_region_held_drew (S := fun w' => PRow w' w.heap.size (pc f g) ∧ PRow w' b9 (pc F g) ∧ PRow w' b12 (pc f g)) (by kernel_rfl) ⟨T4, T9, T12⟩ (fun _ => ?_)
    refine wpAnyH_take (i := 0) (v := .int .i64 2) rfl (by kernel_rfl) (by kernel_rfl) (by kernel_rfl) (fun _ _ _ h => h) (yields_move (.tmp 2) (.int .i64 2) rfl (by kernel_rfl) (by kernel_rfl)) ⟨T4, T9, T12⟩ ?_
    simp only [Act.put, List.getElem_toArray, List.getElem_cons_succ, List.getElem_cons_zero, List.setIfInBounds_toArray, List.set_cons_zero, List.set_cons_succ]
    refine wpAnyH_take (i := 1) (v := .int .i64 (K : Int)) rfl (by kernel_rfl) (by kernel_rfl) (by kernel_rfl) (fun _ _ _ h => h) (yields_move (.tmp 10) (.int .i64 (K : Int)) rfl (by kernel_rfl) (by kernel_rfl)) ⟨T4, T9, T12⟩ ?_
    simp only [Act.put, List.getElem_toArray, List.getElem_cons_succ, List.getElem_cons_zero, List.setIfInBounds_toArray, List.set_cons_zero, List.set_cons_succ]
    refine wpAnyH_take (i := 2) (v := .pointer (some ⟨w.heap.size, 0, none⟩)) rfl (by kernel_rfl) (by kernel_rfl) (by kernel_rfl) (fun _ _ _ h => h) (Or.inl ⟨by kernel_rfl, by intro w _; go_simp⟩) ⟨T4, T9, T12⟩ ?_
    simp only [Act.put, List.getElem_toArray, List.getElem_cons_succ, List.getElem_cons_zero, List.setIfInBounds_toArray, List.set_cons_zero, List.set_cons_succ]
    refine wpAnyH_take (i := 3) (v := .pointer (some ⟨w.heap.size, 12, none⟩)) rfl (by kernel_rfl) (by kernel_rfl) (by kernel_rfl) (fun _ _ _ h => h) (Or.inl ⟨by kernel_rfl, by intro w _; go_simp⟩) ⟨T4, T9, T12⟩ ?_
    simp only [Act.put, List.getElem_toArray, List.getElem_cons_succ, List.getElem_cons_zero, List.setIfInBounds_toArray, List.set_cons_zero, List.set_cons_succ]
    refine wpAnyH_take (i := 4) (v := .pointer (some ⟨w.heap.size, 12 + K, none⟩)) rfl (by kernel_rfl) (by kernel_rfl) (by kernel_rfl) (fun _ _ _ h => h) (Or.inl ⟨by kernel_rfl, by intro w _; go_simp⟩) ⟨T4, T9, T12⟩ ?_
    simp only [Act.put, List.getElem_toArray, List.getElem_cons_succ, List.getElem_cons_zero, List.setIfInBounds_toArray, List.set_cons_zero, List.set_cons_succ]
    refine wpAnyH_take (i := 5) (v := .int .i64 (f (12 + K))) rfl (by kernel_rfl) (by kernel_rfl) (by kernel_rfl) (fun _ _ _ h => h) (Or.inl ⟨by kernel_rfl, by intro w' h; have c := h.1.own (12 + K) (by omega); go_simp⟩) ⟨T4, T9, T12⟩ ?_
    simp only [Act.put, List.getElem_toArray, List.getElem_cons_succ, List.getElem_cons_zero, List.setIfInBounds_toArray, List.set_cons_zero, List.set_cons_succ]
    refine wpAnyH_take (i := 6) (v := .bool true) rfl (by kernel_rfl) (by kernel_rfl) (by kernel_rfl) (fun _ _ _ h => h) (yields_eqi 3 (.tmp 64) (.const (.int .i64 0)) ((f (12 + K))) (0) true rfl (by kernel_rfl) (by kernel_rfl) (by kernel_rfl) (h0b)) ⟨T4, T9, T12⟩ ?_
    simp only [Act.put, List.getElem_toArray, List.getElem_cons_succ, List.getElem_cons_zero, List.setIfInBounds_toArray, List.set_cons_zero, List.set_cons_succ]
    refine wpAnyH_take (i := 7) (v := .bool true) rfl (by kernel_rfl) (by kernel_rfl) (by kernel_rfl) (fun _ _ _ h => h) (yields_move (.tmp 65) (.bool true) rfl (by kernel_rfl) (by kernel_rfl)) ⟨T4, T9, T12⟩ ?_
    simp only [Act.put, List.getElem_toArray, List.getElem_cons_succ, List.getElem_cons_zero, List.setIfInBounds_toArray, List.set_cons_zero, List.set_cons_succ]
    refine wpAnyH_take (i := 8) (v := .int .i64 2) rfl (by kernel_rfl) (by kernel_rfl) (by kernel_rfl) (fun _ _ _ h => h) (yields_move (.tmp 2) (.int .i64 2) rfl (by kernel_rfl) (by kernel_rfl)) ⟨T4, T9, T12⟩ ?_
    simp only [Act.put, List.getElem_toArray, List.getElem_cons_succ, List.getElem_cons_zero, List.setIfInBounds_toArray, List.set_cons_zero, List.set_cons_succ]
    refine wpAnyH_take (i := 9) (v := .int .i64 (K : Int)) rfl (by kernel_rfl) (by kernel_rfl) (by kernel_rfl) (fun _ _ _ h => h) (yields_move (.tmp 10) (.int .i64 (K : Int)) rfl (by kernel_rfl) (by kernel_rfl)) ⟨T4, T9, T12⟩ ?_
    simp only [Act.put, List.getElem_toArray, List.getElem_cons_succ, List.getElem_cons_zero, List.setIfInBounds_toArray, List.set_cons_zero, List.set_cons_succ]
    refine wpAnyH_take (i := 10) (v := .pointer (some ⟨b9, 0, none⟩)) rfl (by kernel_rfl) (by kernel_rfl) (by kernel_rfl) (fun _ _ _ h => h) (Or.inl ⟨by kernel_rfl, by intro w _; go_simp⟩) ⟨T4, T9, T12⟩ ?_
    simp only [Act.put, List.getElem_toArray, List.getElem_cons_succ, List.getElem_cons_zero, List.setIfInBounds_toArray, List.set_cons_zero, List.set_cons_succ]
    refine wpAnyH_take (i := 11) (v := .pointer (some ⟨b9, 12, none⟩)) rfl (by kernel_rfl) (by kernel_rfl) (by kernel_rfl) (fun _ _ _ h => h) (Or.inl ⟨by kernel_rfl, by intro w _; go_simp⟩) ⟨T4, T9, T12⟩ ?_
    simp only [Act.put, List.getElem_toArray, List.getElem_cons_succ, List.getElem_cons_zero, List.setIfInBounds_toArray, List.set_cons_zero, List.set_cons_succ]
    refine wpAnyH_take (i := 12) (v := .pointer (some ⟨b9, 12 + K, none⟩)) rfl (by kernel_rfl) (by kernel_rfl) (by kernel_rfl) (fun _ _ _ h => h) (Or.inl ⟨by kernel_rfl, by intro w _; go_simp⟩) ⟨T4, T9, T12⟩ ?_
    simp only [Act.put, List.getElem_toArray, List.getElem_cons_succ, List.getElem_cons_zero, List.setIfInBounds_toArray, List.set_cons_zero, List.set_cons_succ]
    refine wpAnyH_take (i := 13) (v := .int .i64 (F (12 + K))) rfl (by kernel_rfl) (by kernel_rfl) (by kernel_rfl) (fun _ _ _ h => h) (Or.inl ⟨by kernel_rfl, by intro w' h; have c := h.2.1.own (12 + K) (by omega); go_simp⟩) ⟨T4, T9, T12⟩ ?_
    simp only [Act.put, List.getElem_toArray, List.getElem_cons_succ, List.getElem_cons_zero, List.setIfInBounds_toArray, List.set_cons_zero, List.set_cons_succ]
    refine wpAnyH_take (i := 14) (v := .int .i64 a1) rfl (by kernel_rfl) (by kernel_rfl) (by kernel_rfl) (fun _ _ _ h => h) (yields_move (.tmp 1) (.int .i64 a1) rfl (by kernel_rfl) (by kernel_rfl)) ⟨T4, T9, T12⟩ ?_
    simp only [Act.put, List.getElem_toArray, List.getElem_cons_succ, List.getElem_cons_zero, List.setIfInBounds_toArray, List.set_cons_zero, List.set_cons_succ]
    refine wpAnyH_take (i := 15) (v := .int .i64 (a1 + 1)) rfl (by kernel_rfl) (by kernel_rfl) (by kernel_rfl) (fun _ _ _ h => h) (Or.inl ⟨by kernel_rfl, by intro w _; go_simp⟩) ⟨T4, T9, T12⟩ ?_
    simp only [Act.put, List.getElem_toArray, List.getElem_cons_succ, List.getElem_cons_zero, List.setIfInBounds_toArray, List.set_cons_zero, List.set_cons_succ]
    refine wpAnyH_take (i := 16) (v := .bool true) rfl (by kernel_rfl) (by kernel_rfl) (by kernel_rfl) (fun _ _ _ h => h) (yields_eqi 3 (.tmp 72) (.tmp 74) ((F (12 + K))) ((a1 + 1)) true rfl (by kernel_rfl) (by kernel_rfl) (by kernel_rfl) (hFb)) ⟨T4, T9, T12⟩ ?_
    simp only [Act.put, List.getElem_toArray, List.getElem_cons_succ, List.getElem_cons_zero, List.setIfInBounds_toArray, List.set_cons_zero, List.set_cons_succ]
    refine wpAnyH_take (i := 17) (v := .bool true) rfl (by kernel_rfl) (by kernel_rfl) (by kernel_rfl) (fun _ _ _ h => h) (yields_pickt (.tmp 66) (.tmp 75) (.const (.bool false)) (.bool true) rfl (by kernel_rfl) (by kernel_rfl) (by kernel_rfl)) ⟨T4, T9, T12⟩ ?_
    simp only [Act.put, List.getElem_toArray, List.getElem_cons_succ, List.getElem_cons_zero, List.setIfInBounds_toArray, List.set_cons_zero, List.set_cons_succ]
    refine wpAnyH_take (i := 18) (v := .bool true) rfl (by kernel_rfl) (by kernel_rfl) (by kernel_rfl) (fun _ _ _ h => h) (yields_move (.tmp 76) (.bool true) rfl (by kernel_rfl) (by kernel_rfl)) ⟨T4, T9, T12⟩ ?_
    simp only [Act.put, List.getElem_toArray, List.getElem_cons_succ, List.getElem_cons_zero, List.setIfInBounds_toArray, List.set_cons_zero, List.set_cons_succ]
    refine wpAnyH_take (i := 19) (v := .int .i64 0) rfl (by kernel_rfl) (by kernel_rfl) (by kernel_rfl) (fun _ _ _ h => h) (yields_move (.tmp 13) (.int .i64 0) rfl (by kernel_rfl) (by kernel_rfl)) ⟨T4, T9, T12⟩ ?_
    simp only [Act.put, List.getElem_toArray, List.getElem_cons_succ, List.getElem_cons_zero, List.setIfInBounds_toArray, List.set_cons_zero, List.set_cons_succ]
    refine wpAnyH_take (i := 20) (v := .bool true) rfl (by kernel_rfl) (by kernel_rfl) (by kernel_rfl) (fun _ _ _ h => h) (yields_eqi 24 (.tmp 78) (.const (.int .i64 0)) (0) (0) true rfl (by kernel_rfl) (by kernel_rfl) (by kernel_rfl) (by simp)) ⟨T4, T9, T12⟩ ?_
    simp only [Act.put, List.getElem_toArray, List.getElem_cons_succ, List.getElem_cons_zero, List.setIfInBounds_toArray, List.set_cons_zero, List.set_cons_succ]
    refine wpAnyH_take (i := 21) (v := .bool true) rfl (by kernel_rfl) (by kernel_rfl) (by kernel_rfl) (fun _ _ _ h => h) (yields_pickt (.tmp 77) (.tmp 79) (.const (.bool false)) (.bool true) rfl (by kernel_rfl) (by kernel_rfl) (by kernel_rfl)) ⟨T4, T9, T12⟩ ?_
    simp only [Act.put, List.getElem_toArray, List.getElem_cons_succ, List.getElem_cons_zero, List.setIfInBounds_toArray, List.set_cons_zero, List.set_cons_succ]
    refine wpAnyH_take (i := 22) (v := .bool true) rfl (by kernel_rfl) (by kernel_rfl) (by kernel_rfl) (fun _ _ _ h => h) (yields_move (.tmp 80) (.bool true) rfl (by kernel_rfl) (by kernel_rfl)) ⟨T4, T9, T12⟩ ?_
    simp only [Act.put, List.getElem_toArray, List.getElem_cons_succ, List.getElem_cons_zero, List.setIfInBounds_toArray, List.set_cons_zero, List.set_cons_succ]
    refine wpAnyH_take (i := 23) (v := .agg (pc f g)) rfl (by kernel_rfl) (by kernel_rfl) (by kernel_rfl) (fun _ _ _ h => h) (yields_load_pool (.tmp 12) rfl (by kernel_rfl) b12 (by kernel_rfl) f g (fun _ h => h.2.2)) ⟨T4, T9, T12⟩ ?_
    simp only [Act.put, List.getElem_toArray, List.getElem_cons_succ, List.getElem_cons_zero, List.setIfInBounds_toArray, List.set_cons_zero, List.set_cons_succ]
    refine wpAnyH_take (i := 24) (v := .agg (pc f g)) rfl (by kernel_rfl) (by kernel_rfl) (by kernel_rfl) (fun _ _ _ h => h) (yields_load_pool (.tmp 4) rfl (by kernel_rfl) w.heap.size (by kernel_rfl) f g (fun _ h => h.1)) ⟨T4, T9, T12⟩ ?_
    simp only [Act.put, List.getElem_toArray, List.getElem_cons_succ, List.getElem_cons_zero, List.setIfInBounds_toArray, List.set_cons_zero, List.set_cons_succ]
    refine wpAnyH_take (i := 25) (v := .bool true) rfl (by kernel_rfl) (by kernel_rfl) (by kernel_rfl) (fun _ _ _ h => h) (yields_eq_pool (.tmp 82) (.tmp 83) rfl (by kernel_rfl) f g w0 (by kernel_rfl) (by kernel_rfl)) ⟨T4, T9, T12⟩ ?_
    simp only [Act.put, List.getElem_toArray, List.getElem_cons_succ, List.getElem_cons_zero, List.setIfInBounds_toArray, List.set_cons_zero, List.set_cons_succ]
    refine wpAnyH_take (i := 26) (v := .bool true) rfl (by kernel_rfl) (by kernel_rfl) (by kernel_rfl) (fun _ _ _ h => h) (yields_pickt (.tmp 81) (.tmp 84) (.const (.bool false)) (.bool true) rfl (by kernel_rfl) (by kernel_rfl) (by kernel_rfl)) ⟨T4, T9, T12⟩ ?_
    simp only [Act.put, List.getElem_toArray, List.getElem_cons_succ, List.getElem_cons_zero, List.setIfInBounds_toArray, List.set_cons_zero, List.set_cons_succ]
    refine wpAnyH_take (i := 27) (v := .bool true) rfl (by kernel_rfl) (by kernel_rfl) (by kernel_rfl) (fun _ _ _ h => h) (yields_move (.tmp 85) (.bool true) rfl (by kernel_rfl) (by kernel_rfl)) ⟨T4, T9, T12⟩ ?_
    simp only [Act.put, List.getElem_toArray, List.getElem_cons_succ, List.getElem_cons_zero, List.setIfInBounds_toArray, List.set_cons_zero, List.set_cons_succ]
    refine wpAnyH_take (i := 28) (v := .agg (pc f g)) rfl (by kernel_rfl) (by kernel_rfl) (by kernel_rfl) (fun _ _ _ h => h) (yields_load_pool (.tmp 4) rfl (by kernel_rfl) w.heap.size (by kernel_rfl) f g (fun _ h => h.1)) ⟨T4, T9, T12⟩ ?_
    simp only [Act.put, List.getElem_toArray, List.getElem_cons_succ, List.getElem_cons_zero, List.setIfInBounds_toArray, List.set_cons_zero, List.set_cons_succ]
    refine wpAnyH_take (i := 29) (v := .int .i64 2) rfl (by kernel_rfl) (by kernel_rfl) (by kernel_rfl) (fun _ _ _ h => h) (yields_move (.tmp 2) (.int .i64 2) rfl (by kernel_rfl) (by kernel_rfl)) ⟨T4, T9, T12⟩ ?_
    simp only [Act.put, List.getElem_toArray, List.getElem_cons_succ, List.getElem_cons_zero, List.setIfInBounds_toArray, List.set_cons_zero, List.set_cons_succ]
    refine wpAnyH_take (i := 31) (v := .agg (pc F g)) rfl (by kernel_rfl) (by kernel_rfl) (by kernel_rfl) (fun _ _ _ h => h) (yields_load_pool (.tmp 9) rfl (by kernel_rfl) b9 (by kernel_rfl) F g (fun _ h => h.2.1)) ⟨T4, T9, T12⟩ ?_
    simp only [Act.put, List.getElem_toArray, List.getElem_cons_succ, List.getElem_cons_zero, List.setIfInBounds_toArray, List.set_cons_zero, List.set_cons_succ]
    refine wpAnyH_take (i := 32) (v := .int .i64 2) rfl (by kernel_rfl) (by kernel_rfl) (by kernel_rfl) (fun _ _ _ h => h) (yields_move (.tmp 2) (.int .i64 2) rfl (by kernel_rfl) (by kernel_rfl)) ⟨T4, T9, T12⟩ ?_
    simp only [Act.put, List.getElem_toArray, List.getElem_cons_succ, List.getElem_cons_zero, List.setIfInBounds_toArray, List.set_cons_zero, List.set_cons_succ]
    refine wpAnyH_ready (rs := [30]) (by kernel_rfl) (by simp) ?_
    refine AllReadyH.cons rfl (fun K hK => ?_) ?_
    · go_simp
      go_fit (C5 _); rintro e w' ⟨rfl, hb⟩; (try replace hb := below_undr' hb); replace T4 := T4.below hb; replace T9 := T9.below hb; replace T12 := T12.below hb; replace hB := hB.trans (hb.mono hB.size)
      go_wp2_with fail
      refine hK.out _ _ ⟨T4, T9, T12⟩ (fun _ => ?_)
      clear hK K
      try simp only [Act.put, List.getElem_toArray, List.getElem_cons_succ, List.getElem_cons_zero, List.setIfInBounds_toArray, List.set_cons_zero, List.set_cons_succ]
      refine wpAnyH_ready (rs := [33]) (by kernel_rfl) (by simp) ?_
      refine AllReadyH.cons rfl (fun K hK => ?_) ?_
      · go_simp
        go_fit (C6 _); rintro e w' ⟨rfl, hb⟩; (try replace hb := below_undr' hb); replace T4 := T4.below hb; replace T9 := T9.below hb; replace T12 := T12.below hb; replace hB := hB.trans (hb.mono hB.size)
        go_wp2_with fail
        refine hK.out _ _ ⟨T4, T9, T12⟩ (fun _ => ?_)
        clear hK K
        try simp only [Act.put, List.getElem_toArray, List.getElem_cons_succ, List.getElem_cons_zero, List.setIfInBounds_toArray, List.set_cons_zero, List.set_cons_succ]
        refine wpAnyH_take (i := 34) (v := .int .i64 (lf - lg)) rfl (by kernel_rfl) (by kernel_rfl) (by kernel_rfl) (fun _ _ _ h => h) (Or.inl ⟨by kernel_rfl, by intro w _; go_simp⟩) ⟨T4, T9, T12⟩ ?_
        simp only [Act.put, List.getElem_toArray, List.getElem_cons_succ, List.getElem_cons_zero, List.setIfInBounds_toArray, List.set_cons_zero, List.set_cons_succ]
        refine wpAnyH_take (i := 35) (v := .bool true) rfl (by kernel_rfl) (by kernel_rfl) (by kernel_rfl) (fun _ _ _ h => h) (yields_eqi 3 (.tmp 93) (.const (.int .i64 1)) ((lf - lg)) (1) true rfl (by kernel_rfl) (by kernel_rfl) (by kernel_rfl) (hlb)) ⟨T4, T9, T12⟩ ?_
        simp only [Act.put, List.getElem_toArray, List.getElem_cons_succ, List.getElem_cons_zero, List.setIfInBounds_toArray, List.set_cons_zero, List.set_cons_succ]
        refine wpAnyH_take (i := 36) (v := .bool true) rfl (by kernel_rfl) (by kernel_rfl) (by kernel_rfl) (fun _ _ _ h => h) (yields_pickt (.tmp 86) (.tmp 94) (.const (.bool false)) (.bool true) rfl (by kernel_rfl) (by kernel_rfl) (by kernel_rfl)) ⟨T4, T9, T12⟩ ?_
        simp only [Act.put, List.getElem_toArray, List.getElem_cons_succ, List.getElem_cons_zero, List.setIfInBounds_toArray, List.set_cons_zero, List.set_cons_succ]
        refine wpAnyH_take (i := 37) (v := .bool true) rfl (by kernel_rfl) (by kernel_rfl) (by kernel_rfl) (fun _ _ _ h => h) (yields_move (.tmp 95) (.bool true) rfl (by kernel_rfl) (by kernel_rfl)) ⟨T4, T9, T12⟩ ?_
        simp only [Act.put, List.getElem_toArray, List.getElem_cons_succ, List.getElem_cons_zero, List.setIfInBounds_toArray, List.set_cons_zero, List.set_cons_succ]
        refine wpAnyH_take (i := 38) (v := .int .i64 7) rfl (by kernel_rfl) (by kernel_rfl) (by kernel_rfl) (fun _ _ _ h => h) (yields_move (.tmp 15) (.int .i64 7) rfl (by kernel_rfl) (by kernel_rfl)) ⟨T4, T9, T12⟩ ?_
        simp only [Act.put, List.getElem_toArray, List.getElem_cons_succ, List.getElem_cons_zero, List.setIfInBounds_toArray, List.set_cons_zero, List.set_cons_succ]
        refine wpAnyH_take (i := 39) (v := .bool true) rfl (by kernel_rfl) (by kernel_rfl) (by kernel_rfl) (fun _ _ _ h => h) (yields_eqi 24 (.tmp 97) (.const (.int .i64 7)) (7) (7) true rfl (by kernel_rfl) (by kernel_rfl) (by kernel_rfl) (by simp)) ⟨T4, T9, T12⟩ ?_
        simp only [Act.put, List.getElem_toArray, List.getElem_cons_succ, List.getElem_cons_zero, List.setIfInBounds_toArray, List.set_cons_zero, List.set_cons_succ]
        refine wpAnyH_take (i := 40) (v := .bool true) rfl (by kernel_rfl) (by kernel_rfl) (by kernel_rfl) (fun _ _ _ h => h) (yields_pickt (.tmp 96) (.tmp 98) (.const (.bool false)) (.bool true) rfl (by kernel_rfl) (by kernel_rfl) (by kernel_rfl)) ⟨T4, T9, T12⟩ ?_
        simp only [Act.put, List.getElem_toArray, List.getElem_cons_succ, List.getElem_cons_zero, List.setIfInBounds_toArray, List.set_cons_zero, List.set_cons_succ]
        refine wpAnyH_take (i := 41) (v := .bool true) rfl (by kernel_rfl) (by kernel_rfl) (by kernel_rfl) (fun _ _ _ h => h) (yields_move (.tmp 99) (.bool true) rfl (by kernel_rfl) (by kernel_rfl)) ⟨T4, T9, T12⟩ ?_
        simp only [Act.put, List.getElem_toArray, List.getElem_cons_succ, List.getElem_cons_zero, List.setIfInBounds_toArray, List.set_cons_zero, List.set_cons_succ]
        refine wpAnyH_take (i := 42) (v := .int .i64 2) rfl (by kernel_rfl) (by kernel_rfl) (by kernel_rfl) (fun _ _ _ h => h) (yields_move (.tmp 2) (.int .i64 2) rfl (by kernel_rfl) (by kernel_rfl)) ⟨T4, T9, T12⟩ ?_
        simp only [Act.put, List.getElem_toArray, List.getElem_cons_succ, List.getElem_cons_zero, List.setIfInBounds_toArray, List.set_cons_zero, List.set_cons_succ]
        refine wpAnyH_take (i := 43) (v := .pointer (some ⟨w.heap.size, 18, none⟩)) rfl (by kernel_rfl) (by kernel_rfl) (by kernel_rfl) (fun _ _ _ h => h) (Or.inl ⟨by kernel_rfl, by intro w _; go_simp⟩) ⟨T4, T9, T12⟩ ?_
        simp only [Act.put, List.getElem_toArray, List.getElem_cons_succ, List.getElem_cons_zero, List.setIfInBounds_toArray, List.set_cons_zero, List.set_cons_succ]
        refine wpAnyH_take (i := 44) (v := .pointer (some ⟨w.heap.size, 20, none⟩)) rfl (by kernel_rfl) (by kernel_rfl) (by kernel_rfl) (fun _ _ _ h => h) (Or.inl ⟨by kernel_rfl, by intro w _; go_simp⟩) ⟨T4, T9, T12⟩ ?_
        simp only [Act.put, List.getElem_toArray, List.getElem_cons_succ, List.getElem_cons_zero, List.setIfInBounds_toArray, List.set_cons_zero, List.set_cons_succ]
        refine wpAnyH_take (i := 45) (v := .bool false) rfl (by kernel_rfl) (by kernel_rfl) (by kernel_rfl) (fun _ _ _ h => h) (Or.inl ⟨by kernel_rfl, by intro w' h; have c := h.1.dr 2 (by omega); rw [hgd] at c; go_simp⟩) ⟨T4, T9, T12⟩ ?_
        simp only [Act.put, List.getElem_toArray, List.getElem_cons_succ, List.getElem_cons_zero, List.setIfInBounds_toArray, List.set_cons_zero, List.set_cons_succ]
        refine wpAnyH_take (i := 46) (v := .bool true) rfl (by kernel_rfl) (by kernel_rfl) (by kernel_rfl) (fun _ _ _ h => h) (yields_not (.tmp 104) false true rfl (by kernel_rfl) (by kernel_rfl) (rfl)) ⟨T4, T9, T12⟩ ?_
        simp only [Act.put, List.getElem_toArray, List.getElem_cons_succ, List.getElem_cons_zero, List.setIfInBounds_toArray, List.set_cons_zero, List.set_cons_succ]
        refine wpAnyH_take (i := 47) (v := .bool true) rfl (by kernel_rfl) (by kernel_rfl) (by kernel_rfl) (fun _ _ _ h => h) (yields_pickt (.tmp 100) (.tmp 105) (.const (.bool false)) (.bool true) rfl (by kernel_rfl) (by kernel_rfl) (by kernel_rfl)) ⟨T4, T9, T12⟩ ?_
        simp only [Act.put, List.getElem_toArray, List.getElem_cons_succ, List.getElem_cons_zero, List.setIfInBounds_toArray, List.set_cons_zero, List.set_cons_succ]
        refine wpAnyH_take (i := 48) (v := .bool true) rfl (by kernel_rfl) (by kernel_rfl) (by kernel_rfl) (fun _ _ _ h => h) (yields_assign (.tmp 106) (.bool true) rfl (by kernel_rfl) (by kernel_rfl)) ⟨T4, T9, T12⟩ ?_
        simp only [Act.put, List.getElem_toArray, List.getElem_cons_succ, List.getElem_cons_zero, List.setIfInBounds_toArray, List.set_cons_zero, List.set_cons_succ]
        refine wpAnyH_done (by kernel_rfl) ?_ _
        refine NoPanic.normal ?_
        go_wp2_with fail
        go_ret
        exact ⟨by kernel_rfl, hB⟩
      exact AllReadyH.nil
    exact AllReadyH.nil

set_option maxRecDepth 100000 in
theorem lifted (os : Os) (started : os.Started) (H : Type) (enc : TypeId × Value → H) :
    ReturnsInHanded {} Try.checked os 6 .any (Rows.poolRoundSpec.pre6 enc Try.prog Try.f6 Rows.poolRoundRow.domain false) (Rows.poolRoundSpec.post enc Try.prog Try.f6 false true false false) := by
  refine returnsInHanded_of_change_sized (C := Try.checked) own started (by kernel_rfl) Try.func6
    (ChangeSpec.witness6 (enc := enc) (C := Try.checked) false ⟨#[], #[.agg #[.int .i64 0, .int .i64 0, .int .i64 0, .int .i64 0, .int .i64 0, .int .i64 0, .int .i64 0, .int .i64 0, .int .i64 0, .int .i64 0, .int .i64 0, .int .i64 0, .int .i64 0, .int .i64 0, .int .i64 0, .int .i64 0, .int .i64 0, .int .i64 0, .bool false, .bool false, .bool false], .int .i64 0, .int .i64 0, .int .i64 0], []⟩ 8 (by kernel_rfl) (by kernel_rfl) (by kernel_rfl) (by kernel_rfl)) ?_
  intro W base args ds gs before hval0 hW hcnd hsz0 _
  have hval : ∀ (j : Nat) t v, Try.f6.params[j]? = some t → args[j]? = some v → Value.okWide Try.prog W .any base t v := hval0
  have hW' := hW
  obtain ⟨p, q, hA0, hV, rfl, hfz, hnd⟩ := hW
  have hA : DataW.TrodAll enc Try.prog W 0 (fun _ => true) true Try.f6.params.toList args.toList ds p := hA0
  have hsz : (DataW.weightsEach Try.prog (Try.f6.params.toList ++ Rows.poolRoundSpec.plain.varTypes Try.prog) (ds ++ gs)).all (· ≤ reachBytes) = true := hsz0
  rw [Try.params6] at hA hval hsz
  obtain ⟨v0, vs0, d0, ds0, p0, q0, hargs, rfl, rfl, h0, r0⟩ := trodAll_cons hA
  obtain ⟨v1, vs1, d1, ds1, p1, q1, rfl, rfl, rfl, h1, r1⟩ := trodAll_cons r0
  obtain ⟨v2, vs2, d2, ds2, p2, q2, rfl, rfl, rfl, h2, r2⟩ := trodAll_cons r1
  obtain ⟨v3, vs3, d3, ds3, p3, q3, rfl, rfl, rfl, h3, r3⟩ := trodAll_cons r2
  obtain ⟨rfl, rfl, rfl⟩ := trodAll_nil r3
  obtain rfl : args = #[v0, v1, v2, v3] := by cases args; simp_all
  obtain ⟨rfl, rfl⟩ := trodVars_none hV
  obtain ⟨a0, rfl, rfl, rfl, w0⟩ := open_pool (hval 0 47 v0 rfl rfl) h0
  obtain ⟨a1, rfl, rfl, rfl, w1⟩ := open_int Try.underlying3 (hval 1 3 v1 rfl rfl) h1
  obtain ⟨a2, rfl, rfl, rfl, w2⟩ := open_int Try.underlying3 (hval 2 3 v2 rfl rfl) h2
  obtain ⟨a3, rfl, rfl, rfl, w3⟩ := open_int Try.underlying3 (hval 3 3 v3 rfl rfl) h3
  clear hA0 hval0
  simp only [List.append_nil] at hW'
  refine (walk a0 a1 a2 a3 w0 w1 w2 w3 W).mono fun e W' ⟨he, bel⟩ => ?_
  subst he
  exact ⟨_, rfl, _, _, _, [], [], [], hW', trodAll_mk1 (shut_bool Try.underlying4 _), (trodAll_cons_mk (shut_pool w0) (trodAll_cons_mk (shut_int Try.underlying3 w1) (trodAll_cons_mk (shut_int Try.underlying3 w2) (trodAll_cons_mk (shut_int Try.underlying3 w3) trodAll_mk0)))), rfl, bel.frame _, fun h => by cases h⟩

theorem over : Rows.poolRoundRow.holds Try.pinned (OpenSpec.ofChange Rows.poolRoundSpec) :=
  OpenClaim.holds_of_wide 6 Try.f6 rfl rfl rfl rfl rfl rfl rfl ⟨rfl, rfl, rfl, rfl, rfl⟩ rfl rfl rfl rfl rfl (by kernel_rfl) Try.func6 (by kernel_rfl)
    (of_decide_eq_true (by kernel_rfl)) (by unfold Func.isWrapper; first | (rw [if_pos (by decide +kernel)]; kernel_rfl) | (rw [if_neg (by decide +kernel)]; exact ⟨rfl, rfl⟩))
    (fun os started H enc _ => lifted os started H enc)

end Go.Proofs.Ythcedehppflcgad.poolRound
namespace Go.Proofs.Ythcedehppflcgad
theorem poolRound_holds : Rows.PoolRoundSaid := poolRound.over
#print axioms poolRound_holds
end Go.Proofs.Ythcedehppflcgad
