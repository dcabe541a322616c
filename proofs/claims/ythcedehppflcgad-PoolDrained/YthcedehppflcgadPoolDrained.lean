/-
  For every pool, rentrollkeep.PoolDrained returns true: nothing of a drained address is taken or picked, and undrained it is as it was; no condition but the form's own reach.
-/
import Derived.Test.YthcedehppflcgadRows
import Derived.WalkKit
import Derived.ProofKit
import Derived.OpenShut
import Derived.ShutString
import Derived.SizedLaws
import Derived.Below
import Derived.Test.YthcedehppflcgadPoolR
import Derived.Test.YthcedehppflcgadPoolD
import Derived.Test.YthcedehppflcgadYieldP
import Derived.Deep.RegionHeld3
import Derived.Deep.DeepCutAuto
namespace Go.Proofs.Ythcedehppflcgad.poolDrained
open Go.ChangeShapes Go.WideShapes Go.ChangeAt Go.RowKit
open Go.ChangeMaps (open_string shut_string)
set_option linter.unusedVariables false
set_option linter.unusedSimpArgs false

theorem own : ownKnob Try.prog.godebug = none := by kernel_rfl

set_option maxRecDepth 10000 in
set_option maxHeartbeats 16000000 in
theorem walk (a0 : PoolV) (a1 : Int) (a2 : Int) (w0 : wfF a0.f) (w1 : (Lit.int .i64 a1).wf = true) (w2 : (Lit.int .i64 a2).wf = true) (w : World) :
    Calls Try.prog 7 #[plv a0.f a0.g, .int .i64 a1, .int .i64 a2] w fun e w' => e = .returned (.bool true) ∧ Below w.heap.size w w' := by
  obtain ⟨f, g⟩ := a0
  simp only at w0 ⊢
  have hB : Below w.heap.size w (w.alloc (.cells (pc f g) 47)) := (Below.refl _ _).alloc (Nat.le_refl _) _
  have T3 : PRow (w.alloc (.cells (pc f g) 47)) w.heap.size (pc f g) := PRow.new _ _
  by_cases he : drainE g a1 true = 0
  rotate_left
  · have C1 : ∀ w, Calls Try.prog 33 #[plv f g, .int .i64 a1] w fun e w' => e = .returned (.tuple #[plv f g, .int .i64 (drainE g a1 true)]) ∧ Below w.heap.size w w' := fun w => by
      have := drain_any f g a1 w
      unfold drainS drainG at this
      rw [if_neg he] at this; exact this
    generalize drainE g a1 true = ee at *
    have hne : (ee != 0) = true := by simpa using he
    clear he
    unfold plv at *
    go_enter Try.func7, Try.ntmps7
    go_wp2_with (first | (refine wpList_load_pool _ rfl ?_ _ rfl f g T3 ?_; · kernel_rfl) | (refine wpList_load_pool _ rfl ?_ _ rfl f g T7 ?_; · kernel_rfl) | (refine wpList_eq_pool _ _ rfl ?_ f g w0 rfl rfl ?_; · kernel_rfl) | (go_at_call 33; go_fit (C1 _); rintro e w' ⟨rfl, hb⟩; (try replace hb := below_undr' hb); replace T3 := T3.below hb; (try replace T7 := T7.below hb); (try replace T9 := T9.below hb); (try replace T14 := T14.below hb); replace hB := hB.trans (hb.mono hB.size)) | (refine wpList_alloc_pool rfl rfl ?_; intro b7 w8 eb7 T7 hk8 hb8 hs8; have nb7T3 := (hk8 _ _ T3).2; replace T3 := (hk8 _ _ T3).1; replace hB := hb8 _ _ hB hB.size; have lb7 : w.heap.size ≤ b7 := (by rw [eb7]; have := T3.lt; omega); clear hs8 hk8 hb8 eb7) | (refine wpList_store_pool rfl _ _ rfl b7 rfl f g rfl (pc (fun _ => 0) (fun _ => false)) T7 rfl ?_; intro w8 T7 hs8 hk8 hb8; replace T3 := hk8 _ _ nb7T3 T3; replace hB := hb8 _ _ lb7 hB; clear hs8 hk8 hb8) | (go_at_call 36; refine (poolsKeep_any _).mono ?_; rintro e w' ⟨rfl, hb⟩; (try replace hb := below_undr' hb); replace T3 := T3.below hb; (try replace T7 := T7.below hb); (try replace T9 := T9.below hb); (try replace T14 := T14.below hb); replace hB := hB.trans (hb.mono hB.size)))
    go_ret
    exact ⟨by kernel_rfl, hB⟩
  have hin : inR a1 3 = true ∧ g a1.toNat = false := by
    unfold drainE at he
    by_cases h1 : inR a1 3 = true
    · rw [if_pos h1] at he
      by_cases h2 : g a1.toNat = true
      · rw [if_pos h2] at he; omega
      · exact ⟨h1, by simpa using h2⟩
    · rw [if_neg h1] at he; omega
  obtain ⟨hia, hga⟩ := hin
  have hba : 0 ≤ a1 ∧ a1 < 3 := of_decide_eq_true hia
  have C1 : ∀ w, Calls Try.prog 33 #[plv f g, .int .i64 a1] w fun e w' => e = .returned (.tuple #[plv f (updB g a1.toNat true), .int .i64 0]) ∧ Below w.heap.size w w' := fun w => by
    have := drain_any f g a1 w
    unfold drainS drainG at this
    rw [if_pos he, he] at this; exact this
  have hGn : updB g a1.toNat true a1.toNat = true := by unfold updB; rw [if_pos rfl]
  have hGo : ∀ i, i ≠ a1.toNat → updB g a1.toNat true i = g i := fun i hi => by unfold updB; rw [if_neg hi]
  have hGb : updB (updB g a1.toNat true) a1.toNat false = g := by
    funext i
    unfold updB
    by_cases e : i = a1.toNat
    · rw [if_pos e, e, hga]
    · rw [if_neg e, if_neg e]
  have C4 : ∀ w, Calls Try.prog 35 #[plv f (updB g a1.toNat true), .int .i64 a1] w fun e w' => e = .returned (.tuple #[plv f g, .int .i64 0]) ∧ Below w.heap.size w w' := fun w => by
    have := undrain_any f (updB g a1.toNat true) a1 w
    have e0 : drainE (updB g a1.toNat true) a1 false = 0 := by unfold drainE; rw [if_pos hia, hGn]; rfl
    unfold drainS drainG at this
    rw [if_pos e0, e0, hGb] at this; exact this
  have C7 : ∀ w, Calls Try.prog 31 #[plv f (updB g a1.toNat true), .int .i64 a1] w fun e w' => e = .returned (.bool (leftP f a1 == 6)) ∧ Below w.heap.size w w' := fun w => by
    have := empty_any f (updB g a1.toNat true) a1 w
    have e0 : emptyP f (updB g a1.toNat true) a1 = (leftP f a1 == 6) := by unfold emptyP; rw [hia, hGn]; rfl
    rw [e0] at this; exact this
  have C9 : ∀ w, Calls Try.prog 31 #[plv f g, .int .i64 a1] w fun e w' => e = .returned (.bool false) ∧ Below w.heap.size w w' := fun w => by
    have := empty_any f g a1 w
    have e0 : emptyP f g a1 = false := by unfold emptyP; rw [hia, hga]; rfl
    rw [e0] at this; exact this
  have C5 := fun w => good_any f g w
  have C8 := fun w => left_any f g a1 w
  have C2 : ∀ w, Calls Try.prog 20 #[plv f (updB g a1.toNat true), .int .i64 0, .int .i64 a1, .int .i64 a2] w fun e w' => e = .returned (.tuple #[plv f (updB g a1.toNat true), .int .i64 0, .int .i64 (if goodP f = true then 9 else 2)]) ∧ Below w.heap.size w w' := fun w => by
    have := take_any f (updB g a1.toNat true) 0 a1 a2 w2 w
    have e0 : takeE f (updB g a1.toNat true) 0 a1 = (if goodP f = true then 9 else 2) := by
      unfold takeE
      by_cases h : goodP f = true
      · rw [if_pos h, if_pos ⟨hia, by decide⟩, if_pos hGn, if_pos h]
      · rw [if_neg h, if_neg h]
    rw [takeS_no e0 (by split <;> omega)] at this; exact this
  have C3 := fun w => pick_any f (updB g a1.toNat true) a2 w2 w
  clear he hia hga hGb
  obtain ⟨em, hem⟩ : ∃ em, (leftP f a1 == 6) = em := ⟨_, rfl⟩
  rw [hem] at C7
  have hmem := fun h => openL_mem f (updB g a1.toNat true) _ (drawnL_mem (openL f (updB g a1.toNat true)) a2 h)
  have CL := fun k w => left_any f (updB g a1.toNat true) k w
  generalize hG : updB g a1.toNat true = G at *
  generalize leftP f a1 = lf at *
  cases hgp : goodP f with
  | false =>
    rw [hgp] at C2 C5
    have hpe0 : Hid (pickE f G = 2) := by show _ = _; unfold pickE; rw [if_neg (by simp [hgp])]
    generalize pickE f G = pe at *
    generalize pickK f G a2 = pk at *
    have hpe : (pe != 0) = true := by rw [hpe0.out]; decide
    obtain ⟨te, hte0⟩ : ∃ te : Int, (if false = true then 9 else 2) = te := ⟨_, rfl⟩
    rw [hte0] at C2
    have hte : (te == 9) = false := by rw [← hte0]; decide
    clear hte0 hgp hpe0 hmem CL hG hGn hGo
    unfold plv at *
    go_enter Try.func7, Try.ntmps7
    go_upto_region 7 with (first | (refine wpList_load_pool _ rfl ?_ _ rfl f g T3 ?_; · kernel_rfl) | (refine wpList_load_pool _ rfl ?_ _ rfl f G T7 ?_; · kernel_rfl) | (go_at_call 33; go_fit (C1 _); rintro e w' ⟨rfl, hb⟩; (try replace hb := below_undr' hb); replace T3 := T3.below hb; (try replace T7 := T7.below hb); (try replace T9 := T9.below hb); (try replace T14 := T14.below hb); replace hB := hB.trans (hb.mono hB.size)) | (go_at_call 20; go_fit (C2 _); rintro e w' ⟨rfl, hb⟩; (try replace hb := below_undr' hb); replace T3 := T3.below hb; (try replace T7 := T7.below hb); (try replace T9 := T9.below hb); (try replace T14 := T14.below hb); replace hB := hB.trans (hb.mono hB.size)) | (go_at_call 22; go_fit (C3 _); rintro e w' ⟨rfl, hb⟩; (try replace hb := below_undr' hb); replace T3 := T3.below hb; (try replace T7 := T7.below hb); (try replace T9 := T9.below hb); (try replace T14 := T14.below hb); replace hB := hB.trans (hb.mono hB.size)) | (go_at_call 35; go_fit (C4 _); rintro e w' ⟨rfl, hb⟩; (try replace hb := below_undr' hb); replace T3 := T3.below hb; (try replace T7 := T7.below hb); (try replace T9 := T9.below hb); (try replace T14 := T14.below hb); replace hB := hB.trans (hb.mono hB.size)) | (refine wpList_alloc_pool rfl rfl ?_; intro b14 w8 eb14 T14 hk8 hb8 hs8; have nb14T3 := (hk8 _ _ T3).2; replace T3 := (hk8 _ _ T3).1; have nb14T7 := (hk8 _ _ T7).2; replace T7 := (hk8 _ _ T7).1; have nb14T9 := (hk8 _ _ T9).2; replace T9 := (hk8 _ _ T9).1; replace hB := hb8 _ _ hB hB.size; have lb14 : w.heap.size ≤ b14 := (by rw [eb14]; have := T3.lt; omega); clear hs8 hk8 hb8 eb14) | (refine wpList_alloc_pool rfl rfl ?_; intro b9 w8 eb9 T9 hk8 hb8 hs8; have nb9T3 := (hk8 _ _ T3).2; replace T3 := (hk8 _ _ T3).1; have nb9T7 := (hk8 _ _ T7).2; replace T7 := (hk8 _ _ T7).1; replace hB := hb8 _ _ hB hB.size; have lb9 : w.heap.size ≤ b9 := (by rw [eb9]; have := T3.lt; omega); clear hs8 hk8 hb8 eb9) | (refine wpList_alloc_pool rfl rfl ?_; intro b7 w8 eb7 T7 hk8 hb8 hs8; have nb7T3 := (hk8 _ _ T3).2; replace T3 := (hk8 _ _ T3).1; replace hB := hb8 _ _ hB hB.size; have lb7 : w.heap.size ≤ b7 := (by rw [eb7]; have := T3.lt; omega); clear hs8 hk8 hb8 eb7) | (refine wpList_store_pool rfl _ _ rfl b14 rfl f g rfl (pc (fun _ => 0) (fun _ => false)) T14 rfl ?_; intro w8 T14 hs8 hk8 hb8; replace T3 := hk8 _ _ nb14T3 T3; replace T7 := hk8 _ _ nb14T7 T7; replace T9 := hk8 _ _ nb14T9 T9; replace hB := hb8 _ _ lb14 hB; clear hs8 hk8 hb8) | (refine wpList_store_pool rfl _ _ rfl b9 rfl f G rfl (pc (fun _ => 0) (fun _ => false)) T9 rfl ?_; intro w8 T9 hs8 hk8 hb8; replace T3 := hk8 _ _ nb9T3 T3; replace T7 := hk8 _ _ nb9T7 T7; replace hB := hb8 _ _ lb9 hB; clear hs8 hk8 hb8) | (refine wpList_store_pool rfl _ _ rfl b7 rfl f G rfl (pc (fun _ => 0) (fun _ => false)) T7 rfl ?_; intro w8 T7 hs8 hk8 hb8; replace T3 := hk8 _ _ nb7T3 T3; replace hB := hb8 _ _ lb7 hB; clear hs8 hk8 hb8) | (go_at_call 36; refine (poolsKeep_any _).mono ?_; rintro e w' ⟨rfl, hb⟩; (try replace hb := below_undr' hb); replace T3 := T3.below hb; (try replace T7 := T7.below hb); (try replace T9 := T9.below hb); (try replace T14 := T14.below hb); replace hB := hB.trans (hb.mono hB.size)))
    refine wp_region_noPanic ?_
    refine wp_region_held_drew (S := fun w' => PRow w' w.heap.size (pc f g) ∧ PRow w' b7 (pc f G) ∧ PRow w' b14 (pc f g)) (by kernel_rfl) ⟨T3, T7, T14⟩ (fun _ => ?_)
    refine wpAnyH_take (i := 0) (v := .int .i64 te) rfl (by kernel_rfl) (by kernel_rfl) (by kernel_rfl) (fun _ _ _ h => h) (yields_move (.tmp 11) (.int .i64 te) rfl (by kernel_rfl) (by kernel_rfl)) ⟨T3, T7, T14⟩ ?_
    simp only [Act.put, List.getElem_toArray, List.getElem_cons_succ, List.getElem_cons_zero, List.setIfInBounds_toArray, List.set_cons_zero, List.set_cons_succ]
    refine wpAnyH_take (i := 1) (v := .bool false) rfl (by kernel_rfl) (by kernel_rfl) (by kernel_rfl) (fun _ _ _ h => h) (yields_eqi 24 (.tmp 54) (.const (.int .i64 9)) (te) (9) false rfl (by kernel_rfl) (by kernel_rfl) (by kernel_rfl) (hte)) ⟨T3, T7, T14⟩ ?_
    simp only [Act.put, List.getElem_toArray, List.getElem_cons_succ, List.getElem_cons_zero, List.setIfInBounds_toArray, List.set_cons_zero, List.set_cons_succ]
    refine wpAnyH_take (i := 2) (v := .bool false) rfl (by kernel_rfl) (by kernel_rfl) (by kernel_rfl) (fun _ _ _ h => h) (yields_move (.tmp 55) (.bool false) rfl (by kernel_rfl) (by kernel_rfl)) ⟨T3, T7, T14⟩ ?_
    simp only [Act.put, List.getElem_toArray, List.getElem_cons_succ, List.getElem_cons_zero, List.setIfInBounds_toArray, List.set_cons_zero, List.set_cons_succ]
    refine wpAnyH_take (i := 3) (v := .agg (pc f g)) rfl (by kernel_rfl) (by kernel_rfl) (by kernel_rfl) (fun _ _ _ h => h) (yields_load_pool (.tmp 3) rfl (by kernel_rfl) w.heap.size (by kernel_rfl) f g (fun _ h => h.1)) ⟨T3, T7, T14⟩ ?_
    simp only [Act.put, List.getElem_toArray, List.getElem_cons_succ, List.getElem_cons_zero, List.setIfInBounds_toArray, List.set_cons_zero, List.set_cons_succ]
    refine wpAnyH_ready (rs := [4]) (by kernel_rfl) (by simp) ?_
    refine AllReadyH.cons rfl (fun K hK => ?_) ?_
    · go_simp
      go_fit (C5 _); rintro e w' ⟨rfl, hb⟩; (try replace hb := below_undr' hb); replace T3 := T3.below hb; replace T7 := T7.below hb; replace T14 := T14.below hb; replace hB := hB.trans (hb.mono hB.size)
      go_wp2_with fail
      refine hK.out _ _ ⟨T3, T7, T14⟩ (fun _ => ?_)
      clear hK K
      try simp only [Act.put, List.getElem_toArray, List.getElem_cons_succ, List.getElem_cons_zero, List.setIfInBounds_toArray, List.set_cons_zero, List.set_cons_succ]
      refine wpAnyH_take (i := 5) (v := .bool true) rfl (by kernel_rfl) (by kernel_rfl) (by kernel_rfl) (fun _ _ _ h => h) (yields_not (.tmp 58) false true rfl (by kernel_rfl) (by kernel_rfl) (rfl)) ⟨T3, T7, T14⟩ ?_
      simp only [Act.put, List.getElem_toArray, List.getElem_cons_succ, List.getElem_cons_zero, List.setIfInBounds_toArray, List.set_cons_zero, List.set_cons_succ]
      refine wpAnyH_take (i := 6) (v := .bool true) rfl (by kernel_rfl) (by kernel_rfl) (by kernel_rfl) (fun _ _ _ h => h) (yields_pickf (.tmp 56) (.const (.bool true)) (.tmp 59) (.bool true) rfl (by kernel_rfl) (by kernel_rfl) (by kernel_rfl)) ⟨T3, T7, T14⟩ ?_
      simp only [Act.put, List.getElem_toArray, List.getElem_cons_succ, List.getElem_cons_zero, List.setIfInBounds_toArray, List.set_cons_zero, List.set_cons_succ]
      refine wpAnyH_take (i := 7) (v := .bool true) rfl (by kernel_rfl) (by kernel_rfl) (by kernel_rfl) (fun _ _ _ h => h) (yields_move (.tmp 60) (.bool true) rfl (by kernel_rfl) (by kernel_rfl)) ⟨T3, T7, T14⟩ ?_
      simp only [Act.put, List.getElem_toArray, List.getElem_cons_succ, List.getElem_cons_zero, List.setIfInBounds_toArray, List.set_cons_zero, List.set_cons_succ]
      refine wpAnyH_take (i := 8) (v := .int .i64 pe) rfl (by kernel_rfl) (by kernel_rfl) (by kernel_rfl) (fun _ _ _ h => h) (yields_move (.tmp 13) (.int .i64 pe) rfl (by kernel_rfl) (by kernel_rfl)) ⟨T3, T7, T14⟩ ?_
      simp only [Act.put, List.getElem_toArray, List.getElem_cons_succ, List.getElem_cons_zero, List.setIfInBounds_toArray, List.set_cons_zero, List.set_cons_succ]
      refine wpAnyH_take (i := 9) (v := .bool true) rfl (by kernel_rfl) (by kernel_rfl) (by kernel_rfl) (fun _ _ _ h => h) (yields_nei 24 (.tmp 62) (.const (.int .i64 0)) (pe) (0) true rfl (by kernel_rfl) (by kernel_rfl) (by kernel_rfl) (hpe)) ⟨T3, T7, T14⟩ ?_
      simp only [Act.put, List.getElem_toArray, List.getElem_cons_succ, List.getElem_cons_zero, List.setIfInBounds_toArray, List.set_cons_zero, List.set_cons_succ]
      refine wpAnyH_take (i := 10) (v := .bool true) rfl (by kernel_rfl) (by kernel_rfl) (by kernel_rfl) (fun _ _ _ h => h) (yields_move (.tmp 63) (.bool true) rfl (by kernel_rfl) (by kernel_rfl)) ⟨T3, T7, T14⟩ ?_
      simp only [Act.put, List.getElem_toArray, List.getElem_cons_succ, List.getElem_cons_zero, List.setIfInBounds_toArray, List.set_cons_zero, List.set_cons_succ]
      refine wpAnyH_take (i := 11) (v := undef) rfl (by kernel_rfl) (by kernel_rfl) (by kernel_rfl) (fun _ _ _ h => h) (Or.inr ⟨by kernel_rfl, rfl⟩) ⟨T3, T7, T14⟩ ?_
      simp only [Act.put, List.getElem_toArray, List.getElem_cons_succ, List.getElem_cons_zero, List.setIfInBounds_toArray, List.set_cons_zero, List.set_cons_succ]
      refine wpAnyH_take (i := 12) (v := undef) rfl (by kernel_rfl) (by kernel_rfl) (by kernel_rfl) (fun _ _ _ h => h) (Or.inr ⟨by kernel_rfl, rfl⟩) ⟨T3, T7, T14⟩ ?_
      simp only [Act.put, List.getElem_toArray, List.getElem_cons_succ, List.getElem_cons_zero, List.setIfInBounds_toArray, List.set_cons_zero, List.set_cons_succ]
      refine wpAnyH_take (i := 13) (v := undef) rfl (by kernel_rfl) (by kernel_rfl) (by kernel_rfl) (fun _ _ _ h => h) (Or.inr ⟨by kernel_rfl, rfl⟩) ⟨T3, T7, T14⟩ ?_
      simp only [Act.put, List.getElem_toArray, List.getElem_cons_succ, List.getElem_cons_zero, List.setIfInBounds_toArray, List.set_cons_zero, List.set_cons_succ]
      refine wpAnyH_take (i := 14) (v := undef) rfl (by kernel_rfl) (by kernel_rfl) (by kernel_rfl) (fun _ _ _ h => h) (Or.inr ⟨by kernel_rfl, rfl⟩) ⟨T3, T7, T14⟩ ?_
      simp only [Act.put, List.getElem_toArray, List.getElem_cons_succ, List.getElem_cons_zero, List.setIfInBounds_toArray, List.set_cons_zero, List.set_cons_succ]
      refine wpAnyH_take (i := 15) (v := undef) rfl (by kernel_rfl) (by kernel_rfl) (by kernel_rfl) (fun _ _ _ h => h) (Or.inr ⟨by kernel_rfl, rfl⟩) ⟨T3, T7, T14⟩ ?_
      simp only [Act.put, List.getElem_toArray, List.getElem_cons_succ, List.getElem_cons_zero, List.setIfInBounds_toArray, List.set_cons_zero, List.set_cons_succ]
      refine wpAnyH_take (i := 16) (v := undef) rfl (by kernel_rfl) (by kernel_rfl) (by kernel_rfl) (fun _ _ _ h => h) (Or.inr ⟨by kernel_rfl, rfl⟩) ⟨T3, T7, T14⟩ ?_
      simp only [Act.put, List.getElem_toArray, List.getElem_cons_succ, List.getElem_cons_zero, List.setIfInBounds_toArray, List.set_cons_zero, List.set_cons_succ]
      refine wpAnyH_take (i := 17) (v := undef) rfl (by kernel_rfl) (by kernel_rfl) (by kernel_rfl) (fun _ _ _ h => h) (Or.inr ⟨by kernel_rfl, rfl⟩) ⟨T3, T7, T14⟩ ?_
      simp only [Act.put, List.getElem_toArray, List.getElem_cons_succ, List.getElem_cons_zero, List.setIfInBounds_toArray, List.set_cons_zero, List.set_cons_succ]
      refine wpAnyH_take (i := 18) (v := undef) rfl (by kernel_rfl) (by kernel_rfl) (by kernel_rfl) (fun _ _ _ h => h) (Or.inr ⟨by kernel_rfl, rfl⟩) ⟨T3, T7, T14⟩ ?_
      simp only [Act.put, List.getElem_toArray, List.getElem_cons_succ, List.getElem_cons_zero, List.setIfInBounds_toArray, List.set_cons_zero, List.set_cons_succ]
      refine wpAnyH_take (i := 19) (v := undef) rfl (by kernel_rfl) (by kernel_rfl) (by kernel_rfl) (fun _ _ _ h => h) (Or.inr ⟨by kernel_rfl, rfl⟩) ⟨T3, T7, T14⟩ ?_
      simp only [Act.put, List.getElem_toArray, List.getElem_cons_succ, List.getElem_cons_zero, List.setIfInBounds_toArray, List.set_cons_zero, List.set_cons_succ]
      refine wpAnyH_take (i := 20) (v := undef) rfl (by kernel_rfl) (by kernel_rfl) (by kernel_rfl) (fun _ _ _ h => h) (Or.inr ⟨by kernel_rfl, rfl⟩) ⟨T3, T7, T14⟩ ?_
      simp only [Act.put, List.getElem_toArray, List.getElem_cons_succ, List.getElem_cons_zero, List.setIfInBounds_toArray, List.set_cons_zero, List.set_cons_succ]
      refine wpAnyH_take (i := 21) (v := undef) rfl (by kernel_rfl) (by kernel_rfl) (by kernel_rfl) (fun _ _ _ h => h) (Or.inr ⟨by kernel_rfl, rfl⟩) ⟨T3, T7, T14⟩ ?_
      simp only [Act.put, List.getElem_toArray, List.getElem_cons_succ, List.getElem_cons_zero, List.setIfInBounds_toArray, List.set_cons_zero, List.set_cons_succ]
      refine wpAnyH_take (i := 22) (v := undef) rfl (by kernel_rfl) (by kernel_rfl) (by kernel_rfl) (fun _ _ _ h => h) (Or.inr ⟨by kernel_rfl, rfl⟩) ⟨T3, T7, T14⟩ ?_
      simp only [Act.put, List.getElem_toArray, List.getElem_cons_succ, List.getElem_cons_zero, List.setIfInBounds_toArray, List.set_cons_zero, List.set_cons_succ]
      refine wpAnyH_take (i := 23) (v := undef) rfl (by kernel_rfl) (by kernel_rfl) (by kernel_rfl) (fun _ _ _ h => h) (Or.inr ⟨by kernel_rfl, rfl⟩) ⟨T3, T7, T14⟩ ?_
      simp only [Act.put, List.getElem_toArray, List.getElem_cons_succ, List.getElem_cons_zero, List.setIfInBounds_toArray, List.set_cons_zero, List.set_cons_succ]
      refine wpAnyH_ready (rs := [24]) (by kernel_rfl) (by simp) ?_
      refine AllReadyH.cons rfl (fun K hK => ?_) ?_
      · rw [if_neg (ne_true_of_eq_false (by kernel_rfl))]
        refine hK.out _ _ ⟨T3, T7, T14⟩ (fun _ => ?_)
        clear hK K
        try simp only [Act.put, List.getElem_toArray, List.getElem_cons_succ, List.getElem_cons_zero, List.setIfInBounds_toArray, List.set_cons_zero, List.set_cons_succ]
        refine wpAnyH_take (i := 25) (v := undef) rfl (by kernel_rfl) (by kernel_rfl) (by kernel_rfl) (fun _ _ _ h => h) (Or.inr ⟨by kernel_rfl, rfl⟩) ⟨T3, T7, T14⟩ ?_
        simp only [Act.put, List.getElem_toArray, List.getElem_cons_succ, List.getElem_cons_zero, List.setIfInBounds_toArray, List.set_cons_zero, List.set_cons_succ]
        refine wpAnyH_take (i := 26) (v := undef) rfl (by kernel_rfl) (by kernel_rfl) (by kernel_rfl) (fun _ _ _ h => h) (Or.inr ⟨by kernel_rfl, rfl⟩) ⟨T3, T7, T14⟩ ?_
        simp only [Act.put, List.getElem_toArray, List.getElem_cons_succ, List.getElem_cons_zero, List.setIfInBounds_toArray, List.set_cons_zero, List.set_cons_succ]
        refine wpAnyH_take (i := 27) (v := .bool true) rfl (by kernel_rfl) (by kernel_rfl) (by kernel_rfl) (fun _ _ _ h => h) (yields_pickt (.tmp 64) (.const (.bool true)) (.tmp 80) (.bool true) rfl (by kernel_rfl) (by kernel_rfl) (by kernel_rfl)) ⟨T3, T7, T14⟩ ?_
        simp only [Act.put, List.getElem_toArray, List.getElem_cons_succ, List.getElem_cons_zero, List.setIfInBounds_toArray, List.set_cons_zero, List.set_cons_succ]
        refine wpAnyH_take (i := 28) (v := .bool true) rfl (by kernel_rfl) (by kernel_rfl) (by kernel_rfl) (fun _ _ _ h => h) (yields_pickt (.tmp 61) (.tmp 81) (.const (.bool false)) (.bool true) rfl (by kernel_rfl) (by kernel_rfl) (by kernel_rfl)) ⟨T3, T7, T14⟩ ?_
        simp only [Act.put, List.getElem_toArray, List.getElem_cons_succ, List.getElem_cons_zero, List.setIfInBounds_toArray, List.set_cons_zero, List.set_cons_succ]
        refine wpAnyH_take (i := 29) (v := .bool true) rfl (by kernel_rfl) (by kernel_rfl) (by kernel_rfl) (fun _ _ _ h => h) (yields_move (.tmp 82) (.bool true) rfl (by kernel_rfl) (by kernel_rfl)) ⟨T3, T7, T14⟩ ?_
        simp only [Act.put, List.getElem_toArray, List.getElem_cons_succ, List.getElem_cons_zero, List.setIfInBounds_toArray, List.set_cons_zero, List.set_cons_succ]
        refine wpAnyH_take (i := 30) (v := .int .i64 0) rfl (by kernel_rfl) (by kernel_rfl) (by kernel_rfl) (fun _ _ _ h => h) (yields_move (.tmp 15) (.int .i64 0) rfl (by kernel_rfl) (by kernel_rfl)) ⟨T3, T7, T14⟩ ?_
        simp only [Act.put, List.getElem_toArray, List.getElem_cons_succ, List.getElem_cons_zero, List.setIfInBounds_toArray, List.set_cons_zero, List.set_cons_succ]
        refine wpAnyH_take (i := 31) (v := .bool true) rfl (by kernel_rfl) (by kernel_rfl) (by kernel_rfl) (fun _ _ _ h => h) (yields_eqi 24 (.tmp 84) (.const (.int .i64 0)) (0) (0) true rfl (by kernel_rfl) (by kernel_rfl) (by kernel_rfl) (by simp)) ⟨T3, T7, T14⟩ ?_
        simp only [Act.put, List.getElem_toArray, List.getElem_cons_succ, List.getElem_cons_zero, List.setIfInBounds_toArray, List.set_cons_zero, List.set_cons_succ]
        refine wpAnyH_take (i := 32) (v := .bool true) rfl (by kernel_rfl) (by kernel_rfl) (by kernel_rfl) (fun _ _ _ h => h) (yields_pickt (.tmp 83) (.tmp 85) (.const (.bool false)) (.bool true) rfl (by kernel_rfl) (by kernel_rfl) (by kernel_rfl)) ⟨T3, T7, T14⟩ ?_
        simp only [Act.put, List.getElem_toArray, List.getElem_cons_succ, List.getElem_cons_zero, List.setIfInBounds_toArray, List.set_cons_zero, List.set_cons_succ]
        refine wpAnyH_take (i := 33) (v := .bool true) rfl (by kernel_rfl) (by kernel_rfl) (by kernel_rfl) (fun _ _ _ h => h) (yields_move (.tmp 86) (.bool true) rfl (by kernel_rfl) (by kernel_rfl)) ⟨T3, T7, T14⟩ ?_
        simp only [Act.put, List.getElem_toArray, List.getElem_cons_succ, List.getElem_cons_zero, List.setIfInBounds_toArray, List.set_cons_zero, List.set_cons_succ]
        refine wpAnyH_take (i := 34) (v := .agg (pc f g)) rfl (by kernel_rfl) (by kernel_rfl) (by kernel_rfl) (fun _ _ _ h => h) (yields_load_pool (.tmp 14) rfl (by kernel_rfl) b14 (by kernel_rfl) f g (fun _ h => h.2.2)) ⟨T3, T7, T14⟩ ?_
        simp only [Act.put, List.getElem_toArray, List.getElem_cons_succ, List.getElem_cons_zero, List.setIfInBounds_toArray, List.set_cons_zero, List.set_cons_succ]
        refine wpAnyH_take (i := 35) (v := .agg (pc f g)) rfl (by kernel_rfl) (by kernel_rfl) (by kernel_rfl) (fun _ _ _ h => h) (yields_load_pool (.tmp 3) rfl (by kernel_rfl) w.heap.size (by kernel_rfl) f g (fun _ h => h.1)) ⟨T3, T7, T14⟩ ?_
        simp only [Act.put, List.getElem_toArray, List.getElem_cons_succ, List.getElem_cons_zero, List.setIfInBounds_toArray, List.set_cons_zero, List.set_cons_succ]
        refine wpAnyH_take (i := 36) (v := .bool true) rfl (by kernel_rfl) (by kernel_rfl) (by kernel_rfl) (fun _ _ _ h => h) (yields_eq_pool (.tmp 88) (.tmp 89) rfl (by kernel_rfl) f g w0 (by kernel_rfl) (by kernel_rfl)) ⟨T3, T7, T14⟩ ?_
        simp only [Act.put, List.getElem_toArray, List.getElem_cons_succ, List.getElem_cons_zero, List.setIfInBounds_toArray, List.set_cons_zero, List.set_cons_succ]
        refine wpAnyH_take (i := 37) (v := .bool true) rfl (by kernel_rfl) (by kernel_rfl) (by kernel_rfl) (fun _ _ _ h => h) (yields_pickt (.tmp 87) (.tmp 90) (.const (.bool false)) (.bool true) rfl (by kernel_rfl) (by kernel_rfl) (by kernel_rfl)) ⟨T3, T7, T14⟩ ?_
        simp only [Act.put, List.getElem_toArray, List.getElem_cons_succ, List.getElem_cons_zero, List.setIfInBounds_toArray, List.set_cons_zero, List.set_cons_succ]
        refine wpAnyH_take (i := 38) (v := .bool true) rfl (by kernel_rfl) (by kernel_rfl) (by kernel_rfl) (fun _ _ _ h => h) (yields_move (.tmp 91) (.bool true) rfl (by kernel_rfl) (by kernel_rfl)) ⟨T3, T7, T14⟩ ?_
        simp only [Act.put, List.getElem_toArray, List.getElem_cons_succ, List.getElem_cons_zero, List.setIfInBounds_toArray, List.set_cons_zero, List.set_cons_succ]
        refine wpAnyH_take (i := 39) (v := .agg (pc f G)) rfl (by kernel_rfl) (by kernel_rfl) (by kernel_rfl) (fun _ _ _ h => h) (yields_load_pool (.tmp 7) rfl (by kernel_rfl) b7 (by kernel_rfl) f G (fun _ h => h.2.1)) ⟨T3, T7, T14⟩ ?_
        simp only [Act.put, List.getElem_toArray, List.getElem_cons_succ, List.getElem_cons_zero, List.setIfInBounds_toArray, List.set_cons_zero, List.set_cons_succ]
        refine wpAnyH_take (i := 40) (v := .int .i64 a1) rfl (by kernel_rfl) (by kernel_rfl) (by kernel_rfl) (fun _ _ _ h => h) (yields_move (.tmp 1) (.int .i64 a1) rfl (by kernel_rfl) (by kernel_rfl)) ⟨T3, T7, T14⟩ ?_
        simp only [Act.put, List.getElem_toArray, List.getElem_cons_succ, List.getElem_cons_zero, List.setIfInBounds_toArray, List.set_cons_zero, List.set_cons_succ]
        refine wpAnyH_take (i := 42) (v := .agg (pc f g)) rfl (by kernel_rfl) (by kernel_rfl) (by kernel_rfl) (fun _ _ _ h => h) (yields_load_pool (.tmp 3) rfl (by kernel_rfl) w.heap.size (by kernel_rfl) f g (fun _ h => h.1)) ⟨T3, T7, T14⟩ ?_
        simp only [Act.put, List.getElem_toArray, List.getElem_cons_succ, List.getElem_cons_zero, List.setIfInBounds_toArray, List.set_cons_zero, List.set_cons_succ]
        refine wpAnyH_take (i := 43) (v := .int .i64 a1) rfl (by kernel_rfl) (by kernel_rfl) (by kernel_rfl) (fun _ _ _ h => h) (yields_move (.tmp 1) (.int .i64 a1) rfl (by kernel_rfl) (by kernel_rfl)) ⟨T3, T7, T14⟩ ?_
        simp only [Act.put, List.getElem_toArray, List.getElem_cons_succ, List.getElem_cons_zero, List.setIfInBounds_toArray, List.set_cons_zero, List.set_cons_succ]
        refine wpAnyH_ready (rs := [41]) (by kernel_rfl) (by simp) ?_
        refine AllReadyH.cons rfl (fun K hK => ?_) ?_
        · go_simp
          go_fit (C7 _); rintro e w' ⟨rfl, hb⟩; (try replace hb := below_undr' hb); replace T3 := T3.below hb; replace T7 := T7.below hb; replace T14 := T14.below hb; replace hB := hB.trans (hb.mono hB.size)
          go_wp2_with fail
          refine hK.out _ _ ⟨T3, T7, T14⟩ (fun _ => ?_)
          clear hK K
          try simp only [Act.put, List.getElem_toArray, List.getElem_cons_succ, List.getElem_cons_zero, List.setIfInBounds_toArray, List.set_cons_zero, List.set_cons_succ]
          refine wpAnyH_ready (rs := [44]) (by kernel_rfl) (by simp) ?_
          refine AllReadyH.cons rfl (fun K hK => ?_) ?_
          · go_simp
            go_fit (C8 _); rintro e w' ⟨rfl, hb⟩; (try replace hb := below_undr' hb); replace T3 := T3.below hb; replace T7 := T7.below hb; replace T14 := T14.below hb; replace hB := hB.trans (hb.mono hB.size)
            go_wp2_with fail
            refine hK.out _ _ ⟨T3, T7, T14⟩ (fun _ => ?_)
            clear hK K
            try simp only [Act.put, List.getElem_toArray, List.getElem_cons_succ, List.getElem_cons_zero, List.setIfInBounds_toArray, List.set_cons_zero, List.set_cons_succ]
            refine wpAnyH_take (i := 45) (v := .bool em) rfl (by kernel_rfl) (by kernel_rfl) (by kernel_rfl) (fun _ _ _ h => h) (yields_eqi 3 (.tmp 98) (.const (.int .i64 6)) (lf) (6) em rfl (by kernel_rfl) (by kernel_rfl) (by kernel_rfl) (hem)) ⟨T3, T7, T14⟩ ?_
            simp only [Act.put, List.getElem_toArray, List.getElem_cons_succ, List.getElem_cons_zero, List.setIfInBounds_toArray, List.set_cons_zero, List.set_cons_succ]
            refine wpAnyH_take (i := 46) (v := .bool true) rfl (by kernel_rfl) (by kernel_rfl) (by kernel_rfl) (fun _ _ _ h => h) (yields_eqb (.tmp 95) (.tmp 99) (em) (em) true rfl (by kernel_rfl) (by kernel_rfl) (by kernel_rfl) (by simp)) ⟨T3, T7, T14⟩ ?_
            simp only [Act.put, List.getElem_toArray, List.getElem_cons_succ, List.getElem_cons_zero, List.setIfInBounds_toArray, List.set_cons_zero, List.set_cons_succ]
            refine wpAnyH_take (i := 47) (v := .bool true) rfl (by kernel_rfl) (by kernel_rfl) (by kernel_rfl) (fun _ _ _ h => h) (yields_pickt (.tmp 92) (.tmp 100) (.const (.bool false)) (.bool true) rfl (by kernel_rfl) (by kernel_rfl) (by kernel_rfl)) ⟨T3, T7, T14⟩ ?_
            simp only [Act.put, List.getElem_toArray, List.getElem_cons_succ, List.getElem_cons_zero, List.setIfInBounds_toArray, List.set_cons_zero, List.set_cons_succ]
            refine wpAnyH_take (i := 48) (v := .bool true) rfl (by kernel_rfl) (by kernel_rfl) (by kernel_rfl) (fun _ _ _ h => h) (yields_move (.tmp 101) (.bool true) rfl (by kernel_rfl) (by kernel_rfl)) ⟨T3, T7, T14⟩ ?_
            simp only [Act.put, List.getElem_toArray, List.getElem_cons_succ, List.getElem_cons_zero, List.setIfInBounds_toArray, List.set_cons_zero, List.set_cons_succ]
            refine wpAnyH_take (i := 49) (v := .agg (pc f g)) rfl (by kernel_rfl) (by kernel_rfl) (by kernel_rfl) (fun _ _ _ h => h) (yields_load_pool (.tmp 3) rfl (by kernel_rfl) w.heap.size (by kernel_rfl) f g (fun _ h => h.1)) ⟨T3, T7, T14⟩ ?_
            simp only [Act.put, List.getElem_toArray, List.getElem_cons_succ, List.getElem_cons_zero, List.setIfInBounds_toArray, List.set_cons_zero, List.set_cons_succ]
            refine wpAnyH_take (i := 50) (v := .int .i64 a1) rfl (by kernel_rfl) (by kernel_rfl) (by kernel_rfl) (fun _ _ _ h => h) (yields_move (.tmp 1) (.int .i64 a1) rfl (by kernel_rfl) (by kernel_rfl)) ⟨T3, T7, T14⟩ ?_
            simp only [Act.put, List.getElem_toArray, List.getElem_cons_succ, List.getElem_cons_zero, List.setIfInBounds_toArray, List.set_cons_zero, List.set_cons_succ]
            refine wpAnyH_ready (rs := [51]) (by kernel_rfl) (by simp) ?_
            refine AllReadyH.cons rfl (fun K hK => ?_) ?_
            · go_simp
              go_fit (C9 _); rintro e w' ⟨rfl, hb⟩; (try replace hb := below_undr' hb); replace T3 := T3.below hb; replace T7 := T7.below hb; replace T14 := T14.below hb; replace hB := hB.trans (hb.mono hB.size)
              go_wp2_with fail
              refine hK.out _ _ ⟨T3, T7, T14⟩ (fun _ => ?_)
              clear hK K
              try simp only [Act.put, List.getElem_toArray, List.getElem_cons_succ, List.getElem_cons_zero, List.setIfInBounds_toArray, List.set_cons_zero, List.set_cons_succ]
              refine wpAnyH_take (i := 52) (v := .bool true) rfl (by kernel_rfl) (by kernel_rfl) (by kernel_rfl) (fun _ _ _ h => h) (yields_not (.tmp 105) false true rfl (by kernel_rfl) (by kernel_rfl) (rfl)) ⟨T3, T7, T14⟩ ?_
              simp only [Act.put, List.getElem_toArray, List.getElem_cons_succ, List.getElem_cons_zero, List.setIfInBounds_toArray, List.set_cons_zero, List.set_cons_succ]
              refine wpAnyH_take (i := 53) (v := .bool true) rfl (by kernel_rfl) (by kernel_rfl) (by kernel_rfl) (fun _ _ _ h => h) (yields_pickt (.tmp 102) (.tmp 106) (.const (.bool false)) (.bool true) rfl (by kernel_rfl) (by kernel_rfl) (by kernel_rfl)) ⟨T3, T7, T14⟩ ?_
              simp only [Act.put, List.getElem_toArray, List.getElem_cons_succ, List.getElem_cons_zero, List.setIfInBounds_toArray, List.set_cons_zero, List.set_cons_succ]
              refine wpAnyH_take (i := 54) (v := .bool true) rfl (by kernel_rfl) (by kernel_rfl) (by kernel_rfl) (fun _ _ _ h => h) (yields_assign (.tmp 107) (.bool true) rfl (by kernel_rfl) (by kernel_rfl)) ⟨T3, T7, T14⟩ ?_
              simp only [Act.put, List.getElem_toArray, List.getElem_cons_succ, List.getElem_cons_zero, List.setIfInBounds_toArray, List.set_cons_zero, List.set_cons_succ]
              refine wpAnyH_done (by kernel_rfl) ?_ _
              refine NoPanic.normal ?_
              go_wp2_with fail
              go_ret
              exact ⟨by kernel_rfl, hB⟩
            exact AllReadyH.nil
          exact AllReadyH.nil
        exact AllReadyH.nil
      exact AllReadyH.nil
    exact AllReadyH.nil
  | true =>
    rw [hgp] at C2 C5
    obtain ⟨te, hte0⟩ : ∃ te : Int, (if true = true then 9 else 2) = te := ⟨_, rfl⟩
    rw [hte0] at C2
    have hte : (te == 9) = true := by rw [← hte0]; decide
    clear hte0
    by_cases hz : (openL f G).length = 0
    · have hpe0 : Hid (pickE f G = 10) := by show _ = _; unfold pickE; rw [if_pos hgp, if_pos hz]
      generalize pickE f G = pe at *
      generalize pickK f G a2 = pk at *
      have hpe : (pe != 0) = true := by rw [hpe0.out]; decide
      clear hgp hpe0 hmem CL hG hGn hGo hz
      unfold plv at *
      go_enter Try.func7, Try.ntmps7
      go_upto_region 7 with (first | (refine wpList_load_pool _ rfl ?_ _ rfl f g T3 ?_; · kernel_rfl) | (refine wpList_load_pool _ rfl ?_ _ rfl f G T7 ?_; · kernel_rfl) | (go_at_call 33; go_fit (C1 _); rintro e w' ⟨rfl, hb⟩; (try replace hb := below_undr' hb); replace T3 := T3.below hb; (try replace T7 := T7.below hb); (try replace T9 := T9.below hb); (try replace T14 := T14.below hb); replace hB := hB.trans (hb.mono hB.size)) | (go_at_call 20; go_fit (C2 _); rintro e w' ⟨rfl, hb⟩; (try replace hb := below_undr' hb); replace T3 := T3.below hb; (try replace T7 := T7.below hb); (try replace T9 := T9.below hb); (try replace T14 := T14.below hb); replace hB := hB.trans (hb.mono hB.size)) | (go_at_call 22; go_fit (C3 _); rintro e w' ⟨rfl, hb⟩; (try replace hb := below_undr' hb); replace T3 := T3.below hb; (try replace T7 := T7.below hb); (try replace T9 := T9.below hb); (try replace T14 := T14.below hb); replace hB := hB.trans (hb.mono hB.size)) | (go_at_call 35; go_fit (C4 _); rintro e w' ⟨rfl, hb⟩; (try replace hb := below_undr' hb); replace T3 := T3.below hb; (try replace T7 := T7.below hb); (try replace T9 := T9.below hb); (try replace T14 := T14.below hb); replace hB := hB.trans (hb.mono hB.size)) | (refine wpList_alloc_pool rfl rfl ?_; intro b14 w8 eb14 T14 hk8 hb8 hs8; have nb14T3 := (hk8 _ _ T3).2; replace T3 := (hk8 _ _ T3).1; have nb14T7 := (hk8 _ _ T7).2; replace T7 := (hk8 _ _ T7).1; have nb14T9 := (hk8 _ _ T9).2; replace T9 := (hk8 _ _ T9).1; replace hB := hb8 _ _ hB hB.size; have lb14 : w.heap.size ≤ b14 := (by rw [eb14]; have := T3.lt; omega); clear hs8 hk8 hb8 eb14) | (refine wpList_alloc_pool rfl rfl ?_; intro b9 w8 eb9 T9 hk8 hb8 hs8; have nb9T3 := (hk8 _ _ T3).2; replace T3 := (hk8 _ _ T3).1; have nb9T7 := (hk8 _ _ T7).2; replace T7 := (hk8 _ _ T7).1; replace hB := hb8 _ _ hB hB.size; have lb9 : w.heap.size ≤ b9 := (by rw [eb9]; have := T3.lt; omega); clear hs8 hk8 hb8 eb9) | (refine wpList_alloc_pool rfl rfl ?_; intro b7 w8 eb7 T7 hk8 hb8 hs8; have nb7T3 := (hk8 _ _ T3).2; replace T3 := (hk8 _ _ T3).1; replace hB := hb8 _ _ hB hB.size; have lb7 : w.heap.size ≤ b7 := (by rw [eb7]; have := T3.lt; omega); clear hs8 hk8 hb8 eb7) | (refine wpList_store_pool rfl _ _ rfl b14 rfl f g rfl (pc (fun _ => 0) (fun _ => false)) T14 rfl ?_; intro w8 T14 hs8 hk8 hb8; replace T3 := hk8 _ _ nb14T3 T3; replace T7 := hk8 _ _ nb14T7 T7; replace T9 := hk8 _ _ nb14T9 T9; replace hB := hb8 _ _ lb14 hB; clear hs8 hk8 hb8) | (refine wpList_store_pool rfl _ _ rfl b9 rfl f G rfl (pc (fun _ => 0) (fun _ => false)) T9 rfl ?_; intro w8 T9 hs8 hk8 hb8; replace T3 := hk8 _ _ nb9T3 T3; replace T7 := hk8 _ _ nb9T7 T7; replace hB := hb8 _ _ lb9 hB; clear hs8 hk8 hb8) | (refine wpList_store_pool rfl _ _ rfl b7 rfl f G rfl (pc (fun _ => 0) (fun _ => false)) T7 rfl ?_; intro w8 T7 hs8 hk8 hb8; replace T3 := hk8 _ _ nb7T3 T3; replace hB := hb8 _ _ lb7 hB; clear hs8 hk8 hb8) | (go_at_call 36; refine (poolsKeep_any _).mono ?_; rintro e w' ⟨rfl, hb⟩; (try replace hb := below_undr' hb); replace T3 := T3.below hb; (try replace T7 := T7.below hb); (try replace T9 := T9.below hb); (try replace T14 := T14.below hb); replace hB := hB.trans (hb.mono hB.size)))
      refine wp_region_noPanic ?_
      refine wp_region_held_drew (S := fun w' => PRow w' w.heap.size (pc f g) ∧ PRow w' b7 (pc f G) ∧ PRow w' b14 (pc f g)) (by kernel_rfl) ⟨T3, T7, T14⟩ (fun _ => ?_)
      refine wpAnyH_take (i := 0) (v := .int .i64 te) rfl (by kernel_rfl) (by kernel_rfl) (by kernel_rfl) (fun _ _ _ h => h) (yields_move (.tmp 11) (.int .i64 te) rfl (by kernel_rfl) (by kernel_rfl)) ⟨T3, T7, T14⟩ ?_
      simp only [Act.put, List.getElem_toArray, List.getElem_cons_succ, List.getElem_cons_zero, List.setIfInBounds_toArray, List.set_cons_zero, List.set_cons_succ]
      refine wpAnyH_take (i := 1) (v := .bool true) rfl (by kernel_rfl) (by kernel_rfl) (by kernel_rfl) (fun _ _ _ h => h) (yields_eqi 24 (.tmp 54) (.const (.int .i64 9)) (te) (9) true rfl (by kernel_rfl) (by kernel_rfl) (by kernel_rfl) (hte)) ⟨T3, T7, T14⟩ ?_
      simp only [Act.put, List.getElem_toArray, List.getElem_cons_succ, List.getElem_cons_zero, List.setIfInBounds_toArray, List.set_cons_zero, List.set_cons_succ]
      refine wpAnyH_take (i := 2) (v := .bool true) rfl (by kernel_rfl) (by kernel_rfl) (by kernel_rfl) (fun _ _ _ h => h) (yields_move (.tmp 55) (.bool true) rfl (by kernel_rfl) (by kernel_rfl)) ⟨T3, T7, T14⟩ ?_
      simp only [Act.put, List.getElem_toArray, List.getElem_cons_succ, List.getElem_cons_zero, List.setIfInBounds_toArray, List.set_cons_zero, List.set_cons_succ]
      refine wpAnyH_take (i := 3) (v := undef) rfl (by kernel_rfl) (by kernel_rfl) (by kernel_rfl) (fun _ _ _ h => h) (Or.inr ⟨by kernel_rfl, rfl⟩) ⟨T3, T7, T14⟩ ?_
      simp only [Act.put, List.getElem_toArray, List.getElem_cons_succ, List.getElem_cons_zero, List.setIfInBounds_toArray, List.set_cons_zero, List.set_cons_succ]
      refine wpAnyH_ready (rs := [4]) (by kernel_rfl) (by simp) ?_
      refine AllReadyH.cons rfl (fun K hK => ?_) ?_
      · rw [if_neg (ne_true_of_eq_false (by kernel_rfl))]
        refine hK.out _ _ ⟨T3, T7, T14⟩ (fun _ => ?_)
        clear hK K
        try simp only [Act.put, List.getElem_toArray, List.getElem_cons_succ, List.getElem_cons_zero, List.setIfInBounds_toArray, List.set_cons_zero, List.set_cons_succ]
        refine wpAnyH_take (i := 5) (v := undef) rfl (by kernel_rfl) (by kernel_rfl) (by kernel_rfl) (fun _ _ _ h => h) (Or.inr ⟨by kernel_rfl, rfl⟩) ⟨T3, T7, T14⟩ ?_
        simp only [Act.put, List.getElem_toArray, List.getElem_cons_succ, List.getElem_cons_zero, List.setIfInBounds_toArray, List.set_cons_zero, List.set_cons_succ]
        refine wpAnyH_take (i := 6) (v := .bool true) rfl (by kernel_rfl) (by kernel_rfl) (by kernel_rfl) (fun _ _ _ h => h) (yields_pickt (.tmp 56) (.const (.bool true)) (.tmp 59) (.bool true) rfl (by kernel_rfl) (by kernel_rfl) (by kernel_rfl)) ⟨T3, T7, T14⟩ ?_
        simp only [Act.put, List.getElem_toArray, List.getElem_cons_succ, List.getElem_cons_zero, List.setIfInBounds_toArray, List.set_cons_zero, List.set_cons_succ]
        refine wpAnyH_take (i := 7) (v := .bool true) rfl (by kernel_rfl) (by kernel_rfl) (by kernel_rfl) (fun _ _ _ h => h) (yields_move (.tmp 60) (.bool true) rfl (by kernel_rfl) (by kernel_rfl)) ⟨T3, T7, T14⟩ ?_
        simp only [Act.put, List.getElem_toArray, List.getElem_cons_succ, List.getElem_cons_zero, List.setIfInBounds_toArray, List.set_cons_zero, List.set_cons_succ]
        refine wpAnyH_take (i := 8) (v := .int .i64 pe) rfl (by kernel_rfl) (by kernel_rfl) (by kernel_rfl) (fun _ _ _ h => h) (yields_move (.tmp 13) (.int .i64 pe) rfl (by kernel_rfl) (by kernel_rfl)) ⟨T3, T7, T14⟩ ?_
        simp only [Act.put, List.getElem_toArray, List.getElem_cons_succ, List.getElem_cons_zero, List.setIfInBounds_toArray, List.set_cons_zero, List.set_cons_succ]
        refine wpAnyH_take (i := 9) (v := .bool true) rfl (by kernel_rfl) (by kernel_rfl) (by kernel_rfl) (fun _ _ _ h => h) (yields_nei 24 (.tmp 62) (.const (.int .i64 0)) (pe) (0) true rfl (by kernel_rfl) (by kernel_rfl) (by kernel_rfl) (hpe)) ⟨T3, T7, T14⟩ ?_
        simp only [Act.put, List.getElem_toArray, List.getElem_cons_succ, List.getElem_cons_zero, List.setIfInBounds_toArray, List.set_cons_zero, List.set_cons_succ]
        refine wpAnyH_take (i := 10) (v := .bool true) rfl (by kernel_rfl) (by kernel_rfl) (by kernel_rfl) (fun _ _ _ h => h) (yields_move (.tmp 63) (.bool true) rfl (by kernel_rfl) (by kernel_rfl)) ⟨T3, T7, T14⟩ ?_
        simp only [Act.put, List.getElem_toArray, List.getElem_cons_succ, List.getElem_cons_zero, List.setIfInBounds_toArray, List.set_cons_zero, List.set_cons_succ]
        refine wpAnyH_take (i := 11) (v := undef) rfl (by kernel_rfl) (by kernel_rfl) (by kernel_rfl) (fun _ _ _ h => h) (Or.inr ⟨by kernel_rfl, rfl⟩) ⟨T3, T7, T14⟩ ?_
        simp only [Act.put, List.getElem_toArray, List.getElem_cons_succ, List.getElem_cons_zero, List.setIfInBounds_toArray, List.set_cons_zero, List.set_cons_succ]
        refine wpAnyH_take (i := 12) (v := undef) rfl (by kernel_rfl) (by kernel_rfl) (by kernel_rfl) (fun _ _ _ h => h) (Or.inr ⟨by kernel_rfl, rfl⟩) ⟨T3, T7, T14⟩ ?_
        simp only [Act.put, List.getElem_toArray, List.getElem_cons_succ, List.getElem_cons_zero, List.setIfInBounds_toArray, List.set_cons_zero, List.set_cons_succ]
        refine wpAnyH_take (i := 13) (v := undef) rfl (by kernel_rfl) (by kernel_rfl) (by kernel_rfl) (fun _ _ _ h => h) (Or.inr ⟨by kernel_rfl, rfl⟩) ⟨T3, T7, T14⟩ ?_
        simp only [Act.put, List.getElem_toArray, List.getElem_cons_succ, List.getElem_cons_zero, List.setIfInBounds_toArray, List.set_cons_zero, List.set_cons_succ]
        refine wpAnyH_take (i := 14) (v := undef) rfl (by kernel_rfl) (by kernel_rfl) (by kernel_rfl) (fun _ _ _ h => h) (Or.inr ⟨by kernel_rfl, rfl⟩) ⟨T3, T7, T14⟩ ?_
        simp only [Act.put, List.getElem_toArray, List.getElem_cons_succ, List.getElem_cons_zero, List.setIfInBounds_toArray, List.set_cons_zero, List.set_cons_succ]
        refine wpAnyH_take (i := 15) (v := undef) rfl (by kernel_rfl) (by kernel_rfl) (by kernel_rfl) (fun _ _ _ h => h) (Or.inr ⟨by kernel_rfl, rfl⟩) ⟨T3, T7, T14⟩ ?_
        simp only [Act.put, List.getElem_toArray, List.getElem_cons_succ, List.getElem_cons_zero, List.setIfInBounds_toArray, List.set_cons_zero, List.set_cons_succ]
        refine wpAnyH_take (i := 16) (v := undef) rfl (by kernel_rfl) (by kernel_rfl) (by kernel_rfl) (fun _ _ _ h => h) (Or.inr ⟨by kernel_rfl, rfl⟩) ⟨T3, T7, T14⟩ ?_
        simp only [Act.put, List.getElem_toArray, List.getElem_cons_succ, List.getElem_cons_zero, List.setIfInBounds_toArray, List.set_cons_zero, List.set_cons_succ]
        refine wpAnyH_take (i := 17) (v := undef) rfl (by kernel_rfl) (by kernel_rfl) (by kernel_rfl) (fun _ _ _ h => h) (Or.inr ⟨by kernel_rfl, rfl⟩) ⟨T3, T7, T14⟩ ?_
        simp only [Act.put, List.getElem_toArray, List.getElem_cons_succ, List.getElem_cons_zero, List.setIfInBounds_toArray, List.set_cons_zero, List.set_cons_succ]
        refine wpAnyH_take (i := 18) (v := undef) rfl (by kernel_rfl) (by kernel_rfl) (by kernel_rfl) (fun _ _ _ h => h) (Or.inr ⟨by kernel_rfl, rfl⟩) ⟨T3, T7, T14⟩ ?_
        simp only [Act.put, List.getElem_toArray, List.getElem_cons_succ, List.getElem_cons_zero, List.setIfInBounds_toArray, List.set_cons_zero, List.set_cons_succ]
        refine wpAnyH_take (i := 19) (v := undef) rfl (by kernel_rfl) (by kernel_rfl) (by kernel_rfl) (fun _ _ _ h => h) (Or.inr ⟨by kernel_rfl, rfl⟩) ⟨T3, T7, T14⟩ ?_
        simp only [Act.put, List.getElem_toArray, List.getElem_cons_succ, List.getElem_cons_zero, List.setIfInBounds_toArray, List.set_cons_zero, List.set_cons_succ]
        refine wpAnyH_take (i := 20) (v := undef) rfl (by kernel_rfl) (by kernel_rfl) (by kernel_rfl) (fun _ _ _ h => h) (Or.inr ⟨by kernel_rfl, rfl⟩) ⟨T3, T7, T14⟩ ?_
        simp only [Act.put, List.getElem_toArray, List.getElem_cons_succ, List.getElem_cons_zero, List.setIfInBounds_toArray, List.set_cons_zero, List.set_cons_succ]
        refine wpAnyH_take (i := 21) (v := undef) rfl (by kernel_rfl) (by kernel_rfl) (by kernel_rfl) (fun _ _ _ h => h) (Or.inr ⟨by kernel_rfl, rfl⟩) ⟨T3, T7, T14⟩ ?_
        simp only [Act.put, List.getElem_toArray, List.getElem_cons_succ, List.getElem_cons_zero, List.setIfInBounds_toArray, List.set_cons_zero, List.set_cons_succ]
        refine wpAnyH_take (i := 22) (v := undef) rfl (by kernel_rfl) (by kernel_rfl) (by kernel_rfl) (fun _ _ _ h => h) (Or.inr ⟨by kernel_rfl, rfl⟩) ⟨T3, T7, T14⟩ ?_
        simp only [Act.put, List.getElem_toArray, List.getElem_cons_succ, List.getElem_cons_zero, List.setIfInBounds_toArray, List.set_cons_zero, List.set_cons_succ]
        refine wpAnyH_take (i := 23) (v := undef) rfl (by kernel_rfl) (by kernel_rfl) (by kernel_rfl) (fun _ _ _ h => h) (Or.inr ⟨by kernel_rfl, rfl⟩) ⟨T3, T7, T14⟩ ?_
        simp only [Act.put, List.getElem_toArray, List.getElem_cons_succ, List.getElem_cons_zero, List.setIfInBounds_toArray, List.set_cons_zero, List.set_cons_succ]
        refine wpAnyH_ready (rs := [24]) (by kernel_rfl) (by simp) ?_
        refine AllReadyH.cons rfl (fun K hK => ?_) ?_
        · rw [if_neg (ne_true_of_eq_false (by kernel_rfl))]
          refine hK.out _ _ ⟨T3, T7, T14⟩ (fun _ => ?_)
          clear hK K
          try simp only [Act.put, List.getElem_toArray, List.getElem_cons_succ, List.getElem_cons_zero, List.setIfInBounds_toArray, List.set_cons_zero, List.set_cons_succ]
          refine wpAnyH_take (i := 25) (v := undef) rfl (by kernel_rfl) (by kernel_rfl) (by kernel_rfl) (fun _ _ _ h => h) (Or.inr ⟨by kernel_rfl, rfl⟩) ⟨T3, T7, T14⟩ ?_
          simp only [Act.put, List.getElem_toArray, List.getElem_cons_succ, List.getElem_cons_zero, List.setIfInBounds_toArray, List.set_cons_zero, List.set_cons_succ]
          refine wpAnyH_take (i := 26) (v := undef) rfl (by kernel_rfl) (by kernel_rfl) (by kernel_rfl) (fun _ _ _ h => h) (Or.inr ⟨by kernel_rfl, rfl⟩) ⟨T3, T7, T14⟩ ?_
          simp only [Act.put, List.getElem_toArray, List.getElem_cons_succ, List.getElem_cons_zero, List.setIfInBounds_toArray, List.set_cons_zero, List.set_cons_succ]
          refine wpAnyH_take (i := 27) (v := .bool true) rfl (by kernel_rfl) (by kernel_rfl) (by kernel_rfl) (fun _ _ _ h => h) (yields_pickt (.tmp 64) (.const (.bool true)) (.tmp 80) (.bool true) rfl (by kernel_rfl) (by kernel_rfl) (by kernel_rfl)) ⟨T3, T7, T14⟩ ?_
          simp only [Act.put, List.getElem_toArray, List.getElem_cons_succ, List.getElem_cons_zero, List.setIfInBounds_toArray, List.set_cons_zero, List.set_cons_succ]
          refine wpAnyH_take (i := 28) (v := .bool true) rfl (by kernel_rfl) (by kernel_rfl) (by kernel_rfl) (fun _ _ _ h => h) (yields_pickt (.tmp 61) (.tmp 81) (.const (.bool false)) (.bool true) rfl (by kernel_rfl) (by kernel_rfl) (by kernel_rfl)) ⟨T3, T7, T14⟩ ?_
          simp only [Act.put, List.getElem_toArray, List.getElem_cons_succ, List.getElem_cons_zero, List.setIfInBounds_toArray, List.set_cons_zero, List.set_cons_succ]
          refine wpAnyH_take (i := 29) (v := .bool true) rfl (by kernel_rfl) (by kernel_rfl) (by kernel_rfl) (fun _ _ _ h => h) (yields_move (.tmp 82) (.bool true) rfl (by kernel_rfl) (by kernel_rfl)) ⟨T3, T7, T14⟩ ?_
          simp only [Act.put, List.getElem_toArray, List.getElem_cons_succ, List.getElem_cons_zero, List.setIfInBounds_toArray, List.set_cons_zero, List.set_cons_succ]
          refine wpAnyH_take (i := 30) (v := .int .i64 0) rfl (by kernel_rfl) (by kernel_rfl) (by kernel_rfl) (fun _ _ _ h => h) (yields_move (.tmp 15) (.int .i64 0) rfl (by kernel_rfl) (by kernel_rfl)) ⟨T3, T7, T14⟩ ?_
          simp only [Act.put, List.getElem_toArray, List.getElem_cons_succ, List.getElem_cons_zero, List.setIfInBounds_toArray, List.set_cons_zero, List.set_cons_succ]
          refine wpAnyH_take (i := 31) (v := .bool true) rfl (by kernel_rfl) (by kernel_rfl) (by kernel_rfl) (fun _ _ _ h => h) (yields_eqi 24 (.tmp 84) (.const (.int .i64 0)) (0) (0) true rfl (by kernel_rfl) (by kernel_rfl) (by kernel_rfl) (by simp)) ⟨T3, T7, T14⟩ ?_
          simp only [Act.put, List.getElem_toArray, List.getElem_cons_succ, List.getElem_cons_zero, List.setIfInBounds_toArray, List.set_cons_zero, List.set_cons_succ]
          refine wpAnyH_take (i := 32) (v := .bool true) rfl (by kernel_rfl) (by kernel_rfl) (by kernel_rfl) (fun _ _ _ h => h) (yields_pickt (.tmp 83) (.tmp 85) (.const (.bool false)) (.bool true) rfl (by kernel_rfl) (by kernel_rfl) (by kernel_rfl)) ⟨T3, T7, T14⟩ ?_
          simp only [Act.put, List.getElem_toArray, List.getElem_cons_succ, List.getElem_cons_zero, List.setIfInBounds_toArray, List.set_cons_zero, List.set_cons_succ]
          refine wpAnyH_take (i := 33) (v := .bool true) rfl (by kernel_rfl) (by kernel_rfl) (by kernel_rfl) (fun _ _ _ h => h) (yields_move (.tmp 86) (.bool true) rfl (by kernel_rfl) (by kernel_rfl)) ⟨T3, T7, T14⟩ ?_
          simp only [Act.put, List.getElem_toArray, List.getElem_cons_succ, List.getElem_cons_zero, List.setIfInBounds_toArray, List.set_cons_zero, List.set_cons_succ]
          refine wpAnyH_take (i := 34) (v := .agg (pc f g)) rfl (by kernel_rfl) (by kernel_rfl) (by kernel_rfl) (fun _ _ _ h => h) (yields_load_pool (.tmp 14) rfl (by kernel_rfl) b14 (by kernel_rfl) f g (fun _ h => h.2.2)) ⟨T3, T7, T14⟩ ?_
          simp only [Act.put, List.getElem_toArray, List.getElem_cons_succ, List.getElem_cons_zero, List.setIfInBounds_toArray, List.set_cons_zero, List.set_cons_succ]
          refine wpAnyH_take (i := 35) (v := .agg (pc f g)) rfl (by kernel_rfl) (by kernel_rfl) (by kernel_rfl) (fun _ _ _ h => h) (yields_load_pool (.tmp 3) rfl (by kernel_rfl) w.heap.size (by kernel_rfl) f g (fun _ h => h.1)) ⟨T3, T7, T14⟩ ?_
          simp only [Act.put, List.getElem_toArray, List.getElem_cons_succ, List.getElem_cons_zero, List.setIfInBounds_toArray, List.set_cons_zero, List.set_cons_succ]
          refine wpAnyH_take (i := 36) (v := .bool true) rfl (by kernel_rfl) (by kernel_rfl) (by kernel_rfl) (fun _ _ _ h => h) (yields_eq_pool (.tmp 88) (.tmp 89) rfl (by kernel_rfl) f g w0 (by kernel_rfl) (by kernel_rfl)) ⟨T3, T7, T14⟩ ?_
          simp only [Act.put, List.getElem_toArray, List.getElem_cons_succ, List.getElem_cons_zero, List.setIfInBounds_toArray, List.set_cons_zero, List.set_cons_succ]
          refine wpAnyH_take (i := 37) (v := .bool true) rfl (by kernel_rfl) (by kernel_rfl) (by kernel_rfl) (fun _ _ _ h => h) (yields_pickt (.tmp 87) (.tmp 90) (.const (.bool false)) (.bool true) rfl (by kernel_rfl) (by kernel_rfl) (by kernel_rfl)) ⟨T3, T7, T14⟩ ?_
          simp only [Act.put, List.getElem_toArray, List.getElem_cons_succ, List.getElem_cons_zero, List.setIfInBounds_toArray, List.set_cons_zero, List.set_cons_succ]
          refine wpAnyH_take (i := 38) (v := .bool true) rfl (by kernel_rfl) (by kernel_rfl) (by kernel_rfl) (fun _ _ _ h => h) (yields_move (.tmp 91) (.bool true) rfl (by kernel_rfl) (by kernel_rfl)) ⟨T3, T7, T14⟩ ?_
          simp only [Act.put, List.getElem_toArray, List.getElem_cons_succ, List.getElem_cons_zero, List.setIfInBounds_toArray, List.set_cons_zero, List.set_cons_succ]
          refine wpAnyH_take (i := 39) (v := .agg (pc f G)) rfl (by kernel_rfl) (by kernel_rfl) (by kernel_rfl) (fun _ _ _ h => h) (yields_load_pool (.tmp 7) rfl (by kernel_rfl) b7 (by kernel_rfl) f G (fun _ h => h.2.1)) ⟨T3, T7, T14⟩ ?_
          simp only [Act.put, List.getElem_toArray, List.getElem_cons_succ, List.getElem_cons_zero, List.setIfInBounds_toArray, List.set_cons_zero, List.set_cons_succ]
          refine wpAnyH_take (i := 40) (v := .int .i64 a1) rfl (by kernel_rfl) (by kernel_rfl) (by kernel_rfl) (fun _ _ _ h => h) (yields_move (.tmp 1) (.int .i64 a1) rfl (by kernel_rfl) (by kernel_rfl)) ⟨T3, T7, T14⟩ ?_
          simp only [Act.put, List.getElem_toArray, List.getElem_cons_succ, List.getElem_cons_zero, List.setIfInBounds_toArray, List.set_cons_zero, List.set_cons_succ]
          refine wpAnyH_take (i := 42) (v := .agg (pc f g)) rfl (by kernel_rfl) (by kernel_rfl) (by kernel_rfl) (fun _ _ _ h => h) (yields_load_pool (.tmp 3) rfl (by kernel_rfl) w.heap.size (by kernel_rfl) f g (fun _ h => h.1)) ⟨T3, T7, T14⟩ ?_
          simp only [Act.put, List.getElem_toArray, List.getElem_cons_succ, List.getElem_cons_zero, List.setIfInBounds_toArray, List.set_cons_zero, List.set_cons_succ]
          refine wpAnyH_take (i := 43) (v := .int .i64 a1) rfl (by kernel_rfl) (by kernel_rfl) (by kernel_rfl) (fun _ _ _ h => h) (yields_move (.tmp 1) (.int .i64 a1) rfl (by kernel_rfl) (by kernel_rfl)) ⟨T3, T7, T14⟩ ?_
          simp only [Act.put, List.getElem_toArray, List.getElem_cons_succ, List.getElem_cons_zero, List.setIfInBounds_toArray, List.set_cons_zero, List.set_cons_succ]
          refine wpAnyH_ready (rs := [41]) (by kernel_rfl) (by simp) ?_
          refine AllReadyH.cons rfl (fun K hK => ?_) ?_
          · go_simp
            go_fit (C7 _); rintro e w' ⟨rfl, hb⟩; (try replace hb := below_undr' hb); replace T3 := T3.below hb; replace T7 := T7.below hb; replace T14 := T14.below hb; replace hB := hB.trans (hb.mono hB.size)
            go_wp2_with fail
            refine hK.out _ _ ⟨T3, T7, T14⟩ (fun _ => ?_)
            clear hK K
            try simp only [Act.put, List.getElem_toArray, List.getElem_cons_succ, List.getElem_cons_zero, List.setIfInBounds_toArray, List.set_cons_zero, List.set_cons_succ]
            refine wpAnyH_ready (rs := [44]) (by kernel_rfl) (by simp) ?_
            refine AllReadyH.cons rfl (fun K hK => ?_) ?_
            · go_simp
              go_fit (C8 _); rintro e w' ⟨rfl, hb⟩; (try replace hb := below_undr' hb); replace T3 := T3.below hb; replace T7 := T7.below hb; replace T14 := T14.below hb; replace hB := hB.trans (hb.mono hB.size)
              go_wp2_with fail
              refine hK.out _ _ ⟨T3, T7, T14⟩ (fun _ => ?_)
              clear hK K
              try simp only [Act.put, List.getElem_toArray, List.getElem_cons_succ, List.getElem_cons_zero, List.setIfInBounds_toArray, List.set_cons_zero, List.set_cons_succ]
              refine wpAnyH_take (i := 45) (v := .bool em) rfl (by kernel_rfl) (by kernel_rfl) (by kernel_rfl) (fun _ _ _ h => h) (yields_eqi 3 (.tmp 98) (.const (.int .i64 6)) (lf) (6) em rfl (by kernel_rfl) (by kernel_rfl) (by kernel_rfl) (hem)) ⟨T3, T7, T14⟩ ?_
              simp only [Act.put, List.getElem_toArray, List.getElem_cons_succ, List.getElem_cons_zero, List.setIfInBounds_toArray, List.set_cons_zero, List.set_cons_succ]
              refine wpAnyH_take (i := 46) (v := .bool true) rfl (by kernel_rfl) (by kernel_rfl) (by kernel_rfl) (fun _ _ _ h => h) (yields_eqb (.tmp 95) (.tmp 99) (em) (em) true rfl (by kernel_rfl) (by kernel_rfl) (by kernel_rfl) (by simp)) ⟨T3, T7, T14⟩ ?_
              simp only [Act.put, List.getElem_toArray, List.getElem_cons_succ, List.getElem_cons_zero, List.setIfInBounds_toArray, List.set_cons_zero, List.set_cons_succ]
              refine wpAnyH_take (i := 47) (v := .bool true) rfl (by kernel_rfl) (by kernel_rfl) (by kernel_rfl) (fun _ _ _ h => h) (yields_pickt (.tmp 92) (.tmp 100) (.const (.bool false)) (.bool true) rfl (by kernel_rfl) (by kernel_rfl) (by kernel_rfl)) ⟨T3, T7, T14⟩ ?_
              simp only [Act.put, List.getElem_toArray, List.getElem_cons_succ, List.getElem_cons_zero, List.setIfInBounds_toArray, List.set_cons_zero, List.set_cons_succ]
              refine wpAnyH_take (i := 48) (v := .bool true) rfl (by kernel_rfl) (by kernel_rfl) (by kernel_rfl) (fun _ _ _ h => h) (yields_move (.tmp 101) (.bool true) rfl (by kernel_rfl) (by kernel_rfl)) ⟨T3, T7, T14⟩ ?_
              simp only [Act.put, List.getElem_toArray, List.getElem_cons_succ, List.getElem_cons_zero, List.setIfInBounds_toArray, List.set_cons_zero, List.set_cons_succ]
              refine wpAnyH_take (i := 49) (v := .agg (pc f g)) rfl (by kernel_rfl) (by kernel_rfl) (by kernel_rfl) (fun _ _ _ h => h) (yields_load_pool (.tmp 3) rfl (by kernel_rfl) w.heap.size (by kernel_rfl) f g (fun _ h => h.1)) ⟨T3, T7, T14⟩ ?_
              simp only [Act.put, List.getElem_toArray, List.getElem_cons_succ, List.getElem_cons_zero, List.setIfInBounds_toArray, List.set_cons_zero, List.set_cons_succ]
              refine wpAnyH_take (i := 50) (v := .int .i64 a1) rfl (by kernel_rfl) (by kernel_rfl) (by kernel_rfl) (fun _ _ _ h => h) (yields_move (.tmp 1) (.int .i64 a1) rfl (by kernel_rfl) (by kernel_rfl)) ⟨T3, T7, T14⟩ ?_
              simp only [Act.put, List.getElem_toArray, List.getElem_cons_succ, List.getElem_cons_zero, List.setIfInBounds_toArray, List.set_cons_zero, List.set_cons_succ]
              refine wpAnyH_ready (rs := [51]) (by kernel_rfl) (by simp) ?_
              refine AllReadyH.cons rfl (fun K hK => ?_) ?_
              · go_simp
                go_fit (C9 _); rintro e w' ⟨rfl, hb⟩; (try replace hb := below_undr' hb); replace T3 := T3.below hb; replace T7 := T7.below hb; replace T14 := T14.below hb; replace hB := hB.trans (hb.mono hB.size)
                go_wp2_with fail
                refine hK.out _ _ ⟨T3, T7, T14⟩ (fun _ => ?_)
                clear hK K
                try simp only [Act.put, List.getElem_toArray, List.getElem_cons_succ, List.getElem_cons_zero, List.setIfInBounds_toArray, List.set_cons_zero, List.set_cons_succ]
                refine wpAnyH_take (i := 52) (v := .bool true) rfl (by kernel_rfl) (by kernel_rfl) (by kernel_rfl) (fun _ _ _ h => h) (yields_not (.tmp 105) false true rfl (by kernel_rfl) (by kernel_rfl) (rfl)) ⟨T3, T7, T14⟩ ?_
                simp only [Act.put, List.getElem_toArray, List.getElem_cons_succ, List.getElem_cons_zero, List.setIfInBounds_toArray, List.set_cons_zero, List.set_cons_succ]
                refine wpAnyH_take (i := 53) (v := .bool true) rfl (by kernel_rfl) (by kernel_rfl) (by kernel_rfl) (fun _ _ _ h => h) (yields_pickt (.tmp 102) (.tmp 106) (.const (.bool false)) (.bool true) rfl (by kernel_rfl) (by kernel_rfl) (by kernel_rfl)) ⟨T3, T7, T14⟩ ?_
                simp only [Act.put, List.getElem_toArray, List.getElem_cons_succ, List.getElem_cons_zero, List.setIfInBounds_toArray, List.set_cons_zero, List.set_cons_succ]
                refine wpAnyH_take (i := 54) (v := .bool true) rfl (by kernel_rfl) (by kernel_rfl) (by kernel_rfl) (fun _ _ _ h => h) (yields_assign (.tmp 107) (.bool true) rfl (by kernel_rfl) (by kernel_rfl)) ⟨T3, T7, T14⟩ ?_
                simp only [Act.put, List.getElem_toArray, List.getElem_cons_succ, List.getElem_cons_zero, List.setIfInBounds_toArray, List.set_cons_zero, List.set_cons_succ]
                refine wpAnyH_done (by kernel_rfl) ?_ _
                refine NoPanic.normal ?_
                go_wp2_with fail
                go_ret
                exact ⟨by kernel_rfl, hB⟩
              exact AllReadyH.nil
            exact AllReadyH.nil
          exact AllReadyH.nil
        exact AllReadyH.nil
      exact AllReadyH.nil
    · have hpe0 : Hid (pickE f G = 0) := by show _ = _; unfold pickE; rw [if_pos hgp, if_neg hz]
      obtain ⟨k, hk⟩ : ∃ k, drawnL (openL f G) a2 = k := ⟨_, rfl⟩
      obtain ⟨hk3, hgk, hkf⟩ := hmem (by omega)
      rw [hk] at hk3 hgk hkf
      have hpk : pickK f G a2 = (k : Int) := by unfold pickK; rw [if_pos hgp, if_neg hz, hk]
      rw [hpk] at C3
      have hkn : k ≠ a1.toNat := fun e => by rw [e, hGn] at hgk; cases hgk
      have hka : ((k : Int) != a1) = true := by
        have : ¬ ((k : Int) = a1) := by omega
        simpa using this
      have CK := fun w => CL (k : Int) w
      have hlk : 0 < leftP f (k : Int) := by rw [leftP_in f k hk3]; omega
      generalize leftP f (k : Int) = lk at *
      generalize pickE f G = pe at *
      have hpe : (pe != 0) = false := by rw [hpe0.out]; decide
      have hki3 : (k : Int) < 3 := by omega
      have hki0 : (0 : Int) ≤ (k : Int) := by omega
      clear hgp hpe0 hmem CL hG hGn hGo hz hpk hkn hk hkf
      unfold plv at *
      go_enter Try.func7, Try.ntmps7
      go_upto_region 7 with (first | (refine wpList_load_pool _ rfl ?_ _ rfl f g T3 ?_; · kernel_rfl) | (refine wpList_load_pool _ rfl ?_ _ rfl f G T7 ?_; · kernel_rfl) | (go_at_call 33; go_fit (C1 _); rintro e w' ⟨rfl, hb⟩; (try replace hb := below_undr' hb); replace T3 := T3.below hb; (try replace T7 := T7.below hb); (try replace T9 := T9.below hb); (try replace T14 := T14.below hb); replace hB := hB.trans (hb.mono hB.size)) | (go_at_call 20; go_fit (C2 _); rintro e w' ⟨rfl, hb⟩; (try replace hb := below_undr' hb); replace T3 := T3.below hb; (try replace T7 := T7.below hb); (try replace T9 := T9.below hb); (try replace T14 := T14.below hb); replace hB := hB.trans (hb.mono hB.size)) | (go_at_call 22; go_fit (C3 _); rintro e w' ⟨rfl, hb⟩; (try replace hb := below_undr' hb); replace T3 := T3.below hb; (try replace T7 := T7.below hb); (try replace T9 := T9.below hb); (try replace T14 := T14.below hb); replace hB := hB.trans (hb.mono hB.size)) | (go_at_call 35; go_fit (C4 _); rintro e w' ⟨rfl, hb⟩; (try replace hb := below_undr' hb); replace T3 := T3.below hb; (try replace T7 := T7.below hb); (try replace T9 := T9.below hb); (try replace T14 := T14.below hb); replace hB := hB.trans (hb.mono hB.size)) | (refine wpList_alloc_pool rfl rfl ?_; intro b14 w8 eb14 T14 hk8 hb8 hs8; have nb14T3 := (hk8 _ _ T3).2; replace T3 := (hk8 _ _ T3).1; have nb14T7 := (hk8 _ _ T7).2; replace T7 := (hk8 _ _ T7).1; have nb14T9 := (hk8 _ _ T9).2; replace T9 := (hk8 _ _ T9).1; replace hB := hb8 _ _ hB hB.size; have lb14 : w.heap.size ≤ b14 := (by rw [eb14]; have := T3.lt; omega); clear hs8 hk8 hb8 eb14) | (refine wpList_alloc_pool rfl rfl ?_; intro b9 w8 eb9 T9 hk8 hb8 hs8; have nb9T3 := (hk8 _ _ T3).2; replace T3 := (hk8 _ _ T3).1; have nb9T7 := (hk8 _ _ T7).2; replace T7 := (hk8 _ _ T7).1; replace hB := hb8 _ _ hB hB.size; have lb9 : w.heap.size ≤ b9 := (by rw [eb9]; have := T3.lt; omega); clear hs8 hk8 hb8 eb9) | (refine wpList_alloc_pool rfl rfl ?_; intro b7 w8 eb7 T7 hk8 hb8 hs8; have nb7T3 := (hk8 _ _ T3).2; replace T3 := (hk8 _ _ T3).1; replace hB := hb8 _ _ hB hB.size; have lb7 : w.heap.size ≤ b7 := (by rw [eb7]; have := T3.lt; omega); clear hs8 hk8 hb8 eb7) | (refine wpList_store_pool rfl _ _ rfl b14 rfl f g rfl (pc (fun _ => 0) (fun _ => false)) T14 rfl ?_; intro w8 T14 hs8 hk8 hb8; replace T3 := hk8 _ _ nb14T3 T3; replace T7 := hk8 _ _ nb14T7 T7; replace T9 := hk8 _ _ nb14T9 T9; replace hB := hb8 _ _ lb14 hB; clear hs8 hk8 hb8) | (refine wpList_store_pool rfl _ _ rfl b9 rfl f G rfl (pc (fun _ => 0) (fun _ => false)) T9 rfl ?_; intro w8 T9 hs8 hk8 hb8; replace T3 := hk8 _ _ nb9T3 T3; replace T7 := hk8 _ _ nb9T7 T7; replace hB := hb8 _ _ lb9 hB; clear hs8 hk8 hb8) | (refine wpList_store_pool rfl _ _ rfl b7 rfl f G rfl (pc (fun _ => 0) (fun _ => false)) T7 rfl ?_; intro w8 T7 hs8 hk8 hb8; replace T3 := hk8 _ _ nb7T3 T3; replace hB := hb8 _ _ lb7 hB; clear hs8 hk8 hb8) | (go_at_call 36; refine (poolsKeep_any _).mono ?_; rintro e w' ⟨rfl, hb⟩; (try replace hb := below_undr' hb); replace T3 := T3.below hb; (try replace T7 := T7.below hb); (try replace T9 := T9.below hb); (try replace T14 := T14.below hb); replace hB := hB.trans (hb.mono hB.size)))
      refine wp_region_noPanic ?_
      refine wp_region_held_drew (S := fun w' => PRow w' w.heap.size (pc f g) ∧ PRow w' b7 (pc f G) ∧ PRow w' b14 (pc f g)) (by kernel_rfl) ⟨T3, T7, T14⟩ (fun _ => ?_)
      refine wpAnyH_take (i := 0) (v := .int .i64 te) rfl (by kernel_rfl) (by kernel_rfl) (by kernel_rfl) (fun _ _ _ h => h) (yields_move (.tmp 11) (.int .i64 te) rfl (by kernel_rfl) (by kernel_rfl)) ⟨T3, T7, T14⟩ ?_
      simp only [Act.put, List.getElem_toArray, List.getElem_cons_succ, List.getElem_cons_zero, List.setIfInBounds_toArray, List.set_cons_zero, List.set_cons_succ]
      refine wpAnyH_take (i := 1) (v := .bool true) rfl (by kernel_rfl) (by kernel_rfl) (by kernel_rfl) (fun _ _ _ h => h) (yields_eqi 24 (.tmp 54) (.const (.int .i64 9)) (te) (9) true rfl (by kernel_rfl) (by kernel_rfl) (by kernel_rfl) (hte)) ⟨T3, T7, T14⟩ ?_
      simp only [Act.put, List.getElem_toArray, List.getElem_cons_succ, List.getElem_cons_zero, List.setIfInBounds_toArray, List.set_cons_zero, List.set_cons_succ]
      refine wpAnyH_take (i := 2) (v := .bool true) rfl (by kernel_rfl) (by kernel_rfl) (by kernel_rfl) (fun _ _ _ h => h) (yields_move (.tmp 55) (.bool true) rfl (by kernel_rfl) (by kernel_rfl)) ⟨T3, T7, T14⟩ ?_
      simp only [Act.put, List.getElem_toArray, List.getElem_cons_succ, List.getElem_cons_zero, List.setIfInBounds_toArray, List.set_cons_zero, List.set_cons_succ]
      refine wpAnyH_take (i := 3) (v := undef) rfl (by kernel_rfl) (by kernel_rfl) (by kernel_rfl) (fun _ _ _ h => h) (Or.inr ⟨by kernel_rfl, rfl⟩) ⟨T3, T7, T14⟩ ?_
      simp only [Act.put, List.getElem_toArray, List.getElem_cons_succ, List.getElem_cons_zero, List.setIfInBounds_toArray, List.set_cons_zero, List.set_cons_succ]
      refine wpAnyH_ready (rs := [4]) (by kernel_rfl) (by simp) ?_
      refine AllReadyH.cons rfl (fun K hK => ?_) ?_
      · rw [if_neg (ne_true_of_eq_false (by kernel_rfl))]
        refine hK.out _ _ ⟨T3, T7, T14⟩ (fun _ => ?_)
        clear hK K
        try simp only [Act.put, List.getElem_toArray, List.getElem_cons_succ, List.getElem_cons_zero, List.setIfInBounds_toArray, List.set_cons_zero, List.set_cons_succ]
        refine wpAnyH_take (i := 5) (v := undef) rfl (by kernel_rfl) (by kernel_rfl) (by kernel_rfl) (fun _ _ _ h => h) (Or.inr ⟨by kernel_rfl, rfl⟩) ⟨T3, T7, T14⟩ ?_
        simp only [Act.put, List.getElem_toArray, List.getElem_cons_succ, List.getElem_cons_zero, List.setIfInBounds_toArray, List.set_cons_zero, List.set_cons_succ]
        refine wpAnyH_take (i := 6) (v := .bool true) rfl (by kernel_rfl) (by kernel_rfl) (by kernel_rfl) (fun _ _ _ h => h) (yields_pickt (.tmp 56) (.const (.bool true)) (.tmp 59) (.bool true) rfl (by kernel_rfl) (by kernel_rfl) (by kernel_rfl)) ⟨T3, T7, T14⟩ ?_
        simp only [Act.put, List.getElem_toArray, List.getElem_cons_succ, List.getElem_cons_zero, List.setIfInBounds_toArray, List.set_cons_zero, List.set_cons_succ]
        refine wpAnyH_take (i := 7) (v := .bool true) rfl (by kernel_rfl) (by kernel_rfl) (by kernel_rfl) (fun _ _ _ h => h) (yields_move (.tmp 60) (.bool true) rfl (by kernel_rfl) (by kernel_rfl)) ⟨T3, T7, T14⟩ ?_
        simp only [Act.put, List.getElem_toArray, List.getElem_cons_succ, List.getElem_cons_zero, List.setIfInBounds_toArray, List.set_cons_zero, List.set_cons_succ]
        refine wpAnyH_take (i := 8) (v := .int .i64 pe) rfl (by kernel_rfl) (by kernel_rfl) (by kernel_rfl) (fun _ _ _ h => h) (yields_move (.tmp 13) (.int .i64 pe) rfl (by kernel_rfl) (by kernel_rfl)) ⟨T3, T7, T14⟩ ?_
        simp only [Act.put, List.getElem_toArray, List.getElem_cons_succ, List.getElem_cons_zero, List.setIfInBounds_toArray, List.set_cons_zero, List.set_cons_succ]
        refine wpAnyH_take (i := 9) (v := .bool false) rfl (by kernel_rfl) (by kernel_rfl) (by kernel_rfl) (fun _ _ _ h => h) (yields_nei 24 (.tmp 62) (.const (.int .i64 0)) (pe) (0) false rfl (by kernel_rfl) (by kernel_rfl) (by kernel_rfl) (hpe)) ⟨T3, T7, T14⟩ ?_
        simp only [Act.put, List.getElem_toArray, List.getElem_cons_succ, List.getElem_cons_zero, List.setIfInBounds_toArray, List.set_cons_zero, List.set_cons_succ]
        refine wpAnyH_take (i := 10) (v := .bool false) rfl (by kernel_rfl) (by kernel_rfl) (by kernel_rfl) (fun _ _ _ h => h) (yields_move (.tmp 63) (.bool false) rfl (by kernel_rfl) (by kernel_rfl)) ⟨T3, T7, T14⟩ ?_
        simp only [Act.put, List.getElem_toArray, List.getElem_cons_succ, List.getElem_cons_zero, List.setIfInBounds_toArray, List.set_cons_zero, List.set_cons_succ]
        refine wpAnyH_take (i := 11) (v := .int .i64 (k : Int)) rfl (by kernel_rfl) (by kernel_rfl) (by kernel_rfl) (fun _ _ _ h => h) (yields_move (.tmp 12) (.int .i64 (k : Int)) rfl (by kernel_rfl) (by kernel_rfl)) ⟨T3, T7, T14⟩ ?_
        simp only [Act.put, List.getElem_toArray, List.getElem_cons_succ, List.getElem_cons_zero, List.setIfInBounds_toArray, List.set_cons_zero, List.set_cons_succ]
        refine wpAnyH_take (i := 12) (v := .int .i64 a1) rfl (by kernel_rfl) (by kernel_rfl) (by kernel_rfl) (fun _ _ _ h => h) (yields_move (.tmp 1) (.int .i64 a1) rfl (by kernel_rfl) (by kernel_rfl)) ⟨T3, T7, T14⟩ ?_
        simp only [Act.put, List.getElem_toArray, List.getElem_cons_succ, List.getElem_cons_zero, List.setIfInBounds_toArray, List.set_cons_zero, List.set_cons_succ]
        refine wpAnyH_take (i := 13) (v := .bool true) rfl (by kernel_rfl) (by kernel_rfl) (by kernel_rfl) (fun _ _ _ h => h) (yields_nei 3 (.tmp 65) (.tmp 66) ((k : Int)) (a1) true rfl (by kernel_rfl) (by kernel_rfl) (by kernel_rfl) (hka)) ⟨T3, T7, T14⟩ ?_
        simp only [Act.put, List.getElem_toArray, List.getElem_cons_succ, List.getElem_cons_zero, List.setIfInBounds_toArray, List.set_cons_zero, List.set_cons_succ]
        refine wpAnyH_take (i := 14) (v := .bool true) rfl (by kernel_rfl) (by kernel_rfl) (by kernel_rfl) (fun _ _ _ h => h) (yields_move (.tmp 67) (.bool true) rfl (by kernel_rfl) (by kernel_rfl)) ⟨T3, T7, T14⟩ ?_
        simp only [Act.put, List.getElem_toArray, List.getElem_cons_succ, List.getElem_cons_zero, List.setIfInBounds_toArray, List.set_cons_zero, List.set_cons_succ]
        refine wpAnyH_take (i := 15) (v := .int .i64 (k : Int)) rfl (by kernel_rfl) (by kernel_rfl) (by kernel_rfl) (fun _ _ _ h => h) (yields_move (.tmp 12) (.int .i64 (k : Int)) rfl (by kernel_rfl) (by kernel_rfl)) ⟨T3, T7, T14⟩ ?_
        simp only [Act.put, List.getElem_toArray, List.getElem_cons_succ, List.getElem_cons_zero, List.setIfInBounds_toArray, List.set_cons_zero, List.set_cons_succ]
        refine wpAnyH_take (i := 16) (v := .pointer (some ⟨b7, 18, none⟩)) rfl (by kernel_rfl) (by kernel_rfl) (by kernel_rfl) (fun _ _ _ h => h) (Or.inl ⟨by kernel_rfl, by intro w _; go_simp⟩) ⟨T3, T7, T14⟩ ?_
        simp only [Act.put, List.getElem_toArray, List.getElem_cons_succ, List.getElem_cons_zero, List.setIfInBounds_toArray, List.set_cons_zero, List.set_cons_succ]
        refine wpAnyH_take (i := 17) (v := .pointer (some ⟨b7, 18 + k, none⟩)) rfl (by kernel_rfl) (by kernel_rfl) (by kernel_rfl) (fun _ _ _ h => h) (Or.inl ⟨by kernel_rfl, by intro w _; go_simp⟩) ⟨T3, T7, T14⟩ ?_
        simp only [Act.put, List.getElem_toArray, List.getElem_cons_succ, List.getElem_cons_zero, List.setIfInBounds_toArray, List.set_cons_zero, List.set_cons_succ]
        refine wpAnyH_take (i := 18) (v := .bool false) rfl (by kernel_rfl) (by kernel_rfl) (by kernel_rfl) (fun _ _ _ h => h) (Or.inl ⟨by kernel_rfl, by intro w' h; have c := h.2.1.dr k (by omega); rw [hgk] at c; go_simp⟩) ⟨T3, T7, T14⟩ ?_
        simp only [Act.put, List.getElem_toArray, List.getElem_cons_succ, List.getElem_cons_zero, List.setIfInBounds_toArray, List.set_cons_zero, List.set_cons_succ]
        refine wpAnyH_take (i := 19) (v := .bool true) rfl (by kernel_rfl) (by kernel_rfl) (by kernel_rfl) (fun _ _ _ h => h) (yields_not (.tmp 72) false true rfl (by kernel_rfl) (by kernel_rfl) (rfl)) ⟨T3, T7, T14⟩ ?_
        simp only [Act.put, List.getElem_toArray, List.getElem_cons_succ, List.getElem_cons_zero, List.setIfInBounds_toArray, List.set_cons_zero, List.set_cons_succ]
        refine wpAnyH_take (i := 20) (v := .bool true) rfl (by kernel_rfl) (by kernel_rfl) (by kernel_rfl) (fun _ _ _ h => h) (yields_pickt (.tmp 68) (.tmp 73) (.const (.bool false)) (.bool true) rfl (by kernel_rfl) (by kernel_rfl) (by kernel_rfl)) ⟨T3, T7, T14⟩ ?_
        simp only [Act.put, List.getElem_toArray, List.getElem_cons_succ, List.getElem_cons_zero, List.setIfInBounds_toArray, List.set_cons_zero, List.set_cons_succ]
        refine wpAnyH_take (i := 21) (v := .bool true) rfl (by kernel_rfl) (by kernel_rfl) (by kernel_rfl) (fun _ _ _ h => h) (yields_move (.tmp 74) (.bool true) rfl (by kernel_rfl) (by kernel_rfl)) ⟨T3, T7, T14⟩ ?_
        simp only [Act.put, List.getElem_toArray, List.getElem_cons_succ, List.getElem_cons_zero, List.setIfInBounds_toArray, List.set_cons_zero, List.set_cons_succ]
        refine wpAnyH_take (i := 22) (v := .agg (pc f G)) rfl (by kernel_rfl) (by kernel_rfl) (by kernel_rfl) (fun _ _ _ h => h) (yields_load_pool (.tmp 7) rfl (by kernel_rfl) b7 (by kernel_rfl) f G (fun _ h => h.2.1)) ⟨T3, T7, T14⟩ ?_
        simp only [Act.put, List.getElem_toArray, List.getElem_cons_succ, List.getElem_cons_zero, List.setIfInBounds_toArray, List.set_cons_zero, List.set_cons_succ]
        refine wpAnyH_take (i := 23) (v := .int .i64 (k : Int)) rfl (by kernel_rfl) (by kernel_rfl) (by kernel_rfl) (fun _ _ _ h => h) (yields_move (.tmp 12) (.int .i64 (k : Int)) rfl (by kernel_rfl) (by kernel_rfl)) ⟨T3, T7, T14⟩ ?_
        simp only [Act.put, List.getElem_toArray, List.getElem_cons_succ, List.getElem_cons_zero, List.setIfInBounds_toArray, List.set_cons_zero, List.set_cons_succ]
        refine wpAnyH_ready (rs := [24]) (by kernel_rfl) (by simp) ?_
        refine AllReadyH.cons rfl (fun K hK => ?_) ?_
        · go_simp
          go_fit (CK _); rintro e w' ⟨rfl, hb⟩; (try replace hb := below_undr' hb); replace T3 := T3.below hb; replace T7 := T7.below hb; replace T14 := T14.below hb; replace hB := hB.trans (hb.mono hB.size)
          go_wp2_with fail
          refine hK.out _ _ ⟨T3, T7, T14⟩ (fun _ => ?_)
          clear hK K
          try simp only [Act.put, List.getElem_toArray, List.getElem_cons_succ, List.getElem_cons_zero, List.setIfInBounds_toArray, List.set_cons_zero, List.set_cons_succ]
          refine wpAnyH_take (i := 25) (v := .bool true) rfl (by kernel_rfl) (by kernel_rfl) (by kernel_rfl) (fun _ _ _ h => h) (Or.inl ⟨by kernel_rfl, by intro w _; go_simp⟩) ⟨T3, T7, T14⟩ ?_
          simp only [Act.put, List.getElem_toArray, List.getElem_cons_succ, List.getElem_cons_zero, List.setIfInBounds_toArray, List.set_cons_zero, List.set_cons_succ]
          refine wpAnyH_take (i := 26) (v := .bool true) rfl (by kernel_rfl) (by kernel_rfl) (by kernel_rfl) (fun _ _ _ h => h) (yields_pickt (.tmp 75) (.tmp 79) (.const (.bool false)) (.bool true) rfl (by kernel_rfl) (by kernel_rfl) (by kernel_rfl)) ⟨T3, T7, T14⟩ ?_
          simp only [Act.put, List.getElem_toArray, List.getElem_cons_succ, List.getElem_cons_zero, List.setIfInBounds_toArray, List.set_cons_zero, List.set_cons_succ]
          refine wpAnyH_take (i := 27) (v := .bool true) rfl (by kernel_rfl) (by kernel_rfl) (by kernel_rfl) (fun _ _ _ h => h) (yields_pickf (.tmp 64) (.const (.bool true)) (.tmp 80) (.bool true) rfl (by kernel_rfl) (by kernel_rfl) (by kernel_rfl)) ⟨T3, T7, T14⟩ ?_
          simp only [Act.put, List.getElem_toArray, List.getElem_cons_succ, List.getElem_cons_zero, List.setIfInBounds_toArray, List.set_cons_zero, List.set_cons_succ]
          refine wpAnyH_take (i := 28) (v := .bool true) rfl (by kernel_rfl) (by kernel_rfl) (by kernel_rfl) (fun _ _ _ h => h) (yields_pickt (.tmp 61) (.tmp 81) (.const (.bool false)) (.bool true) rfl (by kernel_rfl) (by kernel_rfl) (by kernel_rfl)) ⟨T3, T7, T14⟩ ?_
          simp only [Act.put, List.getElem_toArray, List.getElem_cons_succ, List.getElem_cons_zero, List.setIfInBounds_toArray, List.set_cons_zero, List.set_cons_succ]
          refine wpAnyH_take (i := 29) (v := .bool true) rfl (by kernel_rfl) (by kernel_rfl) (by kernel_rfl) (fun _ _ _ h => h) (yields_move (.tmp 82) (.bool true) rfl (by kernel_rfl) (by kernel_rfl)) ⟨T3, T7, T14⟩ ?_
          simp only [Act.put, List.getElem_toArray, List.getElem_cons_succ, List.getElem_cons_zero, List.setIfInBounds_toArray, List.set_cons_zero, List.set_cons_succ]
          refine wpAnyH_take (i := 30) (v := .int .i64 0) rfl (by kernel_rfl) (by kernel_rfl) (by kernel_rfl) (fun _ _ _ h => h) (yields_move (.tmp 15) (.int .i64 0) rfl (by kernel_rfl) (by kernel_rfl)) ⟨T3, T7, T14⟩ ?_
          simp only [Act.put, List.getElem_toArray, List.getElem_cons_succ, List.getElem_cons_zero, List.setIfInBounds_toArray, List.set_cons_zero, List.set_cons_succ]
          refine wpAnyH_take (i := 31) (v := .bool true) rfl (by kernel_rfl) (by kernel_rfl) (by kernel_rfl) (fun _ _ _ h => h) (yields_eqi 24 (.tmp 84) (.const (.int .i64 0)) (0) (0) true rfl (by kernel_rfl) (by kernel_rfl) (by kernel_rfl) (by simp)) ⟨T3, T7, T14⟩ ?_
          simp only [Act.put, List.getElem_toArray, List.getElem_cons_succ, List.getElem_cons_zero, List.setIfInBounds_toArray, List.set_cons_zero, List.set_cons_succ]
          refine wpAnyH_take (i := 32) (v := .bool true) rfl (by kernel_rfl) (by kernel_rfl) (by kernel_rfl) (fun _ _ _ h => h) (yields_pickt (.tmp 83) (.tmp 85) (.const (.bool false)) (.bool true) rfl (by kernel_rfl) (by kernel_rfl) (by kernel_rfl)) ⟨T3, T7, T14⟩ ?_
          simp only [Act.put, List.getElem_toArray, List.getElem_cons_succ, List.getElem_cons_zero, List.setIfInBounds_toArray, List.set_cons_zero, List.set_cons_succ]
          refine wpAnyH_take (i := 33) (v := .bool true) rfl (by kernel_rfl) (by kernel_rfl) (by kernel_rfl) (fun _ _ _ h => h) (yields_move (.tmp 86) (.bool true) rfl (by kernel_rfl) (by kernel_rfl)) ⟨T3, T7, T14⟩ ?_
          simp only [Act.put, List.getElem_toArray, List.getElem_cons_succ, List.getElem_cons_zero, List.setIfInBounds_toArray, List.set_cons_zero, List.set_cons_succ]
          refine wpAnyH_take (i := 34) (v := .agg (pc f g)) rfl (by kernel_rfl) (by kernel_rfl) (by kernel_rfl) (fun _ _ _ h => h) (yields_load_pool (.tmp 14) rfl (by kernel_rfl) b14 (by kernel_rfl) f g (fun _ h => h.2.2)) ⟨T3, T7, T14⟩ ?_
          simp only [Act.put, List.getElem_toArray, List.getElem_cons_succ, List.getElem_cons_zero, List.setIfInBounds_toArray, List.set_cons_zero, List.set_cons_succ]
          refine wpAnyH_take (i := 35) (v := .agg (pc f g)) rfl (by kernel_rfl) (by kernel_rfl) (by kernel_rfl) (fun _ _ _ h => h) (yields_load_pool (.tmp 3) rfl (by kernel_rfl) w.heap.size (by kernel_rfl) f g (fun _ h => h.1)) ⟨T3, T7, T14⟩ ?_
          simp only [Act.put, List.getElem_toArray, List.getElem_cons_succ, List.getElem_cons_zero, List.setIfInBounds_toArray, List.set_cons_zero, List.set_cons_succ]
          refine wpAnyH_take (i := 36) (v := .bool true) rfl (by kernel_rfl) (by kernel_rfl) (by kernel_rfl) (fun _ _ _ h => h) (yields_eq_pool (.tmp 88) (.tmp 89) rfl (by kernel_rfl) f g w0 (by kernel_rfl) (by kernel_rfl)) ⟨T3, T7, T14⟩ ?_
          simp only [Act.put, List.getElem_toArray, List.getElem_cons_succ, List.getElem_cons_zero, List.setIfInBounds_toArray, List.set_cons_zero, List.set_cons_succ]
          refine wpAnyH_take (i := 37) (v := .bool true) rfl (by kernel_rfl) (by kernel_rfl) (by kernel_rfl) (fun _ _ _ h => h) (yields_pickt (.tmp 87) (.tmp 90) (.const (.bool false)) (.bool true) rfl (by kernel_rfl) (by kernel_rfl) (by kernel_rfl)) ⟨T3, T7, T14⟩ ?_
          simp only [Act.put, List.getElem_toArray, List.getElem_cons_succ, List.getElem_cons_zero, List.setIfInBounds_toArray, List.set_cons_zero, List.set_cons_succ]
          refine wpAnyH_take (i := 38) (v := .bool true) rfl (by kernel_rfl) (by kernel_rfl) (by kernel_rfl) (fun _ _ _ h => h) (yields_move (.tmp 91) (.bool true) rfl (by kernel_rfl) (by kernel_rfl)) ⟨T3, T7, T14⟩ ?_
          simp only [Act.put, List.getElem_toArray, List.getElem_cons_succ, List.getElem_cons_zero, List.setIfInBounds_toArray, List.set_cons_zero, List.set_cons_succ]
          refine wpAnyH_take (i := 39) (v := .agg (pc f G)) rfl (by kernel_rfl) (by kernel_rfl) (by kernel_rfl) (fun _ _ _ h => h) (yields_load_pool (.tmp 7) rfl (by kernel_rfl) b7 (by kernel_rfl) f G (fun _ h => h.2.1)) ⟨T3, T7, T14⟩ ?_
          simp only [Act.put, List.getElem_toArray, List.getElem_cons_succ, List.getElem_cons_zero, List.setIfInBounds_toArray, List.set_cons_zero, List.set_cons_succ]
          refine wpAnyH_take (i := 40) (v := .int .i64 a1) rfl (by kernel_rfl) (by kernel_rfl) (by kernel_rfl) (fun _ _ _ h => h) (yields_move (.tmp 1) (.int .i64 a1) rfl (by kernel_rfl) (by kernel_rfl)) ⟨T3, T7, T14⟩ ?_
          simp only [Act.put, List.getElem_toArray, List.getElem_cons_succ, List.getElem_cons_zero, List.setIfInBounds_toArray, List.set_cons_zero, List.set_cons_succ]
          refine wpAnyH_take (i := 42) (v := .agg (pc f g)) rfl (by kernel_rfl) (by kernel_rfl) (by kernel_rfl) (fun _ _ _ h => h) (yields_load_pool (.tmp 3) rfl (by kernel_rfl) w.heap.size (by kernel_rfl) f g (fun _ h => h.1)) ⟨T3, T7, T14⟩ ?_
          simp only [Act.put, List.getElem_toArray, List.getElem_cons_succ, List.getElem_cons_zero, List.setIfInBounds_toArray, List.set_cons_zero, List.set_cons_succ]
          refine wpAnyH_take (i := 43) (v := .int .i64 a1) rfl (by kernel_rfl) (by kernel_rfl) (by kernel_rfl) (fun _ _ _ h => h) (yields_move (.tmp 1) (.int .i64 a1) rfl (by kernel_rfl) (by kernel_rfl)) ⟨T3, T7, T14⟩ ?_
          simp only [Act.put, List.getElem_toArray, List.getElem_cons_succ, List.getElem_cons_zero, List.setIfInBounds_toArray, List.set_cons_zero, List.set_cons_succ]
          refine wpAnyH_ready (rs := [41]) (by kernel_rfl) (by simp) ?_
          refine AllReadyH.cons rfl (fun K hK => ?_) ?_
          · go_simp
            go_fit (C7 _); rintro e w' ⟨rfl, hb⟩; (try replace hb := below_undr' hb); replace T3 := T3.below hb; replace T7 := T7.below hb; replace T14 := T14.below hb; replace hB := hB.trans (hb.mono hB.size)
            go_wp2_with fail
            refine hK.out _ _ ⟨T3, T7, T14⟩ (fun _ => ?_)
            clear hK K
            try simp only [Act.put, List.getElem_toArray, List.getElem_cons_succ, List.getElem_cons_zero, List.setIfInBounds_toArray, List.set_cons_zero, List.set_cons_succ]
            refine wpAnyH_ready (rs := [44]) (by kernel_rfl) (by simp) ?_
            refine AllReadyH.cons rfl (fun K hK => ?_) ?_
            · go_simp
              go_fit (C8 _); rintro e w' ⟨rfl, hb⟩; (try replace hb := below_undr' hb); replace T3 := T3.below hb; replace T7 := T7.below hb; replace T14 := T14.below hb; replace hB := hB.trans (hb.mono hB.size)
              go_wp2_with fail
              refine hK.out _ _ ⟨T3, T7, T14⟩ (fun _ => ?_)
              clear hK K
              try simp only [Act.put, List.getElem_toArray, List.getElem_cons_succ, List.getElem_cons_zero, List.setIfInBounds_toArray, List.set_cons_zero, List.set_cons_succ]
              refine wpAnyH_take (i := 45) (v := .bool em) rfl (by kernel_rfl) (by kernel_rfl) (by kernel_rfl) (fun _ _ _ h => h) (yields_eqi 3 (.tmp 98) (.const (.int .i64 6)) (lf) (6) em rfl (by kernel_rfl) (by kernel_rfl) (by kernel_rfl) (hem)) ⟨T3, T7, T14⟩ ?_
              simp only [Act.put, List.getElem_toArray, List.getElem_cons_succ, List.getElem_cons_zero, List.setIfInBounds_toArray, List.set_cons_zero, List.set_cons_succ]
              refine wpAnyH_take (i := 46) (v := .bool true) rfl (by kernel_rfl) (by kernel_rfl) (by kernel_rfl) (fun _ _ _ h => h) (yields_eqb (.tmp 95) (.tmp 99) (em) (em) true rfl (by kernel_rfl) (by kernel_rfl) (by kernel_rfl) (by simp)) ⟨T3, T7, T14⟩ ?_
              simp only [Act.put, List.getElem_toArray, List.getElem_cons_succ, List.getElem_cons_zero, List.setIfInBounds_toArray, List.set_cons_zero, List.set_cons_succ]
              refine wpAnyH_take (i := 47) (v := .bool true) rfl (by kernel_rfl) (by kernel_rfl) (by kernel_rfl) (fun _ _ _ h => h) (yields_pickt (.tmp 92) (.tmp 100) (.const (.bool false)) (.bool true) rfl (by kernel_rfl) (by kernel_rfl) (by kernel_rfl)) ⟨T3, T7, T14⟩ ?_
              simp only [Act.put, List.getElem_toArray, List.getElem_cons_succ, List.getElem_cons_zero, List.setIfInBounds_toArray, List.set_cons_zero, List.set_cons_succ]
              refine wpAnyH_take (i := 48) (v := .bool true) rfl (by kernel_rfl) (by kernel_rfl) (by kernel_rfl) (fun _ _ _ h => h) (yields_move (.tmp 101) (.bool true) rfl (by kernel_rfl) (by kernel_rfl)) ⟨T3, T7, T14⟩ ?_
              simp only [Act.put, List.getElem_toArray, List.getElem_cons_succ, List.getElem_cons_zero, List.setIfInBounds_toArray, List.set_cons_zero, List.set_cons_succ]
              refine wpAnyH_take (i := 49) (v := .agg (pc f g)) rfl (by kernel_rfl) (by kernel_rfl) (by kernel_rfl) (fun _ _ _ h => h) (yields_load_pool (.tmp 3) rfl (by kernel_rfl) w.heap.size (by kernel_rfl) f g (fun _ h => h.1)) ⟨T3, T7, T14⟩ ?_
              simp only [Act.put, List.getElem_toArray, List.getElem_cons_succ, List.getElem_cons_zero, List.setIfInBounds_toArray, List.set_cons_zero, List.set_cons_succ]
              refine wpAnyH_take (i := 50) (v := .int .i64 a1) rfl (by kernel_rfl) (by kernel_rfl) (by kernel_rfl) (fun _ _ _ h => h) (yields_move (.tmp 1) (.int .i64 a1) rfl (by kernel_rfl) (by kernel_rfl)) ⟨T3, T7, T14⟩ ?_
              simp only [Act.put, List.getElem_toArray, List.getElem_cons_succ, List.getElem_cons_zero, List.setIfInBounds_toArray, List.set_cons_zero, List.set_cons_succ]
              refine wpAnyH_ready (rs := [51]) (by kernel_rfl) (by simp) ?_
              refine AllReadyH.cons rfl (fun K hK => ?_) ?_
              · go_simp
                go_fit (C9 _); rintro e w' ⟨rfl, hb⟩; (try replace hb := below_undr' hb); replace T3 := T3.below hb; replace T7 := T7.below hb; replace T14 := T14.below hb; replace hB := hB.trans (hb.mono hB.size)
                go_wp2_with fail
                refine hK.out _ _ ⟨T3, T7, T14⟩ (fun _ => ?_)
                clear hK K
                try simp only [Act.put, List.getElem_toArray, List.getElem_cons_succ, List.getElem_cons_zero, List.setIfInBounds_toArray, List.set_cons_zero, List.set_cons_succ]
                refine wpAnyH_take (i := 52) (v := .bool true) rfl (by kernel_rfl) (by kernel_rfl) (by kernel_rfl) (fun _ _ _ h => h) (yields_not (.tmp 105) false true rfl (by kernel_rfl) (by kernel_rfl) (rfl)) ⟨T3, T7, T14⟩ ?_
                simp only [Act.put, List.getElem_toArray, List.getElem_cons_succ, List.getElem_cons_zero, List.setIfInBounds_toArray, List.set_cons_zero, List.set_cons_succ]
                refine wpAnyH_take (i := 53) (v := .bool true) rfl (by kernel_rfl) (by kernel_rfl) (by kernel_rfl) (fun _ _ _ h => h) (yields_pickt (.tmp 102) (.tmp 106) (.const (.bool false)) (.bool true) rfl (by kernel_rfl) (by kernel_rfl) (by kernel_rfl)) ⟨T3, T7, T14⟩ ?_
                simp only [Act.put, List.getElem_toArray, List.getElem_cons_succ, List.getElem_cons_zero, List.setIfInBounds_toArray, List.set_cons_zero, List.set_cons_succ]
                refine wpAnyH_take (i := 54) (v := .bool true) rfl (by kernel_rfl) (by kernel_rfl) (by kernel_rfl) (fun _ _ _ h => h) (yields_assign (.tmp 107) (.bool true) rfl (by kernel_rfl) (by kernel_rfl)) ⟨T3, T7, T14⟩ ?_
                simp only [Act.put, List.getElem_toArray, List.getElem_cons_succ, List.getElem_cons_zero, List.setIfInBounds_toArray, List.set_cons_zero, List.set_cons_succ]
                refine wpAnyH_done (by kernel_rfl) ?_ _
                refine NoPanic.normal ?_
                go_wp2_with fail
                go_ret
                exact ⟨by kernel_rfl, hB⟩
              exact AllReadyH.nil
            exact AllReadyH.nil
          exact AllReadyH.nil
        exact AllReadyH.nil
      exact AllReadyH.nil

set_option maxRecDepth 100000 in
theorem lifted (os : Os) (started : os.Started) (H : Type) (enc : TypeId × Value → H) :
    ReturnsInHanded {} Try.checked os 7 .any (Rows.poolDrainedSpec.pre6 enc Try.prog Try.f7 Rows.poolDrainedRow.domain false) (Rows.poolDrainedSpec.post enc Try.prog Try.f7 false true false false) := by
  refine returnsInHanded_of_change_sized (C := Try.checked) own started (by kernel_rfl) Try.func7
    (ChangeSpec.witness6 (enc := enc) (C := Try.checked) false ⟨#[], #[.agg #[.int .i64 0, .int .i64 0, .int .i64 0, .int .i64 0, .int .i64 0, .int .i64 0, .int .i64 0, .int .i64 0, .int .i64 0, .int .i64 0, .int .i64 0, .int .i64 0, .int .i64 0, .int .i64 0, .int .i64 0, .int .i64 0, .int .i64 0, .int .i64 0, .bool false, .bool false, .bool false], .int .i64 0, .int .i64 0], []⟩ 8 (by kernel_rfl) (by kernel_rfl) (by kernel_rfl) (by kernel_rfl)) ?_
  intro W base args ds gs before hval0 hW hcnd hsz0 _
  have hval : ∀ (j : Nat) t v, Try.f7.params[j]? = some t → args[j]? = some v → Value.okWide Try.prog W .any base t v := hval0
  have hW' := hW
  obtain ⟨p, q, hA0, hV, rfl, hfz, hnd⟩ := hW
  have hA : DataW.TrodAll enc Try.prog W 0 (fun _ => true) true Try.f7.params.toList args.toList ds p := hA0
  have hsz : (DataW.weightsEach Try.prog (Try.f7.params.toList ++ Rows.poolDrainedSpec.plain.varTypes Try.prog) (ds ++ gs)).all (· ≤ reachBytes) = true := hsz0
  rw [Try.params7] at hA hval hsz
  obtain ⟨v0, vs0, d0, ds0, p0, q0, hargs, rfl, rfl, h0, r0⟩ := trodAll_cons hA
  obtain ⟨v1, vs1, d1, ds1, p1, q1, rfl, rfl, rfl, h1, r1⟩ := trodAll_cons r0
  obtain ⟨v2, vs2, d2, ds2, p2, q2, rfl, rfl, rfl, h2, r2⟩ := trodAll_cons r1
  obtain ⟨rfl, rfl, rfl⟩ := trodAll_nil r2
  obtain rfl : args = #[v0, v1, v2] := by cases args; simp_all
  obtain ⟨rfl, rfl⟩ := trodVars_none hV
  obtain ⟨a0, rfl, rfl, rfl, w0⟩ := open_pool (hval 0 47 v0 rfl rfl) h0
  obtain ⟨a1, rfl, rfl, rfl, w1⟩ := open_int Try.underlying3 (hval 1 3 v1 rfl rfl) h1
  obtain ⟨a2, rfl, rfl, rfl, w2⟩ := open_int Try.underlying3 (hval 2 3 v2 rfl rfl) h2
  clear hA0 hval0
  simp only [List.append_nil] at hW'
  refine (walk a0 a1 a2 w0 w1 w2 W).mono fun e W' ⟨he, bel⟩ => ?_
  subst he
  exact ⟨_, rfl, _, _, _, [], [], [], hW', trodAll_mk1 (shut_bool Try.underlying4 _), (trodAll_cons_mk (shut_pool w0) (trodAll_cons_mk (shut_int Try.underlying3 w1) (trodAll_cons_mk (shut_int Try.underlying3 w2) trodAll_mk0))), rfl, bel.frame _, fun h => by cases h⟩

theorem over : Rows.poolDrainedRow.holds Try.pinned (OpenSpec.ofChange Rows.poolDrainedSpec) :=
  OpenClaim.holds_of_wide 7 Try.f7 rfl rfl rfl rfl rfl rfl rfl ⟨rfl, rfl, rfl, rfl, rfl⟩ rfl rfl rfl rfl rfl (by kernel_rfl) Try.func7 (by kernel_rfl)
    (of_decide_eq_true (by kernel_rfl)) (by unfold Func.isWrapper; first | (rw [if_pos (by decide +kernel)]; kernel_rfl) | (rw [if_neg (by decide +kernel)]; exact ⟨rfl, rfl⟩))
    (fun os started H enc _ => lifted os started H enc)

end Go.Proofs.Ythcedehppflcgad.poolDrained
namespace Go.Proofs.Ythcedehppflcgad
theorem poolDrained_holds : Rows.PoolDrainedSaid := poolDrained.over
#print axioms poolDrained_holds
end Go.Proofs.Ythcedehppflcgad
