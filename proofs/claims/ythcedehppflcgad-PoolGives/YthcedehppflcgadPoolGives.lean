/-
  For every pool, rentrolllaw.PoolGives returns true: Give, Drain, Undrain and Empty answer exactly what the document's own answers say, errors too; no condition but the form's own reach.
-/
import Derived.Test.YthcedehppflcgadRows
import Derived.WalkKit
import Derived.ProofKit
import Derived.OpenShut
import Derived.ShutString
import Derived.SizedLaws
import Derived.Below
import Derived.Test.YthcedehppflcgadPoolVr
import Derived.Test.YthcedehppflcgadPoolD
import Derived.Test.YthcedehppflcgadYieldP
import Derived.Deep.RegionHeld3
namespace Go.Proofs.Ythcedehppflcgad.poolGives
open Go.ChangeShapes Go.WideShapes Go.ChangeAt Go.RowKit
open Go.ChangeMaps (open_string shut_string)
set_option linter.unusedVariables false
set_option linter.unusedSimpArgs false

theorem own : ownKnob Try.prog.godebug = none := by kernel_rfl

theorem giveF_wf (f : Nat → Int) (s a k : Int) (h : wfF f) : wfF (giveF f s a k) := by
  unfold giveF
  by_cases e : giveE f s a k = 0
  · rw [if_pos e]
    intro i hi
    unfold upd
    by_cases hn : i = 6 * a.toNat + k.toNat
    · rw [if_pos hn]; decide
    · rw [if_neg hn]; exact h i hi
  · rw [if_neg e]; exact h
set_option maxRecDepth 10000 in
set_option maxHeartbeats 8000000 in
theorem walk (a0 : PoolV) (a1 : Int) (a2 : Int) (a3 : Int) (w0 : wfF a0.f) (w1 : (Lit.int .i64 a1).wf = true) (w2 : (Lit.int .i64 a2).wf = true) (w3 : (Lit.int .i64 a3).wf = true) (w : World) :
    Calls Try.prog 5 #[plv a0.f a0.g, .int .i64 a1, .int .i64 a2, .int .i64 a3] w fun e w' => e = .returned (.bool true) ∧ Below w.heap.size w w' := by
  obtain ⟨f, g⟩ := a0
  simp only at w0 ⊢
  have hB : Below w.heap.size w (w.alloc (.cells (pc f g) 47)) := (Below.refl _ _).alloc (Nat.le_refl _) _
  have T4 : PRow (w.alloc (.cells (pc f g) 47)) w.heap.size (pc f g) := PRow.new _ _
  have C1 := fun w => give_any f g a1 a2 a3 w
  have C2 := fun w => giver_any f g a1 a2 a3 w
  have C3 := fun w => empty_any f g a2 w
  have C4 := fun w => emptyr_any f g a2 w
  have C5 := fun w => drain_any f g a2 w
  have C6 := fun w => drainr_any f g a2 true w
  have C7 := fun w => undrain_any f g a2 w
  have C8 := fun w => drainr_any f g a2 false w
  have hF := giveF_wf f a1 a2 a3 w0
  unfold giveS at C1 C2
  unfold drainS at C5 C6 C7 C8
  generalize giveF f a1 a2 a3 = F at *
  generalize giveE f a1 a2 a3 = ee at *
  generalize emptyP f g a2 = em at *
  generalize drainG g a2 true = G1 at *
  generalize drainE g a2 true = e1 at *
  generalize drainG g a2 false = G2 at *
  generalize drainE g a2 false = e2 at *
  unfold plv at *
  go_enter Try.func5, Try.ntmps5
  go_upto_region 3 with (first
    | (refine wpList_load_pool _ rfl ?_ _ rfl f g T4 ?_; · kernel_rfl)
    | (go_at_call 29; go_fit (C1 _); rintro e w' ⟨rfl, hb⟩; (try replace hb := below_undr' hb); replace T4 := T4.below hb; (try replace T9 := T9.below hb); (try replace T11 := T11.below hb); (try replace T13 := T13.below hb); (try replace T15 := T15.below hb); replace hB := hB.trans (hb.mono hB.size))
    | (go_at_call 30; go_fit (C2 _); rintro e w' ⟨rfl, hb⟩; (try replace hb := below_undr' hb); replace T4 := T4.below hb; (try replace T9 := T9.below hb); (try replace T11 := T11.below hb); (try replace T13 := T13.below hb); (try replace T15 := T15.below hb); replace hB := hB.trans (hb.mono hB.size))
    | (refine wpList_alloc_pool rfl rfl ?_; intro b11 w8 eb11 T11 hk8 hb8 hs8; have nb11T4 := (hk8 _ _ T4).2; replace T4 := (hk8 _ _ T4).1; have nb11T9 := (hk8 _ _ T9).2; replace T9 := (hk8 _ _ T9).1; replace hB := hb8 _ _ hB hB.size; have lb11 : w.heap.size ≤ b11 := (by rw [eb11]; have := T4.lt; omega); clear hs8 hk8 hb8 eb11)
    | (refine wpList_alloc_pool rfl rfl ?_; intro b9 w8 eb9 T9 hk8 hb8 hs8; have nb9T4 := (hk8 _ _ T4).2; replace T4 := (hk8 _ _ T4).1; replace hB := hb8 _ _ hB hB.size; have lb9 : w.heap.size ≤ b9 := (by rw [eb9]; have := T4.lt; omega); clear hs8 hk8 hb8 eb9)
    | (refine wpList_store_pool rfl _ _ rfl b11 rfl F g rfl (pc (fun _ => 0) (fun _ => false)) T11 rfl ?_; intro w8 T11 hs8 hk8 hb8; replace T4 := hk8 _ _ nb11T4 T4; replace T9 := hk8 _ _ nb11T9 T9; replace hB := hb8 _ _ lb11 hB; clear hs8 hk8 hb8)
    | (refine wpList_store_pool rfl _ _ rfl b9 rfl F g rfl (pc (fun _ => 0) (fun _ => false)) T9 rfl ?_; intro w8 T9 hs8 hk8 hb8; replace T4 := hk8 _ _ nb9T4 T4; replace hB := hb8 _ _ lb9 hB; clear hs8 hk8 hb8))
  refine wp_region_noPanic ?_
  refine wp_region_held_drew (S := fun w' => PRow w' w.heap.size (pc f g) ∧ PRow w' b9 (pc F g) ∧ PRow w' b11 (pc F g)) (by kernel_rfl) ⟨T4, T9, T11⟩ (fun _ => ?_)
  refine wpAnyH_take (i := 0) (v := .agg (pc F g)) rfl (by kernel_rfl) (by kernel_rfl) (by kernel_rfl) (fun _ _ _ h => h) (yields_load_pool (.tmp 9) rfl (by kernel_rfl) b9 (by kernel_rfl) F g (fun _ h => h.2.1)) ⟨T4, T9, T11⟩ ?_
  simp only [Act.put, List.getElem_toArray, List.getElem_cons_succ, List.getElem_cons_zero, List.setIfInBounds_toArray, List.set_cons_zero, List.set_cons_succ]
  refine wpAnyH_take (i := 1) (v := .agg (pc F g)) rfl (by kernel_rfl) (by kernel_rfl) (by kernel_rfl) (fun _ _ _ h => h) (yields_load_pool (.tmp 11) rfl (by kernel_rfl) b11 (by kernel_rfl) F g (fun _ h => h.2.2)) ⟨T4, T9, T11⟩ ?_
  simp only [Act.put, List.getElem_toArray, List.getElem_cons_succ, List.getElem_cons_zero, List.setIfInBounds_toArray, List.set_cons_zero, List.set_cons_succ]
  refine wpAnyH_take (i := 2) (v := .bool false) rfl (by kernel_rfl) (by kernel_rfl) (by kernel_rfl) (fun _ _ _ h => h) (yields_neq_pool (.tmp 33) (.tmp 34) rfl (by kernel_rfl) F g hF (by kernel_rfl) (by kernel_rfl)) ⟨T4, T9, T11⟩ ?_
  simp only [Act.put, List.getElem_toArray, List.getElem_cons_succ, List.getElem_cons_zero, List.setIfInBounds_toArray, List.set_cons_zero, List.set_cons_succ]
  refine wpAnyH_take (i := 3) (v := .bool false) rfl (by kernel_rfl) (by kernel_rfl) (by kernel_rfl) (fun _ _ _ h => h) (yields_move (.tmp 35) (.bool false) rfl (by kernel_rfl) (by kernel_rfl)) ⟨T4, T9, T11⟩ ?_
  simp only [Act.put, List.getElem_toArray, List.getElem_cons_succ, List.getElem_cons_zero, List.setIfInBounds_toArray, List.set_cons_zero, List.set_cons_succ]
  refine wpAnyH_take (i := 4) (v := .int .i64 ee) rfl (by kernel_rfl) (by kernel_rfl) (by kernel_rfl) (fun _ _ _ h => h) (yields_move (.tmp 10) (.int .i64 ee) rfl (by kernel_rfl) (by kernel_rfl)) ⟨T4, T9, T11⟩ ?_
  simp only [Act.put, List.getElem_toArray, List.getElem_cons_succ, List.getElem_cons_zero, List.setIfInBounds_toArray, List.set_cons_zero, List.set_cons_succ]
  refine wpAnyH_take (i := 5) (v := .int .i64 ee) rfl (by kernel_rfl) (by kernel_rfl) (by kernel_rfl) (fun _ _ _ h => h) (yields_move (.tmp 12) (.int .i64 ee) rfl (by kernel_rfl) (by kernel_rfl)) ⟨T4, T9, T11⟩ ?_
  simp only [Act.put, List.getElem_toArray, List.getElem_cons_succ, List.getElem_cons_zero, List.setIfInBounds_toArray, List.set_cons_zero, List.set_cons_succ]
  refine wpAnyH_take (i := 6) (v := .bool false) rfl (by kernel_rfl) (by kernel_rfl) (by kernel_rfl) (fun _ _ _ h => h) (yields_nei 24 (.tmp 37) (.tmp 38) (ee) (ee) false rfl (by kernel_rfl) (by kernel_rfl) (by kernel_rfl) (by simp)) ⟨T4, T9, T11⟩ ?_
  simp only [Act.put, List.getElem_toArray, List.getElem_cons_succ, List.getElem_cons_zero, List.setIfInBounds_toArray, List.set_cons_zero, List.set_cons_succ]
  refine wpAnyH_take (i := 7) (v := .bool false) rfl (by kernel_rfl) (by kernel_rfl) (by kernel_rfl) (fun _ _ _ h => h) (yields_pickf (.tmp 36) (.const (.bool true)) (.tmp 39) (.bool false) rfl (by kernel_rfl) (by kernel_rfl) (by kernel_rfl)) ⟨T4, T9, T11⟩ ?_
  simp only [Act.put, List.getElem_toArray, List.getElem_cons_succ, List.getElem_cons_zero, List.setIfInBounds_toArray, List.set_cons_zero, List.set_cons_succ]
  refine wpAnyH_take (i := 8) (v := .bool false) rfl (by kernel_rfl) (by kernel_rfl) (by kernel_rfl) (fun _ _ _ h => h) (yields_move (.tmp 40) (.bool false) rfl (by kernel_rfl) (by kernel_rfl)) ⟨T4, T9, T11⟩ ?_
  simp only [Act.put, List.getElem_toArray, List.getElem_cons_succ, List.getElem_cons_zero, List.setIfInBounds_toArray, List.set_cons_zero, List.set_cons_succ]
  refine wpAnyH_take (i := 9) (v := .agg (pc f g)) rfl (by kernel_rfl) (by kernel_rfl) (by kernel_rfl) (fun _ _ _ h => h) (yields_load_pool (.tmp 4) rfl (by kernel_rfl) w.heap.size (by kernel_rfl) f g (fun _ h => h.1)) ⟨T4, T9, T11⟩ ?_
  simp only [Act.put, List.getElem_toArray, List.getElem_cons_succ, List.getElem_cons_zero, List.setIfInBounds_toArray, List.set_cons_zero, List.set_cons_succ]
  refine wpAnyH_take (i := 10) (v := .int .i64 a2) rfl (by kernel_rfl) (by kernel_rfl) (by kernel_rfl) (fun _ _ _ h => h) (yields_move (.tmp 2) (.int .i64 a2) rfl (by kernel_rfl) (by kernel_rfl)) ⟨T4, T9, T11⟩ ?_
  simp only [Act.put, List.getElem_toArray, List.getElem_cons_succ, List.getElem_cons_zero, List.setIfInBounds_toArray, List.set_cons_zero, List.set_cons_succ]
  refine wpAnyH_take (i := 12) (v := .agg (pc f g)) rfl (by kernel_rfl) (by kernel_rfl) (by kernel_rfl) (fun _ _ _ h => h) (yields_load_pool (.tmp 4) rfl (by kernel_rfl) w.heap.size (by kernel_rfl) f g (fun _ h => h.1)) ⟨T4, T9, T11⟩ ?_
  simp only [Act.put, List.getElem_toArray, List.getElem_cons_succ, List.getElem_cons_zero, List.setIfInBounds_toArray, List.set_cons_zero, List.set_cons_succ]
  refine wpAnyH_take (i := 13) (v := .int .i64 a2) rfl (by kernel_rfl) (by kernel_rfl) (by kernel_rfl) (fun _ _ _ h => h) (yields_move (.tmp 2) (.int .i64 a2) rfl (by kernel_rfl) (by kernel_rfl)) ⟨T4, T9, T11⟩ ?_
  simp only [Act.put, List.getElem_toArray, List.getElem_cons_succ, List.getElem_cons_zero, List.setIfInBounds_toArray, List.set_cons_zero, List.set_cons_succ]
  refine wpAnyH_ready (rs := [11]) (by kernel_rfl) (by simp) ?_
  refine AllReadyH.cons rfl (fun K hK => ?_) ?_
  · go_simp
    go_fit (C3 _); rintro e w' ⟨rfl, hb⟩; (try replace hb := below_undr' hb); replace T4 := T4.below hb; replace T9 := T9.below hb; replace T11 := T11.below hb; replace hB := hB.trans (hb.mono hB.size)
    go_wp2_with fail
    refine hK.out _ _ ⟨T4, T9, T11⟩ (fun _ => ?_)
    clear hK K
    try simp only [Act.put, List.getElem_toArray, List.getElem_cons_succ, List.getElem_cons_zero, List.setIfInBounds_toArray, List.set_cons_zero, List.set_cons_succ]
    refine wpAnyH_ready (rs := [14]) (by kernel_rfl) (by simp) ?_
    refine AllReadyH.cons rfl (fun K hK => ?_) ?_
    · go_simp
      go_fit (C4 _); rintro e w' ⟨rfl, hb⟩; (try replace hb := below_undr' hb); replace T4 := T4.below hb; replace T9 := T9.below hb; replace T11 := T11.below hb; replace hB := hB.trans (hb.mono hB.size)
      go_wp2_with fail
      refine hK.out _ _ ⟨T4, T9, T11⟩ (fun _ => ?_)
      clear hK K
      try simp only [Act.put, List.getElem_toArray, List.getElem_cons_succ, List.getElem_cons_zero, List.setIfInBounds_toArray, List.set_cons_zero, List.set_cons_succ]
      refine wpAnyH_take (i := 15) (v := .bool false) rfl (by kernel_rfl) (by kernel_rfl) (by kernel_rfl) (fun _ _ _ h => h) (yields_neb (.tmp 44) (.tmp 47) (em) (em) false rfl (by kernel_rfl) (by kernel_rfl) (by kernel_rfl) (by simp)) ⟨T4, T9, T11⟩ ?_
      simp only [Act.put, List.getElem_toArray, List.getElem_cons_succ, List.getElem_cons_zero, List.setIfInBounds_toArray, List.set_cons_zero, List.set_cons_succ]
      refine wpAnyH_take (i := 16) (v := .bool false) rfl (by kernel_rfl) (by kernel_rfl) (by kernel_rfl) (fun _ _ _ h => h) (yields_pickf (.tmp 41) (.const (.bool true)) (.tmp 48) (.bool false) rfl (by kernel_rfl) (by kernel_rfl) (by kernel_rfl)) ⟨T4, T9, T11⟩ ?_
      simp only [Act.put, List.getElem_toArray, List.getElem_cons_succ, List.getElem_cons_zero, List.setIfInBounds_toArray, List.set_cons_zero, List.set_cons_succ]
      refine wpAnyH_done (by kernel_rfl) ?_ _
      refine NoPanic.normal ?_
      go_wp2_with (first     | (refine wpList_load_pool _ rfl ?_ _ rfl f g T4 ?_; · kernel_rfl)     | (refine wpList_load_pool _ rfl ?_ _ rfl f G1 T9 ?_; · kernel_rfl)     | (refine wpList_load_pool _ rfl ?_ _ rfl f G1 T11 ?_; · kernel_rfl)     | (refine wpList_load_pool _ rfl ?_ _ rfl f G2 T13 ?_; · kernel_rfl)     | (refine wpList_load_pool _ rfl ?_ _ rfl f G2 T15 ?_; · kernel_rfl)     | (refine wpList_eq_pool _ _ rfl ?_ f G1 w0 rfl rfl ?_; · kernel_rfl)     | (refine wpList_eq_pool _ _ rfl ?_ f G2 w0 rfl rfl ?_; · kernel_rfl)     | (go_at_call 33; go_fit (C5 _); rintro e w' ⟨rfl, hb⟩; (try replace hb := below_undr' hb); replace T4 := T4.below hb; (try replace T9 := T9.below hb); (try replace T11 := T11.below hb); (try replace T13 := T13.below hb); (try replace T15 := T15.below hb); replace hB := hB.trans (hb.mono hB.size))     | (go_at_call 34; go_fit (C6 _); rintro e w' ⟨rfl, hb⟩; (try replace hb := below_undr' hb); replace T4 := T4.below hb; (try replace T9 := T9.below hb); (try replace T11 := T11.below hb); (try replace T13 := T13.below hb); (try replace T15 := T15.below hb); replace hB := hB.trans (hb.mono hB.size))     | (go_at_call 35; go_fit (C7 _); rintro e w' ⟨rfl, hb⟩; (try replace hb := below_undr' hb); replace T4 := T4.below hb; (try replace T9 := T9.below hb); (try replace T11 := T11.below hb); (try replace T13 := T13.below hb); (try replace T15 := T15.below hb); replace hB := hB.trans (hb.mono hB.size))     | (go_at_call 34; go_fit (C8 _); rintro e w' ⟨rfl, hb⟩; (try replace hb := below_undr' hb); replace T4 := T4.below hb; (try replace T9 := T9.below hb); (try replace T11 := T11.below hb); (try replace T13 := T13.below hb); (try replace T15 := T15.below hb); replace hB := hB.trans (hb.mono hB.size))     | (go_at_call 28; refine (poolsLaw_any _).mono ?_; rintro e w' ⟨rfl, hb⟩; (try replace hb := below_undr' hb); replace T4 := T4.below hb; (try replace T9 := T9.below hb); (try replace T11 := T11.below hb); (try replace T13 := T13.below hb); (try replace T15 := T15.below hb); replace hB := hB.trans (hb.mono hB.size))     | (refine wpList_alloc_pool rfl rfl ?_; intro b15 w8 eb15 T15 hk8 hb8 hs8; have nb15T4 := (hk8 _ _ T4).2; replace T4 := (hk8 _ _ T4).1; have nb15T9 := (hk8 _ _ T9).2; replace T9 := (hk8 _ _ T9).1; have nb15T11 := (hk8 _ _ T11).2; replace T11 := (hk8 _ _ T11).1; have nb15T13 := (hk8 _ _ T13).2; replace T13 := (hk8 _ _ T13).1; replace hB := hb8 _ _ hB hB.size; have lb15 : w.heap.size ≤ b15 := (by rw [eb15]; have := T4.lt; omega); clear hs8 hk8 hb8 eb15)     | (refine wpList_alloc_pool rfl rfl ?_; intro b13 w8 eb13 T13 hk8 hb8 hs8; have nb13T4 := (hk8 _ _ T4).2; replace T4 := (hk8 _ _ T4).1; have nb13T9 := (hk8 _ _ T9).2; replace T9 := (hk8 _ _ T9).1; have nb13T11 := (hk8 _ _ T11).2; replace T11 := (hk8 _ _ T11).1; replace hB := hb8 _ _ hB hB.size; have lb13 : w.heap.size ≤ b13 := (by rw [eb13]; have := T4.lt; omega); clear hs8 hk8 hb8 eb13)     | (refine wpList_store_pool rfl _ _ rfl b9 rfl f G1 rfl (pc F g) T9 rfl ?_; intro w8 T9 hs8 hk8 hb8; replace T4 := hk8 _ _ nb9T4 T4; replace T11 := hk8 _ _ nb11T9.symm T11; replace hB := hb8 _ _ lb9 hB; clear hs8 hk8 hb8)     | (refine wpList_store_pool rfl _ _ rfl b11 rfl f G1 rfl (pc F g) T11 rfl ?_; intro w8 T11 hs8 hk8 hb8; replace T4 := hk8 _ _ nb11T4 T4; replace T9 := hk8 _ _ nb11T9 T9; replace hB := hb8 _ _ lb11 hB; clear hs8 hk8 hb8)     | (refine wpList_store_pool rfl _ _ rfl b13 rfl f G2 rfl (pc (fun _ => 0) (fun _ => false)) T13 rfl ?_; intro w8 T13 hs8 hk8 hb8; replace T4 := hk8 _ _ nb13T4 T4; replace T9 := hk8 _ _ nb13T9 T9; replace T11 := hk8 _ _ nb13T11 T11; replace hB := hb8 _ _ lb13 hB; clear hs8 hk8 hb8)     | (refine wpList_store_pool rfl _ _ rfl b15 rfl f G2 rfl (pc (fun _ => 0) (fun _ => false)) T15 rfl ?_; intro w8 T15 hs8 hk8 hb8; replace T4 := hk8 _ _ nb15T4 T4; replace T9 := hk8 _ _ nb15T9 T9; replace T11 := hk8 _ _ nb15T11 T11; replace T13 := hk8 _ _ nb15T13 T13; replace hB := hb8 _ _ lb15 hB; clear hs8 hk8 hb8))
      go_ret
      exact ⟨by kernel_rfl, hB⟩
    exact AllReadyH.nil
  exact AllReadyH.nil

set_option maxRecDepth 100000 in
theorem lifted (os : Os) (started : os.Started) (H : Type) (enc : TypeId × Value → H) :
    ReturnsInHanded {} Try.checked os 5 .any (Rows.poolGivesSpec.pre6 enc Try.prog Try.f5 Rows.poolGivesRow.domain false) (Rows.poolGivesSpec.post enc Try.prog Try.f5 false true false false) := by
  refine returnsInHanded_of_change_sized (C := Try.checked) own started (by kernel_rfl) Try.func5
    (ChangeSpec.witness6 (enc := enc) (C := Try.checked) false ⟨#[], #[.agg #[.int .i64 0, .int .i64 0, .int .i64 0, .int .i64 0, .int .i64 0, .int .i64 0, .int .i64 0, .int .i64 0, .int .i64 0, .int .i64 0, .int .i64 0, .int .i64 0, .int .i64 0, .int .i64 0, .int .i64 0, .int .i64 0, .int .i64 0, .int .i64 0, .bool false, .bool false, .bool false], .int .i64 0, .int .i64 0, .int .i64 0], []⟩ 8 (by kernel_rfl) (by kernel_rfl) (by kernel_rfl) (by kernel_rfl)) ?_
  intro W base args ds gs before hval0 hW hcnd hsz0 _
  have hval : ∀ (j : Nat) t v, Try.f5.params[j]? = some t → args[j]? = some v → Value.okWide Try.prog W .any base t v := hval0
  have hW' := hW
  obtain ⟨p, q, hA0, hV, rfl, hfz, hnd⟩ := hW
  have hA : DataW.TrodAll enc Try.prog W 0 (fun _ => true) true Try.f5.params.toList args.toList ds p := hA0
  have hsz : (DataW.weightsEach Try.prog (Try.f5.params.toList ++ Rows.poolGivesSpec.plain.varTypes Try.prog) (ds ++ gs)).all (· ≤ reachBytes) = true := hsz0
  rw [Try.params5] at hA hval hsz
  obtain ⟨v0, vs0, d0, ds0, p0, q0, hargs, rfl, rfl, h0, r0⟩ := trodAll_cons hA
  obtain ⟨v1, vs1, d1, ds1, p1, q1, rfl, rfl, rfl, h1, r1⟩ := trodAll_cons r0
  obtain ⟨v2, vs2, d2, ds2, p2, q2, rfl, rfl, rfl, h2, r2⟩ := trodAll_cons r1
  obtain ⟨v3, vs3, d3, ds3, p3, q3, rfl, rfl, rfl, h3, r3⟩ := trodAll_cons r2
  obtain ⟨rfl, rfl, rfl⟩ := trodAll_nil r3
  obtain rfl : args = #[v0, v1, v2, v3] := by cases args; simp_all
  obtain ⟨rfl, rfl⟩ := trodVars_none hV
  obtain ⟨a0, rfl, rfl, rfl, w0⟩ := open_pool (hval 0 47 v0 rfl rfl) h0
  obtain ⟨a1, rfl, rfl, rfl, w1⟩ := open_int Try.underlying3 (hval 1 3 v1 rfl rfl) h1
  obtain ⟨a2, rfl, rfl, rfl, w2⟩ := open_int Try.underlying3 (hval 2 3 v2 rfl rfl) h2
  obtain ⟨a3, rfl, rfl, rfl, w3⟩ := open_int Try.underlying3 (hval 3 3 v3 rfl rfl) h3
  clear hA0 hval0
  simp only [List.append_nil] at hW'
  refine (walk a0 a1 a2 a3 w0 w1 w2 w3 W).mono fun e W' ⟨he, bel⟩ => ?_
  subst he
  exact ⟨_, rfl, _, _, _, [], [], [], hW', trodAll_mk1 (shut_bool Try.underlying4 _), (trodAll_cons_mk (shut_pool w0) (trodAll_cons_mk (shut_int Try.underlying3 w1) (trodAll_cons_mk (shut_int Try.underlying3 w2) (trodAll_cons_mk (shut_int Try.underlying3 w3) trodAll_mk0)))), rfl, bel.frame _, fun h => by cases h⟩

theorem over : Rows.poolGivesRow.holds Try.pinned (OpenSpec.ofChange Rows.poolGivesSpec) :=
  OpenClaim.holds_of_wide 5 Try.f5 rfl rfl rfl rfl rfl rfl rfl ⟨rfl, rfl, rfl, rfl, rfl⟩ rfl rfl rfl rfl rfl (by kernel_rfl) Try.func5 (by kernel_rfl)
    (of_decide_eq_true (by kernel_rfl)) (by unfold Func.isWrapper; first | (rw [if_pos (by decide +kernel)]; kernel_rfl) | (rw [if_neg (by decide +kernel)]; exact ⟨rfl, rfl⟩))
    (fun os started H enc _ => lifted os started H enc)

end Go.Proofs.Ythcedehppflcgad.poolGives
namespace Go.Proofs.Ythcedehppflcgad
theorem poolGives_holds : Rows.PoolGivesSaid := poolGives.over
#print axioms poolGives_holds
end Go.Proofs.Ythcedehppflcgad
