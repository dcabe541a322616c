/-
  For every pool, rentrolllaw.PoolTakes returns true: Good, Left, Pick and Take answer exactly what the document's own answers say, errors too; no condition but the form's own reach.
-/
import Derived.Test.YthcedehppflcgadRows
import Derived.WalkKit
import Derived.ProofKit
import Derived.OpenShut
import Derived.ShutString
import Derived.SizedLaws
import Derived.Below
import Derived.Test.YthcedehppflcgadPoolIn
import Derived.Test.YthcedehppflcgadYieldP
import Derived.Deep.RegionHeld3
namespace Go.Proofs.Ythcedehppflcgad.poolTakes
open Go.ChangeShapes Go.WideShapes Go.ChangeAt Go.RowKit
open Go.ChangeMaps (open_string shut_string)
set_option linter.unusedVariables false
set_option linter.unusedSimpArgs false

theorem own : ownKnob Try.prog.godebug = none := by kernel_rfl

theorem takeF_wf (f : Nat → Int) (g : Nat → Bool) (s a d : Int) (h : wfF f) : wfF (takeF f g s a d) := by
  unfold takeF
  by_cases e : takeE f g s a = 0
  · rw [if_pos e]
    intro i hi
    unfold upd
    by_cases hn : i = 6 * a.toNat + takeK f g s a d
    · rw [if_pos hn]
      have hs : inR s 8 = true := by
        unfold takeE at e
        by_cases h1 : goodP f = true
        · rw [if_pos h1] at e
          by_cases h2 : inR a 3 = true ∧ inR s 8 = true
          · exact h2.2
          · rw [if_neg h2] at e; omega
        · rw [if_neg h1] at e; omega
      have : 0 ≤ s ∧ s < 8 := of_decide_eq_true hs
      simp [Lit.wf, IntKind.min, IntKind.max, IntKind.bits, IntKind.signed]; omega
    · rw [if_neg hn]; exact h i hi
  · rw [if_neg e]; exact h
set_option maxRecDepth 10000 in
set_option maxHeartbeats 8000000 in
theorem walk (a0 : PoolV) (a1 : Int) (a2 : Int) (a3 : Int) (w0 : wfF a0.f) (w1 : (Lit.int .i64 a1).wf = true) (w2 : (Lit.int .i64 a2).wf = true) (w3 : (Lit.int .i64 a3).wf = true) (w : World) :
    Calls Try.prog 4 #[plv a0.f a0.g, .int .i64 a1, .int .i64 a2, .int .i64 a3] w fun e w' => e = .returned (.bool true) ∧ Below w.heap.size w w' := by
  obtain ⟨f, g⟩ := a0
  simp only at w0 ⊢
  have hB : Below w.heap.size w (w.alloc (.cells (pc f g) 47)) := (Below.refl _ _).alloc (Nat.le_refl _) _
  have T4 : PRow (w.alloc (.cells (pc f g) 47)) w.heap.size (pc f g) := PRow.new _ _
  have C1 := fun w => take_any f g a1 a2 a3 w3 w
  have C2 := fun w => taker_any f g a1 a2 a3 w3 w
  have C3 := fun w => pick_any f g a3 w3 w
  have C4 := fun w => pickr_any f g a3 w3 w
  have C5 := fun w => good_any f g w
  have C6 := fun w => goodr_any f g w
  have C7 := fun w => left_any f g a2 w
  have C8 := fun w => leftr_any f g a2 w
  have hF := takeF_wf f g a1 a2 a3 w0
  unfold takeS at C1 C2
  generalize takeF f g a1 a2 a3 = F at *
  generalize ((takeK f g a1 a2 a3 : Nat) : Int) = kk at *
  generalize takeE f g a1 a2 = ee at *
  generalize pickK f g a3 = pk at *
  generalize pickE f g = pe at *
  generalize goodP f = gp at *
  generalize leftP f a2 = lf at *
  unfold plv at *
  go_enter Try.func4, Try.ntmps4
  go_upto_region 5 with (first
    | (refine wpList_load_pool _ rfl ?_ _ rfl f g T4 ?_; · rfl)
    | (go_at_call 20; go_fit (C1 _); rintro e w' ⟨rfl, hb⟩; (try replace hb := below_undr' hb); replace T4 := T4.below hb; replace hB := hB.trans (hb.mono hB.size))
    | fail
    | (refine wpList_store_pool rfl _ _ rfl b9 rfl F g rfl (pc (fun _ => 0) (fun _ => false)) T9 rfl ?_; intro w8 T9 hs8 hk8 hb8; replace T4 := hk8 _ _ nb9T4 T4; replace hB := hb8 _ _ lb9 hB; clear hs8 hk8 hb8)
    | (go_at_call 21; go_fit (C2 _); rintro e w' ⟨rfl, hb⟩; (try replace hb := below_undr' hb); replace T4 := T4.below hb; replace T9 := T9.below hb; replace hB := hB.trans (hb.mono hB.size))
    | (refine wpList_alloc_pool rfl rfl ?_; intro b12 w8 eb12 T12 hk8 hb8 hs8; have nb12T4 := (hk8 _ _ T4).2; replace T4 := (hk8 _ _ T4).1; have nb12T9 := (hk8 _ _ T9).2; replace T9 := (hk8 _ _ T9).1; replace hB := hb8 _ _ hB hB.size; have lb12 : w.heap.size ≤ b12 := (by rw [eb12]; have := hB.size; have := T4.lt; omega); clear hs8 hk8 hb8 eb12)
    | (refine wpList_alloc_pool rfl rfl ?_; intro b9 w8 eb9 T9 hk8 hb8 hs8; have nb9T4 := (hk8 _ _ T4).2; replace T4 := (hk8 _ _ T4).1; replace hB := hb8 _ _ hB hB.size; have lb9 : w.heap.size ≤ b9 := (by rw [eb9]; have := hB.size; have := T4.lt; omega); clear hs8 hk8 hb8 eb9)
    | (refine wpList_store_pool rfl _ _ rfl b12 rfl F g rfl (pc (fun _ => 0) (fun _ => false)) T12 rfl ?_; intro w8 T12 hs8 hk8 hb8; replace T4 := hk8 _ _ nb12T4 T4; replace T9 := hk8 _ _ nb12T9 T9; replace hB := hb8 _ _ lb12 hB; clear hs8 hk8 hb8)
    | (go_at_call 22; go_fit (C3 _); rintro e w' ⟨rfl, hb⟩; (try replace hb := below_undr' hb); replace T4 := T4.below hb; replace T9 := T9.below hb; replace T12 := T12.below hb; replace hB := hB.trans (hb.mono hB.size))
    | (go_at_call 23; go_fit (C4 _); rintro e w' ⟨rfl, hb⟩; (try replace hb := below_undr' hb); replace T4 := T4.below hb; replace T9 := T9.below hb; replace T12 := T12.below hb; replace hB := hB.trans (hb.mono hB.size)))
  clear C1 C2 C3 C4 w1 w2 w3 w0
  refine wp_region_noPanic ?_
  refine wp_region_held_drew (S := fun w' => PRow w' w.heap.size (pc f g) ∧ PRow w' b9 (pc F g) ∧ PRow w' b12 (pc F g)) (by kernel_rfl) ⟨T4, T9, T12⟩ (fun _ => ?_)
  refine wpAnyH_take (i := 0) (v := .agg (pc F g)) rfl (by kernel_rfl) (by kernel_rfl) (by kernel_rfl) (fun _ _ _ h => h) (yields_load_pool (.tmp 9) rfl (by kernel_rfl) b9 (by kernel_rfl) F g (fun _ h => h.2.1)) ⟨T4, T9, T12⟩ ?_
  simp only [Act.put, List.getElem_toArray, List.getElem_cons_succ, List.getElem_cons_zero, List.setIfInBounds_toArray, List.set_cons_zero, List.set_cons_succ]
  refine wpAnyH_take (i := 1) (v := .agg (pc F g)) rfl (by kernel_rfl) (by kernel_rfl) (by kernel_rfl) (fun _ _ _ h => h) (yields_load_pool (.tmp 12) rfl (by kernel_rfl) b12 (by kernel_rfl) F g (fun _ h => h.2.2)) ⟨T4, T9, T12⟩ ?_
  simp only [Act.put, List.getElem_toArray, List.getElem_cons_succ, List.getElem_cons_zero, List.setIfInBounds_toArray, List.set_cons_zero, List.set_cons_succ]
  refine wpAnyH_take (i := 2) (v := .bool true) rfl (by kernel_rfl) (by kernel_rfl) (by kernel_rfl) (fun _ _ _ h => h) (yields_eq_pool (.tmp 49) (.tmp 50) rfl (by kernel_rfl) F g hF (by kernel_rfl) (by kernel_rfl)) ⟨T4, T9, T12⟩ ?_
  simp only [Act.put, List.getElem_toArray, List.getElem_cons_succ, List.getElem_cons_zero, List.setIfInBounds_toArray, List.set_cons_zero, List.set_cons_succ]
  refine wpAnyH_take (i := 3) (v := .bool true) rfl (by kernel_rfl) (by kernel_rfl) (by kernel_rfl) (fun _ _ _ h => h) (yields_move (.tmp 51) (.bool true) rfl (by kernel_rfl) (by kernel_rfl)) ⟨T4, T9, T12⟩ ?_
  simp only [Act.put, List.getElem_toArray, List.getElem_cons_succ, List.getElem_cons_zero, List.setIfInBounds_toArray, List.set_cons_zero, List.set_cons_succ]
  refine wpAnyH_take (i := 4) (v := .int .i64 kk) rfl (by kernel_rfl) (by kernel_rfl) (by kernel_rfl) (fun _ _ _ h => h) (yields_move (.tmp 10) (.int .i64 kk) rfl (by kernel_rfl) (by kernel_rfl)) ⟨T4, T9, T12⟩ ?_
  simp only [Act.put, List.getElem_toArray, List.getElem_cons_succ, List.getElem_cons_zero, List.setIfInBounds_toArray, List.set_cons_zero, List.set_cons_succ]
  refine wpAnyH_take (i := 5) (v := .int .i64 kk) rfl (by kernel_rfl) (by kernel_rfl) (by kernel_rfl) (fun _ _ _ h => h) (yields_move (.tmp 13) (.int .i64 kk) rfl (by kernel_rfl) (by kernel_rfl)) ⟨T4, T9, T12⟩ ?_
  simp only [Act.put, List.getElem_toArray, List.getElem_cons_succ, List.getElem_cons_zero, List.setIfInBounds_toArray, List.set_cons_zero, List.set_cons_succ]
  refine wpAnyH_take (i := 6) (v := .bool true) rfl (by kernel_rfl) (by kernel_rfl) (by kernel_rfl) (fun _ _ _ h => h) (yields_eqi 3 (.tmp 53) (.tmp 54) (kk) (kk) true rfl (by kernel_rfl) (by kernel_rfl) (by kernel_rfl) (by simp)) ⟨T4, T9, T12⟩ ?_
  simp only [Act.put, List.getElem_toArray, List.getElem_cons_succ, List.getElem_cons_zero, List.setIfInBounds_toArray, List.set_cons_zero, List.set_cons_succ]
  refine wpAnyH_take (i := 7) (v := .bool true) rfl (by kernel_rfl) (by kernel_rfl) (by kernel_rfl) (fun _ _ _ h => h) (yields_pickt (.tmp 52) (.tmp 55) (.const (.bool false)) (.bool true) rfl (by kernel_rfl) (by kernel_rfl) (by kernel_rfl)) ⟨T4, T9, T12⟩ ?_
  simp only [Act.put, List.getElem_toArray, List.getElem_cons_succ, List.getElem_cons_zero, List.setIfInBounds_toArray, List.set_cons_zero, List.set_cons_succ]
  refine wpAnyH_take (i := 8) (v := .bool true) rfl (by kernel_rfl) (by kernel_rfl) (by kernel_rfl) (fun _ _ _ h => h) (yields_move (.tmp 56) (.bool true) rfl (by kernel_rfl) (by kernel_rfl)) ⟨T4, T9, T12⟩ ?_
  simp only [Act.put, List.getElem_toArray, List.getElem_cons_succ, List.getElem_cons_zero, List.setIfInBounds_toArray, List.set_cons_zero, List.set_cons_succ]
  refine wpAnyH_take (i := 9) (v := .int .i64 ee) rfl (by kernel_rfl) (by kernel_rfl) (by kernel_rfl) (fun _ _ _ h => h) (yields_move (.tmp 11) (.int .i64 ee) rfl (by kernel_rfl) (by kernel_rfl)) ⟨T4, T9, T12⟩ ?_
  simp only [Act.put, List.getElem_toArray, List.getElem_cons_succ, List.getElem_cons_zero, List.setIfInBounds_toArray, List.set_cons_zero, List.set_cons_succ]
  refine wpAnyH_take (i := 10) (v := .int .i64 ee) rfl (by kernel_rfl) (by kernel_rfl) (by kernel_rfl) (fun _ _ _ h => h) (yields_move (.tmp 14) (.int .i64 ee) rfl (by kernel_rfl) (by kernel_rfl)) ⟨T4, T9, T12⟩ ?_
  simp only [Act.put, List.getElem_toArray, List.getElem_cons_succ, List.getElem_cons_zero, List.setIfInBounds_toArray, List.set_cons_zero, List.set_cons_succ]
  refine wpAnyH_take (i := 11) (v := .bool true) rfl (by kernel_rfl) (by kernel_rfl) (by kernel_rfl) (fun _ _ _ h => h) (yields_eqi 24 (.tmp 58) (.tmp 59) (ee) (ee) true rfl (by kernel_rfl) (by kernel_rfl) (by kernel_rfl) (by simp)) ⟨T4, T9, T12⟩ ?_
  simp only [Act.put, List.getElem_toArray, List.getElem_cons_succ, List.getElem_cons_zero, List.setIfInBounds_toArray, List.set_cons_zero, List.set_cons_succ]
  refine wpAnyH_take (i := 12) (v := .bool true) rfl (by kernel_rfl) (by kernel_rfl) (by kernel_rfl) (fun _ _ _ h => h) (yields_pickt (.tmp 57) (.tmp 60) (.const (.bool false)) (.bool true) rfl (by kernel_rfl) (by kernel_rfl) (by kernel_rfl)) ⟨T4, T9, T12⟩ ?_
  simp only [Act.put, List.getElem_toArray, List.getElem_cons_succ, List.getElem_cons_zero, List.setIfInBounds_toArray, List.set_cons_zero, List.set_cons_succ]
  refine wpAnyH_take (i := 13) (v := .bool true) rfl (by kernel_rfl) (by kernel_rfl) (by kernel_rfl) (fun _ _ _ h => h) (yields_move (.tmp 61) (.bool true) rfl (by kernel_rfl) (by kernel_rfl)) ⟨T4, T9, T12⟩ ?_
  simp only [Act.put, List.getElem_toArray, List.getElem_cons_succ, List.getElem_cons_zero, List.setIfInBounds_toArray, List.set_cons_zero, List.set_cons_succ]
  refine wpAnyH_take (i := 14) (v := .int .i64 pk) rfl (by kernel_rfl) (by kernel_rfl) (by kernel_rfl) (fun _ _ _ h => h) (yields_move (.tmp 15) (.int .i64 pk) rfl (by kernel_rfl) (by kernel_rfl)) ⟨T4, T9, T12⟩ ?_
  simp only [Act.put, List.getElem_toArray, List.getElem_cons_succ, List.getElem_cons_zero, List.setIfInBounds_toArray, List.set_cons_zero, List.set_cons_succ]
  refine wpAnyH_take (i := 15) (v := .int .i64 pk) rfl (by kernel_rfl) (by kernel_rfl) (by kernel_rfl) (fun _ _ _ h => h) (yields_move (.tmp 17) (.int .i64 pk) rfl (by kernel_rfl) (by kernel_rfl)) ⟨T4, T9, T12⟩ ?_
  simp only [Act.put, List.getElem_toArray, List.getElem_cons_succ, List.getElem_cons_zero, List.setIfInBounds_toArray, List.set_cons_zero, List.set_cons_succ]
  refine wpAnyH_take (i := 16) (v := .bool true) rfl (by kernel_rfl) (by kernel_rfl) (by kernel_rfl) (fun _ _ _ h => h) (yields_eqi 3 (.tmp 63) (.tmp 64) (pk) (pk) true rfl (by kernel_rfl) (by kernel_rfl) (by kernel_rfl) (by simp)) ⟨T4, T9, T12⟩ ?_
  simp only [Act.put, List.getElem_toArray, List.getElem_cons_succ, List.getElem_cons_zero, List.setIfInBounds_toArray, List.set_cons_zero, List.set_cons_succ]
  refine wpAnyH_take (i := 17) (v := .bool true) rfl (by kernel_rfl) (by kernel_rfl) (by kernel_rfl) (fun _ _ _ h => h) (yields_pickt (.tmp 62) (.tmp 65) (.const (.bool false)) (.bool true) rfl (by kernel_rfl) (by kernel_rfl) (by kernel_rfl)) ⟨T4, T9, T12⟩ ?_
  simp only [Act.put, List.getElem_toArray, List.getElem_cons_succ, List.getElem_cons_zero, List.setIfInBounds_toArray, List.set_cons_zero, List.set_cons_succ]
  refine wpAnyH_take (i := 18) (v := .bool true) rfl (by kernel_rfl) (by kernel_rfl) (by kernel_rfl) (fun _ _ _ h => h) (yields_move (.tmp 66) (.bool true) rfl (by kernel_rfl) (by kernel_rfl)) ⟨T4, T9, T12⟩ ?_
  simp only [Act.put, List.getElem_toArray, List.getElem_cons_succ, List.getElem_cons_zero, List.setIfInBounds_toArray, List.set_cons_zero, List.set_cons_succ]
  refine wpAnyH_take (i := 19) (v := .int .i64 pe) rfl (by kernel_rfl) (by kernel_rfl) (by kernel_rfl) (fun _ _ _ h => h) (yields_move (.tmp 16) (.int .i64 pe) rfl (by kernel_rfl) (by kernel_rfl)) ⟨T4, T9, T12⟩ ?_
  simp only [Act.put, List.getElem_toArray, List.getElem_cons_succ, List.getElem_cons_zero, List.setIfInBounds_toArray, List.set_cons_zero, List.set_cons_succ]
  refine wpAnyH_take (i := 20) (v := .int .i64 pe) rfl (by kernel_rfl) (by kernel_rfl) (by kernel_rfl) (fun _ _ _ h => h) (yields_move (.tmp 18) (.int .i64 pe) rfl (by kernel_rfl) (by kernel_rfl)) ⟨T4, T9, T12⟩ ?_
  simp only [Act.put, List.getElem_toArray, List.getElem_cons_succ, List.getElem_cons_zero, List.setIfInBounds_toArray, List.set_cons_zero, List.set_cons_succ]
  refine wpAnyH_take (i := 21) (v := .bool true) rfl (by kernel_rfl) (by kernel_rfl) (by kernel_rfl) (fun _ _ _ h => h) (yields_eqi 24 (.tmp 68) (.tmp 69) (pe) (pe) true rfl (by kernel_rfl) (by kernel_rfl) (by kernel_rfl) (by simp)) ⟨T4, T9, T12⟩ ?_
  simp only [Act.put, List.getElem_toArray, List.getElem_cons_succ, List.getElem_cons_zero, List.setIfInBounds_toArray, List.set_cons_zero, List.set_cons_succ]
  refine wpAnyH_take (i := 22) (v := .bool true) rfl (by kernel_rfl) (by kernel_rfl) (by kernel_rfl) (fun _ _ _ h => h) (yields_pickt (.tmp 67) (.tmp 70) (.const (.bool false)) (.bool true) rfl (by kernel_rfl) (by kernel_rfl) (by kernel_rfl)) ⟨T4, T9, T12⟩ ?_
  simp only [Act.put, List.getElem_toArray, List.getElem_cons_succ, List.getElem_cons_zero, List.setIfInBounds_toArray, List.set_cons_zero, List.set_cons_succ]
  refine wpAnyH_take (i := 23) (v := .bool true) rfl (by kernel_rfl) (by kernel_rfl) (by kernel_rfl) (fun _ _ _ h => h) (yields_move (.tmp 71) (.bool true) rfl (by kernel_rfl) (by kernel_rfl)) ⟨T4, T9, T12⟩ ?_
  simp only [Act.put, List.getElem_toArray, List.getElem_cons_succ, List.getElem_cons_zero, List.setIfInBounds_toArray, List.set_cons_zero, List.set_cons_succ]
  refine wpAnyH_take (i := 24) (v := .agg (pc f g)) rfl (by kernel_rfl) (by kernel_rfl) (by kernel_rfl) (fun _ _ _ h => h) (yields_load_pool (.tmp 4) rfl (by kernel_rfl) w.heap.size (by kernel_rfl) f g (fun _ h => h.1)) ⟨T4, T9, T12⟩ ?_
  simp only [Act.put, List.getElem_toArray, List.getElem_cons_succ, List.getElem_cons_zero, List.setIfInBounds_toArray, List.set_cons_zero, List.set_cons_succ]
  refine wpAnyH_take (i := 26) (v := .agg (pc f g)) rfl (by kernel_rfl) (by kernel_rfl) (by kernel_rfl) (fun _ _ _ h => h) (yields_load_pool (.tmp 4) rfl (by kernel_rfl) w.heap.size (by kernel_rfl) f g (fun _ h => h.1)) ⟨T4, T9, T12⟩ ?_
  simp only [Act.put, List.getElem_toArray, List.getElem_cons_succ, List.getElem_cons_zero, List.setIfInBounds_toArray, List.set_cons_zero, List.set_cons_succ]
  refine wpAnyH_ready (rs := [25]) (by kernel_rfl) (by simp) ?_
  refine AllReadyH.cons rfl (fun K hK => ?_) ?_
  · go_simp
    go_fit (C5 _); rintro e w' ⟨rfl, hb⟩; (try replace hb := below_undr' hb); replace T4 := T4.below hb; replace T9 := T9.below hb; replace T12 := T12.below hb; replace hB := hB.trans (hb.mono hB.size)
    go_wp2_with fail
    refine hK.out _ _ ⟨T4, T9, T12⟩ (fun _ => ?_)
    clear hK K
    try simp only [Act.put, List.getElem_toArray, List.getElem_cons_succ, List.getElem_cons_zero, List.setIfInBounds_toArray, List.set_cons_zero, List.set_cons_succ]
    refine wpAnyH_ready (rs := [27]) (by kernel_rfl) (by simp) ?_
    refine AllReadyH.cons rfl (fun K hK => ?_) ?_
    · go_simp
      go_fit (C6 _); rintro e w' ⟨rfl, hb⟩; (try replace hb := below_undr' hb); replace T4 := T4.below hb; replace T9 := T9.below hb; replace T12 := T12.below hb; replace hB := hB.trans (hb.mono hB.size)
      go_wp2_with fail
      refine hK.out _ _ ⟨T4, T9, T12⟩ (fun _ => ?_)
      clear hK K
      try simp only [Act.put, List.getElem_toArray, List.getElem_cons_succ, List.getElem_cons_zero, List.setIfInBounds_toArray, List.set_cons_zero, List.set_cons_succ]
      refine wpAnyH_take (i := 28) (v := .bool true) rfl (by kernel_rfl) (by kernel_rfl) (by kernel_rfl) (fun _ _ _ h => h) (yields_eqb (.tmp 74) (.tmp 76) (gp) (gp) true rfl (by kernel_rfl) (by kernel_rfl) (by kernel_rfl) (by simp)) ⟨T4, T9, T12⟩ ?_
      simp only [Act.put, List.getElem_toArray, List.getElem_cons_succ, List.getElem_cons_zero, List.setIfInBounds_toArray, List.set_cons_zero, List.set_cons_succ]
      refine wpAnyH_take (i := 29) (v := .bool true) rfl (by kernel_rfl) (by kernel_rfl) (by kernel_rfl) (fun _ _ _ h => h) (yields_pickt (.tmp 72) (.tmp 77) (.const (.bool false)) (.bool true) rfl (by kernel_rfl) (by kernel_rfl) (by kernel_rfl)) ⟨T4, T9, T12⟩ ?_
      simp only [Act.put, List.getElem_toArray, List.getElem_cons_succ, List.getElem_cons_zero, List.setIfInBounds_toArray, List.set_cons_zero, List.set_cons_succ]
      refine wpAnyH_take (i := 30) (v := .bool true) rfl (by kernel_rfl) (by kernel_rfl) (by kernel_rfl) (fun _ _ _ h => h) (yields_move (.tmp 78) (.bool true) rfl (by kernel_rfl) (by kernel_rfl)) ⟨T4, T9, T12⟩ ?_
      simp only [Act.put, List.getElem_toArray, List.getElem_cons_succ, List.getElem_cons_zero, List.setIfInBounds_toArray, List.set_cons_zero, List.set_cons_succ]
      refine wpAnyH_take (i := 31) (v := .agg (pc f g)) rfl (by kernel_rfl) (by kernel_rfl) (by kernel_rfl) (fun _ _ _ h => h) (yields_load_pool (.tmp 4) rfl (by kernel_rfl) w.heap.size (by kernel_rfl) f g (fun _ h => h.1)) ⟨T4, T9, T12⟩ ?_
      simp only [Act.put, List.getElem_toArray, List.getElem_cons_succ, List.getElem_cons_zero, List.setIfInBounds_toArray, List.set_cons_zero, List.set_cons_succ]
      refine wpAnyH_take (i := 32) (v := .int .i64 a2) rfl (by kernel_rfl) (by kernel_rfl) (by kernel_rfl) (fun _ _ _ h => h) (yields_move (.tmp 2) (.int .i64 a2) rfl (by kernel_rfl) (by kernel_rfl)) ⟨T4, T9, T12⟩ ?_
      simp only [Act.put, List.getElem_toArray, List.getElem_cons_succ, List.getElem_cons_zero, List.setIfInBounds_toArray, List.set_cons_zero, List.set_cons_succ]
      refine wpAnyH_take (i := 34) (v := .agg (pc f g)) rfl (by kernel_rfl) (by kernel_rfl) (by kernel_rfl) (fun _ _ _ h => h) (yields_load_pool (.tmp 4) rfl (by kernel_rfl) w.heap.size (by kernel_rfl) f g (fun _ h => h.1)) ⟨T4, T9, T12⟩ ?_
      simp only [Act.put, List.getElem_toArray, List.getElem_cons_succ, List.getElem_cons_zero, List.setIfInBounds_toArray, List.set_cons_zero, List.set_cons_succ]
      refine wpAnyH_take (i := 35) (v := .int .i64 a2) rfl (by kernel_rfl) (by kernel_rfl) (by kernel_rfl) (fun _ _ _ h => h) (yields_move (.tmp 2) (.int .i64 a2) rfl (by kernel_rfl) (by kernel_rfl)) ⟨T4, T9, T12⟩ ?_
      simp only [Act.put, List.getElem_toArray, List.getElem_cons_succ, List.getElem_cons_zero, List.setIfInBounds_toArray, List.set_cons_zero, List.set_cons_succ]
      refine wpAnyH_ready (rs := [33]) (by kernel_rfl) (by simp) ?_
      refine AllReadyH.cons rfl (fun K hK => ?_) ?_
      · go_simp
        go_fit (C7 _); rintro e w' ⟨rfl, hb⟩; (try replace hb := below_undr' hb); replace T4 := T4.below hb; replace T9 := T9.below hb; replace T12 := T12.below hb; replace hB := hB.trans (hb.mono hB.size)
        go_wp2_with fail
        refine hK.out _ _ ⟨T4, T9, T12⟩ (fun _ => ?_)
        clear hK K
        try simp only [Act.put, List.getElem_toArray, List.getElem_cons_succ, List.getElem_cons_zero, List.setIfInBounds_toArray, List.set_cons_zero, List.set_cons_succ]
        refine wpAnyH_ready (rs := [36]) (by kernel_rfl) (by simp) ?_
        refine AllReadyH.cons rfl (fun K hK => ?_) ?_
        · go_simp
          go_fit (C8 _); rintro e w' ⟨rfl, hb⟩; (try replace hb := below_undr' hb); replace T4 := T4.below hb; replace T9 := T9.below hb; replace T12 := T12.below hb; replace hB := hB.trans (hb.mono hB.size)
          go_wp2_with fail
          refine hK.out _ _ ⟨T4, T9, T12⟩ (fun _ => ?_)
          clear hK K
          try simp only [Act.put, List.getElem_toArray, List.getElem_cons_succ, List.getElem_cons_zero, List.setIfInBounds_toArray, List.set_cons_zero, List.set_cons_succ]
          refine wpAnyH_take (i := 37) (v := .bool true) rfl (by kernel_rfl) (by kernel_rfl) (by kernel_rfl) (fun _ _ _ h => h) (yields_eqi 3 (.tmp 82) (.tmp 85) (lf) (lf) true rfl (by kernel_rfl) (by kernel_rfl) (by kernel_rfl) (by simp)) ⟨T4, T9, T12⟩ ?_
          simp only [Act.put, List.getElem_toArray, List.getElem_cons_succ, List.getElem_cons_zero, List.setIfInBounds_toArray, List.set_cons_zero, List.set_cons_succ]
          refine wpAnyH_take (i := 38) (v := .bool true) rfl (by kernel_rfl) (by kernel_rfl) (by kernel_rfl) (fun _ _ _ h => h) (yields_pickt (.tmp 79) (.tmp 86) (.const (.bool false)) (.bool true) rfl (by kernel_rfl) (by kernel_rfl) (by kernel_rfl)) ⟨T4, T9, T12⟩ ?_
          simp only [Act.put, List.getElem_toArray, List.getElem_cons_succ, List.getElem_cons_zero, List.setIfInBounds_toArray, List.set_cons_zero, List.set_cons_succ]
          refine wpAnyH_take (i := 39) (v := .bool true) rfl (by kernel_rfl) (by kernel_rfl) (by kernel_rfl) (fun _ _ _ h => h) (yields_move (.tmp 87) (.bool true) rfl (by kernel_rfl) (by kernel_rfl)) ⟨T4, T9, T12⟩ ?_
          simp only [Act.put, List.getElem_toArray, List.getElem_cons_succ, List.getElem_cons_zero, List.setIfInBounds_toArray, List.set_cons_zero, List.set_cons_succ]
          refine wpAnyH_ready (rs := [40]) (by kernel_rfl) (by simp) ?_
          refine AllReadyH.cons rfl (fun K hK => ?_) ?_
          · go_simp
            refine (poolsLaw_any _).mono ?_; rintro e w' ⟨rfl, hb⟩; (try replace hb := below_undr' hb); replace T4 := T4.below hb; replace T9 := T9.below hb; replace T12 := T12.below hb; replace hB := hB.trans (hb.mono hB.size)
            go_wp2_with fail
            refine hK.out _ _ ⟨T4, T9, T12⟩ (fun _ => ?_)
            clear hK K
            try simp only [Act.put, List.getElem_toArray, List.getElem_cons_succ, List.getElem_cons_zero, List.setIfInBounds_toArray, List.set_cons_zero, List.set_cons_succ]
            refine wpAnyH_take (i := 41) (v := .bool true) rfl (by kernel_rfl) (by kernel_rfl) (by kernel_rfl) (fun _ _ _ h => h) (yields_pickt (.tmp 88) (.tmp 89) (.const (.bool false)) (.bool true) rfl (by kernel_rfl) (by kernel_rfl) (by kernel_rfl)) ⟨T4, T9, T12⟩ ?_
            simp only [Act.put, List.getElem_toArray, List.getElem_cons_succ, List.getElem_cons_zero, List.setIfInBounds_toArray, List.set_cons_zero, List.set_cons_succ]
            refine wpAnyH_take (i := 42) (v := .bool true) rfl (by kernel_rfl) (by kernel_rfl) (by kernel_rfl) (fun _ _ _ h => h) (yields_assign (.tmp 90) (.bool true) rfl (by kernel_rfl) (by kernel_rfl)) ⟨T4, T9, T12⟩ ?_
            simp only [Act.put, List.getElem_toArray, List.getElem_cons_succ, List.getElem_cons_zero, List.setIfInBounds_toArray, List.set_cons_zero, List.set_cons_succ]
            refine wpAnyH_done (by kernel_rfl) ?_ _
            refine NoPanic.normal ?_
            go_wp2_with fail
            go_ret
            exact ⟨by kernel_rfl, hB⟩
          exact AllReadyH.nil
        exact AllReadyH.nil
      exact AllReadyH.nil
    exact AllReadyH.nil
  exact AllReadyH.nil

set_option maxRecDepth 100000 in
theorem lifted (os : Os) (started : os.Started) (H : Type) (enc : TypeId × Value → H) :
    ReturnsInHanded {} Try.checked os 4 .any (Rows.poolTakesSpec.pre6 enc Try.prog Try.f4 Rows.poolTakesRow.domain false) (Rows.poolTakesSpec.post enc Try.prog Try.f4 false true false false) := by
  refine returnsInHanded_of_change_sized (C := Try.checked) own started (by kernel_rfl) Try.func4
    (ChangeSpec.witness6 (enc := enc) (C := Try.checked) false ⟨#[], #[.agg #[.int .i64 0, .int .i64 0, .int .i64 0, .int .i64 0, .int .i64 0, .int .i64 0, .int .i64 0, .int .i64 0, .int .i64 0, .int .i64 0, .int .i64 0, .int .i64 0, .int .i64 0, .int .i64 0, .int .i64 0, .int .i64 0, .int .i64 0, .int .i64 0, .bool false, .bool false, .bool false], .int .i64 0, .int .i64 0, .int .i64 0], []⟩ 8 (by kernel_rfl) (by kernel_rfl) (by kernel_rfl) (by kernel_rfl)) ?_
  intro W base args ds gs before hval0 hW hcnd hsz0 _
  have hval : ∀ (j : Nat) t v, Try.f4.params[j]? = some t → args[j]? = some v → Value.okWide Try.prog W .any base t v := hval0
  have hW' := hW
  obtain ⟨p, q, hA0, hV, rfl, hfz, hnd⟩ := hW
  have hA : DataW.TrodAll enc Try.prog W 0 (fun _ => true) true Try.f4.params.toList args.toList ds p := hA0
  have hsz : (DataW.weightsEach Try.prog (Try.f4.params.toList ++ Rows.poolTakesSpec.plain.varTypes Try.prog) (ds ++ gs)).all (· ≤ reachBytes) = true := hsz0
  rw [Try.params4] at hA hval hsz
  obtain ⟨v0, vs0, d0, ds0, p0, q0, hargs, rfl, rfl, h0, r0⟩ := trodAll_cons hA
  obtain ⟨v1, vs1, d1, ds1, p1, q1, rfl, rfl, rfl, h1, r1⟩ := trodAll_cons r0
  obtain ⟨v2, vs2, d2, ds2, p2, q2, rfl, rfl, rfl, h2, r2⟩ := trodAll_cons r1
  obtain ⟨v3, vs3, d3, ds3, p3, q3, rfl, rfl, rfl, h3, r3⟩ := trodAll_cons r2
  obtain ⟨rfl, rfl, rfl⟩ := trodAll_nil r3
  obtain rfl : args = #[v0, v1, v2, v3] := by cases args; simp_all
  obtain ⟨rfl, rfl⟩ := trodVars_none hV
  obtain ⟨a0, rfl, rfl, rfl, w0⟩ := open_pool (hval 0 47 v0 rfl rfl) h0
  obtain ⟨a1, rfl, rfl, rfl, w1⟩ := open_int Try.underlying3 (hval 1 3 v1 rfl rfl) h1
  obtain ⟨a2, rfl, rfl, rfl, w2⟩ := open_int Try.underlying3 (hval 2 3 v2 rfl rfl) h2
  obtain ⟨a3, rfl, rfl, rfl, w3⟩ := open_int Try.underlying3 (hval 3 3 v3 rfl rfl) h3
  clear hA0 hval0
  simp only [List.append_nil] at hW'
  refine (walk a0 a1 a2 a3 w0 w1 w2 w3 W).mono fun e W' ⟨he, bel⟩ => ?_
  subst he
  exact ⟨_, rfl, _, _, _, [], [], [], hW', trodAll_mk1 (shut_bool Try.underlying4 _), (trodAll_cons_mk (shut_pool w0) (trodAll_cons_mk (shut_int Try.underlying3 w1) (trodAll_cons_mk (shut_int Try.underlying3 w2) (trodAll_cons_mk (shut_int Try.underlying3 w3) trodAll_mk0)))), rfl, bel.frame _, fun h => by cases h⟩

theorem over : Rows.poolTakesRow.holds Try.pinned (OpenSpec.ofChange Rows.poolTakesSpec) :=
  OpenClaim.holds_of_wide 4 Try.f4 rfl rfl rfl rfl rfl rfl rfl ⟨rfl, rfl, rfl, rfl, rfl⟩ rfl rfl rfl rfl rfl (by kernel_rfl) Try.func4 (by kernel_rfl)
    (of_decide_eq_true (by kernel_rfl)) (by unfold Func.isWrapper; first | (rw [if_pos (by decide +kernel)]; kernel_rfl) | (rw [if_neg (by decide +kernel)]; exact ⟨rfl, rfl⟩))
    (fun os started H enc _ => lifted os started H enc)

end Go.Proofs.Ythcedehppflcgad.poolTakes
namespace Go.Proofs.Ythcedehppflcgad
theorem poolTakes_holds : Rows.PoolTakesSaid := poolTakes.over
#print axioms poolTakes_holds
end Go.Proofs.Ythcedehppflcgad
