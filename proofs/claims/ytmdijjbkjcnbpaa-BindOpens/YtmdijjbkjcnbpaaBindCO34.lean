/-
  Of what BindCloses, BindOpens stands on: part 34.
-/
import Derived.Test.YtmdijjbkjcnbpaaBindCO33
namespace Go.Proofs.Ytmdijjbkjcnbpaa
open Go.ChangeShapes Go.WideShapes Go.ChangeAt Go.RowKit
set_option linter.unusedSimpArgs false
set_option linter.unusedVariables false

attribute [local irreducible] tc pc
set_option maxRecDepth 100000 in
set_option maxHeartbeats 8000000 in
theorem openr_bad (f : Nat → Int) (g : Nat → Bool) (h : Nat → Int) (sl : Value) (ms : List Mp) (p s i d : Int) (hwH : wfH h) (hP : ¬ openP f h ms p s i) (w : World) (hM : MapsAt w sl ms) :
    Calls Try.prog 18 #[.agg (tc f g h sl), .int .i64 p, .int .i64 s, .int .i64 i, .int .i64 d] w fun e w' => e = .returned (openS f g h sl noM false 2) ∧ Below w.heap.size w w' := by
  unfold openS
  have B := Bd.start w
  have hM0 := hM
  obtain ⟨a0, cap, hsl, -⟩ := hM0
  obtain ⟨n, hn⟩ : ∃ n, n = ms.length := ⟨_, rfl⟩
  have HN : Hid (n = ms.length) := hn
  rw [← hn] at hsl
  subst hsl
  clear hn
  have hlt := hM.lt
  have CG := fun w hM => goodTable_ref f g h (.slice a0 n cap) ms hwH w hM
  have CI := fun w => isProto_ref p w
  by_cases G : GoodT f h ms
  rotate_left
  · have HG : Hid (¬ GoodT f h ms) := G
    clear G hP
    go_enter Try.func18, Try.ntmps18
    go_upto_region 3 with (first | ((with_reducible refine at_opB (.box 30 (.tmp 0)) rfl ?_); refine wpList_boxR 30 rfl (.tmp 0) rfl _ rfl ?_; intro b5 w9 l9 R9 h9; replace B := B.alloc l9 R9 h9; clear R9 h9 l9) | ((with_reducible refine at_opB (.alloc 30) rfl ?_); refine wpList_allocX 10 30 rfl rfl rfl _ table_zero ?_; intro b10 w9 l9 R9 h9; replace B := B.alloc l9 R9 h9; clear R9 h9 l9) | ((with_reducible refine at_opB (.alloc 32) rfl ?_); refine wpList_allocX 11 32 rfl rfl rfl _ map_zero ?_; intro b11 w9 l9 R9 h9; replace B := B.alloc l9 R9 h9; clear R9 h9 l9) | ((with_reducible refine at_opB (.build 32 #[]) rfl ?_); refine wpList_buildM0 rfl rfl ?_) | ((with_reducible refine at_opB (.alloc 32) rfl ?_); refine wpList_allocX 14 32 rfl rfl rfl _ map_zero ?_; intro b14 w9 l9 R9 h9; replace B := B.alloc l9 R9 h9; clear R9 h9 l9) | ((with_reducible refine at_opB (.store 32 (.tmp 14) (.tmp 35)) rfl ?_); refine wpList_storeR 32 rfl (.tmp 14) _ rfl b14 rfl (mc noM) rfl _ (B.row 0 rfl) rfl (mc_info _) (mc_one _) ?_; intro w9 R9 t9; replace B := B.turn 0 rfl R9 t9; clear R9 t9) | ((with_reducible refine at_opB (.load 30 (.tmp 5)) rfl ?_); refine wpList_loadR 30 (.tmp 5) rfl (by kernel_rfl) b5 rfl (tc f g h (.slice a0 n cap)) (B.row 3 rfl) _ Try.underlying30 rfl (tc_info _ _ _ _) ?_) | (go_at_call 15; go_fit (CG _ (hM.keep B.base hlt)); rintro e w5 ⟨r, hr, rfl, hb5⟩; obtain rfl : r = false := (by cases r with | false => rfl | true => exact absurd (hr.1 rfl) HG.out); clear hr; replace B := B.below hb5; clear hb5) | (go_at_call 36; go_fit (CI _); rintro e w' ⟨rfl, hw⟩; rw [hw]; clear hw w'))
    have RT : Row 30 _ b5 (tc f g h (.slice a0 n cap)) := B.row 3 rfl
    have RM : Row 32 _ b14 (mc noM) := B.row 0 rfl
    refine wp_region_noPanic ?_
    refine wp_region_held_drew (S := fun W => Row 30 W b5 (tc f g h (.slice a0 n cap)) ∧ Row 32 W b14 (mc noM)) (by kernel_rfl) ⟨RT, RM⟩ (fun _ => ?_)
    refine wpAnyH_take (i := 0) (v := .agg (tc f g h (.slice a0 n cap))) rfl (by kernel_rfl) (by kernel_rfl) (by kernel_rfl) (fun _ _ _ h => h) (yields_loadR 30 (.tmp 5) rfl (by kernel_rfl) b5 (by kernel_rfl) (tc f g h (.slice a0 n cap)) (fun _ h => h.1) _ Try.underlying30 rfl (tc_info _ _ _ _)) ⟨RT, RM⟩ ?_
    simp only [Act.put, List.getElem_toArray, List.getElem_cons_succ, List.getElem_cons_zero, List.setIfInBounds_toArray, List.set_cons_zero, List.set_cons_succ]
    refine wpAnyH_take (i := 1) (v := .agg (mc noM)) rfl (by kernel_rfl) (by kernel_rfl) (by kernel_rfl) (fun _ _ _ h => h) (yields_loadR 32 (.tmp 14) rfl (by kernel_rfl) b14 (by kernel_rfl) (mc noM) (fun _ h => h.2) _ Try.underlying32 rfl (mc_info _)) ⟨RT, RM⟩ ?_
    simp only [Act.put, List.getElem_toArray, List.getElem_cons_succ, List.getElem_cons_zero, List.setIfInBounds_toArray, List.set_cons_zero, List.set_cons_succ]
    refine wpAnyH_ready (rs := [2]) (by kernel_rfl) (by simp) ?_
    refine AllReadyH.cons rfl (fun K hK => ?_) ?_
    · rw [if_pos (by kernel_rfl)]
      refine wp_storeR 30 (.tmp 10) (.tmp 60) rfl b10 (by kernel_rfl) (tc f g h (.slice a0 n cap)) (by kernel_rfl) _ (B.row 2 rfl) (tc_sz _ _ _ _ _ _ _ _) (tc_info _ _ _ _) (tc_one _ _ _ _ _ _) ?_; intro w9 R9 t9; (first | replace t9 := turned_undrG t9 | skip); replace B := B.turn 2 rfl R9 t9; clear R9 t9; replace RT := B.row 3 rfl; replace RM := B.row 0 rfl
      refine hK.out _ _ ⟨RT, RM⟩ (fun _ => ?_)
      clear hK K
      try simp only [Act.put, List.getElem_toArray, List.getElem_cons_succ, List.getElem_cons_zero, List.setIfInBounds_toArray, List.set_cons_zero, List.set_cons_succ]
      refine wpAnyH_ready (rs := [3]) (by kernel_rfl) (by simp) ?_
      refine AllReadyH.cons rfl (fun K hK => ?_) ?_
      · rw [if_pos (by kernel_rfl)]
        refine wp_storeR 32 (.tmp 11) (.tmp 61) rfl b11 (by kernel_rfl) (mc noM) (by kernel_rfl) _ (B.row 1 rfl) rfl (mc_info _) (mc_one _) ?_; intro w9 R9 t9; (first | replace t9 := turned_undrG t9 | skip); replace B := B.turn 1 rfl R9 t9; clear R9 t9; replace RT := B.row 3 rfl; replace RM := B.row 0 rfl
        refine hK.out _ _ ⟨RT, RM⟩ (fun _ => ?_)
        clear hK K
        try simp only [Act.put, List.getElem_toArray, List.getElem_cons_succ, List.getElem_cons_zero, List.setIfInBounds_toArray, List.set_cons_zero, List.set_cons_succ]
        refine wpAnyH_take (i := 4) (v := .bool false) rfl (by kernel_rfl) (by kernel_rfl) (by kernel_rfl) (fun _ _ _ h => h) (Or.inl ⟨by kernel_rfl, by intro w hS; go_simp⟩) ⟨RT, RM⟩ ?_
        simp only [Act.put, List.getElem_toArray, List.getElem_cons_succ, List.getElem_cons_zero, List.setIfInBounds_toArray, List.set_cons_zero, List.set_cons_succ]
        refine wpAnyH_take (i := 5) (v := .int .i64 2) rfl (by kernel_rfl) (by kernel_rfl) (by kernel_rfl) (fun _ _ _ h => h) (Or.inl ⟨by kernel_rfl, by intro w hS; go_simp⟩) ⟨RT, RM⟩ ?_
        simp only [Act.put, List.getElem_toArray, List.getElem_cons_succ, List.getElem_cons_zero, List.setIfInBounds_toArray, List.set_cons_zero, List.set_cons_succ]
        refine wpAnyH_done (by kernel_rfl) ?_ _
        refine NoPanic.normal ?_
        clear RT RM
        go_wp2_with fail
        ((try simp only [Exit.inBlock, Exit.then]); first | (refine bodyPost_ret (results_row22 rfl _ _ _ _ _ _ rfl rfl (B.row 2 rfl) (B.row 1 rfl) _ _ Try.underlying30 Try.underlying32 rfl rfl (tc_info _ _ _ _) (mc_info _)) rfl ⟨rfl, B.base⟩) | (replace B := B.drew; refine bodyPost_ret (results_row22 rfl _ _ _ _ _ _ rfl rfl (B.row 2 rfl) (B.row 1 rfl) _ _ Try.underlying30 Try.underlying32 rfl rfl (tc_info _ _ _ _) (mc_info _)) rfl ⟨rfl, B.base⟩))
      exact AllReadyH.nil
    exact AllReadyH.nil
  have HG : Hid (GoodT f h ms) := G
  cases hp : isP p with
  | false =>
    rw [hp] at CI
    clear G hP hp
    go_enter Try.func18, Try.ntmps18
    go_upto_region 3 with (first | ((with_reducible refine at_opB (.box 30 (.tmp 0)) rfl ?_); refine wpList_boxR 30 rfl (.tmp 0) rfl _ rfl ?_; intro b5 w9 l9 R9 h9; replace B := B.alloc l9 R9 h9; clear R9 h9 l9) | ((with_reducible refine at_opB (.alloc 30) rfl ?_); refine wpList_allocX 10 30 rfl rfl rfl _ table_zero ?_; intro b10 w9 l9 R9 h9; replace B := B.alloc l9 R9 h9; clear R9 h9 l9) | ((with_reducible refine at_opB (.alloc 32) rfl ?_); refine wpList_allocX 11 32 rfl rfl rfl _ map_zero ?_; intro b11 w9 l9 R9 h9; replace B := B.alloc l9 R9 h9; clear R9 h9 l9) | ((with_reducible refine at_opB (.build 32 #[]) rfl ?_); refine wpList_buildM0 rfl rfl ?_) | ((with_reducible refine at_opB (.alloc 32) rfl ?_); refine wpList_allocX 14 32 rfl rfl rfl _ map_zero ?_; intro b14 w9 l9 R9 h9; replace B := B.alloc l9 R9 h9; clear R9 h9 l9) | ((with_reducible refine at_opB (.store 32 (.tmp 14) (.tmp 35)) rfl ?_); refine wpList_storeR 32 rfl (.tmp 14) _ rfl b14 rfl (mc noM) rfl _ (B.row 0 rfl) rfl (mc_info _) (mc_one _) ?_; intro w9 R9 t9; replace B := B.turn 0 rfl R9 t9; clear R9 t9) | ((with_reducible refine at_opB (.load 30 (.tmp 5)) rfl ?_); refine wpList_loadR 30 (.tmp 5) rfl (by kernel_rfl) b5 rfl (tc f g h (.slice a0 n cap)) (B.row 3 rfl) _ Try.underlying30 rfl (tc_info _ _ _ _) ?_) | (go_at_call 15; go_fit (CG _ (hM.keep B.base hlt)); rintro e w5 ⟨r, hr, rfl, hb5⟩; obtain rfl : r = true := (hr.2 HG.out); clear hr; replace B := B.below hb5; clear hb5) | (go_at_call 36; go_fit (CI _); rintro e w' ⟨rfl, hw⟩; rw [hw]; clear hw w'))
    have RT : Row 30 _ b5 (tc f g h (.slice a0 n cap)) := B.row 3 rfl
    have RM : Row 32 _ b14 (mc noM) := B.row 0 rfl
    refine wp_region_noPanic ?_
    refine wp_region_held_drew (S := fun W => Row 30 W b5 (tc f g h (.slice a0 n cap)) ∧ Row 32 W b14 (mc noM)) (by kernel_rfl) ⟨RT, RM⟩ (fun _ => ?_)
    refine wpAnyH_take (i := 0) (v := .agg (tc f g h (.slice a0 n cap))) rfl (by kernel_rfl) (by kernel_rfl) (by kernel_rfl) (fun _ _ _ h => h) (yields_loadR 30 (.tmp 5) rfl (by kernel_rfl) b5 (by kernel_rfl) (tc f g h (.slice a0 n cap)) (fun _ h => h.1) _ Try.underlying30 rfl (tc_info _ _ _ _)) ⟨RT, RM⟩ ?_
    simp only [Act.put, List.getElem_toArray, List.getElem_cons_succ, List.getElem_cons_zero, List.setIfInBounds_toArray, List.set_cons_zero, List.set_cons_succ]
    refine wpAnyH_take (i := 1) (v := .agg (mc noM)) rfl (by kernel_rfl) (by kernel_rfl) (by kernel_rfl) (fun _ _ _ h => h) (yields_loadR 32 (.tmp 14) rfl (by kernel_rfl) b14 (by kernel_rfl) (mc noM) (fun _ h => h.2) _ Try.underlying32 rfl (mc_info _)) ⟨RT, RM⟩ ?_
    simp only [Act.put, List.getElem_toArray, List.getElem_cons_succ, List.getElem_cons_zero, List.setIfInBounds_toArray, List.set_cons_zero, List.set_cons_succ]
    refine wpAnyH_ready (rs := [2]) (by kernel_rfl) (by simp) ?_
    refine AllReadyH.cons rfl (fun K hK => ?_) ?_
    · rw [if_pos (by kernel_rfl)]
      refine wp_storeR 30 (.tmp 10) (.tmp 60) rfl b10 (by kernel_rfl) (tc f g h (.slice a0 n cap)) (by kernel_rfl) _ (B.row 2 rfl) (tc_sz _ _ _ _ _ _ _ _) (tc_info _ _ _ _) (tc_one _ _ _ _ _ _) ?_; intro w9 R9 t9; (first | replace t9 := turned_undrG t9 | skip); replace B := B.turn 2 rfl R9 t9; clear R9 t9; replace RT := B.row 3 rfl; replace RM := B.row 0 rfl
      refine hK.out _ _ ⟨RT, RM⟩ (fun _ => ?_)
      clear hK K
      try simp only [Act.put, List.getElem_toArray, List.getElem_cons_succ, List.getElem_cons_zero, List.setIfInBounds_toArray, List.set_cons_zero, List.set_cons_succ]
      refine wpAnyH_ready (rs := [3]) (by kernel_rfl) (by simp) ?_
      refine AllReadyH.cons rfl (fun K hK => ?_) ?_
      · rw [if_pos (by kernel_rfl)]
        refine wp_storeR 32 (.tmp 11) (.tmp 61) rfl b11 (by kernel_rfl) (mc noM) (by kernel_rfl) _ (B.row 1 rfl) rfl (mc_info _) (mc_one _) ?_; intro w9 R9 t9; (first | replace t9 := turned_undrG t9 | skip); replace B := B.turn 1 rfl R9 t9; clear R9 t9; replace RT := B.row 3 rfl; replace RM := B.row 0 rfl
        refine hK.out _ _ ⟨RT, RM⟩ (fun _ => ?_)
        clear hK K
        try simp only [Act.put, List.getElem_toArray, List.getElem_cons_succ, List.getElem_cons_zero, List.setIfInBounds_toArray, List.set_cons_zero, List.set_cons_succ]
        refine wpAnyH_take (i := 4) (v := .bool false) rfl (by kernel_rfl) (by kernel_rfl) (by kernel_rfl) (fun _ _ _ h => h) (Or.inl ⟨by kernel_rfl, by intro w hS; go_simp⟩) ⟨RT, RM⟩ ?_
        simp only [Act.put, List.getElem_toArray, List.getElem_cons_succ, List.getElem_cons_zero, List.setIfInBounds_toArray, List.set_cons_zero, List.set_cons_succ]
        refine wpAnyH_take (i := 5) (v := .int .i64 2) rfl (by kernel_rfl) (by kernel_rfl) (by kernel_rfl) (fun _ _ _ h => h) (Or.inl ⟨by kernel_rfl, by intro w hS; go_simp⟩) ⟨RT, RM⟩ ?_
        simp only [Act.put, List.getElem_toArray, List.getElem_cons_succ, List.getElem_cons_zero, List.setIfInBounds_toArray, List.set_cons_zero, List.set_cons_succ]
        refine wpAnyH_done (by kernel_rfl) ?_ _
        refine NoPanic.normal ?_
        clear RT RM
        go_wp2_with fail
        ((try simp only [Exit.inBlock, Exit.then]); first | (refine bodyPost_ret (results_row22 rfl _ _ _ _ _ _ rfl rfl (B.row 2 rfl) (B.row 1 rfl) _ _ Try.underlying30 Try.underlying32 rfl rfl (tc_info _ _ _ _) (mc_info _)) rfl ⟨rfl, B.base⟩) | (replace B := B.drew; refine bodyPost_ret (results_row22 rfl _ _ _ _ _ _ rfl rfl (B.row 2 rfl) (B.row 1 rfl) _ _ Try.underlying30 Try.underlying32 rfl rfl (tc_info _ _ _ _) (mc_info _)) rfl ⟨rfl, B.base⟩))
      exact AllReadyH.nil
    exact AllReadyH.nil
  | true =>
    rw [hp] at CI
    by_cases d1 : s < 0
    · replace d1 : decide (s < 0) = true := by simpa using d1
      clear G hP hp
      go_enter Try.func18, Try.ntmps18
      go_upto_region 3 with (first | ((with_reducible refine at_opB (.box 30 (.tmp 0)) rfl ?_); refine wpList_boxR 30 rfl (.tmp 0) rfl _ rfl ?_; intro b5 w9 l9 R9 h9; replace B := B.alloc l9 R9 h9; clear R9 h9 l9) | ((with_reducible refine at_opB (.alloc 30) rfl ?_); refine wpList_allocX 10 30 rfl rfl rfl _ table_zero ?_; intro b10 w9 l9 R9 h9; replace B := B.alloc l9 R9 h9; clear R9 h9 l9) | ((with_reducible refine at_opB (.alloc 32) rfl ?_); refine wpList_allocX 11 32 rfl rfl rfl _ map_zero ?_; intro b11 w9 l9 R9 h9; replace B := B.alloc l9 R9 h9; clear R9 h9 l9) | ((with_reducible refine at_opB (.build 32 #[]) rfl ?_); refine wpList_buildM0 rfl rfl ?_) | ((with_reducible refine at_opB (.alloc 32) rfl ?_); refine wpList_allocX 14 32 rfl rfl rfl _ map_zero ?_; intro b14 w9 l9 R9 h9; replace B := B.alloc l9 R9 h9; clear R9 h9 l9) | ((with_reducible refine at_opB (.store 32 (.tmp 14) (.tmp 35)) rfl ?_); refine wpList_storeR 32 rfl (.tmp 14) _ rfl b14 rfl (mc noM) rfl _ (B.row 0 rfl) rfl (mc_info _) (mc_one _) ?_; intro w9 R9 t9; replace B := B.turn 0 rfl R9 t9; clear R9 t9) | ((with_reducible refine at_opB (.load 30 (.tmp 5)) rfl ?_); refine wpList_loadR 30 (.tmp 5) rfl (by kernel_rfl) b5 rfl (tc f g h (.slice a0 n cap)) (B.row 3 rfl) _ Try.underlying30 rfl (tc_info _ _ _ _) ?_) | (go_at_call 15; go_fit (CG _ (hM.keep B.base hlt)); rintro e w5 ⟨r, hr, rfl, hb5⟩; obtain rfl : r = true := (hr.2 HG.out); clear hr; replace B := B.below hb5; clear hb5) | (go_at_call 36; go_fit (CI _); rintro e w' ⟨rfl, hw⟩; rw [hw]; clear hw w'))
      have RT : Row 30 _ b5 (tc f g h (.slice a0 n cap)) := B.row 3 rfl
      have RM : Row 32 _ b14 (mc noM) := B.row 0 rfl
      refine wp_region_noPanic ?_
      refine wp_region_held_drew (S := fun W => Row 30 W b5 (tc f g h (.slice a0 n cap)) ∧ Row 32 W b14 (mc noM)) (by kernel_rfl) ⟨RT, RM⟩ (fun _ => ?_)
      refine wpAnyH_take (i := 0) (v := .agg (tc f g h (.slice a0 n cap))) rfl (by kernel_rfl) (by kernel_rfl) (by kernel_rfl) (fun _ _ _ h => h) (yields_loadR 30 (.tmp 5) rfl (by kernel_rfl) b5 (by kernel_rfl) (tc f g h (.slice a0 n cap)) (fun _ h => h.1) _ Try.underlying30 rfl (tc_info _ _ _ _)) ⟨RT, RM⟩ ?_
      simp only [Act.put, List.getElem_toArray, List.getElem_cons_succ, List.getElem_cons_zero, List.setIfInBounds_toArray, List.set_cons_zero, List.set_cons_succ]
      refine wpAnyH_take (i := 1) (v := .agg (mc noM)) rfl (by kernel_rfl) (by kernel_rfl) (by kernel_rfl) (fun _ _ _ h => h) (yields_loadR 32 (.tmp 14) rfl (by kernel_rfl) b14 (by kernel_rfl) (mc noM) (fun _ h => h.2) _ Try.underlying32 rfl (mc_info _)) ⟨RT, RM⟩ ?_
      simp only [Act.put, List.getElem_toArray, List.getElem_cons_succ, List.getElem_cons_zero, List.setIfInBounds_toArray, List.set_cons_zero, List.set_cons_succ]
      refine wpAnyH_ready (rs := [2]) (by kernel_rfl) (by simp) ?_
      refine AllReadyH.cons rfl (fun K hK => ?_) ?_
      · rw [if_pos (by kernel_rfl)]
        refine wp_storeR 30 (.tmp 10) (.tmp 60) rfl b10 (by kernel_rfl) (tc f g h (.slice a0 n cap)) (by kernel_rfl) _ (B.row 2 rfl) (tc_sz _ _ _ _ _ _ _ _) (tc_info _ _ _ _) (tc_one _ _ _ _ _ _) ?_; intro w9 R9 t9; (first | replace t9 := turned_undrG t9 | skip); replace B := B.turn 2 rfl R9 t9; clear R9 t9; replace RT := B.row 3 rfl; replace RM := B.row 0 rfl
        refine hK.out _ _ ⟨RT, RM⟩ (fun _ => ?_)
        clear hK K
        try simp only [Act.put, List.getElem_toArray, List.getElem_cons_succ, List.getElem_cons_zero, List.setIfInBounds_toArray, List.set_cons_zero, List.set_cons_succ]
        refine wpAnyH_ready (rs := [3]) (by kernel_rfl) (by simp) ?_
        refine AllReadyH.cons rfl (fun K hK => ?_) ?_
        · rw [if_pos (by kernel_rfl)]
          refine wp_storeR 32 (.tmp 11) (.tmp 61) rfl b11 (by kernel_rfl) (mc noM) (by kernel_rfl) _ (B.row 1 rfl) rfl (mc_info _) (mc_one _) ?_; intro w9 R9 t9; (first | replace t9 := turned_undrG t9 | skip); replace B := B.turn 1 rfl R9 t9; clear R9 t9; replace RT := B.row 3 rfl; replace RM := B.row 0 rfl
          refine hK.out _ _ ⟨RT, RM⟩ (fun _ => ?_)
          clear hK K
          try simp only [Act.put, List.getElem_toArray, List.getElem_cons_succ, List.getElem_cons_zero, List.setIfInBounds_toArray, List.set_cons_zero, List.set_cons_succ]
          refine wpAnyH_take (i := 4) (v := .bool false) rfl (by kernel_rfl) (by kernel_rfl) (by kernel_rfl) (fun _ _ _ h => h) (Or.inl ⟨by kernel_rfl, by intro w hS; go_simp⟩) ⟨RT, RM⟩ ?_
          simp only [Act.put, List.getElem_toArray, List.getElem_cons_succ, List.getElem_cons_zero, List.setIfInBounds_toArray, List.set_cons_zero, List.set_cons_succ]
          refine wpAnyH_take (i := 5) (v := .int .i64 2) rfl (by kernel_rfl) (by kernel_rfl) (by kernel_rfl) (fun _ _ _ h => h) (Or.inl ⟨by kernel_rfl, by intro w hS; go_simp⟩) ⟨RT, RM⟩ ?_
          simp only [Act.put, List.getElem_toArray, List.getElem_cons_succ, List.getElem_cons_zero, List.setIfInBounds_toArray, List.set_cons_zero, List.set_cons_succ]
          refine wpAnyH_done (by kernel_rfl) ?_ _
          refine NoPanic.normal ?_
          clear RT RM
          go_wp2_with fail
          ((try simp only [Exit.inBlock, Exit.then]); first | (refine bodyPost_ret (results_row22 rfl _ _ _ _ _ _ rfl rfl (B.row 2 rfl) (B.row 1 rfl) _ _ Try.underlying30 Try.underlying32 rfl rfl (tc_info _ _ _ _) (mc_info _)) rfl ⟨rfl, B.base⟩) | (replace B := B.drew; refine bodyPost_ret (results_row22 rfl _ _ _ _ _ _ rfl rfl (B.row 2 rfl) (B.row 1 rfl) _ _ Try.underlying30 Try.underlying32 rfl rfl (tc_info _ _ _ _) (mc_info _)) rfl ⟨rfl, B.base⟩))
        exact AllReadyH.nil
      exact AllReadyH.nil
    · have Hd1 : Hid (¬ s < 0) := d1
      replace d1 : decide (s < 0) = false := by simpa using d1
      by_cases d2 : 7 < s
      · replace d2 : decide (7 < s) = true := by simpa using d2
        clear G hP hp
        go_enter Try.func18, Try.ntmps18
        go_upto_region 3 with (first | ((with_reducible refine at_opB (.box 30 (.tmp 0)) rfl ?_); refine wpList_boxR 30 rfl (.tmp 0) rfl _ rfl ?_; intro b5 w9 l9 R9 h9; replace B := B.alloc l9 R9 h9; clear R9 h9 l9) | ((with_reducible refine at_opB (.alloc 30) rfl ?_); refine wpList_allocX 10 30 rfl rfl rfl _ table_zero ?_; intro b10 w9 l9 R9 h9; replace B := B.alloc l9 R9 h9; clear R9 h9 l9) | ((with_reducible refine at_opB (.alloc 32) rfl ?_); refine wpList_allocX 11 32 rfl rfl rfl _ map_zero ?_; intro b11 w9 l9 R9 h9; replace B := B.alloc l9 R9 h9; clear R9 h9 l9) | ((with_reducible refine at_opB (.build 32 #[]) rfl ?_); refine wpList_buildM0 rfl rfl ?_) | ((with_reducible refine at_opB (.alloc 32) rfl ?_); refine wpList_allocX 14 32 rfl rfl rfl _ map_zero ?_; intro b14 w9 l9 R9 h9; replace B := B.alloc l9 R9 h9; clear R9 h9 l9) | ((with_reducible refine at_opB (.store 32 (.tmp 14) (.tmp 35)) rfl ?_); refine wpList_storeR 32 rfl (.tmp 14) _ rfl b14 rfl (mc noM) rfl _ (B.row 0 rfl) rfl (mc_info _) (mc_one _) ?_; intro w9 R9 t9; replace B := B.turn 0 rfl R9 t9; clear R9 t9) | ((with_reducible refine at_opB (.load 30 (.tmp 5)) rfl ?_); refine wpList_loadR 30 (.tmp 5) rfl (by kernel_rfl) b5 rfl (tc f g h (.slice a0 n cap)) (B.row 3 rfl) _ Try.underlying30 rfl (tc_info _ _ _ _) ?_) | (go_at_call 15; go_fit (CG _ (hM.keep B.base hlt)); rintro e w5 ⟨r, hr, rfl, hb5⟩; obtain rfl : r = true := (hr.2 HG.out); clear hr; replace B := B.below hb5; clear hb5) | (go_at_call 36; go_fit (CI _); rintro e w' ⟨rfl, hw⟩; rw [hw]; clear hw w'))
        have RT : Row 30 _ b5 (tc f g h (.slice a0 n cap)) := B.row 3 rfl
        have RM : Row 32 _ b14 (mc noM) := B.row 0 rfl
        refine wp_region_noPanic ?_
        refine wp_region_held_drew (S := fun W => Row 30 W b5 (tc f g h (.slice a0 n cap)) ∧ Row 32 W b14 (mc noM)) (by kernel_rfl) ⟨RT, RM⟩ (fun _ => ?_)
        refine wpAnyH_take (i := 0) (v := .agg (tc f g h (.slice a0 n cap))) rfl (by kernel_rfl) (by kernel_rfl) (by kernel_rfl) (fun _ _ _ h => h) (yields_loadR 30 (.tmp 5) rfl (by kernel_rfl) b5 (by kernel_rfl) (tc f g h (.slice a0 n cap)) (fun _ h => h.1) _ Try.underlying30 rfl (tc_info _ _ _ _)) ⟨RT, RM⟩ ?_
        simp only [Act.put, List.getElem_toArray, List.getElem_cons_succ, List.getElem_cons_zero, List.setIfInBounds_toArray, List.set_cons_zero, List.set_cons_succ]
        refine wpAnyH_take (i := 1) (v := .agg (mc noM)) rfl (by kernel_rfl) (by kernel_rfl) (by kernel_rfl) (fun _ _ _ h => h) (yields_loadR 32 (.tmp 14) rfl (by kernel_rfl) b14 (by kernel_rfl) (mc noM) (fun _ h => h.2) _ Try.underlying32 rfl (mc_info _)) ⟨RT, RM⟩ ?_
        simp only [Act.put, List.getElem_toArray, List.getElem_cons_succ, List.getElem_cons_zero, List.setIfInBounds_toArray, List.set_cons_zero, List.set_cons_succ]
        refine wpAnyH_ready (rs := [2]) (by kernel_rfl) (by simp) ?_
        refine AllReadyH.cons rfl (fun K hK => ?_) ?_
        · rw [if_pos (by kernel_rfl)]
          refine wp_storeR 30 (.tmp 10) (.tmp 60) rfl b10 (by kernel_rfl) (tc f g h (.slice a0 n cap)) (by kernel_rfl) _ (B.row 2 rfl) (tc_sz _ _ _ _ _ _ _ _) (tc_info _ _ _ _) (tc_one _ _ _ _ _ _) ?_; intro w9 R9 t9; (first | replace t9 := turned_undrG t9 | skip); replace B := B.turn 2 rfl R9 t9; clear R9 t9; replace RT := B.row 3 rfl; replace RM := B.row 0 rfl
          refine hK.out _ _ ⟨RT, RM⟩ (fun _ => ?_)
          clear hK K
          try simp only [Act.put, List.getElem_toArray, List.getElem_cons_succ, List.getElem_cons_zero, List.setIfInBounds_toArray, List.set_cons_zero, List.set_cons_succ]
          refine wpAnyH_ready (rs := [3]) (by kernel_rfl) (by simp) ?_
          refine AllReadyH.cons rfl (fun K hK => ?_) ?_
          · rw [if_pos (by kernel_rfl)]
            refine wp_storeR 32 (.tmp 11) (.tmp 61) rfl b11 (by kernel_rfl) (mc noM) (by kernel_rfl) _ (B.row 1 rfl) rfl (mc_info _) (mc_one _) ?_; intro w9 R9 t9; (first | replace t9 := turned_undrG t9 | skip); replace B := B.turn 1 rfl R9 t9; clear R9 t9; replace RT := B.row 3 rfl; replace RM := B.row 0 rfl
            refine hK.out _ _ ⟨RT, RM⟩ (fun _ => ?_)
            clear hK K
            try simp only [Act.put, List.getElem_toArray, List.getElem_cons_succ, List.getElem_cons_zero, List.setIfInBounds_toArray, List.set_cons_zero, List.set_cons_succ]
            refine wpAnyH_take (i := 4) (v := .bool false) rfl (by kernel_rfl) (by kernel_rfl) (by kernel_rfl) (fun _ _ _ h => h) (Or.inl ⟨by kernel_rfl, by intro w hS; go_simp⟩) ⟨RT, RM⟩ ?_
            simp only [Act.put, List.getElem_toArray, List.getElem_cons_succ, List.getElem_cons_zero, List.setIfInBounds_toArray, List.set_cons_zero, List.set_cons_succ]
            refine wpAnyH_take (i := 5) (v := .int .i64 2) rfl (by kernel_rfl) (by kernel_rfl) (by kernel_rfl) (fun _ _ _ h => h) (Or.inl ⟨by kernel_rfl, by intro w hS; go_simp⟩) ⟨RT, RM⟩ ?_
            simp only [Act.put, List.getElem_toArray, List.getElem_cons_succ, List.getElem_cons_zero, List.setIfInBounds_toArray, List.set_cons_zero, List.set_cons_succ]
            refine wpAnyH_done (by kernel_rfl) ?_ _
            refine NoPanic.normal ?_
            clear RT RM
            go_wp2_with fail
            ((try simp only [Exit.inBlock, Exit.then]); first | (refine bodyPost_ret (results_row22 rfl _ _ _ _ _ _ rfl rfl (B.row 2 rfl) (B.row 1 rfl) _ _ Try.underlying30 Try.underlying32 rfl rfl (tc_info _ _ _ _) (mc_info _)) rfl ⟨rfl, B.base⟩) | (replace B := B.drew; refine bodyPost_ret (results_row22 rfl _ _ _ _ _ _ rfl rfl (B.row 2 rfl) (B.row 1 rfl) _ _ Try.underlying30 Try.underlying32 rfl rfl (tc_info _ _ _ _) (mc_info _)) rfl ⟨rfl, B.base⟩))
          exact AllReadyH.nil
        exact AllReadyH.nil
      · have Hd2 : Hid (¬ 7 < s) := d2
        replace d2 : decide (7 < s) = false := by simpa using d2
        by_cases d3 : i < 0
        · replace d3 : decide (i < 0) = true := by simpa using d3
          clear G hP hp
          go_enter Try.func18, Try.ntmps18
          go_upto_region 3 with (first | ((with_reducible refine at_opB (.box 30 (.tmp 0)) rfl ?_); refine wpList_boxR 30 rfl (.tmp 0) rfl _ rfl ?_; intro b5 w9 l9 R9 h9; replace B := B.alloc l9 R9 h9; clear R9 h9 l9) | ((with_reducible refine at_opB (.alloc 30) rfl ?_); refine wpList_allocX 10 30 rfl rfl rfl _ table_zero ?_; intro b10 w9 l9 R9 h9; replace B := B.alloc l9 R9 h9; clear R9 h9 l9) | ((with_reducible refine at_opB (.alloc 32) rfl ?_); refine wpList_allocX 11 32 rfl rfl rfl _ map_zero ?_; intro b11 w9 l9 R9 h9; replace B := B.alloc l9 R9 h9; clear R9 h9 l9) | ((with_reducible refine at_opB (.build 32 #[]) rfl ?_); refine wpList_buildM0 rfl rfl ?_) | ((with_reducible refine at_opB (.alloc 32) rfl ?_); refine wpList_allocX 14 32 rfl rfl rfl _ map_zero ?_; intro b14 w9 l9 R9 h9; replace B := B.alloc l9 R9 h9; clear R9 h9 l9) | ((with_reducible refine at_opB (.store 32 (.tmp 14) (.tmp 35)) rfl ?_); refine wpList_storeR 32 rfl (.tmp 14) _ rfl b14 rfl (mc noM) rfl _ (B.row 0 rfl) rfl (mc_info _) (mc_one _) ?_; intro w9 R9 t9; replace B := B.turn 0 rfl R9 t9; clear R9 t9) | ((with_reducible refine at_opB (.load 30 (.tmp 5)) rfl ?_); refine wpList_loadR 30 (.tmp 5) rfl (by kernel_rfl) b5 rfl (tc f g h (.slice a0 n cap)) (B.row 3 rfl) _ Try.underlying30 rfl (tc_info _ _ _ _) ?_) | (go_at_call 15; go_fit (CG _ (hM.keep B.base hlt)); rintro e w5 ⟨r, hr, rfl, hb5⟩; obtain rfl : r = true := (hr.2 HG.out); clear hr; replace B := B.below hb5; clear hb5) | (go_at_call 36; go_fit (CI _); rintro e w' ⟨rfl, hw⟩; rw [hw]; clear hw w'))
          have RT : Row 30 _ b5 (tc f g h (.slice a0 n cap)) := B.row 3 rfl
          have RM : Row 32 _ b14 (mc noM) := B.row 0 rfl
          refine wp_region_noPanic ?_
          refine wp_region_held_drew (S := fun W => Row 30 W b5 (tc f g h (.slice a0 n cap)) ∧ Row 32 W b14 (mc noM)) (by kernel_rfl) ⟨RT, RM⟩ (fun _ => ?_)
          refine wpAnyH_take (i := 0) (v := .agg (tc f g h (.slice a0 n cap))) rfl (by kernel_rfl) (by kernel_rfl) (by kernel_rfl) (fun _ _ _ h => h) (yields_loadR 30 (.tmp 5) rfl (by kernel_rfl) b5 (by kernel_rfl) (tc f g h (.slice a0 n cap)) (fun _ h => h.1) _ Try.underlying30 rfl (tc_info _ _ _ _)) ⟨RT, RM⟩ ?_
          simp only [Act.put, List.getElem_toArray, List.getElem_cons_succ, List.getElem_cons_zero, List.setIfInBounds_toArray, List.set_cons_zero, List.set_cons_succ]
          refine wpAnyH_take (i := 1) (v := .agg (mc noM)) rfl (by kernel_rfl) (by kernel_rfl) (by kernel_rfl) (fun _ _ _ h => h) (yields_loadR 32 (.tmp 14) rfl (by kernel_rfl) b14 (by kernel_rfl) (mc noM) (fun _ h => h.2) _ Try.underlying32 rfl (mc_info _)) ⟨RT, RM⟩ ?_
          simp only [Act.put, List.getElem_toArray, List.getElem_cons_succ, List.getElem_cons_zero, List.setIfInBounds_toArray, List.set_cons_zero, List.set_cons_succ]
          refine wpAnyH_ready (rs := [2]) (by kernel_rfl) (by simp) ?_
          refine AllReadyH.cons rfl (fun K hK => ?_) ?_
          · rw [if_pos (by kernel_rfl)]
            refine wp_storeR 30 (.tmp 10) (.tmp 60) rfl b10 (by kernel_rfl) (tc f g h (.slice a0 n cap)) (by kernel_rfl) _ (B.row 2 rfl) (tc_sz _ _ _ _ _ _ _ _) (tc_info _ _ _ _) (tc_one _ _ _ _ _ _) ?_; intro w9 R9 t9; (first | replace t9 := turned_undrG t9 | skip); replace B := B.turn 2 rfl R9 t9; clear R9 t9; replace RT := B.row 3 rfl; replace RM := B.row 0 rfl
            refine hK.out _ _ ⟨RT, RM⟩ (fun _ => ?_)
            clear hK K
            try simp only [Act.put, List.getElem_toArray, List.getElem_cons_succ, List.getElem_cons_zero, List.setIfInBounds_toArray, List.set_cons_zero, List.set_cons_succ]
            refine wpAnyH_ready (rs := [3]) (by kernel_rfl) (by simp) ?_
            refine AllReadyH.cons rfl (fun K hK => ?_) ?_
            · rw [if_pos (by kernel_rfl)]
              refine wp_storeR 32 (.tmp 11) (.tmp 61) rfl b11 (by kernel_rfl) (mc noM) (by kernel_rfl) _ (B.row 1 rfl) rfl (mc_info _) (mc_one _) ?_; intro w9 R9 t9; (first | replace t9 := turned_undrG t9 | skip); replace B := B.turn 1 rfl R9 t9; clear R9 t9; replace RT := B.row 3 rfl; replace RM := B.row 0 rfl
              refine hK.out _ _ ⟨RT, RM⟩ (fun _ => ?_)
              clear hK K
              try simp only [Act.put, List.getElem_toArray, List.getElem_cons_succ, List.getElem_cons_zero, List.setIfInBounds_toArray, List.set_cons_zero, List.set_cons_succ]
              refine wpAnyH_take (i := 4) (v := .bool false) rfl (by kernel_rfl) (by kernel_rfl) (by kernel_rfl) (fun _ _ _ h => h) (Or.inl ⟨by kernel_rfl, by intro w hS; go_simp⟩) ⟨RT, RM⟩ ?_
              simp only [Act.put, List.getElem_toArray, List.getElem_cons_succ, List.getElem_cons_zero, List.setIfInBounds_toArray, List.set_cons_zero, List.set_cons_succ]
              refine wpAnyH_take (i := 5) (v := .int .i64 2) rfl (by kernel_rfl) (by kernel_rfl) (by kernel_rfl) (fun _ _ _ h => h) (Or.inl ⟨by kernel_rfl, by intro w hS; go_simp⟩) ⟨RT, RM⟩ ?_
              simp only [Act.put, List.getElem_toArray, List.getElem_cons_succ, List.getElem_cons_zero, List.setIfInBounds_toArray, List.set_cons_zero, List.set_cons_succ]
              refine wpAnyH_done (by kernel_rfl) ?_ _
              refine NoPanic.normal ?_
              clear RT RM
              go_wp2_with fail
              ((try simp only [Exit.inBlock, Exit.then]); first | (refine bodyPost_ret (results_row22 rfl _ _ _ _ _ _ rfl rfl (B.row 2 rfl) (B.row 1 rfl) _ _ Try.underlying30 Try.underlying32 rfl rfl (tc_info _ _ _ _) (mc_info _)) rfl ⟨rfl, B.base⟩) | (replace B := B.drew; refine bodyPost_ret (results_row22 rfl _ _ _ _ _ _ rfl rfl (B.row 2 rfl) (B.row 1 rfl) _ _ Try.underlying30 Try.underlying32 rfl rfl (tc_info _ _ _ _) (mc_info _)) rfl ⟨rfl, B.base⟩))
            exact AllReadyH.nil
          exact AllReadyH.nil
        · have Hd3 : Hid (¬ i < 0) := d3
          replace d3 : decide (i < 0) = false := by simpa using d3
          by_cases d4 : 65535 < i
          · replace d4 : decide (65535 < i) = true := by simpa using d4
            clear G hP hp
            go_enter Try.func18, Try.ntmps18
            go_upto_region 3 with (first | ((with_reducible refine at_opB (.box 30 (.tmp 0)) rfl ?_); refine wpList_boxR 30 rfl (.tmp 0) rfl _ rfl ?_; intro b5 w9 l9 R9 h9; replace B := B.alloc l9 R9 h9; clear R9 h9 l9) | ((with_reducible refine at_opB (.alloc 30) rfl ?_); refine wpList_allocX 10 30 rfl rfl rfl _ table_zero ?_; intro b10 w9 l9 R9 h9; replace B := B.alloc l9 R9 h9; clear R9 h9 l9) | ((with_reducible refine at_opB (.alloc 32) rfl ?_); refine wpList_allocX 11 32 rfl rfl rfl _ map_zero ?_; intro b11 w9 l9 R9 h9; replace B := B.alloc l9 R9 h9; clear R9 h9 l9) | ((with_reducible refine at_opB (.build 32 #[]) rfl ?_); refine wpList_buildM0 rfl rfl ?_) | ((with_reducible refine at_opB (.alloc 32) rfl ?_); refine wpList_allocX 14 32 rfl rfl rfl _ map_zero ?_; intro b14 w9 l9 R9 h9; replace B := B.alloc l9 R9 h9; clear R9 h9 l9) | ((with_reducible refine at_opB (.store 32 (.tmp 14) (.tmp 35)) rfl ?_); refine wpList_storeR 32 rfl (.tmp 14) _ rfl b14 rfl (mc noM) rfl _ (B.row 0 rfl) rfl (mc_info _) (mc_one _) ?_; intro w9 R9 t9; replace B := B.turn 0 rfl R9 t9; clear R9 t9) | ((with_reducible refine at_opB (.load 30 (.tmp 5)) rfl ?_); refine wpList_loadR 30 (.tmp 5) rfl (by kernel_rfl) b5 rfl (tc f g h (.slice a0 n cap)) (B.row 3 rfl) _ Try.underlying30 rfl (tc_info _ _ _ _) ?_) | (go_at_call 15; go_fit (CG _ (hM.keep B.base hlt)); rintro e w5 ⟨r, hr, rfl, hb5⟩; obtain rfl : r = true := (hr.2 HG.out); clear hr; replace B := B.below hb5; clear hb5) | (go_at_call 36; go_fit (CI _); rintro e w' ⟨rfl, hw⟩; rw [hw]; clear hw w'))
            have RT : Row 30 _ b5 (tc f g h (.slice a0 n cap)) := B.row 3 rfl
            have RM : Row 32 _ b14 (mc noM) := B.row 0 rfl
            refine wp_region_noPanic ?_
            refine wp_region_held_drew (S := fun W => Row 30 W b5 (tc f g h (.slice a0 n cap)) ∧ Row 32 W b14 (mc noM)) (by kernel_rfl) ⟨RT, RM⟩ (fun _ => ?_)
            refine wpAnyH_take (i := 0) (v := .agg (tc f g h (.slice a0 n cap))) rfl (by kernel_rfl) (by kernel_rfl) (by kernel_rfl) (fun _ _ _ h => h) (yields_loadR 30 (.tmp 5) rfl (by kernel_rfl) b5 (by kernel_rfl) (tc f g h (.slice a0 n cap)) (fun _ h => h.1) _ Try.underlying30 rfl (tc_info _ _ _ _)) ⟨RT, RM⟩ ?_
            simp only [Act.put, List.getElem_toArray, List.getElem_cons_succ, List.getElem_cons_zero, List.setIfInBounds_toArray, List.set_cons_zero, List.set_cons_succ]
            refine wpAnyH_take (i := 1) (v := .agg (mc noM)) rfl (by kernel_rfl) (by kernel_rfl) (by kernel_rfl) (fun _ _ _ h => h) (yields_loadR 32 (.tmp 14) rfl (by kernel_rfl) b14 (by kernel_rfl) (mc noM) (fun _ h => h.2) _ Try.underlying32 rfl (mc_info _)) ⟨RT, RM⟩ ?_
            simp only [Act.put, List.getElem_toArray, List.getElem_cons_succ, List.getElem_cons_zero, List.setIfInBounds_toArray, List.set_cons_zero, List.set_cons_succ]
            refine wpAnyH_ready (rs := [2]) (by kernel_rfl) (by simp) ?_
            refine AllReadyH.cons rfl (fun K hK => ?_) ?_
            · rw [if_pos (by kernel_rfl)]
              refine wp_storeR 30 (.tmp 10) (.tmp 60) rfl b10 (by kernel_rfl) (tc f g h (.slice a0 n cap)) (by kernel_rfl) _ (B.row 2 rfl) (tc_sz _ _ _ _ _ _ _ _) (tc_info _ _ _ _) (tc_one _ _ _ _ _ _) ?_; intro w9 R9 t9; (first | replace t9 := turned_undrG t9 | skip); replace B := B.turn 2 rfl R9 t9; clear R9 t9; replace RT := B.row 3 rfl; replace RM := B.row 0 rfl
              refine hK.out _ _ ⟨RT, RM⟩ (fun _ => ?_)
              clear hK K
              try simp only [Act.put, List.getElem_toArray, List.getElem_cons_succ, List.getElem_cons_zero, List.setIfInBounds_toArray, List.set_cons_zero, List.set_cons_succ]
              refine wpAnyH_ready (rs := [3]) (by kernel_rfl) (by simp) ?_
              refine AllReadyH.cons rfl (fun K hK => ?_) ?_
              · rw [if_pos (by kernel_rfl)]
                refine wp_storeR 32 (.tmp 11) (.tmp 61) rfl b11 (by kernel_rfl) (mc noM) (by kernel_rfl) _ (B.row 1 rfl) rfl (mc_info _) (mc_one _) ?_; intro w9 R9 t9; (first | replace t9 := turned_undrG t9 | skip); replace B := B.turn 1 rfl R9 t9; clear R9 t9; replace RT := B.row 3 rfl; replace RM := B.row 0 rfl
                refine hK.out _ _ ⟨RT, RM⟩ (fun _ => ?_)
                clear hK K
                try simp only [Act.put, List.getElem_toArray, List.getElem_cons_succ, List.getElem_cons_zero, List.setIfInBounds_toArray, List.set_cons_zero, List.set_cons_succ]
                refine wpAnyH_take (i := 4) (v := .bool false) rfl (by kernel_rfl) (by kernel_rfl) (by kernel_rfl) (fun _ _ _ h => h) (Or.inl ⟨by kernel_rfl, by intro w hS; go_simp⟩) ⟨RT, RM⟩ ?_
                simp only [Act.put, List.getElem_toArray, List.getElem_cons_succ, List.getElem_cons_zero, List.setIfInBounds_toArray, List.set_cons_zero, List.set_cons_succ]
                refine wpAnyH_take (i := 5) (v := .int .i64 2) rfl (by kernel_rfl) (by kernel_rfl) (by kernel_rfl) (fun _ _ _ h => h) (Or.inl ⟨by kernel_rfl, by intro w hS; go_simp⟩) ⟨RT, RM⟩ ?_
                simp only [Act.put, List.getElem_toArray, List.getElem_cons_succ, List.getElem_cons_zero, List.setIfInBounds_toArray, List.set_cons_zero, List.set_cons_succ]
                refine wpAnyH_done (by kernel_rfl) ?_ _
                refine NoPanic.normal ?_
                clear RT RM
                go_wp2_with fail
                ((try simp only [Exit.inBlock, Exit.then]); first | (refine bodyPost_ret (results_row22 rfl _ _ _ _ _ _ rfl rfl (B.row 2 rfl) (B.row 1 rfl) _ _ Try.underlying30 Try.underlying32 rfl rfl (tc_info _ _ _ _) (mc_info _)) rfl ⟨rfl, B.base⟩) | (replace B := B.drew; refine bodyPost_ret (results_row22 rfl _ _ _ _ _ _ rfl rfl (B.row 2 rfl) (B.row 1 rfl) _ _ Try.underlying30 Try.underlying32 rfl rfl (tc_info _ _ _ _) (mc_info _)) rfl ⟨rfl, B.base⟩))
              exact AllReadyH.nil
            exact AllReadyH.nil
          · have Hd4 : Hid (¬ 65535 < i) := d4
            replace d4 : decide (65535 < i) = false := by simpa using d4
            exact absurd ⟨G, hp, ⟨by have := Hd1.out; omega, by have := Hd2.out; omega⟩, by have := Hd3.out; omega, by have := Hd4.out; omega⟩ hP
end Go.Proofs.Ytmdijjbkjcnbpaa
