/-
  The walk of BindRound.
-/
import Derived.Test.YthflhaanndnejaeBindBk
import Derived.Test.YthflhaanndnejaeBindZ
import Derived.Test.YthflhaanndnejaeBindJ
namespace Go.Proofs.Ythflhaanndnejae
open Go.ChangeShapes Go.WideShapes Go.ChangeAt Go.RowKit
set_option linter.unusedSimpArgs false
set_option linter.unusedVariables false

attribute [local irreducible] tc pc hc8
set_option maxRecDepth 20000 in
set_option maxHeartbeats 4000000 in
theorem round_any (f : Nat → Int) (g : Nat → Bool) (h : Nat → Int) (sl : Value) (ms : List Mp) (p s i d : Int) (hwF : wfF f) (hwH : wfH h) (hno : NilOk sl) (hd : (Lit.int .i64 d).wf = true) (w : World) (hM : MapsAt w sl ms) :
    Calls Try.prog 5 #[.agg (tc f g h sl), .int .i64 p, .int .i64 s, .int .i64 i, .int .i64 d] w fun e w' => e = .returned (.bool true) ∧ Below w.heap.size w w' := by
  have hB := Below.refl w.heap.size w
  have hM0 := hM
  obtain ⟨a0, cap, hsl, -⟩ := hM0
  obtain ⟨n, hn⟩ : ∃ n, n = ms.length := ⟨_, rfl⟩
  rw [← hn] at hsl
  subst hsl
  have HN : Hid (n = ms.length) := hn
  clear hn
  have hlt := hM.lt
  have CB := fun w => bindsKeep_any w
  have CF := fun w hM => find_any f g h (.slice a0 n cap) ms p s i w hM
  obtain ⟨mf, fb, hfs, hfb⟩ : ∃ mf fb, foundS (ms.find? (inS p s i)) = .tuple #[.agg (mc mf), .bool fb] ∧ (fb = true ↔ (ms.find? (inS p s i)).isSome = true) := by
    cases ms.find? (inS p s i) with
    | none => exact ⟨noM, false, rfl, by simp⟩
    | some m => exact ⟨m, true, rfl, by simp⟩
  rw [hfs] at CF
  have err : ∀ E : Int, (E != 0 || fb) = true → ∀ mo' : Mp, (∀ w : World, MapsAt w (.slice a0 n cap) ms → Calls Try.prog 10 #[.agg (tc f g h (.slice a0 n cap)), .int .i64 p, .int .i64 s, .int .i64 i, .int .i64 d] w fun e w' => e = .returned (openS f g h (.slice a0 n cap) mo' false E) ∧ Below w.heap.size w w') →
      Calls Try.prog 5 #[.agg (tc f g h (.slice a0 n cap)), .int .i64 p, .int .i64 s, .int .i64 i, .int .i64 d] w fun e w' => e = .returned (.bool true) ∧ Below w.heap.size w w' := by
    intro E hE mo' CO
    unfold openS at CO
    clear hfb hfs
    cases hE0 : (E != 0) with
    | true =>
      clear hE
      go_enter Try.func5, Try.ntmps5
      go_wp2_with (first | ((with_reducible refine at_opB (.box 30 (.tmp 0)) rfl ?_); refine wpList_boxR 30 rfl (.tmp 0) rfl _ rfl ?_; intro b5 w1 l5 R5 hb1; replace hB := hB.trans (hb1.mono hB.size)) | ((with_reducible refine at_opB (.load 30 (.tmp 5)) rfl ?_); refine wpList_loadR 30 (.tmp 5) rfl ?_ b5 rfl (tc f g h (.slice a0 n cap)) R5 _ Try.underlying30 rfl (tc_info _ _ _ _) ?_; · kernel_rfl) | (go_at_call 16; go_fit (CF _ (hM.keep hB hlt)); rintro e w2 ⟨rfl, hb2⟩; replace R5 := R5.below hb2; replace hB := hB.trans (hb2.mono hB.size)) | ((with_reducible refine at_opB (.alloc 33) rfl ?_); refine wpList_allocX 11 33 rfl rfl rfl _ map_zero ?_; intro b11 w3 l11 R11 hb3; have n511 := R5.ne l11; (try have n1311 := R13.ne l11); replace l11 := Nat.le_trans hB.size l11; replace R5 := R5.below hb3; (try replace R13 := R13.below hb3); replace hB := hB.trans (hb3.mono hB.size)) | ((with_reducible refine at_opB (.store 33 (.tmp 11) (.tmp 26)) rfl ?_); refine wpList_storeR 33 rfl (.tmp 11) _ rfl b11 rfl (mc mf) rfl _ R11 rfl (mc_info _) (mc_one _) ?_; intro w4 R11 t4; replace R5 := t4.row R5 n511; replace hB := t4.below _ _ l11 hB; clear R11) | (go_at_call 10; go_fit (CO _ (hM.keep hB hlt)); rintro e w5 ⟨rfl, hb5⟩; replace R5 := R5.below hb5; replace hB := hB.trans (hb5.mono hB.size)) | ((with_reducible refine at_opB (.alloc 30) rfl ?_); refine wpList_allocX 13 30 rfl rfl rfl _ table_zero ?_; intro b13 w3 l13 R13 hb3; have n513 := R5.ne l13; (try have n1313 := R13.ne l13); (try have n1413 := R14.ne l13); replace l13 := Nat.le_trans hB.size l13; replace R5 := R5.below hb3; (try replace R13 := R13.below hb3); (try replace R14 := R14.below hb3); replace hB := hB.trans (hb3.mono hB.size)) | ((with_reducible refine at_opB (.alloc 33) rfl ?_); refine wpList_allocX 14 33 rfl rfl rfl _ map_zero ?_; intro b14 w3 l14 R14 hb3; have n514 := R5.ne l14; (try have n1314 := R13.ne l14); replace l14 := Nat.le_trans hB.size l14; replace R5 := R5.below hb3; (try replace R13 := R13.below hb3); replace hB := hB.trans (hb3.mono hB.size)) | ((with_reducible refine at_opB (.store 30 (.tmp 13) (.tmp 35)) rfl ?_); refine wpList_storeR 30 rfl (.tmp 13) _ rfl b13 rfl (tc f g h (.slice a0 n cap)) rfl _ R13 (tc_sz _ _ _ _ _ _ _ _) (tc_info _ _ _ _) (tc_one _ _ _ _ _ _) ?_; intro w6 R13 t6; replace R5 := t6.row R5 n513; (try replace R14 := t6.row R14 n1314.symm); replace hB := t6.below _ _ l13 hB) | ((with_reducible refine at_opB (.store 33 (.tmp 14) (.tmp 36)) rfl ?_); refine wpList_storeR 33 rfl (.tmp 14) _ rfl b14 rfl (mc mo') rfl _ R14 rfl (mc_info _) (mc_one _) ?_; intro w7 R14 t7; replace R5 := t7.row R5 n514; replace hB := t7.below _ _ l14 hB) | (go_at_call 17; go_fit (CB _); rintro e w8 ⟨rfl, hb8⟩;  replace R5 := R5.below hb8; replace hB := hB.trans (hb8.mono hB.size)))
      go_ret
      exact ⟨rfl, hB⟩
    | false =>
      rw [hE0, Bool.false_or] at hE
      subst hE
      go_enter Try.func5, Try.ntmps5
      go_wp2_with (first | ((with_reducible refine at_opB (.box 30 (.tmp 0)) rfl ?_); refine wpList_boxR 30 rfl (.tmp 0) rfl _ rfl ?_; intro b5 w1 l5 R5 hb1; replace hB := hB.trans (hb1.mono hB.size)) | ((with_reducible refine at_opB (.load 30 (.tmp 5)) rfl ?_); refine wpList_loadR 30 (.tmp 5) rfl ?_ b5 rfl (tc f g h (.slice a0 n cap)) R5 _ Try.underlying30 rfl (tc_info _ _ _ _) ?_; · kernel_rfl) | (go_at_call 16; go_fit (CF _ (hM.keep hB hlt)); rintro e w2 ⟨rfl, hb2⟩; replace R5 := R5.below hb2; replace hB := hB.trans (hb2.mono hB.size)) | ((with_reducible refine at_opB (.alloc 33) rfl ?_); refine wpList_allocX 11 33 rfl rfl rfl _ map_zero ?_; intro b11 w3 l11 R11 hb3; have n511 := R5.ne l11; (try have n1311 := R13.ne l11); replace l11 := Nat.le_trans hB.size l11; replace R5 := R5.below hb3; (try replace R13 := R13.below hb3); replace hB := hB.trans (hb3.mono hB.size)) | ((with_reducible refine at_opB (.store 33 (.tmp 11) (.tmp 26)) rfl ?_); refine wpList_storeR 33 rfl (.tmp 11) _ rfl b11 rfl (mc mf) rfl _ R11 rfl (mc_info _) (mc_one _) ?_; intro w4 R11 t4; replace R5 := t4.row R5 n511; replace hB := t4.below _ _ l11 hB; clear R11) | (go_at_call 10; go_fit (CO _ (hM.keep hB hlt)); rintro e w5 ⟨rfl, hb5⟩; replace R5 := R5.below hb5; replace hB := hB.trans (hb5.mono hB.size)) | ((with_reducible refine at_opB (.alloc 30) rfl ?_); refine wpList_allocX 13 30 rfl rfl rfl _ table_zero ?_; intro b13 w3 l13 R13 hb3; have n513 := R5.ne l13; (try have n1313 := R13.ne l13); (try have n1413 := R14.ne l13); replace l13 := Nat.le_trans hB.size l13; replace R5 := R5.below hb3; (try replace R13 := R13.below hb3); (try replace R14 := R14.below hb3); replace hB := hB.trans (hb3.mono hB.size)) | ((with_reducible refine at_opB (.alloc 33) rfl ?_); refine wpList_allocX 14 33 rfl rfl rfl _ map_zero ?_; intro b14 w3 l14 R14 hb3; have n514 := R5.ne l14; (try have n1314 := R13.ne l14); replace l14 := Nat.le_trans hB.size l14; replace R5 := R5.below hb3; (try replace R13 := R13.below hb3); replace hB := hB.trans (hb3.mono hB.size)) | ((with_reducible refine at_opB (.store 30 (.tmp 13) (.tmp 35)) rfl ?_); refine wpList_storeR 30 rfl (.tmp 13) _ rfl b13 rfl (tc f g h (.slice a0 n cap)) rfl _ R13 (tc_sz _ _ _ _ _ _ _ _) (tc_info _ _ _ _) (tc_one _ _ _ _ _ _) ?_; intro w6 R13 t6; replace R5 := t6.row R5 n513; (try replace R14 := t6.row R14 n1314.symm); replace hB := t6.below _ _ l13 hB) | ((with_reducible refine at_opB (.store 33 (.tmp 14) (.tmp 36)) rfl ?_); refine wpList_storeR 33 rfl (.tmp 14) _ rfl b14 rfl (mc mo') rfl _ R14 rfl (mc_info _) (mc_one _) ?_; intro w7 R14 t7; replace R5 := t7.row R5 n514; replace hB := t7.below _ _ l14 hB) | (go_at_call 17; go_fit (CB _); rintro e w8 ⟨rfl, hb8⟩;  replace R5 := R5.below hb8; replace hB := hB.trans (hb8.mono hB.size)))
      go_ret
      exact ⟨rfl, hB⟩
  by_cases hP : openP f h ms p s i
  rotate_left
  · exact err 2 rfl noM (fun w hM => open_bad f g h _ ms p s i d w hM hwH hP)
  cases hf : ms.find? (inS p s i) with
  | some m =>
    have : fb = true := hfb.2 (by rw [hf]; rfl)
    exact err 0 (by rw [this]; rfl) m (fun w hM => open_found f g h _ ms p s i d w hM hwH hP m hf)
  | none =>
    by_cases hc : cntM ms s = 12
    · exact err 6 rfl noM (fun w hM => open_full f g h _ ms p s i d w hM hwH hP hf hc)
    · by_cases he : (roomR f g h ms p s d).e = 0
      rotate_left
      · exact err _ (by simp [he]) noM (fun w hM => open_err f g h _ ms p s i d w hM hwH hd hP hf hc he)
      · have hany : ms.any (inS p s i) = false := by rw [← List.isSome_find?, hf]; rfl
        have hG : GoodT (roomR f g h ms p s d).f (roomR f g h ms p s d).h (ms ++ [(p, s, i, (roomR f g h ms p s d).h s.toNat - 1, (roomR f g h ms p s d).q)]) := (room_ok (g := g) (d := d) hP.1 hP.2.1 hP.2.2.1 ⟨hP.2.2.2.1, hP.2.2.2.2⟩ hany hc he).1
        have fb0 : fb = false := by
          cases fb with
          | false => rfl
          | true => rw [hf] at hfb; simp at hfb
        subst fb0
        have CO := fun w hM => open_new f g h (.slice a0 n cap) ms p s i d w hM hwH hno hd hP hf hc he
        have CC := fun v w hM => close_back f g h ms p s i d hP hf hc he v w hM
        have CS := fun sl w h1 h2 => same_any f g h sl (.slice a0 n cap) ms hwF hwH w h1 h2
        have CG := fun sl w hM => goodt_any (roomR f g h ms p s d).f g (roomR f g h ms p s d).h sl (ms ++ [(p, s, i, (roomR f g h ms p s d).h s.toNat - 1, (roomR f g h ms p s d).q)]) hG.wf w hM
        have HG : Hid (GoodT (roomR f g h ms p s d).f (roomR f g h ms p s d).h (ms ++ [(p, s, i, (roomR f g h ms p s d).h s.toNat - 1, (roomR f g h ms p s d).q)])) := hG
        clear hG err hfb hfs hP hf hc he hany
        obtain ⟨m, hm⟩ : ∃ m : Mp, (p, s, i, (roomR f g h ms p s d).h s.toNat - 1, (roomR f g h ms p s d).q) = m := ⟨_, rfl⟩
        rw [hm] at CO CC CG HG
        clear hm
        obtain ⟨rf, hrf⟩ : ∃ rf, (roomR f g h ms p s d).f = rf := ⟨_, rfl⟩
        obtain ⟨rh, hrh⟩ : ∃ rh, (roomR f g h ms p s d).h = rh := ⟨_, rfl⟩
        obtain ⟨rt, hrt⟩ : ∃ rt, (roomR f g h ms p s d).took = rt := ⟨_, rfl⟩
        rw [hrf, hrh] at CO CC CG HG
        rw [hrt] at CO CC
        clear hrf hrh hrt
        unfold openS at CO
        obtain ⟨ms', hms⟩ : ∃ ms', ms ++ [m] = ms' := ⟨_, rfl⟩
        rw [hms] at CO CC CG HG
        clear hms
        obtain ⟨lv, hlv⟩ : ∃ lv, lv = ms'.length := ⟨_, rfl⟩
        have HV : Hid (lv = ms'.length) := hlv
        clear hlv
        have drt : (rt == rt) = true := by simp
        go_enter Try.func5, Try.ntmps5
        go_wp2_with (first | ((with_reducible refine at_opB (.box 30 (.tmp 0)) rfl ?_); refine wpList_boxR 30 rfl (.tmp 0) rfl _ rfl ?_; intro b5 w1 l5 R5 hb1; replace hB := hB.trans (hb1.mono hB.size)) | ((with_reducible refine at_opB (.load 30 (.tmp 5)) rfl ?_); refine wpList_loadR 30 (.tmp 5) rfl ?_ b5 rfl (tc f g h (.slice a0 n cap)) R5 _ Try.underlying30 rfl (tc_info _ _ _ _) ?_; · kernel_rfl) | (go_at_call 16; go_fit (CF _ (hM.keep hB hlt)); rintro e w2 ⟨rfl, hb2⟩; replace R5 := R5.below hb2; replace hB := hB.trans (hb2.mono hB.size)) | ((with_reducible refine at_opB (.alloc 33) rfl ?_); refine wpList_allocX 11 33 rfl rfl rfl _ map_zero ?_; intro b11 w3 l11 R11 hb3; have n511 := R5.ne l11; (try have n1311 := R13.ne l11); (try have x11 := hMv.away3 l11); replace l11 := Nat.le_trans hB.size l11; replace R5 := R5.below hb3; (try replace R13 := R13.below hb3); (try replace hMv := hMv.below hb3); replace hB := hB.trans (hb3.mono hB.size)) | ((with_reducible refine at_opB (.store 33 (.tmp 11) (.tmp 26)) rfl ?_); refine wpList_storeR 33 rfl (.tmp 11) _ rfl b11 rfl (mc mf) rfl _ R11 rfl (mc_info _) (mc_one _) ?_; intro w4 R11 t4; replace R5 := t4.row R5 n511; replace hB := t4.below _ _ l11 hB; clear R11) | (go_at_call 10; go_fit (CO _ (hM.keep hB hlt)); rintro e w5 ⟨v, rfl, hMv, hNv, hbv, hb5⟩; clear hNv hbv; replace R5 := R5.below hb5; replace hB := hB.trans (hb5.mono hB.size); (obtain ⟨av, cv, hv, -⟩ := id hMv); rw [← HV.out] at hv; subst hv) | ((with_reducible refine at_opB (.alloc 30) rfl ?_); refine wpList_allocX 13 30 rfl rfl rfl _ table_zero ?_; intro b13 w3 l13 R13 hb3; have n513 := R5.ne l13; (try have n1313 := R13.ne l13); (try have n1413 := R14.ne l13); (try have x13 := hMv.away3 l13); (try have y13 := hMc.away3 l13); replace l13 := Nat.le_trans hB.size l13; replace R5 := R5.below hb3; (try replace R13 := R13.below hb3); (try replace R14 := R14.below hb3); (try replace hMv := hMv.below hb3); (try replace hMc := hMc.below hb3); replace hB := hB.trans (hb3.mono hB.size)) | ((with_reducible refine at_opB (.alloc 33) rfl ?_); refine wpList_allocX 14 33 rfl rfl rfl _ map_zero ?_; intro b14 w3 l14 R14 hb3; have n514 := R5.ne l14; (try have n1314 := R13.ne l14); (try have x14 := hMv.away3 l14); replace l14 := Nat.le_trans hB.size l14; replace R5 := R5.below hb3; (try replace R13 := R13.below hb3); (try replace hMv := hMv.below hb3); replace hB := hB.trans (hb3.mono hB.size)) | ((with_reducible refine at_opB (.store 30 (.tmp 13) (.tmp 35)) rfl ?_); refine wpList_storeR 30 rfl (.tmp 13) _ rfl b13 rfl (tc rf g rh (.slice av lv cv)) rfl _ R13 (tc_sz _ _ _ _ _ _ _ _) (tc_info _ _ _ _) (tc_one _ _ _ _ _ _) ?_; intro w6 R13 t6; replace R5 := t6.row R5 n513; replace R14 := t6.row R14 n1314.symm; replace hMv := maps_turned3 hMv x13 t6; replace hB := t6.below _ _ l13 hB) | ((with_reducible refine at_opB (.store 33 (.tmp 14) (.tmp 36)) rfl ?_); refine wpList_storeR 33 rfl (.tmp 14) _ rfl b14 rfl (mc m) rfl _ R14 rfl (mc_info _) (mc_one _) ?_; intro w7 R14 t7; replace R5 := t7.row R5 n514; replace R13 := t7.row R13 n1314; replace hMv := maps_turned3 hMv x14 t7; replace hB := t7.below _ _ l14 hB) | (go_at_call 17; go_fit (CB _); rintro e w8 ⟨rfl, hb8⟩; replace R13 := R13.below hb8; replace R14 := R14.below hb8; replace hMv := hMv.below hb8; replace R5 := R5.below hb8; replace hB := hB.trans (hb8.mono hB.size)) | ((with_reducible refine at_opB (.load 30 (.tmp 13)) rfl ?_); refine wpList_loadR 30 (.tmp 13) rfl ?_ b13 rfl (tc rf g rh (.slice av lv cv)) R13 _ Try.underlying30 rfl (tc_info _ _ _ _) ?_; · kernel_rfl) | ((with_reducible refine at_opB (.load 33 (.tmp 14)) rfl ?_); refine wpList_loadR 33 (.tmp 14) rfl rfl b14 rfl (mc m) R14 _ Try.underlying33 rfl (mc_info _) ?_) | (go_at_call 14; go_fit (CC _ _ hMv); rintro e w9 ⟨v2, rfl, hMc, hN2, hb9⟩; clear hN2 R14; replace R5 := R5.below hb9; replace R13 := R13.below hb9; replace hMv := hMv.below hb9; replace hB := hB.trans (hb9.mono hB.size); (obtain ⟨a2, c2, hv2, -⟩ := id hMc); rw [← HN.out] at hv2; subst hv2) | ((with_reducible refine at_opB (.alloc 30) rfl ?_); refine wpList_allocX 17 30 rfl rfl rfl _ table_zero ?_; intro b17 w3 l17 R17 hb3; have n517 := R5.ne l17; (try have n1317 := R13.ne l17); (try have n1417 := R14.ne l17); (try have x17 := hMv.away3 l17); (try have y17 := hMc.away3 l17); replace l17 := Nat.le_trans hB.size l17; replace R5 := R5.below hb3; (try replace R13 := R13.below hb3); (try replace R14 := R14.below hb3); (try replace hMv := hMv.below hb3); (try replace hMc := hMc.below hb3); replace hB := hB.trans (hb3.mono hB.size)) | ((with_reducible refine at_opB (.store 30 (.tmp 17) (.tmp 53)) rfl ?_); refine wpList_storeR 30 rfl (.tmp 17) _ rfl b17 rfl (tc f g h (.slice a2 n c2)) rfl _ R17 (tc_sz _ _ _ _ _ _ _ _) (tc_info _ _ _ _) (tc_one _ _ _ _ _ _) ?_; intro w10 R17 t10; replace R5 := t10.row R5 n517; replace R13 := t10.row R13 n1317; replace hMv := maps_turned3 hMv x17 t10; replace hMc := maps_turned3 hMc y17 t10; replace hB := t10.below _ _ l17 hB) | ((with_reducible refine at_opB (.load 30 (.tmp 17)) rfl ?_); refine wpList_loadR 30 (.tmp 17) rfl ?_ b17 rfl (tc f g h (.slice a2 n c2)) R17 _ Try.underlying30 rfl (tc_info _ _ _ _) ?_; · kernel_rfl) | (go_at_call 18; go_fit (CS _ _ hMc (hM.keep hB hlt)); rintro e w11 ⟨rfl, hb11⟩; replace R13 := R13.below hb11; replace hMv := hMv.below hb11; replace hB := hB.trans (hb11.mono hB.size)) | (go_at_call 19; go_fit (CG _ _ hMv); rintro e w12 ⟨r', hr', rfl, hb12⟩; obtain rfl : r' = true := (hr'.2 HG.out); clear hr'; replace hB := hB.trans (hb12.mono hB.size)))
        go_ret
        exact ⟨rfl, hB⟩
end Go.Proofs.Ythflhaanndnejae
