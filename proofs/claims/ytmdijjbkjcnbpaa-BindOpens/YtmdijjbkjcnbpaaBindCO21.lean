/-
  Of what BindCloses, BindOpens stands on: part 21.
-/
import Derived.Test.YtmdijjbkjcnbpaaBindCO18
import Derived.Test.YtmdijjbkjcnbpaaBindCO20
namespace Go.Proofs.Ytmdijjbkjcnbpaa
open Go.ChangeShapes Go.WideShapes Go.ChangeAt Go.RowKit
set_option linter.unusedSimpArgs false
set_option linter.unusedVariables false

def openP (f h : Nat → Int) (ms : List Mp) (p s i : Int) : Prop := GoodT f h ms ∧ isP p = true ∧ (0 ≤ s ∧ s < 8) ∧ 0 ≤ i ∧ i ≤ 65535
/-- what Open hands back: table, map, whether a block was taken, error. -/
def openS (f : Nat → Int) (g : Nat → Bool) (h : Nat → Int) (sl : Value) (m : Mp) (took : Bool) (e : Int) : Value := .tuple #[.agg (tc f g h sl), .agg (mc m), .bool took, .int .i64 e]
theorem results_row22 {fn : Func} {p q x y : Tmp} {t u : TypeId} (hf : fn.results = #[.cell p t, .cell q u, .tmp x, .tmp y]) (tmps : Array Value) (w : World) (b c : Nat) (cs ds : Array Value) (hp : tmps.getD p undef = .pointer (some ⟨b, 0, none⟩)) (hq : tmps.getD q undef = .pointer (some ⟨c, 0, none⟩)) (h : Row t w b cs) (h' : Row u w c ds) (d d' : TypeDesc) (hu : Try.prog.underlying t = some d) (hu' : Try.prog.underlying u = some d') (hd : d.isRow = true) (hd' : d'.isRow = true) (hi : (Try.prog.info? t).map (·.size) = some cs.size) (hi' : (Try.prog.info? u).map (·.size) = some ds.size) :
    (results fn tmps).run Try.prog w = .ok (.tuple #[.agg cs, .agg ds, tmps.getD x undef, tmps.getD y undef]) w := by
  have hp' : tmps[p]?.getD undef = .pointer (some ⟨b, 0, none⟩) := by simpa using hp
  have hq' : tmps[q]?.getD undef = .pointer (some ⟨c, 0, none⟩) := by simpa using hq
  have hl := run_loadVar_mid (P := Try.prog) w b 0 t cs.toList d (h.range (fun j v hv => by rw [Nat.zero_add]; simpa using hv)) hu hd (by simpa using hi)
  have hl' := run_loadVar_mid (P := Try.prog) w c 0 u ds.toList d' (h'.range (fun j v hv => by rw [Nat.zero_add]; simpa using hv)) hu' hd' (by simpa using hi')
  simp only [Array.toArray_toList] at hl hl'
  simp [results, hf, hp', hq', asAddr, hl, hl']
attribute [local irreducible] tc pc
set_option maxRecDepth 20000 in
set_option maxHeartbeats 8000000 in
theorem open_bad (f : Nat → Int) (g : Nat → Bool) (h : Nat → Int) (sl : Value) (ms : List Mp) (p s i d : Int) (w : World) (hM : MapsAt w sl ms) (hwH : wfH h) (hP : ¬ openP f h ms p s i) :
    Calls Try.prog 17 #[.agg (tc f g h sl), .int .i64 p, .int .i64 s, .int .i64 i, .int .i64 d] w fun e w' => e = .returned (openS f g h sl noM false 2) ∧ Below w.heap.size w w' := by
  have hB := Below.refl w.heap.size w
  have hM0 := hM
  obtain ⟨a0, cap, hsl, -⟩ := hM0
  obtain ⟨n, hn⟩ : ∃ n, n = ms.length := ⟨_, rfl⟩
  rw [← hn] at hsl
  subst hsl
  have HN : Hid (n = ms.length) := hn
  clear hn
  have hlt := hM.lt
  have CG := fun w hM => goodt_any f g h (.slice a0 n cap) ms hwH w hM
  have C1 := fun w => isProtocol_any p w
  have C2 := fun w => isSub_any s w
  have C3 := fun w => isWord_any i w
  by_cases G : GoodT f h ms
  rotate_left
  · have HG : Hid (¬ GoodT f h ms) := G
    clear G hP
    go_enter Try.func17, Try.ntmps17
    go_wp2_with (first
      | (refine wpList_boxR 30 rfl _ rfl _ rfl ?_; intro b5 w1 l5 R5 hb1; replace l5 := Nat.le_trans hB.size l5; replace hB := hB.trans (hb1.mono hB.size))
      | (refine wpList_allocX 10 30 rfl rfl rfl _ table_zero ?_; intro b10 w2 l10 R10 hb2; have n5a := R5.ne l10; replace l10 := Nat.le_trans hB.size l10; replace R5 := R5.below hb2; replace hB := hB.trans (hb2.mono hB.size))
      | (refine wpList_allocX 11 32 rfl rfl rfl _ map_zero ?_; intro b11 w3 l11 R11 hb3; have n5b := R5.ne l11; have nab := R10.ne l11; replace l11 := Nat.le_trans hB.size l11; replace R5 := R5.below hb3; replace R10 := R10.below hb3; replace hB := hB.trans (hb3.mono hB.size))
      | (refine wpList_loadR 30 (.tmp 5) rfl rfl b5 rfl (tc f g h (.slice a0 n cap)) R5 _ Try.underlying30 rfl (tc_info _ _ _ _) ?_)
      | (go_at_call 14; go_fit (CG _ (hM.keep hB hlt)); rintro e w5 ⟨r, hr, rfl, hb5⟩; obtain rfl : r = false := (by cases r with | false => rfl | true => exact absurd (hr.1 rfl) HG.out); clear hr; replace R5 := R5.below hb5; replace R10 := R10.below hb5; replace R11 := R11.below hb5; replace hB := hB.trans (hb5.mono hB.size))
      | (go_at_call 37; go_fit (C1 _); rintro e w' ⟨rfl, hw⟩; rw [hw]; clear hw w')
      | (go_at_call 38; go_fit (C2 _); rintro e w' ⟨rfl, hw⟩; rw [hw]; clear hw w')
      | (go_at_call 39; go_fit (C3 _); rintro e w' ⟨rfl, hw⟩; rw [hw]; clear hw w')
      | (refine wpList_storeR 30 rfl (.tmp 10) _ rfl b10 rfl (tc f g h (.slice a0 n cap)) rfl _ R10 (tc_sz _ _ _ _ _ _ _ _) (tc_info _ _ _ _) (tc_one _ _ _ _ _ _) ?_; intro w6 R10 t6; replace R11 := t6.row R11 nab.symm; replace hB := t6.below _ _ l10 hB)
      | (refine wpList_storeR 32 rfl (.tmp 11) _ rfl b11 rfl (mc noM) rfl _ R11 rfl (mc_info _) (mc_one _) ?_; intro w7 R11 t7; replace R10 := t7.row R10 nab; replace hB := t7.below _ _ l11 hB))
    ((try simp only [Exit.inBlock, Exit.then]); refine bodyPost_ret (results_row22 rfl _ _ _ _ _ _ rfl rfl R10 R11 _ _ Try.underlying30 Try.underlying32 rfl rfl (tc_info _ _ _ _) (mc_info _)) rfl ⟨rfl, hB⟩)
  have HG : Hid (GoodT f h ms) := G
  cases hp : isP p with
  | false =>
    rw [hp] at C1
    clear G hP hp
    go_enter Try.func17, Try.ntmps17
    go_wp2_with (first
      | (refine wpList_boxR 30 rfl _ rfl _ rfl ?_; intro b5 w1 l5 R5 hb1; replace l5 := Nat.le_trans hB.size l5; replace hB := hB.trans (hb1.mono hB.size))
      | (refine wpList_allocX 10 30 rfl rfl rfl _ table_zero ?_; intro b10 w2 l10 R10 hb2; have n5a := R5.ne l10; replace l10 := Nat.le_trans hB.size l10; replace R5 := R5.below hb2; replace hB := hB.trans (hb2.mono hB.size))
      | (refine wpList_allocX 11 32 rfl rfl rfl _ map_zero ?_; intro b11 w3 l11 R11 hb3; have n5b := R5.ne l11; have nab := R10.ne l11; replace l11 := Nat.le_trans hB.size l11; replace R5 := R5.below hb3; replace R10 := R10.below hb3; replace hB := hB.trans (hb3.mono hB.size))
      | (refine wpList_loadR 30 (.tmp 5) rfl rfl b5 rfl (tc f g h (.slice a0 n cap)) R5 _ Try.underlying30 rfl (tc_info _ _ _ _) ?_)
      | (go_at_call 14; go_fit (CG _ (hM.keep hB hlt)); rintro e w5 ⟨r, hr, rfl, hb5⟩; obtain rfl : r = true := (hr.2 HG.out); clear hr; replace R5 := R5.below hb5; replace R10 := R10.below hb5; replace R11 := R11.below hb5; replace hB := hB.trans (hb5.mono hB.size))
      | (go_at_call 37; go_fit (C1 _); rintro e w' ⟨rfl, hw⟩; rw [hw]; clear hw w')
      | (go_at_call 38; go_fit (C2 _); rintro e w' ⟨rfl, hw⟩; rw [hw]; clear hw w')
      | (go_at_call 39; go_fit (C3 _); rintro e w' ⟨rfl, hw⟩; rw [hw]; clear hw w')
      | (refine wpList_storeR 30 rfl (.tmp 10) _ rfl b10 rfl (tc f g h (.slice a0 n cap)) rfl _ R10 (tc_sz _ _ _ _ _ _ _ _) (tc_info _ _ _ _) (tc_one _ _ _ _ _ _) ?_; intro w6 R10 t6; replace R11 := t6.row R11 nab.symm; replace hB := t6.below _ _ l10 hB)
      | (refine wpList_storeR 32 rfl (.tmp 11) _ rfl b11 rfl (mc noM) rfl _ R11 rfl (mc_info _) (mc_one _) ?_; intro w7 R11 t7; replace R10 := t7.row R10 nab; replace hB := t7.below _ _ l11 hB))
    ((try simp only [Exit.inBlock, Exit.then]); refine bodyPost_ret (results_row22 rfl _ _ _ _ _ _ rfl rfl R10 R11 _ _ Try.underlying30 Try.underlying32 rfl rfl (tc_info _ _ _ _) (mc_info _)) rfl ⟨rfl, hB⟩)
  | true =>
    rw [hp] at C1
    by_cases hs : 0 ≤ s ∧ s < 8
    rotate_left
    · have e2 : (decide (0 ≤ s) && decide (s < 8)) = false := by rw [Bool.eq_false_iff]; intro h; simp at h; exact hs h
      rw [e2] at C2
      clear G hP hp hs e2
      go_enter Try.func17, Try.ntmps17
      go_wp2_with (first
        | (refine wpList_boxR 30 rfl _ rfl _ rfl ?_; intro b5 w1 l5 R5 hb1; replace l5 := Nat.le_trans hB.size l5; replace hB := hB.trans (hb1.mono hB.size))
        | (refine wpList_allocX 10 30 rfl rfl rfl _ table_zero ?_; intro b10 w2 l10 R10 hb2; have n5a := R5.ne l10; replace l10 := Nat.le_trans hB.size l10; replace R5 := R5.below hb2; replace hB := hB.trans (hb2.mono hB.size))
        | (refine wpList_allocX 11 32 rfl rfl rfl _ map_zero ?_; intro b11 w3 l11 R11 hb3; have n5b := R5.ne l11; have nab := R10.ne l11; replace l11 := Nat.le_trans hB.size l11; replace R5 := R5.below hb3; replace R10 := R10.below hb3; replace hB := hB.trans (hb3.mono hB.size))
        | (refine wpList_loadR 30 (.tmp 5) rfl rfl b5 rfl (tc f g h (.slice a0 n cap)) R5 _ Try.underlying30 rfl (tc_info _ _ _ _) ?_)
        | (go_at_call 14; go_fit (CG _ (hM.keep hB hlt)); rintro e w5 ⟨r, hr, rfl, hb5⟩; obtain rfl : r = true := (hr.2 HG.out); clear hr; replace R5 := R5.below hb5; replace R10 := R10.below hb5; replace R11 := R11.below hb5; replace hB := hB.trans (hb5.mono hB.size))
        | (go_at_call 37; go_fit (C1 _); rintro e w' ⟨rfl, hw⟩; rw [hw]; clear hw w')
        | (go_at_call 38; go_fit (C2 _); rintro e w' ⟨rfl, hw⟩; rw [hw]; clear hw w')
        | (go_at_call 39; go_fit (C3 _); rintro e w' ⟨rfl, hw⟩; rw [hw]; clear hw w')
        | (refine wpList_storeR 30 rfl (.tmp 10) _ rfl b10 rfl (tc f g h (.slice a0 n cap)) rfl _ R10 (tc_sz _ _ _ _ _ _ _ _) (tc_info _ _ _ _) (tc_one _ _ _ _ _ _) ?_; intro w6 R10 t6; replace R11 := t6.row R11 nab.symm; replace hB := t6.below _ _ l10 hB)
        | (refine wpList_storeR 32 rfl (.tmp 11) _ rfl b11 rfl (mc noM) rfl _ R11 rfl (mc_info _) (mc_one _) ?_; intro w7 R11 t7; replace R10 := t7.row R10 nab; replace hB := t7.below _ _ l11 hB))
      ((try simp only [Exit.inBlock, Exit.then]); refine bodyPost_ret (results_row22 rfl _ _ _ _ _ _ rfl rfl R10 R11 _ _ Try.underlying30 Try.underlying32 rfl rfl (tc_info _ _ _ _) (mc_info _)) rfl ⟨rfl, hB⟩)
    have e2 : (decide (0 ≤ s) && decide (s < 8)) = true := by simp [hs.1, hs.2]
    rw [e2] at C2
    have e3 : (decide (0 ≤ i) && decide (i ≤ 65535)) = false := by rw [Bool.eq_false_iff]; intro h; simp at h; exact hP ⟨G, hp, hs, h⟩
    rw [e3] at C3
    clear G hP hp hs e2 e3
    go_enter Try.func17, Try.ntmps17
    go_wp2_with (first
      | (refine wpList_boxR 30 rfl _ rfl _ rfl ?_; intro b5 w1 l5 R5 hb1; replace l5 := Nat.le_trans hB.size l5; replace hB := hB.trans (hb1.mono hB.size))
      | (refine wpList_allocX 10 30 rfl rfl rfl _ table_zero ?_; intro b10 w2 l10 R10 hb2; have n5a := R5.ne l10; replace l10 := Nat.le_trans hB.size l10; replace R5 := R5.below hb2; replace hB := hB.trans (hb2.mono hB.size))
      | (refine wpList_allocX 11 32 rfl rfl rfl _ map_zero ?_; intro b11 w3 l11 R11 hb3; have n5b := R5.ne l11; have nab := R10.ne l11; replace l11 := Nat.le_trans hB.size l11; replace R5 := R5.below hb3; replace R10 := R10.below hb3; replace hB := hB.trans (hb3.mono hB.size))
      | (refine wpList_loadR 30 (.tmp 5) rfl rfl b5 rfl (tc f g h (.slice a0 n cap)) R5 _ Try.underlying30 rfl (tc_info _ _ _ _) ?_)
      | (go_at_call 14; go_fit (CG _ (hM.keep hB hlt)); rintro e w5 ⟨r, hr, rfl, hb5⟩; obtain rfl : r = true := (hr.2 HG.out); clear hr; replace R5 := R5.below hb5; replace R10 := R10.below hb5; replace R11 := R11.below hb5; replace hB := hB.trans (hb5.mono hB.size))
      | (go_at_call 37; go_fit (C1 _); rintro e w' ⟨rfl, hw⟩; rw [hw]; clear hw w')
      | (go_at_call 38; go_fit (C2 _); rintro e w' ⟨rfl, hw⟩; rw [hw]; clear hw w')
      | (go_at_call 39; go_fit (C3 _); rintro e w' ⟨rfl, hw⟩; rw [hw]; clear hw w')
      | (refine wpList_storeR 30 rfl (.tmp 10) _ rfl b10 rfl (tc f g h (.slice a0 n cap)) rfl _ R10 (tc_sz _ _ _ _ _ _ _ _) (tc_info _ _ _ _) (tc_one _ _ _ _ _ _) ?_; intro w6 R10 t6; replace R11 := t6.row R11 nab.symm; replace hB := t6.below _ _ l10 hB)
      | (refine wpList_storeR 32 rfl (.tmp 11) _ rfl b11 rfl (mc noM) rfl _ R11 rfl (mc_info _) (mc_one _) ?_; intro w7 R11 t7; replace R10 := t7.row R10 nab; replace hB := t7.below _ _ l11 hB))
    ((try simp only [Exit.inBlock, Exit.then]); refine bodyPost_ret (results_row22 rfl _ _ _ _ _ _ rfl rfl R10 R11 _ _ Try.underlying30 Try.underlying32 rfl rfl (tc_info _ _ _ _) (mc_info _)) rfl ⟨rfl, hB⟩)
set_option maxRecDepth 20000 in
set_option maxHeartbeats 8000000 in
theorem open_found (f : Nat → Int) (g : Nat → Bool) (h : Nat → Int) (sl : Value) (ms : List Mp) (p s i d : Int) (w : World) (hM : MapsAt w sl ms) (hwH : wfH h) (hP : openP f h ms p s i) (m : Mp) (hf : ms.find? (inS p s i) = some m) :
    Calls Try.prog 17 #[.agg (tc f g h sl), .int .i64 p, .int .i64 s, .int .i64 i, .int .i64 d] w fun e w' => e = .returned (openS f g h sl m false 0) ∧ Below w.heap.size w w' := by
  have hB := Below.refl w.heap.size w
  have hM0 := hM
  obtain ⟨a0, cap, hsl, -⟩ := hM0
  obtain ⟨n, hn⟩ : ∃ n, n = ms.length := ⟨_, rfl⟩
  rw [← hn] at hsl
  subst hsl
  have HN : Hid (n = ms.length) := hn
  clear hn
  have hlt := hM.lt
  have CG := fun w hM => goodt_any f g h (.slice a0 n cap) ms hwH w hM
  obtain ⟨G, hp, hs, hi0, hi1⟩ := hP
  have hs0 : 0 ≤ s := hs.1
  have hs8 : s < 8 := hs.2
  have hs8n : s.toNat < 8 := by omega
  have C1 := fun w => isProtocol_any p w
  have C2 := fun w => isSub_any s w
  have C3 := fun w => isWord_any i w
  have e2 : (decide (0 ≤ s) && decide (s < 8)) = true := by simp [hs0, hs8]
  have e3 : (decide (0 ≤ i) && decide (i ≤ 65535)) = true := by simp [hi0, hi1]
  rw [hp] at C1
  rw [e2] at C2
  rw [e3] at C3
  have HG : Hid (GoodT f h ms) := G
  have CF := fun w hM => find_any f g h (.slice a0 n cap) ms p s i w hM
  rw [hf] at CF
  unfold foundS at CF
  clear G hp hs hi0 hi1 e2 e3 hf
  go_enter Try.func17, Try.ntmps17
  go_wp2_with (first
    | (refine wpList_boxR 30 rfl _ rfl _ rfl ?_; intro b5 w1 l5 R5 hb1; replace l5 := Nat.le_trans hB.size l5; replace hB := hB.trans (hb1.mono hB.size))
    | (refine wpList_allocX 10 30 rfl rfl rfl _ table_zero ?_; intro b10 w2 l10 R10 hb2; have n5a := R5.ne l10; replace l10 := Nat.le_trans hB.size l10; replace R5 := R5.below hb2; replace hB := hB.trans (hb2.mono hB.size))
    | (refine wpList_allocX 11 32 rfl rfl rfl _ map_zero ?_; intro b11 w3 l11 R11 hb3; have n5b := R5.ne l11; have nab := R10.ne l11; replace l11 := Nat.le_trans hB.size l11; replace R5 := R5.below hb3; replace R10 := R10.below hb3; replace hB := hB.trans (hb3.mono hB.size))
    | (refine wpList_loadR 30 (.tmp 5) rfl rfl b5 rfl (tc f g h (.slice a0 n cap)) R5 _ Try.underlying30 rfl (tc_info _ _ _ _) ?_)
    | (go_at_call 14; go_fit (CG _ (hM.keep hB hlt)); rintro e w5 ⟨r, hr, rfl, hb5⟩; obtain rfl : r = true := (hr.2 HG.out); clear hr; replace R5 := R5.below hb5; replace R10 := R10.below hb5; replace R11 := R11.below hb5; replace hB := hB.trans (hb5.mono hB.size))
    | (go_at_call 37; go_fit (C1 _); rintro e w' ⟨rfl, hw⟩; rw [hw]; clear hw w')
    | (go_at_call 38; go_fit (C2 _); rintro e w' ⟨rfl, hw⟩; rw [hw]; clear hw w')
    | (go_at_call 39; go_fit (C3 _); rintro e w' ⟨rfl, hw⟩; rw [hw]; clear hw w')
    | (go_at_call 7; go_fit (CF _ (hM.keep hB hlt)); rintro e w5 ⟨rfl, hb5⟩; replace R5 := R5.below hb5; replace R10 := R10.below hb5; replace R11 := R11.below hb5; replace hB := hB.trans (hb5.mono hB.size))
    | (refine wpList_allocX 14 32 rfl rfl rfl _ map_zero ?_; intro b14 w8 l14 R14 hb8; have n5c := R5.ne l14; have nac := R10.ne l14; have nbc := R11.ne l14; replace l14 := Nat.le_trans hB.size l14; replace R5 := R5.below hb8; replace R10 := R10.below hb8; replace R11 := R11.below hb8; replace hB := hB.trans (hb8.mono hB.size))
    | (refine wpList_storeR 32 rfl (.tmp 14) _ rfl b14 rfl (mc m) rfl _ R14 rfl (mc_info _) (mc_one _) ?_; intro w9 R14 t9; replace R5 := t9.row R5 n5c; replace R10 := t9.row R10 nac; replace R11 := t9.row R11 nbc; replace hB := t9.below _ _ l14 hB))
  refine wp_region_noPanic ?_
  refine wp_region_held_drew (S := fun W => Row 30 W b5 (tc f g h (.slice a0 n cap)) ∧ Row 32 W b14 (mc m)) (by kernel_rfl) ⟨R5, R14⟩ (fun _ => ?_)
  refine wpAnyH_take (i := 0) (v := .agg (tc f g h (.slice a0 n cap))) rfl (by kernel_rfl) (by kernel_rfl) (by kernel_rfl) (fun _ _ _ h => h) (yields_loadR 30 (.tmp 5) rfl (by kernel_rfl) b5 (by kernel_rfl) (tc f g h (.slice a0 n cap)) (fun _ h => h.1) _ Try.underlying30 rfl (tc_info _ _ _ _)) ⟨R5, R14⟩ ?_
  simp only [Act.put, List.getElem_toArray, List.getElem_cons_succ, List.getElem_cons_zero, List.setIfInBounds_toArray, List.set_cons_zero, List.set_cons_succ]
  refine wpAnyH_take (i := 1) (v := .agg (mc m)) rfl (by kernel_rfl) (by kernel_rfl) (by kernel_rfl) (fun _ _ _ h => h) (yields_loadR 32 (.tmp 14) rfl (by kernel_rfl) b14 (by kernel_rfl) (mc m) (fun _ h => h.2) _ Try.underlying32 rfl (mc_info m)) ⟨R5, R14⟩ ?_
  simp only [Act.put, List.getElem_toArray, List.getElem_cons_succ, List.getElem_cons_zero, List.setIfInBounds_toArray, List.set_cons_zero, List.set_cons_succ]
  refine wpAnyH_ready (rs := [2]) (by kernel_rfl) (by simp) ?_
  refine AllReadyH.cons rfl (fun K hK => ?_) ?_
  · rw [if_pos (by kernel_rfl)]
    refine wp_storeR 30 (.tmp 10) (.tmp 50) rfl b10 rfl (tc f g h (.slice a0 n cap)) rfl _ R10 (tc_sz _ _ _ _ _ _ _ _) (tc_info _ _ _ _) (tc_one _ _ _ _ _ _) ?_; intro w16 R10 t16; (try replace t16 := turned_undr t16); replace R5 := t16.row R5 n5a; replace R11 := t16.row R11 nab.symm; replace R14 := t16.row R14 nac.symm; replace hB := t16.below _ _ l10 hB
    refine hK.out _ _ ⟨R5, R14⟩ (fun _ => ?_)
    clear hK K
    try simp only [Act.put, List.getElem_toArray, List.getElem_cons_succ, List.getElem_cons_zero, List.setIfInBounds_toArray, List.set_cons_zero, List.set_cons_succ]
    refine wpAnyH_ready (rs := [3]) (by kernel_rfl) (by simp) ?_
    refine AllReadyH.cons rfl (fun K hK => ?_) ?_
    · rw [if_pos (by kernel_rfl)]
      refine wp_storeR 32 (.tmp 11) (.tmp 51) rfl b11 rfl (mc m) rfl _ R11 rfl (mc_info _) (mc_one _) ?_; intro w17 R11 t17; (try replace t17 := turned_undr t17); replace R5 := t17.row R5 n5b; replace R10 := t17.row R10 nab; replace R14 := t17.row R14 nbc.symm; replace hB := t17.below _ _ l11 hB
      refine hK.out _ _ ⟨R5, R14⟩ (fun _ => ?_)
      clear hK K
      try simp only [Act.put, List.getElem_toArray, List.getElem_cons_succ, List.getElem_cons_zero, List.setIfInBounds_toArray, List.set_cons_zero, List.set_cons_succ]
      refine wpAnyH_take (i := 4) (v := .bool false) rfl (by kernel_rfl) (by kernel_rfl) (by kernel_rfl) (fun _ _ _ h => h) (Or.inl ⟨by kernel_rfl, by intro w hS; go_simp⟩) ⟨R5, R14⟩ ?_
      simp only [Act.put, List.getElem_toArray, List.getElem_cons_succ, List.getElem_cons_zero, List.setIfInBounds_toArray, List.set_cons_zero, List.set_cons_succ]
      refine wpAnyH_take (i := 5) (v := .int .i64 0) rfl (by kernel_rfl) (by kernel_rfl) (by kernel_rfl) (fun _ _ _ h => h) (Or.inl ⟨by kernel_rfl, by intro w hS; go_simp⟩) ⟨R5, R14⟩ ?_
      simp only [Act.put, List.getElem_toArray, List.getElem_cons_succ, List.getElem_cons_zero, List.setIfInBounds_toArray, List.set_cons_zero, List.set_cons_succ]
      refine wpAnyH_done (by kernel_rfl) ?_ _
      refine NoPanic.normal ?_
      go_wp2
      ((try simp only [Exit.inBlock, Exit.then]); refine bodyPost_ret (results_row22 rfl _ _ _ _ _ _ rfl rfl R10 R11 _ _ Try.underlying30 Try.underlying32 rfl rfl (tc_info _ _ _ _) (mc_info _)) rfl ⟨rfl, by first | exact hB | exact below_drew hB⟩)
    exact AllReadyH.nil
  exact AllReadyH.nil
set_option maxRecDepth 20000 in
set_option maxHeartbeats 8000000 in
theorem open_full (f : Nat → Int) (g : Nat → Bool) (h : Nat → Int) (sl : Value) (ms : List Mp) (p s i d : Int) (w : World) (hM : MapsAt w sl ms) (hwH : wfH h) (hP : openP f h ms p s i) (hf : ms.find? (inS p s i) = none) (hc : cntM ms s = 12) :
    Calls Try.prog 17 #[.agg (tc f g h sl), .int .i64 p, .int .i64 s, .int .i64 i, .int .i64 d] w fun e w' => e = .returned (openS f g h sl noM false 6) ∧ Below w.heap.size w w' := by
  have hB := Below.refl w.heap.size w
  have hM0 := hM
  obtain ⟨a0, cap, hsl, -⟩ := hM0
  obtain ⟨n, hn⟩ : ∃ n, n = ms.length := ⟨_, rfl⟩
  rw [← hn] at hsl
  subst hsl
  have HN : Hid (n = ms.length) := hn
  clear hn
  have hlt := hM.lt
  have CG := fun w hM => goodt_any f g h (.slice a0 n cap) ms hwH w hM
  obtain ⟨G, hp, hs, hi0, hi1⟩ := hP
  have hs0 : 0 ≤ s := hs.1
  have hs8 : s < 8 := hs.2
  have hs8n : s.toNat < 8 := by omega
  have C1 := fun w => isProtocol_any p w
  have C2 := fun w => isSub_any s w
  have C3 := fun w => isWord_any i w
  have e2 : (decide (0 ≤ s) && decide (s < 8)) = true := by simp [hs0, hs8]
  have e3 : (decide (0 ≤ i) && decide (i ≤ 65535)) = true := by simp [hi0, hi1]
  rw [hp] at C1
  rw [e2] at C2
  rw [e3] at C3
  have HG : Hid (GoodT f h ms) := G
  have CF := fun w hM => find_any f g h (.slice a0 n cap) ms p s i w hM
  rw [hf] at CF
  unfold foundS at CF
  have CC := fun w hM => countMaps_any f g h (.slice a0 n cap) ms s w hM
  rw [hc] at CC
  clear G hp hs hi0 hi1 e2 e3 hf hc
  go_enter Try.func17, Try.ntmps17
  go_wp2_with (first
    | (refine wpList_boxR 30 rfl _ rfl _ rfl ?_; intro b5 w1 l5 R5 hb1; replace l5 := Nat.le_trans hB.size l5; replace hB := hB.trans (hb1.mono hB.size))
    | (refine wpList_allocX 10 30 rfl rfl rfl _ table_zero ?_; intro b10 w2 l10 R10 hb2; have n5a := R5.ne l10; replace l10 := Nat.le_trans hB.size l10; replace R5 := R5.below hb2; replace hB := hB.trans (hb2.mono hB.size))
    | (refine wpList_allocX 11 32 rfl rfl rfl _ map_zero ?_; intro b11 w3 l11 R11 hb3; have n5b := R5.ne l11; have nab := R10.ne l11; replace l11 := Nat.le_trans hB.size l11; replace R5 := R5.below hb3; replace R10 := R10.below hb3; replace hB := hB.trans (hb3.mono hB.size))
    | (refine wpList_loadR 30 (.tmp 5) rfl rfl b5 rfl (tc f g h (.slice a0 n cap)) R5 _ Try.underlying30 rfl (tc_info _ _ _ _) ?_)
    | (go_at_call 14; go_fit (CG _ (hM.keep hB hlt)); rintro e w5 ⟨r, hr, rfl, hb5⟩; obtain rfl : r = true := (hr.2 HG.out); clear hr; replace R5 := R5.below hb5; replace R10 := R10.below hb5; replace R11 := R11.below hb5; replace hB := hB.trans (hb5.mono hB.size))
    | (go_at_call 37; go_fit (C1 _); rintro e w' ⟨rfl, hw⟩; rw [hw]; clear hw w')
    | (go_at_call 38; go_fit (C2 _); rintro e w' ⟨rfl, hw⟩; rw [hw]; clear hw w')
    | (go_at_call 39; go_fit (C3 _); rintro e w' ⟨rfl, hw⟩; rw [hw]; clear hw w')
    | (go_at_call 7; go_fit (CF _ (hM.keep hB hlt)); rintro e w5 ⟨rfl, hb5⟩; replace R5 := R5.below hb5; replace R10 := R10.below hb5; replace R11 := R11.below hb5; replace hB := hB.trans (hb5.mono hB.size))
    | (refine wpList_allocX 14 32 rfl rfl rfl _ map_zero ?_; intro b14 w8 l14 R14 hb8; have n5c := R5.ne l14; have nac := R10.ne l14; have nbc := R11.ne l14; replace l14 := Nat.le_trans hB.size l14; replace R5 := R5.below hb8; replace R10 := R10.below hb8; replace R11 := R11.below hb8; replace hB := hB.trans (hb8.mono hB.size))
    | (refine wpList_storeR 32 rfl (.tmp 14) _ rfl b14 rfl (mc noM) rfl _ R14 rfl (mc_info _) (mc_one _) ?_; intro w9 R14 t9; replace R5 := t9.row R5 n5c; replace R10 := t9.row R10 nac; replace R11 := t9.row R11 nbc; replace hB := t9.below _ _ l14 hB)
    | (go_at_call 40; go_fit (CC _ (hM.keep hB hlt)); rintro e w5 ⟨rfl, hb5⟩; (try clear R14); replace R5 := R5.below hb5; replace R10 := R10.below hb5; replace R11 := R11.below hb5; replace hB := hB.trans (hb5.mono hB.size))
    | (refine wpList_storeR 30 rfl (.tmp 10) _ rfl b10 rfl (tc f g h (.slice a0 n cap)) rfl _ R10 (tc_sz _ _ _ _ _ _ _ _) (tc_info _ _ _ _) (tc_one _ _ _ _ _ _) ?_; intro w6 R10 t6; replace R11 := t6.row R11 nab.symm; replace hB := t6.below _ _ l10 hB)
    | (refine wpList_storeR 32 rfl (.tmp 11) _ rfl b11 rfl (mc noM) rfl _ R11 rfl (mc_info _) (mc_one _) ?_; intro w7 R11 t7; replace R10 := t7.row R10 nab; replace hB := t7.below _ _ l11 hB))
  ((try simp only [Exit.inBlock, Exit.then]); refine bodyPost_ret (results_row22 rfl _ _ _ _ _ _ rfl rfl R10 R11 _ _ Try.underlying30 Try.underlying32 rfl rfl (tc_info _ _ _ _) (mc_info _)) rfl ⟨rfl, hB⟩)
set_option maxRecDepth 20000 in
set_option maxHeartbeats 8000000 in
theorem open_err (f : Nat → Int) (g : Nat → Bool) (h : Nat → Int) (sl : Value) (ms : List Mp) (p s i d : Int) (w : World) (hM : MapsAt w sl ms) (hwH : wfH h) (hd : (Lit.int .i64 d).wf = true) (hP : openP f h ms p s i) (hf : ms.find? (inS p s i) = none) (hc : cntM ms s ≠ 12) (he : (roomR f g h ms p s d).e ≠ 0) :
    Calls Try.prog 17 #[.agg (tc f g h sl), .int .i64 p, .int .i64 s, .int .i64 i, .int .i64 d] w fun e w' => e = .returned (openS f g h sl noM false (roomR f g h ms p s d).e) ∧ Below w.heap.size w w' := by
  have hB := Below.refl w.heap.size w
  have hM0 := hM
  obtain ⟨a0, cap, hsl, -⟩ := hM0
  obtain ⟨n, hn⟩ : ∃ n, n = ms.length := ⟨_, rfl⟩
  rw [← hn] at hsl
  subst hsl
  have HN : Hid (n = ms.length) := hn
  clear hn
  have hlt := hM.lt
  have CG := fun w hM => goodt_any f g h (.slice a0 n cap) ms hwH w hM
  obtain ⟨G, hp, hs, hi0, hi1⟩ := hP
  have hs0 : 0 ≤ s := hs.1
  have hs8 : s < 8 := hs.2
  have hs8n : s.toNat < 8 := by omega
  have C1 := fun w => isProtocol_any p w
  have C2 := fun w => isSub_any s w
  have C3 := fun w => isWord_any i w
  have e2 : (decide (0 ≤ s) && decide (s < 8)) = true := by simp [hs0, hs8]
  have e3 : (decide (0 ≤ i) && decide (i ≤ 65535)) = true := by simp [hi0, hi1]
  rw [hp] at C1
  rw [e2] at C2
  rw [e3] at C3
  have HG : Hid (GoodT f h ms) := G
  have CF := fun w hM => find_any f g h (.slice a0 n cap) ms p s i w hM
  rw [hf] at CF
  unfold foundS at CF
  have CC := fun w hM => countMaps_any f g h (.slice a0 n cap) ms s w hM
  have dc : (((cntM ms s : Nat) : Int) == 12) = false := by simp; omega
  have CR := fun w hM => room_any f g h (.slice a0 n cap) ms p s d w hM G hs hd
  unfold roomS at CR
  have dE : ((roomR f g h ms p s d).e != 0) = true := by simp [he]
  generalize roomR f g h ms p s d = r at *
  obtain ⟨rf, rh, rq, rt, re⟩ := r
  simp only at CR dE he ⊢
  generalize cntM ms s = cc at *
  clear G hp hs hi0 hi1 e2 e3 hf hc he
  go_enter Try.func17, Try.ntmps17
  go_wp2_with (first
    | (refine wpList_boxR 30 rfl _ rfl _ rfl ?_; intro b5 w1 l5 R5 hb1; replace l5 := Nat.le_trans hB.size l5; replace hB := hB.trans (hb1.mono hB.size))
    | (refine wpList_allocX 10 30 rfl rfl rfl _ table_zero ?_; intro b10 w2 l10 R10 hb2; have n5a := R5.ne l10; replace l10 := Nat.le_trans hB.size l10; replace R5 := R5.below hb2; replace hB := hB.trans (hb2.mono hB.size))
    | (refine wpList_allocX 11 32 rfl rfl rfl _ map_zero ?_; intro b11 w3 l11 R11 hb3; have n5b := R5.ne l11; have nab := R10.ne l11; replace l11 := Nat.le_trans hB.size l11; replace R5 := R5.below hb3; replace R10 := R10.below hb3; replace hB := hB.trans (hb3.mono hB.size))
    | (refine wpList_loadR 30 (.tmp 5) rfl rfl b5 rfl (tc f g h (.slice a0 n cap)) R5 _ Try.underlying30 rfl (tc_info _ _ _ _) ?_)
    | (go_at_call 14; go_fit (CG _ (hM.keep hB hlt)); rintro e w5 ⟨r, hr, rfl, hb5⟩; obtain rfl : r = true := (hr.2 HG.out); clear hr; replace R5 := R5.below hb5; replace R10 := R10.below hb5; replace R11 := R11.below hb5; replace hB := hB.trans (hb5.mono hB.size))
    | (go_at_call 37; go_fit (C1 _); rintro e w' ⟨rfl, hw⟩; rw [hw]; clear hw w')
    | (go_at_call 38; go_fit (C2 _); rintro e w' ⟨rfl, hw⟩; rw [hw]; clear hw w')
    | (go_at_call 39; go_fit (C3 _); rintro e w' ⟨rfl, hw⟩; rw [hw]; clear hw w')
    | (go_at_call 7; go_fit (CF _ (hM.keep hB hlt)); rintro e w5 ⟨rfl, hb5⟩; replace R5 := R5.below hb5; replace R10 := R10.below hb5; replace R11 := R11.below hb5; replace hB := hB.trans (hb5.mono hB.size))
    | (refine wpList_allocX 14 32 rfl rfl rfl _ map_zero ?_; intro b14 w8 l14 R14 hb8; have n5c := R5.ne l14; have nac := R10.ne l14; have nbc := R11.ne l14; replace l14 := Nat.le_trans hB.size l14; replace R5 := R5.below hb8; replace R10 := R10.below hb8; replace R11 := R11.below hb8; replace hB := hB.trans (hb8.mono hB.size))
    | (refine wpList_storeR 32 rfl (.tmp 14) _ rfl b14 rfl (mc noM) rfl _ R14 rfl (mc_info _) (mc_one _) ?_; intro w9 R14 t9; replace R5 := t9.row R5 n5c; replace R10 := t9.row R10 nac; replace R11 := t9.row R11 nbc; replace hB := t9.below _ _ l14 hB)
    | (go_at_call 40; go_fit (CC _ (hM.keep hB hlt)); rintro e w5 ⟨rfl, hb5⟩; (try clear R14); replace R5 := R5.below hb5; replace R10 := R10.below hb5; replace R11 := R11.below hb5; replace hB := hB.trans (hb5.mono hB.size))
    | (go_at_call 41; go_fit (CR _ (hM.keep hB hlt)); rintro e w5 ⟨rfl, hb5⟩; replace R5 := R5.below hb5; replace R10 := R10.below hb5; replace R11 := R11.below hb5; replace hB := hB.trans (hb5.mono hB.size))
    | (refine wpList_allocX 16 30 rfl rfl rfl _ table_zero ?_; intro b16 w10 l16 R16 hb10; have n5d := R5.ne l16; have nad := R10.ne l16; have nbd := R11.ne l16; replace l16 := Nat.le_trans hB.size l16; replace R5 := R5.below hb10; replace R10 := R10.below hb10; replace R11 := R11.below hb10; replace hB := hB.trans (hb10.mono hB.size))
    | (refine wpList_storeR 30 rfl (.tmp 16) _ rfl b16 rfl (tc rf g rh (.slice a0 n cap)) rfl _ R16 (tc_sz _ _ _ _ _ _ _ _) (tc_info _ _ _ _) (tc_one _ _ _ _ _ _) ?_; intro w11 R16 t11; replace R5 := t11.row R5 n5d; replace R10 := t11.row R10 nad; replace R11 := t11.row R11 nbd; replace hB := t11.below _ _ l16 hB; have c16 : World.cell? _ ⟨b16, 21 + s.toNat, none⟩ = some (.int .i64 (rh s.toNat)) := (R16.cell _).trans (tc_home _ _ _ _ _ hs8n))
    | (refine wpList_storeR 30 rfl (.tmp 10) _ rfl b10 rfl (tc f g h (.slice a0 n cap)) rfl _ R10 (tc_sz _ _ _ _ _ _ _ _) (tc_info _ _ _ _) (tc_one _ _ _ _ _ _) ?_; intro w6 R10 t6; replace R11 := t6.row R11 nab.symm; replace hB := t6.below _ _ l10 hB)
    | (refine wpList_storeR 32 rfl (.tmp 11) _ rfl b11 rfl (mc noM) rfl _ R11 rfl (mc_info _) (mc_one _) ?_; intro w7 R11 t7; replace R10 := t7.row R10 nab; replace hB := t7.below _ _ l11 hB))
  ((try simp only [Exit.inBlock, Exit.then]); refine bodyPost_ret (results_row22 rfl _ _ _ _ _ _ rfl rfl R10 R11 _ _ Try.underlying30 Try.underlying32 rfl rfl (tc_info _ _ _ _) (mc_info _)) rfl ⟨rfl, hB⟩)
end Go.Proofs.Ytmdijjbkjcnbpaa
