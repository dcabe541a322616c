/-
  Of what BindCloses, BindOpens stands on: part 37.
-/
import Derived.Test.YtmdijjbkjcnbpaaBindCO35
import Derived.Test.YtmdijjbkjcnbpaaBindCO36
namespace Go.Proofs.Ytmdijjbkjcnbpaa
open Go.ChangeShapes Go.WideShapes Go.ChangeAt Go.RowKit
set_option linter.unusedSimpArgs false
set_option linter.unusedVariables false

attribute [local irreducible] tc pc
set_option maxRecDepth 100000 in
set_option maxHeartbeats 8000000 in
theorem openr_full (f : Nat → Int) (g : Nat → Bool) (h : Nat → Int) (sl : Value) (ms : List Mp) (p s i d : Int) (hwH : wfH h) (hP : openP f h ms p s i) (hf : ms.find? (inS p s i) = none) (hc : cntM ms s = 12) (w : World) (hM : MapsAt w sl ms) :
    Calls Try.prog 18 #[.agg (tc f g h sl), .int .i64 p, .int .i64 s, .int .i64 i, .int .i64 d] w fun e w' => e = .returned (openS f g h sl noM false 6) ∧ Below w.heap.size w w' := by
  unfold openS
  have B := Bd.start w
  have hM0 := hM
  obtain ⟨a0, cap, hsl, -⟩ := hM0
  obtain ⟨n, hn⟩ : ∃ n, n = ms.length := ⟨_, rfl⟩
  have HN : Hid (n = ms.length) := hn
  rw [← hn] at hsl
  subst hsl
  clear hn
  have hlt := hM.lt
  have CG := fun w hM => goodTable_ref f g h (.slice a0 n cap) ms hwH w hM
  have CI := fun w => isProto_ref p w
  obtain ⟨G, hp, hs, hi⟩ := hP
  have HG : Hid (GoodT f h ms) := G
  rw [hp] at CI
  have d1 : decide (s < 0) = false := decide_eq_false (by omega)
  have d2 : decide (7 < s) = false := decide_eq_false (by omega)
  have d3 : decide (i < 0) = false := decide_eq_false (by omega)
  have d4 : decide (65535 < i) = false := decide_eq_false (by omega)
  have CF := fun w hM => findMap_ref f g h (.slice a0 n cap) ms p s i w hM
  rw [hf] at CF
  unfold foundS at CF
  have hl9 : ms.length ≤ 1000 := Nat.le_trans G.len (by decide)
  have HL9 : Hid (ms.length ≤ 1000) := hl9
  clear hf
  have HC : Hid (cntM ms s = 12) := hc
  clear hc
  go_enter Try.func18, Try.ntmps18
  go_wp2_with (first | ((with_reducible refine at_opB (.box 30 (.tmp 0)) rfl ?_); refine wpList_boxR 30 rfl (.tmp 0) rfl _ rfl ?_; intro b5 w9 l9 R9 h9; replace B := B.alloc l9 R9 h9; clear R9 h9 l9) | ((with_reducible refine at_opB (.alloc 30) rfl ?_); refine wpList_allocX 10 30 rfl rfl rfl _ table_zero ?_; intro b10 w9 l9 R9 h9; replace B := B.alloc l9 R9 h9; clear R9 h9 l9) | ((with_reducible refine at_opB (.alloc 32) rfl ?_); refine wpList_allocX 11 32 rfl rfl rfl _ map_zero ?_; intro b11 w9 l9 R9 h9; replace B := B.alloc l9 R9 h9; clear R9 h9 l9) | ((with_reducible refine at_opB (.build 32 #[]) rfl ?_); refine wpList_buildM0 rfl rfl ?_) | ((with_reducible refine at_opB (.alloc 32) rfl ?_); refine wpList_allocX 14 32 rfl rfl rfl _ map_zero ?_; intro b14 w9 l9 R9 h9; replace B := B.alloc l9 R9 h9; clear R9 h9 l9) | ((with_reducible refine at_opB (.store 32 (.tmp 14) (.tmp 35)) rfl ?_); refine wpList_storeR 32 rfl (.tmp 14) _ rfl b14 rfl (mc noM) rfl _ (B.row 0 rfl) rfl (mc_info _) (mc_one _) ?_; intro w9 R9 t9; replace B := B.turn 0 rfl R9 t9; clear R9 t9) | ((with_reducible refine at_opB (.load 30 (.tmp 5)) rfl ?_); refine wpList_loadR 30 (.tmp 5) rfl (by kernel_rfl) b5 rfl (tc f g h (.slice a0 n cap)) (B.row 3 rfl) _ Try.underlying30 rfl (tc_info _ _ _ _) ?_) | (go_at_call 15; go_fit (CG _ (hM.keep B.base hlt)); rintro e w5 ⟨r, hr, rfl, hb5⟩; obtain rfl : r = true := (hr.2 HG.out); clear hr; replace B := B.below hb5; clear hb5) | (go_at_call 36; go_fit (CI _); rintro e w' ⟨rfl, hw⟩; rw [hw]; clear hw w') | (go_at_call 9; go_fit (CF _ (hM.keep B.base hlt)); rintro e w5 ⟨rfl, hb5⟩; replace B := B.below hb5; clear hb5) | ((with_reducible refine at_opB (.alloc 32) rfl ?_); refine wpList_allocX 15 32 rfl rfl rfl _ map_zero ?_; intro b15 w9 l9 R9 h9; replace B := B.alloc l9 R9 h9; clear R9 h9 l9) | ((with_reducible refine at_opB (.store 32 (.tmp 15) (.tmp 68)) rfl ?_); refine wpList_storeR 32 rfl (.tmp 15) _ rfl b15 rfl (mc noM) rfl _ (B.row 0 rfl) rfl (mc_info _) (mc_one _) ?_; intro w9 R9 t9; replace B := B.turn 0 rfl R9 t9; clear R9 t9; have cM : World.cell? _ ⟨b5, 29, none⟩ = some (.slice a0 n cap) := ((B.row 4 rfl).cell 29).trans (tc_maps _ _ _ _)))
  clear cM CI CF
  refine wp_loop (WO1 w f g h ms p s i d b5 b10 b11 b14 b15 a0 n cap) (WO1mu n) ?_ ?_
  · unfold WO1
    (repeat apply Exists.intro)
    refine ⟨?_, rfl⟩
    exact ⟨0, by omega, rfl, rfl, B⟩
  · clear B
    intro a W hI
    unfold WO1 at hI
    obtain ⟨u6, hI⟩ := hI
    obtain ⟨u7, hI⟩ := hI
    obtain ⟨u8, hI⟩ := hI
    obtain ⟨u9, hI⟩ := hI
    obtain ⟨u12, hI⟩ := hI
    obtain ⟨u13, hI⟩ := hI
    obtain ⟨u15, hI⟩ := hI
    obtain ⟨u16, hI⟩ := hI
    obtain ⟨u17, hI⟩ := hI
    obtain ⟨u19, hI⟩ := hI
    obtain ⟨u20, hI⟩ := hI
    obtain ⟨u21, hI⟩ := hI
    obtain ⟨u22, hI⟩ := hI
    obtain ⟨u23, hI⟩ := hI
    obtain ⟨u24, hI⟩ := hI
    obtain ⟨u25, hI⟩ := hI
    obtain ⟨u26, hI⟩ := hI
    obtain ⟨u27, hI⟩ := hI
    obtain ⟨u28, hI⟩ := hI
    obtain ⟨u29, hI⟩ := hI
    obtain ⟨u30, hI⟩ := hI
    obtain ⟨u31, hI⟩ := hI
    obtain ⟨u32, hI⟩ := hI
    obtain ⟨u33, hI⟩ := hI
    obtain ⟨u34, hI⟩ := hI
    obtain ⟨u35, hI⟩ := hI
    obtain ⟨u36, hI⟩ := hI
    obtain ⟨u37, hI⟩ := hI
    obtain ⟨u38, hI⟩ := hI
    obtain ⟨u39, hI⟩ := hI
    obtain ⟨u40, hI⟩ := hI
    obtain ⟨u41, hI⟩ := hI
    obtain ⟨u42, hI⟩ := hI
    obtain ⟨u43, hI⟩ := hI
    obtain ⟨u44, hI⟩ := hI
    obtain ⟨u45, hI⟩ := hI
    obtain ⟨u46, hI⟩ := hI
    obtain ⟨u47, hI⟩ := hI
    obtain ⟨u48, hI⟩ := hI
    obtain ⟨u49, hI⟩ := hI
    obtain ⟨u50, hI⟩ := hI
    obtain ⟨u51, hI⟩ := hI
    obtain ⟨u52, hI⟩ := hI
    obtain ⟨u53, hI⟩ := hI
    obtain ⟨u54, hI⟩ := hI
    obtain ⟨u55, hI⟩ := hI
    obtain ⟨u56, hI⟩ := hI
    obtain ⟨u57, hI⟩ := hI
    obtain ⟨u58, hI⟩ := hI
    obtain ⟨u59, hI⟩ := hI
    obtain ⟨u60, hI⟩ := hI
    obtain ⟨u61, hI⟩ := hI
    obtain ⟨u62, hI⟩ := hI
    obtain ⟨u63, hI⟩ := hI
    obtain ⟨u64, hI⟩ := hI
    obtain ⟨u65, hI⟩ := hI
    obtain ⟨u66, hI⟩ := hI
    obtain ⟨u67, hI⟩ := hI
    obtain ⟨u68, hI⟩ := hI
    obtain ⟨u69, hI⟩ := hI
    obtain ⟨u70, hI⟩ := hI
    obtain ⟨u71, hI⟩ := hI
    obtain ⟨u72, hI⟩ := hI
    obtain ⟨u73, hI⟩ := hI
    obtain ⟨u76, hI⟩ := hI
    obtain ⟨u77, hI⟩ := hI
    obtain ⟨u78, hI⟩ := hI
    obtain ⟨u79, hI⟩ := hI
    obtain ⟨u80, hI⟩ := hI
    obtain ⟨u81, hI⟩ := hI
    obtain ⟨u82, hI⟩ := hI
    obtain ⟨u83, hI⟩ := hI
    obtain ⟨u84, hI⟩ := hI
    obtain ⟨u85, hI⟩ := hI
    obtain ⟨u86, hI⟩ := hI
    obtain ⟨u87, hI⟩ := hI
    obtain ⟨u88, hI⟩ := hI
    obtain ⟨u89, hI⟩ := hI
    obtain ⟨u90, hI⟩ := hI
    obtain ⟨u91, hI⟩ := hI
    obtain ⟨u92, hI⟩ := hI
    obtain ⟨u93, hI⟩ := hI
    obtain ⟨u94, hI⟩ := hI
    obtain ⟨u95, hI⟩ := hI
    obtain ⟨u96, hI⟩ := hI
    obtain ⟨u97, hI⟩ := hI
    obtain ⟨u98, hI⟩ := hI
    obtain ⟨u99, hI⟩ := hI
    obtain ⟨u100, hI⟩ := hI
    obtain ⟨u101, hI⟩ := hI
    obtain ⟨u102, hI⟩ := hI
    obtain ⟨u103, hI⟩ := hI
    obtain ⟨u104, hI⟩ := hI
    obtain ⟨u105, hI⟩ := hI
    obtain ⟨u106, hI⟩ := hI
    obtain ⟨u107, hI⟩ := hI
    obtain ⟨u108, hI⟩ := hI
    obtain ⟨u109, hI⟩ := hI
    obtain ⟨u110, hI⟩ := hI
    obtain ⟨u111, hI⟩ := hI
    obtain ⟨u112, hI⟩ := hI
    obtain ⟨u113, hI⟩ := hI
    obtain ⟨u114, hI⟩ := hI
    obtain ⟨u115, hI⟩ := hI
    obtain ⟨u116, hI⟩ := hI
    obtain ⟨u117, hI⟩ := hI
    obtain ⟨u118, hI⟩ := hI
    obtain ⟨u119, hI⟩ := hI
    obtain ⟨u120, hI⟩ := hI
    obtain ⟨u121, hI⟩ := hI
    obtain ⟨u122, hI⟩ := hI
    obtain ⟨u123, hI⟩ := hI
    obtain ⟨u124, hI⟩ := hI
    obtain ⟨u125, hI⟩ := hI
    obtain ⟨u126, hI⟩ := hI
    obtain ⟨u127, hI⟩ := hI
    obtain ⟨u128, hI⟩ := hI
    obtain ⟨u129, hI⟩ := hI
    obtain ⟨u130, hI⟩ := hI
    obtain ⟨u131, hI⟩ := hI
    obtain ⟨u132, hI⟩ := hI
    obtain ⟨u133, hI⟩ := hI
    obtain ⟨u134, hI⟩ := hI
    obtain ⟨u135, hI⟩ := hI
    obtain ⟨u136, hI⟩ := hI
    obtain ⟨u137, hI⟩ := hI
    obtain ⟨u138, hI⟩ := hI
    obtain ⟨u139, hI⟩ := hI
    obtain ⟨u140, hI⟩ := hI
    obtain ⟨u141, hI⟩ := hI
    obtain ⟨u142, hI⟩ := hI
    obtain ⟨u143, hI⟩ := hI
    obtain ⟨u144, hI⟩ := hI
    obtain ⟨u145, hI⟩ := hI
    obtain ⟨u146, hI⟩ := hI
    obtain ⟨u147, hI⟩ := hI
    obtain ⟨u148, hI⟩ := hI
    obtain ⟨u149, hI⟩ := hI
    obtain ⟨u150, hI⟩ := hI
    obtain ⟨u151, hI⟩ := hI
    obtain ⟨u152, hI⟩ := hI
    obtain ⟨u153, hI⟩ := hI
    obtain ⟨u154, hI⟩ := hI
    obtain ⟨u155, hI⟩ := hI
    obtain ⟨u156, hI⟩ := hI
    obtain ⟨u157, hI⟩ := hI
    obtain ⟨u158, hI⟩ := hI
    obtain ⟨u159, hI⟩ := hI
    obtain ⟨u160, hI⟩ := hI
    obtain ⟨u161, hI⟩ := hI
    obtain ⟨u162, hI⟩ := hI
    obtain ⟨u163, hI⟩ := hI
    obtain ⟨u164, hI⟩ := hI
    obtain ⟨u165, hI⟩ := hI
    obtain ⟨u166, hI⟩ := hI
    obtain ⟨u167, hI⟩ := hI
    obtain ⟨u168, hI⟩ := hI
    obtain ⟨u169, hI⟩ := hI
    obtain ⟨u170, hI⟩ := hI
    obtain ⟨u171, hI⟩ := hI
    obtain ⟨u172, hI⟩ := hI
    obtain ⟨u173, hI⟩ := hI
    obtain ⟨u174, hI⟩ := hI
    obtain ⟨u175, hI⟩ := hI
    obtain ⟨u176, hI⟩ := hI
    obtain ⟨u177, hI⟩ := hI
    obtain ⟨u178, hI⟩ := hI
    obtain ⟨u179, hI⟩ := hI
    obtain ⟨u180, hI⟩ := hI
    obtain ⟨u181, hI⟩ := hI
    obtain ⟨u182, hI⟩ := hI
    obtain ⟨u183, hI⟩ := hI
    obtain ⟨u184, hI⟩ := hI
    obtain ⟨u185, hI⟩ := hI
    obtain ⟨u186, hI⟩ := hI
    obtain ⟨u187, hI⟩ := hI
    obtain ⟨u188, hI⟩ := hI
    obtain ⟨u189, hI⟩ := hI
    obtain ⟨u190, hI⟩ := hI
    obtain ⟨u191, hI⟩ := hI
    obtain ⟨u192, hI⟩ := hI
    obtain ⟨u193, hI⟩ := hI
    obtain ⟨u194, hI⟩ := hI
    obtain ⟨u195, hI⟩ := hI
    obtain ⟨u196, hI⟩ := hI
    obtain ⟨u197, hI⟩ := hI
    obtain ⟨u198, hI⟩ := hI
    obtain ⟨u199, hI⟩ := hI
    obtain ⟨u200, hI⟩ := hI
    obtain ⟨u201, hI⟩ := hI
    obtain ⟨u202, hI⟩ := hI
    obtain ⟨u203, hI⟩ := hI
    obtain ⟨u204, hI⟩ := hI
    obtain ⟨u205, hI⟩ := hI
    obtain ⟨hrel, rfl⟩ := hI
    obtain ⟨j, hj, rfl, rfl, B⟩ := hrel
    by_cases hlj : j < ms.length
    · obtain ⟨q, hm⟩ : ∃ q, ms[j] = q := ⟨_, rfl⟩
      have hle := cnt_le (ms.take j) s
      have hle2 : (ms.take j).length ≤ ms.length := by rw [List.length_take]; omega
      obtain ⟨c, hc⟩ : ∃ c, c = cntM (ms.take j) s := ⟨_, rfl⟩
      rw [← hc]
      have hc9 : c ≤ 1000 := by have := HL9.out; omega
      cases g1 : (q.2.1 == s) with
      | true => exact ol1_y u6 u7 u8 u9 u12 u13 u15 u16 u19 u20 u21 u22 u23 u24 u25 u26 u27 u28 u29 u30 u31 u32 u33 u34 u35 u36 u37 u38 u39 u40 u41 u42 u43 u44 u45 u46 u47 u48 u49 u50 u51 u52 u53 u54 u55 u56 u57 u58 u59 u60 u61 u62 u63 u64 u65 u66 u67 u68 u69 u70 u71 u72 u73 u77 u78 u79 u80 u81 u82 u83 u84 u85 u86 u87 u88 u89 u90 u91 u92 u93 u94 u95 u96 u97 u98 u99 u100 u101 u102 u103 u104 u105 u106 u107 u108 u109 u110 u111 u112 u113 u114 u115 u116 u117 u118 u119 u120 u121 u122 u123 u124 u125 u126 u127 u128 u129 u130 u131 u132 u133 u134 u135 u136 u137 u138 u139 u140 u141 u142 u143 u144 u145 u146 u147 u148 u149 u150 u151 u152 u153 u154 u155 u156 u157 u158 u159 u160 u161 u162 u163 u164 u165 u166 u167 u168 u169 u170 u171 u172 u173 u174 u175 u176 u177 u178 u179 u180 u181 u182 u183 u184 u185 u186 u187 u188 u189 u190 u191 u192 u193 u194 u195 u196 u197 u198 u199 u200 u201 u202 u203 u204 u205 j c q B HN hM hlj hm hc hc9 g1 _
      | false => exact ol1_n u6 u7 u8 u9 u12 u13 u15 u16 u19 u20 u21 u22 u23 u24 u25 u26 u27 u28 u29 u30 u31 u32 u33 u34 u35 u36 u37 u38 u39 u40 u41 u42 u43 u44 u45 u46 u47 u48 u49 u50 u51 u52 u53 u54 u55 u56 u57 u58 u59 u60 u61 u62 u63 u64 u65 u66 u67 u68 u69 u70 u71 u72 u73 u77 u78 u79 u80 u81 u82 u83 u84 u85 u86 u87 u88 u89 u90 u91 u92 u93 u94 u95 u96 u97 u98 u99 u100 u101 u102 u103 u104 u105 u106 u107 u108 u109 u110 u111 u112 u113 u114 u115 u116 u117 u118 u119 u120 u121 u122 u123 u124 u125 u126 u127 u128 u129 u130 u131 u132 u133 u134 u135 u136 u137 u138 u139 u140 u141 u142 u143 u144 u145 u146 u147 u148 u149 u150 u151 u152 u153 u154 u155 u156 u157 u158 u159 u160 u161 u162 u163 u164 u165 u166 u167 u168 u169 u170 u171 u172 u173 u174 u175 u176 u177 u178 u179 u180 u181 u182 u183 u184 u185 u186 u187 u188 u189 u190 u191 u192 u193 u194 u195 u196 u197 u198 u199 u200 u201 u202 u203 u204 u205 j c q B HN hM hlj hm hc hc9 g1 _
    · have e : j = ms.length := by omega
      subst e
      have hjn : ¬ ((ms.length : Nat) : Int) < (n : Int) := by have := HN.out; omega
      rw [List.take_length]
      clear hj hlj
      rw [HC.out]
      clear G hp hs hi d1 d2 d3 d4
      go_upto_region 15 with fail
      have RT : Row 30 _ b5 (tc f g h (.slice a0 n cap)) := B.row 4 rfl
      have RM : Row 32 _ b14 (mc noM) := B.row 1 rfl
      refine wp_region_noPanic ?_
      refine wp_region_held_drew (S := fun W => Row 30 W b5 (tc f g h (.slice a0 n cap)) ∧ Row 32 W b14 (mc noM)) (by kernel_rfl) ⟨RT, RM⟩ (fun _ => ?_)
      refine wpAnyH_take (i := 0) (v := .agg (tc f g h (.slice a0 n cap))) rfl (by kernel_rfl) (by kernel_rfl) (by kernel_rfl) (fun _ _ _ h => h) (yields_loadR 30 (.tmp 5) rfl (by kernel_rfl) b5 (by kernel_rfl) (tc f g h (.slice a0 n cap)) (fun _ h => h.1) _ Try.underlying30 rfl (tc_info _ _ _ _)) ⟨RT, RM⟩ ?_
      simp only [Act.put, List.getElem_toArray, List.getElem_cons_succ, List.getElem_cons_zero, List.setIfInBounds_toArray, List.set_cons_zero, List.set_cons_succ]
      refine wpAnyH_take (i := 1) (v := .agg (mc noM)) rfl (by kernel_rfl) (by kernel_rfl) (by kernel_rfl) (fun _ _ _ h => h) (yields_loadR 32 (.tmp 14) rfl (by kernel_rfl) b14 (by kernel_rfl) (mc noM) (fun _ h => h.2) _ Try.underlying32 rfl (mc_info _)) ⟨RT, RM⟩ ?_
      simp only [Act.put, List.getElem_toArray, List.getElem_cons_succ, List.getElem_cons_zero, List.setIfInBounds_toArray, List.set_cons_zero, List.set_cons_succ]
      refine wpAnyH_ready (rs := [2]) (by kernel_rfl) (by simp) ?_
      refine AllReadyH.cons rfl (fun K hK => ?_) ?_
      · rw [if_pos (by kernel_rfl)]
        refine wp_storeR 30 (.tmp 10) (.tmp 89) rfl b10 (by kernel_rfl) (tc f g h (.slice a0 n cap)) (by kernel_rfl) _ (B.row 3 rfl) (tc_sz _ _ _ _ _ _ _ _) (tc_info _ _ _ _) (tc_one _ _ _ _ _ _) ?_; intro w9 R9 t9; (first | replace t9 := turned_undrG t9 | skip); replace B := B.turn 3 rfl R9 t9; clear R9 t9; replace RT := B.row 4 rfl; replace RM := B.row 1 rfl
        refine hK.out _ _ ⟨RT, RM⟩ (fun _ => ?_)
        clear hK K
        try simp only [Act.put, List.getElem_toArray, List.getElem_cons_succ, List.getElem_cons_zero, List.setIfInBounds_toArray, List.set_cons_zero, List.set_cons_succ]
        refine wpAnyH_ready (rs := [3]) (by kernel_rfl) (by simp) ?_
        refine AllReadyH.cons rfl (fun K hK => ?_) ?_
        · rw [if_pos (by kernel_rfl)]
          refine wp_storeR 32 (.tmp 11) (.tmp 90) rfl b11 (by kernel_rfl) (mc noM) (by kernel_rfl) _ (B.row 2 rfl) rfl (mc_info _) (mc_one _) ?_; intro w9 R9 t9; (first | replace t9 := turned_undrG t9 | skip); replace B := B.turn 2 rfl R9 t9; clear R9 t9; replace RT := B.row 4 rfl; replace RM := B.row 1 rfl
          refine hK.out _ _ ⟨RT, RM⟩ (fun _ => ?_)
          clear hK K
          try simp only [Act.put, List.getElem_toArray, List.getElem_cons_succ, List.getElem_cons_zero, List.setIfInBounds_toArray, List.set_cons_zero, List.set_cons_succ]
          refine wpAnyH_take (i := 4) (v := .bool false) rfl (by kernel_rfl) (by kernel_rfl) (by kernel_rfl) (fun _ _ _ h => h) (Or.inl ⟨by kernel_rfl, by intro w hS; go_simp⟩) ⟨RT, RM⟩ ?_
          simp only [Act.put, List.getElem_toArray, List.getElem_cons_succ, List.getElem_cons_zero, List.setIfInBounds_toArray, List.set_cons_zero, List.set_cons_succ]
          refine wpAnyH_take (i := 5) (v := .int .i64 6) rfl (by kernel_rfl) (by kernel_rfl) (by kernel_rfl) (fun _ _ _ h => h) (Or.inl ⟨by kernel_rfl, by intro w hS; go_simp⟩) ⟨RT, RM⟩ ?_
          simp only [Act.put, List.getElem_toArray, List.getElem_cons_succ, List.getElem_cons_zero, List.setIfInBounds_toArray, List.set_cons_zero, List.set_cons_succ]
          refine wpAnyH_done (by kernel_rfl) ?_ _
          refine NoPanic.normal ?_
          clear RT RM
          go_wp2_with fail
          ((try simp only [Exit.inBlock, Exit.then]); first | (refine bodyPost_ret (results_row22 (p := 10) (q := 11) (x := 12) (y := 13) rfl _ _ _ _ _ _ rfl rfl (B.row 3 rfl) (B.row 2 rfl) _ _ Try.underlying30 Try.underlying32 rfl rfl (tc_info _ _ _ _) (mc_info _)) rfl ⟨rfl, B.base⟩) | (replace B := B.drew; refine bodyPost_ret (results_row22 (p := 10) (q := 11) (x := 12) (y := 13) rfl _ _ _ _ _ _ rfl rfl (B.row 3 rfl) (B.row 2 rfl) _ _ Try.underlying30 Try.underlying32 rfl rfl (tc_info _ _ _ _) (mc_info _)) rfl ⟨rfl, B.base⟩))
        exact AllReadyH.nil
      exact AllReadyH.nil
end Go.Proofs.Ytmdijjbkjcnbpaa

namespace Go.Proofs.Ytmdijjbkjcnbpaa
open Go.ChangeShapes Go.WideShapes Go.ChangeAt Go.RowKit
set_option linter.unusedSimpArgs false
set_option linter.unusedVariables false

attribute [local irreducible] tc pc
set_option maxRecDepth 100000 in
set_option maxHeartbeats 8000000 in
theorem ol2_skip {w wr : World} {f : Nat → Int} {g : Nat → Bool} {h : Nat → Int} {ms : List Mp} {p s i d : Int} {b5 b10 b11 b14 b15 b21 aN : Nat} {a0 av : Option Addr} {n cap cv : Nat} (u6 u7 u8 u9 u12 u13 u15 u16 u17 u19 u20 u24 u25 u26 u27 u28 u29 u30 u31 u32 u33 u34 u35 u36 u37 u38 u39 u40 u41 u42 u43 u44 u45 u46 u47 u48 u49 u50 u51 u52 u53 u54 u55 u56 u57 u58 u59 u60 u61 u62 u63 u64 u65 u66 u67 u68 u69 u70 u71 u72 u73 u74 u75 u76 u77 u78 u79 u80 u81 u82 u83 u84 u85 u86 u87 u88 u89 u90 u91 u92 u93 u94 u95 u96 u97 u98 u99 u100 u101 u102 u103 u104 u105 u106 u107 u108 u109 u110 u111 u112 u113 u114 u115 u116 u117 u118 u119 u120 u121 u122 u123 u124 u125 u126 u127 u128 u129 u130 u131 u132 u133 u134 u135 u136 u137 u138 u139 u140 u141 u142 u143 u144 u145 u146 u147 u148 u149 u150 u151 u152 u153 u154 u155 u156 u157 u158 u159 u160 u161 u162 u163 u164 u165 u166 u167 u168 u169 u170 u171 u172 u173 u174 u175 u176 u177 u178 u179 u180 u181 u182 u183 u184 u185 u186 u187 u188 u189 u190 u191 u192 u193 u194 u195 u196 u197 u198 u199 u200 u201 u202 u203 u204 u205 : Value) (j c : Nat) (X : Int) (mx : Mp)
    (B : Bo w wr [(b21, 30, tc f g h (.slice av n cv)), (b15, 32, mc noM), (b14, 32, mc noM), (b11, 32, mc noM), (b10, 30, tc (fun _ => 0) (fun _ => false) (fun _ => 0) (.slice none 0 0)), (b5, 30, tc f g h (.slice a0 n cap))] (.slice av n cv) ms) (HN : Hid (n = ms.length)) (hM : MapsAt w (.slice a0 n cap) ms) (hj48 : j < 48) (ha3 : aN < 3) (hs : 0 ≤ s ∧ s < 8) (hc : c ≤ 48) (HX : Hid (f (6 * aN + j / 8) = X)) (cx : (X != s + 1) = true) (HH : Hid (hadN f s aN (j + 1) = c)) (HF : Hid ((List.range (j + 1)).find? (okQ f ms p s aN) = none)) (Q0 : Exit → Act → World → Prop) :
    Code.wp Try.prog bodyO2 (Exit.then (fun a' W => WO2 w f g h ms p s i d b5 b10 b11 b14 b15 a0 n cap b21 aN av cv a' W ∧ WO2mu a' W < WO2mu ⟨#[(.agg (tc f g h (.slice a0 n cap))), .int .i64 p, .int .i64 s, .int .i64 i, .int .i64 d, .pointer (some ⟨b5, 0, none⟩), u6, u7, u8, u9, .pointer (some ⟨b10, 0, none⟩), .pointer (some ⟨b11, 0, none⟩), u12, u13, .pointer (some ⟨b14, 0, none⟩), u15, u16, u17, .int .i64 (c : Int), u19, u20, .pointer (some ⟨b21, 0, none⟩), .int .i64 (aN : Int), .int .i64 (1024 + (j : Int)), u24, u25, u26, u27, u28, u29, u30, u31, u32, u33, u34, u35, u36, u37, u38, u39, u40, u41, u42, u43, u44, u45, u46, u47, u48, u49, u50, u51, u52, u53, u54, u55, u56, u57, u58, u59, u60, u61, u62, u63, u64, u65, u66, u67, u68, u69, u70, u71, u72, u73, u74, u75, u76, u77, u78, u79, u80, u81, u82, u83, u84, u85, u86, u87, u88, u89, u90, u91, u92, u93, u94, u95, u96, u97, u98, u99, u100, u101, u102, u103, u104, u105, u106, u107, u108, u109, u110, u111, u112, u113, u114, u115, u116, u117, u118, u119, u120, u121, u122, u123, u124, u125, u126, u127, u128, u129, u130, u131, u132, u133, u134, u135, u136, u137, u138, u139, u140, u141, u142, u143, u144, u145, u146, u147, u148, u149, u150, u151, u152, u153, u154, u155, u156, u157, u158, u159, u160, u161, u162, u163, u164, u165, u166, u167, u168, u169, u170, u171, u172, u173, u174, u175, u176, u177, u178, u179, u180, u181, u182, u183, u184, u185, u186, u187, u188, u189, u190, u191, u192, u193, u194, u195, u196, u197, u198, u199, u200, u201, u202, u203, u204, u205], []⟩ wr) Q0) ⟨#[(.agg (tc f g h (.slice a0 n cap))), .int .i64 p, .int .i64 s, .int .i64 i, .int .i64 d, .pointer (some ⟨b5, 0, none⟩), u6, u7, u8, u9, .pointer (some ⟨b10, 0, none⟩), .pointer (some ⟨b11, 0, none⟩), u12, u13, .pointer (some ⟨b14, 0, none⟩), u15, u16, u17, .int .i64 (c : Int), u19, u20, .pointer (some ⟨b21, 0, none⟩), .int .i64 (aN : Int), .int .i64 (1024 + (j : Int)), u24, u25, u26, u27, u28, u29, u30, u31, u32, u33, u34, u35, u36, u37, u38, u39, u40, u41, u42, u43, u44, u45, u46, u47, u48, u49, u50, u51, u52, u53, u54, u55, u56, u57, u58, u59, u60, u61, u62, u63, u64, u65, u66, u67, u68, u69, u70, u71, u72, u73, u74, u75, u76, u77, u78, u79, u80, u81, u82, u83, u84, u85, u86, u87, u88, u89, u90, u91, u92, u93, u94, u95, u96, u97, u98, u99, u100, u101, u102, u103, u104, u105, u106, u107, u108, u109, u110, u111, u112, u113, u114, u115, u116, u117, u118, u119, u120, u121, u122, u123, u124, u125, u126, u127, u128, u129, u130, u131, u132, u133, u134, u135, u136, u137, u138, u139, u140, u141, u142, u143, u144, u145, u146, u147, u148, u149, u150, u151, u152, u153, u154, u155, u156, u157, u158, u159, u160, u161, u162, u163, u164, u165, u166, u167, u168, u169, u170, u171, u172, u173, u174, u175, u176, u177, u178, u179, u180, u181, u182, u183, u184, u185, u186, u187, u188, u189, u190, u191, u192, u193, u194, u195, u196, u197, u198, u199, u200, u201, u202, u203, u204, u205], []⟩ wr := by
  conv => arg 2; whnf
  have hlt := hM.lt
  have hp1 : (1024 + (j : Int)) < 1072 := by omega
  have ha0 : (0 : Int) ≤ (aN : Int) := by omega
  have hjw : wrap64 (1024 + (j : Int) + 1) = 1024 + (j : Int) + 1 := by unfold wrap64; omega
  have hlw : wrap64 ((c : Int) + 1) = (c : Int) + 1 := by unfold wrap64; omega
  have hsw : wrap64 (s + 1) = s + 1 := by unfold wrap64; omega
  have CB := fun w => blockOf_at j hj48 w
  have H18 : Hid (6 * aN + j / 8 < 18) := hidB (by omega)
  have HJ : Hid (j + 1 ≤ 48) := hidB (by omega)
  have I3 := fun b w => ix3 b 0 aN ha3 w
  have I6 := fun b w => ix6 b (6 * aN) (j / 8) (by omega) w
  simp only [Nat.zero_add] at I3
  clear hc hs ha3
  go_wp2_with (first | (go_at_call 13; go_fit (CB _); rintro e w6 ⟨rfl, hw⟩; rw [hw]; clear hw w6) | ((with_reducible refine at_opB (.load 3 (.tmp 117)) rfl ?_); refine wpList_loadF (B.row 5 rfl) _ rfl (by kernel_rfl) (6 * aN + j / 8) rfl (X) (by rw [tc_own _ _ _ _ _ H18.out, HX.out]) ?_))
  (refine ⟨?_, ?measure⟩; unfold WO2; (repeat apply Exists.intro); refine ⟨?rel, rfl⟩)
  case rel => exact ⟨j + 1, HJ.out, (by first | exact castP j | exact castPW hjw), (by first | (rw [HH.out]; done) | (rw [HH.out]; exact castB c) | (rw [HH.out]; exact castBW hlw)), HF.out, B⟩
  case measure => unfold WO2mu; (first | rw [hjw] | skip); exact meas_port hj48
end Go.Proofs.Ytmdijjbkjcnbpaa
