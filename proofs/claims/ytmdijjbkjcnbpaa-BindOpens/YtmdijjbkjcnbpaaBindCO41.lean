/-
  Of what BindCloses, BindOpens stands on: part 41.
-/
import Derived.Test.YtmdijjbkjcnbpaaBindCO36
import Derived.Test.YtmdijjbkjcnbpaaBindCO37
import Derived.Test.YtmdijjbkjcnbpaaBindCO38
import Derived.Test.YtmdijjbkjcnbpaaBindCO39
import Derived.Test.YtmdijjbkjcnbpaaBindCO40
namespace Go.Proofs.Ytmdijjbkjcnbpaa
open Go.ChangeShapes Go.WideShapes Go.ChangeAt Go.RowKit
set_option linter.unusedSimpArgs false
set_option linter.unusedVariables false

attribute [local irreducible] tc pc
set_option maxRecDepth 100000 in
set_option maxHeartbeats 8000000 in
theorem openr_home (f : Nat → Int) (g : Nat → Bool) (h : Nat → Int) (sl : Value) (ms : List Mp) (p s i d : Int) (hwH : wfH h) (hno : NilOk sl) (hd : (Lit.int .i64 d).wf = true) (hP : openP f h ms p s i) (hf : ms.find? (inS p s i) = none) (hc : cntM ms s ≠ 12) (aN : Nat) (hh0 : h s.toNat = (aN : Int) + 1) (w : World) (hM : MapsAt w sl ms) :
    Calls Try.prog 18 #[.agg (tc f g h sl), .int .i64 p, .int .i64 s, .int .i64 i, .int .i64 d] w fun e w' => roomTo w f g h sl ms p s i (roomR f g h ms p s d) w' e ∧ Below w.heap.size w w' := by
  have B := Bd.start w
  have hM0 := hM
  obtain ⟨a0, cap, hsl, -⟩ := hM0
  obtain ⟨n, hn⟩ : ∃ n, n = ms.length := ⟨_, rfl⟩
  have HN : Hid (n = ms.length) := hn
  rw [← hn] at hsl
  subst hsl
  clear hn
  have hlt := hM.lt
  have CG := fun w hM => goodTable_ref f g h (.slice a0 n cap) ms hwH w hM
  have CI := fun w => isProto_ref p w
  obtain ⟨G, hp, hs, hi⟩ := hP
  have HG : Hid (GoodT f h ms) := G
  rw [hp] at CI
  have d1 : decide (s < 0) = false := decide_eq_false (by omega)
  have d2 : decide (7 < s) = false := decide_eq_false (by omega)
  have d3 : decide (i < 0) = false := decide_eq_false (by omega)
  have d4 : decide (65535 < i) = false := decide_eq_false (by omega)
  have CF := fun w hM => findMap_ref f g h (.slice a0 n cap) ms p s i w hM
  rw [hf] at CF
  unfold foundS at CF
  have hl9 : ms.length ≤ 1000 := Nat.le_trans G.len (by decide)
  have HL9 : Hid (ms.length ≤ 1000) := hl9
  clear hf
  obtain ⟨sN, hsN⟩ : ∃ sN : Nat, s = (sN : Int) := ⟨s.toNat, by omega⟩
  subst hsN
  have HS8 : Hid (sN < 8) := hidB (by omega)
  have I8 := fun b w => ix8 b 21 sN HS8.out w
  have HHD : Hid ((Lit.int .i64 d).wf = true) := hd
  have HNO : Hid (NilOk (.slice a0 n cap)) := hno
  have hcc : (((cntM ms (sN : Int) : Nat) : Int) == 12) = false := by simp; omega
  clear hno hd
  have ha3 : aN < 3 := by have := G.homeIn hs; omega
  have HH0 : Hid (h (sN : Int).toNat = (aN : Int) + 1) := hh0
  have HHS : Hid (h sN = (aN : Int) + 1) := hidB (by simpa using hh0)
  have CC := fun w hM => copyTable_own f g h (.slice a0 n cap) ms HNO.out (by have := HL9.out; omega) w hM
  obtain ⟨i0, hi0, hz0, hz1, hz2⟩ := info_parts info_map
  have hm1 : wrap64 ((aN : Int) + 1 - 1) = (aN : Int) := by unfold wrap64; omega
  have hm2 : (aN : Int) + 1 - 1 = (aN : Int) := by omega
  clear hh0
  go_enter Try.func18, Try.ntmps18
  go_wp2_with (first | ((with_reducible refine at_opB (.box 30 (.tmp 0)) rfl ?_); refine wpList_boxR 30 rfl (.tmp 0) rfl _ rfl ?_; intro b5 w9 l9 R9 h9; replace B := B.alloc l9 R9 h9; clear R9 h9 l9) | ((with_reducible refine at_opB (.alloc 30) rfl ?_); refine wpList_allocX 10 30 rfl rfl rfl _ table_zero ?_; intro b10 w9 l9 R9 h9; replace B := B.alloc l9 R9 h9; clear R9 h9 l9) | ((with_reducible refine at_opB (.alloc 32) rfl ?_); refine wpList_allocX 11 32 rfl rfl rfl _ map_zero ?_; intro b11 w9 l9 R9 h9; replace B := B.alloc l9 R9 h9; clear R9 h9 l9) | ((with_reducible refine at_opB (.build 32 #[]) rfl ?_); refine wpList_buildM0 rfl rfl ?_) | ((with_reducible refine at_opB (.alloc 32) rfl ?_); refine wpList_allocX 14 32 rfl rfl rfl _ map_zero ?_; intro b14 w9 l9 R9 h9; replace B := B.alloc l9 R9 h9; clear R9 h9 l9) | ((with_reducible refine at_opB (.store 32 (.tmp 14) (.tmp 35)) rfl ?_); refine wpList_storeR 32 rfl (.tmp 14) _ rfl b14 rfl (mc noM) rfl _ (B.row 0 rfl) rfl (mc_info _) (mc_one _) ?_; intro w9 R9 t9; replace B := B.turn 0 rfl R9 t9; clear R9 t9) | ((with_reducible refine at_opB (.load 30 (.tmp 5)) rfl ?_); refine wpList_loadR 30 (.tmp 5) rfl (by kernel_rfl) b5 rfl (tc f g h (.slice a0 n cap)) (B.row 3 rfl) _ Try.underlying30 rfl (tc_info _ _ _ _) ?_) | (go_at_call 15; go_fit (CG _ (hM.keep B.base hlt)); rintro e w5 ⟨r, hr, rfl, hb5⟩; obtain rfl : r = true := (hr.2 HG.out); clear hr; replace B := B.below hb5; clear hb5) | (go_at_call 36; go_fit (CI _); rintro e w' ⟨rfl, hw⟩; rw [hw]; clear hw w') | (go_at_call 9; go_fit (CF _ (hM.keep B.base hlt)); rintro e w5 ⟨rfl, hb5⟩; replace B := B.below hb5; clear hb5) | ((with_reducible refine at_opB (.alloc 32) rfl ?_); refine wpList_allocX 15 32 rfl rfl rfl _ map_zero ?_; intro b15 w9 l9 R9 h9; replace B := B.alloc l9 R9 h9; clear R9 h9 l9) | ((with_reducible refine at_opB (.store 32 (.tmp 15) (.tmp 68)) rfl ?_); refine wpList_storeR 32 rfl (.tmp 15) _ rfl b15 rfl (mc noM) rfl _ (B.row 0 rfl) rfl (mc_info _) (mc_one _) ?_; intro w9 R9 t9; replace B := B.turn 0 rfl R9 t9; clear R9 t9; have cM : World.cell? _ ⟨b5, 29, none⟩ = some (.slice a0 n cap) := ((B.row 4 rfl).cell 29).trans (tc_maps _ _ _ _)))
  clear cM CI CF
  refine wp_loop (WO1 w f g h ms p (sN : Int) i d b5 b10 b11 b14 b15 a0 n cap) (WO1mu n) ?_ ?_
  · unfold WO1
    (repeat apply Exists.intro)
    refine ⟨?_, rfl⟩
    exact ⟨0, by omega, rfl, rfl, B⟩
  · clear B
    intro a W hI
    unfold WO1 at hI
    obtain ⟨u6, hI⟩ := hI
    obtain ⟨u7, hI⟩ := hI
    obtain ⟨u8, hI⟩ := hI
    obtain ⟨u9, hI⟩ := hI
    obtain ⟨u12, hI⟩ := hI
    obtain ⟨u13, hI⟩ := hI
    obtain ⟨u15, hI⟩ := hI
    obtain ⟨u16, hI⟩ := hI
    obtain ⟨u17, hI⟩ := hI
    obtain ⟨u19, hI⟩ := hI
    obtain ⟨u20, hI⟩ := hI
    obtain ⟨u21, hI⟩ := hI
    obtain ⟨u22, hI⟩ := hI
    obtain ⟨u23, hI⟩ := hI
    obtain ⟨u24, hI⟩ := hI
    obtain ⟨u25, hI⟩ := hI
    obtain ⟨u26, hI⟩ := hI
    obtain ⟨u27, hI⟩ := hI
    obtain ⟨u28, hI⟩ := hI
    obtain ⟨u29, hI⟩ := hI
    obtain ⟨u30, hI⟩ := hI
    obtain ⟨u31, hI⟩ := hI
    obtain ⟨u32, hI⟩ := hI
    obtain ⟨u33, hI⟩ := hI
    obtain ⟨u34, hI⟩ := hI
    obtain ⟨u35, hI⟩ := hI
    obtain ⟨u36, hI⟩ := hI
    obtain ⟨u37, hI⟩ := hI
    obtain ⟨u38, hI⟩ := hI
    obtain ⟨u39, hI⟩ := hI
    obtain ⟨u40, hI⟩ := hI
    obtain ⟨u41, hI⟩ := hI
    obtain ⟨u42, hI⟩ := hI
    obtain ⟨u43, hI⟩ := hI
    obtain ⟨u44, hI⟩ := hI
    obtain ⟨u45, hI⟩ := hI
    obtain ⟨u46, hI⟩ := hI
    obtain ⟨u47, hI⟩ := hI
    obtain ⟨u48, hI⟩ := hI
    obtain ⟨u49, hI⟩ := hI
    obtain ⟨u50, hI⟩ := hI
    obtain ⟨u51, hI⟩ := hI
    obtain ⟨u52, hI⟩ := hI
    obtain ⟨u53, hI⟩ := hI
    obtain ⟨u54, hI⟩ := hI
    obtain ⟨u55, hI⟩ := hI
    obtain ⟨u56, hI⟩ := hI
    obtain ⟨u57, hI⟩ := hI
    obtain ⟨u58, hI⟩ := hI
    obtain ⟨u59, hI⟩ := hI
    obtain ⟨u60, hI⟩ := hI
    obtain ⟨u61, hI⟩ := hI
    obtain ⟨u62, hI⟩ := hI
    obtain ⟨u63, hI⟩ := hI
    obtain ⟨u64, hI⟩ := hI
    obtain ⟨u65, hI⟩ := hI
    obtain ⟨u66, hI⟩ := hI
    obtain ⟨u67, hI⟩ := hI
    obtain ⟨u68, hI⟩ := hI
    obtain ⟨u69, hI⟩ := hI
    obtain ⟨u70, hI⟩ := hI
    obtain ⟨u71, hI⟩ := hI
    obtain ⟨u72, hI⟩ := hI
    obtain ⟨u73, hI⟩ := hI
    obtain ⟨u76, hI⟩ := hI
    obtain ⟨u77, hI⟩ := hI
    obtain ⟨u78, hI⟩ := hI
    obtain ⟨u79, hI⟩ := hI
    obtain ⟨u80, hI⟩ := hI
    obtain ⟨u81, hI⟩ := hI
    obtain ⟨u82, hI⟩ := hI
    obtain ⟨u83, hI⟩ := hI
    obtain ⟨u84, hI⟩ := hI
    obtain ⟨u85, hI⟩ := hI
    obtain ⟨u86, hI⟩ := hI
    obtain ⟨u87, hI⟩ := hI
    obtain ⟨u88, hI⟩ := hI
    obtain ⟨u89, hI⟩ := hI
    obtain ⟨u90, hI⟩ := hI
    obtain ⟨u91, hI⟩ := hI
    obtain ⟨u92, hI⟩ := hI
    obtain ⟨u93, hI⟩ := hI
    obtain ⟨u94, hI⟩ := hI
    obtain ⟨u95, hI⟩ := hI
    obtain ⟨u96, hI⟩ := hI
    obtain ⟨u97, hI⟩ := hI
    obtain ⟨u98, hI⟩ := hI
    obtain ⟨u99, hI⟩ := hI
    obtain ⟨u100, hI⟩ := hI
    obtain ⟨u101, hI⟩ := hI
    obtain ⟨u102, hI⟩ := hI
    obtain ⟨u103, hI⟩ := hI
    obtain ⟨u104, hI⟩ := hI
    obtain ⟨u105, hI⟩ := hI
    obtain ⟨u106, hI⟩ := hI
    obtain ⟨u107, hI⟩ := hI
    obtain ⟨u108, hI⟩ := hI
    obtain ⟨u109, hI⟩ := hI
    obtain ⟨u110, hI⟩ := hI
    obtain ⟨u111, hI⟩ := hI
    obtain ⟨u112, hI⟩ := hI
    obtain ⟨u113, hI⟩ := hI
    obtain ⟨u114, hI⟩ := hI
    obtain ⟨u115, hI⟩ := hI
    obtain ⟨u116, hI⟩ := hI
    obtain ⟨u117, hI⟩ := hI
    obtain ⟨u118, hI⟩ := hI
    obtain ⟨u119, hI⟩ := hI
    obtain ⟨u120, hI⟩ := hI
    obtain ⟨u121, hI⟩ := hI
    obtain ⟨u122, hI⟩ := hI
    obtain ⟨u123, hI⟩ := hI
    obtain ⟨u124, hI⟩ := hI
    obtain ⟨u125, hI⟩ := hI
    obtain ⟨u126, hI⟩ := hI
    obtain ⟨u127, hI⟩ := hI
    obtain ⟨u128, hI⟩ := hI
    obtain ⟨u129, hI⟩ := hI
    obtain ⟨u130, hI⟩ := hI
    obtain ⟨u131, hI⟩ := hI
    obtain ⟨u132, hI⟩ := hI
    obtain ⟨u133, hI⟩ := hI
    obtain ⟨u134, hI⟩ := hI
    obtain ⟨u135, hI⟩ := hI
    obtain ⟨u136, hI⟩ := hI
    obtain ⟨u137, hI⟩ := hI
    obtain ⟨u138, hI⟩ := hI
    obtain ⟨u139, hI⟩ := hI
    obtain ⟨u140, hI⟩ := hI
    obtain ⟨u141, hI⟩ := hI
    obtain ⟨u142, hI⟩ := hI
    obtain ⟨u143, hI⟩ := hI
    obtain ⟨u144, hI⟩ := hI
    obtain ⟨u145, hI⟩ := hI
    obtain ⟨u146, hI⟩ := hI
    obtain ⟨u147, hI⟩ := hI
    obtain ⟨u148, hI⟩ := hI
    obtain ⟨u149, hI⟩ := hI
    obtain ⟨u150, hI⟩ := hI
    obtain ⟨u151, hI⟩ := hI
    obtain ⟨u152, hI⟩ := hI
    obtain ⟨u153, hI⟩ := hI
    obtain ⟨u154, hI⟩ := hI
    obtain ⟨u155, hI⟩ := hI
    obtain ⟨u156, hI⟩ := hI
    obtain ⟨u157, hI⟩ := hI
    obtain ⟨u158, hI⟩ := hI
    obtain ⟨u159, hI⟩ := hI
    obtain ⟨u160, hI⟩ := hI
    obtain ⟨u161, hI⟩ := hI
    obtain ⟨u162, hI⟩ := hI
    obtain ⟨u163, hI⟩ := hI
    obtain ⟨u164, hI⟩ := hI
    obtain ⟨u165, hI⟩ := hI
    obtain ⟨u166, hI⟩ := hI
    obtain ⟨u167, hI⟩ := hI
    obtain ⟨u168, hI⟩ := hI
    obtain ⟨u169, hI⟩ := hI
    obtain ⟨u170, hI⟩ := hI
    obtain ⟨u171, hI⟩ := hI
    obtain ⟨u172, hI⟩ := hI
    obtain ⟨u173, hI⟩ := hI
    obtain ⟨u174, hI⟩ := hI
    obtain ⟨u175, hI⟩ := hI
    obtain ⟨u176, hI⟩ := hI
    obtain ⟨u177, hI⟩ := hI
    obtain ⟨u178, hI⟩ := hI
    obtain ⟨u179, hI⟩ := hI
    obtain ⟨u180, hI⟩ := hI
    obtain ⟨u181, hI⟩ := hI
    obtain ⟨u182, hI⟩ := hI
    obtain ⟨u183, hI⟩ := hI
    obtain ⟨u184, hI⟩ := hI
    obtain ⟨u185, hI⟩ := hI
    obtain ⟨u186, hI⟩ := hI
    obtain ⟨u187, hI⟩ := hI
    obtain ⟨u188, hI⟩ := hI
    obtain ⟨u189, hI⟩ := hI
    obtain ⟨u190, hI⟩ := hI
    obtain ⟨u191, hI⟩ := hI
    obtain ⟨u192, hI⟩ := hI
    obtain ⟨u193, hI⟩ := hI
    obtain ⟨u194, hI⟩ := hI
    obtain ⟨u195, hI⟩ := hI
    obtain ⟨u196, hI⟩ := hI
    obtain ⟨u197, hI⟩ := hI
    obtain ⟨u198, hI⟩ := hI
    obtain ⟨u199, hI⟩ := hI
    obtain ⟨u200, hI⟩ := hI
    obtain ⟨u201, hI⟩ := hI
    obtain ⟨u202, hI⟩ := hI
    obtain ⟨u203, hI⟩ := hI
    obtain ⟨u204, hI⟩ := hI
    obtain ⟨u205, hI⟩ := hI
    obtain ⟨hrel, rfl⟩ := hI
    obtain ⟨j, hj, rfl, rfl, B⟩ := hrel
    by_cases hlj : j < ms.length
    · obtain ⟨q, hm⟩ : ∃ q, ms[j] = q := ⟨_, rfl⟩
      have hle := cnt_le (ms.take j) (sN : Int)
      have hle2 : (ms.take j).length ≤ ms.length := by rw [List.length_take]; omega
      obtain ⟨c, hc⟩ : ∃ c, c = cntM (ms.take j) (sN : Int) := ⟨_, rfl⟩
      rw [← hc]
      have hc9 : c ≤ 1000 := by have := HL9.out; omega
      cases g1 : (q.2.1 == (sN : Int)) with
      | true => exact ol1_y u6 u7 u8 u9 u12 u13 u15 u16 u19 u20 u21 u22 u23 u24 u25 u26 u27 u28 u29 u30 u31 u32 u33 u34 u35 u36 u37 u38 u39 u40 u41 u42 u43 u44 u45 u46 u47 u48 u49 u50 u51 u52 u53 u54 u55 u56 u57 u58 u59 u60 u61 u62 u63 u64 u65 u66 u67 u68 u69 u70 u71 u72 u73 u77 u78 u79 u80 u81 u82 u83 u84 u85 u86 u87 u88 u89 u90 u91 u92 u93 u94 u95 u96 u97 u98 u99 u100 u101 u102 u103 u104 u105 u106 u107 u108 u109 u110 u111 u112 u113 u114 u115 u116 u117 u118 u119 u120 u121 u122 u123 u124 u125 u126 u127 u128 u129 u130 u131 u132 u133 u134 u135 u136 u137 u138 u139 u140 u141 u142 u143 u144 u145 u146 u147 u148 u149 u150 u151 u152 u153 u154 u155 u156 u157 u158 u159 u160 u161 u162 u163 u164 u165 u166 u167 u168 u169 u170 u171 u172 u173 u174 u175 u176 u177 u178 u179 u180 u181 u182 u183 u184 u185 u186 u187 u188 u189 u190 u191 u192 u193 u194 u195 u196 u197 u198 u199 u200 u201 u202 u203 u204 u205 j c q B HN hM hlj hm hc hc9 g1 _
      | false => exact ol1_n u6 u7 u8 u9 u12 u13 u15 u16 u19 u20 u21 u22 u23 u24 u25 u26 u27 u28 u29 u30 u31 u32 u33 u34 u35 u36 u37 u38 u39 u40 u41 u42 u43 u44 u45 u46 u47 u48 u49 u50 u51 u52 u53 u54 u55 u56 u57 u58 u59 u60 u61 u62 u63 u64 u65 u66 u67 u68 u69 u70 u71 u72 u73 u77 u78 u79 u80 u81 u82 u83 u84 u85 u86 u87 u88 u89 u90 u91 u92 u93 u94 u95 u96 u97 u98 u99 u100 u101 u102 u103 u104 u105 u106 u107 u108 u109 u110 u111 u112 u113 u114 u115 u116 u117 u118 u119 u120 u121 u122 u123 u124 u125 u126 u127 u128 u129 u130 u131 u132 u133 u134 u135 u136 u137 u138 u139 u140 u141 u142 u143 u144 u145 u146 u147 u148 u149 u150 u151 u152 u153 u154 u155 u156 u157 u158 u159 u160 u161 u162 u163 u164 u165 u166 u167 u168 u169 u170 u171 u172 u173 u174 u175 u176 u177 u178 u179 u180 u181 u182 u183 u184 u185 u186 u187 u188 u189 u190 u191 u192 u193 u194 u195 u196 u197 u198 u199 u200 u201 u202 u203 u204 u205 j c q B HN hM hlj hm hc hc9 g1 _
    · have e : j = ms.length := by omega
      subst e
      have hjn : ¬ ((ms.length : Nat) : Int) < (n : Int) := by have := HN.out; omega
      rw [List.take_length]
      clear hj hlj
      clear hp hi d1 d2 d3 d4
      go_wp2_with (first | ((with_reducible refine at_opB (.load 30 (.tmp 5)) rfl ?_); refine wpList_loadR 30 (.tmp 5) rfl (by kernel_rfl) b5 rfl (tc f g h (.slice a0 n cap)) (B.row 4 rfl) _ Try.underlying30 rfl (tc_info _ _ _ _) ?_) | (go_at_call 8; go_fit (CC _ (hM.keep B.base hlt)); rintro e w5 ⟨v5, rfl, hown5, hb5⟩; clear CC; (obtain ⟨av, cv, hv5⟩ := row_slice2 hown5); rw [← HN.out] at hv5; subst hv5; replace B := B.ownNew hown5 hb5; clear hown5 hb5) | ((with_reducible refine at_opB (.alloc 30) rfl ?_); refine wpList_allocX 21 30 rfl rfl rfl _ table_zero ?_; intro b21 w9 l9 R9 h9; replace B := B.alloc l9 R9 h9; clear R9 h9 l9) | ((with_reducible refine at_opB (.store 30 (.tmp 21) (.tmp 92)) rfl ?_); refine wpList_storeR 30 rfl (.tmp 21) _ rfl b21 rfl (tc f g h (.slice av n cv)) rfl _ (B.row 0 rfl) (tc_sz _ _ _ _ _ _ _ _) (tc_info _ _ _ _) (tc_one _ _ _ _ _ _) ?_; intro w9 R9 t9; replace B := B.turn 0 rfl R9 t9; clear R9 t9) | ((with_reducible refine at_opB (.load 3 (.tmp 95)) rfl ?_); refine wpList_loadF (B.row 5 rfl) _ rfl (by kernel_rfl) (21 + sN) rfl ((aN : Int) + 1) (by rw [tc_home _ _ _ _ _ HS8.out]; exact congrArg (fun z => some (Value.int .i64 z)) HHS.out) ?_))
      refine wp_loop (WO2 w f g h ms p (sN : Int) i d b5 b10 b11 b14 b15 a0 n cap b21 aN av cv) WO2mu ?_ ?_
      · unfold WO2
        (repeat apply Exists.intro)
        refine ⟨?_, rfl⟩
        exact ⟨0, by omega, rfl, rfl, rfl, B⟩
      · clear B
        intro a W hI
        unfold WO2 at hI
        obtain ⟨u6, hI⟩ := hI
        obtain ⟨u7, hI⟩ := hI
        obtain ⟨u8, hI⟩ := hI
        obtain ⟨u9, hI⟩ := hI
        obtain ⟨u12, hI⟩ := hI
        obtain ⟨u13, hI⟩ := hI
        obtain ⟨u15, hI⟩ := hI
        obtain ⟨u16, hI⟩ := hI
        obtain ⟨u17, hI⟩ := hI
        obtain ⟨u18, hI⟩ := hI
        obtain ⟨u19, hI⟩ := hI
        obtain ⟨u20, hI⟩ := hI
        obtain ⟨u23, hI⟩ := hI
        obtain ⟨u24, hI⟩ := hI
        obtain ⟨u25, hI⟩ := hI
        obtain ⟨u26, hI⟩ := hI
        obtain ⟨u27, hI⟩ := hI
        obtain ⟨u28, hI⟩ := hI
        obtain ⟨u29, hI⟩ := hI
        obtain ⟨u30, hI⟩ := hI
        obtain ⟨u31, hI⟩ := hI
        obtain ⟨u32, hI⟩ := hI
        obtain ⟨u33, hI⟩ := hI
        obtain ⟨u34, hI⟩ := hI
        obtain ⟨u35, hI⟩ := hI
        obtain ⟨u36, hI⟩ := hI
        obtain ⟨u37, hI⟩ := hI
        obtain ⟨u38, hI⟩ := hI
        obtain ⟨u39, hI⟩ := hI
        obtain ⟨u40, hI⟩ := hI
        obtain ⟨u41, hI⟩ := hI
        obtain ⟨u42, hI⟩ := hI
        obtain ⟨u43, hI⟩ := hI
        obtain ⟨u44, hI⟩ := hI
        obtain ⟨u45, hI⟩ := hI
        obtain ⟨u46, hI⟩ := hI
        obtain ⟨u47, hI⟩ := hI
        obtain ⟨u48, hI⟩ := hI
        obtain ⟨u49, hI⟩ := hI
        obtain ⟨u50, hI⟩ := hI
        obtain ⟨u51, hI⟩ := hI
        obtain ⟨u52, hI⟩ := hI
        obtain ⟨u53, hI⟩ := hI
        obtain ⟨u54, hI⟩ := hI
        obtain ⟨u55, hI⟩ := hI
        obtain ⟨u56, hI⟩ := hI
        obtain ⟨u57, hI⟩ := hI
        obtain ⟨u58, hI⟩ := hI
        obtain ⟨u59, hI⟩ := hI
        obtain ⟨u60, hI⟩ := hI
        obtain ⟨u61, hI⟩ := hI
        obtain ⟨u62, hI⟩ := hI
        obtain ⟨u63, hI⟩ := hI
        obtain ⟨u64, hI⟩ := hI
        obtain ⟨u65, hI⟩ := hI
        obtain ⟨u66, hI⟩ := hI
        obtain ⟨u67, hI⟩ := hI
        obtain ⟨u68, hI⟩ := hI
        obtain ⟨u69, hI⟩ := hI
        obtain ⟨u70, hI⟩ := hI
        obtain ⟨u71, hI⟩ := hI
        obtain ⟨u72, hI⟩ := hI
        obtain ⟨u73, hI⟩ := hI
        obtain ⟨u74, hI⟩ := hI
        obtain ⟨u75, hI⟩ := hI
        obtain ⟨u76, hI⟩ := hI
        obtain ⟨u77, hI⟩ := hI
        obtain ⟨u78, hI⟩ := hI
        obtain ⟨u79, hI⟩ := hI
        obtain ⟨u80, hI⟩ := hI
        obtain ⟨u81, hI⟩ := hI
        obtain ⟨u82, hI⟩ := hI
        obtain ⟨u83, hI⟩ := hI
        obtain ⟨u84, hI⟩ := hI
        obtain ⟨u85, hI⟩ := hI
        obtain ⟨u86, hI⟩ := hI
        obtain ⟨u87, hI⟩ := hI
        obtain ⟨u88, hI⟩ := hI
        obtain ⟨u89, hI⟩ := hI
        obtain ⟨u90, hI⟩ := hI
        obtain ⟨u91, hI⟩ := hI
        obtain ⟨u92, hI⟩ := hI
        obtain ⟨u93, hI⟩ := hI
        obtain ⟨u94, hI⟩ := hI
        obtain ⟨u95, hI⟩ := hI
        obtain ⟨u96, hI⟩ := hI
        obtain ⟨u97, hI⟩ := hI
        obtain ⟨u98, hI⟩ := hI
        obtain ⟨u99, hI⟩ := hI
        obtain ⟨u100, hI⟩ := hI
        obtain ⟨u101, hI⟩ := hI
        obtain ⟨u102, hI⟩ := hI
        obtain ⟨u103, hI⟩ := hI
        obtain ⟨u104, hI⟩ := hI
        obtain ⟨u105, hI⟩ := hI
        obtain ⟨u106, hI⟩ := hI
        obtain ⟨u107, hI⟩ := hI
        obtain ⟨u108, hI⟩ := hI
        obtain ⟨u109, hI⟩ := hI
        obtain ⟨u110, hI⟩ := hI
        obtain ⟨u111, hI⟩ := hI
        obtain ⟨u112, hI⟩ := hI
        obtain ⟨u113, hI⟩ := hI
        obtain ⟨u114, hI⟩ := hI
        obtain ⟨u115, hI⟩ := hI
        obtain ⟨u116, hI⟩ := hI
        obtain ⟨u117, hI⟩ := hI
        obtain ⟨u118, hI⟩ := hI
        obtain ⟨u119, hI⟩ := hI
        obtain ⟨u120, hI⟩ := hI
        obtain ⟨u121, hI⟩ := hI
        obtain ⟨u122, hI⟩ := hI
        obtain ⟨u123, hI⟩ := hI
        obtain ⟨u124, hI⟩ := hI
        obtain ⟨u125, hI⟩ := hI
        obtain ⟨u126, hI⟩ := hI
        obtain ⟨u127, hI⟩ := hI
        obtain ⟨u128, hI⟩ := hI
        obtain ⟨u129, hI⟩ := hI
        obtain ⟨u130, hI⟩ := hI
        obtain ⟨u131, hI⟩ := hI
        obtain ⟨u132, hI⟩ := hI
        obtain ⟨u133, hI⟩ := hI
        obtain ⟨u134, hI⟩ := hI
        obtain ⟨u135, hI⟩ := hI
        obtain ⟨u136, hI⟩ := hI
        obtain ⟨u137, hI⟩ := hI
        obtain ⟨u138, hI⟩ := hI
        obtain ⟨u139, hI⟩ := hI
        obtain ⟨u140, hI⟩ := hI
        obtain ⟨u141, hI⟩ := hI
        obtain ⟨u142, hI⟩ := hI
        obtain ⟨u143, hI⟩ := hI
        obtain ⟨u144, hI⟩ := hI
        obtain ⟨u145, hI⟩ := hI
        obtain ⟨u146, hI⟩ := hI
        obtain ⟨u147, hI⟩ := hI
        obtain ⟨u148, hI⟩ := hI
        obtain ⟨u149, hI⟩ := hI
        obtain ⟨u150, hI⟩ := hI
        obtain ⟨u151, hI⟩ := hI
        obtain ⟨u152, hI⟩ := hI
        obtain ⟨u153, hI⟩ := hI
        obtain ⟨u154, hI⟩ := hI
        obtain ⟨u155, hI⟩ := hI
        obtain ⟨u156, hI⟩ := hI
        obtain ⟨u157, hI⟩ := hI
        obtain ⟨u158, hI⟩ := hI
        obtain ⟨u159, hI⟩ := hI
        obtain ⟨u160, hI⟩ := hI
        obtain ⟨u161, hI⟩ := hI
        obtain ⟨u162, hI⟩ := hI
        obtain ⟨u163, hI⟩ := hI
        obtain ⟨u164, hI⟩ := hI
        obtain ⟨u165, hI⟩ := hI
        obtain ⟨u166, hI⟩ := hI
        obtain ⟨u167, hI⟩ := hI
        obtain ⟨u168, hI⟩ := hI
        obtain ⟨u169, hI⟩ := hI
        obtain ⟨u170, hI⟩ := hI
        obtain ⟨u171, hI⟩ := hI
        obtain ⟨u172, hI⟩ := hI
        obtain ⟨u173, hI⟩ := hI
        obtain ⟨u174, hI⟩ := hI
        obtain ⟨u175, hI⟩ := hI
        obtain ⟨u176, hI⟩ := hI
        obtain ⟨u177, hI⟩ := hI
        obtain ⟨u178, hI⟩ := hI
        obtain ⟨u179, hI⟩ := hI
        obtain ⟨u180, hI⟩ := hI
        obtain ⟨u181, hI⟩ := hI
        obtain ⟨u182, hI⟩ := hI
        obtain ⟨u183, hI⟩ := hI
        obtain ⟨u184, hI⟩ := hI
        obtain ⟨u185, hI⟩ := hI
        obtain ⟨u186, hI⟩ := hI
        obtain ⟨u187, hI⟩ := hI
        obtain ⟨u188, hI⟩ := hI
        obtain ⟨u189, hI⟩ := hI
        obtain ⟨u190, hI⟩ := hI
        obtain ⟨u191, hI⟩ := hI
        obtain ⟨u192, hI⟩ := hI
        obtain ⟨u193, hI⟩ := hI
        obtain ⟨u194, hI⟩ := hI
        obtain ⟨u195, hI⟩ := hI
        obtain ⟨u196, hI⟩ := hI
        obtain ⟨u197, hI⟩ := hI
        obtain ⟨u198, hI⟩ := hI
        obtain ⟨u199, hI⟩ := hI
        obtain ⟨u200, hI⟩ := hI
        obtain ⟨u201, hI⟩ := hI
        obtain ⟨u202, hI⟩ := hI
        obtain ⟨u203, hI⟩ := hI
        obtain ⟨u204, hI⟩ := hI
        obtain ⟨u205, hI⟩ := hI
        obtain ⟨hrel, rfl⟩ := hI
        obtain ⟨j, hj, rfl, rfl, hfn, B⟩ := hrel
        obtain ⟨c, hc⟩ : ∃ c, c = hadN f (sN : Int) aN j := ⟨_, rfl⟩
        have hcl := hadN_le f (sN : Int) aN j
        rw [← hc]
        by_cases hj48 : j < 48
        · obtain ⟨X, hX⟩ : ∃ X, f (6 * aN + j / 8) = X := ⟨_, rfl⟩
          have hst := hadN_step f (sN : Int) aN j
          rw [hX, ← hc] at hst
          by_cases hXs : X = (sN : Int) + 1
          · have cx : (X != (sN : Int) + 1) = false := by simp [hXs]
            have hx2 : (X == (sN : Int) + 1) = true := by simp [hXs]
            rw [hx2, Bool.and_true] at hst
            have CK := fun w hM => backMap_ref f g h (.slice a0 n cap) ms p (aN : Int) (1024 + (j : Int)) w hM
            cases hbk : ms.find? (outS p (aN : Int) (1024 + (j : Int))) with
            | some mx =>
              rw [hbk] at CK
              unfold foundS at CK
              have hus : usedB ms p (aN : Int) (1024 + (j : Int)) = true := by unfold usedB; rw [List.any_eq_true]; exact ⟨mx, List.mem_of_find?_eq_some hbk, List.find?_some hbk⟩
              have HF := find_next hfn (show okQ f ms p (sN : Int) aN j = false by unfold okQ; rw [hus]; simp)
              by_cases h8 : j % 8 = 0
              · rw [if_pos (by simp [h8])] at hst
                exact ol2_u0 u6 u7 u8 u9 u12 u13 u15 u16 u17 u19 u20 u24 u25 u26 u27 u28 u29 u30 u31 u32 u33 u34 u35 u36 u37 u38 u39 u40 u41 u42 u43 u44 u45 u46 u47 u48 u49 u50 u51 u52 u53 u54 u55 u56 u57 u58 u59 u60 u61 u62 u63 u64 u65 u66 u67 u68 u69 u70 u71 u72 u73 u74 u75 u76 u77 u78 u79 u80 u81 u82 u83 u84 u85 u86 u87 u88 u89 u90 u91 u92 u93 u94 u95 u96 u97 u98 u99 u100 u101 u102 u103 u104 u105 u106 u107 u108 u109 u110 u111 u112 u113 u114 u115 u116 u117 u118 u119 u120 u121 u122 u123 u124 u125 u126 u127 u128 u129 u130 u131 u132 u133 u134 u135 u136 u137 u138 u139 u140 u141 u142 u143 u144 u145 u146 u147 u148 u149 u150 u151 u152 u153 u154 u155 u156 u157 u158 u159 u160 u161 u162 u163 u164 u165 u166 u167 u168 u169 u170 u171 u172 u173 u174 u175 u176 u177 u178 u179 u180 u181 u182 u183 u184 u185 u186 u187 u188 u189 u190 u191 u192 u193 u194 u195 u196 u197 u198 u199 u200 u201 u202 u203 u204 u205 j c X mx B HN hM hj48 ha3 hs (by omega) hX cx (by simp [h8]) CK hst HF _
              · rw [if_neg (by simp [h8])] at hst
                exact ol2_u1 u6 u7 u8 u9 u12 u13 u15 u16 u17 u19 u20 u24 u25 u26 u27 u28 u29 u30 u31 u32 u33 u34 u35 u36 u37 u38 u39 u40 u41 u42 u43 u44 u45 u46 u47 u48 u49 u50 u51 u52 u53 u54 u55 u56 u57 u58 u59 u60 u61 u62 u63 u64 u65 u66 u67 u68 u69 u70 u71 u72 u73 u74 u75 u76 u77 u78 u79 u80 u81 u82 u83 u84 u85 u86 u87 u88 u89 u90 u91 u92 u93 u94 u95 u96 u97 u98 u99 u100 u101 u102 u103 u104 u105 u106 u107 u108 u109 u110 u111 u112 u113 u114 u115 u116 u117 u118 u119 u120 u121 u122 u123 u124 u125 u126 u127 u128 u129 u130 u131 u132 u133 u134 u135 u136 u137 u138 u139 u140 u141 u142 u143 u144 u145 u146 u147 u148 u149 u150 u151 u152 u153 u154 u155 u156 u157 u158 u159 u160 u161 u162 u163 u164 u165 u166 u167 u168 u169 u170 u171 u172 u173 u174 u175 u176 u177 u178 u179 u180 u181 u182 u183 u184 u185 u186 u187 u188 u189 u190 u191 u192 u193 u194 u195 u196 u197 u198 u199 u200 u201 u202 u203 u204 u205 j c X mx B HN hM hj48 ha3 hs (by omega) hX cx (by simp; omega) CK hst HF _
            | none =>
              rw [hbk] at CK
              unfold foundS at CK
              have hus : usedB ms p (aN : Int) (1024 + (j : Int)) = false := by unfold usedB; rw [List.any_eq_false]; rw [List.find?_eq_none] at hbk; exact hbk
              have hhere := find_here (n := 48) hfn (show okQ f ms p (sN : Int) aN j = true by unfold okQ; rw [hus, hX, hXs]; simp) hj48
              have HRM := room_some (g := g) (d := d) G hs HH0.out hhere
              have hR : ∀ v w', MapsAt w' v (ms ++ [(p, (sN : Int), i, (aN : Int), 1024 + (j : Int))]) → w.heap.size ≤ mb v → Below w.heap.size w w' → (roomTo w f g h (.slice a0 n cap) ms p (sN : Int) i (roomR f g h ms p (sN : Int) d) w' (.returned (.tuple #[.agg (tc f g h v), .agg (mc (p, (sN : Int), i, (aN : Int), 1024 + (j : Int))), .bool false, .int .i64 0])) ∧ Below w.heap.size w w') :=
                fun v w' h1 h2 h3 => ⟨roomTo_ok HRM (by rw [HH0.out]; omega) h1 h2, h3⟩
              by_cases h8 : j % 8 = 0
              · exact ol2_f0 u6 u7 u8 u9 u12 u13 u15 u16 u17 u19 u20 u24 u25 u26 u27 u28 u29 u30 u31 u32 u33 u34 u35 u36 u37 u38 u39 u40 u41 u42 u43 u44 u45 u46 u47 u48 u49 u50 u51 u52 u53 u54 u55 u56 u57 u58 u59 u60 u61 u62 u63 u64 u65 u66 u67 u68 u69 u70 u71 u72 u73 u74 u75 u76 u77 u78 u79 u80 u81 u82 u83 u84 u85 u86 u87 u88 u89 u90 u91 u92 u93 u94 u95 u96 u97 u98 u99 u100 u101 u102 u103 u104 u105 u106 u107 u108 u109 u110 u111 u112 u113 u114 u115 u116 u117 u118 u119 u120 u121 u122 u123 u124 u125 u126 u127 u128 u129 u130 u131 u132 u133 u134 u135 u136 u137 u138 u139 u140 u141 u142 u143 u144 u145 u146 u147 u148 u149 u150 u151 u152 u153 u154 u155 u156 u157 u158 u159 u160 u161 u162 u163 u164 u165 u166 u167 u168 u169 u170 u171 u172 u173 u174 u175 u176 u177 u178 u179 u180 u181 u182 u183 u184 u185 u186 u187 u188 u189 u190 u191 u192 u193 u194 u195 u196 u197 u198 u199 u200 u201 u202 u203 u204 u205 j c X noM B HN hM hj48 ha3 hs (by omega) hX cx (by simp [h8]) CK HL9.out (fun e w' => roomTo w f g h (.slice a0 n cap) ms p (sN : Int) i (roomR f g h ms p (sN : Int) d) w' e ∧ Below w.heap.size w w') hR _ (fun a w' h => h)
              · exact ol2_f1 u6 u7 u8 u9 u12 u13 u15 u16 u17 u19 u20 u24 u25 u26 u27 u28 u29 u30 u31 u32 u33 u34 u35 u36 u37 u38 u39 u40 u41 u42 u43 u44 u45 u46 u47 u48 u49 u50 u51 u52 u53 u54 u55 u56 u57 u58 u59 u60 u61 u62 u63 u64 u65 u66 u67 u68 u69 u70 u71 u72 u73 u74 u75 u76 u77 u78 u79 u80 u81 u82 u83 u84 u85 u86 u87 u88 u89 u90 u91 u92 u93 u94 u95 u96 u97 u98 u99 u100 u101 u102 u103 u104 u105 u106 u107 u108 u109 u110 u111 u112 u113 u114 u115 u116 u117 u118 u119 u120 u121 u122 u123 u124 u125 u126 u127 u128 u129 u130 u131 u132 u133 u134 u135 u136 u137 u138 u139 u140 u141 u142 u143 u144 u145 u146 u147 u148 u149 u150 u151 u152 u153 u154 u155 u156 u157 u158 u159 u160 u161 u162 u163 u164 u165 u166 u167 u168 u169 u170 u171 u172 u173 u174 u175 u176 u177 u178 u179 u180 u181 u182 u183 u184 u185 u186 u187 u188 u189 u190 u191 u192 u193 u194 u195 u196 u197 u198 u199 u200 u201 u202 u203 u204 u205 j c X noM B HN hM hj48 ha3 hs (by omega) hX cx (by simp; omega) CK HL9.out (fun e w' => roomTo w f g h (.slice a0 n cap) ms p (sN : Int) i (roomR f g h ms p (sN : Int) d) w' e ∧ Below w.heap.size w w') hR _ (fun a w' h => h)
          · have cx : (X != (sN : Int) + 1) = true := by simp [hXs]
            have hx2 : (X == (sN : Int) + 1) = false := by simp [hXs]
            rw [hx2, Bool.and_false, if_neg (by simp), Nat.add_zero] at hst
            have HF := find_next hfn (show okQ f ms p (sN : Int) aN j = false by unfold okQ; rw [hX, hx2]; rfl)
            exact ol2_skip u6 u7 u8 u9 u12 u13 u15 u16 u17 u19 u20 u24 u25 u26 u27 u28 u29 u30 u31 u32 u33 u34 u35 u36 u37 u38 u39 u40 u41 u42 u43 u44 u45 u46 u47 u48 u49 u50 u51 u52 u53 u54 u55 u56 u57 u58 u59 u60 u61 u62 u63 u64 u65 u66 u67 u68 u69 u70 u71 u72 u73 u74 u75 u76 u77 u78 u79 u80 u81 u82 u83 u84 u85 u86 u87 u88 u89 u90 u91 u92 u93 u94 u95 u96 u97 u98 u99 u100 u101 u102 u103 u104 u105 u106 u107 u108 u109 u110 u111 u112 u113 u114 u115 u116 u117 u118 u119 u120 u121 u122 u123 u124 u125 u126 u127 u128 u129 u130 u131 u132 u133 u134 u135 u136 u137 u138 u139 u140 u141 u142 u143 u144 u145 u146 u147 u148 u149 u150 u151 u152 u153 u154 u155 u156 u157 u158 u159 u160 u161 u162 u163 u164 u165 u166 u167 u168 u169 u170 u171 u172 u173 u174 u175 u176 u177 u178 u179 u180 u181 u182 u183 u184 u185 u186 u187 u188 u189 u190 u191 u192 u193 u194 u195 u196 u197 u198 u199 u200 u201 u202 u203 u204 u205 j c X noM B HN hM hj48 ha3 hs (by omega) hX cx hst HF _
        · have e48 : j = 48 := by omega
          subst e48
          have hp1 : ¬ (1024 + ((48 : Nat) : Int)) < 1072 := by omega
          have ha0 : ¬ (aN : Int) < 0 := by omega
          by_cases h2 : c = 2
          · have HRM : Hid _ := hidB (room_two (g := g) (d := d) G hs HH0.out hfn (hc ▸ h2))
            subst h2
            clear hcl hc hfn hj hj48
            go_upto_region 31 with fail
            have RT : Row 30 _ b5 (tc f g h (.slice a0 n cap)) := B.row 5 rfl
            have RM : Row 32 _ b14 (mc noM) := B.row 2 rfl
            refine wp_region_noPanic ?_
            refine wp_region_held_drew (S := fun W => Row 30 W b5 (tc f g h (.slice a0 n cap)) ∧ Row 32 W b14 (mc noM)) (by kernel_rfl) ⟨RT, RM⟩ (fun _ => ?_)
            refine wpAnyH_take (i := 0) (v := .agg (tc f g h (.slice a0 n cap))) rfl (by kernel_rfl) (by kernel_rfl) (by kernel_rfl) (fun _ _ _ h => h) (yields_loadR 30 (.tmp 5) rfl (by kernel_rfl) b5 (by kernel_rfl) (tc f g h (.slice a0 n cap)) (fun _ h => h.1) _ Try.underlying30 rfl (tc_info _ _ _ _)) ⟨RT, RM⟩ ?_
            simp only [Act.put, List.getElem_toArray, List.getElem_cons_succ, List.getElem_cons_zero, List.setIfInBounds_toArray, List.set_cons_zero, List.set_cons_succ]
            refine wpAnyH_take (i := 1) (v := .agg (mc noM)) rfl (by kernel_rfl) (by kernel_rfl) (by kernel_rfl) (fun _ _ _ h => h) (yields_loadR 32 (.tmp 14) rfl (by kernel_rfl) b14 (by kernel_rfl) (mc noM) (fun _ h => h.2) _ Try.underlying32 rfl (mc_info _)) ⟨RT, RM⟩ ?_
            simp only [Act.put, List.getElem_toArray, List.getElem_cons_succ, List.getElem_cons_zero, List.setIfInBounds_toArray, List.set_cons_zero, List.set_cons_succ]
            refine wpAnyH_ready (rs := [2]) (by kernel_rfl) (by simp) ?_
            refine AllReadyH.cons rfl (fun K hK => ?_) ?_
            · rw [if_pos (by kernel_rfl)]
              refine wp_storeR 30 (.tmp 10) (.tmp 152) rfl b10 (by kernel_rfl) (tc f g h (.slice a0 n cap)) (by kernel_rfl) _ (B.row 4 rfl) (tc_sz _ _ _ _ _ _ _ _) (tc_info _ _ _ _) (tc_one _ _ _ _ _ _) ?_; intro w9 R9 t9; (first | replace t9 := turned_undrG t9 | skip); replace B := B.turn 4 rfl R9 t9; clear R9 t9; replace RT := B.row 5 rfl; replace RM := B.row 2 rfl
              refine hK.out _ _ ⟨RT, RM⟩ (fun _ => ?_)
              clear hK K
              try simp only [Act.put, List.getElem_toArray, List.getElem_cons_succ, List.getElem_cons_zero, List.setIfInBounds_toArray, List.set_cons_zero, List.set_cons_succ]
              refine wpAnyH_ready (rs := [3]) (by kernel_rfl) (by simp) ?_
              refine AllReadyH.cons rfl (fun K hK => ?_) ?_
              · rw [if_pos (by kernel_rfl)]
                refine wp_storeR 32 (.tmp 11) (.tmp 153) rfl b11 (by kernel_rfl) (mc noM) (by kernel_rfl) _ (B.row 3 rfl) rfl (mc_info _) (mc_one _) ?_; intro w9 R9 t9; (first | replace t9 := turned_undrG t9 | skip); replace B := B.turn 3 rfl R9 t9; clear R9 t9; replace RT := B.row 5 rfl; replace RM := B.row 2 rfl
                refine hK.out _ _ ⟨RT, RM⟩ (fun _ => ?_)
                clear hK K
                try simp only [Act.put, List.getElem_toArray, List.getElem_cons_succ, List.getElem_cons_zero, List.setIfInBounds_toArray, List.set_cons_zero, List.set_cons_succ]
                refine wpAnyH_take (i := 4) (v := .bool false) rfl (by kernel_rfl) (by kernel_rfl) (by kernel_rfl) (fun _ _ _ h => h) (Or.inl ⟨by kernel_rfl, by intro w hS; go_simp⟩) ⟨RT, RM⟩ ?_
                simp only [Act.put, List.getElem_toArray, List.getElem_cons_succ, List.getElem_cons_zero, List.setIfInBounds_toArray, List.set_cons_zero, List.set_cons_succ]
                refine wpAnyH_take (i := 5) (v := .int .i64 6) rfl (by kernel_rfl) (by kernel_rfl) (by kernel_rfl) (fun _ _ _ h => h) (Or.inl ⟨by kernel_rfl, by intro w hS; go_simp⟩) ⟨RT, RM⟩ ?_
                simp only [Act.put, List.getElem_toArray, List.getElem_cons_succ, List.getElem_cons_zero, List.setIfInBounds_toArray, List.set_cons_zero, List.set_cons_succ]
                refine wpAnyH_done (by kernel_rfl) ?_ _
                refine NoPanic.normal ?_
                clear RT RM
                go_wp2_with fail
                ((try simp only [Exit.inBlock, Exit.then]); first | (refine bodyPost_ret (results_row22 (p := 10) (q := 11) (x := 12) (y := 13) rfl _ _ _ _ _ _ rfl rfl (B.row 4 rfl) (B.row 3 rfl) _ _ Try.underlying30 Try.underlying32 rfl rfl (tc_info _ _ _ _) (mc_info _)) rfl ⟨roomTo_err HRM.out (by decide), B.base⟩) | (replace B := B.drew; refine bodyPost_ret (results_row22 (p := 10) (q := 11) (x := 12) (y := 13) rfl _ _ _ _ _ _ rfl rfl (B.row 4 rfl) (B.row 3 rfl) _ _ Try.underlying30 Try.underlying32 rfl rfl (tc_info _ _ _ _) (mc_info _)) rfl ⟨roomTo_err HRM.out (by decide), B.base⟩))
              exact AllReadyH.nil
            exact AllReadyH.nil
          · have hc2 : ((c : Int) == 2) = false := by simp; omega
            have HRR : Hid _ := hidB (room_take (g := g) (d := d) G hs HH0.out hfn (fun e => h2 (hc.trans e)))
            have hAw : wrap64 ((aN : Int) + 1) = (aN : Int) + 1 := by unfold wrap64; omega
            clear hcl hc hfn hj hj48 h2
            obtain ⟨F', hF'⟩ : ∃ F', F' = takeF f g (sN : Int) ((aN : Int)) d := ⟨_, rfl⟩
            obtain ⟨K', hK'⟩ : ∃ K', K' = takeK f g (sN : Int) ((aN : Int)) d := ⟨_, rfl⟩
            obtain ⟨E', hE'⟩ : ∃ E', E' = takeE f g (sN : Int) ((aN : Int)) := ⟨_, rfl⟩
            have CT := fun w => taker_any f g (sN : Int) ((aN : Int)) d HHD.out w
            unfold takeS plv at CT
            rw [← hF', ← hK', ← hE'] at CT
            have hk6 : K' < 6 := hK' ▸ takeK_lt _ _ _ _ _
            have hw8 : wrap64 (8 * (K' : Int)) = 8 * (K' : Int) := by unfold wrap64; omega
            have hw9 : wrap64 (1024 + 8 * (K' : Int)) = 1024 + 8 * (K' : Int) := by unfold wrap64; omega
            by_cases hE0 : E' = 0
            · have HRM : Hid (roomR f g h ms p (sN : Int) d = ⟨F', upd h (sN : Int).toNat ((aN : Int) + 1), 1024 + 8 * (K' : Int), true, 0⟩) := hidB (by rw [HRR.out, if_pos (hE' ▸ hE0), hF', hK'])
              have hE0b : (E' != 0) = false := by simp [hE0]
              have HL2 : Hid ((ms ++ [(p, (sN : Int), i, (aN : Int), 1024 + 8 * (K' : Int))]).length ≤ 140737488355328) := hidB (by have := HL9.out; rw [List.length_append]; simp; omega)
              clear hE' hF' hK' hk6
              subst hE0
              go_upto_region 44 with (first | ((with_reducible refine at_opB (.load 26 (.tmp 169)) rfl ?_); refine wpList_load_mid rfl 26 (.tmp 169) rfl _ _ rfl (pc f g).toList _ (Row.pool (B.row 5 rfl)) Try.underlying26 rfl (by simpa using pc_info f g) ?_; (try simp only [Array.toArray_toList])) | (go_at_call 44; go_fit (CT _); rintro e w5 ⟨rfl, hb5⟩; replace B := B.below hb5; clear hb5) | ((with_reducible refine at_opB (.alloc 26) rfl ?_); refine wpList_allocX 31 26 rfl rfl rfl _ pool_zeroB ?_; intro b31 w9 l9 R9 h9; replace B := B.alloc l9 R9 h9; clear R9 h9 l9) | ((with_reducible refine at_opB (.store 26 (.tmp 31) (.tmp 175)) rfl ?_); refine wpList_storeR 26 rfl (.tmp 31) _ rfl b31 rfl (pc F' g) rfl _ (B.row 0 rfl) (by rw [pc_size, pc_size]) (pc_info _ _) (pc_one _ _) ?_; intro w9 R9 t9; replace B := B.turn 0 rfl R9 t9; clear R9 t9) | ((with_reducible refine at_opB (.build 32 #[(0, .tmp 183), (1, .tmp 184), (2, .tmp 185), (3, .tmp 186), (4, .tmp 189)]) rfl ?_); refine wpList_buildM5 rfl (.tmp 183) (.tmp 184) (.tmp 185) (.tmp 186) (.tmp 189) rfl p (sN : Int) i ((aN : Int)) (1024 + 8 * (K' : Int)) rfl rfl rfl rfl (by first | rfl | exact congrArg (Value.int .i64) hw9 | (rw [hw8]; exact congrArg (Value.int .i64) hw9)) ?_) | ((with_reducible refine at_opB (.alloc 32) rfl ?_); refine wpList_allocX 34 32 rfl rfl rfl _ map_zero ?_; intro b34 w9 l9 R9 h9; replace B := B.alloc l9 R9 h9; clear R9 h9 l9) | ((with_reducible refine at_opB (.store 32 (.tmp 34) (.tmp 190)) rfl ?_); refine wpList_storeR 32 rfl (.tmp 34) _ rfl b34 rfl (mc (p, (sN : Int), i, (aN : Int), 1024 + 8 * (K' : Int))) rfl _ (B.row 0 rfl) rfl (mc_info _) (mc_one _) ?_; intro w9 R9 t9; replace B := B.turn 0 rfl R9 t9; clear R9 t9) | ((with_reducible refine at_opB (.load 26 (.tmp 31)) rfl ?_); refine wpList_loadR 26 (.tmp 31) rfl (by kernel_rfl) b31 rfl (pc F' g) (B.row 1 rfl) _ Try.underlying26 rfl (pc_info _ _) ?_) | ((with_reducible refine at_opB (.store 26 (.tmp 192) (.tmp 191)) rfl ?_); refine wpList_storeP rfl (.tmp 192) _ rfl b21 rfl F' g rfl f g h (.slice av n cv) (B.row 2 rfl) ?_; intro w9 R9 t9; replace B := B.turn 2 rfl R9 t9; clear R9 t9) | ((with_reducible refine at_opB (.store 3 (.tmp 197) (.tmp 195)) rfl ?_); refine wpList_storeF (B.row 2 rfl) rfl _ _ rfl (21 + sN) rfl ((aN : Int) + 1) (by first | rfl | exact congrArg (Value.int .i64) hAw) _ (tc_home _ _ _ _ _ HS8.out) (tc F' g (upd h sN ((aN : Int) + 1)) (.slice av n cv)) (tc_setH _ _ _ _ _ _ HS8.out) ?_; intro w9 R9 t9; replace B := B.turn 2 rfl R9 t9; clear R9 t9; have cM : World.cell? _ ⟨b21, 29, none⟩ = some (.slice av n cv) := ((B.row 2 rfl).cell 29).trans (tc_maps _ _ _ _)) | ((with_reducible refine at_opB (.load 32 (.tmp 34)) rfl ?_); refine wpList_loadR 32 (.tmp 34) rfl (by kernel_rfl) b34 rfl (mc (p, (sN : Int), i, (aN : Int), 1024 + 8 * (K' : Int))) (B.row 0 rfl) _ Try.underlying32 rfl (mc_info _) ?_) | ((with_reducible refine at_consB ?_); refine wpList_buildM rfl (.tmp 200) rfl (p, (sN : Int), i, (aN : Int), 1024 + 8 * (K' : Int)) rfl ?_) | ((with_reducible refine at_opB (.call { callee := .builtin .append, args := #[.tmp 199, .tmp 201], argTypes := #[28, 28] }) rfl ?_); refine wpList_append_own_at _ rfl (.tmp 199) (.tmp 201) 28 rfl w.heap.size 32 i0 (.agg (mc noM)) 5 40 Try.underlying28 hi0 hz0 hz1 hz2 rfl (by decide) (.slice av n cv) n (flat ms) (by kernel_rfl) (by rw [HN.out]; have HO := B.own; rw [HN.out] at HO; exact HO.alloc _) ⟨_, 0, none⟩ 1 1 (mcl (p, (sN : Int), i, (aN : Int), 1024 + 8 * (K' : Int))) rfl rfl (five_new _ _ _) (mcl_oneCell _) (by unfold maxLen; have := HL9.out; have := HN.out; omega) (by have := HL9.out; have := HN.out; omega) (by have := B.base.size; simp; omega) ?_; intro v4 w8 hown4 hg4 hn4 hloc; clear hn4 cM; replace B := B.push (by rw [← HN.out]; exact hown4) hg4 hloc; clear hg4 hloc; obtain ⟨a4, c4, rfl⟩ := row_slice2 hown4; clear hown4) | ((with_reducible refine at_opB (.store 28 (.tmp 203) (.tmp 202)) rfl ?_); refine wpList_storeV (B.row 2 rfl) rfl _ _ rfl 29 rfl _ _ _ rfl _ (tc_maps _ _ _ _) (tc F' g (upd h sN ((aN : Int) + 1)) (.slice a4 (n + 1) c4)) (tc_setM _ _ _ _ _) ?_; intro w9 R9 t9; replace B := B.turn 2 rfl R9 t9; clear R9 t9))
              have RT : Row 30 _ b21 (tc F' g (upd h sN ((aN : Int) + 1)) (.slice a4 (n + 1) c4)) := B.row 2 rfl
              have RM : Row 32 _ b34 (mc (p, (sN : Int), i, (aN : Int), 1024 + 8 * (K' : Int))) := B.row 0 rfl
              refine wp_region_noPanic ?_
              refine wp_region_held_drew (S := fun W => Row 30 W b21 (tc F' g (upd h sN ((aN : Int) + 1)) (.slice a4 (n + 1) c4)) ∧ Row 32 W b34 (mc (p, (sN : Int), i, (aN : Int), 1024 + 8 * (K' : Int)))) (by kernel_rfl) ⟨RT, RM⟩ (fun _ => ?_)
              refine wpAnyH_take (i := 0) (v := .agg (tc F' g (upd h sN ((aN : Int) + 1)) (.slice a4 (n + 1) c4))) rfl (by kernel_rfl) (by kernel_rfl) (by kernel_rfl) (fun _ _ _ h => h) (yields_loadR 30 (.tmp 21) rfl (by kernel_rfl) b21 (by kernel_rfl) (tc F' g (upd h sN ((aN : Int) + 1)) (.slice a4 (n + 1) c4)) (fun _ h => h.1) _ Try.underlying30 rfl (tc_info _ _ _ _)) ⟨RT, RM⟩ ?_
              simp only [Act.put, List.getElem_toArray, List.getElem_cons_succ, List.getElem_cons_zero, List.setIfInBounds_toArray, List.set_cons_zero, List.set_cons_succ]
              refine wpAnyH_take (i := 1) (v := .agg (mc (p, (sN : Int), i, (aN : Int), 1024 + 8 * (K' : Int)))) rfl (by kernel_rfl) (by kernel_rfl) (by kernel_rfl) (fun _ _ _ h => h) (yields_loadR 32 (.tmp 34) rfl (by kernel_rfl) b34 (by kernel_rfl) (mc (p, (sN : Int), i, (aN : Int), 1024 + 8 * (K' : Int))) (fun _ h => h.2) _ Try.underlying32 rfl (mc_info _)) ⟨RT, RM⟩ ?_
              simp only [Act.put, List.getElem_toArray, List.getElem_cons_succ, List.getElem_cons_zero, List.setIfInBounds_toArray, List.set_cons_zero, List.set_cons_succ]
              refine wpAnyH_ready (rs := [2]) (by kernel_rfl) (by simp) ?_
              refine AllReadyH.cons rfl (fun K hK => ?_) ?_
              · rw [if_pos (by kernel_rfl)]
                refine wp_storeR 30 (.tmp 10) (.tmp 204) rfl b10 (by kernel_rfl) (tc F' g (upd h sN ((aN : Int) + 1)) (.slice a4 (n + 1) c4)) (by kernel_rfl) _ (B.row 6 rfl) (tc_sz _ _ _ _ _ _ _ _) (tc_info _ _ _ _) (tc_one _ _ _ _ _ _) ?_; intro w9 R9 t9; (first | replace t9 := turned_undrG t9 | skip); replace B := B.turn 6 rfl R9 t9; clear R9 t9; replace RT := B.row 2 rfl; replace RM := B.row 0 rfl
                refine hK.out _ _ ⟨RT, RM⟩ (fun _ => ?_)
                clear hK K
                try simp only [Act.put, List.getElem_toArray, List.getElem_cons_succ, List.getElem_cons_zero, List.setIfInBounds_toArray, List.set_cons_zero, List.set_cons_succ]
                refine wpAnyH_ready (rs := [3]) (by kernel_rfl) (by simp) ?_
                refine AllReadyH.cons rfl (fun K hK => ?_) ?_
                · rw [if_pos (by kernel_rfl)]
                  refine wp_storeR 32 (.tmp 11) (.tmp 205) rfl b11 (by kernel_rfl) (mc (p, (sN : Int), i, (aN : Int), 1024 + 8 * (K' : Int))) (by kernel_rfl) _ (B.row 5 rfl) rfl (mc_info _) (mc_one _) ?_; intro w9 R9 t9; (first | replace t9 := turned_undrG t9 | skip); replace B := B.turn 5 rfl R9 t9; clear R9 t9; replace RT := B.row 2 rfl; replace RM := B.row 0 rfl
                  refine hK.out _ _ ⟨RT, RM⟩ (fun _ => ?_)
                  clear hK K
                  try simp only [Act.put, List.getElem_toArray, List.getElem_cons_succ, List.getElem_cons_zero, List.setIfInBounds_toArray, List.set_cons_zero, List.set_cons_succ]
                  refine wpAnyH_take (i := 4) (v := .bool true) rfl (by kernel_rfl) (by kernel_rfl) (by kernel_rfl) (fun _ _ _ h => h) (Or.inl ⟨by kernel_rfl, by intro w hS; go_simp⟩) ⟨RT, RM⟩ ?_
                  simp only [Act.put, List.getElem_toArray, List.getElem_cons_succ, List.getElem_cons_zero, List.setIfInBounds_toArray, List.set_cons_zero, List.set_cons_succ]
                  refine wpAnyH_take (i := 5) (v := .int .i64 0) rfl (by kernel_rfl) (by kernel_rfl) (by kernel_rfl) (fun _ _ _ h => h) (Or.inl ⟨by kernel_rfl, by intro w hS; go_simp⟩) ⟨RT, RM⟩ ?_
                  simp only [Act.put, List.getElem_toArray, List.getElem_cons_succ, List.getElem_cons_zero, List.setIfInBounds_toArray, List.set_cons_zero, List.set_cons_succ]
                  refine wpAnyH_done (by kernel_rfl) ?_ _
                  refine NoPanic.normal ?_
                  clear RT RM
                  go_wp2_with fail
                  ((try simp only [Exit.inBlock, Exit.then]); first | (refine bodyPost_ret (results_row22 (p := 10) (q := 11) (x := 12) (y := 13) rfl _ _ _ _ _ _ rfl rfl (B.row 6 rfl) (B.row 5 rfl) _ _ Try.underlying30 Try.underlying32 rfl rfl (tc_info _ _ _ _) (mc_info _)) rfl ⟨roomTo_ok HRM.out (by simp [upd]) (own_maps B.own HL2.out).1 ((own_maps B.own HL2.out).2.2 (by simp)), B.base⟩) | (replace B := B.drew; refine bodyPost_ret (results_row22 (p := 10) (q := 11) (x := 12) (y := 13) rfl _ _ _ _ _ _ rfl rfl (B.row 6 rfl) (B.row 5 rfl) _ _ Try.underlying30 Try.underlying32 rfl rfl (tc_info _ _ _ _) (mc_info _)) rfl ⟨roomTo_ok HRM.out (by simp [upd]) (own_maps B.own HL2.out).1 ((own_maps B.own HL2.out).2.2 (by simp)), B.base⟩))
                exact AllReadyH.nil
              exact AllReadyH.nil
            · have HRM : Hid (roomR f g h ms p (sN : Int) d = ⟨f, h, 0, false, E'⟩) := hidB (by rw [HRR.out, if_neg (hE' ▸ hE0), hE'])
              have hE0b : (E' != 0) = true := by simp [hE0]
              have HE0 : Hid (E' ≠ 0) := hE0
              clear hE' hF' hK' hk6 hE0 hw8 hw9
              go_upto_region 39 with (first | ((with_reducible refine at_opB (.load 26 (.tmp 169)) rfl ?_); refine wpList_load_mid rfl 26 (.tmp 169) rfl _ _ rfl (pc f g).toList _ (Row.pool (B.row 5 rfl)) Try.underlying26 rfl (by simpa using pc_info f g) ?_; (try simp only [Array.toArray_toList])) | (go_at_call 44; go_fit (CT _); rintro e w5 ⟨rfl, hb5⟩; replace B := B.below hb5; clear hb5) | ((with_reducible refine at_opB (.alloc 26) rfl ?_); refine wpList_allocX 31 26 rfl rfl rfl _ pool_zeroB ?_; intro b31 w9 l9 R9 h9; replace B := B.alloc l9 R9 h9; clear R9 h9 l9) | ((with_reducible refine at_opB (.store 26 (.tmp 31) (.tmp 175)) rfl ?_); refine wpList_storeR 26 rfl (.tmp 31) _ rfl b31 rfl (pc F' g) rfl _ (B.row 0 rfl) (by rw [pc_size, pc_size]) (pc_info _ _) (pc_one _ _) ?_; intro w9 R9 t9; replace B := B.turn 0 rfl R9 t9; clear R9 t9))
              have RT : Row 30 _ b5 (tc f g h (.slice a0 n cap)) := B.row 6 rfl
              have RM : Row 32 _ b14 (mc noM) := B.row 3 rfl
              refine wp_region_noPanic ?_
              refine wp_region_held_drew (S := fun W => Row 30 W b5 (tc f g h (.slice a0 n cap)) ∧ Row 32 W b14 (mc noM)) (by kernel_rfl) ⟨RT, RM⟩ (fun _ => ?_)
              refine wpAnyH_take (i := 0) (v := .agg (tc f g h (.slice a0 n cap))) rfl (by kernel_rfl) (by kernel_rfl) (by kernel_rfl) (fun _ _ _ h => h) (yields_loadR 30 (.tmp 5) rfl (by kernel_rfl) b5 (by kernel_rfl) (tc f g h (.slice a0 n cap)) (fun _ h => h.1) _ Try.underlying30 rfl (tc_info _ _ _ _)) ⟨RT, RM⟩ ?_
              simp only [Act.put, List.getElem_toArray, List.getElem_cons_succ, List.getElem_cons_zero, List.setIfInBounds_toArray, List.set_cons_zero, List.set_cons_succ]
              refine wpAnyH_take (i := 1) (v := .agg (mc noM)) rfl (by kernel_rfl) (by kernel_rfl) (by kernel_rfl) (fun _ _ _ h => h) (yields_loadR 32 (.tmp 14) rfl (by kernel_rfl) b14 (by kernel_rfl) (mc noM) (fun _ h => h.2) _ Try.underlying32 rfl (mc_info _)) ⟨RT, RM⟩ ?_
              simp only [Act.put, List.getElem_toArray, List.getElem_cons_succ, List.getElem_cons_zero, List.setIfInBounds_toArray, List.set_cons_zero, List.set_cons_succ]
              refine wpAnyH_take (i := 2) (v := .int .i64 E') rfl (by kernel_rfl) (by kernel_rfl) (by kernel_rfl) (fun _ _ _ h => h) (Or.inl ⟨by kernel_rfl, by intro w hS; go_simp⟩) ⟨RT, RM⟩ ?_
              simp only [Act.put, List.getElem_toArray, List.getElem_cons_succ, List.getElem_cons_zero, List.setIfInBounds_toArray, List.set_cons_zero, List.set_cons_succ]
              refine wpAnyH_ready (rs := [3]) (by kernel_rfl) (by simp) ?_
              refine AllReadyH.cons rfl (fun K hK => ?_) ?_
              · rw [if_pos (by kernel_rfl)]
                refine wp_storeR 30 (.tmp 10) (.tmp 180) rfl b10 (by kernel_rfl) (tc f g h (.slice a0 n cap)) (by kernel_rfl) _ (B.row 5 rfl) (tc_sz _ _ _ _ _ _ _ _) (tc_info _ _ _ _) (tc_one _ _ _ _ _ _) ?_; intro w9 R9 t9; (first | replace t9 := turned_undrG t9 | skip); replace B := B.turn 5 rfl R9 t9; clear R9 t9; replace RT := B.row 6 rfl; replace RM := B.row 3 rfl
                refine hK.out _ _ ⟨RT, RM⟩ (fun _ => ?_)
                clear hK K
                try simp only [Act.put, List.getElem_toArray, List.getElem_cons_succ, List.getElem_cons_zero, List.setIfInBounds_toArray, List.set_cons_zero, List.set_cons_succ]
                refine wpAnyH_ready (rs := [4]) (by kernel_rfl) (by simp) ?_
                refine AllReadyH.cons rfl (fun K hK => ?_) ?_
                · rw [if_pos (by kernel_rfl)]
                  refine wp_storeR 32 (.tmp 11) (.tmp 181) rfl b11 (by kernel_rfl) (mc noM) (by kernel_rfl) _ (B.row 4 rfl) rfl (mc_info _) (mc_one _) ?_; intro w9 R9 t9; (first | replace t9 := turned_undrG t9 | skip); replace B := B.turn 4 rfl R9 t9; clear R9 t9; replace RT := B.row 6 rfl; replace RM := B.row 3 rfl
                  refine hK.out _ _ ⟨RT, RM⟩ (fun _ => ?_)
                  clear hK K
                  try simp only [Act.put, List.getElem_toArray, List.getElem_cons_succ, List.getElem_cons_zero, List.setIfInBounds_toArray, List.set_cons_zero, List.set_cons_succ]
                  refine wpAnyH_take (i := 5) (v := .bool false) rfl (by kernel_rfl) (by kernel_rfl) (by kernel_rfl) (fun _ _ _ h => h) (Or.inl ⟨by kernel_rfl, by intro w hS; go_simp⟩) ⟨RT, RM⟩ ?_
                  simp only [Act.put, List.getElem_toArray, List.getElem_cons_succ, List.getElem_cons_zero, List.setIfInBounds_toArray, List.set_cons_zero, List.set_cons_succ]
                  refine wpAnyH_take (i := 6) (v := .int .i64 E') rfl (by kernel_rfl) (by kernel_rfl) (by kernel_rfl) (fun _ _ _ h => h) (Or.inl ⟨by kernel_rfl, by intro w hS; go_simp⟩) ⟨RT, RM⟩ ?_
                  simp only [Act.put, List.getElem_toArray, List.getElem_cons_succ, List.getElem_cons_zero, List.setIfInBounds_toArray, List.set_cons_zero, List.set_cons_succ]
                  refine wpAnyH_done (by kernel_rfl) ?_ _
                  refine NoPanic.normal ?_
                  clear RT RM
                  go_wp2_with fail
                  ((try simp only [Exit.inBlock, Exit.then]); first | (refine bodyPost_ret (results_row22 (p := 10) (q := 11) (x := 12) (y := 13) rfl _ _ _ _ _ _ rfl rfl (B.row 5 rfl) (B.row 4 rfl) _ _ Try.underlying30 Try.underlying32 rfl rfl (tc_info _ _ _ _) (mc_info _)) rfl ⟨roomTo_err HRM.out HE0.out, B.base⟩) | (replace B := B.drew; refine bodyPost_ret (results_row22 (p := 10) (q := 11) (x := 12) (y := 13) rfl _ _ _ _ _ _ rfl rfl (B.row 5 rfl) (B.row 4 rfl) _ _ Try.underlying30 Try.underlying32 rfl rfl (tc_info _ _ _ _) (mc_info _)) rfl ⟨roomTo_err HRM.out HE0.out, B.base⟩))
                exact AllReadyH.nil
              exact AllReadyH.nil
end Go.Proofs.Ytmdijjbkjcnbpaa
