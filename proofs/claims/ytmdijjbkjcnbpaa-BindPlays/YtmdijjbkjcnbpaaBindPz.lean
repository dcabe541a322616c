/-
  A wish to close.
  A wish to drain.
  A wish to undrain.
-/
import Derived.Test.YtmdijjbkjcnbpaaBindPa
namespace Go.Proofs.Ytmdijjbkjcnbpaa
open Go.ChangeShapes Go.WideShapes Go.ChangeAt Go.RowKit
set_option linter.unusedSimpArgs false
set_option linter.unusedVariables false

attribute [local irreducible] tc pc
set_option maxRecDepth 1000000 in
set_option maxHeartbeats 8000000 in
theorem play_k1 {w wr : World} {b3 b4 : Nat} {f : Nat → Int} {g : Nat → Bool} {h : Nat → Int} {a1 : Option Addr} {lv c1 : Nat} {ms : List Mp} {a0 : Option Addr} {n cap : Nat} {xs : List Mp} (u1 u2 u6 u7 u8 u9 u10 u11 u12 u13 u14 u15 u16 u17 u18 u19 u20 u21 u22 u23 u24 u25 u26 u27 u28 u29 u30 u31 u32 u33 u34 u35 u36 u37 u38 u39 u40 u41 u42 u43 u44 u45 u46 u47 u48 u49 u50 u51 u52 u53 u54 u55 u56 u57 u58 u59 u60 u61 u62 u63 u64 u65 u66 u67 u68 u69 u70 u71 u72 u73 u74 u75 u76 u77 u78 u79 u80 u81 u82 u83 u84 u85 u86 u87 u88 u89 u90 u91 u92 u93 u94 u95 u96 u97 u98 u99 u100 u101 u102 u103 u104 u105 u106 u107 u108 u109 u110 u111 u112 u113 u114 u115 u116 u117 u118 u119 u120 u121 u122 u123 u124 u125 u126 u127 u128 u129 u130 u131 u132 u133 u134 u135 u136 u137 u138 u139 u140 u141 u142 u143 u144 u145 u146 u147 u148 u149 u150 u151 u152 u153 u154 u155 u156 u157 u158 u159 u160 u161 u162 u163 u164 u165 u166 u167 u168 u169 u170 u171 u172 u173 u174 u175 u176 u177 u178 u179 u180 u181 u182 u183 u184 u185 u186 u187 u188 u189 u190 u191 u192 u193 u194 u195 u196 u197 u198 u199 u200 u201 u202 u203 u204 u205 u206 u207 u208 u209 u210 u211 u212 u213 u214 u215 u216 u217 u218 u219 u220 u221 u222 u223 u224 u225 u226 u227 u228 u229 u230 u231 u232 u233 u234 : Value) (j : Nat)
    (B : Bd w wr [(b3, 30, tc f g h (.slice a1 lv c1)), (b4, 50, pr3)] [(.slice a1 lv c1, ms)]) (hnil : NilOk (.slice a1 lv c1)) (HG : Hid (GoodT f h ms)) (HLn : Hid (lv = ms.length)) (HN : Hid (n = xs.length)) (hX : MapsAt w (.slice a0 n cap) xs) (hwx : ∀ m ∈ xs, (Lit.int .i64 m.2.2.2.2).wf = true)
    (hjn' : j < n) (hj120 : j < 120) (x : Mp) (hx : ∃ hh : j < xs.length, xs[j] = x) (hkd : x.1 % 4 = 1) (Q0 : Exit → Act → World → Prop) :
    Code.wp Try.prog bodyP (Exit.then (fun a' W => WP w b3 b4 a0 n cap a' W ∧ WPmu a' W < WPmu ⟨#[(.slice a0 n cap), u1, u2, .pointer (some ⟨b3, 0, none⟩), .pointer (some ⟨b4, 0, none⟩), .int .i64 (j : Int), u6, u7, u8, u9, u10, u11, u12, u13, u14, u15, u16, u17, u18, u19, u20, u21, u22, u23, u24, u25, u26, u27, u28, u29, u30, u31, u32, u33, u34, u35, u36, u37, u38, u39, u40, u41, u42, u43, u44, u45, u46, u47, u48, u49, u50, u51, u52, u53, u54, u55, u56, u57, u58, u59, u60, u61, u62, u63, u64, u65, u66, u67, u68, u69, u70, u71, u72, u73, u74, u75, u76, u77, u78, u79, u80, u81, u82, u83, u84, u85, u86, u87, u88, u89, u90, u91, u92, u93, u94, u95, u96, u97, u98, u99, u100, u101, u102, u103, u104, u105, u106, u107, u108, u109, u110, u111, u112, u113, u114, u115, u116, u117, u118, u119, u120, u121, u122, u123, u124, u125, u126, u127, u128, u129, u130, u131, u132, u133, u134, u135, u136, u137, u138, u139, u140, u141, u142, u143, u144, u145, u146, u147, u148, u149, u150, u151, u152, u153, u154, u155, u156, u157, u158, u159, u160, u161, u162, u163, u164, u165, u166, u167, u168, u169, u170, u171, u172, u173, u174, u175, u176, u177, u178, u179, u180, u181, u182, u183, u184, u185, u186, u187, u188, u189, u190, u191, u192, u193, u194, u195, u196, u197, u198, u199, u200, u201, u202, u203, u204, u205, u206, u207, u208, u209, u210, u211, u212, u213, u214, u215, u216, u217, u218, u219, u220, u221, u222, u223, u224, u225, u226, u227, u228, u229, u230, u231, u232, u233, u234], []⟩ wr) Q0) ⟨#[(.slice a0 n cap), u1, u2, .pointer (some ⟨b3, 0, none⟩), .pointer (some ⟨b4, 0, none⟩), .int .i64 (j : Int), u6, u7, u8, u9, u10, u11, u12, u13, u14, u15, u16, u17, u18, u19, u20, u21, u22, u23, u24, u25, u26, u27, u28, u29, u30, u31, u32, u33, u34, u35, u36, u37, u38, u39, u40, u41, u42, u43, u44, u45, u46, u47, u48, u49, u50, u51, u52, u53, u54, u55, u56, u57, u58, u59, u60, u61, u62, u63, u64, u65, u66, u67, u68, u69, u70, u71, u72, u73, u74, u75, u76, u77, u78, u79, u80, u81, u82, u83, u84, u85, u86, u87, u88, u89, u90, u91, u92, u93, u94, u95, u96, u97, u98, u99, u100, u101, u102, u103, u104, u105, u106, u107, u108, u109, u110, u111, u112, u113, u114, u115, u116, u117, u118, u119, u120, u121, u122, u123, u124, u125, u126, u127, u128, u129, u130, u131, u132, u133, u134, u135, u136, u137, u138, u139, u140, u141, u142, u143, u144, u145, u146, u147, u148, u149, u150, u151, u152, u153, u154, u155, u156, u157, u158, u159, u160, u161, u162, u163, u164, u165, u166, u167, u168, u169, u170, u171, u172, u173, u174, u175, u176, u177, u178, u179, u180, u181, u182, u183, u184, u185, u186, u187, u188, u189, u190, u191, u192, u193, u194, u195, u196, u197, u198, u199, u200, u201, u202, u203, u204, u205, u206, u207, u208, u209, u210, u211, u212, u213, u214, u215, u216, u217, u218, u219, u220, u221, u222, u223, u224, u225, u226, u227, u228, u229, u230, u231, u232, u233, u234], []⟩ wr := by
  conv => arg 2; whnf
  have hltX := hX.lt
  have hjn : (j : Int) < (n : Int) := by omega
  have hj12 : (j : Int) < 120 := by omega
  have hjw : wrap64 ((j : Int) + 1) = (j : Int) + 1 := by unfold wrap64; omega
  obtain ⟨hlj, hx⟩ := hx
  have IW := fun w2 => index_runW hX j hlj w2
  have hMv := B.map 0 rfl
  have hwN : (Lit.int .i64 x.2.2.2.2).wf = true := hwx x (hx ▸ List.getElem_mem hlj)
  have hrg := (hX.keep B.base hltX).at j hlj hx
  clear hx
  have CPk := fun w => pickP_any x.1 4 w (by decide) (by decide)
  have CP3 := fun w => pickP_any x.2.2.2.2 3 w (by decide) (by decide)
  have CDr := fun w => drain_any f g (x.2.2.2.2 % 3) w
  have CUn := fun w => undrain_any f g (x.2.2.2.2 % 3) w
  rw [show drainS f g (x.2.2.2.2 % 3) true = .tuple #[.agg (pc f (drainG g (x.2.2.2.2 % 3) true)), .int .i64 (drainE g (x.2.2.2.2 % 3) true)] from rfl] at CDr
  rw [show drainS f g (x.2.2.2.2 % 3) false = .tuple #[.agg (pc f (drainG g (x.2.2.2.2 % 3) false)), .int .i64 (drainE g (x.2.2.2.2 % 3) false)] from rfl] at CUn
  unfold plv at CDr CUn
  rw [hkd] at CPk
  clear hkd hlj
  go_upto_region 13 with (first | ((with_reducible refine at_opB (.indexAddr 49 (.tmp 38) (.tmp 39)) rfl ?_); refine wpList_indexW (.tmp 38) (.tmp 39) rfl rfl _ _ _ rfl rfl (IW _) ?_) | ((with_reducible refine at_opB (.load 52 (.tmp 40)) rfl ?_); refine wpList_loadW 52 (.tmp 40) rfl rfl _ _ rfl (mcl x) hrg _ Try.underlying52 rfl (wishl_info x) ?_; (try rw [mcl_mc])) | ((with_reducible refine at_opB (.alloc 52) rfl ?_); refine wpList_allocX 6 52 rfl rfl rfl _ wish_zero ?_; intro b6 w9 l9 R9 h9; replace B := B.alloc l9 R9 h9; clear R9 h9 l9; clear hrg) | ((with_reducible refine at_opB (.store 52 (.tmp 6) (.tmp 41)) rfl ?_); refine wpList_storeR 52 rfl (.tmp 6) _ rfl b6 rfl (mc x) rfl _ (B.row 0 rfl) rfl (wish_info _) (mc_one _) ?_; intro w9 R9 t9; replace B := B.turn 0 rfl R9 t9; clear R9 t9) | ((with_reducible refine at_opB (.load 30 (.tmp 3)) rfl ?_); refine wpList_loadR 30 (.tmp 3) rfl (by kernel_rfl) b3 rfl (tc f g h (.slice a1 lv c1)) (B.row 1 rfl) _ Try.underlying30 rfl (tc_info _ _ _ _) ?_) | ((with_reducible refine at_opB (.alloc 30) rfl ?_); refine wpList_allocX 7 30 rfl rfl rfl _ table_zero ?_; intro b7 w9 l9 R9 h9; replace B := B.alloc l9 R9 h9; clear R9 h9 l9) | ((with_reducible refine at_opB (.store 30 (.tmp 7) (.tmp 42)) rfl ?_); refine wpList_storeR 30 rfl (.tmp 7) _ rfl b7 rfl (tc f g h (.slice a1 lv c1)) rfl _ (B.row 0 rfl) (tc_sz _ _ _ _ _ _ _ _) (tc_info _ _ _ _) (tc_one _ _ _ _ _ _) ?_; intro w9 R9 t9; replace B := B.turn 0 rfl R9 t9; clear R9 t9) | ((with_reducible refine at_opB (.load 3 (.tmp 43)) rfl ?_); refine wpList_loadF (B.row 1 rfl) _ rfl (by kernel_rfl) 0 rfl (x.1) rfl ?_) | (go_at_call 23; go_fit (CPk _); rintro e w' ⟨rfl, hw⟩; rw [hw]; clear hw w'))
  clear CPk IW
  by_cases h0 : ms.length = 0
  · have hlv : ¬ (0 : Int) < (lv : Int) := by have := HLn.out; omega
    clear h0 CP3 CDr CUn
    have k29 : World.cell? _ ⟨b3, 29, none⟩ = some (.slice a1 lv c1) := ((B.row 2 rfl).cell 29).trans (tc_maps _ _ _ _)
    go_upto_region 35 with (fail)
    clear k29
    go_wp2_with (first | ((with_reducible refine at_opB (.load 30 (.tmp 3)) rfl ?_); refine wpList_loadR 30 (.tmp 3) rfl (by kernel_rfl) b3 rfl (tc f g h (.slice a1 lv c1)) (B.row 2 rfl) _ Try.underlying30 rfl (tc_info _ _ _ _) ?_) | (go_at_call 14; go_fit (goodt_any f g h (.slice a1 lv c1) ms (GoodT.wf HG.out) _ (B.map 0 rfl)); rintro e w30 ⟨r', hr', rfl, hb30⟩; obtain rfl : r' = true := (hr'.2 HG.out); clear hr'; replace B := B.below hb30; clear hb30))
    (refine ⟨?_, ?measure⟩; unfold WP; (repeat apply Exists.intro); refine ⟨?rel, rfl⟩)
    case rel => first | exact ⟨j + 1, by omega, by omega, castB j, f, g, h, a1, lv, c1, ms, B.two 2 3 (by decide) rfl rfl 0 rfl, hnil, HG, HLn⟩ | exact ⟨j + 1, by omega, by omega, castBW hjw, f, g, h, a1, lv, c1, ms, B.two 2 3 (by decide) rfl rfl 0 rfl, hnil, HG, HLn⟩ | ((repeat apply Exists.intro); first | exact ⟨⟨j + 1, by omega, by omega, castB j, f, g, h, a1, lv, c1, ms, B.two 2 3 (by decide) rfl rfl 0 rfl, hnil, HG, HLn⟩, rfl⟩ | exact ⟨⟨j + 1, by omega, by omega, castBW hjw, f, g, h, a1, lv, c1, ms, B.two 2 3 (by decide) rfl rfl 0 rfl, hnil, HG, HLn⟩, rfl⟩)
    case measure => unfold WPmu; (first | rw [hjw] | skip); exact meas_play hj120
  · have hlv : (0 : Int) < (lv : Int) := by have := HLn.out; omega
    have CPl := fun w => pickP_any x.2.2.2.2 (lv : Int) w hlv (by have := hMv.len; have := HLn.out; omega)
    obtain ⟨jj, hjj, hjl⟩ : ∃ jj : Nat, x.2.2.2.2 % (lv : Int) = (jj : Int) ∧ jj < ms.length := ⟨(x.2.2.2.2 % (lv : Int)).toNat, by have := Int.emod_nonneg x.2.2.2.2 (show (lv : Int) ≠ 0 by omega); omega, by have := Int.emod_lt_of_pos x.2.2.2.2 hlv; have := Int.emod_nonneg x.2.2.2.2 (show (lv : Int) ≠ 0 by omega); have := HLn.out; omega⟩
    rw [hjj] at CPl
    have IM := fun w => index_runM hMv jj hjl w
    obtain ⟨m, hm⟩ : ∃ m, ms[jj] = m := ⟨_, rfl⟩
    have HM : Hid (ms[jj] = m) := hm
    have HJJ : Hid (jj < ms.length) := hjl
    have hmem : m ∈ ms := hm ▸ List.getElem_mem hjl
    obtain ⟨f2, h2, took, hg2, CC⟩ := close_play f g h (.slice a1 lv c1) ms m (GoodT.wf HG.out) HG.out hmem
    have HG2 : Hid (GoodT f2 h2 (dropM ms m)) := hg2
    have CF := fun v w hM => find_any f2 g h2 v (dropM ms m) m.1 m.2.1 m.2.2.1 w hM
    rw [find_gone HG.out hmem] at CF
    unfold foundS at CF
    obtain ⟨lv2, hlv2⟩ : ∃ n, n = (dropM ms m).length := ⟨_, rfl⟩
    have HLn2 : Hid (lv2 = (dropM ms m).length) := hlv2
    have hone : ((lv : Int) - (lv2 : Int) != 1) = false := by have h1 := drop_one HG.out hmem; have := HLn.out; rw [← hlv2] at h1; simp; omega
    have hsw : wrap64 ((lv : Int) - (lv2 : Int)) = (lv : Int) - (lv2 : Int) := by have h1 := drop_one HG.out hmem; have := HLn.out; rw [← hlv2] at h1; unfold wrap64; omega
    clear h0 hjj hm hmem hg2 hlv2 CP3 CDr CUn
    have k29 : World.cell? _ ⟨b3, 29, none⟩ = some (.slice a1 lv c1) := ((B.row 2 rfl).cell 29).trans (tc_maps _ _ _ _)
    go_upto_region 28 with (fail)
    clear k29
    have kS := ks28 (B.row 2 rfl) (B.row 1 rfl) (B.map 0 rfl) HJJ.out HM.out
    refine wp_region_noPanic ?_
    refine wp_region_held_drew (S := fun W => W.cell? ⟨b3, 29, none⟩ = some (.slice a1 lv c1) ∧ W.cell? ⟨b6, 4, none⟩ = some (.int .i64 x.2.2.2.2) ∧ W.rangeAt (mb (.slice a1 lv c1)) (mo (.slice a1 lv c1) + 5 * jj) (mcl m)) (by kernel_rfl) kS (fun _ => ?_)
    refine wpAnyH_take (i := 0) (v := .pointer (some ⟨b3, 29, none⟩)) rfl (by kernel_rfl) (by kernel_rfl) (by kernel_rfl) (fun _ _ _ h => h) (Or.inl ⟨by kernel_rfl, by intro w hS; go_simp⟩) kS ?_
    simp only [Act.put, List.getElem_toArray, List.getElem_cons_succ, List.getElem_cons_zero, List.setIfInBounds_toArray, List.set_cons_zero, List.set_cons_succ]
    refine wpAnyH_take (i := 1) (v := .slice a1 lv c1) rfl (by kernel_rfl) (by kernel_rfl) (by kernel_rfl) (fun _ _ _ h => h) (Or.inl ⟨by kernel_rfl, by intro w hS; have hc := hS.1; go_simp⟩) kS ?_
    simp only [Act.put, List.getElem_toArray, List.getElem_cons_succ, List.getElem_cons_zero, List.setIfInBounds_toArray, List.set_cons_zero, List.set_cons_succ]
    refine wpAnyH_take (i := 2) (v := .pointer (some ⟨b6, 4, none⟩)) rfl (by kernel_rfl) (by kernel_rfl) (by kernel_rfl) (fun _ _ _ h => h) (Or.inl ⟨by kernel_rfl, by intro w hS; go_simp⟩) kS ?_
    simp only [Act.put, List.getElem_toArray, List.getElem_cons_succ, List.getElem_cons_zero, List.setIfInBounds_toArray, List.set_cons_zero, List.set_cons_succ]
    refine wpAnyH_take (i := 3) (v := .int .i64 x.2.2.2.2) rfl (by kernel_rfl) (by kernel_rfl) (by kernel_rfl) (fun _ _ _ h => h) (Or.inl ⟨by kernel_rfl, by intro w hS; have hc := hS.2.1; go_simp⟩) kS ?_
    simp only [Act.put, List.getElem_toArray, List.getElem_cons_succ, List.getElem_cons_zero, List.setIfInBounds_toArray, List.set_cons_zero, List.set_cons_succ]
    refine wpAnyH_take (i := 4) (v := .pointer (some ⟨b3, 29, none⟩)) rfl (by kernel_rfl) (by kernel_rfl) (by kernel_rfl) (fun _ _ _ h => h) (Or.inl ⟨by kernel_rfl, by intro w hS; go_simp⟩) kS ?_
    simp only [Act.put, List.getElem_toArray, List.getElem_cons_succ, List.getElem_cons_zero, List.setIfInBounds_toArray, List.set_cons_zero, List.set_cons_succ]
    refine wpAnyH_take (i := 5) (v := .slice a1 lv c1) rfl (by kernel_rfl) (by kernel_rfl) (by kernel_rfl) (fun _ _ _ h => h) (Or.inl ⟨by kernel_rfl, by intro w hS; have hc := hS.1; go_simp⟩) kS ?_
    simp only [Act.put, List.getElem_toArray, List.getElem_cons_succ, List.getElem_cons_zero, List.setIfInBounds_toArray, List.set_cons_zero, List.set_cons_succ]
    refine wpAnyH_take (i := 6) (v := .int .i64 (lv : Int)) rfl (by kernel_rfl) (by kernel_rfl) (by kernel_rfl) (fun _ _ _ h => h) (Or.inl ⟨by kernel_rfl, by intro w hS; go_simp⟩) kS ?_
    simp only [Act.put, List.getElem_toArray, List.getElem_cons_succ, List.getElem_cons_zero, List.setIfInBounds_toArray, List.set_cons_zero, List.set_cons_succ]
    refine wpAnyH_ready (rs := [7, 10]) (by kernel_rfl) (by simp) ?_
    refine AllReadyH.cons rfl (fun K hK => ?_) ?_
    · go_simp
      go_at_call 23; refine (CPl _).mono ?_; rintro e w18 ⟨rfl, hw⟩; rw [hw]; clear hw w18
      go_wp2_with fail
      refine hK.out _ _ kS (fun _ => ?_)
      clear hK K
      try simp only [Act.put, List.getElem_toArray, List.getElem_cons_succ, List.getElem_cons_zero, List.setIfInBounds_toArray, List.set_cons_zero, List.set_cons_succ]
      refine wpAnyH_take (i := 8) (v := .pointer (some ⟨mb (.slice a1 lv c1), mo (.slice a1 lv c1) + 5 * jj, none⟩)) rfl (by kernel_rfl) (by kernel_rfl) (by kernel_rfl) (fun _ _ _ h => h) (yields_indexR (.tmp 178) (.tmp 184) rfl (by kernel_rfl) _ _ _ (by kernel_rfl) (by kernel_rfl) IM) kS ?_
      simp only [Act.put, List.getElem_toArray, List.getElem_cons_succ, List.getElem_cons_zero, List.setIfInBounds_toArray, List.set_cons_zero, List.set_cons_succ]
      refine wpAnyH_take (i := 9) (v := .agg (mc m)) rfl (by kernel_rfl) (by kernel_rfl) (by kernel_rfl) (fun _ _ _ h => h) (yields_loadM (.tmp 185) rfl (by kernel_rfl) _ _ (by kernel_rfl) m (fun _ h => h.2.2)) kS ?_
      simp only [Act.put, List.getElem_toArray, List.getElem_cons_succ, List.getElem_cons_zero, List.setIfInBounds_toArray, List.set_cons_zero, List.set_cons_succ]
      refine wpAnyH_ready (rs := [10]) (by kernel_rfl) (by simp) ?_
      refine AllReadyH.cons rfl (fun K hK => ?_) ?_
      · rw [if_pos (by kernel_rfl)]
        refine wp_allocR2 32 rfl _ map_zero ?_; intro b22 w9 l9 R9 h9; (first | replace h9 := below_undrP h9 | skip); replace B := B.alloc l9 R9 h9; clear R9 h9 l9; (first | replace kS := ks28 (B.row 2 rfl) (B.row 1 rfl) (B.map 0 rfl) HJJ.out HM.out | replace kS := ks28 (B.row 3 rfl) (B.row 2 rfl) (B.map 0 rfl) HJJ.out HM.out)
        refine hK.out _ _ kS (fun _ => ?_)
        clear hK K
        try simp only [Act.put, List.getElem_toArray, List.getElem_cons_succ, List.getElem_cons_zero, List.setIfInBounds_toArray, List.set_cons_zero, List.set_cons_succ]
        refine wpAnyH_ready (rs := [11]) (by kernel_rfl) (by simp) ?_
        refine AllReadyH.cons rfl (fun K hK => ?_) ?_
        · rw [if_pos (by kernel_rfl)]
          refine wp_storeR 32 (.tmp 22) (.tmp 186) rfl b22 (by kernel_rfl) (mc m) (by kernel_rfl) _ (B.row 0 rfl) rfl (mc_info _) (mc_one _) ?_; intro w9 R9 t9; (first | replace t9 := turned_undrP t9 | skip); replace B := B.turn 0 rfl R9 t9; clear R9 t9; (first | replace kS := ks28 (B.row 2 rfl) (B.row 1 rfl) (B.map 0 rfl) HJJ.out HM.out | replace kS := ks28 (B.row 3 rfl) (B.row 2 rfl) (B.map 0 rfl) HJJ.out HM.out)
          refine hK.out _ _ kS (fun _ => ?_)
          clear hK K
          try simp only [Act.put, List.getElem_toArray, List.getElem_cons_succ, List.getElem_cons_zero, List.setIfInBounds_toArray, List.set_cons_zero, List.set_cons_succ]
          refine wpAnyH_done (by kernel_rfl) ?_ _
          refine NoPanic.normal ?_
          clear kS
          go_upto_region 35 with (first | ((with_reducible refine at_opB (.load 30 (.tmp 3)) rfl ?_); refine wpList_loadR 30 (.tmp 3) rfl (by kernel_rfl) b3 rfl (tc f g h (.slice a1 lv c1)) (B.row 3 rfl) _ Try.underlying30 rfl (tc_info _ _ _ _) ?_) | ((with_reducible refine at_opB (.load 32 (.tmp 22)) rfl ?_); refine wpList_loadR 32 (.tmp 22) rfl (by kernel_rfl) b22 rfl (mc m) (B.row 0 rfl) _ Try.underlying32 rfl (mc_info _) ?_) | (go_at_call 20; go_fit (CC _ (B.map 0 rfl)); rintro e w5 ⟨v5, rfl, hM5, hN5, hl5, hb5⟩; replace B := B.addNew hb5 hM5 hl5; clear hb5 hl5; (obtain ⟨a2, c2, hv5, -⟩ := id hM5); clear hM5; rw [← HLn2.out] at hv5; subst hv5) | ((with_reducible refine at_opB (.store 30 (.tmp 3) (.tmp 191)) rfl ?_); refine wpList_storeR 30 rfl (.tmp 3) _ rfl b3 rfl (tc f2 g h2 (.slice a2 lv2 c2)) rfl _ (B.row 3 rfl) (tc_sz _ _ _ _ _ _ _ _) (tc_info _ _ _ _) (tc_one _ _ _ _ _ _) ?_; intro w9 R9 t9; replace B := B.turn 3 rfl R9 t9; clear R9 t9) | ((with_reducible refine at_opB (.load 30 (.tmp 3)) rfl ?_); refine wpList_loadR 30 (.tmp 3) rfl (by kernel_rfl) b3 rfl (tc f2 g h2 (.slice a2 lv2 c2)) (B.row 3 rfl) _ Try.underlying30 rfl (tc_info _ _ _ _) ?_) | ((with_reducible refine at_opB (.load 3 (.tmp 196)) rfl ?_); refine wpList_loadF (B.row 0 rfl) _ rfl (by kernel_rfl) 0 rfl (m.1) rfl ?_) | ((with_reducible refine at_opB (.load 3 (.tmp 198)) rfl ?_); refine wpList_loadF (B.row 0 rfl) _ rfl (by kernel_rfl) 1 rfl (m.2.1) rfl ?_) | ((with_reducible refine at_opB (.load 3 (.tmp 200)) rfl ?_); refine wpList_loadF (B.row 0 rfl) _ rfl (by kernel_rfl) 2 rfl (m.2.2.1) rfl ?_) | (go_at_call 7; go_fit (CF _ _ (B.map 0 rfl)); rintro e w5 ⟨rfl, hb5⟩; replace B := B.below hb5; clear hb5) | ((with_reducible refine at_opB (.alloc 32) rfl ?_); refine wpList_allocX 23 32 rfl rfl rfl _ map_zero ?_; intro b23 w9 l9 R9 h9; replace B := B.alloc l9 R9 h9; clear R9 h9 l9) | ((with_reducible refine at_opB (.store 32 (.tmp 23) (.tmp 203)) rfl ?_); refine wpList_storeR 32 rfl (.tmp 23) _ rfl b23 rfl (mc noM) rfl _ (B.row 0 rfl) rfl (mc_info _) (mc_one _) ?_; intro w9 R9 t9; replace B := B.turn 0 rfl R9 t9; clear R9 t9; have k7 : World.cell? _ ⟨b7, 29, none⟩ = some (.slice a1 lv c1) := ((B.row 2 rfl).cell 29).trans (tc_maps _ _ _ _); have k3 : World.cell? _ ⟨b3, 29, none⟩ = some (.slice a2 lv2 c2) := ((B.row 4 rfl).cell 29).trans (tc_maps _ _ _ _)))
          clear k7 k3
          go_wp2_with (first | ((with_reducible refine at_opB (.load 30 (.tmp 3)) rfl ?_); refine wpList_loadR 30 (.tmp 3) rfl (by kernel_rfl) b3 rfl (tc f2 g h2 (.slice a2 lv2 c2)) (B.row 4 rfl) _ Try.underlying30 rfl (tc_info _ _ _ _) ?_) | (go_at_call 14; go_fit (goodt_any f2 g h2 (.slice a2 lv2 c2) (dropM ms m) (GoodT.wf HG2.out) _ (B.map 0 rfl)); rintro e w30 ⟨r', hr', rfl, hb30⟩; obtain rfl : r' = true := (hr'.2 HG2.out); clear hr'; replace B := B.below hb30; clear hb30))
          (refine ⟨?_, ?measure⟩; unfold WP; (repeat apply Exists.intro); refine ⟨?rel, rfl⟩)
          case rel => first | exact ⟨j + 1, by omega, by omega, castB j, f2, g, h2, a2, lv2, c2, (dropM ms m), B.two 4 5 (by decide) rfl rfl 0 rfl, hN5, HG2, HLn2⟩ | exact ⟨j + 1, by omega, by omega, castBW hjw, f2, g, h2, a2, lv2, c2, (dropM ms m), B.two 4 5 (by decide) rfl rfl 0 rfl, hN5, HG2, HLn2⟩ | ((repeat apply Exists.intro); first | exact ⟨⟨j + 1, by omega, by omega, castB j, f2, g, h2, a2, lv2, c2, (dropM ms m), B.two 4 5 (by decide) rfl rfl 0 rfl, hN5, HG2, HLn2⟩, rfl⟩ | exact ⟨⟨j + 1, by omega, by omega, castBW hjw, f2, g, h2, a2, lv2, c2, (dropM ms m), B.two 4 5 (by decide) rfl rfl 0 rfl, hN5, HG2, HLn2⟩, rfl⟩)
          case measure => unfold WPmu; (first | rw [hjw] | skip); exact meas_play hj120
        exact AllReadyH.nil
      exact AllReadyH.nil
    refine AllReadyH.cons rfl (fun K hK => ?_) ?_
    · rw [if_pos (by kernel_rfl)]
      refine wp_allocR2 32 rfl _ map_zero ?_; intro b22 w9 l9 R9 h9; (first | replace h9 := below_undrP h9 | skip); replace B := B.alloc l9 R9 h9; clear R9 h9 l9; (first | replace kS := ks28 (B.row 2 rfl) (B.row 1 rfl) (B.map 0 rfl) HJJ.out HM.out | replace kS := ks28 (B.row 3 rfl) (B.row 2 rfl) (B.map 0 rfl) HJJ.out HM.out)
      refine hK.out _ _ kS (fun _ => ?_)
      clear hK K
      try simp only [Act.put, List.getElem_toArray, List.getElem_cons_succ, List.getElem_cons_zero, List.setIfInBounds_toArray, List.set_cons_zero, List.set_cons_succ]
      refine wpAnyH_ready (rs := [7]) (by kernel_rfl) (by simp) ?_
      refine AllReadyH.cons rfl (fun K hK => ?_) ?_
      · go_simp
        go_at_call 23; refine (CPl _).mono ?_; rintro e w18 ⟨rfl, hw⟩; rw [hw]; clear hw w18
        go_wp2_with fail
        refine hK.out _ _ kS (fun _ => ?_)
        clear hK K
        try simp only [Act.put, List.getElem_toArray, List.getElem_cons_succ, List.getElem_cons_zero, List.setIfInBounds_toArray, List.set_cons_zero, List.set_cons_succ]
        refine wpAnyH_take (i := 8) (v := .pointer (some ⟨mb (.slice a1 lv c1), mo (.slice a1 lv c1) + 5 * jj, none⟩)) rfl (by kernel_rfl) (by kernel_rfl) (by kernel_rfl) (fun _ _ _ h => h) (yields_indexR (.tmp 178) (.tmp 184) rfl (by kernel_rfl) _ _ _ (by kernel_rfl) (by kernel_rfl) IM) kS ?_
        simp only [Act.put, List.getElem_toArray, List.getElem_cons_succ, List.getElem_cons_zero, List.setIfInBounds_toArray, List.set_cons_zero, List.set_cons_succ]
        refine wpAnyH_take (i := 9) (v := .agg (mc m)) rfl (by kernel_rfl) (by kernel_rfl) (by kernel_rfl) (fun _ _ _ h => h) (yields_loadM (.tmp 185) rfl (by kernel_rfl) _ _ (by kernel_rfl) m (fun _ h => h.2.2)) kS ?_
        simp only [Act.put, List.getElem_toArray, List.getElem_cons_succ, List.getElem_cons_zero, List.setIfInBounds_toArray, List.set_cons_zero, List.set_cons_succ]
        refine wpAnyH_ready (rs := [11]) (by kernel_rfl) (by simp) ?_
        refine AllReadyH.cons rfl (fun K hK => ?_) ?_
        · rw [if_pos (by kernel_rfl)]
          refine wp_storeR 32 (.tmp 22) (.tmp 186) rfl b22 (by kernel_rfl) (mc m) (by kernel_rfl) _ (B.row 0 rfl) rfl (mc_info _) (mc_one _) ?_; intro w9 R9 t9; (first | replace t9 := turned_undrP t9 | skip); replace B := B.turn 0 rfl R9 t9; clear R9 t9; (first | replace kS := ks28 (B.row 2 rfl) (B.row 1 rfl) (B.map 0 rfl) HJJ.out HM.out | replace kS := ks28 (B.row 3 rfl) (B.row 2 rfl) (B.map 0 rfl) HJJ.out HM.out)
          refine hK.out _ _ kS (fun _ => ?_)
          clear hK K
          try simp only [Act.put, List.getElem_toArray, List.getElem_cons_succ, List.getElem_cons_zero, List.setIfInBounds_toArray, List.set_cons_zero, List.set_cons_succ]
          refine wpAnyH_done (by kernel_rfl) ?_ _
          refine NoPanic.normal ?_
          clear kS
          go_upto_region 35 with (first | ((with_reducible refine at_opB (.load 30 (.tmp 3)) rfl ?_); refine wpList_loadR 30 (.tmp 3) rfl (by kernel_rfl) b3 rfl (tc f g h (.slice a1 lv c1)) (B.row 3 rfl) _ Try.underlying30 rfl (tc_info _ _ _ _) ?_) | ((with_reducible refine at_opB (.load 32 (.tmp 22)) rfl ?_); refine wpList_loadR 32 (.tmp 22) rfl (by kernel_rfl) b22 rfl (mc m) (B.row 0 rfl) _ Try.underlying32 rfl (mc_info _) ?_) | (go_at_call 20; go_fit (CC _ (B.map 0 rfl)); rintro e w5 ⟨v5, rfl, hM5, hN5, hl5, hb5⟩; replace B := B.addNew hb5 hM5 hl5; clear hb5 hl5; (obtain ⟨a2, c2, hv5, -⟩ := id hM5); clear hM5; rw [← HLn2.out] at hv5; subst hv5) | ((with_reducible refine at_opB (.store 30 (.tmp 3) (.tmp 191)) rfl ?_); refine wpList_storeR 30 rfl (.tmp 3) _ rfl b3 rfl (tc f2 g h2 (.slice a2 lv2 c2)) rfl _ (B.row 3 rfl) (tc_sz _ _ _ _ _ _ _ _) (tc_info _ _ _ _) (tc_one _ _ _ _ _ _) ?_; intro w9 R9 t9; replace B := B.turn 3 rfl R9 t9; clear R9 t9) | ((with_reducible refine at_opB (.load 30 (.tmp 3)) rfl ?_); refine wpList_loadR 30 (.tmp 3) rfl (by kernel_rfl) b3 rfl (tc f2 g h2 (.slice a2 lv2 c2)) (B.row 3 rfl) _ Try.underlying30 rfl (tc_info _ _ _ _) ?_) | ((with_reducible refine at_opB (.load 3 (.tmp 196)) rfl ?_); refine wpList_loadF (B.row 0 rfl) _ rfl (by kernel_rfl) 0 rfl (m.1) rfl ?_) | ((with_reducible refine at_opB (.load 3 (.tmp 198)) rfl ?_); refine wpList_loadF (B.row 0 rfl) _ rfl (by kernel_rfl) 1 rfl (m.2.1) rfl ?_) | ((with_reducible refine at_opB (.load 3 (.tmp 200)) rfl ?_); refine wpList_loadF (B.row 0 rfl) _ rfl (by kernel_rfl) 2 rfl (m.2.2.1) rfl ?_) | (go_at_call 7; go_fit (CF _ _ (B.map 0 rfl)); rintro e w5 ⟨rfl, hb5⟩; replace B := B.below hb5; clear hb5) | ((with_reducible refine at_opB (.alloc 32) rfl ?_); refine wpList_allocX 23 32 rfl rfl rfl _ map_zero ?_; intro b23 w9 l9 R9 h9; replace B := B.alloc l9 R9 h9; clear R9 h9 l9) | ((with_reducible refine at_opB (.store 32 (.tmp 23) (.tmp 203)) rfl ?_); refine wpList_storeR 32 rfl (.tmp 23) _ rfl b23 rfl (mc noM) rfl _ (B.row 0 rfl) rfl (mc_info _) (mc_one _) ?_; intro w9 R9 t9; replace B := B.turn 0 rfl R9 t9; clear R9 t9; have k7 : World.cell? _ ⟨b7, 29, none⟩ = some (.slice a1 lv c1) := ((B.row 2 rfl).cell 29).trans (tc_maps _ _ _ _); have k3 : World.cell? _ ⟨b3, 29, none⟩ = some (.slice a2 lv2 c2) := ((B.row 4 rfl).cell 29).trans (tc_maps _ _ _ _)))
          clear k7 k3
          go_wp2_with (first | ((with_reducible refine at_opB (.load 30 (.tmp 3)) rfl ?_); refine wpList_loadR 30 (.tmp 3) rfl (by kernel_rfl) b3 rfl (tc f2 g h2 (.slice a2 lv2 c2)) (B.row 4 rfl) _ Try.underlying30 rfl (tc_info _ _ _ _) ?_) | (go_at_call 14; go_fit (goodt_any f2 g h2 (.slice a2 lv2 c2) (dropM ms m) (GoodT.wf HG2.out) _ (B.map 0 rfl)); rintro e w30 ⟨r', hr', rfl, hb30⟩; obtain rfl : r' = true := (hr'.2 HG2.out); clear hr'; replace B := B.below hb30; clear hb30))
          (refine ⟨?_, ?measure⟩; unfold WP; (repeat apply Exists.intro); refine ⟨?rel, rfl⟩)
          case rel => first | exact ⟨j + 1, by omega, by omega, castB j, f2, g, h2, a2, lv2, c2, (dropM ms m), B.two 4 5 (by decide) rfl rfl 0 rfl, hN5, HG2, HLn2⟩ | exact ⟨j + 1, by omega, by omega, castBW hjw, f2, g, h2, a2, lv2, c2, (dropM ms m), B.two 4 5 (by decide) rfl rfl 0 rfl, hN5, HG2, HLn2⟩ | ((repeat apply Exists.intro); first | exact ⟨⟨j + 1, by omega, by omega, castB j, f2, g, h2, a2, lv2, c2, (dropM ms m), B.two 4 5 (by decide) rfl rfl 0 rfl, hN5, HG2, HLn2⟩, rfl⟩ | exact ⟨⟨j + 1, by omega, by omega, castBW hjw, f2, g, h2, a2, lv2, c2, (dropM ms m), B.two 4 5 (by decide) rfl rfl 0 rfl, hN5, HG2, HLn2⟩, rfl⟩)
          case measure => unfold WPmu; (first | rw [hjw] | skip); exact meas_play hj120
        exact AllReadyH.nil
      exact AllReadyH.nil
    exact AllReadyH.nil
end Go.Proofs.Ytmdijjbkjcnbpaa

namespace Go.Proofs.Ytmdijjbkjcnbpaa
open Go.ChangeShapes Go.WideShapes Go.ChangeAt Go.RowKit
set_option linter.unusedSimpArgs false
set_option linter.unusedVariables false

attribute [local irreducible] tc pc
set_option maxRecDepth 1000000 in
set_option maxHeartbeats 8000000 in
theorem play_k2 {w wr : World} {b3 b4 : Nat} {f : Nat → Int} {g : Nat → Bool} {h : Nat → Int} {a1 : Option Addr} {lv c1 : Nat} {ms : List Mp} {a0 : Option Addr} {n cap : Nat} {xs : List Mp} (u1 u2 u6 u7 u8 u9 u10 u11 u12 u13 u14 u15 u16 u17 u18 u19 u20 u21 u22 u23 u24 u25 u26 u27 u28 u29 u30 u31 u32 u33 u34 u35 u36 u37 u38 u39 u40 u41 u42 u43 u44 u45 u46 u47 u48 u49 u50 u51 u52 u53 u54 u55 u56 u57 u58 u59 u60 u61 u62 u63 u64 u65 u66 u67 u68 u69 u70 u71 u72 u73 u74 u75 u76 u77 u78 u79 u80 u81 u82 u83 u84 u85 u86 u87 u88 u89 u90 u91 u92 u93 u94 u95 u96 u97 u98 u99 u100 u101 u102 u103 u104 u105 u106 u107 u108 u109 u110 u111 u112 u113 u114 u115 u116 u117 u118 u119 u120 u121 u122 u123 u124 u125 u126 u127 u128 u129 u130 u131 u132 u133 u134 u135 u136 u137 u138 u139 u140 u141 u142 u143 u144 u145 u146 u147 u148 u149 u150 u151 u152 u153 u154 u155 u156 u157 u158 u159 u160 u161 u162 u163 u164 u165 u166 u167 u168 u169 u170 u171 u172 u173 u174 u175 u176 u177 u178 u179 u180 u181 u182 u183 u184 u185 u186 u187 u188 u189 u190 u191 u192 u193 u194 u195 u196 u197 u198 u199 u200 u201 u202 u203 u204 u205 u206 u207 u208 u209 u210 u211 u212 u213 u214 u215 u216 u217 u218 u219 u220 u221 u222 u223 u224 u225 u226 u227 u228 u229 u230 u231 u232 u233 u234 : Value) (j : Nat)
    (B : Bd w wr [(b3, 30, tc f g h (.slice a1 lv c1)), (b4, 50, pr3)] [(.slice a1 lv c1, ms)]) (hnil : NilOk (.slice a1 lv c1)) (HG : Hid (GoodT f h ms)) (HLn : Hid (lv = ms.length)) (HN : Hid (n = xs.length)) (hX : MapsAt w (.slice a0 n cap) xs) (hwx : ∀ m ∈ xs, (Lit.int .i64 m.2.2.2.2).wf = true)
    (hjn' : j < n) (hj120 : j < 120) (x : Mp) (hx : ∃ hh : j < xs.length, xs[j] = x) (hkd : x.1 % 4 = 2) (Q0 : Exit → Act → World → Prop) :
    Code.wp Try.prog bodyP (Exit.then (fun a' W => WP w b3 b4 a0 n cap a' W ∧ WPmu a' W < WPmu ⟨#[(.slice a0 n cap), u1, u2, .pointer (some ⟨b3, 0, none⟩), .pointer (some ⟨b4, 0, none⟩), .int .i64 (j : Int), u6, u7, u8, u9, u10, u11, u12, u13, u14, u15, u16, u17, u18, u19, u20, u21, u22, u23, u24, u25, u26, u27, u28, u29, u30, u31, u32, u33, u34, u35, u36, u37, u38, u39, u40, u41, u42, u43, u44, u45, u46, u47, u48, u49, u50, u51, u52, u53, u54, u55, u56, u57, u58, u59, u60, u61, u62, u63, u64, u65, u66, u67, u68, u69, u70, u71, u72, u73, u74, u75, u76, u77, u78, u79, u80, u81, u82, u83, u84, u85, u86, u87, u88, u89, u90, u91, u92, u93, u94, u95, u96, u97, u98, u99, u100, u101, u102, u103, u104, u105, u106, u107, u108, u109, u110, u111, u112, u113, u114, u115, u116, u117, u118, u119, u120, u121, u122, u123, u124, u125, u126, u127, u128, u129, u130, u131, u132, u133, u134, u135, u136, u137, u138, u139, u140, u141, u142, u143, u144, u145, u146, u147, u148, u149, u150, u151, u152, u153, u154, u155, u156, u157, u158, u159, u160, u161, u162, u163, u164, u165, u166, u167, u168, u169, u170, u171, u172, u173, u174, u175, u176, u177, u178, u179, u180, u181, u182, u183, u184, u185, u186, u187, u188, u189, u190, u191, u192, u193, u194, u195, u196, u197, u198, u199, u200, u201, u202, u203, u204, u205, u206, u207, u208, u209, u210, u211, u212, u213, u214, u215, u216, u217, u218, u219, u220, u221, u222, u223, u224, u225, u226, u227, u228, u229, u230, u231, u232, u233, u234], []⟩ wr) Q0) ⟨#[(.slice a0 n cap), u1, u2, .pointer (some ⟨b3, 0, none⟩), .pointer (some ⟨b4, 0, none⟩), .int .i64 (j : Int), u6, u7, u8, u9, u10, u11, u12, u13, u14, u15, u16, u17, u18, u19, u20, u21, u22, u23, u24, u25, u26, u27, u28, u29, u30, u31, u32, u33, u34, u35, u36, u37, u38, u39, u40, u41, u42, u43, u44, u45, u46, u47, u48, u49, u50, u51, u52, u53, u54, u55, u56, u57, u58, u59, u60, u61, u62, u63, u64, u65, u66, u67, u68, u69, u70, u71, u72, u73, u74, u75, u76, u77, u78, u79, u80, u81, u82, u83, u84, u85, u86, u87, u88, u89, u90, u91, u92, u93, u94, u95, u96, u97, u98, u99, u100, u101, u102, u103, u104, u105, u106, u107, u108, u109, u110, u111, u112, u113, u114, u115, u116, u117, u118, u119, u120, u121, u122, u123, u124, u125, u126, u127, u128, u129, u130, u131, u132, u133, u134, u135, u136, u137, u138, u139, u140, u141, u142, u143, u144, u145, u146, u147, u148, u149, u150, u151, u152, u153, u154, u155, u156, u157, u158, u159, u160, u161, u162, u163, u164, u165, u166, u167, u168, u169, u170, u171, u172, u173, u174, u175, u176, u177, u178, u179, u180, u181, u182, u183, u184, u185, u186, u187, u188, u189, u190, u191, u192, u193, u194, u195, u196, u197, u198, u199, u200, u201, u202, u203, u204, u205, u206, u207, u208, u209, u210, u211, u212, u213, u214, u215, u216, u217, u218, u219, u220, u221, u222, u223, u224, u225, u226, u227, u228, u229, u230, u231, u232, u233, u234], []⟩ wr := by
  conv => arg 2; whnf
  have hltX := hX.lt
  have hjn : (j : Int) < (n : Int) := by omega
  have hj12 : (j : Int) < 120 := by omega
  have hjw : wrap64 ((j : Int) + 1) = (j : Int) + 1 := by unfold wrap64; omega
  obtain ⟨hlj, hx⟩ := hx
  have IW := fun w2 => index_runW hX j hlj w2
  have hMv := B.map 0 rfl
  have hwN : (Lit.int .i64 x.2.2.2.2).wf = true := hwx x (hx ▸ List.getElem_mem hlj)
  have hrg := (hX.keep B.base hltX).at j hlj hx
  clear hx
  have CPk := fun w => pickP_any x.1 4 w (by decide) (by decide)
  have CP3 := fun w => pickP_any x.2.2.2.2 3 w (by decide) (by decide)
  have CDr := fun w => drain_any f g (x.2.2.2.2 % 3) w
  have CUn := fun w => undrain_any f g (x.2.2.2.2 % 3) w
  rw [show drainS f g (x.2.2.2.2 % 3) true = .tuple #[.agg (pc f (drainG g (x.2.2.2.2 % 3) true)), .int .i64 (drainE g (x.2.2.2.2 % 3) true)] from rfl] at CDr
  rw [show drainS f g (x.2.2.2.2 % 3) false = .tuple #[.agg (pc f (drainG g (x.2.2.2.2 % 3) false)), .int .i64 (drainE g (x.2.2.2.2 % 3) false)] from rfl] at CUn
  unfold plv at CDr CUn
  rw [hkd] at CPk
  clear hkd hlj
  go_upto_region 13 with (first | ((with_reducible refine at_opB (.indexAddr 49 (.tmp 38) (.tmp 39)) rfl ?_); refine wpList_indexW (.tmp 38) (.tmp 39) rfl rfl _ _ _ rfl rfl (IW _) ?_) | ((with_reducible refine at_opB (.load 52 (.tmp 40)) rfl ?_); refine wpList_loadW 52 (.tmp 40) rfl rfl _ _ rfl (mcl x) hrg _ Try.underlying52 rfl (wishl_info x) ?_; (try rw [mcl_mc])) | ((with_reducible refine at_opB (.alloc 52) rfl ?_); refine wpList_allocX 6 52 rfl rfl rfl _ wish_zero ?_; intro b6 w9 l9 R9 h9; replace B := B.alloc l9 R9 h9; clear R9 h9 l9; clear hrg) | ((with_reducible refine at_opB (.store 52 (.tmp 6) (.tmp 41)) rfl ?_); refine wpList_storeR 52 rfl (.tmp 6) _ rfl b6 rfl (mc x) rfl _ (B.row 0 rfl) rfl (wish_info _) (mc_one _) ?_; intro w9 R9 t9; replace B := B.turn 0 rfl R9 t9; clear R9 t9) | ((with_reducible refine at_opB (.load 30 (.tmp 3)) rfl ?_); refine wpList_loadR 30 (.tmp 3) rfl (by kernel_rfl) b3 rfl (tc f g h (.slice a1 lv c1)) (B.row 1 rfl) _ Try.underlying30 rfl (tc_info _ _ _ _) ?_) | ((with_reducible refine at_opB (.alloc 30) rfl ?_); refine wpList_allocX 7 30 rfl rfl rfl _ table_zero ?_; intro b7 w9 l9 R9 h9; replace B := B.alloc l9 R9 h9; clear R9 h9 l9) | ((with_reducible refine at_opB (.store 30 (.tmp 7) (.tmp 42)) rfl ?_); refine wpList_storeR 30 rfl (.tmp 7) _ rfl b7 rfl (tc f g h (.slice a1 lv c1)) rfl _ (B.row 0 rfl) (tc_sz _ _ _ _ _ _ _ _) (tc_info _ _ _ _) (tc_one _ _ _ _ _ _) ?_; intro w9 R9 t9; replace B := B.turn 0 rfl R9 t9; clear R9 t9) | ((with_reducible refine at_opB (.load 3 (.tmp 43)) rfl ?_); refine wpList_loadF (B.row 1 rfl) _ rfl (by kernel_rfl) 0 rfl (x.1) rfl ?_) | (go_at_call 23; go_fit (CPk _); rintro e w' ⟨rfl, hw⟩; rw [hw]; clear hw w'))
  clear CPk IW
  go_upto_region 34 with (fail)
  have kS : World.cell? _ ⟨b6, 4, none⟩ = some (.int .i64 x.2.2.2.2) := ((B.row 1 rfl).cell 4).trans rfl
  refine wp_region_noPanic ?_
  refine wp_region_held_drew (S := fun W => W.cell? ⟨b6, 4, none⟩ = some (.int .i64 x.2.2.2.2)) (by kernel_rfl) kS (fun _ => ?_)
  refine wpAnyH_take (i := 0) (v := .pointer (some ⟨b3, 0, none⟩)) rfl (by kernel_rfl) (by kernel_rfl) (by kernel_rfl) (fun _ _ _ h => h) (Or.inl ⟨by kernel_rfl, by intro w hS; go_simp⟩) kS ?_
  simp only [Act.put, List.getElem_toArray, List.getElem_cons_succ, List.getElem_cons_zero, List.setIfInBounds_toArray, List.set_cons_zero, List.set_cons_succ]
  refine wpAnyH_take (i := 2) (v := .pointer (some ⟨b6, 4, none⟩)) rfl (by kernel_rfl) (by kernel_rfl) (by kernel_rfl) (fun _ _ _ h => h) (Or.inl ⟨by kernel_rfl, by intro w hS; go_simp⟩) kS ?_
  simp only [Act.put, List.getElem_toArray, List.getElem_cons_succ, List.getElem_cons_zero, List.setIfInBounds_toArray, List.set_cons_zero, List.set_cons_succ]
  refine wpAnyH_take (i := 3) (v := .int .i64 x.2.2.2.2) rfl (by kernel_rfl) (by kernel_rfl) (by kernel_rfl) (fun _ _ _ h => h) (Or.inl ⟨by kernel_rfl, by intro w hS; have hc := hS; go_simp⟩) kS ?_
  simp only [Act.put, List.getElem_toArray, List.getElem_cons_succ, List.getElem_cons_zero, List.setIfInBounds_toArray, List.set_cons_zero, List.set_cons_succ]
  refine wpAnyH_ready (rs := [1, 4]) (by kernel_rfl) (by simp) ?_
  refine AllReadyH.cons rfl (fun K hK => ?_) ?_
  · rw [if_pos (by kernel_rfl)]
    refine wp_load_mid 26 (.tmp 223) rfl b3 0 rfl (pc f g).toList _ (Row.pool (B.row 2 rfl)) Try.underlying26 rfl (by simpa using pc_info f g) ?_; (try simp only [Array.toArray_toList])
    refine hK.out _ _ kS (fun _ => ?_)
    clear hK K
    try simp only [Act.put, List.getElem_toArray, List.getElem_cons_succ, List.getElem_cons_zero, List.setIfInBounds_toArray, List.set_cons_zero, List.set_cons_succ]
    refine wpAnyH_ready (rs := [4]) (by kernel_rfl) (by simp) ?_
    refine AllReadyH.cons rfl (fun K hK => ?_) ?_
    · go_simp
      go_at_call 23; refine (CP3 _).mono ?_; rintro e w18 ⟨rfl, hw⟩; rw [hw]; clear hw w18
      go_wp2_with fail
      refine hK.out _ _ kS (fun _ => ?_)
      clear hK K
      try simp only [Act.put, List.getElem_toArray, List.getElem_cons_succ, List.getElem_cons_zero, List.setIfInBounds_toArray, List.set_cons_zero, List.set_cons_succ]
      refine wpAnyH_ready (rs := [5]) (by kernel_rfl) (by simp) ?_
      refine AllReadyH.cons rfl (fun K hK => ?_) ?_
      · go_simp
        go_at_call 25; refine (CDr _).mono ?_; rintro e w19 ⟨rfl, hb19⟩; (first | replace hb19 := below_undrP hb19 | skip); replace B := B.below hb19; clear hb19; replace kS : World.cell? _ ⟨b6, 4, none⟩ = some (.int .i64 x.2.2.2.2) := ((B.row 1 rfl).cell 4).trans rfl
        go_wp2_with fail
        refine hK.out _ _ kS (fun _ => ?_)
        clear hK K
        try simp only [Act.put, List.getElem_toArray, List.getElem_cons_succ, List.getElem_cons_zero, List.setIfInBounds_toArray, List.set_cons_zero, List.set_cons_succ]
        refine wpAnyH_take (i := 6) (v := .tuple #[.agg (pc f (drainG g (x.2.2.2.2 % 3) true)), .int .i64 (drainE g (x.2.2.2.2 % 3) true)]) rfl (by kernel_rfl) (by kernel_rfl) (by kernel_rfl) (fun _ _ _ h => h) (Or.inl ⟨by kernel_rfl, by intro w hS; go_simp⟩) kS ?_
        simp only [Act.put, List.getElem_toArray, List.getElem_cons_succ, List.getElem_cons_zero, List.setIfInBounds_toArray, List.set_cons_zero, List.set_cons_succ]
        refine wpAnyH_take (i := 7) (v := .agg (pc f (drainG g (x.2.2.2.2 % 3) true))) rfl (by kernel_rfl) (by kernel_rfl) (by kernel_rfl) (fun _ _ _ h => h) (Or.inl ⟨by kernel_rfl, by intro w hS; go_simp⟩) kS ?_
        simp only [Act.put, List.getElem_toArray, List.getElem_cons_succ, List.getElem_cons_zero, List.setIfInBounds_toArray, List.set_cons_zero, List.set_cons_succ]
        refine wpAnyH_take (i := 8) (v := .int .i64 (drainE g (x.2.2.2.2 % 3) true)) rfl (by kernel_rfl) (by kernel_rfl) (by kernel_rfl) (fun _ _ _ h => h) (Or.inl ⟨by kernel_rfl, by intro w hS; go_simp⟩) kS ?_
        simp only [Act.put, List.getElem_toArray, List.getElem_cons_succ, List.getElem_cons_zero, List.setIfInBounds_toArray, List.set_cons_zero, List.set_cons_succ]
        refine wpAnyH_take (i := 9) (v := .pointer (some ⟨b3, 0, none⟩)) rfl (by kernel_rfl) (by kernel_rfl) (by kernel_rfl) (fun _ _ _ h => h) (Or.inl ⟨by kernel_rfl, by intro w hS; go_simp⟩) kS ?_
        simp only [Act.put, List.getElem_toArray, List.getElem_cons_succ, List.getElem_cons_zero, List.setIfInBounds_toArray, List.set_cons_zero, List.set_cons_succ]
        refine wpAnyH_ready (rs := [10]) (by kernel_rfl) (by simp) ?_
        refine AllReadyH.cons rfl (fun K hK => ?_) ?_
        · rw [if_pos (by kernel_rfl)]
          refine wp_storeP (.tmp 231) (.tmp 229) rfl b3 (by kernel_rfl) f (drainG g (x.2.2.2.2 % 3) true) (by kernel_rfl) f g h (.slice a1 lv c1) (B.row 2 rfl) ?_; intro w20 R9 t9; (first | replace t9 := turned_undrP t9 | skip); replace B := B.turn 2 rfl R9 t9; clear R9 t9; replace kS : World.cell? _ ⟨b6, 4, none⟩ = some (.int .i64 x.2.2.2.2) := ((B.row 1 rfl).cell 4).trans rfl
          refine hK.out _ _ kS (fun _ => ?_)
          clear hK K
          try simp only [Act.put, List.getElem_toArray, List.getElem_cons_succ, List.getElem_cons_zero, List.setIfInBounds_toArray, List.set_cons_zero, List.set_cons_succ]
          refine wpAnyH_done (by kernel_rfl) ?_ _
          refine NoPanic.normal ?_
          clear kS
          go_wp2_with (first | ((with_reducible refine at_opB (.load 30 (.tmp 3)) rfl ?_); refine wpList_loadR 30 (.tmp 3) rfl (by kernel_rfl) b3 rfl (tc f (drainG g (x.2.2.2.2 % 3) true) h (.slice a1 lv c1)) (B.row 2 rfl) _ Try.underlying30 rfl (tc_info _ _ _ _) ?_) | (go_at_call 14; go_fit (goodt_any f (drainG g (x.2.2.2.2 % 3) true) h (.slice a1 lv c1) ms (GoodT.wf HG.out) _ (B.map 0 rfl)); rintro e w30 ⟨r', hr', rfl, hb30⟩; obtain rfl : r' = true := (hr'.2 HG.out); clear hr'; replace B := B.below hb30; clear hb30))
          (refine ⟨?_, ?measure⟩; unfold WP; (repeat apply Exists.intro); refine ⟨?rel, rfl⟩)
          case rel => first | exact ⟨j + 1, by omega, by omega, castB j, f, (drainG g (x.2.2.2.2 % 3) true), h, a1, lv, c1, ms, B.two 2 3 (by decide) rfl rfl 0 rfl, hnil, HG, HLn⟩ | exact ⟨j + 1, by omega, by omega, castBW hjw, f, (drainG g (x.2.2.2.2 % 3) true), h, a1, lv, c1, ms, B.two 2 3 (by decide) rfl rfl 0 rfl, hnil, HG, HLn⟩ | ((repeat apply Exists.intro); first | exact ⟨⟨j + 1, by omega, by omega, castB j, f, (drainG g (x.2.2.2.2 % 3) true), h, a1, lv, c1, ms, B.two 2 3 (by decide) rfl rfl 0 rfl, hnil, HG, HLn⟩, rfl⟩ | exact ⟨⟨j + 1, by omega, by omega, castBW hjw, f, (drainG g (x.2.2.2.2 % 3) true), h, a1, lv, c1, ms, B.two 2 3 (by decide) rfl rfl 0 rfl, hnil, HG, HLn⟩, rfl⟩)
          case measure => unfold WPmu; (first | rw [hjw] | skip); exact meas_play hj120
        exact AllReadyH.nil
      exact AllReadyH.nil
    exact AllReadyH.nil
  refine AllReadyH.cons rfl (fun K hK => ?_) ?_
  · go_simp
    go_at_call 23; refine (CP3 _).mono ?_; rintro e w18 ⟨rfl, hw⟩; rw [hw]; clear hw w18
    go_wp2_with fail
    refine hK.out _ _ kS (fun _ => ?_)
    clear hK K
    try simp only [Act.put, List.getElem_toArray, List.getElem_cons_succ, List.getElem_cons_zero, List.setIfInBounds_toArray, List.set_cons_zero, List.set_cons_succ]
    refine wpAnyH_ready (rs := [1]) (by kernel_rfl) (by simp) ?_
    refine AllReadyH.cons rfl (fun K hK => ?_) ?_
    · rw [if_pos (by kernel_rfl)]
      refine wp_load_mid 26 (.tmp 223) rfl b3 0 rfl (pc f g).toList _ (Row.pool (B.row 2 rfl)) Try.underlying26 rfl (by simpa using pc_info f g) ?_; (try simp only [Array.toArray_toList])
      refine hK.out _ _ kS (fun _ => ?_)
      clear hK K
      try simp only [Act.put, List.getElem_toArray, List.getElem_cons_succ, List.getElem_cons_zero, List.setIfInBounds_toArray, List.set_cons_zero, List.set_cons_succ]
      refine wpAnyH_ready (rs := [5]) (by kernel_rfl) (by simp) ?_
      refine AllReadyH.cons rfl (fun K hK => ?_) ?_
      · go_simp
        go_at_call 25; refine (CDr _).mono ?_; rintro e w19 ⟨rfl, hb19⟩; (first | replace hb19 := below_undrP hb19 | skip); replace B := B.below hb19; clear hb19; replace kS : World.cell? _ ⟨b6, 4, none⟩ = some (.int .i64 x.2.2.2.2) := ((B.row 1 rfl).cell 4).trans rfl
        go_wp2_with fail
        refine hK.out _ _ kS (fun _ => ?_)
        clear hK K
        try simp only [Act.put, List.getElem_toArray, List.getElem_cons_succ, List.getElem_cons_zero, List.setIfInBounds_toArray, List.set_cons_zero, List.set_cons_succ]
        refine wpAnyH_take (i := 6) (v := .tuple #[.agg (pc f (drainG g (x.2.2.2.2 % 3) true)), .int .i64 (drainE g (x.2.2.2.2 % 3) true)]) rfl (by kernel_rfl) (by kernel_rfl) (by kernel_rfl) (fun _ _ _ h => h) (Or.inl ⟨by kernel_rfl, by intro w hS; go_simp⟩) kS ?_
        simp only [Act.put, List.getElem_toArray, List.getElem_cons_succ, List.getElem_cons_zero, List.setIfInBounds_toArray, List.set_cons_zero, List.set_cons_succ]
        refine wpAnyH_take (i := 7) (v := .agg (pc f (drainG g (x.2.2.2.2 % 3) true))) rfl (by kernel_rfl) (by kernel_rfl) (by kernel_rfl) (fun _ _ _ h => h) (Or.inl ⟨by kernel_rfl, by intro w hS; go_simp⟩) kS ?_
        simp only [Act.put, List.getElem_toArray, List.getElem_cons_succ, List.getElem_cons_zero, List.setIfInBounds_toArray, List.set_cons_zero, List.set_cons_succ]
        refine wpAnyH_take (i := 8) (v := .int .i64 (drainE g (x.2.2.2.2 % 3) true)) rfl (by kernel_rfl) (by kernel_rfl) (by kernel_rfl) (fun _ _ _ h => h) (Or.inl ⟨by kernel_rfl, by intro w hS; go_simp⟩) kS ?_
        simp only [Act.put, List.getElem_toArray, List.getElem_cons_succ, List.getElem_cons_zero, List.setIfInBounds_toArray, List.set_cons_zero, List.set_cons_succ]
        refine wpAnyH_take (i := 9) (v := .pointer (some ⟨b3, 0, none⟩)) rfl (by kernel_rfl) (by kernel_rfl) (by kernel_rfl) (fun _ _ _ h => h) (Or.inl ⟨by kernel_rfl, by intro w hS; go_simp⟩) kS ?_
        simp only [Act.put, List.getElem_toArray, List.getElem_cons_succ, List.getElem_cons_zero, List.setIfInBounds_toArray, List.set_cons_zero, List.set_cons_succ]
        refine wpAnyH_ready (rs := [10]) (by kernel_rfl) (by simp) ?_
        refine AllReadyH.cons rfl (fun K hK => ?_) ?_
        · rw [if_pos (by kernel_rfl)]
          refine wp_storeP (.tmp 231) (.tmp 229) rfl b3 (by kernel_rfl) f (drainG g (x.2.2.2.2 % 3) true) (by kernel_rfl) f g h (.slice a1 lv c1) (B.row 2 rfl) ?_; intro w20 R9 t9; (first | replace t9 := turned_undrP t9 | skip); replace B := B.turn 2 rfl R9 t9; clear R9 t9; replace kS : World.cell? _ ⟨b6, 4, none⟩ = some (.int .i64 x.2.2.2.2) := ((B.row 1 rfl).cell 4).trans rfl
          refine hK.out _ _ kS (fun _ => ?_)
          clear hK K
          try simp only [Act.put, List.getElem_toArray, List.getElem_cons_succ, List.getElem_cons_zero, List.setIfInBounds_toArray, List.set_cons_zero, List.set_cons_succ]
          refine wpAnyH_done (by kernel_rfl) ?_ _
          refine NoPanic.normal ?_
          clear kS
          go_wp2_with (first | ((with_reducible refine at_opB (.load 30 (.tmp 3)) rfl ?_); refine wpList_loadR 30 (.tmp 3) rfl (by kernel_rfl) b3 rfl (tc f (drainG g (x.2.2.2.2 % 3) true) h (.slice a1 lv c1)) (B.row 2 rfl) _ Try.underlying30 rfl (tc_info _ _ _ _) ?_) | (go_at_call 14; go_fit (goodt_any f (drainG g (x.2.2.2.2 % 3) true) h (.slice a1 lv c1) ms (GoodT.wf HG.out) _ (B.map 0 rfl)); rintro e w30 ⟨r', hr', rfl, hb30⟩; obtain rfl : r' = true := (hr'.2 HG.out); clear hr'; replace B := B.below hb30; clear hb30))
          (refine ⟨?_, ?measure⟩; unfold WP; (repeat apply Exists.intro); refine ⟨?rel, rfl⟩)
          case rel => first | exact ⟨j + 1, by omega, by omega, castB j, f, (drainG g (x.2.2.2.2 % 3) true), h, a1, lv, c1, ms, B.two 2 3 (by decide) rfl rfl 0 rfl, hnil, HG, HLn⟩ | exact ⟨j + 1, by omega, by omega, castBW hjw, f, (drainG g (x.2.2.2.2 % 3) true), h, a1, lv, c1, ms, B.two 2 3 (by decide) rfl rfl 0 rfl, hnil, HG, HLn⟩ | ((repeat apply Exists.intro); first | exact ⟨⟨j + 1, by omega, by omega, castB j, f, (drainG g (x.2.2.2.2 % 3) true), h, a1, lv, c1, ms, B.two 2 3 (by decide) rfl rfl 0 rfl, hnil, HG, HLn⟩, rfl⟩ | exact ⟨⟨j + 1, by omega, by omega, castBW hjw, f, (drainG g (x.2.2.2.2 % 3) true), h, a1, lv, c1, ms, B.two 2 3 (by decide) rfl rfl 0 rfl, hnil, HG, HLn⟩, rfl⟩)
          case measure => unfold WPmu; (first | rw [hjw] | skip); exact meas_play hj120
        exact AllReadyH.nil
      exact AllReadyH.nil
    exact AllReadyH.nil
  exact AllReadyH.nil
end Go.Proofs.Ytmdijjbkjcnbpaa

namespace Go.Proofs.Ytmdijjbkjcnbpaa
open Go.ChangeShapes Go.WideShapes Go.ChangeAt Go.RowKit
set_option linter.unusedSimpArgs false
set_option linter.unusedVariables false

attribute [local irreducible] tc pc
set_option maxRecDepth 1000000 in
set_option maxHeartbeats 8000000 in
theorem play_k3 {w wr : World} {b3 b4 : Nat} {f : Nat → Int} {g : Nat → Bool} {h : Nat → Int} {a1 : Option Addr} {lv c1 : Nat} {ms : List Mp} {a0 : Option Addr} {n cap : Nat} {xs : List Mp} (u1 u2 u6 u7 u8 u9 u10 u11 u12 u13 u14 u15 u16 u17 u18 u19 u20 u21 u22 u23 u24 u25 u26 u27 u28 u29 u30 u31 u32 u33 u34 u35 u36 u37 u38 u39 u40 u41 u42 u43 u44 u45 u46 u47 u48 u49 u50 u51 u52 u53 u54 u55 u56 u57 u58 u59 u60 u61 u62 u63 u64 u65 u66 u67 u68 u69 u70 u71 u72 u73 u74 u75 u76 u77 u78 u79 u80 u81 u82 u83 u84 u85 u86 u87 u88 u89 u90 u91 u92 u93 u94 u95 u96 u97 u98 u99 u100 u101 u102 u103 u104 u105 u106 u107 u108 u109 u110 u111 u112 u113 u114 u115 u116 u117 u118 u119 u120 u121 u122 u123 u124 u125 u126 u127 u128 u129 u130 u131 u132 u133 u134 u135 u136 u137 u138 u139 u140 u141 u142 u143 u144 u145 u146 u147 u148 u149 u150 u151 u152 u153 u154 u155 u156 u157 u158 u159 u160 u161 u162 u163 u164 u165 u166 u167 u168 u169 u170 u171 u172 u173 u174 u175 u176 u177 u178 u179 u180 u181 u182 u183 u184 u185 u186 u187 u188 u189 u190 u191 u192 u193 u194 u195 u196 u197 u198 u199 u200 u201 u202 u203 u204 u205 u206 u207 u208 u209 u210 u211 u212 u213 u214 u215 u216 u217 u218 u219 u220 u221 u222 u223 u224 u225 u226 u227 u228 u229 u230 u231 u232 u233 u234 : Value) (j : Nat)
    (B : Bd w wr [(b3, 30, tc f g h (.slice a1 lv c1)), (b4, 50, pr3)] [(.slice a1 lv c1, ms)]) (hnil : NilOk (.slice a1 lv c1)) (HG : Hid (GoodT f h ms)) (HLn : Hid (lv = ms.length)) (HN : Hid (n = xs.length)) (hX : MapsAt w (.slice a0 n cap) xs) (hwx : ∀ m ∈ xs, (Lit.int .i64 m.2.2.2.2).wf = true)
    (hjn' : j < n) (hj120 : j < 120) (x : Mp) (hx : ∃ hh : j < xs.length, xs[j] = x) (hkd : x.1 % 4 = 3) (Q0 : Exit → Act → World → Prop) :
    Code.wp Try.prog bodyP (Exit.then (fun a' W => WP w b3 b4 a0 n cap a' W ∧ WPmu a' W < WPmu ⟨#[(.slice a0 n cap), u1, u2, .pointer (some ⟨b3, 0, none⟩), .pointer (some ⟨b4, 0, none⟩), .int .i64 (j : Int), u6, u7, u8, u9, u10, u11, u12, u13, u14, u15, u16, u17, u18, u19, u20, u21, u22, u23, u24, u25, u26, u27, u28, u29, u30, u31, u32, u33, u34, u35, u36, u37, u38, u39, u40, u41, u42, u43, u44, u45, u46, u47, u48, u49, u50, u51, u52, u53, u54, u55, u56, u57, u58, u59, u60, u61, u62, u63, u64, u65, u66, u67, u68, u69, u70, u71, u72, u73, u74, u75, u76, u77, u78, u79, u80, u81, u82, u83, u84, u85, u86, u87, u88, u89, u90, u91, u92, u93, u94, u95, u96, u97, u98, u99, u100, u101, u102, u103, u104, u105, u106, u107, u108, u109, u110, u111, u112, u113, u114, u115, u116, u117, u118, u119, u120, u121, u122, u123, u124, u125, u126, u127, u128, u129, u130, u131, u132, u133, u134, u135, u136, u137, u138, u139, u140, u141, u142, u143, u144, u145, u146, u147, u148, u149, u150, u151, u152, u153, u154, u155, u156, u157, u158, u159, u160, u161, u162, u163, u164, u165, u166, u167, u168, u169, u170, u171, u172, u173, u174, u175, u176, u177, u178, u179, u180, u181, u182, u183, u184, u185, u186, u187, u188, u189, u190, u191, u192, u193, u194, u195, u196, u197, u198, u199, u200, u201, u202, u203, u204, u205, u206, u207, u208, u209, u210, u211, u212, u213, u214, u215, u216, u217, u218, u219, u220, u221, u222, u223, u224, u225, u226, u227, u228, u229, u230, u231, u232, u233, u234], []⟩ wr) Q0) ⟨#[(.slice a0 n cap), u1, u2, .pointer (some ⟨b3, 0, none⟩), .pointer (some ⟨b4, 0, none⟩), .int .i64 (j : Int), u6, u7, u8, u9, u10, u11, u12, u13, u14, u15, u16, u17, u18, u19, u20, u21, u22, u23, u24, u25, u26, u27, u28, u29, u30, u31, u32, u33, u34, u35, u36, u37, u38, u39, u40, u41, u42, u43, u44, u45, u46, u47, u48, u49, u50, u51, u52, u53, u54, u55, u56, u57, u58, u59, u60, u61, u62, u63, u64, u65, u66, u67, u68, u69, u70, u71, u72, u73, u74, u75, u76, u77, u78, u79, u80, u81, u82, u83, u84, u85, u86, u87, u88, u89, u90, u91, u92, u93, u94, u95, u96, u97, u98, u99, u100, u101, u102, u103, u104, u105, u106, u107, u108, u109, u110, u111, u112, u113, u114, u115, u116, u117, u118, u119, u120, u121, u122, u123, u124, u125, u126, u127, u128, u129, u130, u131, u132, u133, u134, u135, u136, u137, u138, u139, u140, u141, u142, u143, u144, u145, u146, u147, u148, u149, u150, u151, u152, u153, u154, u155, u156, u157, u158, u159, u160, u161, u162, u163, u164, u165, u166, u167, u168, u169, u170, u171, u172, u173, u174, u175, u176, u177, u178, u179, u180, u181, u182, u183, u184, u185, u186, u187, u188, u189, u190, u191, u192, u193, u194, u195, u196, u197, u198, u199, u200, u201, u202, u203, u204, u205, u206, u207, u208, u209, u210, u211, u212, u213, u214, u215, u216, u217, u218, u219, u220, u221, u222, u223, u224, u225, u226, u227, u228, u229, u230, u231, u232, u233, u234], []⟩ wr := by
  conv => arg 2; whnf
  have hltX := hX.lt
  have hjn : (j : Int) < (n : Int) := by omega
  have hj12 : (j : Int) < 120 := by omega
  have hjw : wrap64 ((j : Int) + 1) = (j : Int) + 1 := by unfold wrap64; omega
  obtain ⟨hlj, hx⟩ := hx
  have IW := fun w2 => index_runW hX j hlj w2
  have hMv := B.map 0 rfl
  have hwN : (Lit.int .i64 x.2.2.2.2).wf = true := hwx x (hx ▸ List.getElem_mem hlj)
  have hrg := (hX.keep B.base hltX).at j hlj hx
  clear hx
  have CPk := fun w => pickP_any x.1 4 w (by decide) (by decide)
  have CP3 := fun w => pickP_any x.2.2.2.2 3 w (by decide) (by decide)
  have CDr := fun w => drain_any f g (x.2.2.2.2 % 3) w
  have CUn := fun w => undrain_any f g (x.2.2.2.2 % 3) w
  rw [show drainS f g (x.2.2.2.2 % 3) true = .tuple #[.agg (pc f (drainG g (x.2.2.2.2 % 3) true)), .int .i64 (drainE g (x.2.2.2.2 % 3) true)] from rfl] at CDr
  rw [show drainS f g (x.2.2.2.2 % 3) false = .tuple #[.agg (pc f (drainG g (x.2.2.2.2 % 3) false)), .int .i64 (drainE g (x.2.2.2.2 % 3) false)] from rfl] at CUn
  unfold plv at CDr CUn
  rw [hkd] at CPk
  clear hkd hlj
  go_upto_region 13 with (first | ((with_reducible refine at_opB (.indexAddr 49 (.tmp 38) (.tmp 39)) rfl ?_); refine wpList_indexW (.tmp 38) (.tmp 39) rfl rfl _ _ _ rfl rfl (IW _) ?_) | ((with_reducible refine at_opB (.load 52 (.tmp 40)) rfl ?_); refine wpList_loadW 52 (.tmp 40) rfl rfl _ _ rfl (mcl x) hrg _ Try.underlying52 rfl (wishl_info x) ?_; (try rw [mcl_mc])) | ((with_reducible refine at_opB (.alloc 52) rfl ?_); refine wpList_allocX 6 52 rfl rfl rfl _ wish_zero ?_; intro b6 w9 l9 R9 h9; replace B := B.alloc l9 R9 h9; clear R9 h9 l9; clear hrg) | ((with_reducible refine at_opB (.store 52 (.tmp 6) (.tmp 41)) rfl ?_); refine wpList_storeR 52 rfl (.tmp 6) _ rfl b6 rfl (mc x) rfl _ (B.row 0 rfl) rfl (wish_info _) (mc_one _) ?_; intro w9 R9 t9; replace B := B.turn 0 rfl R9 t9; clear R9 t9) | ((with_reducible refine at_opB (.load 30 (.tmp 3)) rfl ?_); refine wpList_loadR 30 (.tmp 3) rfl (by kernel_rfl) b3 rfl (tc f g h (.slice a1 lv c1)) (B.row 1 rfl) _ Try.underlying30 rfl (tc_info _ _ _ _) ?_) | ((with_reducible refine at_opB (.alloc 30) rfl ?_); refine wpList_allocX 7 30 rfl rfl rfl _ table_zero ?_; intro b7 w9 l9 R9 h9; replace B := B.alloc l9 R9 h9; clear R9 h9 l9) | ((with_reducible refine at_opB (.store 30 (.tmp 7) (.tmp 42)) rfl ?_); refine wpList_storeR 30 rfl (.tmp 7) _ rfl b7 rfl (tc f g h (.slice a1 lv c1)) rfl _ (B.row 0 rfl) (tc_sz _ _ _ _ _ _ _ _) (tc_info _ _ _ _) (tc_one _ _ _ _ _ _) ?_; intro w9 R9 t9; replace B := B.turn 0 rfl R9 t9; clear R9 t9) | ((with_reducible refine at_opB (.load 3 (.tmp 43)) rfl ?_); refine wpList_loadF (B.row 1 rfl) _ rfl (by kernel_rfl) 0 rfl (x.1) rfl ?_) | (go_at_call 23; go_fit (CPk _); rintro e w' ⟨rfl, hw⟩; rw [hw]; clear hw w'))
  clear CPk IW
  go_upto_region 12 with (fail)
  have kS : World.cell? _ ⟨b6, 4, none⟩ = some (.int .i64 x.2.2.2.2) := ((B.row 1 rfl).cell 4).trans rfl
  refine wp_region_noPanic ?_
  refine wp_region_held_drew (S := fun W => W.cell? ⟨b6, 4, none⟩ = some (.int .i64 x.2.2.2.2)) (by kernel_rfl) kS (fun _ => ?_)
  refine wpAnyH_take (i := 0) (v := .pointer (some ⟨b3, 0, none⟩)) rfl (by kernel_rfl) (by kernel_rfl) (by kernel_rfl) (fun _ _ _ h => h) (Or.inl ⟨by kernel_rfl, by intro w hS; go_simp⟩) kS ?_
  simp only [Act.put, List.getElem_toArray, List.getElem_cons_succ, List.getElem_cons_zero, List.setIfInBounds_toArray, List.set_cons_zero, List.set_cons_succ]
  refine wpAnyH_take (i := 2) (v := .pointer (some ⟨b6, 4, none⟩)) rfl (by kernel_rfl) (by kernel_rfl) (by kernel_rfl) (fun _ _ _ h => h) (Or.inl ⟨by kernel_rfl, by intro w hS; go_simp⟩) kS ?_
  simp only [Act.put, List.getElem_toArray, List.getElem_cons_succ, List.getElem_cons_zero, List.setIfInBounds_toArray, List.set_cons_zero, List.set_cons_succ]
  refine wpAnyH_take (i := 3) (v := .int .i64 x.2.2.2.2) rfl (by kernel_rfl) (by kernel_rfl) (by kernel_rfl) (fun _ _ _ h => h) (Or.inl ⟨by kernel_rfl, by intro w hS; have hc := hS; go_simp⟩) kS ?_
  simp only [Act.put, List.getElem_toArray, List.getElem_cons_succ, List.getElem_cons_zero, List.setIfInBounds_toArray, List.set_cons_zero, List.set_cons_succ]
  refine wpAnyH_ready (rs := [1, 4]) (by kernel_rfl) (by simp) ?_
  refine AllReadyH.cons rfl (fun K hK => ?_) ?_
  · rw [if_pos (by kernel_rfl)]
    refine wp_load_mid 26 (.tmp 47) rfl b3 0 rfl (pc f g).toList _ (Row.pool (B.row 2 rfl)) Try.underlying26 rfl (by simpa using pc_info f g) ?_; (try simp only [Array.toArray_toList])
    refine hK.out _ _ kS (fun _ => ?_)
    clear hK K
    try simp only [Act.put, List.getElem_toArray, List.getElem_cons_succ, List.getElem_cons_zero, List.setIfInBounds_toArray, List.set_cons_zero, List.set_cons_succ]
    refine wpAnyH_ready (rs := [4]) (by kernel_rfl) (by simp) ?_
    refine AllReadyH.cons rfl (fun K hK => ?_) ?_
    · go_simp
      go_at_call 23; refine (CP3 _).mono ?_; rintro e w18 ⟨rfl, hw⟩; rw [hw]; clear hw w18
      go_wp2_with fail
      refine hK.out _ _ kS (fun _ => ?_)
      clear hK K
      try simp only [Act.put, List.getElem_toArray, List.getElem_cons_succ, List.getElem_cons_zero, List.setIfInBounds_toArray, List.set_cons_zero, List.set_cons_succ]
      refine wpAnyH_ready (rs := [5]) (by kernel_rfl) (by simp) ?_
      refine AllReadyH.cons rfl (fun K hK => ?_) ?_
      · go_simp
        go_at_call 26; refine (CUn _).mono ?_; rintro e w19 ⟨rfl, hb19⟩; (first | replace hb19 := below_undrP hb19 | skip); replace B := B.below hb19; clear hb19; replace kS : World.cell? _ ⟨b6, 4, none⟩ = some (.int .i64 x.2.2.2.2) := ((B.row 1 rfl).cell 4).trans rfl
        go_wp2_with fail
        refine hK.out _ _ kS (fun _ => ?_)
        clear hK K
        try simp only [Act.put, List.getElem_toArray, List.getElem_cons_succ, List.getElem_cons_zero, List.setIfInBounds_toArray, List.set_cons_zero, List.set_cons_succ]
        refine wpAnyH_take (i := 6) (v := .tuple #[.agg (pc f (drainG g (x.2.2.2.2 % 3) false)), .int .i64 (drainE g (x.2.2.2.2 % 3) false)]) rfl (by kernel_rfl) (by kernel_rfl) (by kernel_rfl) (fun _ _ _ h => h) (Or.inl ⟨by kernel_rfl, by intro w hS; go_simp⟩) kS ?_
        simp only [Act.put, List.getElem_toArray, List.getElem_cons_succ, List.getElem_cons_zero, List.setIfInBounds_toArray, List.set_cons_zero, List.set_cons_succ]
        refine wpAnyH_take (i := 7) (v := .agg (pc f (drainG g (x.2.2.2.2 % 3) false))) rfl (by kernel_rfl) (by kernel_rfl) (by kernel_rfl) (fun _ _ _ h => h) (Or.inl ⟨by kernel_rfl, by intro w hS; go_simp⟩) kS ?_
        simp only [Act.put, List.getElem_toArray, List.getElem_cons_succ, List.getElem_cons_zero, List.setIfInBounds_toArray, List.set_cons_zero, List.set_cons_succ]
        refine wpAnyH_take (i := 8) (v := .int .i64 (drainE g (x.2.2.2.2 % 3) false)) rfl (by kernel_rfl) (by kernel_rfl) (by kernel_rfl) (fun _ _ _ h => h) (Or.inl ⟨by kernel_rfl, by intro w hS; go_simp⟩) kS ?_
        simp only [Act.put, List.getElem_toArray, List.getElem_cons_succ, List.getElem_cons_zero, List.setIfInBounds_toArray, List.set_cons_zero, List.set_cons_succ]
        refine wpAnyH_take (i := 9) (v := .pointer (some ⟨b3, 0, none⟩)) rfl (by kernel_rfl) (by kernel_rfl) (by kernel_rfl) (fun _ _ _ h => h) (Or.inl ⟨by kernel_rfl, by intro w hS; go_simp⟩) kS ?_
        simp only [Act.put, List.getElem_toArray, List.getElem_cons_succ, List.getElem_cons_zero, List.setIfInBounds_toArray, List.set_cons_zero, List.set_cons_succ]
        refine wpAnyH_ready (rs := [10]) (by kernel_rfl) (by simp) ?_
        refine AllReadyH.cons rfl (fun K hK => ?_) ?_
        · rw [if_pos (by kernel_rfl)]
          refine wp_storeP (.tmp 55) (.tmp 53) rfl b3 (by kernel_rfl) f (drainG g (x.2.2.2.2 % 3) false) (by kernel_rfl) f g h (.slice a1 lv c1) (B.row 2 rfl) ?_; intro w20 R9 t9; (first | replace t9 := turned_undrP t9 | skip); replace B := B.turn 2 rfl R9 t9; clear R9 t9; replace kS : World.cell? _ ⟨b6, 4, none⟩ = some (.int .i64 x.2.2.2.2) := ((B.row 1 rfl).cell 4).trans rfl
          refine hK.out _ _ kS (fun _ => ?_)
          clear hK K
          try simp only [Act.put, List.getElem_toArray, List.getElem_cons_succ, List.getElem_cons_zero, List.setIfInBounds_toArray, List.set_cons_zero, List.set_cons_succ]
          refine wpAnyH_done (by kernel_rfl) ?_ _
          refine NoPanic.normal ?_
          clear kS
          go_wp2_with (first | ((with_reducible refine at_opB (.load 30 (.tmp 3)) rfl ?_); refine wpList_loadR 30 (.tmp 3) rfl (by kernel_rfl) b3 rfl (tc f (drainG g (x.2.2.2.2 % 3) false) h (.slice a1 lv c1)) (B.row 2 rfl) _ Try.underlying30 rfl (tc_info _ _ _ _) ?_) | (go_at_call 14; go_fit (goodt_any f (drainG g (x.2.2.2.2 % 3) false) h (.slice a1 lv c1) ms (GoodT.wf HG.out) _ (B.map 0 rfl)); rintro e w30 ⟨r', hr', rfl, hb30⟩; obtain rfl : r' = true := (hr'.2 HG.out); clear hr'; replace B := B.below hb30; clear hb30))
          (refine ⟨?_, ?measure⟩; unfold WP; (repeat apply Exists.intro); refine ⟨?rel, rfl⟩)
          case rel => first | exact ⟨j + 1, by omega, by omega, castB j, f, (drainG g (x.2.2.2.2 % 3) false), h, a1, lv, c1, ms, B.two 2 3 (by decide) rfl rfl 0 rfl, hnil, HG, HLn⟩ | exact ⟨j + 1, by omega, by omega, castBW hjw, f, (drainG g (x.2.2.2.2 % 3) false), h, a1, lv, c1, ms, B.two 2 3 (by decide) rfl rfl 0 rfl, hnil, HG, HLn⟩ | ((repeat apply Exists.intro); first | exact ⟨⟨j + 1, by omega, by omega, castB j, f, (drainG g (x.2.2.2.2 % 3) false), h, a1, lv, c1, ms, B.two 2 3 (by decide) rfl rfl 0 rfl, hnil, HG, HLn⟩, rfl⟩ | exact ⟨⟨j + 1, by omega, by omega, castBW hjw, f, (drainG g (x.2.2.2.2 % 3) false), h, a1, lv, c1, ms, B.two 2 3 (by decide) rfl rfl 0 rfl, hnil, HG, HLn⟩, rfl⟩)
          case measure => unfold WPmu; (first | rw [hjw] | skip); exact meas_play hj120
        exact AllReadyH.nil
      exact AllReadyH.nil
    exact AllReadyH.nil
  refine AllReadyH.cons rfl (fun K hK => ?_) ?_
  · go_simp
    go_at_call 23; refine (CP3 _).mono ?_; rintro e w18 ⟨rfl, hw⟩; rw [hw]; clear hw w18
    go_wp2_with fail
    refine hK.out _ _ kS (fun _ => ?_)
    clear hK K
    try simp only [Act.put, List.getElem_toArray, List.getElem_cons_succ, List.getElem_cons_zero, List.setIfInBounds_toArray, List.set_cons_zero, List.set_cons_succ]
    refine wpAnyH_ready (rs := [1]) (by kernel_rfl) (by simp) ?_
    refine AllReadyH.cons rfl (fun K hK => ?_) ?_
    · rw [if_pos (by kernel_rfl)]
      refine wp_load_mid 26 (.tmp 47) rfl b3 0 rfl (pc f g).toList _ (Row.pool (B.row 2 rfl)) Try.underlying26 rfl (by simpa using pc_info f g) ?_; (try simp only [Array.toArray_toList])
      refine hK.out _ _ kS (fun _ => ?_)
      clear hK K
      try simp only [Act.put, List.getElem_toArray, List.getElem_cons_succ, List.getElem_cons_zero, List.setIfInBounds_toArray, List.set_cons_zero, List.set_cons_succ]
      refine wpAnyH_ready (rs := [5]) (by kernel_rfl) (by simp) ?_
      refine AllReadyH.cons rfl (fun K hK => ?_) ?_
      · go_simp
        go_at_call 26; refine (CUn _).mono ?_; rintro e w19 ⟨rfl, hb19⟩; (first | replace hb19 := below_undrP hb19 | skip); replace B := B.below hb19; clear hb19; replace kS : World.cell? _ ⟨b6, 4, none⟩ = some (.int .i64 x.2.2.2.2) := ((B.row 1 rfl).cell 4).trans rfl
        go_wp2_with fail
        refine hK.out _ _ kS (fun _ => ?_)
        clear hK K
        try simp only [Act.put, List.getElem_toArray, List.getElem_cons_succ, List.getElem_cons_zero, List.setIfInBounds_toArray, List.set_cons_zero, List.set_cons_succ]
        refine wpAnyH_take (i := 6) (v := .tuple #[.agg (pc f (drainG g (x.2.2.2.2 % 3) false)), .int .i64 (drainE g (x.2.2.2.2 % 3) false)]) rfl (by kernel_rfl) (by kernel_rfl) (by kernel_rfl) (fun _ _ _ h => h) (Or.inl ⟨by kernel_rfl, by intro w hS; go_simp⟩) kS ?_
        simp only [Act.put, List.getElem_toArray, List.getElem_cons_succ, List.getElem_cons_zero, List.setIfInBounds_toArray, List.set_cons_zero, List.set_cons_succ]
        refine wpAnyH_take (i := 7) (v := .agg (pc f (drainG g (x.2.2.2.2 % 3) false))) rfl (by kernel_rfl) (by kernel_rfl) (by kernel_rfl) (fun _ _ _ h => h) (Or.inl ⟨by kernel_rfl, by intro w hS; go_simp⟩) kS ?_
        simp only [Act.put, List.getElem_toArray, List.getElem_cons_succ, List.getElem_cons_zero, List.setIfInBounds_toArray, List.set_cons_zero, List.set_cons_succ]
        refine wpAnyH_take (i := 8) (v := .int .i64 (drainE g (x.2.2.2.2 % 3) false)) rfl (by kernel_rfl) (by kernel_rfl) (by kernel_rfl) (fun _ _ _ h => h) (Or.inl ⟨by kernel_rfl, by intro w hS; go_simp⟩) kS ?_
        simp only [Act.put, List.getElem_toArray, List.getElem_cons_succ, List.getElem_cons_zero, List.setIfInBounds_toArray, List.set_cons_zero, List.set_cons_succ]
        refine wpAnyH_take (i := 9) (v := .pointer (some ⟨b3, 0, none⟩)) rfl (by kernel_rfl) (by kernel_rfl) (by kernel_rfl) (fun _ _ _ h => h) (Or.inl ⟨by kernel_rfl, by intro w hS; go_simp⟩) kS ?_
        simp only [Act.put, List.getElem_toArray, List.getElem_cons_succ, List.getElem_cons_zero, List.setIfInBounds_toArray, List.set_cons_zero, List.set_cons_succ]
        refine wpAnyH_ready (rs := [10]) (by kernel_rfl) (by simp) ?_
        refine AllReadyH.cons rfl (fun K hK => ?_) ?_
        · rw [if_pos (by kernel_rfl)]
          refine wp_storeP (.tmp 55) (.tmp 53) rfl b3 (by kernel_rfl) f (drainG g (x.2.2.2.2 % 3) false) (by kernel_rfl) f g h (.slice a1 lv c1) (B.row 2 rfl) ?_; intro w20 R9 t9; (first | replace t9 := turned_undrP t9 | skip); replace B := B.turn 2 rfl R9 t9; clear R9 t9; replace kS : World.cell? _ ⟨b6, 4, none⟩ = some (.int .i64 x.2.2.2.2) := ((B.row 1 rfl).cell 4).trans rfl
          refine hK.out _ _ kS (fun _ => ?_)
          clear hK K
          try simp only [Act.put, List.getElem_toArray, List.getElem_cons_succ, List.getElem_cons_zero, List.setIfInBounds_toArray, List.set_cons_zero, List.set_cons_succ]
          refine wpAnyH_done (by kernel_rfl) ?_ _
          refine NoPanic.normal ?_
          clear kS
          go_wp2_with (first | ((with_reducible refine at_opB (.load 30 (.tmp 3)) rfl ?_); refine wpList_loadR 30 (.tmp 3) rfl (by kernel_rfl) b3 rfl (tc f (drainG g (x.2.2.2.2 % 3) false) h (.slice a1 lv c1)) (B.row 2 rfl) _ Try.underlying30 rfl (tc_info _ _ _ _) ?_) | (go_at_call 14; go_fit (goodt_any f (drainG g (x.2.2.2.2 % 3) false) h (.slice a1 lv c1) ms (GoodT.wf HG.out) _ (B.map 0 rfl)); rintro e w30 ⟨r', hr', rfl, hb30⟩; obtain rfl : r' = true := (hr'.2 HG.out); clear hr'; replace B := B.below hb30; clear hb30))
          (refine ⟨?_, ?measure⟩; unfold WP; (repeat apply Exists.intro); refine ⟨?rel, rfl⟩)
          case rel => first | exact ⟨j + 1, by omega, by omega, castB j, f, (drainG g (x.2.2.2.2 % 3) false), h, a1, lv, c1, ms, B.two 2 3 (by decide) rfl rfl 0 rfl, hnil, HG, HLn⟩ | exact ⟨j + 1, by omega, by omega, castBW hjw, f, (drainG g (x.2.2.2.2 % 3) false), h, a1, lv, c1, ms, B.two 2 3 (by decide) rfl rfl 0 rfl, hnil, HG, HLn⟩ | ((repeat apply Exists.intro); first | exact ⟨⟨j + 1, by omega, by omega, castB j, f, (drainG g (x.2.2.2.2 % 3) false), h, a1, lv, c1, ms, B.two 2 3 (by decide) rfl rfl 0 rfl, hnil, HG, HLn⟩, rfl⟩ | exact ⟨⟨j + 1, by omega, by omega, castBW hjw, f, (drainG g (x.2.2.2.2 % 3) false), h, a1, lv, c1, ms, B.two 2 3 (by decide) rfl rfl 0 rfl, hnil, HG, HLn⟩, rfl⟩)
          case measure => unfold WPmu; (first | rw [hjw] | skip); exact meas_play hj120
        exact AllReadyH.nil
      exact AllReadyH.nil
    exact AllReadyH.nil
  exact AllReadyH.nil
end Go.Proofs.Ytmdijjbkjcnbpaa
