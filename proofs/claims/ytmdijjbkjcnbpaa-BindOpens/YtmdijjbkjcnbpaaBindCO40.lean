/-
  Of what BindCloses, BindOpens stands on: part 40.
-/
import Derived.Test.YtmdijjbkjcnbpaaBindCO33
import Derived.Test.YtmdijjbkjcnbpaaBindCO35
namespace Go.Proofs.Ytmdijjbkjcnbpaa
open Go.ChangeShapes Go.WideShapes Go.ChangeAt Go.RowKit
set_option linter.unusedSimpArgs false
set_option linter.unusedVariables false

attribute [local irreducible] tc pc
set_option maxRecDepth 100000 in
set_option maxHeartbeats 8000000 in
theorem ol2_f1 {w wr : World} {f : Nat → Int} {g : Nat → Bool} {h : Nat → Int} {ms : List Mp} {p s i d : Int} {b5 b10 b11 b14 b15 b21 aN : Nat} {a0 av : Option Addr} {n cap cv : Nat} (u6 u7 u8 u9 u12 u13 u15 u16 u17 u19 u20 u24 u25 u26 u27 u28 u29 u30 u31 u32 u33 u34 u35 u36 u37 u38 u39 u40 u41 u42 u43 u44 u45 u46 u47 u48 u49 u50 u51 u52 u53 u54 u55 u56 u57 u58 u59 u60 u61 u62 u63 u64 u65 u66 u67 u68 u69 u70 u71 u72 u73 u74 u75 u76 u77 u78 u79 u80 u81 u82 u83 u84 u85 u86 u87 u88 u89 u90 u91 u92 u93 u94 u95 u96 u97 u98 u99 u100 u101 u102 u103 u104 u105 u106 u107 u108 u109 u110 u111 u112 u113 u114 u115 u116 u117 u118 u119 u120 u121 u122 u123 u124 u125 u126 u127 u128 u129 u130 u131 u132 u133 u134 u135 u136 u137 u138 u139 u140 u141 u142 u143 u144 u145 u146 u147 u148 u149 u150 u151 u152 u153 u154 u155 u156 u157 u158 u159 u160 u161 u162 u163 u164 u165 u166 u167 u168 u169 u170 u171 u172 u173 u174 u175 u176 u177 u178 u179 u180 u181 u182 u183 u184 u185 u186 u187 u188 u189 u190 u191 u192 u193 u194 u195 u196 u197 u198 u199 u200 u201 u202 u203 u204 u205 : Value) (j c : Nat) (X : Int) (mx : Mp)
    (B : Bo w wr [(b21, 30, tc f g h (.slice av n cv)), (b15, 32, mc noM), (b14, 32, mc noM), (b11, 32, mc noM), (b10, 30, tc (fun _ => 0) (fun _ => false) (fun _ => 0) (.slice none 0 0)), (b5, 30, tc f g h (.slice a0 n cap))] (.slice av n cv) ms) (HN : Hid (n = ms.length)) (hM : MapsAt w (.slice a0 n cap) ms) (hj48 : j < 48) (ha3 : aN < 3) (hs : 0 ≤ s ∧ s < 8) (hc : c ≤ 48) (HX : Hid (f (6 * aN + j / 8) = X)) (cx : (X != s + 1) = false) (c0 : ((((j % 8 : Nat)) : Int) == 0) = false) (CK : ∀ w, MapsAt w (.slice a0 n cap) ms → Calls Try.prog 11 #[.agg (tc f g h (.slice a0 n cap)), .int .i64 p, .int .i64 (aN : Int), .int .i64 (1024 + (j : Int))] w fun e w' => e = .returned (.tuple #[.agg (mc mx), .bool false]) ∧ Below w.heap.size w w') (hlm : ms.length ≤ 1000) (R : Ending → World → Prop) (hR : ∀ v w', MapsAt w' v (ms ++ [(p, s, i, (aN : Int), 1024 + (j : Int))]) → w.heap.size ≤ mb v → Below w.heap.size w w' → R (.returned (.tuple #[.agg (tc f g h v), .agg (mc (p, s, i, (aN : Int), 1024 + (j : Int))), .bool false, .int .i64 0])) w') (Q0 : Exit → Act → World → Prop) (hret : ∀ a w', bodyPost Try.prog Try.f18 R .ret a w' → Q0 .ret a w') :
    Code.wp Try.prog bodyO2 (Exit.then (fun a' W => WO2 w f g h ms p s i d b5 b10 b11 b14 b15 a0 n cap b21 aN av cv a' W ∧ WO2mu a' W < WO2mu ⟨#[(.agg (tc f g h (.slice a0 n cap))), .int .i64 p, .int .i64 s, .int .i64 i, .int .i64 d, .pointer (some ⟨b5, 0, none⟩), u6, u7, u8, u9, .pointer (some ⟨b10, 0, none⟩), .pointer (some ⟨b11, 0, none⟩), u12, u13, .pointer (some ⟨b14, 0, none⟩), u15, u16, u17, .int .i64 (c : Int), u19, u20, .pointer (some ⟨b21, 0, none⟩), .int .i64 (aN : Int), .int .i64 (1024 + (j : Int)), u24, u25, u26, u27, u28, u29, u30, u31, u32, u33, u34, u35, u36, u37, u38, u39, u40, u41, u42, u43, u44, u45, u46, u47, u48, u49, u50, u51, u52, u53, u54, u55, u56, u57, u58, u59, u60, u61, u62, u63, u64, u65, u66, u67, u68, u69, u70, u71, u72, u73, u74, u75, u76, u77, u78, u79, u80, u81, u82, u83, u84, u85, u86, u87, u88, u89, u90, u91, u92, u93, u94, u95, u96, u97, u98, u99, u100, u101, u102, u103, u104, u105, u106, u107, u108, u109, u110, u111, u112, u113, u114, u115, u116, u117, u118, u119, u120, u121, u122, u123, u124, u125, u126, u127, u128, u129, u130, u131, u132, u133, u134, u135, u136, u137, u138, u139, u140, u141, u142, u143, u144, u145, u146, u147, u148, u149, u150, u151, u152, u153, u154, u155, u156, u157, u158, u159, u160, u161, u162, u163, u164, u165, u166, u167, u168, u169, u170, u171, u172, u173, u174, u175, u176, u177, u178, u179, u180, u181, u182, u183, u184, u185, u186, u187, u188, u189, u190, u191, u192, u193, u194, u195, u196, u197, u198, u199, u200, u201, u202, u203, u204, u205], []⟩ wr) Q0) ⟨#[(.agg (tc f g h (.slice a0 n cap))), .int .i64 p, .int .i64 s, .int .i64 i, .int .i64 d, .pointer (some ⟨b5, 0, none⟩), u6, u7, u8, u9, .pointer (some ⟨b10, 0, none⟩), .pointer (some ⟨b11, 0, none⟩), u12, u13, .pointer (some ⟨b14, 0, none⟩), u15, u16, u17, .int .i64 (c : Int), u19, u20, .pointer (some ⟨b21, 0, none⟩), .int .i64 (aN : Int), .int .i64 (1024 + (j : Int)), u24, u25, u26, u27, u28, u29, u30, u31, u32, u33, u34, u35, u36, u37, u38, u39, u40, u41, u42, u43, u44, u45, u46, u47, u48, u49, u50, u51, u52, u53, u54, u55, u56, u57, u58, u59, u60, u61, u62, u63, u64, u65, u66, u67, u68, u69, u70, u71, u72, u73, u74, u75, u76, u77, u78, u79, u80, u81, u82, u83, u84, u85, u86, u87, u88, u89, u90, u91, u92, u93, u94, u95, u96, u97, u98, u99, u100, u101, u102, u103, u104, u105, u106, u107, u108, u109, u110, u111, u112, u113, u114, u115, u116, u117, u118, u119, u120, u121, u122, u123, u124, u125, u126, u127, u128, u129, u130, u131, u132, u133, u134, u135, u136, u137, u138, u139, u140, u141, u142, u143, u144, u145, u146, u147, u148, u149, u150, u151, u152, u153, u154, u155, u156, u157, u158, u159, u160, u161, u162, u163, u164, u165, u166, u167, u168, u169, u170, u171, u172, u173, u174, u175, u176, u177, u178, u179, u180, u181, u182, u183, u184, u185, u186, u187, u188, u189, u190, u191, u192, u193, u194, u195, u196, u197, u198, u199, u200, u201, u202, u203, u204, u205], []⟩ wr := by
  conv => arg 2; whnf
  have hlt := hM.lt
  have hp1 : (1024 + (j : Int)) < 1072 := by omega
  have ha0 : (0 : Int) ≤ (aN : Int) := by omega
  have hjw : wrap64 (1024 + (j : Int) + 1) = 1024 + (j : Int) + 1 := by unfold wrap64; omega
  have hlw : wrap64 ((c : Int) + 1) = (c : Int) + 1 := by unfold wrap64; omega
  have hsw : wrap64 (s + 1) = s + 1 := by unfold wrap64; omega
  have CB := fun w => blockOf_at j hj48 w
  have H18 : Hid (6 * aN + j / 8 < 18) := hidB (by omega)
  have HJ : Hid (j + 1 ≤ 48) := hidB (by omega)
  have I3 := fun b w => ix3 b 0 aN ha3 w
  have I6 := fun b w => ix6 b (6 * aN) (j / 8) (by omega) w
  simp only [Nat.zero_add] at I3
  obtain ⟨i0, hi, hz0, hz1, hz2⟩ := info_parts info_map
  have HLM : Hid (ms.length ≤ 1000) := hlm
  have HL2 : Hid ((ms ++ [(p, s, i, (aN : Int), 1024 + (j : Int))]).length ≤ 140737488355328) := hidB (by rw [List.length_append]; simp; omega)
  clear hlm
  clear hc hs ha3
  go_upto_region 29 with (first | (go_at_call 13; go_fit (CB _); rintro e w6 ⟨rfl, hw⟩; rw [hw]; clear hw w6) | ((with_reducible refine at_opB (.load 3 (.tmp 117)) rfl ?_); refine wpList_loadF (B.row 5 rfl) _ rfl (by kernel_rfl) (6 * aN + j / 8) rfl (X) (by rw [tc_own _ _ _ _ _ H18.out, HX.out]) ?_) | ((with_reducible refine at_opB (.load 30 (.tmp 5)) rfl ?_); refine wpList_loadR 30 (.tmp 5) rfl (by kernel_rfl) b5 rfl (tc f g h (.slice a0 n cap)) (B.row 5 rfl) _ Try.underlying30 rfl (tc_info _ _ _ _) ?_) | (go_at_call 11; go_fit (CK _ (hM.keep B.base hlt)); rintro e w5 ⟨rfl, hb5⟩; replace B := B.below hb5; clear hb5) | ((with_reducible refine at_opB (.alloc 32) rfl ?_); refine wpList_allocX 27 32 rfl rfl rfl _ map_zero ?_; intro b27 w9 l9 R9 h9; replace B := B.alloc l9 R9 h9; clear R9 h9 l9) | ((with_reducible refine at_opB (.store 32 (.tmp 27) (.tmp 132)) rfl ?_); refine wpList_storeR 32 rfl (.tmp 27) _ rfl b27 rfl (mc mx) rfl _ (B.row 0 rfl) rfl (mc_info _) (mc_one _) ?_; intro w9 R9 t9; replace B := B.turn 0 rfl R9 t9; clear R9 t9) | ((with_reducible refine at_opB (.build 32 #[(0, .tmp 136), (1, .tmp 137), (2, .tmp 138), (3, .tmp 139), (4, .tmp 140)]) rfl ?_); refine wpList_buildM5 rfl (.tmp 136) (.tmp 137) (.tmp 138) (.tmp 139) (.tmp 140) rfl p s i (aN : Int) (1024 + (j : Int)) rfl rfl rfl rfl rfl ?_) | ((with_reducible refine at_opB (.alloc 32) rfl ?_); refine wpList_allocX 29 32 rfl rfl rfl _ map_zero ?_; intro b29 w9 l9 R9 h9; replace B := B.alloc l9 R9 h9; clear R9 h9 l9) | ((with_reducible refine at_opB (.store 32 (.tmp 29) (.tmp 141)) rfl ?_); refine wpList_storeR 32 rfl (.tmp 29) _ rfl b29 rfl (mc (p, s, i, (aN : Int), 1024 + (j : Int))) rfl _ (B.row 0 rfl) rfl (mc_info _) (mc_one _) ?_; intro w9 R9 t9; replace B := B.turn 0 rfl R9 t9; clear R9 t9; have cM : World.cell? _ ⟨b21, 29, none⟩ = some (.slice av n cv) := ((B.row 2 rfl).cell 29).trans (tc_maps _ _ _ _)) | ((with_reducible refine at_opB (.load 32 (.tmp 29)) rfl ?_); refine wpList_loadR 32 (.tmp 29) rfl (by kernel_rfl) b29 rfl (mc (p, s, i, (aN : Int), 1024 + (j : Int))) (B.row 0 rfl) _ Try.underlying32 rfl (mc_info _) ?_) | ((with_reducible refine at_consB ?_); refine wpList_buildM rfl (.tmp 144) rfl (p, s, i, (aN : Int), 1024 + (j : Int)) rfl ?_) | ((with_reducible refine at_opB (.call { callee := .builtin .append, args := #[.tmp 143, .tmp 145], argTypes := #[28, 28] }) rfl ?_); refine wpList_append_own_at _ rfl (.tmp 143) (.tmp 145) 28 rfl w.heap.size 32 i0 (.agg (mc noM)) 5 40 Try.underlying28 hi hz0 hz1 hz2 rfl (by decide) (.slice av n cv) n (flat ms) (by kernel_rfl) (by rw [HN.out]; have HO := B.own; rw [HN.out] at HO; exact HO.alloc _) ⟨_, 0, none⟩ 1 1 (mcl (p, s, i, (aN : Int), 1024 + (j : Int))) rfl rfl (five_new _ _ _) (mcl_oneCell _) (by unfold maxLen; have := HLM.out; have := HN.out; omega) (by have := HLM.out; have := HN.out; omega) (by have := B.base.size; simp; omega) ?_; intro v4 w8 hown4 hg4 hn4 hloc; clear hn4 cM; replace B := B.push (by rw [← HN.out]; exact hown4) hg4 hloc; clear hg4 hloc; obtain ⟨a4, c4, rfl⟩ := row_slice2 hown4; clear hown4) | ((with_reducible refine at_opB (.store 28 (.tmp 147) (.tmp 146)) rfl ?_); refine wpList_storeV (B.row 2 rfl) rfl _ _ rfl 29 rfl _ _ _ rfl _ (tc_maps _ _ _ _) (tc f g h (.slice a4 (n + 1) c4)) (tc_setM _ _ _ _ _) ?_; intro w9 R9 t9; replace B := B.turn 2 rfl R9 t9; clear R9 t9))
  clear CB CK I3 I6
  have RT : Row 30 _ b21 (tc f g h (.slice a4 (n + 1) c4)) := B.row 2 rfl
  have RM : Row 32 _ b29 (mc (p, s, i, (aN : Int), 1024 + (j : Int))) := B.row 0 rfl
  refine wp_region_noPanic ?_
  refine wp_region_held_drew (S := fun W => Row 30 W b21 (tc f g h (.slice a4 (n + 1) c4)) ∧ Row 32 W b29 (mc (p, s, i, (aN : Int), 1024 + (j : Int)))) (by kernel_rfl) ⟨RT, RM⟩ (fun _ => ?_)
  refine wpAnyH_take (i := 0) (v := .agg (tc f g h (.slice a4 (n + 1) c4))) rfl (by kernel_rfl) (by kernel_rfl) (by kernel_rfl) (fun _ _ _ h => h) (yields_loadR 30 (.tmp 21) rfl (by kernel_rfl) b21 (by kernel_rfl) (tc f g h (.slice a4 (n + 1) c4)) (fun _ h => h.1) _ Try.underlying30 rfl (tc_info _ _ _ _)) ⟨RT, RM⟩ ?_
  simp only [Act.put, List.getElem_toArray, List.getElem_cons_succ, List.getElem_cons_zero, List.setIfInBounds_toArray, List.set_cons_zero, List.set_cons_succ]
  refine wpAnyH_take (i := 1) (v := .agg (mc (p, s, i, (aN : Int), 1024 + (j : Int)))) rfl (by kernel_rfl) (by kernel_rfl) (by kernel_rfl) (fun _ _ _ h => h) (yields_loadR 32 (.tmp 29) rfl (by kernel_rfl) b29 (by kernel_rfl) (mc (p, s, i, (aN : Int), 1024 + (j : Int))) (fun _ h => h.2) _ Try.underlying32 rfl (mc_info _)) ⟨RT, RM⟩ ?_
  simp only [Act.put, List.getElem_toArray, List.getElem_cons_succ, List.getElem_cons_zero, List.setIfInBounds_toArray, List.set_cons_zero, List.set_cons_succ]
  refine wpAnyH_ready (rs := [2]) (by kernel_rfl) (by simp) ?_
  refine AllReadyH.cons rfl (fun K hK => ?_) ?_
  · rw [if_pos (by kernel_rfl)]
    refine wp_storeR 30 (.tmp 10) (.tmp 148) rfl b10 (by kernel_rfl) (tc f g h (.slice a4 (n + 1) c4)) (by kernel_rfl) _ (B.row 6 rfl) (tc_sz _ _ _ _ _ _ _ _) (tc_info _ _ _ _) (tc_one _ _ _ _ _ _) ?_; intro w9 R9 t9; (first | replace t9 := turned_undrG t9 | skip); replace B := B.turn 6 rfl R9 t9; clear R9 t9; replace RT := B.row 2 rfl; replace RM := B.row 0 rfl
    refine hK.out _ _ ⟨RT, RM⟩ (fun _ => ?_)
    clear hK K
    try simp only [Act.put, List.getElem_toArray, List.getElem_cons_succ, List.getElem_cons_zero, List.setIfInBounds_toArray, List.set_cons_zero, List.set_cons_succ]
    refine wpAnyH_ready (rs := [3]) (by kernel_rfl) (by simp) ?_
    refine AllReadyH.cons rfl (fun K hK => ?_) ?_
    · rw [if_pos (by kernel_rfl)]
      refine wp_storeR 32 (.tmp 11) (.tmp 149) rfl b11 (by kernel_rfl) (mc (p, s, i, (aN : Int), 1024 + (j : Int))) (by kernel_rfl) _ (B.row 5 rfl) rfl (mc_info _) (mc_one _) ?_; intro w9 R9 t9; (first | replace t9 := turned_undrG t9 | skip); replace B := B.turn 5 rfl R9 t9; clear R9 t9; replace RT := B.row 2 rfl; replace RM := B.row 0 rfl
      refine hK.out _ _ ⟨RT, RM⟩ (fun _ => ?_)
      clear hK K
      try simp only [Act.put, List.getElem_toArray, List.getElem_cons_succ, List.getElem_cons_zero, List.setIfInBounds_toArray, List.set_cons_zero, List.set_cons_succ]
      refine wpAnyH_take (i := 4) (v := .bool false) rfl (by kernel_rfl) (by kernel_rfl) (by kernel_rfl) (fun _ _ _ h => h) (Or.inl ⟨by kernel_rfl, by intro w hS; go_simp⟩) ⟨RT, RM⟩ ?_
      simp only [Act.put, List.getElem_toArray, List.getElem_cons_succ, List.getElem_cons_zero, List.setIfInBounds_toArray, List.set_cons_zero, List.set_cons_succ]
      refine wpAnyH_take (i := 5) (v := .int .i64 0) rfl (by kernel_rfl) (by kernel_rfl) (by kernel_rfl) (fun _ _ _ h => h) (Or.inl ⟨by kernel_rfl, by intro w hS; go_simp⟩) ⟨RT, RM⟩ ?_
      simp only [Act.put, List.getElem_toArray, List.getElem_cons_succ, List.getElem_cons_zero, List.setIfInBounds_toArray, List.set_cons_zero, List.set_cons_succ]
      refine wpAnyH_done (by kernel_rfl) ?_ _
      refine NoPanic.normal ?_
      clear RT RM
      go_wp2_with fail
      ((try simp only [Exit.inBlock, Exit.then]); first | (refine bodyPost_ret (results_row22 (p := 10) (q := 11) (x := 12) (y := 13) rfl _ _ _ _ _ _ rfl rfl (B.row 6 rfl) (B.row 5 rfl) _ _ Try.underlying30 Try.underlying32 rfl rfl (tc_info _ _ _ _) (mc_info _)) rfl (hR _ _ (own_maps B.own HL2.out).1 ((own_maps B.own HL2.out).2.2 (by simp)) B.base)) | (replace B := B.drew; refine bodyPost_ret (results_row22 (p := 10) (q := 11) (x := 12) (y := 13) rfl _ _ _ _ _ _ rfl rfl (B.row 6 rfl) (B.row 5 rfl) _ _ Try.underlying30 Try.underlying32 rfl rfl (tc_info _ _ _ _) (mc_info _)) rfl (hR _ _ (own_maps B.own HL2.out).1 ((own_maps B.own HL2.out).2.2 (by simp)) B.base)))
    exact AllReadyH.nil
  exact AllReadyH.nil
end Go.Proofs.Ytmdijjbkjcnbpaa

namespace Go.Proofs.Ytmdijjbkjcnbpaa
open Go.ChangeShapes Go.WideShapes Go.ChangeAt Go.RowKit
set_option linter.unusedSimpArgs false
set_option linter.unusedVariables false

theorem room_some {f : Nat → Int} {g : Nat → Bool} {h : Nat → Int} {ms : List Mp} {p s d : Int} {aN j : Nat} (G : GoodT f h ms) (hs : 0 ≤ s ∧ s < 8) (ha : h s.toNat = (aN : Int) + 1) (hf : (List.range 48).find? (okQ f ms p s aN) = some j) : roomR f g h ms p s d = ⟨f, h, 1024 + (j : Int), false, 0⟩ := by
  have ha3 : aN < 3 := by have := G.homeIn hs; omega
  have hu := unused_doc ms p ha3 (s := s) (fun n hn => by have := G.at hs hn; omega)
  rw [hf] at hu
  rw [roomR_some hu]
  have hj : j < 48 := List.mem_range.1 (List.mem_of_find?_eq_some hf)
  have : portQ (6 * aN + j / 8) (j % 8) = 1024 + (j : Int) := by unfold portQ; omega
  simp only [this]
theorem room_two {f : Nat → Int} {g : Nat → Bool} {h : Nat → Int} {ms : List Mp} {p s d : Int} {aN : Nat} (G : GoodT f h ms) (hs : 0 ≤ s ∧ s < 8) (ha : h s.toNat = (aN : Int) + 1) (hf : (List.range 48).find? (okQ f ms p s aN) = none) (h2 : hadN f s aN 48 = 2) : roomR f g h ms p s d = ⟨f, h, 0, false, 6⟩ := by
  have ha3 : aN < 3 := by have := G.homeIn hs; omega
  have hall : ∀ n ∈ blocksL f s, n / 6 = aN := fun n hn => by have := G.at hs hn; omega
  have hu := unused_doc ms p ha3 hall
  rw [hf] at hu
  exact roomR_full hu ((had_all ha3 hall).symm.trans h2)
theorem room_take {f : Nat → Int} {g : Nat → Bool} {h : Nat → Int} {ms : List Mp} {p s d : Int} {aN : Nat} (G : GoodT f h ms) (hs : 0 ≤ s ∧ s < 8) (ha : h s.toNat = (aN : Int) + 1) (hf : (List.range 48).find? (okQ f ms p s aN) = none) (h2 : hadN f s aN 48 ≠ 2) :
    roomR f g h ms p s d = if takeE f g s (aN : Int) = 0 then ⟨takeF f g s (aN : Int) d, upd h s.toNat ((aN : Int) + 1), 1024 + 8 * (takeK f g s (aN : Int) d : Int), true, 0⟩ else ⟨f, h, 0, false, takeE f g s (aN : Int)⟩ := by
  have ha3 : aN < 3 := by have := G.homeIn hs; omega
  have hall : ∀ n ∈ blocksL f s, n / 6 = aN := fun n hn => by have := G.at hs hn; omega
  have hu := unused_doc ms p ha3 hall
  rw [hf] at hu
  have h1 : (blocksL f s).length ≠ 2 := fun e => h2 ((had_all ha3 hall).trans e)
  have e1 : addrE f g h s = 0 := by unfold addrE; rw [if_neg (by omega)]
  have e2 : addrA f g h s d = (aN : Int) := by unfold addrA; rw [if_neg (by omega)]; omega
  split
  · rename_i h3
    have := roomR_ok (d := d) hu h1 e1 (by rw [e2]; exact h3)
    rw [e2] at this; exact this
  · rename_i h3
    have := roomR_take (d := d) hu h1 e1 (by rw [e2]; exact h3)
    rw [e2] at this; exact this
theorem room_new {f : Nat → Int} {g : Nat → Bool} {h : Nat → Int} {ms : List Mp} {p s d : Int} (G : GoodT f h ms) (hs : 0 ≤ s ∧ s < 8) (ha : h s.toNat = 0) :
    roomR f g h ms p s d = if pickE f g = 0 then (if takeE f g s (pickK f g d) = 0 then ⟨takeF f g s (pickK f g d) d, upd h s.toNat (pickK f g d + 1), 1024 + 8 * (takeK f g s (pickK f g d) d : Int), true, 0⟩ else ⟨f, h, 0, false, takeE f g s (pickK f g d)⟩) else ⟨f, h, 0, false, pickE f g⟩ := by
  have hb := (G.homeless hs).1 ha
  have hu : unusedO ms p (blocksL f s) = none := by rw [hb]; rfl
  have h1 : (blocksL f s).length ≠ 2 := by rw [hb]; simp
  have e1 : addrE f g h s = pickE f g := by unfold addrE; rw [if_pos ha]
  have e2 : addrA f g h s d = pickK f g d := by unfold addrA; rw [if_pos ha]
  split
  · rename_i h2
    split
    · rename_i h3
      have := roomR_ok (d := d) hu h1 (by rw [e1]; exact h2) (by rw [e2]; exact h3)
      rw [e2] at this; exact this
    · rename_i h3
      have := roomR_take (d := d) hu h1 (by rw [e1]; exact h2) (by rw [e2]; exact h3)
      rw [e2] at this; exact this
  · rename_i h2
    have := roomR_addr (d := d) hu h1 (by rw [e1]; exact h2)
    rw [e1] at this; exact this
/-- what OpenMap answers where a new map is wanted. -/
def roomTo (w : World) (f : Nat → Int) (g : Nat → Bool) (h : Nat → Int) (sl : Value) (ms : List Mp) (p s i : Int) (r : RoomR) (w' : World) (e : Ending) : Prop :=
  (r.e ≠ 0 → e = .returned (.tuple #[.agg (tc f g h sl), .agg (mc noM), .bool false, .int .i64 r.e])) ∧
  (r.e = 0 → ∃ v, e = .returned (.tuple #[.agg (tc r.f g r.h v), .agg (mc (p, s, i, r.h s.toNat - 1, r.q)), .bool r.took, .int .i64 0]) ∧ MapsAt w' v (ms ++ [(p, s, i, r.h s.toNat - 1, r.q)]) ∧ w.heap.size ≤ mb v)
theorem roomTo_err {w w' : World} {f : Nat → Int} {g : Nat → Bool} {h : Nat → Int} {sl : Value} {ms : List Mp} {p s i E : Int} {r : RoomR} (hr : r = ⟨f, h, 0, false, E⟩) (he : E ≠ 0) : roomTo w f g h sl ms p s i r w' (.returned (.tuple #[.agg (tc f g h sl), .agg (mc noM), .bool false, .int .i64 E])) := by
  subst hr; exact ⟨fun _ => rfl, fun h => absurd h he⟩
theorem roomTo_ok {w w' : World} {f F H : Nat → Int} {g : Nat → Bool} {h : Nat → Int} {sl v : Value} {ms : List Mp} {p s i A q : Int} {tk : Bool} {r : RoomR} (hr : r = ⟨F, H, q, tk, 0⟩) (hA : H s.toNat - 1 = A) (hM : MapsAt w' v (ms ++ [(p, s, i, A, q)])) (hb : w.heap.size ≤ mb v) : roomTo w f g h sl ms p s i r w' (.returned (.tuple #[.agg (tc F g H v), .agg (mc (p, s, i, A, q)), .bool tk, .int .i64 0])) := by
  subst hr; subst hA; exact ⟨fun h => absurd rfl h, fun _ => ⟨v, rfl, hM, hb⟩⟩
theorem drawn_lt (l : List Nat) (d : Int) (n : Nat) (hn : 0 < n) (h : ∀ k ∈ l, k < n) : drawnL l d < n := by
  by_cases hl : 0 < l.length
  · exact h _ (drawnL_mem l d hl)
  · have : l = [] := List.eq_nil_of_length_eq_zero (by omega)
    subst this; simpa [drawnL] using hn
theorem takeK_lt (f : Nat → Int) (g : Nat → Bool) (s a d : Int) : takeK f g s a d < 6 := by
  unfold takeK
  split
  · exact drawn_lt _ d 6 (by omega) (fun k hk => (freeL_mem _ k hk).1)
  · omega
theorem pickK_in (f : Nat → Int) (g : Nat → Bool) (d : Int) : 0 ≤ pickK f g d ∧ pickK f g d < 3 := by
  unfold pickK
  split
  · split
    · omega
    · have := drawn_lt (openL f g) d 3 (by omega) (fun k hk => (openL_mem f g k hk).1); omega
  · omega
end Go.Proofs.Ytmdijjbkjcnbpaa
