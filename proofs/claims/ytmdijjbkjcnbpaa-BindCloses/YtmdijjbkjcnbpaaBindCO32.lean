/-
  Of what BindCloses, BindOpens stands on: part 32.
-/
import Derived.Test.YtmdijjbkjcnbpaaBindCO4
import Derived.Test.YtmdijjbkjcnbpaaBindCO31
namespace Go.Proofs.Ytmdijjbkjcnbpaa
open Go.ChangeShapes Go.WideShapes Go.ChangeAt Go.RowKit Go.Maps
set_option linter.unusedSimpArgs false
set_option linter.unusedVariables false

theorem had_wf (f : Nat → Int) {q : Nat} (h : q < 18) (s : Int) : (Lit.int .i64 (hadF f q s + 1)).wf = true := wf6_of (by have := hadF_le f q s; omega)
theorem had_wrap (f : Nat → Int) {q : Nat} (h : q < 18) (s : Int) : wrap64 (hadF f q s + 1) = hadF f q s + 1 := by have := hadF_le f q s; unfold wrap64; omega
theorem own_wrap {x : Int} (h : 0 ≤ x ∧ x ≤ 8) : wrap64 (x - 1) = x - 1 ∧ wf6 (x - 1) := ⟨by unfold wrap64; omega, wf6_of (by omega)⟩
theorem yields_gtr {ops : Array Oper} {S : World → Prop} {o : Oper} {a : Act} (x : Operand) (c : Int) (ho : o.op = .binOp .gtr 3 x (.const (.int .i64 c)) 3) (hw : Region.wanted o (yielded ops a.tmps) = true) (n : Int) (b : Bool) (hx : a.eval x = .int .i64 n) (hb : decide (c < n) = b) : YieldsIf Try.prog ops S o (.bool b) a :=
  .inl ⟨hw, fun w _ => by unfold execOp; simp only [ho, hx]; simp [go_sem, Act.eval]; simpa using hb⟩
attribute [local irreducible] tc pc
set_option maxRecDepth 1000000 in
set_option maxHeartbeats 8000000 in
theorem goodTable_ref (f : Nat → Int) (g : Nat → Bool) (h : Nat → Int) (sl : Value) (ms : List Mp) (hwH : wfH h) (w : World) (hM : MapsAt w sl ms) :
    Calls Try.prog 15 #[.agg (tc f g h sl)] w fun e w' => ∃ r : Bool, (r = true ↔ GoodT f h ms) ∧ e = .returned (.bool r) ∧ Below w.heap.size w w' := by
  have G := Gm.start (Bd.start w)
  have hM0 := hM
  obtain ⟨a0, cap, hsl, -⟩ := hM0
  obtain ⟨n, hn⟩ : ∃ n, n = ms.length := ⟨_, rfl⟩
  rw [← hn] at hsl
  subst hsl
  have HN : Hid (n = ms.length) := hn
  clear hn
  have CG := fun w => goodr_any f g w
  unfold plv at CG
  by_cases hgp : goodP f = true
  rotate_left
  · have hg0 : goodP f = false := by simpa using hgp
    have HNG : Hid (false = true ↔ GoodT f h ms) := hidB ⟨fun e => (by cases e), fun G => (hgp G.pool).elim⟩
    rw [hg0] at CG
    clear hgp hg0
    go_enter Try.func15, Try.ntmps15
    go_wp2_with (first | ((with_reducible refine at_opB (.box 30 (.tmp 0)) rfl ?_); refine wpList_boxR 30 rfl (.tmp 0) rfl _ rfl ?_; intro b1 w9 l9 R9 h9; replace G := G.alloc l9 R9 h9; clear R9 h9 l9) | ((with_reducible refine at_opB (.load 26 (.tmp 19)) rfl ?_); refine wpList_load_mid rfl 26 (.tmp 19) rfl b1 0 rfl (pc f g).toList _ (Row.pool (G.bd.row 0 rfl)) Try.underlying26 rfl (by simpa using pc_info f g) ?_; (try simp only [Array.toArray_toList])) | (go_at_call 35; refine (CG _).mono ?_; rintro e w5 ⟨rfl, hb5⟩; replace G := G.below hb5; clear hb5))
    go_ret
    exact ⟨false, HNG.out, rfl, G.bd.base⟩
  · rw [hgp] at CG
    have HGP : Hid (goodP f = true) := hgp
    go_enter Try.func15, Try.ntmps15
    go_wp2_with (first | ((with_reducible refine at_opB (.box 30 (.tmp 0)) rfl ?_); refine wpList_boxR 30 rfl (.tmp 0) rfl _ rfl ?_; intro b1 w9 l9 R9 h9; replace G := G.alloc l9 R9 h9; clear R9 h9 l9) | ((with_reducible refine at_opB (.load 26 (.tmp 19)) rfl ?_); refine wpList_load_mid rfl 26 (.tmp 19) rfl b1 0 rfl (pc f g).toList _ (Row.pool (G.bd.row 0 rfl)) Try.underlying26 rfl (by simpa using pc_info f g) ?_; (try simp only [Array.toArray_toList])) | (go_at_call 35; refine (CG _).mono ?_; rintro e w5 ⟨rfl, hb5⟩; replace G := G.below hb5; clear hb5) | ((with_reducible refine at_opB (.makeMap 70 none) rfl ?_); refine wpList_mk 70 rfl rfl ?_; intro b3 hb9; have G9 := G.newB 76 k3 ok3; rw [← hb9] at G9; clear G hb9; have G := G9; clear G9) | ((with_reducible refine at_opB (.makeMap 71 none) rfl ?_); refine wpList_mk 71 rfl rfl ?_; intro b4 hb9; have G9 := G.newB 78 k3 ok3; rw [← hb9] at G9; clear G hb9; have G := G9; clear G9) | ((with_reducible refine at_opB (.makeMap 72 none) rfl ?_); refine wpList_mk 72 rfl rfl ?_; intro b5 hb9; have G9 := G.newI 79 k2 ok2; rw [← hb9] at G9; clear G hb9; have G := G9; clear G9) | ((with_reducible refine at_opB (.makeMap 73 none) rfl ?_); refine wpList_mk 73 rfl rfl ?_; intro b6 hb9; have G9 := G.newI 3 k1v wf6; rw [← hb9] at G9; clear G hb9; have G := G9; clear G9; have cM : World.cell? _ ⟨b1, 29, none⟩ = some (.slice a0 n cap) := ((G.bd.row 0 rfl).cell 29).trans (tc_maps _ _ _ _)))
    clear cM
    refine wp_loop (WG w f g h ms b1 b3 b4 b5 b6 a0 n cap) (WGmu n) ?_ ?_
    · unfold WG
      (repeat apply Exists.intro)
      refine ⟨?_, rfl⟩
      exact ⟨0, Nat.zero_le _, rfl, msOk_nil f h, 0, 0, 0, 0, ⟨by omega, by omega, by omega, by omega⟩, G⟩
    · clear G
      intro a W hI
      unfold WG at hI
      obtain ⟨u2, hI⟩ := hI
      obtain ⟨u7, hI⟩ := hI
      obtain ⟨u8, hI⟩ := hI
      obtain ⟨u9, hI⟩ := hI
      obtain ⟨u10, hI⟩ := hI
      obtain ⟨u11, hI⟩ := hI
      obtain ⟨u12, hI⟩ := hI
      obtain ⟨u13, hI⟩ := hI
      obtain ⟨u14, hI⟩ := hI
      obtain ⟨u15, hI⟩ := hI
      obtain ⟨u16, hI⟩ := hI
      obtain ⟨u17, hI⟩ := hI
      obtain ⟨u18, hI⟩ := hI
      obtain ⟨u19, hI⟩ := hI
      obtain ⟨u20, hI⟩ := hI
      obtain ⟨u21, hI⟩ := hI
      obtain ⟨u22, hI⟩ := hI
      obtain ⟨u23, hI⟩ := hI
      obtain ⟨u24, hI⟩ := hI
      obtain ⟨u25, hI⟩ := hI
      obtain ⟨u26, hI⟩ := hI
      obtain ⟨u27, hI⟩ := hI
      obtain ⟨u30, hI⟩ := hI
      obtain ⟨u31, hI⟩ := hI
      obtain ⟨u32, hI⟩ := hI
      obtain ⟨u33, hI⟩ := hI
      obtain ⟨u34, hI⟩ := hI
      obtain ⟨u35, hI⟩ := hI
      obtain ⟨u36, hI⟩ := hI
      obtain ⟨u37, hI⟩ := hI
      obtain ⟨u38, hI⟩ := hI
      obtain ⟨u39, hI⟩ := hI
      obtain ⟨u40, hI⟩ := hI
      obtain ⟨u41, hI⟩ := hI
      obtain ⟨u42, hI⟩ := hI
      obtain ⟨u43, hI⟩ := hI
      obtain ⟨u44, hI⟩ := hI
      obtain ⟨u45, hI⟩ := hI
      obtain ⟨u46, hI⟩ := hI
      obtain ⟨u47, hI⟩ := hI
      obtain ⟨u48, hI⟩ := hI
      obtain ⟨u49, hI⟩ := hI
      obtain ⟨u50, hI⟩ := hI
      obtain ⟨u51, hI⟩ := hI
      obtain ⟨u52, hI⟩ := hI
      obtain ⟨u53, hI⟩ := hI
      obtain ⟨u54, hI⟩ := hI
      obtain ⟨u55, hI⟩ := hI
      obtain ⟨u56, hI⟩ := hI
      obtain ⟨u57, hI⟩ := hI
      obtain ⟨u58, hI⟩ := hI
      obtain ⟨u59, hI⟩ := hI
      obtain ⟨u60, hI⟩ := hI
      obtain ⟨u61, hI⟩ := hI
      obtain ⟨u62, hI⟩ := hI
      obtain ⟨u63, hI⟩ := hI
      obtain ⟨u64, hI⟩ := hI
      obtain ⟨u65, hI⟩ := hI
      obtain ⟨u66, hI⟩ := hI
      obtain ⟨u67, hI⟩ := hI
      obtain ⟨u68, hI⟩ := hI
      obtain ⟨u69, hI⟩ := hI
      obtain ⟨u70, hI⟩ := hI
      obtain ⟨u71, hI⟩ := hI
      obtain ⟨u72, hI⟩ := hI
      obtain ⟨u73, hI⟩ := hI
      obtain ⟨u74, hI⟩ := hI
      obtain ⟨u75, hI⟩ := hI
      obtain ⟨u76, hI⟩ := hI
      obtain ⟨u77, hI⟩ := hI
      obtain ⟨u78, hI⟩ := hI
      obtain ⟨u79, hI⟩ := hI
      obtain ⟨u80, hI⟩ := hI
      obtain ⟨u81, hI⟩ := hI
      obtain ⟨u82, hI⟩ := hI
      obtain ⟨u83, hI⟩ := hI
      obtain ⟨u84, hI⟩ := hI
      obtain ⟨u85, hI⟩ := hI
      obtain ⟨u86, hI⟩ := hI
      obtain ⟨u87, hI⟩ := hI
      obtain ⟨u88, hI⟩ := hI
      obtain ⟨u89, hI⟩ := hI
      obtain ⟨u90, hI⟩ := hI
      obtain ⟨u91, hI⟩ := hI
      obtain ⟨u92, hI⟩ := hI
      obtain ⟨u93, hI⟩ := hI
      obtain ⟨u94, hI⟩ := hI
      obtain ⟨u95, hI⟩ := hI
      obtain ⟨u96, hI⟩ := hI
      obtain ⟨u97, hI⟩ := hI
      obtain ⟨u98, hI⟩ := hI
      obtain ⟨u99, hI⟩ := hI
      obtain ⟨u100, hI⟩ := hI
      obtain ⟨u101, hI⟩ := hI
      obtain ⟨u102, hI⟩ := hI
      obtain ⟨u103, hI⟩ := hI
      obtain ⟨u104, hI⟩ := hI
      obtain ⟨u105, hI⟩ := hI
      obtain ⟨u106, hI⟩ := hI
      obtain ⟨u107, hI⟩ := hI
      obtain ⟨u108, hI⟩ := hI
      obtain ⟨u109, hI⟩ := hI
      obtain ⟨u110, hI⟩ := hI
      obtain ⟨u111, hI⟩ := hI
      obtain ⟨u112, hI⟩ := hI
      obtain ⟨u113, hI⟩ := hI
      obtain ⟨u114, hI⟩ := hI
      obtain ⟨u115, hI⟩ := hI
      obtain ⟨u116, hI⟩ := hI
      obtain ⟨u117, hI⟩ := hI
      obtain ⟨u118, hI⟩ := hI
      obtain ⟨u119, hI⟩ := hI
      obtain ⟨u120, hI⟩ := hI
      obtain ⟨u121, hI⟩ := hI
      obtain ⟨u122, hI⟩ := hI
      obtain ⟨u123, hI⟩ := hI
      obtain ⟨u124, hI⟩ := hI
      obtain ⟨u125, hI⟩ := hI
      obtain ⟨u126, hI⟩ := hI
      obtain ⟨u127, hI⟩ := hI
      obtain ⟨u128, hI⟩ := hI
      obtain ⟨u129, hI⟩ := hI
      obtain ⟨u130, hI⟩ := hI
      obtain ⟨u131, hI⟩ := hI
      obtain ⟨u132, hI⟩ := hI
      obtain ⟨u133, hI⟩ := hI
      obtain ⟨u134, hI⟩ := hI
      obtain ⟨u135, hI⟩ := hI
      obtain ⟨u136, hI⟩ := hI
      obtain ⟨u137, hI⟩ := hI
      obtain ⟨u138, hI⟩ := hI
      obtain ⟨u139, hI⟩ := hI
      obtain ⟨u140, hI⟩ := hI
      obtain ⟨u141, hI⟩ := hI
      obtain ⟨u142, hI⟩ := hI
      obtain ⟨u143, hI⟩ := hI
      obtain ⟨u144, hI⟩ := hI
      obtain ⟨u145, hI⟩ := hI
      obtain ⟨u146, hI⟩ := hI
      obtain ⟨u147, hI⟩ := hI
      obtain ⟨u148, hI⟩ := hI
      obtain ⟨u149, hI⟩ := hI
      obtain ⟨u150, hI⟩ := hI
      obtain ⟨u151, hI⟩ := hI
      obtain ⟨u152, hI⟩ := hI
      obtain ⟨u153, hI⟩ := hI
      obtain ⟨u154, hI⟩ := hI
      obtain ⟨u155, hI⟩ := hI
      obtain ⟨u156, hI⟩ := hI
      obtain ⟨u157, hI⟩ := hI
      obtain ⟨u158, hI⟩ := hI
      obtain ⟨u159, hI⟩ := hI
      obtain ⟨u160, hI⟩ := hI
      obtain ⟨u161, hI⟩ := hI
      obtain ⟨u162, hI⟩ := hI
      obtain ⟨u163, hI⟩ := hI
      obtain ⟨u164, hI⟩ := hI
      obtain ⟨u165, hI⟩ := hI
      obtain ⟨u166, hI⟩ := hI
      obtain ⟨u167, hI⟩ := hI
      obtain ⟨u168, hI⟩ := hI
      obtain ⟨u169, hI⟩ := hI
      obtain ⟨u170, hI⟩ := hI
      obtain ⟨u171, hI⟩ := hI
      obtain ⟨u172, hI⟩ := hI
      obtain ⟨u173, hI⟩ := hI
      obtain ⟨u174, hI⟩ := hI
      obtain ⟨u175, hI⟩ := hI
      obtain ⟨u176, hI⟩ := hI
      obtain ⟨u177, hI⟩ := hI
      obtain ⟨u178, hI⟩ := hI
      obtain ⟨u179, hI⟩ := hI
      obtain ⟨u180, hI⟩ := hI
      obtain ⟨u181, hI⟩ := hI
      obtain ⟨u182, hI⟩ := hI
      obtain ⟨u183, hI⟩ := hI
      obtain ⟨u184, hI⟩ := hI
      obtain ⟨u185, hI⟩ := hI
      obtain ⟨u186, hI⟩ := hI
      obtain ⟨u187, hI⟩ := hI
      obtain ⟨u188, hI⟩ := hI
      obtain ⟨u189, hI⟩ := hI
      obtain ⟨u190, hI⟩ := hI
      obtain ⟨u191, hI⟩ := hI
      obtain ⟨u192, hI⟩ := hI
      obtain ⟨u193, hI⟩ := hI
      obtain ⟨u194, hI⟩ := hI
      obtain ⟨u195, hI⟩ := hI
      obtain ⟨u196, hI⟩ := hI
      obtain ⟨u197, hI⟩ := hI
      obtain ⟨u198, hI⟩ := hI
      obtain ⟨u199, hI⟩ := hI
      obtain ⟨u200, hI⟩ := hI
      obtain ⟨u201, hI⟩ := hI
      obtain ⟨u202, hI⟩ := hI
      obtain ⟨hrel, rfl⟩ := hI
      obtain ⟨j, hj, rfl, HK, n6, n5, n4, n3, HNs, G⟩ := hrel
      by_cases hlj : j < ms.length
      · obtain ⟨m, hm⟩ : ∃ m, ms[j] = m := ⟨_, rfl⟩
        by_cases hok : OkM m
        · cases e3 : sOut (ms.take j) (m.1, m.2.2.2.1, m.2.2.2.2) with
          | true => exact gt_v3 u2 u7 u8 u9 u10 u11 u12 u13 u14 u15 u16 u17 u18 u19 u20 u21 u22 u23 u24 u25 u26 u27 u31 u32 u33 u34 u35 u36 u37 u38 u39 u40 u41 u42 u43 u44 u45 u46 u47 u48 u49 u50 u51 u52 u53 u54 u55 u56 u57 u58 u59 u60 u61 u62 u63 u64 u65 u66 u67 u68 u69 u70 u71 u72 u73 u74 u75 u76 u77 u78 u79 u80 u81 u82 u83 u84 u85 u86 u87 u88 u89 u90 u91 u92 u93 u94 u95 u96 u97 u98 u99 u100 u101 u102 u103 u104 u105 u106 u107 u108 u109 u110 u111 u112 u113 u114 u115 u116 u117 u118 u119 u120 u121 u122 u123 u124 u125 u126 u127 u128 u129 u130 u131 u132 u133 u134 u135 u136 u137 u138 u139 u140 u141 u142 u143 u144 u145 u146 u147 u148 u149 u150 u151 u152 u153 u154 u155 u156 u157 u158 u159 u160 u161 u162 u163 u164 u165 u166 u167 u168 u169 u170 u171 u172 u173 u174 u175 u176 u177 u178 u179 u180 u181 u182 u183 u184 u185 u186 u187 u188 u189 u190 u191 u192 u193 u194 u195 u196 u197 u198 u199 u200 u201 u202 j HNs G HK HN hM hwH hgp hlj m hm hok e3 _ (fun a w' h => h)
          | false =>
            cases e4 : sIn (ms.take j) (m.1, m.2.1, m.2.2.1) with
            | true => exact gt_v4 u2 u7 u8 u9 u10 u11 u12 u13 u14 u15 u16 u17 u18 u19 u20 u21 u22 u23 u24 u25 u26 u27 u31 u32 u33 u34 u35 u36 u37 u38 u39 u40 u41 u42 u43 u44 u45 u46 u47 u48 u49 u50 u51 u52 u53 u54 u55 u56 u57 u58 u59 u60 u61 u62 u63 u64 u65 u66 u67 u68 u69 u70 u71 u72 u73 u74 u75 u76 u77 u78 u79 u80 u81 u82 u83 u84 u85 u86 u87 u88 u89 u90 u91 u92 u93 u94 u95 u96 u97 u98 u99 u100 u101 u102 u103 u104 u105 u106 u107 u108 u109 u110 u111 u112 u113 u114 u115 u116 u117 u118 u119 u120 u121 u122 u123 u124 u125 u126 u127 u128 u129 u130 u131 u132 u133 u134 u135 u136 u137 u138 u139 u140 u141 u142 u143 u144 u145 u146 u147 u148 u149 u150 u151 u152 u153 u154 u155 u156 u157 u158 u159 u160 u161 u162 u163 u164 u165 u166 u167 u168 u169 u170 u171 u172 u173 u174 u175 u176 u177 u178 u179 u180 u181 u182 u183 u184 u185 u186 u187 u188 u189 u190 u191 u192 u193 u194 u195 u196 u197 u198 u199 u200 u201 u202 j HNs G HK HN hM hwH hgp hlj m hm hok e3 e4 _ (fun a w' h => h)
            | false =>
              by_cases e5 : h m.2.1.toNat = m.2.2.2.1 + 1
              · by_cases e6 : f (placeM m) = m.2.1 + 1
                · exact gt_ok u2 u7 u8 u9 u10 u11 u12 u13 u14 u15 u16 u17 u18 u19 u20 u21 u22 u23 u24 u25 u26 u27 u31 u32 u33 u34 u35 u36 u37 u38 u39 u40 u41 u42 u43 u44 u45 u46 u47 u48 u49 u50 u51 u52 u53 u54 u55 u56 u57 u58 u59 u60 u61 u62 u63 u64 u65 u66 u67 u68 u69 u70 u71 u72 u73 u74 u75 u76 u77 u78 u79 u80 u81 u82 u83 u84 u85 u86 u87 u88 u89 u90 u91 u92 u93 u94 u95 u96 u97 u98 u99 u100 u101 u102 u103 u104 u105 u106 u107 u108 u109 u110 u111 u112 u113 u114 u115 u116 u117 u118 u119 u120 u121 u122 u123 u124 u125 u126 u127 u128 u129 u130 u131 u132 u133 u134 u135 u136 u137 u138 u139 u140 u141 u142 u143 u144 u145 u146 u147 u148 u149 u150 u151 u152 u153 u154 u155 u156 u157 u158 u159 u160 u161 u162 u163 u164 u165 u166 u167 u168 u169 u170 u171 u172 u173 u174 u175 u176 u177 u178 u179 u180 u181 u182 u183 u184 u185 u186 u187 u188 u189 u190 u191 u192 u193 u194 u195 u196 u197 u198 u199 u200 u201 u202 j HNs G HK HN hM hwH hgp hlj m hm hok e3 e4 e5 e6 _ (fun a w' h => h)
                · exact gt_c4 u2 u7 u8 u9 u10 u11 u12 u13 u14 u15 u16 u17 u18 u19 u20 u21 u22 u23 u24 u25 u26 u27 u31 u32 u33 u34 u35 u36 u37 u38 u39 u40 u41 u42 u43 u44 u45 u46 u47 u48 u49 u50 u51 u52 u53 u54 u55 u56 u57 u58 u59 u60 u61 u62 u63 u64 u65 u66 u67 u68 u69 u70 u71 u72 u73 u74 u75 u76 u77 u78 u79 u80 u81 u82 u83 u84 u85 u86 u87 u88 u89 u90 u91 u92 u93 u94 u95 u96 u97 u98 u99 u100 u101 u102 u103 u104 u105 u106 u107 u108 u109 u110 u111 u112 u113 u114 u115 u116 u117 u118 u119 u120 u121 u122 u123 u124 u125 u126 u127 u128 u129 u130 u131 u132 u133 u134 u135 u136 u137 u138 u139 u140 u141 u142 u143 u144 u145 u146 u147 u148 u149 u150 u151 u152 u153 u154 u155 u156 u157 u158 u159 u160 u161 u162 u163 u164 u165 u166 u167 u168 u169 u170 u171 u172 u173 u174 u175 u176 u177 u178 u179 u180 u181 u182 u183 u184 u185 u186 u187 u188 u189 u190 u191 u192 u193 u194 u195 u196 u197 u198 u199 u200 u201 u202 j HNs G HK HN hM hwH hgp hlj m hm hok e3 e4 e5 e6 _ (fun a w' h => h)
              · exact gt_c3 u2 u7 u8 u9 u10 u11 u12 u13 u14 u15 u16 u17 u18 u19 u20 u21 u22 u23 u24 u25 u26 u27 u31 u32 u33 u34 u35 u36 u37 u38 u39 u40 u41 u42 u43 u44 u45 u46 u47 u48 u49 u50 u51 u52 u53 u54 u55 u56 u57 u58 u59 u60 u61 u62 u63 u64 u65 u66 u67 u68 u69 u70 u71 u72 u73 u74 u75 u76 u77 u78 u79 u80 u81 u82 u83 u84 u85 u86 u87 u88 u89 u90 u91 u92 u93 u94 u95 u96 u97 u98 u99 u100 u101 u102 u103 u104 u105 u106 u107 u108 u109 u110 u111 u112 u113 u114 u115 u116 u117 u118 u119 u120 u121 u122 u123 u124 u125 u126 u127 u128 u129 u130 u131 u132 u133 u134 u135 u136 u137 u138 u139 u140 u141 u142 u143 u144 u145 u146 u147 u148 u149 u150 u151 u152 u153 u154 u155 u156 u157 u158 u159 u160 u161 u162 u163 u164 u165 u166 u167 u168 u169 u170 u171 u172 u173 u174 u175 u176 u177 u178 u179 u180 u181 u182 u183 u184 u185 u186 u187 u188 u189 u190 u191 u192 u193 u194 u195 u196 u197 u198 u199 u200 u201 u202 j HNs G HK HN hM hwH hgp hlj m hm hok e3 e4 e5 _ (fun a w' h => h)
        · exact gt_bad10 u2 u7 u8 u9 u10 u11 u12 u13 u14 u15 u16 u17 u18 u19 u20 u21 u22 u23 u24 u25 u26 u27 u31 u32 u33 u34 u35 u36 u37 u38 u39 u40 u41 u42 u43 u44 u45 u46 u47 u48 u49 u50 u51 u52 u53 u54 u55 u56 u57 u58 u59 u60 u61 u62 u63 u64 u65 u66 u67 u68 u69 u70 u71 u72 u73 u74 u75 u76 u77 u78 u79 u80 u81 u82 u83 u84 u85 u86 u87 u88 u89 u90 u91 u92 u93 u94 u95 u96 u97 u98 u99 u100 u101 u102 u103 u104 u105 u106 u107 u108 u109 u110 u111 u112 u113 u114 u115 u116 u117 u118 u119 u120 u121 u122 u123 u124 u125 u126 u127 u128 u129 u130 u131 u132 u133 u134 u135 u136 u137 u138 u139 u140 u141 u142 u143 u144 u145 u146 u147 u148 u149 u150 u151 u152 u153 u154 u155 u156 u157 u158 u159 u160 u161 u162 u163 u164 u165 u166 u167 u168 u169 u170 u171 u172 u173 u174 u175 u176 u177 u178 u179 u180 u181 u182 u183 u184 u185 u186 u187 u188 u189 u190 u191 u192 u193 u194 u195 u196 u197 u198 u199 u200 u201 u202 j HNs G HK HN hM hwH hgp hlj m hm hok _ (fun a w' h => h)
      · have hje : j = ms.length := by omega
        have HMS : Hid (MsOk f h ms) := hidB (by have := HK.out; rw [hje, List.take_length] at this; exact this)
        have hjn : ¬ (j : Int) < (n : Int) := by have := HN.out; omega
        rw [hje, List.take_length] at G
        clear hje hlj HK HNs hj
        go_wp2_with (first | ((with_reducible refine at_opB (.makeMap 73 none) rfl ?_); refine wpList_mk 73 rfl rfl ?_; intro b14 hb9; have G9 := G.newI 3 k1v wf6; rw [← hb9] at G9; clear G hb9; have G := G9; clear G9))
        go_loopw [146] (fun v W => ∃ a : Nat, a ≤ 3 ∧ v = .int .i64 (a : Int) ∧ Hid (∀ q, q < 6 * a → docB f ms q) ∧ ∃ nh : Nat, Hid (nh ≤ 6 * a) ∧ Gm w W [(b1, 30, tc f g h (.slice a0 n cap))] [] (entI 3 k1v wf6 b14 nh (hadF f (6 * a)) :: [entI 3 k1v wf6 b6 n6 (nOf ms), entI 79 k2 ok2 b5 n5 (nPl ms), entB 78 k3 ok3 b4 n4 (sIn ms), entB 76 k3 ok3 b3 n3 (sOut ms)])) (fun v _ => 3 - (intOf v).toNat)
        case atStart => exact ⟨0, by omega, rfl, hidB (fun q hq => by omega), 0, hidB (by omega), G⟩
        case round =>
          clear G
          obtain ⟨a, ha, rfl, HD, nh, HNH, G⟩ := hrel
          by_cases ha3 : a < 3
          · have hac : (a : Int) < 3 := by omega
            have haw : wrap64 ((a : Int) + 1) = (a : Int) + 1 := by unfold wrap64; omega
            have HMA : Hid (3 - ((a : Int) + 1).toNat < 3 - ((a : Int)).toNat) := hidB (by omega)
            go_wp2
            go_loopw [149] (fun v W => ∃ k : Nat, k ≤ 6 ∧ v = .int .i64 (k : Int) ∧ Hid (∀ q, q < 6 * a + k → docB f ms q) ∧ ∃ nh : Nat, Hid (nh ≤ 6 * a + k) ∧ Gm w W [(b1, 30, tc f g h (.slice a0 n cap))] [] (entI 3 k1v wf6 b14 nh (hadF f (6 * a + k)) :: [entI 3 k1v wf6 b6 n6 (nOf ms), entI 79 k2 ok2 b5 n5 (nPl ms), entB 78 k3 ok3 b4 n4 (sIn ms), entB 76 k3 ok3 b3 n3 (sOut ms)])) (fun v _ => 6 - (intOf v).toNat)
            case atStart => exact ⟨0, by omega, rfl, HD, nh, HNH, G⟩
            case round =>
              clear G HNH nh
              obtain ⟨k, hk, rfl, HDk, nh, HNH, G⟩ := hrel
              by_cases hk6 : k < 6
              · have hkc : (k : Int) < 6 := by omega
                have hkw : wrap64 ((k : Int) + 1) = (k : Int) + 1 := by unfold wrap64; omega
                have H18 : Hid (6 * a + k < 18) := hidB (by omega)
                have hfb := goodP_inv HGP.out (6 * a + k) H18.out
                have IA : ∀ w : World, (Instr.indexAt 23 (.pointer (some ⟨b1, 0, none⟩)) (.int .i64 (a : Int))).run Try.prog w = .ok (.pointer (some ⟨b1, 6 * a, none⟩)) w := fun w => by have := ix3 b1 0 a ha3 w; simpa using this
                have IB := fun w => ix6 b1 (6 * a) k hk6 w
                have HTW : Hid (ok2 ((a : Int), (k : Int))) := hidB ⟨wf6_of (by show -9223372036854775808 ≤ (a : Int) ∧ (a : Int) ≤ _; omega), wf6_of (by show -9223372036854775808 ≤ (k : Int) ∧ (k : Int) ≤ _; omega)⟩
                have hbt := fun w => run_btw (a : Int) (k : Int) w
                have hdv : (6 * a + k) / 6 = a ∧ (6 * a + k) % 6 = k := by omega
                have HDB : Hid (docB f ms (6 * a + k) ↔ (0 < f (6 * a + k) ↔ 0 < nPl ms ((a : Int), (k : Int)))) := hidB (by unfold docB; rw [hdv.1, hdv.2])
                have HBD : Hid (¬ (0 < f (6 * a + k) ↔ 0 < nPl ms ((a : Int), (k : Int))) → (false = true ↔ GoodT f h ms)) := hidB (fun hn => ⟨fun e => (by cases e), fun GG => (hn (HDB.out.1 ((docGood_iff.1 GG).2.2.1 _ H18.out))).elim⟩)
                have HDS : Hid ((0 < f (6 * a + k) ↔ 0 < nPl ms ((a : Int), (k : Int))) → ∀ q, q < 6 * a + (k + 1) → docB f ms q) := hidB (fun hb q hq => by
                  by_cases e : q = 6 * a + k
                  · subst e; exact HDB.out.2 hb
                  · exact HDk.out q (by omega))
                have HME : Hid (6 - ((k : Int) + 1).toNat < 6 - ((k : Int)).toNat) := hidB (by omega)
                by_cases o0 : 0 < f (6 * a + k)
                · have g1 : decide (0 < f (6 * a + k)) = true := by simpa using o0
                  have hw1 : wrap64 (f (6 * a + k) - 1) = f (6 * a + k) - 1 := (own_wrap hfb).1
                  have HOW : Hid (wf6 (f (6 * a + k) - 1)) := hidB (own_wrap hfb).2
                  have hw2 : wrap64 (hadF f (6 * a + k) (f (6 * a + k) - 1) + 1) = hadF f (6 * a + k) (f (6 * a + k) - 1) + 1 := had_wrap f H18.out _
                  have HYH : Hid ((Lit.int .i64 (hadF f (6 * a + k) (f (6 * a + k) - 1) + 1)).wf = true) := hidB (had_wf f H18.out _)
                  have HBH : Hid (nh < maxLen) := hidB (by have := HNH.out; unfold maxLen; omega)
                  have HUP : Hid (updX (hadF f (6 * a + k)) (f (6 * a + k) - 1) (hadF f (6 * a + k) (f (6 * a + k) - 1) + 1) = hadF f (6 * a + (k + 1))) := hidB (hadF_up f (6 * a + k) o0)
                  have HNH3 : Hid (nh + 1 ≤ 6 * a + (k + 1)) := hidB (by have := HNH.out; omega)
                  by_cases c0 : 0 < nPl ms ((a : Int), (k : Int))
                  · have g2 : decide (0 < nPl ms ((a : Int), (k : Int))) = true := by simpa using c0
                    have HD2 : Hid (∀ q, q < 6 * a + (k + 1) → docB f ms q) := hidB (HDS.out ⟨fun _ => c0, fun _ => o0⟩)
                    clear c0 o0 hfb hdv
                    go_wp2_with (first | ((with_reducible refine at_opB (.load 3 (.tmp 157)) rfl ?_); refine wpList_loadF (G.bd.row 0 rfl) _ rfl (by kernel_rfl) (6 * a + k) rfl (f (6 * a + k)) (tc_own _ _ _ _ _ H18.out) ?_) | ((with_reducible refine at_opB (.lookup 72 (.tmp 168) (.tmp 171) false) rfl ?_); refine wpList_lk rfl 72 (.tmp 168) (.tmp 171) rfl (.map (some b5)) (k2 ((a : Int), (k : Int))) (.int .i64 (nPl ms ((a : Int), (k : Int)))) rfl rfl (MeI.look (G.ent 2 rfl) kyTwo Try.underlying72 ((a : Int), (k : Int)) HTW.out).1 ?_) | ((with_reducible refine at_opB (.lookup 73 (.tmp 161) (.tmp 163) false) rfl ?_); refine wpList_lk rfl 73 (.tmp 161) (.tmp 163) rfl (.map (some b14)) (k1v (f (6 * a + k) - 1)) (.int .i64 (hadF f (6 * a + k) (f (6 * a + k) - 1))) rfl (by first | rfl | exact congrArg (Value.int .i64) hw1) (MeI.look (G.ent 0 rfl) kyInt Try.underlying73 (f (6 * a + k) - 1) HOW.out).1 ?_) | ((with_reducible refine at_opB (.mapUpdate 73 (.tmp 161) (.tmp 163) (.tmp 165)) rfl ?_); obtain ⟨w9, hr9, G9⟩ := G.putI 0 rfl kyInt Try.underlying73 HBH.out (f (6 * a + k) - 1) HOW.out (hadF f (6 * a + k) (f (6 * a + k) - 1) + 1) HYH.out; refine wpList_mu rfl 73 (.tmp 161) (.tmp 163) (.tmp 165) rfl (.map (some b14)) (k1v (f (6 * a + k) - 1)) (.int .i64 (hadF f (6 * a + k) (f (6 * a + k) - 1) + 1)) rfl (by first | rfl | exact congrArg (Value.int .i64) hw1) (by first | rfl | exact congrArg (Value.int .i64) hw2) hr9 ?_; clear G hr9; have G := G9; clear G9))
                    have G' : Gm w _ [(b1, 30, tc f g h (.slice a0 n cap))] [] (entI 3 k1v wf6 b14 (nh + 1) (updX (hadF f (6 * a + k)) (f (6 * a + k) - 1) (hadF f (6 * a + k) (f (6 * a + k) - 1) + 1)) :: [entI 3 k1v wf6 b6 n6 (nOf ms), entI 79 k2 ok2 b5 n5 (nPl ms), entB 78 k3 ok3 b4 n4 (sIn ms), entB 76 k3 ok3 b3 n3 (sOut ms)]) := G
                    rw [HUP.out] at G'
                    go_roundw
                    case rel => first | exact ⟨k + 1, hk6, castB k, HD2, _, HNH3, G'⟩ | exact ⟨k + 1, hk6, castBW hkw, HD2, _, HNH3, G'⟩
                    case measure => (first | rw [hkw] | skip); exact HME.out
                  · have g2 : decide (0 < nPl ms ((a : Int), (k : Int))) = false := by simpa using c0
                    have HNG : Hid (false = true ↔ GoodT f h ms) := hidB (HBD.out (fun e => c0 (e.1 o0)))
                    clear c0 o0 hfb hdv
                    go_wp2_with (first | ((with_reducible refine at_opB (.load 3 (.tmp 157)) rfl ?_); refine wpList_loadF (G.bd.row 0 rfl) _ rfl (by kernel_rfl) (6 * a + k) rfl (f (6 * a + k)) (tc_own _ _ _ _ _ H18.out) ?_) | ((with_reducible refine at_opB (.lookup 72 (.tmp 168) (.tmp 171) false) rfl ?_); refine wpList_lk rfl 72 (.tmp 168) (.tmp 171) rfl (.map (some b5)) (k2 ((a : Int), (k : Int))) (.int .i64 (nPl ms ((a : Int), (k : Int)))) rfl rfl (MeI.look (G.ent 2 rfl) kyTwo Try.underlying72 ((a : Int), (k : Int)) HTW.out).1 ?_) | ((with_reducible refine at_opB (.lookup 73 (.tmp 161) (.tmp 163) false) rfl ?_); refine wpList_lk rfl 73 (.tmp 161) (.tmp 163) rfl (.map (some b14)) (k1v (f (6 * a + k) - 1)) (.int .i64 (hadF f (6 * a + k) (f (6 * a + k) - 1))) rfl (by first | rfl | exact congrArg (Value.int .i64) hw1) (MeI.look (G.ent 0 rfl) kyInt Try.underlying73 (f (6 * a + k) - 1) HOW.out).1 ?_) | ((with_reducible refine at_opB (.mapUpdate 73 (.tmp 161) (.tmp 163) (.tmp 165)) rfl ?_); obtain ⟨w9, hr9, G9⟩ := G.putI 0 rfl kyInt Try.underlying73 HBH.out (f (6 * a + k) - 1) HOW.out (hadF f (6 * a + k) (f (6 * a + k) - 1) + 1) HYH.out; refine wpList_mu rfl 73 (.tmp 161) (.tmp 163) (.tmp 165) rfl (.map (some b14)) (k1v (f (6 * a + k) - 1)) (.int .i64 (hadF f (6 * a + k) (f (6 * a + k) - 1) + 1)) rfl (by first | rfl | exact congrArg (Value.int .i64) hw1) (by first | rfl | exact congrArg (Value.int .i64) hw2) hr9 ?_; clear G hr9; have G := G9; clear G9))
                    go_ret
                    exact ⟨false, HNG.out, rfl, G.bd.base⟩
                · have g1 : decide (0 < f (6 * a + k)) = false := by simpa using o0
                  have HUP : Hid (hadF f (6 * a + (k + 1)) = hadF f (6 * a + k)) := hidB (hadF_same f (6 * a + k) o0)
                  have HNH3 : Hid (nh ≤ 6 * a + (k + 1)) := hidB (by have := HNH.out; omega)
                  by_cases c0 : 0 < nPl ms ((a : Int), (k : Int))
                  · have g2 : decide (0 < nPl ms ((a : Int), (k : Int))) = true := by simpa using c0
                    have HNG : Hid (false = true ↔ GoodT f h ms) := hidB (HBD.out (fun e => o0 (e.2 c0)))
                    clear c0 o0 hfb hdv
                    go_wp2_with (first | ((with_reducible refine at_opB (.load 3 (.tmp 157)) rfl ?_); refine wpList_loadF (G.bd.row 0 rfl) _ rfl (by kernel_rfl) (6 * a + k) rfl (f (6 * a + k)) (tc_own _ _ _ _ _ H18.out) ?_) | ((with_reducible refine at_opB (.lookup 72 (.tmp 168) (.tmp 171) false) rfl ?_); refine wpList_lk rfl 72 (.tmp 168) (.tmp 171) rfl (.map (some b5)) (k2 ((a : Int), (k : Int))) (.int .i64 (nPl ms ((a : Int), (k : Int)))) rfl rfl (MeI.look (G.ent 2 rfl) kyTwo Try.underlying72 ((a : Int), (k : Int)) HTW.out).1 ?_))
                    go_ret
                    exact ⟨false, HNG.out, rfl, G.bd.base⟩
                  · have g2 : decide (0 < nPl ms ((a : Int), (k : Int))) = false := by simpa using c0
                    have HD2 : Hid (∀ q, q < 6 * a + (k + 1) → docB f ms q) := hidB (HDS.out ⟨fun e => (o0 e).elim, fun e => (c0 e).elim⟩)
                    clear c0 o0 hfb hdv
                    go_wp2_with (first | ((with_reducible refine at_opB (.load 3 (.tmp 157)) rfl ?_); refine wpList_loadF (G.bd.row 0 rfl) _ rfl (by kernel_rfl) (6 * a + k) rfl (f (6 * a + k)) (tc_own _ _ _ _ _ H18.out) ?_) | ((with_reducible refine at_opB (.lookup 72 (.tmp 168) (.tmp 171) false) rfl ?_); refine wpList_lk rfl 72 (.tmp 168) (.tmp 171) rfl (.map (some b5)) (k2 ((a : Int), (k : Int))) (.int .i64 (nPl ms ((a : Int), (k : Int)))) rfl rfl (MeI.look (G.ent 2 rfl) kyTwo Try.underlying72 ((a : Int), (k : Int)) HTW.out).1 ?_))
                    have G' : Gm w _ [(b1, 30, tc f g h (.slice a0 n cap))] [] (entI 3 k1v wf6 b14 nh (hadF f (6 * a + k)) :: [entI 3 k1v wf6 b6 n6 (nOf ms), entI 79 k2 ok2 b5 n5 (nPl ms), entB 78 k3 ok3 b4 n4 (sIn ms), entB 76 k3 ok3 b3 n3 (sOut ms)]) := G
                    rw [← HUP.out] at G'
                    go_roundw
                    case rel => first | exact ⟨k + 1, hk6, castB k, HD2, _, HNH3, G'⟩ | exact ⟨k + 1, hk6, castBW hkw, HD2, _, HNH3, G'⟩
                    case measure => (first | rw [hkw] | skip); exact HME.out
              · have hk7 : k = 6 := by omega
                subst hk7
                have HD2 : Hid (∀ q, q < 6 * (a + 1) → docB f ms q) := hidB (fun q hq => HDk.out q (by omega))
                have HNH3 : Hid (nh ≤ 6 * (a + 1)) := hidB (by have := HNH.out; omega)
                go_wp2
                go_roundw
                case rel => first | exact ⟨a + 1, by omega, castB a, HD2, nh, HNH3, G⟩ | exact ⟨a + 1, by omega, castBW haw, HD2, nh, HNH3, G⟩
                case measure => (first | rw [haw] | skip); exact HMA.out
          · have ha4 : a = 3 := by omega
            subst ha4
            replace HD : Hid (∀ q, q < 18 → docB f ms q) := HD
            go_wp2
            go_loopw [177] (fun v W => ∃ s : Nat, s ≤ 8 ∧ v = .int .i64 (s : Int) ∧ Hid (∀ t, t < s → docH f h ms t) ∧ Gm w W [(b1, 30, tc f g h (.slice a0 n cap))] [] (entI 3 k1v wf6 b14 nh (hadF f (18)) :: [entI 3 k1v wf6 b6 n6 (nOf ms), entI 79 k2 ok2 b5 n5 (nPl ms), entB 78 k3 ok3 b4 n4 (sIn ms), entB 76 k3 ok3 b3 n3 (sOut ms)])) (fun v _ => 8 - (intOf v).toNat)
            case atStart => exact ⟨0, by omega, rfl, hidB (fun t ht => by omega), G⟩
            case round =>
              clear G
              obtain ⟨s, hs, rfl, HS, G⟩ := hrel
              by_cases hs8 : s < 8
              · have hsc : (s : Int) < 8 := by omega
                have hsw : wrap64 ((s : Int) + 1) = (s : Int) + 1 := by unfold wrap64; omega
                have HS8 : Hid (s < 8) := hs8
                have HSW : Hid (wf6 (s : Int)) := hidB (wf6_of (by omega))
                have HNN : Hid (¬ docH f h ms s → (false = true ↔ GoodT f h ms)) := hidB (fun hn => ⟨fun e => (by cases e), fun GG => (hn ((docGood_iff.1 GG).2.2.2 s hs8)).elim⟩)
                have HME : Hid (8 - ((s : Int) + 1).toNat < 8 - ((s : Int)).toNat) := hidB (by omega)
                obtain ⟨e1, he1⟩ : ∃ b, (h s == 0) = b := ⟨_, rfl⟩
                obtain ⟨e2, he2⟩ : ∃ b, (hadF f 18 (s : Int) == 0) = b := ⟨_, rfl⟩
                have E1 : Hid ((h s == 0) = e1) := he1
                have E2 : Hid ((hadF f 18 (s : Int) == 0) = e2) := he2
                have H12 : Hid ((e1 = true ↔ h s = 0) ∧ (e2 = true ↔ hadF f 18 (s : Int) = 0)) := hidB ⟨by rw [← he1]; simp, by rw [← he2]; simp⟩
                clear he1 he2
                by_cases c1 : 2 < hadF f 18 (s : Int)
                · have C1 : Hid (decide (2 < hadF f 18 (s : Int)) = true) := hidB (by simpa using c1)
                  have HNG : Hid (false = true ↔ GoodT f h ms) := hidB (HNN.out (fun hd => by have := hd.1; omega))
                  clear c1
                  go_upto_region 36 with (fail)
                  refine wp_region_noPanic ?_
                  refine wp_region_held_drew (S := fun W => Gm w W [(b1, 30, tc f g h (.slice a0 n cap))] [] (entI 3 k1v wf6 b14 nh (hadF f (18)) :: [entI 3 k1v wf6 b6 n6 (nOf ms), entI 79 k2 ok2 b5 n5 (nPl ms), entB 78 k3 ok3 b4 n4 (sIn ms), entB 76 k3 ok3 b3 n3 (sOut ms)])) (by kernel_rfl) (by first | exact G | exact G.drew) (fun _ => ?_)
                  refine wpAnyH_take (i := 0) (v := .map (some b14)) rfl (by kernel_rfl) (by kernel_rfl) (by kernel_rfl) (fun _ _ _ h => h) (Or.inl ⟨by kernel_rfl, by intro w hS; go_simp⟩) (by first | exact G | exact G.drew) ?_
                  simp only [Act.put, List.getElem_toArray, List.getElem_cons_succ, List.getElem_cons_zero, List.setIfInBounds_toArray, List.set_cons_zero, List.set_cons_succ]
                  refine wpAnyH_take (i := 1) (v := .int .i64 (s : Int)) rfl (by kernel_rfl) (by kernel_rfl) (by kernel_rfl) (fun _ _ _ h => h) (Or.inl ⟨by kernel_rfl, by intro w hS; go_simp⟩) (by first | exact G | exact G.drew) ?_
                  simp only [Act.put, List.getElem_toArray, List.getElem_cons_succ, List.getElem_cons_zero, List.setIfInBounds_toArray, List.set_cons_zero, List.set_cons_succ]
                  refine wpAnyH_take (i := 2) (v := .int .i64 (hadF f 18 (s : Int))) rfl (by kernel_rfl) (by kernel_rfl) (by kernel_rfl) (fun _ _ _ h => h) (yields_lk 73 (.tmp 180) (.tmp 181) rfl (by kernel_rfl) (.map (some b14)) (k1v (s : Int)) _ (by kernel_rfl) (by kernel_rfl) (fun w h => (MeI.look (h.ent 0 rfl) kyInt Try.underlying73 (s : Int) HSW.out).1)) (by first | exact G | exact G.drew) ?_
                  simp only [Act.put, List.getElem_toArray, List.getElem_cons_succ, List.getElem_cons_zero, List.setIfInBounds_toArray, List.set_cons_zero, List.set_cons_succ]
                  refine wpAnyH_take (i := 3) (v := .bool true) rfl (by kernel_rfl) (by kernel_rfl) (by kernel_rfl) (fun _ _ _ h => h) (yields_gtr (.tmp 182) 2 rfl (by kernel_rfl) _ _ (by kernel_rfl) C1.out) (by first | exact G | exact G.drew) ?_
                  simp only [Act.put, List.getElem_toArray, List.getElem_cons_succ, List.getElem_cons_zero, List.setIfInBounds_toArray, List.set_cons_zero, List.set_cons_succ]
                  refine wpAnyH_take (i := 4) (v := .bool true) rfl (by kernel_rfl) (by kernel_rfl) (by kernel_rfl) (fun _ _ _ h => h) (Or.inl ⟨by kernel_rfl, by intro w hS; go_simp⟩) (by first | exact G | exact G.drew) ?_
                  simp only [Act.put, List.getElem_toArray, List.getElem_cons_succ, List.getElem_cons_zero, List.setIfInBounds_toArray, List.set_cons_zero, List.set_cons_succ]
                  refine wpAnyH_take (i := 5) (v := undef) rfl (by kernel_rfl) (by kernel_rfl) (by kernel_rfl) (fun _ _ _ h => h) (Or.inr ⟨by kernel_rfl, rfl⟩) (by first | exact G | exact G.drew) ?_
                  simp only [Act.put, List.getElem_toArray, List.getElem_cons_succ, List.getElem_cons_zero, List.setIfInBounds_toArray, List.set_cons_zero, List.set_cons_succ]
                  refine wpAnyH_take (i := 6) (v := undef) rfl (by kernel_rfl) (by kernel_rfl) (by kernel_rfl) (fun _ _ _ h => h) (Or.inr ⟨by kernel_rfl, rfl⟩) (by first | exact G | exact G.drew) ?_
                  simp only [Act.put, List.getElem_toArray, List.getElem_cons_succ, List.getElem_cons_zero, List.setIfInBounds_toArray, List.set_cons_zero, List.set_cons_succ]
                  refine wpAnyH_take (i := 7) (v := undef) rfl (by kernel_rfl) (by kernel_rfl) (by kernel_rfl) (fun _ _ _ h => h) (Or.inr ⟨by kernel_rfl, rfl⟩) (by first | exact G | exact G.drew) ?_
                  simp only [Act.put, List.getElem_toArray, List.getElem_cons_succ, List.getElem_cons_zero, List.setIfInBounds_toArray, List.set_cons_zero, List.set_cons_succ]
                  refine wpAnyH_take (i := 8) (v := undef) rfl (by kernel_rfl) (by kernel_rfl) (by kernel_rfl) (fun _ _ _ h => h) (Or.inr ⟨by kernel_rfl, rfl⟩) (by first | exact G | exact G.drew) ?_
                  simp only [Act.put, List.getElem_toArray, List.getElem_cons_succ, List.getElem_cons_zero, List.setIfInBounds_toArray, List.set_cons_zero, List.set_cons_succ]
                  refine wpAnyH_take (i := 9) (v := .bool true) rfl (by kernel_rfl) (by kernel_rfl) (by kernel_rfl) (fun _ _ _ h => h) (yields_pickt (.tmp 184) (.const (.bool true)) (.tmp 188) _ rfl (by kernel_rfl) (by kernel_rfl) (by kernel_rfl)) (by first | exact G | exact G.drew) ?_
                  simp only [Act.put, List.getElem_toArray, List.getElem_cons_succ, List.getElem_cons_zero, List.setIfInBounds_toArray, List.set_cons_zero, List.set_cons_succ]
                  refine wpAnyH_take (i := 10) (v := .bool true) rfl (by kernel_rfl) (by kernel_rfl) (by kernel_rfl) (fun _ _ _ h => h) (Or.inl ⟨by kernel_rfl, by intro w hS; go_simp⟩) (by first | exact G | exact G.drew) ?_
                  simp only [Act.put, List.getElem_toArray, List.getElem_cons_succ, List.getElem_cons_zero, List.setIfInBounds_toArray, List.set_cons_zero, List.set_cons_succ]
                  refine wpAnyH_take (i := 11) (v := undef) rfl (by kernel_rfl) (by kernel_rfl) (by kernel_rfl) (fun _ _ _ h => h) (Or.inr ⟨by kernel_rfl, rfl⟩) (by first | exact G | exact G.drew) ?_
                  simp only [Act.put, List.getElem_toArray, List.getElem_cons_succ, List.getElem_cons_zero, List.setIfInBounds_toArray, List.set_cons_zero, List.set_cons_succ]
                  refine wpAnyH_take (i := 12) (v := undef) rfl (by kernel_rfl) (by kernel_rfl) (by kernel_rfl) (fun _ _ _ h => h) (Or.inr ⟨by kernel_rfl, rfl⟩) (by first | exact G | exact G.drew) ?_
                  simp only [Act.put, List.getElem_toArray, List.getElem_cons_succ, List.getElem_cons_zero, List.setIfInBounds_toArray, List.set_cons_zero, List.set_cons_succ]
                  refine wpAnyH_take (i := 13) (v := undef) rfl (by kernel_rfl) (by kernel_rfl) (by kernel_rfl) (fun _ _ _ h => h) (Or.inr ⟨by kernel_rfl, rfl⟩) (by first | exact G | exact G.drew) ?_
                  simp only [Act.put, List.getElem_toArray, List.getElem_cons_succ, List.getElem_cons_zero, List.setIfInBounds_toArray, List.set_cons_zero, List.set_cons_succ]
                  refine wpAnyH_take (i := 14) (v := undef) rfl (by kernel_rfl) (by kernel_rfl) (by kernel_rfl) (fun _ _ _ h => h) (Or.inr ⟨by kernel_rfl, rfl⟩) (by first | exact G | exact G.drew) ?_
                  simp only [Act.put, List.getElem_toArray, List.getElem_cons_succ, List.getElem_cons_zero, List.setIfInBounds_toArray, List.set_cons_zero, List.set_cons_succ]
                  refine wpAnyH_take (i := 15) (v := undef) rfl (by kernel_rfl) (by kernel_rfl) (by kernel_rfl) (fun _ _ _ h => h) (Or.inr ⟨by kernel_rfl, rfl⟩) (by first | exact G | exact G.drew) ?_
                  simp only [Act.put, List.getElem_toArray, List.getElem_cons_succ, List.getElem_cons_zero, List.setIfInBounds_toArray, List.set_cons_zero, List.set_cons_succ]
                  refine wpAnyH_take (i := 16) (v := undef) rfl (by kernel_rfl) (by kernel_rfl) (by kernel_rfl) (fun _ _ _ h => h) (Or.inr ⟨by kernel_rfl, rfl⟩) (by first | exact G | exact G.drew) ?_
                  simp only [Act.put, List.getElem_toArray, List.getElem_cons_succ, List.getElem_cons_zero, List.setIfInBounds_toArray, List.set_cons_zero, List.set_cons_succ]
                  refine wpAnyH_take (i := 17) (v := undef) rfl (by kernel_rfl) (by kernel_rfl) (by kernel_rfl) (fun _ _ _ h => h) (Or.inr ⟨by kernel_rfl, rfl⟩) (by first | exact G | exact G.drew) ?_
                  simp only [Act.put, List.getElem_toArray, List.getElem_cons_succ, List.getElem_cons_zero, List.setIfInBounds_toArray, List.set_cons_zero, List.set_cons_succ]
                  refine wpAnyH_take (i := 18) (v := undef) rfl (by kernel_rfl) (by kernel_rfl) (by kernel_rfl) (fun _ _ _ h => h) (Or.inr ⟨by kernel_rfl, rfl⟩) (by first | exact G | exact G.drew) ?_
                  simp only [Act.put, List.getElem_toArray, List.getElem_cons_succ, List.getElem_cons_zero, List.setIfInBounds_toArray, List.set_cons_zero, List.set_cons_succ]
                  refine wpAnyH_take (i := 19) (v := undef) rfl (by kernel_rfl) (by kernel_rfl) (by kernel_rfl) (fun _ _ _ h => h) (Or.inr ⟨by kernel_rfl, rfl⟩) (by first | exact G | exact G.drew) ?_
                  simp only [Act.put, List.getElem_toArray, List.getElem_cons_succ, List.getElem_cons_zero, List.setIfInBounds_toArray, List.set_cons_zero, List.set_cons_succ]
                  refine wpAnyH_take (i := 20) (v := undef) rfl (by kernel_rfl) (by kernel_rfl) (by kernel_rfl) (fun _ _ _ h => h) (Or.inr ⟨by kernel_rfl, rfl⟩) (by first | exact G | exact G.drew) ?_
                  simp only [Act.put, List.getElem_toArray, List.getElem_cons_succ, List.getElem_cons_zero, List.setIfInBounds_toArray, List.set_cons_zero, List.set_cons_succ]
                  refine wpAnyH_take (i := 21) (v := .bool true) rfl (by kernel_rfl) (by kernel_rfl) (by kernel_rfl) (fun _ _ _ h => h) (yields_pickt (.tmp 190) (.const (.bool true)) (.tmp 200) _ rfl (by kernel_rfl) (by kernel_rfl) (by kernel_rfl)) (by first | exact G | exact G.drew) ?_
                  simp only [Act.put, List.getElem_toArray, List.getElem_cons_succ, List.getElem_cons_zero, List.setIfInBounds_toArray, List.set_cons_zero, List.set_cons_succ]
                  refine wpAnyH_done (by kernel_rfl) ?_ _
                  refine NoPanic.normal ?_
                  go_wp2
                  go_ret
                  first | exact ⟨false, HNG.out, rfl, G.bd.base⟩ | exact ⟨false, HNG.out, rfl, G.drew.bd.base⟩
                · have C1 : Hid (decide (2 < hadF f 18 (s : Int)) = false) := hidB (by simpa using c1)
                  by_cases c2 : 12 < nOf ms (s : Int)
                  · have C2 : Hid (decide (12 < nOf ms (s : Int)) = true) := hidB (by simpa using c2)
                    have HNG : Hid (false = true ↔ GoodT f h ms) := hidB (HNN.out (fun hd => by have := hd.2.1; omega))
                    clear c1 c2
                    go_upto_region 36 with (fail)
                    refine wp_region_noPanic ?_
                    refine wp_region_held_drew (S := fun W => Gm w W [(b1, 30, tc f g h (.slice a0 n cap))] [] (entI 3 k1v wf6 b14 nh (hadF f (18)) :: [entI 3 k1v wf6 b6 n6 (nOf ms), entI 79 k2 ok2 b5 n5 (nPl ms), entB 78 k3 ok3 b4 n4 (sIn ms), entB 76 k3 ok3 b3 n3 (sOut ms)])) (by kernel_rfl) (by first | exact G | exact G.drew) (fun _ => ?_)
                    refine wpAnyH_take (i := 0) (v := .map (some b14)) rfl (by kernel_rfl) (by kernel_rfl) (by kernel_rfl) (fun _ _ _ h => h) (Or.inl ⟨by kernel_rfl, by intro w hS; go_simp⟩) (by first | exact G | exact G.drew) ?_
                    simp only [Act.put, List.getElem_toArray, List.getElem_cons_succ, List.getElem_cons_zero, List.setIfInBounds_toArray, List.set_cons_zero, List.set_cons_succ]
                    refine wpAnyH_take (i := 1) (v := .int .i64 (s : Int)) rfl (by kernel_rfl) (by kernel_rfl) (by kernel_rfl) (fun _ _ _ h => h) (Or.inl ⟨by kernel_rfl, by intro w hS; go_simp⟩) (by first | exact G | exact G.drew) ?_
                    simp only [Act.put, List.getElem_toArray, List.getElem_cons_succ, List.getElem_cons_zero, List.setIfInBounds_toArray, List.set_cons_zero, List.set_cons_succ]
                    refine wpAnyH_take (i := 2) (v := .int .i64 (hadF f 18 (s : Int))) rfl (by kernel_rfl) (by kernel_rfl) (by kernel_rfl) (fun _ _ _ h => h) (yields_lk 73 (.tmp 180) (.tmp 181) rfl (by kernel_rfl) (.map (some b14)) (k1v (s : Int)) _ (by kernel_rfl) (by kernel_rfl) (fun w h => (MeI.look (h.ent 0 rfl) kyInt Try.underlying73 (s : Int) HSW.out).1)) (by first | exact G | exact G.drew) ?_
                    simp only [Act.put, List.getElem_toArray, List.getElem_cons_succ, List.getElem_cons_zero, List.setIfInBounds_toArray, List.set_cons_zero, List.set_cons_succ]
                    refine wpAnyH_take (i := 3) (v := .bool false) rfl (by kernel_rfl) (by kernel_rfl) (by kernel_rfl) (fun _ _ _ h => h) (yields_gtr (.tmp 182) 2 rfl (by kernel_rfl) _ _ (by kernel_rfl) C1.out) (by first | exact G | exact G.drew) ?_
                    simp only [Act.put, List.getElem_toArray, List.getElem_cons_succ, List.getElem_cons_zero, List.setIfInBounds_toArray, List.set_cons_zero, List.set_cons_succ]
                    refine wpAnyH_take (i := 4) (v := .bool false) rfl (by kernel_rfl) (by kernel_rfl) (by kernel_rfl) (fun _ _ _ h => h) (Or.inl ⟨by kernel_rfl, by intro w hS; go_simp⟩) (by first | exact G | exact G.drew) ?_
                    simp only [Act.put, List.getElem_toArray, List.getElem_cons_succ, List.getElem_cons_zero, List.setIfInBounds_toArray, List.set_cons_zero, List.set_cons_succ]
                    refine wpAnyH_take (i := 5) (v := .map (some b6)) rfl (by kernel_rfl) (by kernel_rfl) (by kernel_rfl) (fun _ _ _ h => h) (Or.inl ⟨by kernel_rfl, by intro w hS; go_simp⟩) (by first | exact G | exact G.drew) ?_
                    simp only [Act.put, List.getElem_toArray, List.getElem_cons_succ, List.getElem_cons_zero, List.setIfInBounds_toArray, List.set_cons_zero, List.set_cons_succ]
                    refine wpAnyH_take (i := 6) (v := .int .i64 (s : Int)) rfl (by kernel_rfl) (by kernel_rfl) (by kernel_rfl) (fun _ _ _ h => h) (Or.inl ⟨by kernel_rfl, by intro w hS; go_simp⟩) (by first | exact G | exact G.drew) ?_
                    simp only [Act.put, List.getElem_toArray, List.getElem_cons_succ, List.getElem_cons_zero, List.setIfInBounds_toArray, List.set_cons_zero, List.set_cons_succ]
                    refine wpAnyH_take (i := 7) (v := .int .i64 (nOf ms (s : Int))) rfl (by kernel_rfl) (by kernel_rfl) (by kernel_rfl) (fun _ _ _ h => h) (yields_lk 73 (.tmp 185) (.tmp 186) rfl (by kernel_rfl) (.map (some b6)) (k1v (s : Int)) _ (by kernel_rfl) (by kernel_rfl) (fun w h => (MeI.look (h.ent 1 rfl) kyInt Try.underlying73 (s : Int) HSW.out).1)) (by first | exact G | exact G.drew) ?_
                    simp only [Act.put, List.getElem_toArray, List.getElem_cons_succ, List.getElem_cons_zero, List.setIfInBounds_toArray, List.set_cons_zero, List.set_cons_succ]
                    refine wpAnyH_take (i := 8) (v := .bool true) rfl (by kernel_rfl) (by kernel_rfl) (by kernel_rfl) (fun _ _ _ h => h) (yields_gtr (.tmp 187) 12 rfl (by kernel_rfl) _ _ (by kernel_rfl) C2.out) (by first | exact G | exact G.drew) ?_
                    simp only [Act.put, List.getElem_toArray, List.getElem_cons_succ, List.getElem_cons_zero, List.setIfInBounds_toArray, List.set_cons_zero, List.set_cons_succ]
                    refine wpAnyH_take (i := 9) (v := .bool true) rfl (by kernel_rfl) (by kernel_rfl) (by kernel_rfl) (fun _ _ _ h => h) (yields_pickf (.tmp 184) (.const (.bool true)) (.tmp 188) _ rfl (by kernel_rfl) (by kernel_rfl) (by kernel_rfl)) (by first | exact G | exact G.drew) ?_
                    simp only [Act.put, List.getElem_toArray, List.getElem_cons_succ, List.getElem_cons_zero, List.setIfInBounds_toArray, List.set_cons_zero, List.set_cons_succ]
                    refine wpAnyH_take (i := 10) (v := .bool true) rfl (by kernel_rfl) (by kernel_rfl) (by kernel_rfl) (fun _ _ _ h => h) (Or.inl ⟨by kernel_rfl, by intro w hS; go_simp⟩) (by first | exact G | exact G.drew) ?_
                    simp only [Act.put, List.getElem_toArray, List.getElem_cons_succ, List.getElem_cons_zero, List.setIfInBounds_toArray, List.set_cons_zero, List.set_cons_succ]
                    refine wpAnyH_take (i := 11) (v := undef) rfl (by kernel_rfl) (by kernel_rfl) (by kernel_rfl) (fun _ _ _ h => h) (Or.inr ⟨by kernel_rfl, rfl⟩) (by first | exact G | exact G.drew) ?_
                    simp only [Act.put, List.getElem_toArray, List.getElem_cons_succ, List.getElem_cons_zero, List.setIfInBounds_toArray, List.set_cons_zero, List.set_cons_succ]
                    refine wpAnyH_take (i := 12) (v := undef) rfl (by kernel_rfl) (by kernel_rfl) (by kernel_rfl) (fun _ _ _ h => h) (Or.inr ⟨by kernel_rfl, rfl⟩) (by first | exact G | exact G.drew) ?_
                    simp only [Act.put, List.getElem_toArray, List.getElem_cons_succ, List.getElem_cons_zero, List.setIfInBounds_toArray, List.set_cons_zero, List.set_cons_succ]
                    refine wpAnyH_take (i := 13) (v := undef) rfl (by kernel_rfl) (by kernel_rfl) (by kernel_rfl) (fun _ _ _ h => h) (Or.inr ⟨by kernel_rfl, rfl⟩) (by first | exact G | exact G.drew) ?_
                    simp only [Act.put, List.getElem_toArray, List.getElem_cons_succ, List.getElem_cons_zero, List.setIfInBounds_toArray, List.set_cons_zero, List.set_cons_succ]
                    refine wpAnyH_take (i := 14) (v := undef) rfl (by kernel_rfl) (by kernel_rfl) (by kernel_rfl) (fun _ _ _ h => h) (Or.inr ⟨by kernel_rfl, rfl⟩) (by first | exact G | exact G.drew) ?_
                    simp only [Act.put, List.getElem_toArray, List.getElem_cons_succ, List.getElem_cons_zero, List.setIfInBounds_toArray, List.set_cons_zero, List.set_cons_succ]
                    refine wpAnyH_take (i := 15) (v := undef) rfl (by kernel_rfl) (by kernel_rfl) (by kernel_rfl) (fun _ _ _ h => h) (Or.inr ⟨by kernel_rfl, rfl⟩) (by first | exact G | exact G.drew) ?_
                    simp only [Act.put, List.getElem_toArray, List.getElem_cons_succ, List.getElem_cons_zero, List.setIfInBounds_toArray, List.set_cons_zero, List.set_cons_succ]
                    refine wpAnyH_take (i := 16) (v := undef) rfl (by kernel_rfl) (by kernel_rfl) (by kernel_rfl) (fun _ _ _ h => h) (Or.inr ⟨by kernel_rfl, rfl⟩) (by first | exact G | exact G.drew) ?_
                    simp only [Act.put, List.getElem_toArray, List.getElem_cons_succ, List.getElem_cons_zero, List.setIfInBounds_toArray, List.set_cons_zero, List.set_cons_succ]
                    refine wpAnyH_take (i := 17) (v := undef) rfl (by kernel_rfl) (by kernel_rfl) (by kernel_rfl) (fun _ _ _ h => h) (Or.inr ⟨by kernel_rfl, rfl⟩) (by first | exact G | exact G.drew) ?_
                    simp only [Act.put, List.getElem_toArray, List.getElem_cons_succ, List.getElem_cons_zero, List.setIfInBounds_toArray, List.set_cons_zero, List.set_cons_succ]
                    refine wpAnyH_take (i := 18) (v := undef) rfl (by kernel_rfl) (by kernel_rfl) (by kernel_rfl) (fun _ _ _ h => h) (Or.inr ⟨by kernel_rfl, rfl⟩) (by first | exact G | exact G.drew) ?_
                    simp only [Act.put, List.getElem_toArray, List.getElem_cons_succ, List.getElem_cons_zero, List.setIfInBounds_toArray, List.set_cons_zero, List.set_cons_succ]
                    refine wpAnyH_take (i := 19) (v := undef) rfl (by kernel_rfl) (by kernel_rfl) (by kernel_rfl) (fun _ _ _ h => h) (Or.inr ⟨by kernel_rfl, rfl⟩) (by first | exact G | exact G.drew) ?_
                    simp only [Act.put, List.getElem_toArray, List.getElem_cons_succ, List.getElem_cons_zero, List.setIfInBounds_toArray, List.set_cons_zero, List.set_cons_succ]
                    refine wpAnyH_take (i := 20) (v := undef) rfl (by kernel_rfl) (by kernel_rfl) (by kernel_rfl) (fun _ _ _ h => h) (Or.inr ⟨by kernel_rfl, rfl⟩) (by first | exact G | exact G.drew) ?_
                    simp only [Act.put, List.getElem_toArray, List.getElem_cons_succ, List.getElem_cons_zero, List.setIfInBounds_toArray, List.set_cons_zero, List.set_cons_succ]
                    refine wpAnyH_take (i := 21) (v := .bool true) rfl (by kernel_rfl) (by kernel_rfl) (by kernel_rfl) (fun _ _ _ h => h) (yields_pickt (.tmp 190) (.const (.bool true)) (.tmp 200) _ rfl (by kernel_rfl) (by kernel_rfl) (by kernel_rfl)) (by first | exact G | exact G.drew) ?_
                    simp only [Act.put, List.getElem_toArray, List.getElem_cons_succ, List.getElem_cons_zero, List.setIfInBounds_toArray, List.set_cons_zero, List.set_cons_succ]
                    refine wpAnyH_done (by kernel_rfl) ?_ _
                    refine NoPanic.normal ?_
                    go_wp2
                    go_ret
                    first | exact ⟨false, HNG.out, rfl, G.bd.base⟩ | exact ⟨false, HNG.out, rfl, G.drew.bd.base⟩
                  · have C2 : Hid (decide (12 < nOf ms (s : Int)) = false) := hidB (by simpa using c2)
                    by_cases c3 : e1 = e2
                    · have C3 : Hid ((e1 != e2) = false) := hidB (by simpa using c3)
                      have HS2 : Hid (∀ t, t < s + 1 → docH f h ms t) := hidB (fun t ht => by
                        by_cases et : t = s
                        · subst et
                          exact ⟨by omega, by omega, by rw [← H12.out.1, ← H12.out.2, c3]⟩
                        · exact HS.out t (by omega))
                      clear c1 c2 c3
                      go_upto_region 36 with (fail)
                      refine wp_region_noPanic ?_
                      refine wp_region_held_drew (S := fun W => Gm w W [(b1, 30, tc f g h (.slice a0 n cap))] [] (entI 3 k1v wf6 b14 nh (hadF f (18)) :: [entI 3 k1v wf6 b6 n6 (nOf ms), entI 79 k2 ok2 b5 n5 (nPl ms), entB 78 k3 ok3 b4 n4 (sIn ms), entB 76 k3 ok3 b3 n3 (sOut ms)])) (by kernel_rfl) (by first | exact G | exact G.drew) (fun _ => ?_)
                      refine wpAnyH_take (i := 0) (v := .map (some b14)) rfl (by kernel_rfl) (by kernel_rfl) (by kernel_rfl) (fun _ _ _ h => h) (Or.inl ⟨by kernel_rfl, by intro w hS; go_simp⟩) (by first | exact G | exact G.drew) ?_
                      simp only [Act.put, List.getElem_toArray, List.getElem_cons_succ, List.getElem_cons_zero, List.setIfInBounds_toArray, List.set_cons_zero, List.set_cons_succ]
                      refine wpAnyH_take (i := 1) (v := .int .i64 (s : Int)) rfl (by kernel_rfl) (by kernel_rfl) (by kernel_rfl) (fun _ _ _ h => h) (Or.inl ⟨by kernel_rfl, by intro w hS; go_simp⟩) (by first | exact G | exact G.drew) ?_
                      simp only [Act.put, List.getElem_toArray, List.getElem_cons_succ, List.getElem_cons_zero, List.setIfInBounds_toArray, List.set_cons_zero, List.set_cons_succ]
                      refine wpAnyH_take (i := 2) (v := .int .i64 (hadF f 18 (s : Int))) rfl (by kernel_rfl) (by kernel_rfl) (by kernel_rfl) (fun _ _ _ h => h) (yields_lk 73 (.tmp 180) (.tmp 181) rfl (by kernel_rfl) (.map (some b14)) (k1v (s : Int)) _ (by kernel_rfl) (by kernel_rfl) (fun w h => (MeI.look (h.ent 0 rfl) kyInt Try.underlying73 (s : Int) HSW.out).1)) (by first | exact G | exact G.drew) ?_
                      simp only [Act.put, List.getElem_toArray, List.getElem_cons_succ, List.getElem_cons_zero, List.setIfInBounds_toArray, List.set_cons_zero, List.set_cons_succ]
                      refine wpAnyH_take (i := 3) (v := .bool false) rfl (by kernel_rfl) (by kernel_rfl) (by kernel_rfl) (fun _ _ _ h => h) (yields_gtr (.tmp 182) 2 rfl (by kernel_rfl) _ _ (by kernel_rfl) C1.out) (by first | exact G | exact G.drew) ?_
                      simp only [Act.put, List.getElem_toArray, List.getElem_cons_succ, List.getElem_cons_zero, List.setIfInBounds_toArray, List.set_cons_zero, List.set_cons_succ]
                      refine wpAnyH_take (i := 4) (v := .bool false) rfl (by kernel_rfl) (by kernel_rfl) (by kernel_rfl) (fun _ _ _ h => h) (Or.inl ⟨by kernel_rfl, by intro w hS; go_simp⟩) (by first | exact G | exact G.drew) ?_
                      simp only [Act.put, List.getElem_toArray, List.getElem_cons_succ, List.getElem_cons_zero, List.setIfInBounds_toArray, List.set_cons_zero, List.set_cons_succ]
                      refine wpAnyH_take (i := 5) (v := .map (some b6)) rfl (by kernel_rfl) (by kernel_rfl) (by kernel_rfl) (fun _ _ _ h => h) (Or.inl ⟨by kernel_rfl, by intro w hS; go_simp⟩) (by first | exact G | exact G.drew) ?_
                      simp only [Act.put, List.getElem_toArray, List.getElem_cons_succ, List.getElem_cons_zero, List.setIfInBounds_toArray, List.set_cons_zero, List.set_cons_succ]
                      refine wpAnyH_take (i := 6) (v := .int .i64 (s : Int)) rfl (by kernel_rfl) (by kernel_rfl) (by kernel_rfl) (fun _ _ _ h => h) (Or.inl ⟨by kernel_rfl, by intro w hS; go_simp⟩) (by first | exact G | exact G.drew) ?_
                      simp only [Act.put, List.getElem_toArray, List.getElem_cons_succ, List.getElem_cons_zero, List.setIfInBounds_toArray, List.set_cons_zero, List.set_cons_succ]
                      refine wpAnyH_take (i := 7) (v := .int .i64 (nOf ms (s : Int))) rfl (by kernel_rfl) (by kernel_rfl) (by kernel_rfl) (fun _ _ _ h => h) (yields_lk 73 (.tmp 185) (.tmp 186) rfl (by kernel_rfl) (.map (some b6)) (k1v (s : Int)) _ (by kernel_rfl) (by kernel_rfl) (fun w h => (MeI.look (h.ent 1 rfl) kyInt Try.underlying73 (s : Int) HSW.out).1)) (by first | exact G | exact G.drew) ?_
                      simp only [Act.put, List.getElem_toArray, List.getElem_cons_succ, List.getElem_cons_zero, List.setIfInBounds_toArray, List.set_cons_zero, List.set_cons_succ]
                      refine wpAnyH_take (i := 8) (v := .bool false) rfl (by kernel_rfl) (by kernel_rfl) (by kernel_rfl) (fun _ _ _ h => h) (yields_gtr (.tmp 187) 12 rfl (by kernel_rfl) _ _ (by kernel_rfl) C2.out) (by first | exact G | exact G.drew) ?_
                      simp only [Act.put, List.getElem_toArray, List.getElem_cons_succ, List.getElem_cons_zero, List.setIfInBounds_toArray, List.set_cons_zero, List.set_cons_succ]
                      refine wpAnyH_take (i := 9) (v := .bool false) rfl (by kernel_rfl) (by kernel_rfl) (by kernel_rfl) (fun _ _ _ h => h) (yields_pickf (.tmp 184) (.const (.bool true)) (.tmp 188) _ rfl (by kernel_rfl) (by kernel_rfl) (by kernel_rfl)) (by first | exact G | exact G.drew) ?_
                      simp only [Act.put, List.getElem_toArray, List.getElem_cons_succ, List.getElem_cons_zero, List.setIfInBounds_toArray, List.set_cons_zero, List.set_cons_succ]
                      refine wpAnyH_take (i := 10) (v := .bool false) rfl (by kernel_rfl) (by kernel_rfl) (by kernel_rfl) (fun _ _ _ h => h) (Or.inl ⟨by kernel_rfl, by intro w hS; go_simp⟩) (by first | exact G | exact G.drew) ?_
                      simp only [Act.put, List.getElem_toArray, List.getElem_cons_succ, List.getElem_cons_zero, List.setIfInBounds_toArray, List.set_cons_zero, List.set_cons_succ]
                      refine wpAnyH_take (i := 11) (v := .int .i64 (s : Int)) rfl (by kernel_rfl) (by kernel_rfl) (by kernel_rfl) (fun _ _ _ h => h) (Or.inl ⟨by kernel_rfl, by intro w hS; go_simp⟩) (by first | exact G | exact G.drew) ?_
                      simp only [Act.put, List.getElem_toArray, List.getElem_cons_succ, List.getElem_cons_zero, List.setIfInBounds_toArray, List.set_cons_zero, List.set_cons_succ]
                      refine wpAnyH_take (i := 12) (v := .pointer (some ⟨b1, 21, none⟩)) rfl (by kernel_rfl) (by kernel_rfl) (by kernel_rfl) (fun _ _ _ h => h) (Or.inl ⟨by kernel_rfl, by intro w hS; go_simp⟩) (by first | exact G | exact G.drew) ?_
                      simp only [Act.put, List.getElem_toArray, List.getElem_cons_succ, List.getElem_cons_zero, List.setIfInBounds_toArray, List.set_cons_zero, List.set_cons_succ]
                      refine wpAnyH_take (i := 13) (v := .pointer (some ⟨b1, 21 + s, none⟩)) rfl (by kernel_rfl) (by kernel_rfl) (by kernel_rfl) (fun _ _ _ h => h) (yields_ixG 27 (.tmp 192) (.tmp 191) rfl (by kernel_rfl) _ _ _ (by kernel_rfl) (by kernel_rfl) (fun w => ix8 b1 21 s HS8.out w)) (by first | exact G | exact G.drew) ?_
                      simp only [Act.put, List.getElem_toArray, List.getElem_cons_succ, List.getElem_cons_zero, List.setIfInBounds_toArray, List.set_cons_zero, List.set_cons_succ]
                      refine wpAnyH_take (i := 14) (v := .int .i64 (h s)) rfl (by kernel_rfl) (by kernel_rfl) (by kernel_rfl) (fun _ _ _ h => h) (Or.inl ⟨by kernel_rfl, by intro w hS; have hc := ((hS.bd.row 0 rfl).cell (21 + s)).trans (tc_home _ _ _ _ s HS8.out); go_simp⟩) (by first | exact G | exact G.drew) ?_
                      simp only [Act.put, List.getElem_toArray, List.getElem_cons_succ, List.getElem_cons_zero, List.setIfInBounds_toArray, List.set_cons_zero, List.set_cons_succ]
                      refine wpAnyH_take (i := 15) (v := .bool e1) rfl (by kernel_rfl) (by kernel_rfl) (by kernel_rfl) (fun _ _ _ h => h) (yields_eqi 3 (.tmp 194) (.const (.int .i64 0)) _ _ _ rfl (by kernel_rfl) (by kernel_rfl) (by kernel_rfl) E1.out) (by first | exact G | exact G.drew) ?_
                      simp only [Act.put, List.getElem_toArray, List.getElem_cons_succ, List.getElem_cons_zero, List.setIfInBounds_toArray, List.set_cons_zero, List.set_cons_succ]
                      refine wpAnyH_take (i := 16) (v := .map (some b14)) rfl (by kernel_rfl) (by kernel_rfl) (by kernel_rfl) (fun _ _ _ h => h) (Or.inl ⟨by kernel_rfl, by intro w hS; go_simp⟩) (by first | exact G | exact G.drew) ?_
                      simp only [Act.put, List.getElem_toArray, List.getElem_cons_succ, List.getElem_cons_zero, List.setIfInBounds_toArray, List.set_cons_zero, List.set_cons_succ]
                      refine wpAnyH_take (i := 17) (v := .int .i64 (s : Int)) rfl (by kernel_rfl) (by kernel_rfl) (by kernel_rfl) (fun _ _ _ h => h) (Or.inl ⟨by kernel_rfl, by intro w hS; go_simp⟩) (by first | exact G | exact G.drew) ?_
                      simp only [Act.put, List.getElem_toArray, List.getElem_cons_succ, List.getElem_cons_zero, List.setIfInBounds_toArray, List.set_cons_zero, List.set_cons_succ]
                      refine wpAnyH_take (i := 18) (v := .int .i64 (hadF f 18 (s : Int))) rfl (by kernel_rfl) (by kernel_rfl) (by kernel_rfl) (fun _ _ _ h => h) (yields_lk 73 (.tmp 196) (.tmp 197) rfl (by kernel_rfl) (.map (some b14)) (k1v (s : Int)) _ (by kernel_rfl) (by kernel_rfl) (fun w h => (MeI.look (h.ent 0 rfl) kyInt Try.underlying73 (s : Int) HSW.out).1)) (by first | exact G | exact G.drew) ?_
                      simp only [Act.put, List.getElem_toArray, List.getElem_cons_succ, List.getElem_cons_zero, List.setIfInBounds_toArray, List.set_cons_zero, List.set_cons_succ]
                      refine wpAnyH_take (i := 19) (v := .bool e2) rfl (by kernel_rfl) (by kernel_rfl) (by kernel_rfl) (fun _ _ _ h => h) (yields_eqi 3 (.tmp 198) (.const (.int .i64 0)) _ _ _ rfl (by kernel_rfl) (by kernel_rfl) (by kernel_rfl) E2.out) (by first | exact G | exact G.drew) ?_
                      simp only [Act.put, List.getElem_toArray, List.getElem_cons_succ, List.getElem_cons_zero, List.setIfInBounds_toArray, List.set_cons_zero, List.set_cons_succ]
                      refine wpAnyH_take (i := 20) (v := .bool false) rfl (by kernel_rfl) (by kernel_rfl) (by kernel_rfl) (fun _ _ _ h => h) (yields_neb (.tmp 195) (.tmp 199) _ _ _ rfl (by kernel_rfl) (by kernel_rfl) (by kernel_rfl) C3.out) (by first | exact G | exact G.drew) ?_
                      simp only [Act.put, List.getElem_toArray, List.getElem_cons_succ, List.getElem_cons_zero, List.setIfInBounds_toArray, List.set_cons_zero, List.set_cons_succ]
                      refine wpAnyH_take (i := 21) (v := .bool false) rfl (by kernel_rfl) (by kernel_rfl) (by kernel_rfl) (fun _ _ _ h => h) (yields_pickf (.tmp 190) (.const (.bool true)) (.tmp 200) _ rfl (by kernel_rfl) (by kernel_rfl) (by kernel_rfl)) (by first | exact G | exact G.drew) ?_
                      simp only [Act.put, List.getElem_toArray, List.getElem_cons_succ, List.getElem_cons_zero, List.setIfInBounds_toArray, List.set_cons_zero, List.set_cons_succ]
                      refine wpAnyH_done (by kernel_rfl) ?_ _
                      refine NoPanic.normal ?_
                      replace G := G.drew
                      go_wp2
                      go_roundw
                      case rel => first | exact ⟨s + 1, HS8.out, castB s, HS2, G⟩ | exact ⟨s + 1, HS8.out, castBW hsw, HS2, G⟩
                      case measure => (first | rw [hsw] | skip); exact HME.out
                    · have C3 : Hid ((e1 != e2) = true) := hidB (by simpa using c3)
                      have HNG : Hid (false = true ↔ GoodT f h ms) := hidB (HNN.out (fun hd => c3 (by
                        have h1 := H12.out.1; have h2 := H12.out.2; have h3 := hd.2.2
                        cases e1 <;> cases e2 <;> simp_all)))
                      clear c1 c2 c3
                      go_upto_region 36 with (fail)
                      refine wp_region_noPanic ?_
                      refine wp_region_held_drew (S := fun W => Gm w W [(b1, 30, tc f g h (.slice a0 n cap))] [] (entI 3 k1v wf6 b14 nh (hadF f (18)) :: [entI 3 k1v wf6 b6 n6 (nOf ms), entI 79 k2 ok2 b5 n5 (nPl ms), entB 78 k3 ok3 b4 n4 (sIn ms), entB 76 k3 ok3 b3 n3 (sOut ms)])) (by kernel_rfl) (by first | exact G | exact G.drew) (fun _ => ?_)
                      refine wpAnyH_take (i := 0) (v := .map (some b14)) rfl (by kernel_rfl) (by kernel_rfl) (by kernel_rfl) (fun _ _ _ h => h) (Or.inl ⟨by kernel_rfl, by intro w hS; go_simp⟩) (by first | exact G | exact G.drew) ?_
                      simp only [Act.put, List.getElem_toArray, List.getElem_cons_succ, List.getElem_cons_zero, List.setIfInBounds_toArray, List.set_cons_zero, List.set_cons_succ]
                      refine wpAnyH_take (i := 1) (v := .int .i64 (s : Int)) rfl (by kernel_rfl) (by kernel_rfl) (by kernel_rfl) (fun _ _ _ h => h) (Or.inl ⟨by kernel_rfl, by intro w hS; go_simp⟩) (by first | exact G | exact G.drew) ?_
                      simp only [Act.put, List.getElem_toArray, List.getElem_cons_succ, List.getElem_cons_zero, List.setIfInBounds_toArray, List.set_cons_zero, List.set_cons_succ]
                      refine wpAnyH_take (i := 2) (v := .int .i64 (hadF f 18 (s : Int))) rfl (by kernel_rfl) (by kernel_rfl) (by kernel_rfl) (fun _ _ _ h => h) (yields_lk 73 (.tmp 180) (.tmp 181) rfl (by kernel_rfl) (.map (some b14)) (k1v (s : Int)) _ (by kernel_rfl) (by kernel_rfl) (fun w h => (MeI.look (h.ent 0 rfl) kyInt Try.underlying73 (s : Int) HSW.out).1)) (by first | exact G | exact G.drew) ?_
                      simp only [Act.put, List.getElem_toArray, List.getElem_cons_succ, List.getElem_cons_zero, List.setIfInBounds_toArray, List.set_cons_zero, List.set_cons_succ]
                      refine wpAnyH_take (i := 3) (v := .bool false) rfl (by kernel_rfl) (by kernel_rfl) (by kernel_rfl) (fun _ _ _ h => h) (yields_gtr (.tmp 182) 2 rfl (by kernel_rfl) _ _ (by kernel_rfl) C1.out) (by first | exact G | exact G.drew) ?_
                      simp only [Act.put, List.getElem_toArray, List.getElem_cons_succ, List.getElem_cons_zero, List.setIfInBounds_toArray, List.set_cons_zero, List.set_cons_succ]
                      refine wpAnyH_take (i := 4) (v := .bool false) rfl (by kernel_rfl) (by kernel_rfl) (by kernel_rfl) (fun _ _ _ h => h) (Or.inl ⟨by kernel_rfl, by intro w hS; go_simp⟩) (by first | exact G | exact G.drew) ?_
                      simp only [Act.put, List.getElem_toArray, List.getElem_cons_succ, List.getElem_cons_zero, List.setIfInBounds_toArray, List.set_cons_zero, List.set_cons_succ]
                      refine wpAnyH_take (i := 5) (v := .map (some b6)) rfl (by kernel_rfl) (by kernel_rfl) (by kernel_rfl) (fun _ _ _ h => h) (Or.inl ⟨by kernel_rfl, by intro w hS; go_simp⟩) (by first | exact G | exact G.drew) ?_
                      simp only [Act.put, List.getElem_toArray, List.getElem_cons_succ, List.getElem_cons_zero, List.setIfInBounds_toArray, List.set_cons_zero, List.set_cons_succ]
                      refine wpAnyH_take (i := 6) (v := .int .i64 (s : Int)) rfl (by kernel_rfl) (by kernel_rfl) (by kernel_rfl) (fun _ _ _ h => h) (Or.inl ⟨by kernel_rfl, by intro w hS; go_simp⟩) (by first | exact G | exact G.drew) ?_
                      simp only [Act.put, List.getElem_toArray, List.getElem_cons_succ, List.getElem_cons_zero, List.setIfInBounds_toArray, List.set_cons_zero, List.set_cons_succ]
                      refine wpAnyH_take (i := 7) (v := .int .i64 (nOf ms (s : Int))) rfl (by kernel_rfl) (by kernel_rfl) (by kernel_rfl) (fun _ _ _ h => h) (yields_lk 73 (.tmp 185) (.tmp 186) rfl (by kernel_rfl) (.map (some b6)) (k1v (s : Int)) _ (by kernel_rfl) (by kernel_rfl) (fun w h => (MeI.look (h.ent 1 rfl) kyInt Try.underlying73 (s : Int) HSW.out).1)) (by first | exact G | exact G.drew) ?_
                      simp only [Act.put, List.getElem_toArray, List.getElem_cons_succ, List.getElem_cons_zero, List.setIfInBounds_toArray, List.set_cons_zero, List.set_cons_succ]
                      refine wpAnyH_take (i := 8) (v := .bool false) rfl (by kernel_rfl) (by kernel_rfl) (by kernel_rfl) (fun _ _ _ h => h) (yields_gtr (.tmp 187) 12 rfl (by kernel_rfl) _ _ (by kernel_rfl) C2.out) (by first | exact G | exact G.drew) ?_
                      simp only [Act.put, List.getElem_toArray, List.getElem_cons_succ, List.getElem_cons_zero, List.setIfInBounds_toArray, List.set_cons_zero, List.set_cons_succ]
                      refine wpAnyH_take (i := 9) (v := .bool false) rfl (by kernel_rfl) (by kernel_rfl) (by kernel_rfl) (fun _ _ _ h => h) (yields_pickf (.tmp 184) (.const (.bool true)) (.tmp 188) _ rfl (by kernel_rfl) (by kernel_rfl) (by kernel_rfl)) (by first | exact G | exact G.drew) ?_
                      simp only [Act.put, List.getElem_toArray, List.getElem_cons_succ, List.getElem_cons_zero, List.setIfInBounds_toArray, List.set_cons_zero, List.set_cons_succ]
                      refine wpAnyH_take (i := 10) (v := .bool false) rfl (by kernel_rfl) (by kernel_rfl) (by kernel_rfl) (fun _ _ _ h => h) (Or.inl ⟨by kernel_rfl, by intro w hS; go_simp⟩) (by first | exact G | exact G.drew) ?_
                      simp only [Act.put, List.getElem_toArray, List.getElem_cons_succ, List.getElem_cons_zero, List.setIfInBounds_toArray, List.set_cons_zero, List.set_cons_succ]
                      refine wpAnyH_take (i := 11) (v := .int .i64 (s : Int)) rfl (by kernel_rfl) (by kernel_rfl) (by kernel_rfl) (fun _ _ _ h => h) (Or.inl ⟨by kernel_rfl, by intro w hS; go_simp⟩) (by first | exact G | exact G.drew) ?_
                      simp only [Act.put, List.getElem_toArray, List.getElem_cons_succ, List.getElem_cons_zero, List.setIfInBounds_toArray, List.set_cons_zero, List.set_cons_succ]
                      refine wpAnyH_take (i := 12) (v := .pointer (some ⟨b1, 21, none⟩)) rfl (by kernel_rfl) (by kernel_rfl) (by kernel_rfl) (fun _ _ _ h => h) (Or.inl ⟨by kernel_rfl, by intro w hS; go_simp⟩) (by first | exact G | exact G.drew) ?_
                      simp only [Act.put, List.getElem_toArray, List.getElem_cons_succ, List.getElem_cons_zero, List.setIfInBounds_toArray, List.set_cons_zero, List.set_cons_succ]
                      refine wpAnyH_take (i := 13) (v := .pointer (some ⟨b1, 21 + s, none⟩)) rfl (by kernel_rfl) (by kernel_rfl) (by kernel_rfl) (fun _ _ _ h => h) (yields_ixG 27 (.tmp 192) (.tmp 191) rfl (by kernel_rfl) _ _ _ (by kernel_rfl) (by kernel_rfl) (fun w => ix8 b1 21 s HS8.out w)) (by first | exact G | exact G.drew) ?_
                      simp only [Act.put, List.getElem_toArray, List.getElem_cons_succ, List.getElem_cons_zero, List.setIfInBounds_toArray, List.set_cons_zero, List.set_cons_succ]
                      refine wpAnyH_take (i := 14) (v := .int .i64 (h s)) rfl (by kernel_rfl) (by kernel_rfl) (by kernel_rfl) (fun _ _ _ h => h) (Or.inl ⟨by kernel_rfl, by intro w hS; have hc := ((hS.bd.row 0 rfl).cell (21 + s)).trans (tc_home _ _ _ _ s HS8.out); go_simp⟩) (by first | exact G | exact G.drew) ?_
                      simp only [Act.put, List.getElem_toArray, List.getElem_cons_succ, List.getElem_cons_zero, List.setIfInBounds_toArray, List.set_cons_zero, List.set_cons_succ]
                      refine wpAnyH_take (i := 15) (v := .bool e1) rfl (by kernel_rfl) (by kernel_rfl) (by kernel_rfl) (fun _ _ _ h => h) (yields_eqi 3 (.tmp 194) (.const (.int .i64 0)) _ _ _ rfl (by kernel_rfl) (by kernel_rfl) (by kernel_rfl) E1.out) (by first | exact G | exact G.drew) ?_
                      simp only [Act.put, List.getElem_toArray, List.getElem_cons_succ, List.getElem_cons_zero, List.setIfInBounds_toArray, List.set_cons_zero, List.set_cons_succ]
                      refine wpAnyH_take (i := 16) (v := .map (some b14)) rfl (by kernel_rfl) (by kernel_rfl) (by kernel_rfl) (fun _ _ _ h => h) (Or.inl ⟨by kernel_rfl, by intro w hS; go_simp⟩) (by first | exact G | exact G.drew) ?_
                      simp only [Act.put, List.getElem_toArray, List.getElem_cons_succ, List.getElem_cons_zero, List.setIfInBounds_toArray, List.set_cons_zero, List.set_cons_succ]
                      refine wpAnyH_take (i := 17) (v := .int .i64 (s : Int)) rfl (by kernel_rfl) (by kernel_rfl) (by kernel_rfl) (fun _ _ _ h => h) (Or.inl ⟨by kernel_rfl, by intro w hS; go_simp⟩) (by first | exact G | exact G.drew) ?_
                      simp only [Act.put, List.getElem_toArray, List.getElem_cons_succ, List.getElem_cons_zero, List.setIfInBounds_toArray, List.set_cons_zero, List.set_cons_succ]
                      refine wpAnyH_take (i := 18) (v := .int .i64 (hadF f 18 (s : Int))) rfl (by kernel_rfl) (by kernel_rfl) (by kernel_rfl) (fun _ _ _ h => h) (yields_lk 73 (.tmp 196) (.tmp 197) rfl (by kernel_rfl) (.map (some b14)) (k1v (s : Int)) _ (by kernel_rfl) (by kernel_rfl) (fun w h => (MeI.look (h.ent 0 rfl) kyInt Try.underlying73 (s : Int) HSW.out).1)) (by first | exact G | exact G.drew) ?_
                      simp only [Act.put, List.getElem_toArray, List.getElem_cons_succ, List.getElem_cons_zero, List.setIfInBounds_toArray, List.set_cons_zero, List.set_cons_succ]
                      refine wpAnyH_take (i := 19) (v := .bool e2) rfl (by kernel_rfl) (by kernel_rfl) (by kernel_rfl) (fun _ _ _ h => h) (yields_eqi 3 (.tmp 198) (.const (.int .i64 0)) _ _ _ rfl (by kernel_rfl) (by kernel_rfl) (by kernel_rfl) E2.out) (by first | exact G | exact G.drew) ?_
                      simp only [Act.put, List.getElem_toArray, List.getElem_cons_succ, List.getElem_cons_zero, List.setIfInBounds_toArray, List.set_cons_zero, List.set_cons_succ]
                      refine wpAnyH_take (i := 20) (v := .bool true) rfl (by kernel_rfl) (by kernel_rfl) (by kernel_rfl) (fun _ _ _ h => h) (yields_neb (.tmp 195) (.tmp 199) _ _ _ rfl (by kernel_rfl) (by kernel_rfl) (by kernel_rfl) C3.out) (by first | exact G | exact G.drew) ?_
                      simp only [Act.put, List.getElem_toArray, List.getElem_cons_succ, List.getElem_cons_zero, List.setIfInBounds_toArray, List.set_cons_zero, List.set_cons_succ]
                      refine wpAnyH_take (i := 21) (v := .bool true) rfl (by kernel_rfl) (by kernel_rfl) (by kernel_rfl) (fun _ _ _ h => h) (yields_pickf (.tmp 190) (.const (.bool true)) (.tmp 200) _ rfl (by kernel_rfl) (by kernel_rfl) (by kernel_rfl)) (by first | exact G | exact G.drew) ?_
                      simp only [Act.put, List.getElem_toArray, List.getElem_cons_succ, List.getElem_cons_zero, List.setIfInBounds_toArray, List.set_cons_zero, List.set_cons_succ]
                      refine wpAnyH_done (by kernel_rfl) ?_ _
                      refine NoPanic.normal ?_
                      go_wp2
                      go_ret
                      first | exact ⟨false, HNG.out, rfl, G.bd.base⟩ | exact ⟨false, HNG.out, rfl, G.drew.bd.base⟩
              · have hs9 : s = 8 := by omega
                subst hs9
                have HYE : Hid (GoodT f h ms) := hidB (docGood_iff.2 ⟨HGP.out, HMS.out, HD.out, HS.out⟩)
                go_wp2
                go_ret
                first | exact ⟨true, ⟨fun _ => HYE.out, fun _ => rfl⟩, rfl, G.bd.base⟩ | exact Or.inr ⟨HYE.out, rfl, G.bd.base⟩
end Go.Proofs.Ytmdijjbkjcnbpaa

namespace Go.Proofs.Ytmdijjbkjcnbpaa
open Go.ChangeShapes Go.WideShapes Go.ChangeAt Go.RowKit Go.Maps
set_option linter.unusedSimpArgs false
set_option linter.unusedVariables false

attribute [local irreducible] tc pc
theorem grown_nilB {w w' : World} (hg : w.grownBy w' none) : Below w.heap.size w w' := ⟨hg.os, hg.tape, hg.output, hg.size, fun k hk => hg.block k hk (by simp)⟩
set_option maxRecDepth 10000 in
set_option maxHeartbeats 4000000 in
theorem copyTable_ref (f : Nat → Int) (g : Nat → Bool) (h : Nat → Int) (sl : Value) (ms : List Mp) (hno : NilOk sl) (hln : ms.length ≤ 3518437208883) (w : World) (hM : MapsAt w sl ms) :
    Calls Try.prog 8 #[.agg (tc f g h sl)] w fun e w' => ∃ v, e = .returned (.agg (tc f g h v)) ∧ MapsAt w' v ms ∧ NilOk v ∧ (0 < ms.length → w.heap.size ≤ mb v) ∧ Below w.heap.size w w' := by
  have B := Bd.start w
  obtain ⟨i0, hi, hz0, hz1, hz2⟩ := info_parts info_map
  have hM0 := hM
  obtain ⟨a0, cap, hsl, ha0, -⟩ := hM0
  obtain ⟨n, hn⟩ : ∃ n, n = ms.length := ⟨_, rfl⟩
  have HN : Hid (n = ms.length) := hn
  rw [← hn] at hsl
  have hlt := hM.lt
  have HLM : Hid (ms.length ≤ 140737488355328) := hM.len
  have HLN : Hid (n ≤ 3518437208883) := hidB (by rw [hn]; exact hln)
  clear hln
  cases a0 with
  | none =>
    obtain rfl : cap = 0 := hno _ _ hsl
    have n0 : ms.length = 0 := by
      by_cases h : 0 < ms.length
      · have := ha0 h; simp at this
      · omega
    have hms : ms = [] := List.eq_nil_of_length_eq_zero n0
    obtain rfl : n = 0 := hn.trans n0
    subst hsl hms
    clear ha0 hn n0 HLM HLN hno hlt hM HN
    go_enter Try.func8, Try.ntmps8
    go_wp2_with (first | ((with_reducible refine at_opB (.box 30 (.tmp 0)) rfl ?_); refine wpList_boxR 30 rfl (.tmp 0) rfl _ rfl ?_; intro b1 w9 l9 R9 h9; replace B := B.alloc l9 R9 h9; clear R9 h9 l9) | ((with_reducible refine at_opB (.alloc 30) rfl ?_); refine wpList_allocX 2 30 rfl rfl rfl _ table_zero ?_; intro b2 w9 l9 R9 h9; replace B := B.alloc l9 R9 h9; clear R9 h9 l9; have cM : World.cell? _ ⟨b1, 29, none⟩ = some (.slice none 0 0) := ((B.row 1 rfl).cell 29).trans (tc_maps _ _ _ _)) | ((with_reducible refine at_opB (.call { callee := .builtin .append, args := #[.const (.slice none 0 0), .tmp 4], argTypes := #[28, 28] }) rfl ?_); refine wpList_append_own_none rfl (.const (.slice none 0 0)) (.tmp 4) 28 rfl w.heap.size 32 i0 5 Try.underlying28 hi _ _ _ rfl (World.ownsRow_nil _ w.heap.size 32 5) rfl ?_; clear cM; replace B := B.addNew (Below.refl _ _) (MapsAt.nil _) (fun h => absurd h (by simp))) | ((with_reducible refine at_opB (.store 28 (.tmp 6) (.tmp 5)) rfl ?_); refine wpList_storeV (B.row 1 rfl) rfl _ _ rfl 29 rfl _ _ _ rfl _ (tc_maps _ _ _ _) (tc f g h (.slice none 0 0)) (tc_setM _ _ _ _ _) ?_; intro w9 R9 t9; replace B := B.turn 1 rfl R9 t9; clear R9 t9) | ((with_reducible refine at_opB (.load 30 (.tmp 1)) rfl ?_); refine wpList_loadR 30 (.tmp 1) rfl (by kernel_rfl) b1 rfl (tc f g h (.slice none 0 0)) (B.row 1 rfl) _ Try.underlying30 rfl (tc_info _ _ _ _) ?_) | ((with_reducible refine at_opB (.store 30 (.tmp 2) (.tmp 7)) rfl ?_); refine wpList_storeR 30 rfl (.tmp 2) _ rfl b2 rfl (tc f g h (.slice none 0 0)) rfl _ (B.row 0 rfl) (tc_sz _ _ _ _ _ _ _ _) (tc_info _ _ _ _) (tc_one _ _ _ _ _ _) ?_; intro w9 R9 t9; replace B := B.turn 0 rfl R9 t9; clear R9 t9))
    exact bodyPost_ret (results_row1 rfl _ _ b2 _ rfl (B.row 0 rfl) _ Try.underlying30 rfl (tc_info _ _ _ _)) rfl ⟨_, rfl, B.map 0 rfl, fun n c e => (by injection e with _ _ e3; exact e3.symm), B.base⟩
  | some ad =>
    have src : ∀ {W : World}, Below w.heap.size w W → ∀ k u, (flat ms)[k]? = some u → W.cell? (ad.add k) = some u := by
      intro W hb k u hu
      have hk : k < ms.length * 5 := by rw [← flat_lenB]; exact (List.getElem?_eq_some_iff.1 hu).1
      have had : ad = ⟨mb sl, mo sl, none⟩ := Option.some.inj (ha0 (by omega))
      rw [had, Addr.add_lit]
      refine flat_cells (fun j hj => ?_) k u hu
      exact (hM.keep hb hlt).at j hj rfl
    subst hsl
    clear ha0 hn hno
    go_enter Try.func8, Try.ntmps8
    go_wp2_with (first | ((with_reducible refine at_opB (.box 30 (.tmp 0)) rfl ?_); refine wpList_boxR 30 rfl (.tmp 0) rfl _ rfl ?_; intro b1 w9 l9 R9 h9; replace B := B.alloc l9 R9 h9; clear R9 h9 l9) | ((with_reducible refine at_opB (.alloc 30) rfl ?_); refine wpList_allocX 2 30 rfl rfl rfl _ table_zero ?_; intro b2 w9 l9 R9 h9; replace B := B.alloc l9 R9 h9; clear R9 h9 l9; have cM : World.cell? _ ⟨b1, 29, none⟩ = some (.slice (some ad) n cap) := ((B.row 1 rfl).cell 29).trans (tc_maps _ _ _ _)) | ((with_reducible refine at_opB (.call { callee := .builtin .append, args := #[.const (.slice none 0 0), .tmp 4], argTypes := #[28, 28] }) rfl ?_); refine wpList_append_own _ rfl (.const (.slice none 0 0)) (.tmp 4) 28 rfl _ 32 i0 (.agg (mc noM)) 5 40 Try.underlying28 hi hz0 hz1 hz2 rfl (by decide) _ _ _ rfl (World.ownsRow_nil _ _ 32 5) ad n cap (flat ms) rfl (by rw [flat_lenB, HN.out]) (src B.base) (flat_oneCell ms) (by have := HLN.out; unfold maxLen; omega) (by have := HLN.out; omega) (Nat.le_refl _) ?_; intro v2 w2 hown2 hg2 hn2; clear hn2 cM; simp only [Nat.zero_add, List.nil_append] at hown2; rw [HN.out] at hown2; obtain ⟨hM5, hN5, hl5⟩ := own_maps hown2 HLM.out; have hl6 := fun hh => Nat.le_trans B.base.size (hl5 hh); replace B := B.addNew (grown_nilB hg2) hM5 hl5; clear hl5; clear hown2 hg2; (obtain ⟨av, cv, hv5, -⟩ := id hM5); clear hM5; rw [← HN.out] at hv5; subst hv5) | ((with_reducible refine at_opB (.store 28 (.tmp 6) (.tmp 5)) rfl ?_); refine wpList_storeV (B.row 1 rfl) rfl _ _ rfl 29 rfl _ _ _ rfl _ (tc_maps _ _ _ _) (tc f g h (.slice av n cv)) (tc_setM _ _ _ _ _) ?_; intro w9 R9 t9; replace B := B.turn 1 rfl R9 t9; clear R9 t9) | ((with_reducible refine at_opB (.load 30 (.tmp 1)) rfl ?_); refine wpList_loadR 30 (.tmp 1) rfl (by kernel_rfl) b1 rfl (tc f g h (.slice av n cv)) (B.row 1 rfl) _ Try.underlying30 rfl (tc_info _ _ _ _) ?_) | ((with_reducible refine at_opB (.store 30 (.tmp 2) (.tmp 7)) rfl ?_); refine wpList_storeR 30 rfl (.tmp 2) _ rfl b2 rfl (tc f g h (.slice av n cv)) rfl _ (B.row 0 rfl) (tc_sz _ _ _ _ _ _ _ _) (tc_info _ _ _ _) (tc_one _ _ _ _ _ _) ?_; intro w9 R9 t9; replace B := B.turn 0 rfl R9 t9; clear R9 t9))
    refine bodyPost_ret (results_row1 rfl _ _ b2 _ rfl (B.row 0 rfl) _ Try.underlying30 rfl (tc_info _ _ _ _)) rfl ⟨_, rfl, B.map 0 rfl, hN5, hl6, B.base⟩
set_option maxRecDepth 20000 in
set_option maxHeartbeats 8000000 in
theorem bindsLaw_any (w : World) : Calls Try.prog 16 #[] w fun e w' => e = .returned (.bool true) ∧ Below w.heap.size w w' := by
  have hB := Below.refl w.heap.size w
  have hP : openP (fun _ => 0) (fun _ => 0) [] 17 3 99 := ⟨goodT_zero, by decide, by omega, by omega, by omega⟩
  have hok := room_ok (g := fun _ => false) (d := 0) goodT_zero (p := 17) (s := 3) (i := 99) (by decide) (by omega) (by omega) (by simp) (by simp [cntM]) zr_e
  have CO := fun w => open_new (fun _ => 0) (fun _ => false) (fun _ => 0) (.slice none 0 0) [] 17 3 99 0 w (MapsAt.nil w) (fun i _ => (wf_small (Int.le_refl 0) (by omega) : (Lit.int .i64 0).wf = true)) (fun n c e => by injection e with _ _ e3; exact e3.symm) (by decide) hP rfl (by simp [cntM]) zr_e
  have hG := hok.1
  have hwR := hG.wf
  have q1 := zr_q
  have q2 := zr_t
  have q3 := zr_h
  unfold zr at q1 q2 q3
  generalize roomR (fun _ => 0) (fun _ => false) (fun _ => 0) [] 17 3 0 = r at *
  obtain ⟨rf, rh, rq, rt, re⟩ := r
  simp only at q1 q2 q3 CO hG hwR
  subst q1
  subst q2
  have HG : Hid (GoodT rf rh ([] ++ [(17, 3, 99, rh (3 : Int).toNat - 1, 1024)])) := hG
  unfold openS at CO
  obtain ⟨ra, hra⟩ : ∃ ra, ra = rh (3 : Int).toNat - 1 := ⟨_, rfl⟩
  rw [← hra] at CO HG
  clear hP hok hG hra
  go_enter Try.func16, Try.ntmps16
  go_wp2_with (first
    | (refine wpList_buildT rfl rfl ?_)
    | (go_at_call 17; go_fit (CO _); rintro e w5 ⟨v, rfl, hMv, hNv, hbv, hb5⟩; clear hNv hbv; replace hB := hB.trans (hb5.mono hB.size); (obtain ⟨av, cv, hv, -⟩ := id hMv); (generalize ([] ++ [((17, 3, 99, ra, 1024) : Mp)]).length = ln at hv); subst hv; have hltv := hMv.lt)
    | (refine wpList_allocX 1 30 rfl rfl rfl _ table_zero ?_; intro b1 w2 l1 R1 hb2; have hM2 := hMv.below hb2; have x1 := hMv.away l1; replace l1 := Nat.le_trans hB.size l1; replace hB := hB.trans (hb2.mono hB.size))
    | (refine wpList_allocX 2 32 rfl rfl rfl _ map_zero ?_; intro b2 w3 l2 R2 hb3; have n12 := R1.ne l2; have x2 := hM2.away l2; replace hM2 := hM2.below hb3; replace l2 := Nat.le_trans hB.size l2; replace R1 := R1.below hb3; replace hB := hB.trans (hb3.mono hB.size))
    | (refine wpList_storeR 30 rfl (.tmp 1) _ rfl b1 rfl (tc rf (fun _ => false) rh (.slice av ln cv)) rfl _ R1 (tc_sz _ _ _ _ _ _ _ _) (tc_info _ _ _ _) (tc_one _ _ _ _ _ _) ?_; intro w6 R1 t6; replace R2 := t6.row R2 n12.symm; replace hM2 := maps_turned hM2 x1 t6; replace hB := t6.below _ _ l1 hB)
    | (refine wpList_storeR 32 rfl (.tmp 2) _ rfl b2 rfl (mc (17, 3, 99, ra, 1024)) rfl _ R2 rfl (mc_info _) (mc_one _) ?_; intro w7 R2 t7; replace R1 := t7.row R1 n12; replace hM2 := maps_turned hM2 x2 t7; replace hB := t7.below _ _ l2 hB; have c2 : World.cell? _ ⟨b2, 4, none⟩ = some (.int .i64 1024) := m4 R2; have c1 : World.cell? _ ⟨b1, 24, none⟩ = some (.int .i64 1) := (R1.cell 24).trans ((tc_home _ _ _ _ 3 (by omega)).trans (by rw [q3])))
    | (refine wpList_loadR 30 (.tmp 1) rfl ?_ b1 rfl (tc rf (fun _ => false) rh (.slice av ln cv)) R1 _ Try.underlying30 rfl (tc_info _ _ _ _) ?_; · rfl)
    | (go_at_call 14; go_fit (goodt_any rf (fun _ => false) rh (.slice av ln cv) _ hwR _ hM2); rintro e w8 ⟨r, hr, rfl, hb8⟩; obtain rfl : r = true := hr.2 HG.out; clear hr; replace hB := hB.trans (hb8.mono hB.size)))
  go_ret
  exact ⟨rfl, hB⟩
end Go.Proofs.Ytmdijjbkjcnbpaa
