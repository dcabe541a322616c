/-
  Of what BindCloses, BindOpens stands on: part 31.
-/
import Derived.Test.YtmdijjbkjcnbpaaBindCO26
namespace Go.Proofs.Ytmdijjbkjcnbpaa
open Go.ChangeShapes Go.WideShapes Go.ChangeAt Go.RowKit Go.Maps
set_option linter.unusedSimpArgs false
set_option linter.unusedVariables false

attribute [local irreducible] tc pc
set_option maxRecDepth 1000000 in
set_option maxHeartbeats 8000000 in
theorem gt_bad10 {w wr : World} {f : Nat → Int} {g : Nat → Bool} {h : Nat → Int} {ms : List Mp} {b1 b3 b4 b5 b6 : Nat} {a0 : Option Addr} {n cap : Nat} (u2 u7 u8 u9 u10 u11 u12 u13 u14 u15 u16 u17 u18 u19 u20 u21 u22 u23 u24 u25 u26 u27 u31 u32 u33 u34 u35 u36 u37 u38 u39 u40 u41 u42 u43 u44 u45 u46 u47 u48 u49 u50 u51 u52 u53 u54 u55 u56 u57 u58 u59 u60 u61 u62 u63 u64 u65 u66 u67 u68 u69 u70 u71 u72 u73 u74 u75 u76 u77 u78 u79 u80 u81 u82 u83 u84 u85 u86 u87 u88 u89 u90 u91 u92 u93 u94 u95 u96 u97 u98 u99 u100 u101 u102 u103 u104 u105 u106 u107 u108 u109 u110 u111 u112 u113 u114 u115 u116 u117 u118 u119 u120 u121 u122 u123 u124 u125 u126 u127 u128 u129 u130 u131 u132 u133 u134 u135 u136 u137 u138 u139 u140 u141 u142 u143 u144 u145 u146 u147 u148 u149 u150 u151 u152 u153 u154 u155 u156 u157 u158 u159 u160 u161 u162 u163 u164 u165 u166 u167 u168 u169 u170 u171 u172 u173 u174 u175 u176 u177 u178 u179 u180 u181 u182 u183 u184 u185 u186 u187 u188 u189 u190 u191 u192 u193 u194 u195 u196 u197 u198 u199 u200 u201 u202 : Value) (j : Nat) {n6 n5 n4 n3 : Nat}
    (HNs : Hid (n6 ≤ 2 * j ∧ n5 ≤ 2 * j ∧ n4 ≤ 2 * j ∧ n3 ≤ 2 * j)) (G : Gm w wr [(b1, 30, tc f g h (.slice a0 n cap))] [] [entI 3 k1v wf6 b6 n6 (nOf (ms.take j)), entI 79 k2 ok2 b5 n5 (nPl (ms.take j)), entB 78 k3 ok3 b4 n4 (sIn (ms.take j)), entB 76 k3 ok3 b3 n3 (sOut (ms.take j))])
    (HK : Hid (MsOk f h (ms.take j))) (HN : Hid (n = ms.length)) (hM : MapsAt w (.slice a0 n cap) ms) (hwH : wfH h) (hgp : goodP f = true) (hlj : j < ms.length) (m : Mp) (hm : ms[j] = m) (hbad : ¬ OkM m) (Q0 : Exit → Act → World → Prop) (hret : ∀ a w', bodyPost Try.prog Try.f15 (fun e w' => ∃ r : Bool, (r = true ↔ GoodT f h ms) ∧ e = .returned (.bool r) ∧ Below w.heap.size w w') .ret a w' → Q0 .ret a w') :
    Code.wp Try.prog bodyG (Exit.then (fun a' W => WG w f g h ms b1 b3 b4 b5 b6 a0 n cap a' W ∧ WGmu n a' W < WGmu n ⟨#[(.agg (tc f g h (.slice a0 n cap))), .pointer (some ⟨b1, 0, none⟩), u2, .map (some b3), .map (some b4), .map (some b5), .map (some b6), u7, u8, u9, u10, u11, u12, u13, u14, u15, u16, u17, u18, u19, u20, u21, u22, u23, u24, u25, u26, u27, (.slice a0 n cap), .int .i64 (n : Int), .int .i64 (j : Int), u31, u32, u33, u34, u35, u36, u37, u38, u39, u40, u41, u42, u43, u44, u45, u46, u47, u48, u49, u50, u51, u52, u53, u54, u55, u56, u57, u58, u59, u60, u61, u62, u63, u64, u65, u66, u67, u68, u69, u70, u71, u72, u73, u74, u75, u76, u77, u78, u79, u80, u81, u82, u83, u84, u85, u86, u87, u88, u89, u90, u91, u92, u93, u94, u95, u96, u97, u98, u99, u100, u101, u102, u103, u104, u105, u106, u107, u108, u109, u110, u111, u112, u113, u114, u115, u116, u117, u118, u119, u120, u121, u122, u123, u124, u125, u126, u127, u128, u129, u130, u131, u132, u133, u134, u135, u136, u137, u138, u139, u140, u141, u142, u143, u144, u145, u146, u147, u148, u149, u150, u151, u152, u153, u154, u155, u156, u157, u158, u159, u160, u161, u162, u163, u164, u165, u166, u167, u168, u169, u170, u171, u172, u173, u174, u175, u176, u177, u178, u179, u180, u181, u182, u183, u184, u185, u186, u187, u188, u189, u190, u191, u192, u193, u194, u195, u196, u197, u198, u199, u200, u201, u202], []⟩ wr) Q0) ⟨#[(.agg (tc f g h (.slice a0 n cap))), .pointer (some ⟨b1, 0, none⟩), u2, .map (some b3), .map (some b4), .map (some b5), .map (some b6), u7, u8, u9, u10, u11, u12, u13, u14, u15, u16, u17, u18, u19, u20, u21, u22, u23, u24, u25, u26, u27, (.slice a0 n cap), .int .i64 (n : Int), .int .i64 (j : Int), u31, u32, u33, u34, u35, u36, u37, u38, u39, u40, u41, u42, u43, u44, u45, u46, u47, u48, u49, u50, u51, u52, u53, u54, u55, u56, u57, u58, u59, u60, u61, u62, u63, u64, u65, u66, u67, u68, u69, u70, u71, u72, u73, u74, u75, u76, u77, u78, u79, u80, u81, u82, u83, u84, u85, u86, u87, u88, u89, u90, u91, u92, u93, u94, u95, u96, u97, u98, u99, u100, u101, u102, u103, u104, u105, u106, u107, u108, u109, u110, u111, u112, u113, u114, u115, u116, u117, u118, u119, u120, u121, u122, u123, u124, u125, u126, u127, u128, u129, u130, u131, u132, u133, u134, u135, u136, u137, u138, u139, u140, u141, u142, u143, u144, u145, u146, u147, u148, u149, u150, u151, u152, u153, u154, u155, u156, u157, u158, u159, u160, u161, u162, u163, u164, u165, u166, u167, u168, u169, u170, u171, u172, u173, u174, u175, u176, u177, u178, u179, u180, u181, u182, u183, u184, u185, u186, u187, u188, u189, u190, u191, u192, u193, u194, u195, u196, u197, u198, u199, u200, u201, u202], []⟩ wr := by
  conv => arg 2; whnf
  have hlt := hM.lt
  have hjn : (j : Int) < (n : Int) := by have := HN.out; omega
  have hjw := wrap_next hlj hM.len
  have hMW := hM.keep G.bd.base hlt
  have hrg := hMW.at j hlj hm
  have HNG : Hid (false = true ↔ GoodT f h ms) := hidB (notGood hlj (fun hh => hbad (by rw [hm] at hh; exact stands_ok hh.1)))
  obtain ⟨kk, ii, inb, hin, CB⟩ : ∃ (kk ii : Int) (inb : Bool), (inb = true ↔ 1024 ≤ m.2.2.2.2 ∧ m.2.2.2.2 < 1072) ∧ ∀ w, Calls Try.prog 13 #[.int .i64 m.2.2.2.2] w fun e w' => e = .returned (.tuple #[.int .i64 kk, .int .i64 ii, .bool inb]) ∧ w' = w := by
    by_cases hq : 1024 ≤ m.2.2.2.2 ∧ m.2.2.2.2 < 1072
    · exact ⟨_, _, true, by simp [hq], fun w => blockOf_in _ w hq⟩
    · exact ⟨_, _, false, by simp [hq], fun w => blockOf_out _ w hq⟩
  obtain ⟨ip, hip⟩ : ∃ b, isP m.1 = b := ⟨_, rfl⟩
  have CI := fun w => isProto_ref m.1 w
  rw [hip] at CI
  have HB : Hid (¬ OkM m) := hbad
  have HIN : Hid (inb = true ↔ 1024 ≤ m.2.2.2.2 ∧ m.2.2.2.2 < 1072) := hin
  have HIP : Hid (isP m.1 = ip) := hip
  clear hbad hin hip
  go_upto_region 10 with (first | (refine wpList_indexM rfl (.tmp 28) (.tmp 30) rfl (.slice a0 n cap) ms hMW rfl j rfl hlj ?_) | ((with_reducible refine at_opB (.load 32 (.tmp 32)) rfl ?_); refine wpList_load_mid rfl 32 _ rfl _ _ rfl (mcl m) _ hrg Try.underlying32 rfl (mcl_info m) ?_; rw [mcl_mc]) | ((with_reducible refine at_opB (.alloc 32) rfl ?_); refine wpList_allocX 8 32 rfl rfl rfl _ map_zero ?_; intro b8 w9 l9 R9 h9; replace G := G.alloc l9 R9 h9; clear R9 h9 l9) | ((with_reducible refine at_opB (.store 32 (.tmp 8) (.tmp 33)) rfl ?_); refine wpList_storeR 32 rfl (.tmp 8) _ rfl b8 rfl (mc m) rfl _ (G.bd.row 0 rfl) rfl (mc_info _) (mc_one _) ?_; intro w9 R9 t9; replace G := G.turn 0 rfl R9 t9; clear R9 t9) | ((with_reducible refine at_opB (.load 3 (.tmp 35)) rfl ?_); refine wpList_loadF (G.bd.row 0 rfl) _ rfl (by kernel_rfl) 4 rfl (m.2.2.2.2) rfl ?_) | (go_at_call 13; refine (CB _).mono ?_; rintro e w' ⟨rfl, hw⟩; rw [hw]; clear hw w'))
  cases inb with
  | false =>
    go_wp2
    go_ret
    exact ⟨false, HNG.out, rfl, G.bd.base⟩
  | true =>
    cases ip with
    | false =>
      go_wp2_with (first | ((with_reducible refine at_opB (.load 3 (.tmp 44)) rfl ?_); refine wpList_loadF (G.bd.row 0 rfl) _ rfl (by kernel_rfl) 0 rfl (m.1) rfl ?_) | (go_at_call 36; refine (CI _).mono ?_; rintro e w' ⟨rfl, hw⟩; rw [hw]; clear hw w'))
      go_ret
      exact ⟨false, HNG.out, rfl, G.bd.base⟩
    | true =>
      by_cases d1 : m.2.1 < 0
      · replace d1 : decide (m.2.1 < 0) = true := by simpa using d1
        go_wp2_with (first | ((with_reducible refine at_opB (.load 3 (.tmp 44)) rfl ?_); refine wpList_loadF (G.bd.row 0 rfl) _ rfl (by kernel_rfl) 0 rfl (m.1) rfl ?_) | ((with_reducible refine at_opB (.load 3 (.tmp 50)) rfl ?_); refine wpList_loadF (G.bd.row 0 rfl) _ rfl (by kernel_rfl) 1 rfl (m.2.1) rfl ?_) | (go_at_call 36; refine (CI _).mono ?_; rintro e w' ⟨rfl, hw⟩; rw [hw]; clear hw w'))
        go_ret
        exact ⟨false, HNG.out, rfl, G.bd.base⟩
      · have Hd1 : Hid (¬ m.2.1 < 0) := d1
        replace d1 : decide (m.2.1 < 0) = false := by simpa using d1
        by_cases d2 : 7 < m.2.1
        · replace d2 : decide (7 < m.2.1) = true := by simpa using d2
          go_wp2_with (first | ((with_reducible refine at_opB (.load 3 (.tmp 44)) rfl ?_); refine wpList_loadF (G.bd.row 0 rfl) _ rfl (by kernel_rfl) 0 rfl (m.1) rfl ?_) | ((with_reducible refine at_opB (.load 3 (.tmp 50)) rfl ?_); refine wpList_loadF (G.bd.row 0 rfl) _ rfl (by kernel_rfl) 1 rfl (m.2.1) rfl ?_) | ((with_reducible refine at_opB (.load 3 (.tmp 55)) rfl ?_); refine wpList_loadF (G.bd.row 0 rfl) _ rfl (by kernel_rfl) 1 rfl (m.2.1) rfl ?_) | (go_at_call 36; refine (CI _).mono ?_; rintro e w' ⟨rfl, hw⟩; rw [hw]; clear hw w'))
          go_ret
          exact ⟨false, HNG.out, rfl, G.bd.base⟩
        · have Hd2 : Hid (¬ 7 < m.2.1) := d2
          replace d2 : decide (7 < m.2.1) = false := by simpa using d2
          by_cases d3 : m.2.2.1 < 0
          · replace d3 : decide (m.2.2.1 < 0) = true := by simpa using d3
            go_wp2_with (first | ((with_reducible refine at_opB (.load 3 (.tmp 44)) rfl ?_); refine wpList_loadF (G.bd.row 0 rfl) _ rfl (by kernel_rfl) 0 rfl (m.1) rfl ?_) | ((with_reducible refine at_opB (.load 3 (.tmp 50)) rfl ?_); refine wpList_loadF (G.bd.row 0 rfl) _ rfl (by kernel_rfl) 1 rfl (m.2.1) rfl ?_) | ((with_reducible refine at_opB (.load 3 (.tmp 55)) rfl ?_); refine wpList_loadF (G.bd.row 0 rfl) _ rfl (by kernel_rfl) 1 rfl (m.2.1) rfl ?_) | ((with_reducible refine at_opB (.load 3 (.tmp 60)) rfl ?_); refine wpList_loadF (G.bd.row 0 rfl) _ rfl (by kernel_rfl) 2 rfl (m.2.2.1) rfl ?_) | (go_at_call 36; refine (CI _).mono ?_; rintro e w' ⟨rfl, hw⟩; rw [hw]; clear hw w'))
            go_ret
            exact ⟨false, HNG.out, rfl, G.bd.base⟩
          · have Hd3 : Hid (¬ m.2.2.1 < 0) := d3
            replace d3 : decide (m.2.2.1 < 0) = false := by simpa using d3
            by_cases d4 : 65535 < m.2.2.1
            · replace d4 : decide (65535 < m.2.2.1) = true := by simpa using d4
              go_wp2_with (first | ((with_reducible refine at_opB (.load 3 (.tmp 44)) rfl ?_); refine wpList_loadF (G.bd.row 0 rfl) _ rfl (by kernel_rfl) 0 rfl (m.1) rfl ?_) | ((with_reducible refine at_opB (.load 3 (.tmp 50)) rfl ?_); refine wpList_loadF (G.bd.row 0 rfl) _ rfl (by kernel_rfl) 1 rfl (m.2.1) rfl ?_) | ((with_reducible refine at_opB (.load 3 (.tmp 55)) rfl ?_); refine wpList_loadF (G.bd.row 0 rfl) _ rfl (by kernel_rfl) 1 rfl (m.2.1) rfl ?_) | ((with_reducible refine at_opB (.load 3 (.tmp 60)) rfl ?_); refine wpList_loadF (G.bd.row 0 rfl) _ rfl (by kernel_rfl) 2 rfl (m.2.2.1) rfl ?_) | ((with_reducible refine at_opB (.load 3 (.tmp 65)) rfl ?_); refine wpList_loadF (G.bd.row 0 rfl) _ rfl (by kernel_rfl) 2 rfl (m.2.2.1) rfl ?_) | (go_at_call 36; refine (CI _).mono ?_; rintro e w' ⟨rfl, hw⟩; rw [hw]; clear hw w'))
              go_ret
              exact ⟨false, HNG.out, rfl, G.bd.base⟩
            · have Hd4 : Hid (¬ 65535 < m.2.2.1) := d4
              replace d4 : decide (65535 < m.2.2.1) = false := by simpa using d4
              by_cases d5 : m.2.2.2.1 < 0
              · replace d5 : decide (m.2.2.2.1 < 0) = true := by simpa using d5
                go_wp2_with (first | ((with_reducible refine at_opB (.load 3 (.tmp 44)) rfl ?_); refine wpList_loadF (G.bd.row 0 rfl) _ rfl (by kernel_rfl) 0 rfl (m.1) rfl ?_) | ((with_reducible refine at_opB (.load 3 (.tmp 50)) rfl ?_); refine wpList_loadF (G.bd.row 0 rfl) _ rfl (by kernel_rfl) 1 rfl (m.2.1) rfl ?_) | ((with_reducible refine at_opB (.load 3 (.tmp 55)) rfl ?_); refine wpList_loadF (G.bd.row 0 rfl) _ rfl (by kernel_rfl) 1 rfl (m.2.1) rfl ?_) | ((with_reducible refine at_opB (.load 3 (.tmp 60)) rfl ?_); refine wpList_loadF (G.bd.row 0 rfl) _ rfl (by kernel_rfl) 2 rfl (m.2.2.1) rfl ?_) | ((with_reducible refine at_opB (.load 3 (.tmp 65)) rfl ?_); refine wpList_loadF (G.bd.row 0 rfl) _ rfl (by kernel_rfl) 2 rfl (m.2.2.1) rfl ?_) | ((with_reducible refine at_opB (.load 3 (.tmp 70)) rfl ?_); refine wpList_loadF (G.bd.row 0 rfl) _ rfl (by kernel_rfl) 3 rfl (m.2.2.2.1) rfl ?_) | (go_at_call 36; refine (CI _).mono ?_; rintro e w' ⟨rfl, hw⟩; rw [hw]; clear hw w'))
                go_ret
                exact ⟨false, HNG.out, rfl, G.bd.base⟩
              · have Hd5 : Hid (¬ m.2.2.2.1 < 0) := d5
                replace d5 : decide (m.2.2.2.1 < 0) = false := by simpa using d5
                by_cases d6 : 2 < m.2.2.2.1
                · replace d6 : decide (2 < m.2.2.2.1) = true := by simpa using d6
                  go_wp2_with (first | ((with_reducible refine at_opB (.load 3 (.tmp 44)) rfl ?_); refine wpList_loadF (G.bd.row 0 rfl) _ rfl (by kernel_rfl) 0 rfl (m.1) rfl ?_) | ((with_reducible refine at_opB (.load 3 (.tmp 50)) rfl ?_); refine wpList_loadF (G.bd.row 0 rfl) _ rfl (by kernel_rfl) 1 rfl (m.2.1) rfl ?_) | ((with_reducible refine at_opB (.load 3 (.tmp 55)) rfl ?_); refine wpList_loadF (G.bd.row 0 rfl) _ rfl (by kernel_rfl) 1 rfl (m.2.1) rfl ?_) | ((with_reducible refine at_opB (.load 3 (.tmp 60)) rfl ?_); refine wpList_loadF (G.bd.row 0 rfl) _ rfl (by kernel_rfl) 2 rfl (m.2.2.1) rfl ?_) | ((with_reducible refine at_opB (.load 3 (.tmp 65)) rfl ?_); refine wpList_loadF (G.bd.row 0 rfl) _ rfl (by kernel_rfl) 2 rfl (m.2.2.1) rfl ?_) | ((with_reducible refine at_opB (.load 3 (.tmp 70)) rfl ?_); refine wpList_loadF (G.bd.row 0 rfl) _ rfl (by kernel_rfl) 3 rfl (m.2.2.2.1) rfl ?_) | ((with_reducible refine at_opB (.load 3 (.tmp 75)) rfl ?_); refine wpList_loadF (G.bd.row 0 rfl) _ rfl (by kernel_rfl) 3 rfl (m.2.2.2.1) rfl ?_) | (go_at_call 36; refine (CI _).mono ?_; rintro e w' ⟨rfl, hw⟩; rw [hw]; clear hw w'))
                  go_ret
                  exact ⟨false, HNG.out, rfl, G.bd.base⟩
                · have Hd6 : Hid (¬ 2 < m.2.2.2.1) := d6
                  replace d6 : decide (2 < m.2.2.2.1) = false := by simpa using d6
                  exact absurd ⟨HIN.out.1 rfl, HIP.out, ⟨by have := Hd1.out; omega, by have := Hd2.out; omega⟩, ⟨by have := Hd3.out; omega, by have := Hd4.out; omega⟩, ⟨by have := Hd5.out; omega, by have := Hd6.out; omega⟩⟩ HB.out
end Go.Proofs.Ytmdijjbkjcnbpaa

namespace Go.Proofs.Ytmdijjbkjcnbpaa
open Go.ChangeShapes Go.WideShapes Go.ChangeAt Go.RowKit Go.Maps
set_option linter.unusedSimpArgs false
set_option linter.unusedVariables false

theorem isP_wf {p : Int} (h : isP p = true) : wf6 p := by
  rcases (isP_iff p).1 h with rfl | rfl | rfl <;> (unfold wf6; decide)
theorem wp_mu {o : Oper} {a : Act} {w w' : World} {K : Act → World → Prop} {Q : Exit → Act → World → Prop} (t : TypeId) (m x v : Operand) (ho : o.op = .mapUpdate t m x v) (mv kv vv : Value) (hm : a.eval m = mv) (hx : a.eval x = kv) (hv : a.eval v = vv) (hr : (Instr.mapUpdate t mv kv vv).run Try.prog w = .ok () w') (hK : K (a.put o.dst undef) w') : o.wp Try.prog a w K Q := by
  unfold Oper.wp
  simp [execOp, ho, hm, hx, hv, hr, Result.andThen]
  exact hK
theorem wpList_mu {ops : Array Oper} {rest : List Oper} {o : Oper} {a : Act} {w w' : World} {Q : Exit → Act → World → Prop} (hgd : o.guard = none) (t : TypeId) (m x v : Operand) (ho : o.op = .mapUpdate t m x v) (mv kv vv : Value) (hm : a.eval m = mv) (hx : a.eval x = kv) (hv : a.eval v = vv) (hr : (Instr.mapUpdate t mv kv vv).run Try.prog w = .ok () w') (hK : wpList Try.prog ops Q rest (a.put o.dst undef) w') : wpList Try.prog ops Q (o :: rest) a w :=
  wpList_plain hgd fun K hK' => wp_mu t m x v ho mv kv vv hm hx hv hr (hK' _ _ hK)
theorem wp_lk {o : Oper} {a : Act} {w : World} {K : Act → World → Prop} {Q : Exit → Act → World → Prop} (t : TypeId) (m x : Operand) (ho : o.op = .lookup t m x false) (mv kv v : Value) (hm : a.eval m = mv) (hx : a.eval x = kv) (hr : (Instr.lookup t mv kv false).run Try.prog w = .ok v w) (hK : K (a.put o.dst v) w) : o.wp Try.prog a w K Q := by
  unfold Oper.wp
  simp [execOp, ho, hm, hx, hr, Result.andThen]
  exact hK
theorem wpList_lk {ops : Array Oper} {rest : List Oper} {o : Oper} {a : Act} {w : World} {Q : Exit → Act → World → Prop} (hgd : o.guard = none) (t : TypeId) (m x : Operand) (ho : o.op = .lookup t m x false) (mv kv v : Value) (hm : a.eval m = mv) (hx : a.eval x = kv) (hr : (Instr.lookup t mv kv false).run Try.prog w = .ok v w) (hK : wpList Try.prog ops Q rest (a.put o.dst v) w) : wpList Try.prog ops Q (o :: rest) a w :=
  wpList_plain hgd fun K hK' => wp_lk t m x ho mv kv v hm hx hr (hK' _ _ hK)
theorem wp_me {o : Oper} {a : Act} {w w' : World} {K : Act → World → Prop} {Q : Exit → Act → World → Prop} (t : TypeId) (m x : Operand) (ho : o.op = .mapEntry t m x) (mv kv v : Value) (hm : a.eval m = mv) (hx : a.eval x = kv) (hr : (Instr.mapEntry t mv kv).run Try.prog w = .ok v w') (hK : K (a.put o.dst v) w') : o.wp Try.prog a w K Q := by
  unfold Oper.wp
  simp [execOp, ho, hm, hx, hr, Result.andThen]
  exact hK
theorem wp_es {o : Oper} {a : Act} {w w' : World} {K : Act → World → Prop} {Q : Exit → Act → World → Prop} (t : TypeId) (m x v : Operand) (ho : o.op = .entryStore t m x v) (mv kv vv : Value) (hm : a.eval m = mv) (hx : a.eval x = kv) (hv : a.eval v = vv) (hr : (Instr.entryStore t mv kv vv).run Try.prog w = .ok () w') (hK : K (a.put o.dst undef) w') : o.wp Try.prog a w K Q := by
  unfold Oper.wp
  simp [execOp, ho, hm, hx, hv, hr, Result.andThen]
  exact hK
theorem wrap_in {x : Int} (h : -9223372036854775808 ≤ x ∧ x ≤ 9223372036854775807) : IntKind.i64.wrap x = x := by rw [IntKind.wrap_i64]; omega
theorem dec_ne {x y : Int} (hx : wf6 x) (hy : 0 ≤ y ∧ y ≤ 1000) : (IntKind.i64.wrap (x - 1) != y) = decide (x ≠ y + 1) := by
  have hb := wf6_bd hx
  rw [IntKind.wrap_i64]
  by_cases h : x = y + 1
  · subst h
    have : (y + 1 - 1 + 9223372036854775808) % 18446744073709551616 - 9223372036854775808 = y := by omega
    rw [this]; simp
  · have : (x - 1 + 9223372036854775808) % 18446744073709551616 - 9223372036854775808 ≠ y := by omega
    simp [this, h]
theorem place_at {q : Int} {sN aN kN : Nat} {p i : Int} (hk : blkQ q = (kN : Int)) : placeM (p, (sN : Int), i, (aN : Int), q) = 6 * aN + kN := by
  unfold placeM placeN
  unfold blkQ at hk
  simp only
  omega
theorem gt_next {w W : World} {f : Nat → Int} {g : Nat → Bool} {h : Nat → Int} {ms : List Mp} {b1 b3 b4 b5 b6 b8 b12 b13 n6 n5 n4 n3 j : Nat} {a0 : Option Addr} {n cap : Nat} {p i q : Int} {sN aN kN : Nat} (ht : ms.take (j + 1) = ms.take j ++ [(p, (sN : Int), i, (aN : Int), q)]) (hk : blkQ q = (kN : Int))
    (G : Gm w W [(b12, 76, #[.int .i64 p, .int .i64 (aN : Int), .int .i64 q]), (b13, 78, #[.int .i64 p, .int .i64 (sN : Int), .int .i64 i]), (b8, 32, mc (p, (sN : Int), i, (aN : Int), q)), (b1, 30, tc f g h (.slice a0 n cap))] [] [entI 3 k1v wf6 b6 (n6 + 1) (updX (nOf (ms.take j)) (sN : Int) (nOf (ms.take j) (sN : Int) + 1)), entI 79 k2 ok2 b5 (n5 + 1) (updX (nPl (ms.take j)) ((aN : Int), (kN : Int)) (nPl (ms.take j) ((aN : Int), (kN : Int)) + 1)), entB 78 k3 ok3 b4 (n4 + 1) (updX (sIn (ms.take j)) (p, (sN : Int), i) true), entB 76 k3 ok3 b3 (n3 + 1) (updX (sOut (ms.take j)) (p, (aN : Int), q) true)]) :
    Gm w W [(b1, 30, tc f g h (.slice a0 n cap))] [] [entI 3 k1v wf6 b6 (n6 + 1) (nOf (ms.take (j + 1))), entI 79 k2 ok2 b5 (n5 + 1) (nPl (ms.take (j + 1))), entB 78 k3 ok3 b4 (n4 + 1) (sIn (ms.take (j + 1))), entB 76 k3 ok3 b3 (n3 + 1) (sOut (ms.take (j + 1)))] := by
  have e6 := nOf_snoc (ms.take j) (p, (sN : Int), i, (aN : Int), q)
  have e5 := nPl_snoc (ms.take j) (p, (sN : Int), i, (aN : Int), q)
  have e4 := sIn_snoc (ms.take j) (p, (sN : Int), i, (aN : Int), q)
  have e3 := sOut_snoc (ms.take j) (p, (sN : Int), i, (aN : Int), q)
  simp only [hk] at e5
  rw [← ht] at e6 e5 e4 e3
  rw [← e6, ← e5, ← e4, ← e3]
  exact G.rows (G.bd.one 3 rfl)
end Go.Proofs.Ytmdijjbkjcnbpaa

namespace Go.Proofs.Ytmdijjbkjcnbpaa
open Go.ChangeShapes Go.WideShapes Go.ChangeAt Go.RowKit Go.Maps
set_option linter.unusedSimpArgs false
set_option linter.unusedVariables false

attribute [local irreducible] tc pc
set_option maxRecDepth 1000000 in
set_option maxHeartbeats 8000000 in
theorem gt_v3 {w wr : World} {f : Nat → Int} {g : Nat → Bool} {h : Nat → Int} {ms : List Mp} {b1 b3 b4 b5 b6 : Nat} {a0 : Option Addr} {n cap : Nat} (u2 u7 u8 u9 u10 u11 u12 u13 u14 u15 u16 u17 u18 u19 u20 u21 u22 u23 u24 u25 u26 u27 u31 u32 u33 u34 u35 u36 u37 u38 u39 u40 u41 u42 u43 u44 u45 u46 u47 u48 u49 u50 u51 u52 u53 u54 u55 u56 u57 u58 u59 u60 u61 u62 u63 u64 u65 u66 u67 u68 u69 u70 u71 u72 u73 u74 u75 u76 u77 u78 u79 u80 u81 u82 u83 u84 u85 u86 u87 u88 u89 u90 u91 u92 u93 u94 u95 u96 u97 u98 u99 u100 u101 u102 u103 u104 u105 u106 u107 u108 u109 u110 u111 u112 u113 u114 u115 u116 u117 u118 u119 u120 u121 u122 u123 u124 u125 u126 u127 u128 u129 u130 u131 u132 u133 u134 u135 u136 u137 u138 u139 u140 u141 u142 u143 u144 u145 u146 u147 u148 u149 u150 u151 u152 u153 u154 u155 u156 u157 u158 u159 u160 u161 u162 u163 u164 u165 u166 u167 u168 u169 u170 u171 u172 u173 u174 u175 u176 u177 u178 u179 u180 u181 u182 u183 u184 u185 u186 u187 u188 u189 u190 u191 u192 u193 u194 u195 u196 u197 u198 u199 u200 u201 u202 : Value) (j : Nat) {n6 n5 n4 n3 : Nat}
    (HNs : Hid (n6 ≤ 2 * j ∧ n5 ≤ 2 * j ∧ n4 ≤ 2 * j ∧ n3 ≤ 2 * j)) (G : Gm w wr [(b1, 30, tc f g h (.slice a0 n cap))] [] [entI 3 k1v wf6 b6 n6 (nOf (ms.take j)), entI 79 k2 ok2 b5 n5 (nPl (ms.take j)), entB 78 k3 ok3 b4 n4 (sIn (ms.take j)), entB 76 k3 ok3 b3 n3 (sOut (ms.take j))])
    (HK : Hid (MsOk f h (ms.take j))) (HN : Hid (n = ms.length)) (hM : MapsAt w (.slice a0 n cap) ms) (hwH : wfH h) (hgp : goodP f = true) (hlj : j < ms.length) (m : Mp) (hm : ms[j] = m) (hok : OkM m) (e3 : sOut (ms.take j) (m.1, m.2.2.2.1, m.2.2.2.2) = true) (Q0 : Exit → Act → World → Prop) (hret : ∀ a w', bodyPost Try.prog Try.f15 (fun e w' => ∃ r : Bool, (r = true ↔ GoodT f h ms) ∧ e = .returned (.bool r) ∧ Below w.heap.size w w') .ret a w' → Q0 .ret a w') :
    Code.wp Try.prog bodyG (Exit.then (fun a' W => WG w f g h ms b1 b3 b4 b5 b6 a0 n cap a' W ∧ WGmu n a' W < WGmu n ⟨#[(.agg (tc f g h (.slice a0 n cap))), .pointer (some ⟨b1, 0, none⟩), u2, .map (some b3), .map (some b4), .map (some b5), .map (some b6), u7, u8, u9, u10, u11, u12, u13, u14, u15, u16, u17, u18, u19, u20, u21, u22, u23, u24, u25, u26, u27, (.slice a0 n cap), .int .i64 (n : Int), .int .i64 (j : Int), u31, u32, u33, u34, u35, u36, u37, u38, u39, u40, u41, u42, u43, u44, u45, u46, u47, u48, u49, u50, u51, u52, u53, u54, u55, u56, u57, u58, u59, u60, u61, u62, u63, u64, u65, u66, u67, u68, u69, u70, u71, u72, u73, u74, u75, u76, u77, u78, u79, u80, u81, u82, u83, u84, u85, u86, u87, u88, u89, u90, u91, u92, u93, u94, u95, u96, u97, u98, u99, u100, u101, u102, u103, u104, u105, u106, u107, u108, u109, u110, u111, u112, u113, u114, u115, u116, u117, u118, u119, u120, u121, u122, u123, u124, u125, u126, u127, u128, u129, u130, u131, u132, u133, u134, u135, u136, u137, u138, u139, u140, u141, u142, u143, u144, u145, u146, u147, u148, u149, u150, u151, u152, u153, u154, u155, u156, u157, u158, u159, u160, u161, u162, u163, u164, u165, u166, u167, u168, u169, u170, u171, u172, u173, u174, u175, u176, u177, u178, u179, u180, u181, u182, u183, u184, u185, u186, u187, u188, u189, u190, u191, u192, u193, u194, u195, u196, u197, u198, u199, u200, u201, u202], []⟩ wr) Q0) ⟨#[(.agg (tc f g h (.slice a0 n cap))), .pointer (some ⟨b1, 0, none⟩), u2, .map (some b3), .map (some b4), .map (some b5), .map (some b6), u7, u8, u9, u10, u11, u12, u13, u14, u15, u16, u17, u18, u19, u20, u21, u22, u23, u24, u25, u26, u27, (.slice a0 n cap), .int .i64 (n : Int), .int .i64 (j : Int), u31, u32, u33, u34, u35, u36, u37, u38, u39, u40, u41, u42, u43, u44, u45, u46, u47, u48, u49, u50, u51, u52, u53, u54, u55, u56, u57, u58, u59, u60, u61, u62, u63, u64, u65, u66, u67, u68, u69, u70, u71, u72, u73, u74, u75, u76, u77, u78, u79, u80, u81, u82, u83, u84, u85, u86, u87, u88, u89, u90, u91, u92, u93, u94, u95, u96, u97, u98, u99, u100, u101, u102, u103, u104, u105, u106, u107, u108, u109, u110, u111, u112, u113, u114, u115, u116, u117, u118, u119, u120, u121, u122, u123, u124, u125, u126, u127, u128, u129, u130, u131, u132, u133, u134, u135, u136, u137, u138, u139, u140, u141, u142, u143, u144, u145, u146, u147, u148, u149, u150, u151, u152, u153, u154, u155, u156, u157, u158, u159, u160, u161, u162, u163, u164, u165, u166, u167, u168, u169, u170, u171, u172, u173, u174, u175, u176, u177, u178, u179, u180, u181, u182, u183, u184, u185, u186, u187, u188, u189, u190, u191, u192, u193, u194, u195, u196, u197, u198, u199, u200, u201, u202], []⟩ wr := by
  conv => arg 2; whnf
  have hlt := hM.lt
  have hjn : (j : Int) < (n : Int) := by have := HN.out; omega
  have hjw := wrap_next hlj hM.len
  have hMW := hM.keep G.bd.base hlt
  have hrg := hMW.at j hlj hm
  have HNG : Hid (false = true ↔ GoodT f h ms) := hidB (notGood hlj (fun hh => by rw [hm, meets_two, e3] at hh; simp at hh))
  have E3 : Hid (sOut (ms.take j) (m.1, m.2.2.2.1, m.2.2.2.2) = true) := e3
  clear e3
  obtain ⟨hq, hip, hs, hi, ha⟩ := hok
  have HOK : Hid (OkM m) := ⟨hq, hip, hs, hi, ha⟩
  obtain ⟨p, s, i, a, q⟩ := m
  simp only at hq hip hs hi ha
  obtain ⟨sN, rfl⟩ : ∃ sN : Nat, s = (sN : Int) := ⟨s.toNat, by omega⟩
  obtain ⟨aN, rfl⟩ : ∃ aN : Nat, a = (aN : Int) := ⟨a.toNat, by omega⟩
  obtain ⟨kN, hkN⟩ : ∃ kN : Nat, blkQ q = (kN : Int) := ⟨(blkQ q).toNat, by unfold blkQ; omega⟩
  have HKN : Hid (blkQ q = (kN : Int)) := hkN
  have HS8 : Hid (sN < 8) := hidB (by omega)
  have H50 : Hid (aN < 3) := hidB (by omega)
  have HK6 : Hid (kN < 6) := hidB (by unfold blkQ at hkN; omega)
  have HPL : Hid (ok3 (p, (aN : Int), q)) := hidB ⟨isP_wf hip, wf6_of (by show -9223372036854775808 ≤ (aN : Int) ∧ (aN : Int) ≤ _; omega), wf6_of (by show -9223372036854775808 ≤ q ∧ q ≤ _; omega)⟩
  have HPR : Hid (ok3 (p, (sN : Int), i)) := hidB ⟨isP_wf hip, wf6_of (by show -9223372036854775808 ≤ (sN : Int) ∧ (sN : Int) ≤ _; omega), wf6_of (by show -9223372036854775808 ≤ i ∧ i ≤ _; omega)⟩
  have HTW : Hid (ok2 ((aN : Int), (kN : Int))) := hidB ⟨wf6_of (by show -9223372036854775808 ≤ (aN : Int) ∧ (aN : Int) ≤ _; omega), wf6_of (by unfold blkQ at hkN; show -9223372036854775808 ≤ (kN : Int) ∧ (kN : Int) ≤ _; omega)⟩
  have HSW : Hid (wf6 (sN : Int)) := hidB (wf6_of (by omega))
  have CB := fun w => blockOf_in q w hq
  rw [hkN] at CB
  have CI := fun w => isProto_ref p w
  rw [hip] at CI
  have d1 : decide ((sN : Int) < 0) = false := decide_eq_false (by omega)
  have d2 : decide (7 < (sN : Int)) = false := decide_eq_false (by omega)
  have d3 : decide (i < 0) = false := decide_eq_false (by omega)
  have d4 : decide (65535 < i) = false := decide_eq_false (by omega)
  have d5 : decide ((aN : Int) < 0) = false := decide_eq_false (by omega)
  have d6 : decide (2 < (aN : Int)) = false := decide_eq_false (by omega)
  clear hq hip hs hi ha hkN
  go_upto_region 12 with (first | (refine wpList_indexM rfl (.tmp 28) (.tmp 30) rfl (.slice a0 n cap) ms hMW rfl j rfl hlj ?_) | ((with_reducible refine at_opB (.load 32 (.tmp 32)) rfl ?_); refine wpList_load_mid rfl 32 _ rfl _ _ rfl (mcl (p, (sN : Int), i, (aN : Int), q)) _ hrg Try.underlying32 rfl (mcl_info (p, (sN : Int), i, (aN : Int), q)) ?_; rw [mcl_mc]) | ((with_reducible refine at_opB (.alloc 32) rfl ?_); refine wpList_allocX 8 32 rfl rfl rfl _ map_zero ?_; intro b8 w9 l9 R9 h9; replace G := G.alloc l9 R9 h9; clear R9 h9 l9) | ((with_reducible refine at_opB (.store 32 (.tmp 8) (.tmp 33)) rfl ?_); refine wpList_storeR 32 rfl (.tmp 8) _ rfl b8 rfl (mc (p, (sN : Int), i, (aN : Int), q)) rfl _ (G.bd.row 0 rfl) rfl (mc_info _) (mc_one _) ?_; intro w9 R9 t9; replace G := G.turn 0 rfl R9 t9; clear R9 t9) | ((with_reducible refine at_opB (.load 3 (.tmp 35)) rfl ?_); refine wpList_loadF (G.bd.row 0 rfl) _ rfl (by kernel_rfl) 4 rfl (q) rfl ?_) | (go_at_call 13; refine (CB _).mono ?_; rintro e w' ⟨rfl, hw⟩; rw [hw]; clear hw w') | ((with_reducible refine at_opB (.load 3 (.tmp 44)) rfl ?_); refine wpList_loadF (G.bd.row 0 rfl) _ rfl (by kernel_rfl) 0 rfl (p) rfl ?_) | ((with_reducible refine at_opB (.load 3 (.tmp 50)) rfl ?_); refine wpList_loadF (G.bd.row 0 rfl) _ rfl (by kernel_rfl) 1 rfl ((sN : Int)) rfl ?_) | ((with_reducible refine at_opB (.load 3 (.tmp 55)) rfl ?_); refine wpList_loadF (G.bd.row 0 rfl) _ rfl (by kernel_rfl) 1 rfl ((sN : Int)) rfl ?_) | ((with_reducible refine at_opB (.load 3 (.tmp 60)) rfl ?_); refine wpList_loadF (G.bd.row 0 rfl) _ rfl (by kernel_rfl) 2 rfl (i) rfl ?_) | ((with_reducible refine at_opB (.load 3 (.tmp 65)) rfl ?_); refine wpList_loadF (G.bd.row 0 rfl) _ rfl (by kernel_rfl) 2 rfl (i) rfl ?_) | ((with_reducible refine at_opB (.load 3 (.tmp 70)) rfl ?_); refine wpList_loadF (G.bd.row 0 rfl) _ rfl (by kernel_rfl) 3 rfl ((aN : Int)) rfl ?_) | ((with_reducible refine at_opB (.load 3 (.tmp 75)) rfl ?_); refine wpList_loadF (G.bd.row 0 rfl) _ rfl (by kernel_rfl) 3 rfl ((aN : Int)) rfl ?_) | (go_at_call 36; refine (CI _).mono ?_; rintro e w' ⟨rfl, hw⟩; rw [hw]; clear hw w'))
  clear d1 d2 d3 d4 d5 d6 CB CI
  (try dsimp only [Act.put]); (try simp only [List.getElem_toArray, List.getElem_cons_succ, List.getElem_cons_zero, List.setIfInBounds_toArray, List.set_cons_zero, List.set_cons_succ])
  have R8 : Row 32 _ b8 (mc (p, (sN : Int), i, (aN : Int), q)) := G.bd.row 0 rfl
  go_cut [12, 13, 30] from 30 to 144 (fun s12 s13 s30 wx => ∃ b12 b13, s12 = .pointer (some ⟨b12, 0, none⟩) ∧ s13 = .pointer (some ⟨b13, 0, none⟩) ∧ s30 = .int .i64 (j : Int) ∧ Gm w wx [(b12, 76, #[.int .i64 p, .int .i64 (aN : Int), .int .i64 q]), (b13, 78, #[.int .i64 p, .int .i64 (sN : Int), .int .i64 i]), (b8, 32, mc (p, (sN : Int), i, (aN : Int), q)), (b1, 30, tc f g h (.slice a0 n cap))] [] [entI 3 k1v wf6 b6 n6 (nOf (ms.take j)), entI 79 k2 ok2 b5 n5 (nPl (ms.take j)), entB 78 k3 ok3 b4 n4 (sIn (ms.take j)), entB 76 k3 ok3 b3 n3 (sOut (ms.take j))])
  case first =>
    refine wp_region_noPanic ?_
    refine wp_region_held_drew (S := fun W => Row 32 W b8 (mc (p, (sN : Int), i, (aN : Int), q))) (by kernel_rfl) R8 (fun _ => ?_)
    refine wpAnyH_take (i := 0) (v := .pointer (some ⟨b8, 0, none⟩)) rfl (by kernel_rfl) (by kernel_rfl) (by kernel_rfl) (fun _ _ _ h => h) (Or.inl ⟨by kernel_rfl, by intro w hS; go_simp⟩) R8 ?_
    simp only [Act.put, List.getElem_toArray, List.getElem_cons_succ, List.getElem_cons_zero, List.setIfInBounds_toArray, List.set_cons_zero, List.set_cons_succ]
    refine wpAnyH_take (i := 1) (v := .int .i64 p) rfl (by kernel_rfl) (by kernel_rfl) (by kernel_rfl) (fun _ _ _ h => h) (Or.inl ⟨by kernel_rfl, by intro w hS; have hc := (hS.cell 0).trans (show (mc (p, (sN : Int), i, (aN : Int), q))[0]? = some (.int .i64 p) from rfl); go_simp⟩) R8 ?_
    simp only [Act.put, List.getElem_toArray, List.getElem_cons_succ, List.getElem_cons_zero, List.setIfInBounds_toArray, List.set_cons_zero, List.set_cons_succ]
    refine wpAnyH_take (i := 2) (v := .pointer (some ⟨b8, 3, none⟩)) rfl (by kernel_rfl) (by kernel_rfl) (by kernel_rfl) (fun _ _ _ h => h) (Or.inl ⟨by kernel_rfl, by intro w hS; go_simp⟩) R8 ?_
    simp only [Act.put, List.getElem_toArray, List.getElem_cons_succ, List.getElem_cons_zero, List.setIfInBounds_toArray, List.set_cons_zero, List.set_cons_succ]
    refine wpAnyH_take (i := 3) (v := .int .i64 (aN : Int)) rfl (by kernel_rfl) (by kernel_rfl) (by kernel_rfl) (fun _ _ _ h => h) (Or.inl ⟨by kernel_rfl, by intro w hS; have hc := (hS.cell 3).trans (show (mc (p, (sN : Int), i, (aN : Int), q))[3]? = some (.int .i64 (aN : Int)) from rfl); go_simp⟩) R8 ?_
    simp only [Act.put, List.getElem_toArray, List.getElem_cons_succ, List.getElem_cons_zero, List.setIfInBounds_toArray, List.set_cons_zero, List.set_cons_succ]
    refine wpAnyH_take (i := 4) (v := .pointer (some ⟨b8, 4, none⟩)) rfl (by kernel_rfl) (by kernel_rfl) (by kernel_rfl) (fun _ _ _ h => h) (Or.inl ⟨by kernel_rfl, by intro w hS; go_simp⟩) R8 ?_
    simp only [Act.put, List.getElem_toArray, List.getElem_cons_succ, List.getElem_cons_zero, List.setIfInBounds_toArray, List.set_cons_zero, List.set_cons_succ]
    refine wpAnyH_take (i := 5) (v := .int .i64 q) rfl (by kernel_rfl) (by kernel_rfl) (by kernel_rfl) (fun _ _ _ h => h) (Or.inl ⟨by kernel_rfl, by intro w hS; have hc := (hS.cell 4).trans (show (mc (p, (sN : Int), i, (aN : Int), q))[4]? = some (.int .i64 q) from rfl); go_simp⟩) R8 ?_
    simp only [Act.put, List.getElem_toArray, List.getElem_cons_succ, List.getElem_cons_zero, List.setIfInBounds_toArray, List.set_cons_zero, List.set_cons_succ]
    refine wpAnyH_take (i := 6) (v := .agg #[.int .i64 p, .int .i64 (aN : Int), .int .i64 q]) rfl (by kernel_rfl) (by kernel_rfl) (by kernel_rfl) (fun _ _ _ h => h) (yields_bpl (.tmp 80) (.tmp 82) (.tmp 84) rfl (by kernel_rfl) p (aN : Int) q (by kernel_rfl) (by kernel_rfl) (by kernel_rfl)) R8 ?_
    simp only [Act.put, List.getElem_toArray, List.getElem_cons_succ, List.getElem_cons_zero, List.setIfInBounds_toArray, List.set_cons_zero, List.set_cons_succ]
    refine wpAnyH_take (i := 7) (v := .pointer (some ⟨b8, 0, none⟩)) rfl (by kernel_rfl) (by kernel_rfl) (by kernel_rfl) (fun _ _ _ h => h) (Or.inl ⟨by kernel_rfl, by intro w hS; go_simp⟩) R8 ?_
    simp only [Act.put, List.getElem_toArray, List.getElem_cons_succ, List.getElem_cons_zero, List.setIfInBounds_toArray, List.set_cons_zero, List.set_cons_succ]
    refine wpAnyH_take (i := 8) (v := .int .i64 p) rfl (by kernel_rfl) (by kernel_rfl) (by kernel_rfl) (fun _ _ _ h => h) (Or.inl ⟨by kernel_rfl, by intro w hS; have hc := (hS.cell 0).trans (show (mc (p, (sN : Int), i, (aN : Int), q))[0]? = some (.int .i64 p) from rfl); go_simp⟩) R8 ?_
    simp only [Act.put, List.getElem_toArray, List.getElem_cons_succ, List.getElem_cons_zero, List.setIfInBounds_toArray, List.set_cons_zero, List.set_cons_succ]
    refine wpAnyH_take (i := 9) (v := .pointer (some ⟨b8, 1, none⟩)) rfl (by kernel_rfl) (by kernel_rfl) (by kernel_rfl) (fun _ _ _ h => h) (Or.inl ⟨by kernel_rfl, by intro w hS; go_simp⟩) R8 ?_
    simp only [Act.put, List.getElem_toArray, List.getElem_cons_succ, List.getElem_cons_zero, List.setIfInBounds_toArray, List.set_cons_zero, List.set_cons_succ]
    refine wpAnyH_take (i := 10) (v := .int .i64 (sN : Int)) rfl (by kernel_rfl) (by kernel_rfl) (by kernel_rfl) (fun _ _ _ h => h) (Or.inl ⟨by kernel_rfl, by intro w hS; have hc := (hS.cell 1).trans (show (mc (p, (sN : Int), i, (aN : Int), q))[1]? = some (.int .i64 (sN : Int)) from rfl); go_simp⟩) R8 ?_
    simp only [Act.put, List.getElem_toArray, List.getElem_cons_succ, List.getElem_cons_zero, List.setIfInBounds_toArray, List.set_cons_zero, List.set_cons_succ]
    refine wpAnyH_take (i := 11) (v := .pointer (some ⟨b8, 2, none⟩)) rfl (by kernel_rfl) (by kernel_rfl) (by kernel_rfl) (fun _ _ _ h => h) (Or.inl ⟨by kernel_rfl, by intro w hS; go_simp⟩) R8 ?_
    simp only [Act.put, List.getElem_toArray, List.getElem_cons_succ, List.getElem_cons_zero, List.setIfInBounds_toArray, List.set_cons_zero, List.set_cons_succ]
    refine wpAnyH_take (i := 12) (v := .int .i64 i) rfl (by kernel_rfl) (by kernel_rfl) (by kernel_rfl) (fun _ _ _ h => h) (Or.inl ⟨by kernel_rfl, by intro w hS; have hc := (hS.cell 2).trans (show (mc (p, (sN : Int), i, (aN : Int), q))[2]? = some (.int .i64 i) from rfl); go_simp⟩) R8 ?_
    simp only [Act.put, List.getElem_toArray, List.getElem_cons_succ, List.getElem_cons_zero, List.setIfInBounds_toArray, List.set_cons_zero, List.set_cons_succ]
    refine wpAnyH_take (i := 13) (v := .agg #[.int .i64 p, .int .i64 (sN : Int), .int .i64 i]) rfl (by kernel_rfl) (by kernel_rfl) (by kernel_rfl) (fun _ _ _ h => h) (yields_bpr (.tmp 87) (.tmp 89) (.tmp 91) rfl (by kernel_rfl) p (sN : Int) i (by kernel_rfl) (by kernel_rfl) (by kernel_rfl)) R8 ?_
    simp only [Act.put, List.getElem_toArray, List.getElem_cons_succ, List.getElem_cons_zero, List.setIfInBounds_toArray, List.set_cons_zero, List.set_cons_succ]
    refine wpAnyH_ready (rs := [14, 15]) (by kernel_rfl) (by simp) ?_
    refine AllReadyH.cons rfl (fun K hK => ?_) ?_
    · rw [if_pos (by kernel_rfl)]
      refine wp_allocG 76 rfl _ pl_zero ?_; intro b12 w9 l9 R9 h9; (first | replace h9 := below_undrG h9 | skip); replace G := G.alloc l9 R9 h9; clear R9 h9 l9; replace R8 : Row 32 _ b8 (mc (p, (sN : Int), i, (aN : Int), q)) := (by first | exact G.bd.row 1 rfl | exact G.bd.row 2 rfl)
      refine hK.out _ _ R8 (fun _ => ?_)
      clear hK K
      try simp only [Act.put, List.getElem_toArray, List.getElem_cons_succ, List.getElem_cons_zero, List.setIfInBounds_toArray, List.set_cons_zero, List.set_cons_succ]
      refine wpAnyH_ready (rs := [15]) (by kernel_rfl) (by simp) ?_
      refine AllReadyH.cons rfl (fun K hK => ?_) ?_
      · rw [if_pos (by kernel_rfl)]
        refine wp_allocG 78 rfl _ pr_zero ?_; intro b13 w9 l9 R9 h9; (first | replace h9 := below_undrG h9 | skip); replace G := G.alloc l9 R9 h9; clear R9 h9 l9; replace R8 : Row 32 _ b8 (mc (p, (sN : Int), i, (aN : Int), q)) := (by first | exact G.bd.row 1 rfl | exact G.bd.row 2 rfl)
        refine hK.out _ _ R8 (fun _ => ?_)
        clear hK K
        try simp only [Act.put, List.getElem_toArray, List.getElem_cons_succ, List.getElem_cons_zero, List.setIfInBounds_toArray, List.set_cons_zero, List.set_cons_succ]
        refine wpAnyH_ready (rs := [16]) (by kernel_rfl) (by simp) ?_
        refine AllReadyH.cons rfl (fun K hK => ?_) ?_
        · rw [if_pos (by kernel_rfl)]
          (first | refine wp_storeR 76 (.tmp 12) (.tmp 85) rfl b12 (by kernel_rfl) #[.int .i64 p, .int .i64 (aN : Int), .int .i64 q] (by kernel_rfl) _ (G.bd.row 0 rfl) rfl (pl3_info (p, (sN : Int), i, (aN : Int), q)) (pl3_one (p, (sN : Int), i, (aN : Int), q)) ?_ | refine wp_storeR 76 (.tmp 12) (.tmp 85) rfl b12 (by kernel_rfl) #[.int .i64 p, .int .i64 (aN : Int), .int .i64 q] (by kernel_rfl) _ (G.bd.row 1 rfl) rfl (pl3_info (p, (sN : Int), i, (aN : Int), q)) (pl3_one (p, (sN : Int), i, (aN : Int), q)) ?_); intro w9 R9 t9; (first | replace t9 := turned_undrG t9 | skip); (first | replace G := G.turn 0 rfl R9 t9 | replace G := G.turn 1 rfl R9 t9); clear R9 t9; replace R8 : Row 32 _ b8 (mc (p, (sN : Int), i, (aN : Int), q)) := G.bd.row 2 rfl
          refine hK.out _ _ R8 (fun _ => ?_)
          clear hK K
          try simp only [Act.put, List.getElem_toArray, List.getElem_cons_succ, List.getElem_cons_zero, List.setIfInBounds_toArray, List.set_cons_zero, List.set_cons_succ]
          refine wpAnyH_ready (rs := [17]) (by kernel_rfl) (by simp) ?_
          refine AllReadyH.cons rfl (fun K hK => ?_) ?_
          · rw [if_pos (by kernel_rfl)]
            (first | refine wp_storeR 78 (.tmp 13) (.tmp 92) rfl b13 (by kernel_rfl) #[.int .i64 p, .int .i64 (sN : Int), .int .i64 i] (by kernel_rfl) _ (G.bd.row 0 rfl) rfl (pr3a_info (p, (sN : Int), i, (aN : Int), q)) (pr3a_one (p, (sN : Int), i, (aN : Int), q)) ?_ | refine wp_storeR 78 (.tmp 13) (.tmp 92) rfl b13 (by kernel_rfl) #[.int .i64 p, .int .i64 (sN : Int), .int .i64 i] (by kernel_rfl) _ (G.bd.row 1 rfl) rfl (pr3a_info (p, (sN : Int), i, (aN : Int), q)) (pr3a_one (p, (sN : Int), i, (aN : Int), q)) ?_); intro w9 R9 t9; (first | replace t9 := turned_undrG t9 | skip); (first | replace G := G.turn 0 rfl R9 t9 | replace G := G.turn 1 rfl R9 t9); clear R9 t9; replace R8 : Row 32 _ b8 (mc (p, (sN : Int), i, (aN : Int), q)) := G.bd.row 2 rfl
            refine hK.out _ _ R8 (fun _ => ?_)
            clear hK K
            try simp only [Act.put, List.getElem_toArray, List.getElem_cons_succ, List.getElem_cons_zero, List.setIfInBounds_toArray, List.set_cons_zero, List.set_cons_succ]
            refine wpAnyH_done (by kernel_rfl) ?_ _
            refine NoPanic.normal ?_
            go_wp2_with fail
            go_meet
            case rel => first | exact ⟨b12, b13, rfl, rfl, rfl, G⟩ | exact ⟨b12, b13, rfl, rfl, rfl, G.swap⟩
          exact AllReadyH.nil
        exact AllReadyH.nil
      exact AllReadyH.nil
    refine AllReadyH.cons rfl (fun K hK => ?_) ?_
    · rw [if_pos (by kernel_rfl)]
      refine wp_allocG 78 rfl _ pr_zero ?_; intro b13 w9 l9 R9 h9; (first | replace h9 := below_undrG h9 | skip); replace G := G.alloc l9 R9 h9; clear R9 h9 l9; replace R8 : Row 32 _ b8 (mc (p, (sN : Int), i, (aN : Int), q)) := (by first | exact G.bd.row 1 rfl | exact G.bd.row 2 rfl)
      refine hK.out _ _ R8 (fun _ => ?_)
      clear hK K
      try simp only [Act.put, List.getElem_toArray, List.getElem_cons_succ, List.getElem_cons_zero, List.setIfInBounds_toArray, List.set_cons_zero, List.set_cons_succ]
      refine wpAnyH_ready (rs := [14]) (by kernel_rfl) (by simp) ?_
      refine AllReadyH.cons rfl (fun K hK => ?_) ?_
      · rw [if_pos (by kernel_rfl)]
        refine wp_allocG 76 rfl _ pl_zero ?_; intro b12 w9 l9 R9 h9; (first | replace h9 := below_undrG h9 | skip); replace G := G.alloc l9 R9 h9; clear R9 h9 l9; replace R8 : Row 32 _ b8 (mc (p, (sN : Int), i, (aN : Int), q)) := (by first | exact G.bd.row 1 rfl | exact G.bd.row 2 rfl)
        refine hK.out _ _ R8 (fun _ => ?_)
        clear hK K
        try simp only [Act.put, List.getElem_toArray, List.getElem_cons_succ, List.getElem_cons_zero, List.setIfInBounds_toArray, List.set_cons_zero, List.set_cons_succ]
        refine wpAnyH_ready (rs := [16]) (by kernel_rfl) (by simp) ?_
        refine AllReadyH.cons rfl (fun K hK => ?_) ?_
        · rw [if_pos (by kernel_rfl)]
          (first | refine wp_storeR 76 (.tmp 12) (.tmp 85) rfl b12 (by kernel_rfl) #[.int .i64 p, .int .i64 (aN : Int), .int .i64 q] (by kernel_rfl) _ (G.bd.row 0 rfl) rfl (pl3_info (p, (sN : Int), i, (aN : Int), q)) (pl3_one (p, (sN : Int), i, (aN : Int), q)) ?_ | refine wp_storeR 76 (.tmp 12) (.tmp 85) rfl b12 (by kernel_rfl) #[.int .i64 p, .int .i64 (aN : Int), .int .i64 q] (by kernel_rfl) _ (G.bd.row 1 rfl) rfl (pl3_info (p, (sN : Int), i, (aN : Int), q)) (pl3_one (p, (sN : Int), i, (aN : Int), q)) ?_); intro w9 R9 t9; (first | replace t9 := turned_undrG t9 | skip); (first | replace G := G.turn 0 rfl R9 t9 | replace G := G.turn 1 rfl R9 t9); clear R9 t9; replace R8 : Row 32 _ b8 (mc (p, (sN : Int), i, (aN : Int), q)) := G.bd.row 2 rfl
          refine hK.out _ _ R8 (fun _ => ?_)
          clear hK K
          try simp only [Act.put, List.getElem_toArray, List.getElem_cons_succ, List.getElem_cons_zero, List.setIfInBounds_toArray, List.set_cons_zero, List.set_cons_succ]
          refine wpAnyH_ready (rs := [17]) (by kernel_rfl) (by simp) ?_
          refine AllReadyH.cons rfl (fun K hK => ?_) ?_
          · rw [if_pos (by kernel_rfl)]
            (first | refine wp_storeR 78 (.tmp 13) (.tmp 92) rfl b13 (by kernel_rfl) #[.int .i64 p, .int .i64 (sN : Int), .int .i64 i] (by kernel_rfl) _ (G.bd.row 0 rfl) rfl (pr3a_info (p, (sN : Int), i, (aN : Int), q)) (pr3a_one (p, (sN : Int), i, (aN : Int), q)) ?_ | refine wp_storeR 78 (.tmp 13) (.tmp 92) rfl b13 (by kernel_rfl) #[.int .i64 p, .int .i64 (sN : Int), .int .i64 i] (by kernel_rfl) _ (G.bd.row 1 rfl) rfl (pr3a_info (p, (sN : Int), i, (aN : Int), q)) (pr3a_one (p, (sN : Int), i, (aN : Int), q)) ?_); intro w9 R9 t9; (first | replace t9 := turned_undrG t9 | skip); (first | replace G := G.turn 0 rfl R9 t9 | replace G := G.turn 1 rfl R9 t9); clear R9 t9; replace R8 : Row 32 _ b8 (mc (p, (sN : Int), i, (aN : Int), q)) := G.bd.row 2 rfl
            refine hK.out _ _ R8 (fun _ => ?_)
            clear hK K
            try simp only [Act.put, List.getElem_toArray, List.getElem_cons_succ, List.getElem_cons_zero, List.setIfInBounds_toArray, List.set_cons_zero, List.set_cons_succ]
            refine wpAnyH_done (by kernel_rfl) ?_ _
            refine NoPanic.normal ?_
            go_wp2_with fail
            go_meet
            case rel => first | exact ⟨b12, b13, rfl, rfl, rfl, G⟩ | exact ⟨b12, b13, rfl, rfl, rfl, G.swap⟩
          exact AllReadyH.nil
        exact AllReadyH.nil
      exact AllReadyH.nil
    exact AllReadyH.nil
  case rest =>
    clear G R8
    obtain ⟨b12, b13, rfl, rfl, rfl, G⟩ := hcut
    have H18 : Hid (6 * aN + kN < 18) := hidB (by have := H50.out; have := HK6.out; omega)
    obtain ⟨dH, hdH⟩ : ∃ d, IntKind.i64.wrap (h sN - 1) = d := ⟨_, rfl⟩
    obtain ⟨dO, hdO⟩ : ∃ d, IntKind.i64.wrap (f (6 * aN + kN) - 1) = d := ⟨_, rfl⟩
    have EH : Hid (IntKind.i64.wrap (h sN - 1) = dH) := hdH
    have EO : Hid (IntKind.i64.wrap (f (6 * aN + kN) - 1) = dO) := hdO
    have hc3 := dec_ne (x := h sN) (y := (aN : Int)) (hwH sN HS8.out) ⟨by omega, by have := H50.out; omega⟩
    have hc4 := dec_ne (x := f (6 * aN + kN)) (y := (sN : Int)) (good_wf hgp _ H18.out) ⟨by omega, by have := HS8.out; omega⟩
    rw [hdH] at hc3
    rw [hdO] at hc4
    clear hdH hdO
    clear hc3 hc4
    go_upto_region 13 with (fail)
    refine wp_region_noPanic ?_
    refine wp_region_held_drew (S := fun W => Gm w W [(b12, 76, #[.int .i64 p, .int .i64 (aN : Int), .int .i64 q]), (b13, 78, #[.int .i64 p, .int .i64 (sN : Int), .int .i64 i]), (b8, 32, mc (p, (sN : Int), i, (aN : Int), q)), (b1, 30, tc f g h (.slice a0 n cap))] [] [entI 3 k1v wf6 b6 n6 (nOf (ms.take j)), entI 79 k2 ok2 b5 n5 (nPl (ms.take j)), entB 78 k3 ok3 b4 n4 (sIn (ms.take j)), entB 76 k3 ok3 b3 n3 (sOut (ms.take j))]) (by kernel_rfl) (by first | exact G | exact G.drew) (fun _ => ?_)
    refine wpAnyH_take (i := 0) (v := .map (some b3)) rfl (by kernel_rfl) (by kernel_rfl) (by kernel_rfl) (fun _ _ _ h => h) (Or.inl ⟨by kernel_rfl, by intro w hS; go_simp⟩) (by first | exact G | exact G.drew) ?_
    simp only [Act.put, List.getElem_toArray, List.getElem_cons_succ, List.getElem_cons_zero, List.setIfInBounds_toArray, List.set_cons_zero, List.set_cons_succ]
    refine wpAnyH_take (i := 1) (v := .agg #[.int .i64 p, .int .i64 (aN : Int), .int .i64 q]) rfl (by kernel_rfl) (by kernel_rfl) (by kernel_rfl) (fun _ _ _ h => h) (yields_loadR 76 (.tmp 12) rfl (by kernel_rfl) b12 (by kernel_rfl) #[.int .i64 p, .int .i64 (aN : Int), .int .i64 q] (fun _ h => h.bd.row 0 rfl) _ Try.underlying76 rfl (pl3_info (p, (sN : Int), i, (aN : Int), q))) (by first | exact G | exact G.drew) ?_
    simp only [Act.put, List.getElem_toArray, List.getElem_cons_succ, List.getElem_cons_zero, List.setIfInBounds_toArray, List.set_cons_zero, List.set_cons_succ]
    refine wpAnyH_take (i := 2) (v := .bool true) rfl (by kernel_rfl) (by kernel_rfl) (by kernel_rfl) (fun _ _ _ h => h) (yields_lk 70 (.tmp 93) (.tmp 94) rfl (by kernel_rfl) (.map (some b3)) (k3 (p, (aN : Int), q)) _ (by kernel_rfl) (by kernel_rfl) (fun w h => by have := MeB.look (h.ent 3 rfl) kyPlace Try.underlying70 (p, (aN : Int), q) HPL.out; rw [E3.out] at this; exact this)) (by first | exact G | exact G.drew) ?_
    simp only [Act.put, List.getElem_toArray, List.getElem_cons_succ, List.getElem_cons_zero, List.setIfInBounds_toArray, List.set_cons_zero, List.set_cons_succ]
    refine wpAnyH_take (i := 3) (v := .bool true) rfl (by kernel_rfl) (by kernel_rfl) (by kernel_rfl) (fun _ _ _ h => h) (Or.inl ⟨by kernel_rfl, by intro w hS; go_simp⟩) (by first | exact G | exact G.drew) ?_
    simp only [Act.put, List.getElem_toArray, List.getElem_cons_succ, List.getElem_cons_zero, List.setIfInBounds_toArray, List.set_cons_zero, List.set_cons_succ]
    refine wpAnyH_take (i := 4) (v := undef) rfl (by kernel_rfl) (by kernel_rfl) (by kernel_rfl) (fun _ _ _ h => h) (Or.inr ⟨by kernel_rfl, rfl⟩) (by first | exact G | exact G.drew) ?_
    simp only [Act.put, List.getElem_toArray, List.getElem_cons_succ, List.getElem_cons_zero, List.setIfInBounds_toArray, List.set_cons_zero, List.set_cons_succ]
    refine wpAnyH_take (i := 5) (v := undef) rfl (by kernel_rfl) (by kernel_rfl) (by kernel_rfl) (fun _ _ _ h => h) (Or.inr ⟨by kernel_rfl, rfl⟩) (by first | exact G | exact G.drew) ?_
    simp only [Act.put, List.getElem_toArray, List.getElem_cons_succ, List.getElem_cons_zero, List.setIfInBounds_toArray, List.set_cons_zero, List.set_cons_succ]
    refine wpAnyH_take (i := 6) (v := undef) rfl (by kernel_rfl) (by kernel_rfl) (by kernel_rfl) (fun _ _ _ h => h) (Or.inr ⟨by kernel_rfl, rfl⟩) (by first | exact G | exact G.drew) ?_
    simp only [Act.put, List.getElem_toArray, List.getElem_cons_succ, List.getElem_cons_zero, List.setIfInBounds_toArray, List.set_cons_zero, List.set_cons_succ]
    refine wpAnyH_take (i := 7) (v := .bool true) rfl (by kernel_rfl) (by kernel_rfl) (by kernel_rfl) (fun _ _ _ h => h) (yields_pickt (.tmp 96) (.const (.bool true)) (.tmp 99) _ rfl (by kernel_rfl) (by kernel_rfl) (by kernel_rfl)) (by first | exact G | exact G.drew) ?_
    simp only [Act.put, List.getElem_toArray, List.getElem_cons_succ, List.getElem_cons_zero, List.setIfInBounds_toArray, List.set_cons_zero, List.set_cons_succ]
    refine wpAnyH_take (i := 8) (v := .bool true) rfl (by kernel_rfl) (by kernel_rfl) (by kernel_rfl) (fun _ _ _ h => h) (Or.inl ⟨by kernel_rfl, by intro w hS; go_simp⟩) (by first | exact G | exact G.drew) ?_
    simp only [Act.put, List.getElem_toArray, List.getElem_cons_succ, List.getElem_cons_zero, List.setIfInBounds_toArray, List.set_cons_zero, List.set_cons_succ]
    refine wpAnyH_take (i := 9) (v := undef) rfl (by kernel_rfl) (by kernel_rfl) (by kernel_rfl) (fun _ _ _ h => h) (Or.inr ⟨by kernel_rfl, rfl⟩) (by first | exact G | exact G.drew) ?_
    simp only [Act.put, List.getElem_toArray, List.getElem_cons_succ, List.getElem_cons_zero, List.setIfInBounds_toArray, List.set_cons_zero, List.set_cons_succ]
    refine wpAnyH_take (i := 10) (v := undef) rfl (by kernel_rfl) (by kernel_rfl) (by kernel_rfl) (fun _ _ _ h => h) (Or.inr ⟨by kernel_rfl, rfl⟩) (by first | exact G | exact G.drew) ?_
    simp only [Act.put, List.getElem_toArray, List.getElem_cons_succ, List.getElem_cons_zero, List.setIfInBounds_toArray, List.set_cons_zero, List.set_cons_succ]
    refine wpAnyH_take (i := 11) (v := undef) rfl (by kernel_rfl) (by kernel_rfl) (by kernel_rfl) (fun _ _ _ h => h) (Or.inr ⟨by kernel_rfl, rfl⟩) (by first | exact G | exact G.drew) ?_
    simp only [Act.put, List.getElem_toArray, List.getElem_cons_succ, List.getElem_cons_zero, List.setIfInBounds_toArray, List.set_cons_zero, List.set_cons_succ]
    refine wpAnyH_take (i := 12) (v := undef) rfl (by kernel_rfl) (by kernel_rfl) (by kernel_rfl) (fun _ _ _ h => h) (Or.inr ⟨by kernel_rfl, rfl⟩) (by first | exact G | exact G.drew) ?_
    simp only [Act.put, List.getElem_toArray, List.getElem_cons_succ, List.getElem_cons_zero, List.setIfInBounds_toArray, List.set_cons_zero, List.set_cons_succ]
    refine wpAnyH_take (i := 13) (v := undef) rfl (by kernel_rfl) (by kernel_rfl) (by kernel_rfl) (fun _ _ _ h => h) (Or.inr ⟨by kernel_rfl, rfl⟩) (by first | exact G | exact G.drew) ?_
    simp only [Act.put, List.getElem_toArray, List.getElem_cons_succ, List.getElem_cons_zero, List.setIfInBounds_toArray, List.set_cons_zero, List.set_cons_succ]
    refine wpAnyH_take (i := 14) (v := undef) rfl (by kernel_rfl) (by kernel_rfl) (by kernel_rfl) (fun _ _ _ h => h) (Or.inr ⟨by kernel_rfl, rfl⟩) (by first | exact G | exact G.drew) ?_
    simp only [Act.put, List.getElem_toArray, List.getElem_cons_succ, List.getElem_cons_zero, List.setIfInBounds_toArray, List.set_cons_zero, List.set_cons_succ]
    refine wpAnyH_take (i := 15) (v := undef) rfl (by kernel_rfl) (by kernel_rfl) (by kernel_rfl) (fun _ _ _ h => h) (Or.inr ⟨by kernel_rfl, rfl⟩) (by first | exact G | exact G.drew) ?_
    simp only [Act.put, List.getElem_toArray, List.getElem_cons_succ, List.getElem_cons_zero, List.setIfInBounds_toArray, List.set_cons_zero, List.set_cons_succ]
    refine wpAnyH_take (i := 16) (v := undef) rfl (by kernel_rfl) (by kernel_rfl) (by kernel_rfl) (fun _ _ _ h => h) (Or.inr ⟨by kernel_rfl, rfl⟩) (by first | exact G | exact G.drew) ?_
    simp only [Act.put, List.getElem_toArray, List.getElem_cons_succ, List.getElem_cons_zero, List.setIfInBounds_toArray, List.set_cons_zero, List.set_cons_succ]
    refine wpAnyH_take (i := 17) (v := undef) rfl (by kernel_rfl) (by kernel_rfl) (by kernel_rfl) (fun _ _ _ h => h) (Or.inr ⟨by kernel_rfl, rfl⟩) (by first | exact G | exact G.drew) ?_
    simp only [Act.put, List.getElem_toArray, List.getElem_cons_succ, List.getElem_cons_zero, List.setIfInBounds_toArray, List.set_cons_zero, List.set_cons_succ]
    refine wpAnyH_take (i := 18) (v := .bool true) rfl (by kernel_rfl) (by kernel_rfl) (by kernel_rfl) (fun _ _ _ h => h) (yields_pickt (.tmp 101) (.const (.bool true)) (.tmp 110) _ rfl (by kernel_rfl) (by kernel_rfl) (by kernel_rfl)) (by first | exact G | exact G.drew) ?_
    simp only [Act.put, List.getElem_toArray, List.getElem_cons_succ, List.getElem_cons_zero, List.setIfInBounds_toArray, List.set_cons_zero, List.set_cons_succ]
    refine wpAnyH_take (i := 19) (v := .bool true) rfl (by kernel_rfl) (by kernel_rfl) (by kernel_rfl) (fun _ _ _ h => h) (Or.inl ⟨by kernel_rfl, by intro w hS; go_simp⟩) (by first | exact G | exact G.drew) ?_
    simp only [Act.put, List.getElem_toArray, List.getElem_cons_succ, List.getElem_cons_zero, List.setIfInBounds_toArray, List.set_cons_zero, List.set_cons_succ]
    refine wpAnyH_take (i := 20) (v := undef) rfl (by kernel_rfl) (by kernel_rfl) (by kernel_rfl) (fun _ _ _ h => h) (Or.inr ⟨by kernel_rfl, rfl⟩) (by first | exact G | exact G.drew) ?_
    simp only [Act.put, List.getElem_toArray, List.getElem_cons_succ, List.getElem_cons_zero, List.setIfInBounds_toArray, List.set_cons_zero, List.set_cons_succ]
    refine wpAnyH_take (i := 21) (v := undef) rfl (by kernel_rfl) (by kernel_rfl) (by kernel_rfl) (fun _ _ _ h => h) (Or.inr ⟨by kernel_rfl, rfl⟩) (by first | exact G | exact G.drew) ?_
    simp only [Act.put, List.getElem_toArray, List.getElem_cons_succ, List.getElem_cons_zero, List.setIfInBounds_toArray, List.set_cons_zero, List.set_cons_succ]
    refine wpAnyH_take (i := 22) (v := undef) rfl (by kernel_rfl) (by kernel_rfl) (by kernel_rfl) (fun _ _ _ h => h) (Or.inr ⟨by kernel_rfl, rfl⟩) (by first | exact G | exact G.drew) ?_
    simp only [Act.put, List.getElem_toArray, List.getElem_cons_succ, List.getElem_cons_zero, List.setIfInBounds_toArray, List.set_cons_zero, List.set_cons_succ]
    refine wpAnyH_take (i := 23) (v := undef) rfl (by kernel_rfl) (by kernel_rfl) (by kernel_rfl) (fun _ _ _ h => h) (Or.inr ⟨by kernel_rfl, rfl⟩) (by first | exact G | exact G.drew) ?_
    simp only [Act.put, List.getElem_toArray, List.getElem_cons_succ, List.getElem_cons_zero, List.setIfInBounds_toArray, List.set_cons_zero, List.set_cons_succ]
    refine wpAnyH_take (i := 24) (v := undef) rfl (by kernel_rfl) (by kernel_rfl) (by kernel_rfl) (fun _ _ _ h => h) (Or.inr ⟨by kernel_rfl, rfl⟩) (by first | exact G | exact G.drew) ?_
    simp only [Act.put, List.getElem_toArray, List.getElem_cons_succ, List.getElem_cons_zero, List.setIfInBounds_toArray, List.set_cons_zero, List.set_cons_succ]
    refine wpAnyH_take (i := 25) (v := undef) rfl (by kernel_rfl) (by kernel_rfl) (by kernel_rfl) (fun _ _ _ h => h) (Or.inr ⟨by kernel_rfl, rfl⟩) (by first | exact G | exact G.drew) ?_
    simp only [Act.put, List.getElem_toArray, List.getElem_cons_succ, List.getElem_cons_zero, List.setIfInBounds_toArray, List.set_cons_zero, List.set_cons_succ]
    refine wpAnyH_take (i := 26) (v := undef) rfl (by kernel_rfl) (by kernel_rfl) (by kernel_rfl) (fun _ _ _ h => h) (Or.inr ⟨by kernel_rfl, rfl⟩) (by first | exact G | exact G.drew) ?_
    simp only [Act.put, List.getElem_toArray, List.getElem_cons_succ, List.getElem_cons_zero, List.setIfInBounds_toArray, List.set_cons_zero, List.set_cons_succ]
    refine wpAnyH_take (i := 27) (v := undef) rfl (by kernel_rfl) (by kernel_rfl) (by kernel_rfl) (fun _ _ _ h => h) (Or.inr ⟨by kernel_rfl, rfl⟩) (by first | exact G | exact G.drew) ?_
    simp only [Act.put, List.getElem_toArray, List.getElem_cons_succ, List.getElem_cons_zero, List.setIfInBounds_toArray, List.set_cons_zero, List.set_cons_succ]
    refine wpAnyH_take (i := 28) (v := undef) rfl (by kernel_rfl) (by kernel_rfl) (by kernel_rfl) (fun _ _ _ h => h) (Or.inr ⟨by kernel_rfl, rfl⟩) (by first | exact G | exact G.drew) ?_
    simp only [Act.put, List.getElem_toArray, List.getElem_cons_succ, List.getElem_cons_zero, List.setIfInBounds_toArray, List.set_cons_zero, List.set_cons_succ]
    refine wpAnyH_take (i := 29) (v := undef) rfl (by kernel_rfl) (by kernel_rfl) (by kernel_rfl) (fun _ _ _ h => h) (Or.inr ⟨by kernel_rfl, rfl⟩) (by first | exact G | exact G.drew) ?_
    simp only [Act.put, List.getElem_toArray, List.getElem_cons_succ, List.getElem_cons_zero, List.setIfInBounds_toArray, List.set_cons_zero, List.set_cons_succ]
    refine wpAnyH_take (i := 30) (v := undef) rfl (by kernel_rfl) (by kernel_rfl) (by kernel_rfl) (fun _ _ _ h => h) (Or.inr ⟨by kernel_rfl, rfl⟩) (by first | exact G | exact G.drew) ?_
    simp only [Act.put, List.getElem_toArray, List.getElem_cons_succ, List.getElem_cons_zero, List.setIfInBounds_toArray, List.set_cons_zero, List.set_cons_succ]
    refine wpAnyH_take (i := 31) (v := undef) rfl (by kernel_rfl) (by kernel_rfl) (by kernel_rfl) (fun _ _ _ h => h) (Or.inr ⟨by kernel_rfl, rfl⟩) (by first | exact G | exact G.drew) ?_
    simp only [Act.put, List.getElem_toArray, List.getElem_cons_succ, List.getElem_cons_zero, List.setIfInBounds_toArray, List.set_cons_zero, List.set_cons_succ]
    refine wpAnyH_take (i := 32) (v := .bool true) rfl (by kernel_rfl) (by kernel_rfl) (by kernel_rfl) (fun _ _ _ h => h) (yields_pickt (.tmp 112) (.const (.bool true)) (.tmp 124) _ rfl (by kernel_rfl) (by kernel_rfl) (by kernel_rfl)) (by first | exact G | exact G.drew) ?_
    simp only [Act.put, List.getElem_toArray, List.getElem_cons_succ, List.getElem_cons_zero, List.setIfInBounds_toArray, List.set_cons_zero, List.set_cons_succ]
    refine wpAnyH_done (by kernel_rfl) ?_ _
    refine NoPanic.normal ?_
    go_wp2
    go_ret
    first | exact ⟨false, HNG.out, rfl, G.bd.base⟩ | exact ⟨false, HNG.out, rfl, G.drew.bd.base⟩
end Go.Proofs.Ytmdijjbkjcnbpaa

namespace Go.Proofs.Ytmdijjbkjcnbpaa
open Go.ChangeShapes Go.WideShapes Go.ChangeAt Go.RowKit Go.Maps
set_option linter.unusedSimpArgs false
set_option linter.unusedVariables false

attribute [local irreducible] tc pc
set_option maxRecDepth 1000000 in
set_option maxHeartbeats 8000000 in
theorem gt_v4 {w wr : World} {f : Nat → Int} {g : Nat → Bool} {h : Nat → Int} {ms : List Mp} {b1 b3 b4 b5 b6 : Nat} {a0 : Option Addr} {n cap : Nat} (u2 u7 u8 u9 u10 u11 u12 u13 u14 u15 u16 u17 u18 u19 u20 u21 u22 u23 u24 u25 u26 u27 u31 u32 u33 u34 u35 u36 u37 u38 u39 u40 u41 u42 u43 u44 u45 u46 u47 u48 u49 u50 u51 u52 u53 u54 u55 u56 u57 u58 u59 u60 u61 u62 u63 u64 u65 u66 u67 u68 u69 u70 u71 u72 u73 u74 u75 u76 u77 u78 u79 u80 u81 u82 u83 u84 u85 u86 u87 u88 u89 u90 u91 u92 u93 u94 u95 u96 u97 u98 u99 u100 u101 u102 u103 u104 u105 u106 u107 u108 u109 u110 u111 u112 u113 u114 u115 u116 u117 u118 u119 u120 u121 u122 u123 u124 u125 u126 u127 u128 u129 u130 u131 u132 u133 u134 u135 u136 u137 u138 u139 u140 u141 u142 u143 u144 u145 u146 u147 u148 u149 u150 u151 u152 u153 u154 u155 u156 u157 u158 u159 u160 u161 u162 u163 u164 u165 u166 u167 u168 u169 u170 u171 u172 u173 u174 u175 u176 u177 u178 u179 u180 u181 u182 u183 u184 u185 u186 u187 u188 u189 u190 u191 u192 u193 u194 u195 u196 u197 u198 u199 u200 u201 u202 : Value) (j : Nat) {n6 n5 n4 n3 : Nat}
    (HNs : Hid (n6 ≤ 2 * j ∧ n5 ≤ 2 * j ∧ n4 ≤ 2 * j ∧ n3 ≤ 2 * j)) (G : Gm w wr [(b1, 30, tc f g h (.slice a0 n cap))] [] [entI 3 k1v wf6 b6 n6 (nOf (ms.take j)), entI 79 k2 ok2 b5 n5 (nPl (ms.take j)), entB 78 k3 ok3 b4 n4 (sIn (ms.take j)), entB 76 k3 ok3 b3 n3 (sOut (ms.take j))])
    (HK : Hid (MsOk f h (ms.take j))) (HN : Hid (n = ms.length)) (hM : MapsAt w (.slice a0 n cap) ms) (hwH : wfH h) (hgp : goodP f = true) (hlj : j < ms.length) (m : Mp) (hm : ms[j] = m) (hok : OkM m) (e3 : sOut (ms.take j) (m.1, m.2.2.2.1, m.2.2.2.2) = false) (e4 : sIn (ms.take j) (m.1, m.2.1, m.2.2.1) = true) (Q0 : Exit → Act → World → Prop) (hret : ∀ a w', bodyPost Try.prog Try.f15 (fun e w' => ∃ r : Bool, (r = true ↔ GoodT f h ms) ∧ e = .returned (.bool r) ∧ Below w.heap.size w w') .ret a w' → Q0 .ret a w') :
    Code.wp Try.prog bodyG (Exit.then (fun a' W => WG w f g h ms b1 b3 b4 b5 b6 a0 n cap a' W ∧ WGmu n a' W < WGmu n ⟨#[(.agg (tc f g h (.slice a0 n cap))), .pointer (some ⟨b1, 0, none⟩), u2, .map (some b3), .map (some b4), .map (some b5), .map (some b6), u7, u8, u9, u10, u11, u12, u13, u14, u15, u16, u17, u18, u19, u20, u21, u22, u23, u24, u25, u26, u27, (.slice a0 n cap), .int .i64 (n : Int), .int .i64 (j : Int), u31, u32, u33, u34, u35, u36, u37, u38, u39, u40, u41, u42, u43, u44, u45, u46, u47, u48, u49, u50, u51, u52, u53, u54, u55, u56, u57, u58, u59, u60, u61, u62, u63, u64, u65, u66, u67, u68, u69, u70, u71, u72, u73, u74, u75, u76, u77, u78, u79, u80, u81, u82, u83, u84, u85, u86, u87, u88, u89, u90, u91, u92, u93, u94, u95, u96, u97, u98, u99, u100, u101, u102, u103, u104, u105, u106, u107, u108, u109, u110, u111, u112, u113, u114, u115, u116, u117, u118, u119, u120, u121, u122, u123, u124, u125, u126, u127, u128, u129, u130, u131, u132, u133, u134, u135, u136, u137, u138, u139, u140, u141, u142, u143, u144, u145, u146, u147, u148, u149, u150, u151, u152, u153, u154, u155, u156, u157, u158, u159, u160, u161, u162, u163, u164, u165, u166, u167, u168, u169, u170, u171, u172, u173, u174, u175, u176, u177, u178, u179, u180, u181, u182, u183, u184, u185, u186, u187, u188, u189, u190, u191, u192, u193, u194, u195, u196, u197, u198, u199, u200, u201, u202], []⟩ wr) Q0) ⟨#[(.agg (tc f g h (.slice a0 n cap))), .pointer (some ⟨b1, 0, none⟩), u2, .map (some b3), .map (some b4), .map (some b5), .map (some b6), u7, u8, u9, u10, u11, u12, u13, u14, u15, u16, u17, u18, u19, u20, u21, u22, u23, u24, u25, u26, u27, (.slice a0 n cap), .int .i64 (n : Int), .int .i64 (j : Int), u31, u32, u33, u34, u35, u36, u37, u38, u39, u40, u41, u42, u43, u44, u45, u46, u47, u48, u49, u50, u51, u52, u53, u54, u55, u56, u57, u58, u59, u60, u61, u62, u63, u64, u65, u66, u67, u68, u69, u70, u71, u72, u73, u74, u75, u76, u77, u78, u79, u80, u81, u82, u83, u84, u85, u86, u87, u88, u89, u90, u91, u92, u93, u94, u95, u96, u97, u98, u99, u100, u101, u102, u103, u104, u105, u106, u107, u108, u109, u110, u111, u112, u113, u114, u115, u116, u117, u118, u119, u120, u121, u122, u123, u124, u125, u126, u127, u128, u129, u130, u131, u132, u133, u134, u135, u136, u137, u138, u139, u140, u141, u142, u143, u144, u145, u146, u147, u148, u149, u150, u151, u152, u153, u154, u155, u156, u157, u158, u159, u160, u161, u162, u163, u164, u165, u166, u167, u168, u169, u170, u171, u172, u173, u174, u175, u176, u177, u178, u179, u180, u181, u182, u183, u184, u185, u186, u187, u188, u189, u190, u191, u192, u193, u194, u195, u196, u197, u198, u199, u200, u201, u202], []⟩ wr := by
  conv => arg 2; whnf
  have hlt := hM.lt
  have hjn : (j : Int) < (n : Int) := by have := HN.out; omega
  have hjw := wrap_next hlj hM.len
  have hMW := hM.keep G.bd.base hlt
  have hrg := hMW.at j hlj hm
  have HNG : Hid (false = true ↔ GoodT f h ms) := hidB (notGood hlj (fun hh => by rw [hm, meets_two, e4] at hh; simp at hh))
  have E3 : Hid (sOut (ms.take j) (m.1, m.2.2.2.1, m.2.2.2.2) = false) := e3
  have E4 : Hid (sIn (ms.take j) (m.1, m.2.1, m.2.2.1) = true) := e4
  clear e3 e4
  obtain ⟨hq, hip, hs, hi, ha⟩ := hok
  have HOK : Hid (OkM m) := ⟨hq, hip, hs, hi, ha⟩
  obtain ⟨p, s, i, a, q⟩ := m
  simp only at hq hip hs hi ha
  obtain ⟨sN, rfl⟩ : ∃ sN : Nat, s = (sN : Int) := ⟨s.toNat, by omega⟩
  obtain ⟨aN, rfl⟩ : ∃ aN : Nat, a = (aN : Int) := ⟨a.toNat, by omega⟩
  obtain ⟨kN, hkN⟩ : ∃ kN : Nat, blkQ q = (kN : Int) := ⟨(blkQ q).toNat, by unfold blkQ; omega⟩
  have HKN : Hid (blkQ q = (kN : Int)) := hkN
  have HS8 : Hid (sN < 8) := hidB (by omega)
  have H50 : Hid (aN < 3) := hidB (by omega)
  have HK6 : Hid (kN < 6) := hidB (by unfold blkQ at hkN; omega)
  have HPL : Hid (ok3 (p, (aN : Int), q)) := hidB ⟨isP_wf hip, wf6_of (by show -9223372036854775808 ≤ (aN : Int) ∧ (aN : Int) ≤ _; omega), wf6_of (by show -9223372036854775808 ≤ q ∧ q ≤ _; omega)⟩
  have HPR : Hid (ok3 (p, (sN : Int), i)) := hidB ⟨isP_wf hip, wf6_of (by show -9223372036854775808 ≤ (sN : Int) ∧ (sN : Int) ≤ _; omega), wf6_of (by show -9223372036854775808 ≤ i ∧ i ≤ _; omega)⟩
  have HTW : Hid (ok2 ((aN : Int), (kN : Int))) := hidB ⟨wf6_of (by show -9223372036854775808 ≤ (aN : Int) ∧ (aN : Int) ≤ _; omega), wf6_of (by unfold blkQ at hkN; show -9223372036854775808 ≤ (kN : Int) ∧ (kN : Int) ≤ _; omega)⟩
  have HSW : Hid (wf6 (sN : Int)) := hidB (wf6_of (by omega))
  have CB := fun w => blockOf_in q w hq
  rw [hkN] at CB
  have CI := fun w => isProto_ref p w
  rw [hip] at CI
  have d1 : decide ((sN : Int) < 0) = false := decide_eq_false (by omega)
  have d2 : decide (7 < (sN : Int)) = false := decide_eq_false (by omega)
  have d3 : decide (i < 0) = false := decide_eq_false (by omega)
  have d4 : decide (65535 < i) = false := decide_eq_false (by omega)
  have d5 : decide ((aN : Int) < 0) = false := decide_eq_false (by omega)
  have d6 : decide (2 < (aN : Int)) = false := decide_eq_false (by omega)
  clear hq hip hs hi ha hkN
  go_upto_region 12 with (first | (refine wpList_indexM rfl (.tmp 28) (.tmp 30) rfl (.slice a0 n cap) ms hMW rfl j rfl hlj ?_) | ((with_reducible refine at_opB (.load 32 (.tmp 32)) rfl ?_); refine wpList_load_mid rfl 32 _ rfl _ _ rfl (mcl (p, (sN : Int), i, (aN : Int), q)) _ hrg Try.underlying32 rfl (mcl_info (p, (sN : Int), i, (aN : Int), q)) ?_; rw [mcl_mc]) | ((with_reducible refine at_opB (.alloc 32) rfl ?_); refine wpList_allocX 8 32 rfl rfl rfl _ map_zero ?_; intro b8 w9 l9 R9 h9; replace G := G.alloc l9 R9 h9; clear R9 h9 l9) | ((with_reducible refine at_opB (.store 32 (.tmp 8) (.tmp 33)) rfl ?_); refine wpList_storeR 32 rfl (.tmp 8) _ rfl b8 rfl (mc (p, (sN : Int), i, (aN : Int), q)) rfl _ (G.bd.row 0 rfl) rfl (mc_info _) (mc_one _) ?_; intro w9 R9 t9; replace G := G.turn 0 rfl R9 t9; clear R9 t9) | ((with_reducible refine at_opB (.load 3 (.tmp 35)) rfl ?_); refine wpList_loadF (G.bd.row 0 rfl) _ rfl (by kernel_rfl) 4 rfl (q) rfl ?_) | (go_at_call 13; refine (CB _).mono ?_; rintro e w' ⟨rfl, hw⟩; rw [hw]; clear hw w') | ((with_reducible refine at_opB (.load 3 (.tmp 44)) rfl ?_); refine wpList_loadF (G.bd.row 0 rfl) _ rfl (by kernel_rfl) 0 rfl (p) rfl ?_) | ((with_reducible refine at_opB (.load 3 (.tmp 50)) rfl ?_); refine wpList_loadF (G.bd.row 0 rfl) _ rfl (by kernel_rfl) 1 rfl ((sN : Int)) rfl ?_) | ((with_reducible refine at_opB (.load 3 (.tmp 55)) rfl ?_); refine wpList_loadF (G.bd.row 0 rfl) _ rfl (by kernel_rfl) 1 rfl ((sN : Int)) rfl ?_) | ((with_reducible refine at_opB (.load 3 (.tmp 60)) rfl ?_); refine wpList_loadF (G.bd.row 0 rfl) _ rfl (by kernel_rfl) 2 rfl (i) rfl ?_) | ((with_reducible refine at_opB (.load 3 (.tmp 65)) rfl ?_); refine wpList_loadF (G.bd.row 0 rfl) _ rfl (by kernel_rfl) 2 rfl (i) rfl ?_) | ((with_reducible refine at_opB (.load 3 (.tmp 70)) rfl ?_); refine wpList_loadF (G.bd.row 0 rfl) _ rfl (by kernel_rfl) 3 rfl ((aN : Int)) rfl ?_) | ((with_reducible refine at_opB (.load 3 (.tmp 75)) rfl ?_); refine wpList_loadF (G.bd.row 0 rfl) _ rfl (by kernel_rfl) 3 rfl ((aN : Int)) rfl ?_) | (go_at_call 36; refine (CI _).mono ?_; rintro e w' ⟨rfl, hw⟩; rw [hw]; clear hw w'))
  clear d1 d2 d3 d4 d5 d6 CB CI
  (try dsimp only [Act.put]); (try simp only [List.getElem_toArray, List.getElem_cons_succ, List.getElem_cons_zero, List.setIfInBounds_toArray, List.set_cons_zero, List.set_cons_succ])
  have R8 : Row 32 _ b8 (mc (p, (sN : Int), i, (aN : Int), q)) := G.bd.row 0 rfl
  go_cut [12, 13, 30] from 30 to 144 (fun s12 s13 s30 wx => ∃ b12 b13, s12 = .pointer (some ⟨b12, 0, none⟩) ∧ s13 = .pointer (some ⟨b13, 0, none⟩) ∧ s30 = .int .i64 (j : Int) ∧ Gm w wx [(b12, 76, #[.int .i64 p, .int .i64 (aN : Int), .int .i64 q]), (b13, 78, #[.int .i64 p, .int .i64 (sN : Int), .int .i64 i]), (b8, 32, mc (p, (sN : Int), i, (aN : Int), q)), (b1, 30, tc f g h (.slice a0 n cap))] [] [entI 3 k1v wf6 b6 n6 (nOf (ms.take j)), entI 79 k2 ok2 b5 n5 (nPl (ms.take j)), entB 78 k3 ok3 b4 n4 (sIn (ms.take j)), entB 76 k3 ok3 b3 n3 (sOut (ms.take j))])
  case first =>
    refine wp_region_noPanic ?_
    refine wp_region_held_drew (S := fun W => Row 32 W b8 (mc (p, (sN : Int), i, (aN : Int), q))) (by kernel_rfl) R8 (fun _ => ?_)
    refine wpAnyH_take (i := 0) (v := .pointer (some ⟨b8, 0, none⟩)) rfl (by kernel_rfl) (by kernel_rfl) (by kernel_rfl) (fun _ _ _ h => h) (Or.inl ⟨by kernel_rfl, by intro w hS; go_simp⟩) R8 ?_
    simp only [Act.put, List.getElem_toArray, List.getElem_cons_succ, List.getElem_cons_zero, List.setIfInBounds_toArray, List.set_cons_zero, List.set_cons_succ]
    refine wpAnyH_take (i := 1) (v := .int .i64 p) rfl (by kernel_rfl) (by kernel_rfl) (by kernel_rfl) (fun _ _ _ h => h) (Or.inl ⟨by kernel_rfl, by intro w hS; have hc := (hS.cell 0).trans (show (mc (p, (sN : Int), i, (aN : Int), q))[0]? = some (.int .i64 p) from rfl); go_simp⟩) R8 ?_
    simp only [Act.put, List.getElem_toArray, List.getElem_cons_succ, List.getElem_cons_zero, List.setIfInBounds_toArray, List.set_cons_zero, List.set_cons_succ]
    refine wpAnyH_take (i := 2) (v := .pointer (some ⟨b8, 3, none⟩)) rfl (by kernel_rfl) (by kernel_rfl) (by kernel_rfl) (fun _ _ _ h => h) (Or.inl ⟨by kernel_rfl, by intro w hS; go_simp⟩) R8 ?_
    simp only [Act.put, List.getElem_toArray, List.getElem_cons_succ, List.getElem_cons_zero, List.setIfInBounds_toArray, List.set_cons_zero, List.set_cons_succ]
    refine wpAnyH_take (i := 3) (v := .int .i64 (aN : Int)) rfl (by kernel_rfl) (by kernel_rfl) (by kernel_rfl) (fun _ _ _ h => h) (Or.inl ⟨by kernel_rfl, by intro w hS; have hc := (hS.cell 3).trans (show (mc (p, (sN : Int), i, (aN : Int), q))[3]? = some (.int .i64 (aN : Int)) from rfl); go_simp⟩) R8 ?_
    simp only [Act.put, List.getElem_toArray, List.getElem_cons_succ, List.getElem_cons_zero, List.setIfInBounds_toArray, List.set_cons_zero, List.set_cons_succ]
    refine wpAnyH_take (i := 4) (v := .pointer (some ⟨b8, 4, none⟩)) rfl (by kernel_rfl) (by kernel_rfl) (by kernel_rfl) (fun _ _ _ h => h) (Or.inl ⟨by kernel_rfl, by intro w hS; go_simp⟩) R8 ?_
    simp only [Act.put, List.getElem_toArray, List.getElem_cons_succ, List.getElem_cons_zero, List.setIfInBounds_toArray, List.set_cons_zero, List.set_cons_succ]
    refine wpAnyH_take (i := 5) (v := .int .i64 q) rfl (by kernel_rfl) (by kernel_rfl) (by kernel_rfl) (fun _ _ _ h => h) (Or.inl ⟨by kernel_rfl, by intro w hS; have hc := (hS.cell 4).trans (show (mc (p, (sN : Int), i, (aN : Int), q))[4]? = some (.int .i64 q) from rfl); go_simp⟩) R8 ?_
    simp only [Act.put, List.getElem_toArray, List.getElem_cons_succ, List.getElem_cons_zero, List.setIfInBounds_toArray, List.set_cons_zero, List.set_cons_succ]
    refine wpAnyH_take (i := 6) (v := .agg #[.int .i64 p, .int .i64 (aN : Int), .int .i64 q]) rfl (by kernel_rfl) (by kernel_rfl) (by kernel_rfl) (fun _ _ _ h => h) (yields_bpl (.tmp 80) (.tmp 82) (.tmp 84) rfl (by kernel_rfl) p (aN : Int) q (by kernel_rfl) (by kernel_rfl) (by kernel_rfl)) R8 ?_
    simp only [Act.put, List.getElem_toArray, List.getElem_cons_succ, List.getElem_cons_zero, List.setIfInBounds_toArray, List.set_cons_zero, List.set_cons_succ]
    refine wpAnyH_take (i := 7) (v := .pointer (some ⟨b8, 0, none⟩)) rfl (by kernel_rfl) (by kernel_rfl) (by kernel_rfl) (fun _ _ _ h => h) (Or.inl ⟨by kernel_rfl, by intro w hS; go_simp⟩) R8 ?_
    simp only [Act.put, List.getElem_toArray, List.getElem_cons_succ, List.getElem_cons_zero, List.setIfInBounds_toArray, List.set_cons_zero, List.set_cons_succ]
    refine wpAnyH_take (i := 8) (v := .int .i64 p) rfl (by kernel_rfl) (by kernel_rfl) (by kernel_rfl) (fun _ _ _ h => h) (Or.inl ⟨by kernel_rfl, by intro w hS; have hc := (hS.cell 0).trans (show (mc (p, (sN : Int), i, (aN : Int), q))[0]? = some (.int .i64 p) from rfl); go_simp⟩) R8 ?_
    simp only [Act.put, List.getElem_toArray, List.getElem_cons_succ, List.getElem_cons_zero, List.setIfInBounds_toArray, List.set_cons_zero, List.set_cons_succ]
    refine wpAnyH_take (i := 9) (v := .pointer (some ⟨b8, 1, none⟩)) rfl (by kernel_rfl) (by kernel_rfl) (by kernel_rfl) (fun _ _ _ h => h) (Or.inl ⟨by kernel_rfl, by intro w hS; go_simp⟩) R8 ?_
    simp only [Act.put, List.getElem_toArray, List.getElem_cons_succ, List.getElem_cons_zero, List.setIfInBounds_toArray, List.set_cons_zero, List.set_cons_succ]
    refine wpAnyH_take (i := 10) (v := .int .i64 (sN : Int)) rfl (by kernel_rfl) (by kernel_rfl) (by kernel_rfl) (fun _ _ _ h => h) (Or.inl ⟨by kernel_rfl, by intro w hS; have hc := (hS.cell 1).trans (show (mc (p, (sN : Int), i, (aN : Int), q))[1]? = some (.int .i64 (sN : Int)) from rfl); go_simp⟩) R8 ?_
    simp only [Act.put, List.getElem_toArray, List.getElem_cons_succ, List.getElem_cons_zero, List.setIfInBounds_toArray, List.set_cons_zero, List.set_cons_succ]
    refine wpAnyH_take (i := 11) (v := .pointer (some ⟨b8, 2, none⟩)) rfl (by kernel_rfl) (by kernel_rfl) (by kernel_rfl) (fun _ _ _ h => h) (Or.inl ⟨by kernel_rfl, by intro w hS; go_simp⟩) R8 ?_
    simp only [Act.put, List.getElem_toArray, List.getElem_cons_succ, List.getElem_cons_zero, List.setIfInBounds_toArray, List.set_cons_zero, List.set_cons_succ]
    refine wpAnyH_take (i := 12) (v := .int .i64 i) rfl (by kernel_rfl) (by kernel_rfl) (by kernel_rfl) (fun _ _ _ h => h) (Or.inl ⟨by kernel_rfl, by intro w hS; have hc := (hS.cell 2).trans (show (mc (p, (sN : Int), i, (aN : Int), q))[2]? = some (.int .i64 i) from rfl); go_simp⟩) R8 ?_
    simp only [Act.put, List.getElem_toArray, List.getElem_cons_succ, List.getElem_cons_zero, List.setIfInBounds_toArray, List.set_cons_zero, List.set_cons_succ]
    refine wpAnyH_take (i := 13) (v := .agg #[.int .i64 p, .int .i64 (sN : Int), .int .i64 i]) rfl (by kernel_rfl) (by kernel_rfl) (by kernel_rfl) (fun _ _ _ h => h) (yields_bpr (.tmp 87) (.tmp 89) (.tmp 91) rfl (by kernel_rfl) p (sN : Int) i (by kernel_rfl) (by kernel_rfl) (by kernel_rfl)) R8 ?_
    simp only [Act.put, List.getElem_toArray, List.getElem_cons_succ, List.getElem_cons_zero, List.setIfInBounds_toArray, List.set_cons_zero, List.set_cons_succ]
    refine wpAnyH_ready (rs := [14, 15]) (by kernel_rfl) (by simp) ?_
    refine AllReadyH.cons rfl (fun K hK => ?_) ?_
    · rw [if_pos (by kernel_rfl)]
      refine wp_allocG 76 rfl _ pl_zero ?_; intro b12 w9 l9 R9 h9; (first | replace h9 := below_undrG h9 | skip); replace G := G.alloc l9 R9 h9; clear R9 h9 l9; replace R8 : Row 32 _ b8 (mc (p, (sN : Int), i, (aN : Int), q)) := (by first | exact G.bd.row 1 rfl | exact G.bd.row 2 rfl)
      refine hK.out _ _ R8 (fun _ => ?_)
      clear hK K
      try simp only [Act.put, List.getElem_toArray, List.getElem_cons_succ, List.getElem_cons_zero, List.setIfInBounds_toArray, List.set_cons_zero, List.set_cons_succ]
      refine wpAnyH_ready (rs := [15]) (by kernel_rfl) (by simp) ?_
      refine AllReadyH.cons rfl (fun K hK => ?_) ?_
      · rw [if_pos (by kernel_rfl)]
        refine wp_allocG 78 rfl _ pr_zero ?_; intro b13 w9 l9 R9 h9; (first | replace h9 := below_undrG h9 | skip); replace G := G.alloc l9 R9 h9; clear R9 h9 l9; replace R8 : Row 32 _ b8 (mc (p, (sN : Int), i, (aN : Int), q)) := (by first | exact G.bd.row 1 rfl | exact G.bd.row 2 rfl)
        refine hK.out _ _ R8 (fun _ => ?_)
        clear hK K
        try simp only [Act.put, List.getElem_toArray, List.getElem_cons_succ, List.getElem_cons_zero, List.setIfInBounds_toArray, List.set_cons_zero, List.set_cons_succ]
        refine wpAnyH_ready (rs := [16]) (by kernel_rfl) (by simp) ?_
        refine AllReadyH.cons rfl (fun K hK => ?_) ?_
        · rw [if_pos (by kernel_rfl)]
          (first | refine wp_storeR 76 (.tmp 12) (.tmp 85) rfl b12 (by kernel_rfl) #[.int .i64 p, .int .i64 (aN : Int), .int .i64 q] (by kernel_rfl) _ (G.bd.row 0 rfl) rfl (pl3_info (p, (sN : Int), i, (aN : Int), q)) (pl3_one (p, (sN : Int), i, (aN : Int), q)) ?_ | refine wp_storeR 76 (.tmp 12) (.tmp 85) rfl b12 (by kernel_rfl) #[.int .i64 p, .int .i64 (aN : Int), .int .i64 q] (by kernel_rfl) _ (G.bd.row 1 rfl) rfl (pl3_info (p, (sN : Int), i, (aN : Int), q)) (pl3_one (p, (sN : Int), i, (aN : Int), q)) ?_); intro w9 R9 t9; (first | replace t9 := turned_undrG t9 | skip); (first | replace G := G.turn 0 rfl R9 t9 | replace G := G.turn 1 rfl R9 t9); clear R9 t9; replace R8 : Row 32 _ b8 (mc (p, (sN : Int), i, (aN : Int), q)) := G.bd.row 2 rfl
          refine hK.out _ _ R8 (fun _ => ?_)
          clear hK K
          try simp only [Act.put, List.getElem_toArray, List.getElem_cons_succ, List.getElem_cons_zero, List.setIfInBounds_toArray, List.set_cons_zero, List.set_cons_succ]
          refine wpAnyH_ready (rs := [17]) (by kernel_rfl) (by simp) ?_
          refine AllReadyH.cons rfl (fun K hK => ?_) ?_
          · rw [if_pos (by kernel_rfl)]
            (first | refine wp_storeR 78 (.tmp 13) (.tmp 92) rfl b13 (by kernel_rfl) #[.int .i64 p, .int .i64 (sN : Int), .int .i64 i] (by kernel_rfl) _ (G.bd.row 0 rfl) rfl (pr3a_info (p, (sN : Int), i, (aN : Int), q)) (pr3a_one (p, (sN : Int), i, (aN : Int), q)) ?_ | refine wp_storeR 78 (.tmp 13) (.tmp 92) rfl b13 (by kernel_rfl) #[.int .i64 p, .int .i64 (sN : Int), .int .i64 i] (by kernel_rfl) _ (G.bd.row 1 rfl) rfl (pr3a_info (p, (sN : Int), i, (aN : Int), q)) (pr3a_one (p, (sN : Int), i, (aN : Int), q)) ?_); intro w9 R9 t9; (first | replace t9 := turned_undrG t9 | skip); (first | replace G := G.turn 0 rfl R9 t9 | replace G := G.turn 1 rfl R9 t9); clear R9 t9; replace R8 : Row 32 _ b8 (mc (p, (sN : Int), i, (aN : Int), q)) := G.bd.row 2 rfl
            refine hK.out _ _ R8 (fun _ => ?_)
            clear hK K
            try simp only [Act.put, List.getElem_toArray, List.getElem_cons_succ, List.getElem_cons_zero, List.setIfInBounds_toArray, List.set_cons_zero, List.set_cons_succ]
            refine wpAnyH_done (by kernel_rfl) ?_ _
            refine NoPanic.normal ?_
            go_wp2_with fail
            go_meet
            case rel => first | exact ⟨b12, b13, rfl, rfl, rfl, G⟩ | exact ⟨b12, b13, rfl, rfl, rfl, G.swap⟩
          exact AllReadyH.nil
        exact AllReadyH.nil
      exact AllReadyH.nil
    refine AllReadyH.cons rfl (fun K hK => ?_) ?_
    · rw [if_pos (by kernel_rfl)]
      refine wp_allocG 78 rfl _ pr_zero ?_; intro b13 w9 l9 R9 h9; (first | replace h9 := below_undrG h9 | skip); replace G := G.alloc l9 R9 h9; clear R9 h9 l9; replace R8 : Row 32 _ b8 (mc (p, (sN : Int), i, (aN : Int), q)) := (by first | exact G.bd.row 1 rfl | exact G.bd.row 2 rfl)
      refine hK.out _ _ R8 (fun _ => ?_)
      clear hK K
      try simp only [Act.put, List.getElem_toArray, List.getElem_cons_succ, List.getElem_cons_zero, List.setIfInBounds_toArray, List.set_cons_zero, List.set_cons_succ]
      refine wpAnyH_ready (rs := [14]) (by kernel_rfl) (by simp) ?_
      refine AllReadyH.cons rfl (fun K hK => ?_) ?_
      · rw [if_pos (by kernel_rfl)]
        refine wp_allocG 76 rfl _ pl_zero ?_; intro b12 w9 l9 R9 h9; (first | replace h9 := below_undrG h9 | skip); replace G := G.alloc l9 R9 h9; clear R9 h9 l9; replace R8 : Row 32 _ b8 (mc (p, (sN : Int), i, (aN : Int), q)) := (by first | exact G.bd.row 1 rfl | exact G.bd.row 2 rfl)
        refine hK.out _ _ R8 (fun _ => ?_)
        clear hK K
        try simp only [Act.put, List.getElem_toArray, List.getElem_cons_succ, List.getElem_cons_zero, List.setIfInBounds_toArray, List.set_cons_zero, List.set_cons_succ]
        refine wpAnyH_ready (rs := [16]) (by kernel_rfl) (by simp) ?_
        refine AllReadyH.cons rfl (fun K hK => ?_) ?_
        · rw [if_pos (by kernel_rfl)]
          (first | refine wp_storeR 76 (.tmp 12) (.tmp 85) rfl b12 (by kernel_rfl) #[.int .i64 p, .int .i64 (aN : Int), .int .i64 q] (by kernel_rfl) _ (G.bd.row 0 rfl) rfl (pl3_info (p, (sN : Int), i, (aN : Int), q)) (pl3_one (p, (sN : Int), i, (aN : Int), q)) ?_ | refine wp_storeR 76 (.tmp 12) (.tmp 85) rfl b12 (by kernel_rfl) #[.int .i64 p, .int .i64 (aN : Int), .int .i64 q] (by kernel_rfl) _ (G.bd.row 1 rfl) rfl (pl3_info (p, (sN : Int), i, (aN : Int), q)) (pl3_one (p, (sN : Int), i, (aN : Int), q)) ?_); intro w9 R9 t9; (first | replace t9 := turned_undrG t9 | skip); (first | replace G := G.turn 0 rfl R9 t9 | replace G := G.turn 1 rfl R9 t9); clear R9 t9; replace R8 : Row 32 _ b8 (mc (p, (sN : Int), i, (aN : Int), q)) := G.bd.row 2 rfl
          refine hK.out _ _ R8 (fun _ => ?_)
          clear hK K
          try simp only [Act.put, List.getElem_toArray, List.getElem_cons_succ, List.getElem_cons_zero, List.setIfInBounds_toArray, List.set_cons_zero, List.set_cons_succ]
          refine wpAnyH_ready (rs := [17]) (by kernel_rfl) (by simp) ?_
          refine AllReadyH.cons rfl (fun K hK => ?_) ?_
          · rw [if_pos (by kernel_rfl)]
            (first | refine wp_storeR 78 (.tmp 13) (.tmp 92) rfl b13 (by kernel_rfl) #[.int .i64 p, .int .i64 (sN : Int), .int .i64 i] (by kernel_rfl) _ (G.bd.row 0 rfl) rfl (pr3a_info (p, (sN : Int), i, (aN : Int), q)) (pr3a_one (p, (sN : Int), i, (aN : Int), q)) ?_ | refine wp_storeR 78 (.tmp 13) (.tmp 92) rfl b13 (by kernel_rfl) #[.int .i64 p, .int .i64 (sN : Int), .int .i64 i] (by kernel_rfl) _ (G.bd.row 1 rfl) rfl (pr3a_info (p, (sN : Int), i, (aN : Int), q)) (pr3a_one (p, (sN : Int), i, (aN : Int), q)) ?_); intro w9 R9 t9; (first | replace t9 := turned_undrG t9 | skip); (first | replace G := G.turn 0 rfl R9 t9 | replace G := G.turn 1 rfl R9 t9); clear R9 t9; replace R8 : Row 32 _ b8 (mc (p, (sN : Int), i, (aN : Int), q)) := G.bd.row 2 rfl
            refine hK.out _ _ R8 (fun _ => ?_)
            clear hK K
            try simp only [Act.put, List.getElem_toArray, List.getElem_cons_succ, List.getElem_cons_zero, List.setIfInBounds_toArray, List.set_cons_zero, List.set_cons_succ]
            refine wpAnyH_done (by kernel_rfl) ?_ _
            refine NoPanic.normal ?_
            go_wp2_with fail
            go_meet
            case rel => first | exact ⟨b12, b13, rfl, rfl, rfl, G⟩ | exact ⟨b12, b13, rfl, rfl, rfl, G.swap⟩
          exact AllReadyH.nil
        exact AllReadyH.nil
      exact AllReadyH.nil
    exact AllReadyH.nil
  case rest =>
    clear G R8
    obtain ⟨b12, b13, rfl, rfl, rfl, G⟩ := hcut
    have H18 : Hid (6 * aN + kN < 18) := hidB (by have := H50.out; have := HK6.out; omega)
    obtain ⟨dH, hdH⟩ : ∃ d, IntKind.i64.wrap (h sN - 1) = d := ⟨_, rfl⟩
    obtain ⟨dO, hdO⟩ : ∃ d, IntKind.i64.wrap (f (6 * aN + kN) - 1) = d := ⟨_, rfl⟩
    have EH : Hid (IntKind.i64.wrap (h sN - 1) = dH) := hdH
    have EO : Hid (IntKind.i64.wrap (f (6 * aN + kN) - 1) = dO) := hdO
    have hc3 := dec_ne (x := h sN) (y := (aN : Int)) (hwH sN HS8.out) ⟨by omega, by have := H50.out; omega⟩
    have hc4 := dec_ne (x := f (6 * aN + kN)) (y := (sN : Int)) (good_wf hgp _ H18.out) ⟨by omega, by have := HS8.out; omega⟩
    rw [hdH] at hc3
    rw [hdO] at hc4
    clear hdH hdO
    clear hc3 hc4
    go_upto_region 13 with (fail)
    refine wp_region_noPanic ?_
    refine wp_region_held_drew (S := fun W => Gm w W [(b12, 76, #[.int .i64 p, .int .i64 (aN : Int), .int .i64 q]), (b13, 78, #[.int .i64 p, .int .i64 (sN : Int), .int .i64 i]), (b8, 32, mc (p, (sN : Int), i, (aN : Int), q)), (b1, 30, tc f g h (.slice a0 n cap))] [] [entI 3 k1v wf6 b6 n6 (nOf (ms.take j)), entI 79 k2 ok2 b5 n5 (nPl (ms.take j)), entB 78 k3 ok3 b4 n4 (sIn (ms.take j)), entB 76 k3 ok3 b3 n3 (sOut (ms.take j))]) (by kernel_rfl) (by first | exact G | exact G.drew) (fun _ => ?_)
    refine wpAnyH_take (i := 0) (v := .map (some b3)) rfl (by kernel_rfl) (by kernel_rfl) (by kernel_rfl) (fun _ _ _ h => h) (Or.inl ⟨by kernel_rfl, by intro w hS; go_simp⟩) (by first | exact G | exact G.drew) ?_
    simp only [Act.put, List.getElem_toArray, List.getElem_cons_succ, List.getElem_cons_zero, List.setIfInBounds_toArray, List.set_cons_zero, List.set_cons_succ]
    refine wpAnyH_take (i := 1) (v := .agg #[.int .i64 p, .int .i64 (aN : Int), .int .i64 q]) rfl (by kernel_rfl) (by kernel_rfl) (by kernel_rfl) (fun _ _ _ h => h) (yields_loadR 76 (.tmp 12) rfl (by kernel_rfl) b12 (by kernel_rfl) #[.int .i64 p, .int .i64 (aN : Int), .int .i64 q] (fun _ h => h.bd.row 0 rfl) _ Try.underlying76 rfl (pl3_info (p, (sN : Int), i, (aN : Int), q))) (by first | exact G | exact G.drew) ?_
    simp only [Act.put, List.getElem_toArray, List.getElem_cons_succ, List.getElem_cons_zero, List.setIfInBounds_toArray, List.set_cons_zero, List.set_cons_succ]
    refine wpAnyH_take (i := 2) (v := .bool false) rfl (by kernel_rfl) (by kernel_rfl) (by kernel_rfl) (fun _ _ _ h => h) (yields_lk 70 (.tmp 93) (.tmp 94) rfl (by kernel_rfl) (.map (some b3)) (k3 (p, (aN : Int), q)) _ (by kernel_rfl) (by kernel_rfl) (fun w h => by have := MeB.look (h.ent 3 rfl) kyPlace Try.underlying70 (p, (aN : Int), q) HPL.out; rw [E3.out] at this; exact this)) (by first | exact G | exact G.drew) ?_
    simp only [Act.put, List.getElem_toArray, List.getElem_cons_succ, List.getElem_cons_zero, List.setIfInBounds_toArray, List.set_cons_zero, List.set_cons_succ]
    refine wpAnyH_take (i := 3) (v := .bool false) rfl (by kernel_rfl) (by kernel_rfl) (by kernel_rfl) (fun _ _ _ h => h) (Or.inl ⟨by kernel_rfl, by intro w hS; go_simp⟩) (by first | exact G | exact G.drew) ?_
    simp only [Act.put, List.getElem_toArray, List.getElem_cons_succ, List.getElem_cons_zero, List.setIfInBounds_toArray, List.set_cons_zero, List.set_cons_succ]
    refine wpAnyH_take (i := 4) (v := .map (some b4)) rfl (by kernel_rfl) (by kernel_rfl) (by kernel_rfl) (fun _ _ _ h => h) (Or.inl ⟨by kernel_rfl, by intro w hS; go_simp⟩) (by first | exact G | exact G.drew) ?_
    simp only [Act.put, List.getElem_toArray, List.getElem_cons_succ, List.getElem_cons_zero, List.setIfInBounds_toArray, List.set_cons_zero, List.set_cons_succ]
    refine wpAnyH_take (i := 5) (v := .agg #[.int .i64 p, .int .i64 (sN : Int), .int .i64 i]) rfl (by kernel_rfl) (by kernel_rfl) (by kernel_rfl) (fun _ _ _ h => h) (yields_loadR 78 (.tmp 13) rfl (by kernel_rfl) b13 (by kernel_rfl) #[.int .i64 p, .int .i64 (sN : Int), .int .i64 i] (fun _ h => h.bd.row 1 rfl) _ Try.underlying78 rfl (pr3a_info (p, (sN : Int), i, (aN : Int), q))) (by first | exact G | exact G.drew) ?_
    simp only [Act.put, List.getElem_toArray, List.getElem_cons_succ, List.getElem_cons_zero, List.setIfInBounds_toArray, List.set_cons_zero, List.set_cons_succ]
    refine wpAnyH_take (i := 6) (v := .bool true) rfl (by kernel_rfl) (by kernel_rfl) (by kernel_rfl) (fun _ _ _ h => h) (yields_lk 71 (.tmp 97) (.tmp 98) rfl (by kernel_rfl) (.map (some b4)) (k3 (p, (sN : Int), i)) _ (by kernel_rfl) (by kernel_rfl) (fun w h => by have := MeB.look (h.ent 2 rfl) kyPort Try.underlying71 (p, (sN : Int), i) HPR.out; rw [E4.out] at this; exact this)) (by first | exact G | exact G.drew) ?_
    simp only [Act.put, List.getElem_toArray, List.getElem_cons_succ, List.getElem_cons_zero, List.setIfInBounds_toArray, List.set_cons_zero, List.set_cons_succ]
    refine wpAnyH_take (i := 7) (v := .bool true) rfl (by kernel_rfl) (by kernel_rfl) (by kernel_rfl) (fun _ _ _ h => h) (yields_pickf (.tmp 96) (.const (.bool true)) (.tmp 99) _ rfl (by kernel_rfl) (by kernel_rfl) (by kernel_rfl)) (by first | exact G | exact G.drew) ?_
    simp only [Act.put, List.getElem_toArray, List.getElem_cons_succ, List.getElem_cons_zero, List.setIfInBounds_toArray, List.set_cons_zero, List.set_cons_succ]
    refine wpAnyH_take (i := 8) (v := .bool true) rfl (by kernel_rfl) (by kernel_rfl) (by kernel_rfl) (fun _ _ _ h => h) (Or.inl ⟨by kernel_rfl, by intro w hS; go_simp⟩) (by first | exact G | exact G.drew) ?_
    simp only [Act.put, List.getElem_toArray, List.getElem_cons_succ, List.getElem_cons_zero, List.setIfInBounds_toArray, List.set_cons_zero, List.set_cons_succ]
    refine wpAnyH_take (i := 9) (v := undef) rfl (by kernel_rfl) (by kernel_rfl) (by kernel_rfl) (fun _ _ _ h => h) (Or.inr ⟨by kernel_rfl, rfl⟩) (by first | exact G | exact G.drew) ?_
    simp only [Act.put, List.getElem_toArray, List.getElem_cons_succ, List.getElem_cons_zero, List.setIfInBounds_toArray, List.set_cons_zero, List.set_cons_succ]
    refine wpAnyH_take (i := 10) (v := undef) rfl (by kernel_rfl) (by kernel_rfl) (by kernel_rfl) (fun _ _ _ h => h) (Or.inr ⟨by kernel_rfl, rfl⟩) (by first | exact G | exact G.drew) ?_
    simp only [Act.put, List.getElem_toArray, List.getElem_cons_succ, List.getElem_cons_zero, List.setIfInBounds_toArray, List.set_cons_zero, List.set_cons_succ]
    refine wpAnyH_take (i := 11) (v := undef) rfl (by kernel_rfl) (by kernel_rfl) (by kernel_rfl) (fun _ _ _ h => h) (Or.inr ⟨by kernel_rfl, rfl⟩) (by first | exact G | exact G.drew) ?_
    simp only [Act.put, List.getElem_toArray, List.getElem_cons_succ, List.getElem_cons_zero, List.setIfInBounds_toArray, List.set_cons_zero, List.set_cons_succ]
    refine wpAnyH_take (i := 12) (v := undef) rfl (by kernel_rfl) (by kernel_rfl) (by kernel_rfl) (fun _ _ _ h => h) (Or.inr ⟨by kernel_rfl, rfl⟩) (by first | exact G | exact G.drew) ?_
    simp only [Act.put, List.getElem_toArray, List.getElem_cons_succ, List.getElem_cons_zero, List.setIfInBounds_toArray, List.set_cons_zero, List.set_cons_succ]
    refine wpAnyH_take (i := 13) (v := undef) rfl (by kernel_rfl) (by kernel_rfl) (by kernel_rfl) (fun _ _ _ h => h) (Or.inr ⟨by kernel_rfl, rfl⟩) (by first | exact G | exact G.drew) ?_
    simp only [Act.put, List.getElem_toArray, List.getElem_cons_succ, List.getElem_cons_zero, List.setIfInBounds_toArray, List.set_cons_zero, List.set_cons_succ]
    refine wpAnyH_take (i := 14) (v := undef) rfl (by kernel_rfl) (by kernel_rfl) (by kernel_rfl) (fun _ _ _ h => h) (Or.inr ⟨by kernel_rfl, rfl⟩) (by first | exact G | exact G.drew) ?_
    simp only [Act.put, List.getElem_toArray, List.getElem_cons_succ, List.getElem_cons_zero, List.setIfInBounds_toArray, List.set_cons_zero, List.set_cons_succ]
    refine wpAnyH_take (i := 15) (v := undef) rfl (by kernel_rfl) (by kernel_rfl) (by kernel_rfl) (fun _ _ _ h => h) (Or.inr ⟨by kernel_rfl, rfl⟩) (by first | exact G | exact G.drew) ?_
    simp only [Act.put, List.getElem_toArray, List.getElem_cons_succ, List.getElem_cons_zero, List.setIfInBounds_toArray, List.set_cons_zero, List.set_cons_succ]
    refine wpAnyH_take (i := 16) (v := undef) rfl (by kernel_rfl) (by kernel_rfl) (by kernel_rfl) (fun _ _ _ h => h) (Or.inr ⟨by kernel_rfl, rfl⟩) (by first | exact G | exact G.drew) ?_
    simp only [Act.put, List.getElem_toArray, List.getElem_cons_succ, List.getElem_cons_zero, List.setIfInBounds_toArray, List.set_cons_zero, List.set_cons_succ]
    refine wpAnyH_take (i := 17) (v := undef) rfl (by kernel_rfl) (by kernel_rfl) (by kernel_rfl) (fun _ _ _ h => h) (Or.inr ⟨by kernel_rfl, rfl⟩) (by first | exact G | exact G.drew) ?_
    simp only [Act.put, List.getElem_toArray, List.getElem_cons_succ, List.getElem_cons_zero, List.setIfInBounds_toArray, List.set_cons_zero, List.set_cons_succ]
    refine wpAnyH_take (i := 18) (v := .bool true) rfl (by kernel_rfl) (by kernel_rfl) (by kernel_rfl) (fun _ _ _ h => h) (yields_pickt (.tmp 101) (.const (.bool true)) (.tmp 110) _ rfl (by kernel_rfl) (by kernel_rfl) (by kernel_rfl)) (by first | exact G | exact G.drew) ?_
    simp only [Act.put, List.getElem_toArray, List.getElem_cons_succ, List.getElem_cons_zero, List.setIfInBounds_toArray, List.set_cons_zero, List.set_cons_succ]
    refine wpAnyH_take (i := 19) (v := .bool true) rfl (by kernel_rfl) (by kernel_rfl) (by kernel_rfl) (fun _ _ _ h => h) (Or.inl ⟨by kernel_rfl, by intro w hS; go_simp⟩) (by first | exact G | exact G.drew) ?_
    simp only [Act.put, List.getElem_toArray, List.getElem_cons_succ, List.getElem_cons_zero, List.setIfInBounds_toArray, List.set_cons_zero, List.set_cons_succ]
    refine wpAnyH_take (i := 20) (v := undef) rfl (by kernel_rfl) (by kernel_rfl) (by kernel_rfl) (fun _ _ _ h => h) (Or.inr ⟨by kernel_rfl, rfl⟩) (by first | exact G | exact G.drew) ?_
    simp only [Act.put, List.getElem_toArray, List.getElem_cons_succ, List.getElem_cons_zero, List.setIfInBounds_toArray, List.set_cons_zero, List.set_cons_succ]
    refine wpAnyH_take (i := 21) (v := undef) rfl (by kernel_rfl) (by kernel_rfl) (by kernel_rfl) (fun _ _ _ h => h) (Or.inr ⟨by kernel_rfl, rfl⟩) (by first | exact G | exact G.drew) ?_
    simp only [Act.put, List.getElem_toArray, List.getElem_cons_succ, List.getElem_cons_zero, List.setIfInBounds_toArray, List.set_cons_zero, List.set_cons_succ]
    refine wpAnyH_take (i := 22) (v := undef) rfl (by kernel_rfl) (by kernel_rfl) (by kernel_rfl) (fun _ _ _ h => h) (Or.inr ⟨by kernel_rfl, rfl⟩) (by first | exact G | exact G.drew) ?_
    simp only [Act.put, List.getElem_toArray, List.getElem_cons_succ, List.getElem_cons_zero, List.setIfInBounds_toArray, List.set_cons_zero, List.set_cons_succ]
    refine wpAnyH_take (i := 23) (v := undef) rfl (by kernel_rfl) (by kernel_rfl) (by kernel_rfl) (fun _ _ _ h => h) (Or.inr ⟨by kernel_rfl, rfl⟩) (by first | exact G | exact G.drew) ?_
    simp only [Act.put, List.getElem_toArray, List.getElem_cons_succ, List.getElem_cons_zero, List.setIfInBounds_toArray, List.set_cons_zero, List.set_cons_succ]
    refine wpAnyH_take (i := 24) (v := undef) rfl (by kernel_rfl) (by kernel_rfl) (by kernel_rfl) (fun _ _ _ h => h) (Or.inr ⟨by kernel_rfl, rfl⟩) (by first | exact G | exact G.drew) ?_
    simp only [Act.put, List.getElem_toArray, List.getElem_cons_succ, List.getElem_cons_zero, List.setIfInBounds_toArray, List.set_cons_zero, List.set_cons_succ]
    refine wpAnyH_take (i := 25) (v := undef) rfl (by kernel_rfl) (by kernel_rfl) (by kernel_rfl) (fun _ _ _ h => h) (Or.inr ⟨by kernel_rfl, rfl⟩) (by first | exact G | exact G.drew) ?_
    simp only [Act.put, List.getElem_toArray, List.getElem_cons_succ, List.getElem_cons_zero, List.setIfInBounds_toArray, List.set_cons_zero, List.set_cons_succ]
    refine wpAnyH_take (i := 26) (v := undef) rfl (by kernel_rfl) (by kernel_rfl) (by kernel_rfl) (fun _ _ _ h => h) (Or.inr ⟨by kernel_rfl, rfl⟩) (by first | exact G | exact G.drew) ?_
    simp only [Act.put, List.getElem_toArray, List.getElem_cons_succ, List.getElem_cons_zero, List.setIfInBounds_toArray, List.set_cons_zero, List.set_cons_succ]
    refine wpAnyH_take (i := 27) (v := undef) rfl (by kernel_rfl) (by kernel_rfl) (by kernel_rfl) (fun _ _ _ h => h) (Or.inr ⟨by kernel_rfl, rfl⟩) (by first | exact G | exact G.drew) ?_
    simp only [Act.put, List.getElem_toArray, List.getElem_cons_succ, List.getElem_cons_zero, List.setIfInBounds_toArray, List.set_cons_zero, List.set_cons_succ]
    refine wpAnyH_take (i := 28) (v := undef) rfl (by kernel_rfl) (by kernel_rfl) (by kernel_rfl) (fun _ _ _ h => h) (Or.inr ⟨by kernel_rfl, rfl⟩) (by first | exact G | exact G.drew) ?_
    simp only [Act.put, List.getElem_toArray, List.getElem_cons_succ, List.getElem_cons_zero, List.setIfInBounds_toArray, List.set_cons_zero, List.set_cons_succ]
    refine wpAnyH_take (i := 29) (v := undef) rfl (by kernel_rfl) (by kernel_rfl) (by kernel_rfl) (fun _ _ _ h => h) (Or.inr ⟨by kernel_rfl, rfl⟩) (by first | exact G | exact G.drew) ?_
    simp only [Act.put, List.getElem_toArray, List.getElem_cons_succ, List.getElem_cons_zero, List.setIfInBounds_toArray, List.set_cons_zero, List.set_cons_succ]
    refine wpAnyH_take (i := 30) (v := undef) rfl (by kernel_rfl) (by kernel_rfl) (by kernel_rfl) (fun _ _ _ h => h) (Or.inr ⟨by kernel_rfl, rfl⟩) (by first | exact G | exact G.drew) ?_
    simp only [Act.put, List.getElem_toArray, List.getElem_cons_succ, List.getElem_cons_zero, List.setIfInBounds_toArray, List.set_cons_zero, List.set_cons_succ]
    refine wpAnyH_take (i := 31) (v := undef) rfl (by kernel_rfl) (by kernel_rfl) (by kernel_rfl) (fun _ _ _ h => h) (Or.inr ⟨by kernel_rfl, rfl⟩) (by first | exact G | exact G.drew) ?_
    simp only [Act.put, List.getElem_toArray, List.getElem_cons_succ, List.getElem_cons_zero, List.setIfInBounds_toArray, List.set_cons_zero, List.set_cons_succ]
    refine wpAnyH_take (i := 32) (v := .bool true) rfl (by kernel_rfl) (by kernel_rfl) (by kernel_rfl) (fun _ _ _ h => h) (yields_pickt (.tmp 112) (.const (.bool true)) (.tmp 124) _ rfl (by kernel_rfl) (by kernel_rfl) (by kernel_rfl)) (by first | exact G | exact G.drew) ?_
    simp only [Act.put, List.getElem_toArray, List.getElem_cons_succ, List.getElem_cons_zero, List.setIfInBounds_toArray, List.set_cons_zero, List.set_cons_succ]
    refine wpAnyH_done (by kernel_rfl) ?_ _
    refine NoPanic.normal ?_
    go_wp2
    go_ret
    first | exact ⟨false, HNG.out, rfl, G.bd.base⟩ | exact ⟨false, HNG.out, rfl, G.drew.bd.base⟩
end Go.Proofs.Ytmdijjbkjcnbpaa

namespace Go.Proofs.Ytmdijjbkjcnbpaa
open Go.ChangeShapes Go.WideShapes Go.ChangeAt Go.RowKit Go.Maps
set_option linter.unusedSimpArgs false
set_option linter.unusedVariables false

attribute [local irreducible] tc pc
set_option maxRecDepth 1000000 in
set_option maxHeartbeats 8000000 in
theorem gt_c3 {w wr : World} {f : Nat → Int} {g : Nat → Bool} {h : Nat → Int} {ms : List Mp} {b1 b3 b4 b5 b6 : Nat} {a0 : Option Addr} {n cap : Nat} (u2 u7 u8 u9 u10 u11 u12 u13 u14 u15 u16 u17 u18 u19 u20 u21 u22 u23 u24 u25 u26 u27 u31 u32 u33 u34 u35 u36 u37 u38 u39 u40 u41 u42 u43 u44 u45 u46 u47 u48 u49 u50 u51 u52 u53 u54 u55 u56 u57 u58 u59 u60 u61 u62 u63 u64 u65 u66 u67 u68 u69 u70 u71 u72 u73 u74 u75 u76 u77 u78 u79 u80 u81 u82 u83 u84 u85 u86 u87 u88 u89 u90 u91 u92 u93 u94 u95 u96 u97 u98 u99 u100 u101 u102 u103 u104 u105 u106 u107 u108 u109 u110 u111 u112 u113 u114 u115 u116 u117 u118 u119 u120 u121 u122 u123 u124 u125 u126 u127 u128 u129 u130 u131 u132 u133 u134 u135 u136 u137 u138 u139 u140 u141 u142 u143 u144 u145 u146 u147 u148 u149 u150 u151 u152 u153 u154 u155 u156 u157 u158 u159 u160 u161 u162 u163 u164 u165 u166 u167 u168 u169 u170 u171 u172 u173 u174 u175 u176 u177 u178 u179 u180 u181 u182 u183 u184 u185 u186 u187 u188 u189 u190 u191 u192 u193 u194 u195 u196 u197 u198 u199 u200 u201 u202 : Value) (j : Nat) {n6 n5 n4 n3 : Nat}
    (HNs : Hid (n6 ≤ 2 * j ∧ n5 ≤ 2 * j ∧ n4 ≤ 2 * j ∧ n3 ≤ 2 * j)) (G : Gm w wr [(b1, 30, tc f g h (.slice a0 n cap))] [] [entI 3 k1v wf6 b6 n6 (nOf (ms.take j)), entI 79 k2 ok2 b5 n5 (nPl (ms.take j)), entB 78 k3 ok3 b4 n4 (sIn (ms.take j)), entB 76 k3 ok3 b3 n3 (sOut (ms.take j))])
    (HK : Hid (MsOk f h (ms.take j))) (HN : Hid (n = ms.length)) (hM : MapsAt w (.slice a0 n cap) ms) (hwH : wfH h) (hgp : goodP f = true) (hlj : j < ms.length) (m : Mp) (hm : ms[j] = m) (hok : OkM m) (e3 : sOut (ms.take j) (m.1, m.2.2.2.1, m.2.2.2.2) = false) (e4 : sIn (ms.take j) (m.1, m.2.1, m.2.2.1) = false) (e5 : ¬ h m.2.1.toNat = m.2.2.2.1 + 1) (Q0 : Exit → Act → World → Prop) (hret : ∀ a w', bodyPost Try.prog Try.f15 (fun e w' => ∃ r : Bool, (r = true ↔ GoodT f h ms) ∧ e = .returned (.bool r) ∧ Below w.heap.size w w') .ret a w' → Q0 .ret a w') :
    Code.wp Try.prog bodyG (Exit.then (fun a' W => WG w f g h ms b1 b3 b4 b5 b6 a0 n cap a' W ∧ WGmu n a' W < WGmu n ⟨#[(.agg (tc f g h (.slice a0 n cap))), .pointer (some ⟨b1, 0, none⟩), u2, .map (some b3), .map (some b4), .map (some b5), .map (some b6), u7, u8, u9, u10, u11, u12, u13, u14, u15, u16, u17, u18, u19, u20, u21, u22, u23, u24, u25, u26, u27, (.slice a0 n cap), .int .i64 (n : Int), .int .i64 (j : Int), u31, u32, u33, u34, u35, u36, u37, u38, u39, u40, u41, u42, u43, u44, u45, u46, u47, u48, u49, u50, u51, u52, u53, u54, u55, u56, u57, u58, u59, u60, u61, u62, u63, u64, u65, u66, u67, u68, u69, u70, u71, u72, u73, u74, u75, u76, u77, u78, u79, u80, u81, u82, u83, u84, u85, u86, u87, u88, u89, u90, u91, u92, u93, u94, u95, u96, u97, u98, u99, u100, u101, u102, u103, u104, u105, u106, u107, u108, u109, u110, u111, u112, u113, u114, u115, u116, u117, u118, u119, u120, u121, u122, u123, u124, u125, u126, u127, u128, u129, u130, u131, u132, u133, u134, u135, u136, u137, u138, u139, u140, u141, u142, u143, u144, u145, u146, u147, u148, u149, u150, u151, u152, u153, u154, u155, u156, u157, u158, u159, u160, u161, u162, u163, u164, u165, u166, u167, u168, u169, u170, u171, u172, u173, u174, u175, u176, u177, u178, u179, u180, u181, u182, u183, u184, u185, u186, u187, u188, u189, u190, u191, u192, u193, u194, u195, u196, u197, u198, u199, u200, u201, u202], []⟩ wr) Q0) ⟨#[(.agg (tc f g h (.slice a0 n cap))), .pointer (some ⟨b1, 0, none⟩), u2, .map (some b3), .map (some b4), .map (some b5), .map (some b6), u7, u8, u9, u10, u11, u12, u13, u14, u15, u16, u17, u18, u19, u20, u21, u22, u23, u24, u25, u26, u27, (.slice a0 n cap), .int .i64 (n : Int), .int .i64 (j : Int), u31, u32, u33, u34, u35, u36, u37, u38, u39, u40, u41, u42, u43, u44, u45, u46, u47, u48, u49, u50, u51, u52, u53, u54, u55, u56, u57, u58, u59, u60, u61, u62, u63, u64, u65, u66, u67, u68, u69, u70, u71, u72, u73, u74, u75, u76, u77, u78, u79, u80, u81, u82, u83, u84, u85, u86, u87, u88, u89, u90, u91, u92, u93, u94, u95, u96, u97, u98, u99, u100, u101, u102, u103, u104, u105, u106, u107, u108, u109, u110, u111, u112, u113, u114, u115, u116, u117, u118, u119, u120, u121, u122, u123, u124, u125, u126, u127, u128, u129, u130, u131, u132, u133, u134, u135, u136, u137, u138, u139, u140, u141, u142, u143, u144, u145, u146, u147, u148, u149, u150, u151, u152, u153, u154, u155, u156, u157, u158, u159, u160, u161, u162, u163, u164, u165, u166, u167, u168, u169, u170, u171, u172, u173, u174, u175, u176, u177, u178, u179, u180, u181, u182, u183, u184, u185, u186, u187, u188, u189, u190, u191, u192, u193, u194, u195, u196, u197, u198, u199, u200, u201, u202], []⟩ wr := by
  conv => arg 2; whnf
  have hlt := hM.lt
  have hjn : (j : Int) < (n : Int) := by have := HN.out; omega
  have hjw := wrap_next hlj hM.len
  have hMW := hM.keep G.bd.base hlt
  have hrg := hMW.at j hlj hm
  have HNG : Hid (false = true ↔ GoodT f h ms) := hidB (notGood hlj (fun hh => e5 (by rw [hm] at hh; exact hh.1.2.2.2.2.2.1)))
  have E3 : Hid (sOut (ms.take j) (m.1, m.2.2.2.1, m.2.2.2.2) = false) := e3
  have E4 : Hid (sIn (ms.take j) (m.1, m.2.1, m.2.2.1) = false) := e4
  have E5 : Hid (¬ h m.2.1.toNat = m.2.2.2.1 + 1) := e5
  clear e3 e4 e5
  obtain ⟨hq, hip, hs, hi, ha⟩ := hok
  have HOK : Hid (OkM m) := ⟨hq, hip, hs, hi, ha⟩
  obtain ⟨p, s, i, a, q⟩ := m
  simp only at hq hip hs hi ha
  obtain ⟨sN, rfl⟩ : ∃ sN : Nat, s = (sN : Int) := ⟨s.toNat, by omega⟩
  obtain ⟨aN, rfl⟩ : ∃ aN : Nat, a = (aN : Int) := ⟨a.toNat, by omega⟩
  obtain ⟨kN, hkN⟩ : ∃ kN : Nat, blkQ q = (kN : Int) := ⟨(blkQ q).toNat, by unfold blkQ; omega⟩
  have HKN : Hid (blkQ q = (kN : Int)) := hkN
  have HS8 : Hid (sN < 8) := hidB (by omega)
  have H50 : Hid (aN < 3) := hidB (by omega)
  have HK6 : Hid (kN < 6) := hidB (by unfold blkQ at hkN; omega)
  have HPL : Hid (ok3 (p, (aN : Int), q)) := hidB ⟨isP_wf hip, wf6_of (by show -9223372036854775808 ≤ (aN : Int) ∧ (aN : Int) ≤ _; omega), wf6_of (by show -9223372036854775808 ≤ q ∧ q ≤ _; omega)⟩
  have HPR : Hid (ok3 (p, (sN : Int), i)) := hidB ⟨isP_wf hip, wf6_of (by show -9223372036854775808 ≤ (sN : Int) ∧ (sN : Int) ≤ _; omega), wf6_of (by show -9223372036854775808 ≤ i ∧ i ≤ _; omega)⟩
  have HTW : Hid (ok2 ((aN : Int), (kN : Int))) := hidB ⟨wf6_of (by show -9223372036854775808 ≤ (aN : Int) ∧ (aN : Int) ≤ _; omega), wf6_of (by unfold blkQ at hkN; show -9223372036854775808 ≤ (kN : Int) ∧ (kN : Int) ≤ _; omega)⟩
  have HSW : Hid (wf6 (sN : Int)) := hidB (wf6_of (by omega))
  have CB := fun w => blockOf_in q w hq
  rw [hkN] at CB
  have CI := fun w => isProto_ref p w
  rw [hip] at CI
  have d1 : decide ((sN : Int) < 0) = false := decide_eq_false (by omega)
  have d2 : decide (7 < (sN : Int)) = false := decide_eq_false (by omega)
  have d3 : decide (i < 0) = false := decide_eq_false (by omega)
  have d4 : decide (65535 < i) = false := decide_eq_false (by omega)
  have d5 : decide ((aN : Int) < 0) = false := decide_eq_false (by omega)
  have d6 : decide (2 < (aN : Int)) = false := decide_eq_false (by omega)
  clear hq hip hs hi ha hkN
  go_upto_region 12 with (first | (refine wpList_indexM rfl (.tmp 28) (.tmp 30) rfl (.slice a0 n cap) ms hMW rfl j rfl hlj ?_) | ((with_reducible refine at_opB (.load 32 (.tmp 32)) rfl ?_); refine wpList_load_mid rfl 32 _ rfl _ _ rfl (mcl (p, (sN : Int), i, (aN : Int), q)) _ hrg Try.underlying32 rfl (mcl_info (p, (sN : Int), i, (aN : Int), q)) ?_; rw [mcl_mc]) | ((with_reducible refine at_opB (.alloc 32) rfl ?_); refine wpList_allocX 8 32 rfl rfl rfl _ map_zero ?_; intro b8 w9 l9 R9 h9; replace G := G.alloc l9 R9 h9; clear R9 h9 l9) | ((with_reducible refine at_opB (.store 32 (.tmp 8) (.tmp 33)) rfl ?_); refine wpList_storeR 32 rfl (.tmp 8) _ rfl b8 rfl (mc (p, (sN : Int), i, (aN : Int), q)) rfl _ (G.bd.row 0 rfl) rfl (mc_info _) (mc_one _) ?_; intro w9 R9 t9; replace G := G.turn 0 rfl R9 t9; clear R9 t9) | ((with_reducible refine at_opB (.load 3 (.tmp 35)) rfl ?_); refine wpList_loadF (G.bd.row 0 rfl) _ rfl (by kernel_rfl) 4 rfl (q) rfl ?_) | (go_at_call 13; refine (CB _).mono ?_; rintro e w' ⟨rfl, hw⟩; rw [hw]; clear hw w') | ((with_reducible refine at_opB (.load 3 (.tmp 44)) rfl ?_); refine wpList_loadF (G.bd.row 0 rfl) _ rfl (by kernel_rfl) 0 rfl (p) rfl ?_) | ((with_reducible refine at_opB (.load 3 (.tmp 50)) rfl ?_); refine wpList_loadF (G.bd.row 0 rfl) _ rfl (by kernel_rfl) 1 rfl ((sN : Int)) rfl ?_) | ((with_reducible refine at_opB (.load 3 (.tmp 55)) rfl ?_); refine wpList_loadF (G.bd.row 0 rfl) _ rfl (by kernel_rfl) 1 rfl ((sN : Int)) rfl ?_) | ((with_reducible refine at_opB (.load 3 (.tmp 60)) rfl ?_); refine wpList_loadF (G.bd.row 0 rfl) _ rfl (by kernel_rfl) 2 rfl (i) rfl ?_) | ((with_reducible refine at_opB (.load 3 (.tmp 65)) rfl ?_); refine wpList_loadF (G.bd.row 0 rfl) _ rfl (by kernel_rfl) 2 rfl (i) rfl ?_) | ((with_reducible refine at_opB (.load 3 (.tmp 70)) rfl ?_); refine wpList_loadF (G.bd.row 0 rfl) _ rfl (by kernel_rfl) 3 rfl ((aN : Int)) rfl ?_) | ((with_reducible refine at_opB (.load 3 (.tmp 75)) rfl ?_); refine wpList_loadF (G.bd.row 0 rfl) _ rfl (by kernel_rfl) 3 rfl ((aN : Int)) rfl ?_) | (go_at_call 36; refine (CI _).mono ?_; rintro e w' ⟨rfl, hw⟩; rw [hw]; clear hw w'))
  clear d1 d2 d3 d4 d5 d6 CB CI
  (try dsimp only [Act.put]); (try simp only [List.getElem_toArray, List.getElem_cons_succ, List.getElem_cons_zero, List.setIfInBounds_toArray, List.set_cons_zero, List.set_cons_succ])
  have R8 : Row 32 _ b8 (mc (p, (sN : Int), i, (aN : Int), q)) := G.bd.row 0 rfl
  go_cut [12, 13, 30] from 30 to 144 (fun s12 s13 s30 wx => ∃ b12 b13, s12 = .pointer (some ⟨b12, 0, none⟩) ∧ s13 = .pointer (some ⟨b13, 0, none⟩) ∧ s30 = .int .i64 (j : Int) ∧ Gm w wx [(b12, 76, #[.int .i64 p, .int .i64 (aN : Int), .int .i64 q]), (b13, 78, #[.int .i64 p, .int .i64 (sN : Int), .int .i64 i]), (b8, 32, mc (p, (sN : Int), i, (aN : Int), q)), (b1, 30, tc f g h (.slice a0 n cap))] [] [entI 3 k1v wf6 b6 n6 (nOf (ms.take j)), entI 79 k2 ok2 b5 n5 (nPl (ms.take j)), entB 78 k3 ok3 b4 n4 (sIn (ms.take j)), entB 76 k3 ok3 b3 n3 (sOut (ms.take j))])
  case first =>
    refine wp_region_noPanic ?_
    refine wp_region_held_drew (S := fun W => Row 32 W b8 (mc (p, (sN : Int), i, (aN : Int), q))) (by kernel_rfl) R8 (fun _ => ?_)
    refine wpAnyH_take (i := 0) (v := .pointer (some ⟨b8, 0, none⟩)) rfl (by kernel_rfl) (by kernel_rfl) (by kernel_rfl) (fun _ _ _ h => h) (Or.inl ⟨by kernel_rfl, by intro w hS; go_simp⟩) R8 ?_
    simp only [Act.put, List.getElem_toArray, List.getElem_cons_succ, List.getElem_cons_zero, List.setIfInBounds_toArray, List.set_cons_zero, List.set_cons_succ]
    refine wpAnyH_take (i := 1) (v := .int .i64 p) rfl (by kernel_rfl) (by kernel_rfl) (by kernel_rfl) (fun _ _ _ h => h) (Or.inl ⟨by kernel_rfl, by intro w hS; have hc := (hS.cell 0).trans (show (mc (p, (sN : Int), i, (aN : Int), q))[0]? = some (.int .i64 p) from rfl); go_simp⟩) R8 ?_
    simp only [Act.put, List.getElem_toArray, List.getElem_cons_succ, List.getElem_cons_zero, List.setIfInBounds_toArray, List.set_cons_zero, List.set_cons_succ]
    refine wpAnyH_take (i := 2) (v := .pointer (some ⟨b8, 3, none⟩)) rfl (by kernel_rfl) (by kernel_rfl) (by kernel_rfl) (fun _ _ _ h => h) (Or.inl ⟨by kernel_rfl, by intro w hS; go_simp⟩) R8 ?_
    simp only [Act.put, List.getElem_toArray, List.getElem_cons_succ, List.getElem_cons_zero, List.setIfInBounds_toArray, List.set_cons_zero, List.set_cons_succ]
    refine wpAnyH_take (i := 3) (v := .int .i64 (aN : Int)) rfl (by kernel_rfl) (by kernel_rfl) (by kernel_rfl) (fun _ _ _ h => h) (Or.inl ⟨by kernel_rfl, by intro w hS; have hc := (hS.cell 3).trans (show (mc (p, (sN : Int), i, (aN : Int), q))[3]? = some (.int .i64 (aN : Int)) from rfl); go_simp⟩) R8 ?_
    simp only [Act.put, List.getElem_toArray, List.getElem_cons_succ, List.getElem_cons_zero, List.setIfInBounds_toArray, List.set_cons_zero, List.set_cons_succ]
    refine wpAnyH_take (i := 4) (v := .pointer (some ⟨b8, 4, none⟩)) rfl (by kernel_rfl) (by kernel_rfl) (by kernel_rfl) (fun _ _ _ h => h) (Or.inl ⟨by kernel_rfl, by intro w hS; go_simp⟩) R8 ?_
    simp only [Act.put, List.getElem_toArray, List.getElem_cons_succ, List.getElem_cons_zero, List.setIfInBounds_toArray, List.set_cons_zero, List.set_cons_succ]
    refine wpAnyH_take (i := 5) (v := .int .i64 q) rfl (by kernel_rfl) (by kernel_rfl) (by kernel_rfl) (fun _ _ _ h => h) (Or.inl ⟨by kernel_rfl, by intro w hS; have hc := (hS.cell 4).trans (show (mc (p, (sN : Int), i, (aN : Int), q))[4]? = some (.int .i64 q) from rfl); go_simp⟩) R8 ?_
    simp only [Act.put, List.getElem_toArray, List.getElem_cons_succ, List.getElem_cons_zero, List.setIfInBounds_toArray, List.set_cons_zero, List.set_cons_succ]
    refine wpAnyH_take (i := 6) (v := .agg #[.int .i64 p, .int .i64 (aN : Int), .int .i64 q]) rfl (by kernel_rfl) (by kernel_rfl) (by kernel_rfl) (fun _ _ _ h => h) (yields_bpl (.tmp 80) (.tmp 82) (.tmp 84) rfl (by kernel_rfl) p (aN : Int) q (by kernel_rfl) (by kernel_rfl) (by kernel_rfl)) R8 ?_
    simp only [Act.put, List.getElem_toArray, List.getElem_cons_succ, List.getElem_cons_zero, List.setIfInBounds_toArray, List.set_cons_zero, List.set_cons_succ]
    refine wpAnyH_take (i := 7) (v := .pointer (some ⟨b8, 0, none⟩)) rfl (by kernel_rfl) (by kernel_rfl) (by kernel_rfl) (fun _ _ _ h => h) (Or.inl ⟨by kernel_rfl, by intro w hS; go_simp⟩) R8 ?_
    simp only [Act.put, List.getElem_toArray, List.getElem_cons_succ, List.getElem_cons_zero, List.setIfInBounds_toArray, List.set_cons_zero, List.set_cons_succ]
    refine wpAnyH_take (i := 8) (v := .int .i64 p) rfl (by kernel_rfl) (by kernel_rfl) (by kernel_rfl) (fun _ _ _ h => h) (Or.inl ⟨by kernel_rfl, by intro w hS; have hc := (hS.cell 0).trans (show (mc (p, (sN : Int), i, (aN : Int), q))[0]? = some (.int .i64 p) from rfl); go_simp⟩) R8 ?_
    simp only [Act.put, List.getElem_toArray, List.getElem_cons_succ, List.getElem_cons_zero, List.setIfInBounds_toArray, List.set_cons_zero, List.set_cons_succ]
    refine wpAnyH_take (i := 9) (v := .pointer (some ⟨b8, 1, none⟩)) rfl (by kernel_rfl) (by kernel_rfl) (by kernel_rfl) (fun _ _ _ h => h) (Or.inl ⟨by kernel_rfl, by intro w hS; go_simp⟩) R8 ?_
    simp only [Act.put, List.getElem_toArray, List.getElem_cons_succ, List.getElem_cons_zero, List.setIfInBounds_toArray, List.set_cons_zero, List.set_cons_succ]
    refine wpAnyH_take (i := 10) (v := .int .i64 (sN : Int)) rfl (by kernel_rfl) (by kernel_rfl) (by kernel_rfl) (fun _ _ _ h => h) (Or.inl ⟨by kernel_rfl, by intro w hS; have hc := (hS.cell 1).trans (show (mc (p, (sN : Int), i, (aN : Int), q))[1]? = some (.int .i64 (sN : Int)) from rfl); go_simp⟩) R8 ?_
    simp only [Act.put, List.getElem_toArray, List.getElem_cons_succ, List.getElem_cons_zero, List.setIfInBounds_toArray, List.set_cons_zero, List.set_cons_succ]
    refine wpAnyH_take (i := 11) (v := .pointer (some ⟨b8, 2, none⟩)) rfl (by kernel_rfl) (by kernel_rfl) (by kernel_rfl) (fun _ _ _ h => h) (Or.inl ⟨by kernel_rfl, by intro w hS; go_simp⟩) R8 ?_
    simp only [Act.put, List.getElem_toArray, List.getElem_cons_succ, List.getElem_cons_zero, List.setIfInBounds_toArray, List.set_cons_zero, List.set_cons_succ]
    refine wpAnyH_take (i := 12) (v := .int .i64 i) rfl (by kernel_rfl) (by kernel_rfl) (by kernel_rfl) (fun _ _ _ h => h) (Or.inl ⟨by kernel_rfl, by intro w hS; have hc := (hS.cell 2).trans (show (mc (p, (sN : Int), i, (aN : Int), q))[2]? = some (.int .i64 i) from rfl); go_simp⟩) R8 ?_
    simp only [Act.put, List.getElem_toArray, List.getElem_cons_succ, List.getElem_cons_zero, List.setIfInBounds_toArray, List.set_cons_zero, List.set_cons_succ]
    refine wpAnyH_take (i := 13) (v := .agg #[.int .i64 p, .int .i64 (sN : Int), .int .i64 i]) rfl (by kernel_rfl) (by kernel_rfl) (by kernel_rfl) (fun _ _ _ h => h) (yields_bpr (.tmp 87) (.tmp 89) (.tmp 91) rfl (by kernel_rfl) p (sN : Int) i (by kernel_rfl) (by kernel_rfl) (by kernel_rfl)) R8 ?_
    simp only [Act.put, List.getElem_toArray, List.getElem_cons_succ, List.getElem_cons_zero, List.setIfInBounds_toArray, List.set_cons_zero, List.set_cons_succ]
    refine wpAnyH_ready (rs := [14, 15]) (by kernel_rfl) (by simp) ?_
    refine AllReadyH.cons rfl (fun K hK => ?_) ?_
    · rw [if_pos (by kernel_rfl)]
      refine wp_allocG 76 rfl _ pl_zero ?_; intro b12 w9 l9 R9 h9; (first | replace h9 := below_undrG h9 | skip); replace G := G.alloc l9 R9 h9; clear R9 h9 l9; replace R8 : Row 32 _ b8 (mc (p, (sN : Int), i, (aN : Int), q)) := (by first | exact G.bd.row 1 rfl | exact G.bd.row 2 rfl)
      refine hK.out _ _ R8 (fun _ => ?_)
      clear hK K
      try simp only [Act.put, List.getElem_toArray, List.getElem_cons_succ, List.getElem_cons_zero, List.setIfInBounds_toArray, List.set_cons_zero, List.set_cons_succ]
      refine wpAnyH_ready (rs := [15]) (by kernel_rfl) (by simp) ?_
      refine AllReadyH.cons rfl (fun K hK => ?_) ?_
      · rw [if_pos (by kernel_rfl)]
        refine wp_allocG 78 rfl _ pr_zero ?_; intro b13 w9 l9 R9 h9; (first | replace h9 := below_undrG h9 | skip); replace G := G.alloc l9 R9 h9; clear R9 h9 l9; replace R8 : Row 32 _ b8 (mc (p, (sN : Int), i, (aN : Int), q)) := (by first | exact G.bd.row 1 rfl | exact G.bd.row 2 rfl)
        refine hK.out _ _ R8 (fun _ => ?_)
        clear hK K
        try simp only [Act.put, List.getElem_toArray, List.getElem_cons_succ, List.getElem_cons_zero, List.setIfInBounds_toArray, List.set_cons_zero, List.set_cons_succ]
        refine wpAnyH_ready (rs := [16]) (by kernel_rfl) (by simp) ?_
        refine AllReadyH.cons rfl (fun K hK => ?_) ?_
        · rw [if_pos (by kernel_rfl)]
          (first | refine wp_storeR 76 (.tmp 12) (.tmp 85) rfl b12 (by kernel_rfl) #[.int .i64 p, .int .i64 (aN : Int), .int .i64 q] (by kernel_rfl) _ (G.bd.row 0 rfl) rfl (pl3_info (p, (sN : Int), i, (aN : Int), q)) (pl3_one (p, (sN : Int), i, (aN : Int), q)) ?_ | refine wp_storeR 76 (.tmp 12) (.tmp 85) rfl b12 (by kernel_rfl) #[.int .i64 p, .int .i64 (aN : Int), .int .i64 q] (by kernel_rfl) _ (G.bd.row 1 rfl) rfl (pl3_info (p, (sN : Int), i, (aN : Int), q)) (pl3_one (p, (sN : Int), i, (aN : Int), q)) ?_); intro w9 R9 t9; (first | replace t9 := turned_undrG t9 | skip); (first | replace G := G.turn 0 rfl R9 t9 | replace G := G.turn 1 rfl R9 t9); clear R9 t9; replace R8 : Row 32 _ b8 (mc (p, (sN : Int), i, (aN : Int), q)) := G.bd.row 2 rfl
          refine hK.out _ _ R8 (fun _ => ?_)
          clear hK K
          try simp only [Act.put, List.getElem_toArray, List.getElem_cons_succ, List.getElem_cons_zero, List.setIfInBounds_toArray, List.set_cons_zero, List.set_cons_succ]
          refine wpAnyH_ready (rs := [17]) (by kernel_rfl) (by simp) ?_
          refine AllReadyH.cons rfl (fun K hK => ?_) ?_
          · rw [if_pos (by kernel_rfl)]
            (first | refine wp_storeR 78 (.tmp 13) (.tmp 92) rfl b13 (by kernel_rfl) #[.int .i64 p, .int .i64 (sN : Int), .int .i64 i] (by kernel_rfl) _ (G.bd.row 0 rfl) rfl (pr3a_info (p, (sN : Int), i, (aN : Int), q)) (pr3a_one (p, (sN : Int), i, (aN : Int), q)) ?_ | refine wp_storeR 78 (.tmp 13) (.tmp 92) rfl b13 (by kernel_rfl) #[.int .i64 p, .int .i64 (sN : Int), .int .i64 i] (by kernel_rfl) _ (G.bd.row 1 rfl) rfl (pr3a_info (p, (sN : Int), i, (aN : Int), q)) (pr3a_one (p, (sN : Int), i, (aN : Int), q)) ?_); intro w9 R9 t9; (first | replace t9 := turned_undrG t9 | skip); (first | replace G := G.turn 0 rfl R9 t9 | replace G := G.turn 1 rfl R9 t9); clear R9 t9; replace R8 : Row 32 _ b8 (mc (p, (sN : Int), i, (aN : Int), q)) := G.bd.row 2 rfl
            refine hK.out _ _ R8 (fun _ => ?_)
            clear hK K
            try simp only [Act.put, List.getElem_toArray, List.getElem_cons_succ, List.getElem_cons_zero, List.setIfInBounds_toArray, List.set_cons_zero, List.set_cons_succ]
            refine wpAnyH_done (by kernel_rfl) ?_ _
            refine NoPanic.normal ?_
            go_wp2_with fail
            go_meet
            case rel => first | exact ⟨b12, b13, rfl, rfl, rfl, G⟩ | exact ⟨b12, b13, rfl, rfl, rfl, G.swap⟩
          exact AllReadyH.nil
        exact AllReadyH.nil
      exact AllReadyH.nil
    refine AllReadyH.cons rfl (fun K hK => ?_) ?_
    · rw [if_pos (by kernel_rfl)]
      refine wp_allocG 78 rfl _ pr_zero ?_; intro b13 w9 l9 R9 h9; (first | replace h9 := below_undrG h9 | skip); replace G := G.alloc l9 R9 h9; clear R9 h9 l9; replace R8 : Row 32 _ b8 (mc (p, (sN : Int), i, (aN : Int), q)) := (by first | exact G.bd.row 1 rfl | exact G.bd.row 2 rfl)
      refine hK.out _ _ R8 (fun _ => ?_)
      clear hK K
      try simp only [Act.put, List.getElem_toArray, List.getElem_cons_succ, List.getElem_cons_zero, List.setIfInBounds_toArray, List.set_cons_zero, List.set_cons_succ]
      refine wpAnyH_ready (rs := [14]) (by kernel_rfl) (by simp) ?_
      refine AllReadyH.cons rfl (fun K hK => ?_) ?_
      · rw [if_pos (by kernel_rfl)]
        refine wp_allocG 76 rfl _ pl_zero ?_; intro b12 w9 l9 R9 h9; (first | replace h9 := below_undrG h9 | skip); replace G := G.alloc l9 R9 h9; clear R9 h9 l9; replace R8 : Row 32 _ b8 (mc (p, (sN : Int), i, (aN : Int), q)) := (by first | exact G.bd.row 1 rfl | exact G.bd.row 2 rfl)
        refine hK.out _ _ R8 (fun _ => ?_)
        clear hK K
        try simp only [Act.put, List.getElem_toArray, List.getElem_cons_succ, List.getElem_cons_zero, List.setIfInBounds_toArray, List.set_cons_zero, List.set_cons_succ]
        refine wpAnyH_ready (rs := [16]) (by kernel_rfl) (by simp) ?_
        refine AllReadyH.cons rfl (fun K hK => ?_) ?_
        · rw [if_pos (by kernel_rfl)]
          (first | refine wp_storeR 76 (.tmp 12) (.tmp 85) rfl b12 (by kernel_rfl) #[.int .i64 p, .int .i64 (aN : Int), .int .i64 q] (by kernel_rfl) _ (G.bd.row 0 rfl) rfl (pl3_info (p, (sN : Int), i, (aN : Int), q)) (pl3_one (p, (sN : Int), i, (aN : Int), q)) ?_ | refine wp_storeR 76 (.tmp 12) (.tmp 85) rfl b12 (by kernel_rfl) #[.int .i64 p, .int .i64 (aN : Int), .int .i64 q] (by kernel_rfl) _ (G.bd.row 1 rfl) rfl (pl3_info (p, (sN : Int), i, (aN : Int), q)) (pl3_one (p, (sN : Int), i, (aN : Int), q)) ?_); intro w9 R9 t9; (first | replace t9 := turned_undrG t9 | skip); (first | replace G := G.turn 0 rfl R9 t9 | replace G := G.turn 1 rfl R9 t9); clear R9 t9; replace R8 : Row 32 _ b8 (mc (p, (sN : Int), i, (aN : Int), q)) := G.bd.row 2 rfl
          refine hK.out _ _ R8 (fun _ => ?_)
          clear hK K
          try simp only [Act.put, List.getElem_toArray, List.getElem_cons_succ, List.getElem_cons_zero, List.setIfInBounds_toArray, List.set_cons_zero, List.set_cons_succ]
          refine wpAnyH_ready (rs := [17]) (by kernel_rfl) (by simp) ?_
          refine AllReadyH.cons rfl (fun K hK => ?_) ?_
          · rw [if_pos (by kernel_rfl)]
            (first | refine wp_storeR 78 (.tmp 13) (.tmp 92) rfl b13 (by kernel_rfl) #[.int .i64 p, .int .i64 (sN : Int), .int .i64 i] (by kernel_rfl) _ (G.bd.row 0 rfl) rfl (pr3a_info (p, (sN : Int), i, (aN : Int), q)) (pr3a_one (p, (sN : Int), i, (aN : Int), q)) ?_ | refine wp_storeR 78 (.tmp 13) (.tmp 92) rfl b13 (by kernel_rfl) #[.int .i64 p, .int .i64 (sN : Int), .int .i64 i] (by kernel_rfl) _ (G.bd.row 1 rfl) rfl (pr3a_info (p, (sN : Int), i, (aN : Int), q)) (pr3a_one (p, (sN : Int), i, (aN : Int), q)) ?_); intro w9 R9 t9; (first | replace t9 := turned_undrG t9 | skip); (first | replace G := G.turn 0 rfl R9 t9 | replace G := G.turn 1 rfl R9 t9); clear R9 t9; replace R8 : Row 32 _ b8 (mc (p, (sN : Int), i, (aN : Int), q)) := G.bd.row 2 rfl
            refine hK.out _ _ R8 (fun _ => ?_)
            clear hK K
            try simp only [Act.put, List.getElem_toArray, List.getElem_cons_succ, List.getElem_cons_zero, List.setIfInBounds_toArray, List.set_cons_zero, List.set_cons_succ]
            refine wpAnyH_done (by kernel_rfl) ?_ _
            refine NoPanic.normal ?_
            go_wp2_with fail
            go_meet
            case rel => first | exact ⟨b12, b13, rfl, rfl, rfl, G⟩ | exact ⟨b12, b13, rfl, rfl, rfl, G.swap⟩
          exact AllReadyH.nil
        exact AllReadyH.nil
      exact AllReadyH.nil
    exact AllReadyH.nil
  case rest =>
    clear G R8
    obtain ⟨b12, b13, rfl, rfl, rfl, G⟩ := hcut
    have H18 : Hid (6 * aN + kN < 18) := hidB (by have := H50.out; have := HK6.out; omega)
    obtain ⟨dH, hdH⟩ : ∃ d, IntKind.i64.wrap (h sN - 1) = d := ⟨_, rfl⟩
    obtain ⟨dO, hdO⟩ : ∃ d, IntKind.i64.wrap (f (6 * aN + kN) - 1) = d := ⟨_, rfl⟩
    have EH : Hid (IntKind.i64.wrap (h sN - 1) = dH) := hdH
    have EO : Hid (IntKind.i64.wrap (f (6 * aN + kN) - 1) = dO) := hdO
    have hc3 := dec_ne (x := h sN) (y := (aN : Int)) (hwH sN HS8.out) ⟨by omega, by have := H50.out; omega⟩
    have hc4 := dec_ne (x := f (6 * aN + kN)) (y := (sN : Int)) (good_wf hgp _ H18.out) ⟨by omega, by have := HS8.out; omega⟩
    rw [hdH] at hc3
    rw [hdO] at hc4
    clear hdH hdO
    have C3 : Hid ((dH != (aN : Int)) = true) := hidB (by rw [hc3]; have := E5.out; simp at this; simp [this])
    clear hc3 hc4
    go_upto_region 13 with (fail)
    refine wp_region_noPanic ?_
    refine wp_region_held_drew (S := fun W => Gm w W [(b12, 76, #[.int .i64 p, .int .i64 (aN : Int), .int .i64 q]), (b13, 78, #[.int .i64 p, .int .i64 (sN : Int), .int .i64 i]), (b8, 32, mc (p, (sN : Int), i, (aN : Int), q)), (b1, 30, tc f g h (.slice a0 n cap))] [] [entI 3 k1v wf6 b6 n6 (nOf (ms.take j)), entI 79 k2 ok2 b5 n5 (nPl (ms.take j)), entB 78 k3 ok3 b4 n4 (sIn (ms.take j)), entB 76 k3 ok3 b3 n3 (sOut (ms.take j))]) (by kernel_rfl) (by first | exact G | exact G.drew) (fun _ => ?_)
    refine wpAnyH_take (i := 0) (v := .map (some b3)) rfl (by kernel_rfl) (by kernel_rfl) (by kernel_rfl) (fun _ _ _ h => h) (Or.inl ⟨by kernel_rfl, by intro w hS; go_simp⟩) (by first | exact G | exact G.drew) ?_
    simp only [Act.put, List.getElem_toArray, List.getElem_cons_succ, List.getElem_cons_zero, List.setIfInBounds_toArray, List.set_cons_zero, List.set_cons_succ]
    refine wpAnyH_take (i := 1) (v := .agg #[.int .i64 p, .int .i64 (aN : Int), .int .i64 q]) rfl (by kernel_rfl) (by kernel_rfl) (by kernel_rfl) (fun _ _ _ h => h) (yields_loadR 76 (.tmp 12) rfl (by kernel_rfl) b12 (by kernel_rfl) #[.int .i64 p, .int .i64 (aN : Int), .int .i64 q] (fun _ h => h.bd.row 0 rfl) _ Try.underlying76 rfl (pl3_info (p, (sN : Int), i, (aN : Int), q))) (by first | exact G | exact G.drew) ?_
    simp only [Act.put, List.getElem_toArray, List.getElem_cons_succ, List.getElem_cons_zero, List.setIfInBounds_toArray, List.set_cons_zero, List.set_cons_succ]
    refine wpAnyH_take (i := 2) (v := .bool false) rfl (by kernel_rfl) (by kernel_rfl) (by kernel_rfl) (fun _ _ _ h => h) (yields_lk 70 (.tmp 93) (.tmp 94) rfl (by kernel_rfl) (.map (some b3)) (k3 (p, (aN : Int), q)) _ (by kernel_rfl) (by kernel_rfl) (fun w h => by have := MeB.look (h.ent 3 rfl) kyPlace Try.underlying70 (p, (aN : Int), q) HPL.out; rw [E3.out] at this; exact this)) (by first | exact G | exact G.drew) ?_
    simp only [Act.put, List.getElem_toArray, List.getElem_cons_succ, List.getElem_cons_zero, List.setIfInBounds_toArray, List.set_cons_zero, List.set_cons_succ]
    refine wpAnyH_take (i := 3) (v := .bool false) rfl (by kernel_rfl) (by kernel_rfl) (by kernel_rfl) (fun _ _ _ h => h) (Or.inl ⟨by kernel_rfl, by intro w hS; go_simp⟩) (by first | exact G | exact G.drew) ?_
    simp only [Act.put, List.getElem_toArray, List.getElem_cons_succ, List.getElem_cons_zero, List.setIfInBounds_toArray, List.set_cons_zero, List.set_cons_succ]
    refine wpAnyH_take (i := 4) (v := .map (some b4)) rfl (by kernel_rfl) (by kernel_rfl) (by kernel_rfl) (fun _ _ _ h => h) (Or.inl ⟨by kernel_rfl, by intro w hS; go_simp⟩) (by first | exact G | exact G.drew) ?_
    simp only [Act.put, List.getElem_toArray, List.getElem_cons_succ, List.getElem_cons_zero, List.setIfInBounds_toArray, List.set_cons_zero, List.set_cons_succ]
    refine wpAnyH_take (i := 5) (v := .agg #[.int .i64 p, .int .i64 (sN : Int), .int .i64 i]) rfl (by kernel_rfl) (by kernel_rfl) (by kernel_rfl) (fun _ _ _ h => h) (yields_loadR 78 (.tmp 13) rfl (by kernel_rfl) b13 (by kernel_rfl) #[.int .i64 p, .int .i64 (sN : Int), .int .i64 i] (fun _ h => h.bd.row 1 rfl) _ Try.underlying78 rfl (pr3a_info (p, (sN : Int), i, (aN : Int), q))) (by first | exact G | exact G.drew) ?_
    simp only [Act.put, List.getElem_toArray, List.getElem_cons_succ, List.getElem_cons_zero, List.setIfInBounds_toArray, List.set_cons_zero, List.set_cons_succ]
    refine wpAnyH_take (i := 6) (v := .bool false) rfl (by kernel_rfl) (by kernel_rfl) (by kernel_rfl) (fun _ _ _ h => h) (yields_lk 71 (.tmp 97) (.tmp 98) rfl (by kernel_rfl) (.map (some b4)) (k3 (p, (sN : Int), i)) _ (by kernel_rfl) (by kernel_rfl) (fun w h => by have := MeB.look (h.ent 2 rfl) kyPort Try.underlying71 (p, (sN : Int), i) HPR.out; rw [E4.out] at this; exact this)) (by first | exact G | exact G.drew) ?_
    simp only [Act.put, List.getElem_toArray, List.getElem_cons_succ, List.getElem_cons_zero, List.setIfInBounds_toArray, List.set_cons_zero, List.set_cons_succ]
    refine wpAnyH_take (i := 7) (v := .bool false) rfl (by kernel_rfl) (by kernel_rfl) (by kernel_rfl) (fun _ _ _ h => h) (yields_pickf (.tmp 96) (.const (.bool true)) (.tmp 99) _ rfl (by kernel_rfl) (by kernel_rfl) (by kernel_rfl)) (by first | exact G | exact G.drew) ?_
    simp only [Act.put, List.getElem_toArray, List.getElem_cons_succ, List.getElem_cons_zero, List.setIfInBounds_toArray, List.set_cons_zero, List.set_cons_succ]
    refine wpAnyH_take (i := 8) (v := .bool false) rfl (by kernel_rfl) (by kernel_rfl) (by kernel_rfl) (fun _ _ _ h => h) (Or.inl ⟨by kernel_rfl, by intro w hS; go_simp⟩) (by first | exact G | exact G.drew) ?_
    simp only [Act.put, List.getElem_toArray, List.getElem_cons_succ, List.getElem_cons_zero, List.setIfInBounds_toArray, List.set_cons_zero, List.set_cons_succ]
    refine wpAnyH_take (i := 9) (v := .pointer (some ⟨b8, 1, none⟩)) rfl (by kernel_rfl) (by kernel_rfl) (by kernel_rfl) (fun _ _ _ h => h) (Or.inl ⟨by kernel_rfl, by intro w hS; go_simp⟩) (by first | exact G | exact G.drew) ?_
    simp only [Act.put, List.getElem_toArray, List.getElem_cons_succ, List.getElem_cons_zero, List.setIfInBounds_toArray, List.set_cons_zero, List.set_cons_succ]
    refine wpAnyH_take (i := 10) (v := .int .i64 (sN : Int)) rfl (by kernel_rfl) (by kernel_rfl) (by kernel_rfl) (fun _ _ _ h => h) (Or.inl ⟨by kernel_rfl, by intro w hS; have hc := ((hS.bd.row 2 rfl).cell 1).trans (show (mc (p, (sN : Int), i, (aN : Int), q))[1]? = some (.int .i64 (sN : Int)) from rfl); go_simp⟩) (by first | exact G | exact G.drew) ?_
    simp only [Act.put, List.getElem_toArray, List.getElem_cons_succ, List.getElem_cons_zero, List.setIfInBounds_toArray, List.set_cons_zero, List.set_cons_succ]
    refine wpAnyH_take (i := 11) (v := .pointer (some ⟨b1, 21, none⟩)) rfl (by kernel_rfl) (by kernel_rfl) (by kernel_rfl) (fun _ _ _ h => h) (Or.inl ⟨by kernel_rfl, by intro w hS; go_simp⟩) (by first | exact G | exact G.drew) ?_
    simp only [Act.put, List.getElem_toArray, List.getElem_cons_succ, List.getElem_cons_zero, List.setIfInBounds_toArray, List.set_cons_zero, List.set_cons_succ]
    refine wpAnyH_take (i := 12) (v := .pointer (some ⟨b1, 21 + sN, none⟩)) rfl (by kernel_rfl) (by kernel_rfl) (by kernel_rfl) (fun _ _ _ h => h) (yields_ixG 27 (.tmp 104) (.tmp 103) rfl (by kernel_rfl) _ _ _ (by kernel_rfl) (by kernel_rfl) (fun w => ix8 b1 21 sN HS8.out w)) (by first | exact G | exact G.drew) ?_
    simp only [Act.put, List.getElem_toArray, List.getElem_cons_succ, List.getElem_cons_zero, List.setIfInBounds_toArray, List.set_cons_zero, List.set_cons_succ]
    refine wpAnyH_take (i := 13) (v := .int .i64 (h sN)) rfl (by kernel_rfl) (by kernel_rfl) (by kernel_rfl) (fun _ _ _ h => h) (Or.inl ⟨by kernel_rfl, by intro w hS; have hc := ((hS.bd.row 3 rfl).cell (21 + sN)).trans (tc_home _ _ _ _ sN HS8.out); go_simp⟩) (by first | exact G | exact G.drew) ?_
    simp only [Act.put, List.getElem_toArray, List.getElem_cons_succ, List.getElem_cons_zero, List.setIfInBounds_toArray, List.set_cons_zero, List.set_cons_succ]
    refine wpAnyH_take (i := 14) (v := .int .i64 dH) rfl (by kernel_rfl) (by kernel_rfl) (by kernel_rfl) (fun _ _ _ h => h) (yields_dec (.tmp 106) rfl (by kernel_rfl) _ _ (by kernel_rfl) EH.out) (by first | exact G | exact G.drew) ?_
    simp only [Act.put, List.getElem_toArray, List.getElem_cons_succ, List.getElem_cons_zero, List.setIfInBounds_toArray, List.set_cons_zero, List.set_cons_succ]
    refine wpAnyH_take (i := 15) (v := .pointer (some ⟨b8, 3, none⟩)) rfl (by kernel_rfl) (by kernel_rfl) (by kernel_rfl) (fun _ _ _ h => h) (Or.inl ⟨by kernel_rfl, by intro w hS; go_simp⟩) (by first | exact G | exact G.drew) ?_
    simp only [Act.put, List.getElem_toArray, List.getElem_cons_succ, List.getElem_cons_zero, List.setIfInBounds_toArray, List.set_cons_zero, List.set_cons_succ]
    refine wpAnyH_take (i := 16) (v := .int .i64 (aN : Int)) rfl (by kernel_rfl) (by kernel_rfl) (by kernel_rfl) (fun _ _ _ h => h) (Or.inl ⟨by kernel_rfl, by intro w hS; have hc := ((hS.bd.row 2 rfl).cell 3).trans (show (mc (p, (sN : Int), i, (aN : Int), q))[3]? = some (.int .i64 (aN : Int)) from rfl); go_simp⟩) (by first | exact G | exact G.drew) ?_
    simp only [Act.put, List.getElem_toArray, List.getElem_cons_succ, List.getElem_cons_zero, List.setIfInBounds_toArray, List.set_cons_zero, List.set_cons_succ]
    refine wpAnyH_take (i := 17) (v := .bool true) rfl (by kernel_rfl) (by kernel_rfl) (by kernel_rfl) (fun _ _ _ h => h) (yields_nei 3 (.tmp 107) (.tmp 109) _ _ _ rfl (by kernel_rfl) (by kernel_rfl) (by kernel_rfl) C3.out) (by first | exact G | exact G.drew) ?_
    simp only [Act.put, List.getElem_toArray, List.getElem_cons_succ, List.getElem_cons_zero, List.setIfInBounds_toArray, List.set_cons_zero, List.set_cons_succ]
    refine wpAnyH_take (i := 18) (v := .bool true) rfl (by kernel_rfl) (by kernel_rfl) (by kernel_rfl) (fun _ _ _ h => h) (yields_pickf (.tmp 101) (.const (.bool true)) (.tmp 110) _ rfl (by kernel_rfl) (by kernel_rfl) (by kernel_rfl)) (by first | exact G | exact G.drew) ?_
    simp only [Act.put, List.getElem_toArray, List.getElem_cons_succ, List.getElem_cons_zero, List.setIfInBounds_toArray, List.set_cons_zero, List.set_cons_succ]
    refine wpAnyH_take (i := 19) (v := .bool true) rfl (by kernel_rfl) (by kernel_rfl) (by kernel_rfl) (fun _ _ _ h => h) (Or.inl ⟨by kernel_rfl, by intro w hS; go_simp⟩) (by first | exact G | exact G.drew) ?_
    simp only [Act.put, List.getElem_toArray, List.getElem_cons_succ, List.getElem_cons_zero, List.setIfInBounds_toArray, List.set_cons_zero, List.set_cons_succ]
    refine wpAnyH_take (i := 20) (v := undef) rfl (by kernel_rfl) (by kernel_rfl) (by kernel_rfl) (fun _ _ _ h => h) (Or.inr ⟨by kernel_rfl, rfl⟩) (by first | exact G | exact G.drew) ?_
    simp only [Act.put, List.getElem_toArray, List.getElem_cons_succ, List.getElem_cons_zero, List.setIfInBounds_toArray, List.set_cons_zero, List.set_cons_succ]
    refine wpAnyH_take (i := 21) (v := undef) rfl (by kernel_rfl) (by kernel_rfl) (by kernel_rfl) (fun _ _ _ h => h) (Or.inr ⟨by kernel_rfl, rfl⟩) (by first | exact G | exact G.drew) ?_
    simp only [Act.put, List.getElem_toArray, List.getElem_cons_succ, List.getElem_cons_zero, List.setIfInBounds_toArray, List.set_cons_zero, List.set_cons_succ]
    refine wpAnyH_take (i := 22) (v := undef) rfl (by kernel_rfl) (by kernel_rfl) (by kernel_rfl) (fun _ _ _ h => h) (Or.inr ⟨by kernel_rfl, rfl⟩) (by first | exact G | exact G.drew) ?_
    simp only [Act.put, List.getElem_toArray, List.getElem_cons_succ, List.getElem_cons_zero, List.setIfInBounds_toArray, List.set_cons_zero, List.set_cons_succ]
    refine wpAnyH_take (i := 23) (v := undef) rfl (by kernel_rfl) (by kernel_rfl) (by kernel_rfl) (fun _ _ _ h => h) (Or.inr ⟨by kernel_rfl, rfl⟩) (by first | exact G | exact G.drew) ?_
    simp only [Act.put, List.getElem_toArray, List.getElem_cons_succ, List.getElem_cons_zero, List.setIfInBounds_toArray, List.set_cons_zero, List.set_cons_succ]
    refine wpAnyH_take (i := 24) (v := undef) rfl (by kernel_rfl) (by kernel_rfl) (by kernel_rfl) (fun _ _ _ h => h) (Or.inr ⟨by kernel_rfl, rfl⟩) (by first | exact G | exact G.drew) ?_
    simp only [Act.put, List.getElem_toArray, List.getElem_cons_succ, List.getElem_cons_zero, List.setIfInBounds_toArray, List.set_cons_zero, List.set_cons_succ]
    refine wpAnyH_take (i := 25) (v := undef) rfl (by kernel_rfl) (by kernel_rfl) (by kernel_rfl) (fun _ _ _ h => h) (Or.inr ⟨by kernel_rfl, rfl⟩) (by first | exact G | exact G.drew) ?_
    simp only [Act.put, List.getElem_toArray, List.getElem_cons_succ, List.getElem_cons_zero, List.setIfInBounds_toArray, List.set_cons_zero, List.set_cons_succ]
    refine wpAnyH_take (i := 26) (v := undef) rfl (by kernel_rfl) (by kernel_rfl) (by kernel_rfl) (fun _ _ _ h => h) (Or.inr ⟨by kernel_rfl, rfl⟩) (by first | exact G | exact G.drew) ?_
    simp only [Act.put, List.getElem_toArray, List.getElem_cons_succ, List.getElem_cons_zero, List.setIfInBounds_toArray, List.set_cons_zero, List.set_cons_succ]
    refine wpAnyH_take (i := 27) (v := undef) rfl (by kernel_rfl) (by kernel_rfl) (by kernel_rfl) (fun _ _ _ h => h) (Or.inr ⟨by kernel_rfl, rfl⟩) (by first | exact G | exact G.drew) ?_
    simp only [Act.put, List.getElem_toArray, List.getElem_cons_succ, List.getElem_cons_zero, List.setIfInBounds_toArray, List.set_cons_zero, List.set_cons_succ]
    refine wpAnyH_take (i := 28) (v := undef) rfl (by kernel_rfl) (by kernel_rfl) (by kernel_rfl) (fun _ _ _ h => h) (Or.inr ⟨by kernel_rfl, rfl⟩) (by first | exact G | exact G.drew) ?_
    simp only [Act.put, List.getElem_toArray, List.getElem_cons_succ, List.getElem_cons_zero, List.setIfInBounds_toArray, List.set_cons_zero, List.set_cons_succ]
    refine wpAnyH_take (i := 29) (v := undef) rfl (by kernel_rfl) (by kernel_rfl) (by kernel_rfl) (fun _ _ _ h => h) (Or.inr ⟨by kernel_rfl, rfl⟩) (by first | exact G | exact G.drew) ?_
    simp only [Act.put, List.getElem_toArray, List.getElem_cons_succ, List.getElem_cons_zero, List.setIfInBounds_toArray, List.set_cons_zero, List.set_cons_succ]
    refine wpAnyH_take (i := 30) (v := undef) rfl (by kernel_rfl) (by kernel_rfl) (by kernel_rfl) (fun _ _ _ h => h) (Or.inr ⟨by kernel_rfl, rfl⟩) (by first | exact G | exact G.drew) ?_
    simp only [Act.put, List.getElem_toArray, List.getElem_cons_succ, List.getElem_cons_zero, List.setIfInBounds_toArray, List.set_cons_zero, List.set_cons_succ]
    refine wpAnyH_take (i := 31) (v := undef) rfl (by kernel_rfl) (by kernel_rfl) (by kernel_rfl) (fun _ _ _ h => h) (Or.inr ⟨by kernel_rfl, rfl⟩) (by first | exact G | exact G.drew) ?_
    simp only [Act.put, List.getElem_toArray, List.getElem_cons_succ, List.getElem_cons_zero, List.setIfInBounds_toArray, List.set_cons_zero, List.set_cons_succ]
    refine wpAnyH_take (i := 32) (v := .bool true) rfl (by kernel_rfl) (by kernel_rfl) (by kernel_rfl) (fun _ _ _ h => h) (yields_pickt (.tmp 112) (.const (.bool true)) (.tmp 124) _ rfl (by kernel_rfl) (by kernel_rfl) (by kernel_rfl)) (by first | exact G | exact G.drew) ?_
    simp only [Act.put, List.getElem_toArray, List.getElem_cons_succ, List.getElem_cons_zero, List.setIfInBounds_toArray, List.set_cons_zero, List.set_cons_succ]
    refine wpAnyH_done (by kernel_rfl) ?_ _
    refine NoPanic.normal ?_
    go_wp2
    go_ret
    first | exact ⟨false, HNG.out, rfl, G.bd.base⟩ | exact ⟨false, HNG.out, rfl, G.drew.bd.base⟩
end Go.Proofs.Ytmdijjbkjcnbpaa

namespace Go.Proofs.Ytmdijjbkjcnbpaa
open Go.ChangeShapes Go.WideShapes Go.ChangeAt Go.RowKit Go.Maps
set_option linter.unusedSimpArgs false
set_option linter.unusedVariables false

attribute [local irreducible] tc pc
set_option maxRecDepth 1000000 in
set_option maxHeartbeats 8000000 in
theorem gt_c4 {w wr : World} {f : Nat → Int} {g : Nat → Bool} {h : Nat → Int} {ms : List Mp} {b1 b3 b4 b5 b6 : Nat} {a0 : Option Addr} {n cap : Nat} (u2 u7 u8 u9 u10 u11 u12 u13 u14 u15 u16 u17 u18 u19 u20 u21 u22 u23 u24 u25 u26 u27 u31 u32 u33 u34 u35 u36 u37 u38 u39 u40 u41 u42 u43 u44 u45 u46 u47 u48 u49 u50 u51 u52 u53 u54 u55 u56 u57 u58 u59 u60 u61 u62 u63 u64 u65 u66 u67 u68 u69 u70 u71 u72 u73 u74 u75 u76 u77 u78 u79 u80 u81 u82 u83 u84 u85 u86 u87 u88 u89 u90 u91 u92 u93 u94 u95 u96 u97 u98 u99 u100 u101 u102 u103 u104 u105 u106 u107 u108 u109 u110 u111 u112 u113 u114 u115 u116 u117 u118 u119 u120 u121 u122 u123 u124 u125 u126 u127 u128 u129 u130 u131 u132 u133 u134 u135 u136 u137 u138 u139 u140 u141 u142 u143 u144 u145 u146 u147 u148 u149 u150 u151 u152 u153 u154 u155 u156 u157 u158 u159 u160 u161 u162 u163 u164 u165 u166 u167 u168 u169 u170 u171 u172 u173 u174 u175 u176 u177 u178 u179 u180 u181 u182 u183 u184 u185 u186 u187 u188 u189 u190 u191 u192 u193 u194 u195 u196 u197 u198 u199 u200 u201 u202 : Value) (j : Nat) {n6 n5 n4 n3 : Nat}
    (HNs : Hid (n6 ≤ 2 * j ∧ n5 ≤ 2 * j ∧ n4 ≤ 2 * j ∧ n3 ≤ 2 * j)) (G : Gm w wr [(b1, 30, tc f g h (.slice a0 n cap))] [] [entI 3 k1v wf6 b6 n6 (nOf (ms.take j)), entI 79 k2 ok2 b5 n5 (nPl (ms.take j)), entB 78 k3 ok3 b4 n4 (sIn (ms.take j)), entB 76 k3 ok3 b3 n3 (sOut (ms.take j))])
    (HK : Hid (MsOk f h (ms.take j))) (HN : Hid (n = ms.length)) (hM : MapsAt w (.slice a0 n cap) ms) (hwH : wfH h) (hgp : goodP f = true) (hlj : j < ms.length) (m : Mp) (hm : ms[j] = m) (hok : OkM m) (e3 : sOut (ms.take j) (m.1, m.2.2.2.1, m.2.2.2.2) = false) (e4 : sIn (ms.take j) (m.1, m.2.1, m.2.2.1) = false) (e5 : h m.2.1.toNat = m.2.2.2.1 + 1) (e6 : ¬ f (placeM m) = m.2.1 + 1) (Q0 : Exit → Act → World → Prop) (hret : ∀ a w', bodyPost Try.prog Try.f15 (fun e w' => ∃ r : Bool, (r = true ↔ GoodT f h ms) ∧ e = .returned (.bool r) ∧ Below w.heap.size w w') .ret a w' → Q0 .ret a w') :
    Code.wp Try.prog bodyG (Exit.then (fun a' W => WG w f g h ms b1 b3 b4 b5 b6 a0 n cap a' W ∧ WGmu n a' W < WGmu n ⟨#[(.agg (tc f g h (.slice a0 n cap))), .pointer (some ⟨b1, 0, none⟩), u2, .map (some b3), .map (some b4), .map (some b5), .map (some b6), u7, u8, u9, u10, u11, u12, u13, u14, u15, u16, u17, u18, u19, u20, u21, u22, u23, u24, u25, u26, u27, (.slice a0 n cap), .int .i64 (n : Int), .int .i64 (j : Int), u31, u32, u33, u34, u35, u36, u37, u38, u39, u40, u41, u42, u43, u44, u45, u46, u47, u48, u49, u50, u51, u52, u53, u54, u55, u56, u57, u58, u59, u60, u61, u62, u63, u64, u65, u66, u67, u68, u69, u70, u71, u72, u73, u74, u75, u76, u77, u78, u79, u80, u81, u82, u83, u84, u85, u86, u87, u88, u89, u90, u91, u92, u93, u94, u95, u96, u97, u98, u99, u100, u101, u102, u103, u104, u105, u106, u107, u108, u109, u110, u111, u112, u113, u114, u115, u116, u117, u118, u119, u120, u121, u122, u123, u124, u125, u126, u127, u128, u129, u130, u131, u132, u133, u134, u135, u136, u137, u138, u139, u140, u141, u142, u143, u144, u145, u146, u147, u148, u149, u150, u151, u152, u153, u154, u155, u156, u157, u158, u159, u160, u161, u162, u163, u164, u165, u166, u167, u168, u169, u170, u171, u172, u173, u174, u175, u176, u177, u178, u179, u180, u181, u182, u183, u184, u185, u186, u187, u188, u189, u190, u191, u192, u193, u194, u195, u196, u197, u198, u199, u200, u201, u202], []⟩ wr) Q0) ⟨#[(.agg (tc f g h (.slice a0 n cap))), .pointer (some ⟨b1, 0, none⟩), u2, .map (some b3), .map (some b4), .map (some b5), .map (some b6), u7, u8, u9, u10, u11, u12, u13, u14, u15, u16, u17, u18, u19, u20, u21, u22, u23, u24, u25, u26, u27, (.slice a0 n cap), .int .i64 (n : Int), .int .i64 (j : Int), u31, u32, u33, u34, u35, u36, u37, u38, u39, u40, u41, u42, u43, u44, u45, u46, u47, u48, u49, u50, u51, u52, u53, u54, u55, u56, u57, u58, u59, u60, u61, u62, u63, u64, u65, u66, u67, u68, u69, u70, u71, u72, u73, u74, u75, u76, u77, u78, u79, u80, u81, u82, u83, u84, u85, u86, u87, u88, u89, u90, u91, u92, u93, u94, u95, u96, u97, u98, u99, u100, u101, u102, u103, u104, u105, u106, u107, u108, u109, u110, u111, u112, u113, u114, u115, u116, u117, u118, u119, u120, u121, u122, u123, u124, u125, u126, u127, u128, u129, u130, u131, u132, u133, u134, u135, u136, u137, u138, u139, u140, u141, u142, u143, u144, u145, u146, u147, u148, u149, u150, u151, u152, u153, u154, u155, u156, u157, u158, u159, u160, u161, u162, u163, u164, u165, u166, u167, u168, u169, u170, u171, u172, u173, u174, u175, u176, u177, u178, u179, u180, u181, u182, u183, u184, u185, u186, u187, u188, u189, u190, u191, u192, u193, u194, u195, u196, u197, u198, u199, u200, u201, u202], []⟩ wr := by
  conv => arg 2; whnf
  have hlt := hM.lt
  have hjn : (j : Int) < (n : Int) := by have := HN.out; omega
  have hjw := wrap_next hlj hM.len
  have hMW := hM.keep G.bd.base hlt
  have hrg := hMW.at j hlj hm
  have HNG : Hid (false = true ↔ GoodT f h ms) := hidB (notGood hlj (fun hh => e6 (by rw [hm] at hh; exact hh.1.2.2.2.2.2.2)))
  have E3 : Hid (sOut (ms.take j) (m.1, m.2.2.2.1, m.2.2.2.2) = false) := e3
  have E4 : Hid (sIn (ms.take j) (m.1, m.2.1, m.2.2.1) = false) := e4
  have E5 : Hid (h m.2.1.toNat = m.2.2.2.1 + 1) := e5
  have E6 : Hid (¬ f (placeM m) = m.2.1 + 1) := e6
  clear e3 e4 e5 e6
  obtain ⟨hq, hip, hs, hi, ha⟩ := hok
  have HOK : Hid (OkM m) := ⟨hq, hip, hs, hi, ha⟩
  obtain ⟨p, s, i, a, q⟩ := m
  simp only at hq hip hs hi ha
  obtain ⟨sN, rfl⟩ : ∃ sN : Nat, s = (sN : Int) := ⟨s.toNat, by omega⟩
  obtain ⟨aN, rfl⟩ : ∃ aN : Nat, a = (aN : Int) := ⟨a.toNat, by omega⟩
  obtain ⟨kN, hkN⟩ : ∃ kN : Nat, blkQ q = (kN : Int) := ⟨(blkQ q).toNat, by unfold blkQ; omega⟩
  have HKN : Hid (blkQ q = (kN : Int)) := hkN
  have HS8 : Hid (sN < 8) := hidB (by omega)
  have H50 : Hid (aN < 3) := hidB (by omega)
  have HK6 : Hid (kN < 6) := hidB (by unfold blkQ at hkN; omega)
  have HPL : Hid (ok3 (p, (aN : Int), q)) := hidB ⟨isP_wf hip, wf6_of (by show -9223372036854775808 ≤ (aN : Int) ∧ (aN : Int) ≤ _; omega), wf6_of (by show -9223372036854775808 ≤ q ∧ q ≤ _; omega)⟩
  have HPR : Hid (ok3 (p, (sN : Int), i)) := hidB ⟨isP_wf hip, wf6_of (by show -9223372036854775808 ≤ (sN : Int) ∧ (sN : Int) ≤ _; omega), wf6_of (by show -9223372036854775808 ≤ i ∧ i ≤ _; omega)⟩
  have HTW : Hid (ok2 ((aN : Int), (kN : Int))) := hidB ⟨wf6_of (by show -9223372036854775808 ≤ (aN : Int) ∧ (aN : Int) ≤ _; omega), wf6_of (by unfold blkQ at hkN; show -9223372036854775808 ≤ (kN : Int) ∧ (kN : Int) ≤ _; omega)⟩
  have HSW : Hid (wf6 (sN : Int)) := hidB (wf6_of (by omega))
  have CB := fun w => blockOf_in q w hq
  rw [hkN] at CB
  have CI := fun w => isProto_ref p w
  rw [hip] at CI
  have d1 : decide ((sN : Int) < 0) = false := decide_eq_false (by omega)
  have d2 : decide (7 < (sN : Int)) = false := decide_eq_false (by omega)
  have d3 : decide (i < 0) = false := decide_eq_false (by omega)
  have d4 : decide (65535 < i) = false := decide_eq_false (by omega)
  have d5 : decide ((aN : Int) < 0) = false := decide_eq_false (by omega)
  have d6 : decide (2 < (aN : Int)) = false := decide_eq_false (by omega)
  clear hq hip hs hi ha hkN
  go_upto_region 12 with (first | (refine wpList_indexM rfl (.tmp 28) (.tmp 30) rfl (.slice a0 n cap) ms hMW rfl j rfl hlj ?_) | ((with_reducible refine at_opB (.load 32 (.tmp 32)) rfl ?_); refine wpList_load_mid rfl 32 _ rfl _ _ rfl (mcl (p, (sN : Int), i, (aN : Int), q)) _ hrg Try.underlying32 rfl (mcl_info (p, (sN : Int), i, (aN : Int), q)) ?_; rw [mcl_mc]) | ((with_reducible refine at_opB (.alloc 32) rfl ?_); refine wpList_allocX 8 32 rfl rfl rfl _ map_zero ?_; intro b8 w9 l9 R9 h9; replace G := G.alloc l9 R9 h9; clear R9 h9 l9) | ((with_reducible refine at_opB (.store 32 (.tmp 8) (.tmp 33)) rfl ?_); refine wpList_storeR 32 rfl (.tmp 8) _ rfl b8 rfl (mc (p, (sN : Int), i, (aN : Int), q)) rfl _ (G.bd.row 0 rfl) rfl (mc_info _) (mc_one _) ?_; intro w9 R9 t9; replace G := G.turn 0 rfl R9 t9; clear R9 t9) | ((with_reducible refine at_opB (.load 3 (.tmp 35)) rfl ?_); refine wpList_loadF (G.bd.row 0 rfl) _ rfl (by kernel_rfl) 4 rfl (q) rfl ?_) | (go_at_call 13; refine (CB _).mono ?_; rintro e w' ⟨rfl, hw⟩; rw [hw]; clear hw w') | ((with_reducible refine at_opB (.load 3 (.tmp 44)) rfl ?_); refine wpList_loadF (G.bd.row 0 rfl) _ rfl (by kernel_rfl) 0 rfl (p) rfl ?_) | ((with_reducible refine at_opB (.load 3 (.tmp 50)) rfl ?_); refine wpList_loadF (G.bd.row 0 rfl) _ rfl (by kernel_rfl) 1 rfl ((sN : Int)) rfl ?_) | ((with_reducible refine at_opB (.load 3 (.tmp 55)) rfl ?_); refine wpList_loadF (G.bd.row 0 rfl) _ rfl (by kernel_rfl) 1 rfl ((sN : Int)) rfl ?_) | ((with_reducible refine at_opB (.load 3 (.tmp 60)) rfl ?_); refine wpList_loadF (G.bd.row 0 rfl) _ rfl (by kernel_rfl) 2 rfl (i) rfl ?_) | ((with_reducible refine at_opB (.load 3 (.tmp 65)) rfl ?_); refine wpList_loadF (G.bd.row 0 rfl) _ rfl (by kernel_rfl) 2 rfl (i) rfl ?_) | ((with_reducible refine at_opB (.load 3 (.tmp 70)) rfl ?_); refine wpList_loadF (G.bd.row 0 rfl) _ rfl (by kernel_rfl) 3 rfl ((aN : Int)) rfl ?_) | ((with_reducible refine at_opB (.load 3 (.tmp 75)) rfl ?_); refine wpList_loadF (G.bd.row 0 rfl) _ rfl (by kernel_rfl) 3 rfl ((aN : Int)) rfl ?_) | (go_at_call 36; refine (CI _).mono ?_; rintro e w' ⟨rfl, hw⟩; rw [hw]; clear hw w'))
  clear d1 d2 d3 d4 d5 d6 CB CI
  (try dsimp only [Act.put]); (try simp only [List.getElem_toArray, List.getElem_cons_succ, List.getElem_cons_zero, List.setIfInBounds_toArray, List.set_cons_zero, List.set_cons_succ])
  have R8 : Row 32 _ b8 (mc (p, (sN : Int), i, (aN : Int), q)) := G.bd.row 0 rfl
  go_cut [12, 13, 30] from 30 to 144 (fun s12 s13 s30 wx => ∃ b12 b13, s12 = .pointer (some ⟨b12, 0, none⟩) ∧ s13 = .pointer (some ⟨b13, 0, none⟩) ∧ s30 = .int .i64 (j : Int) ∧ Gm w wx [(b12, 76, #[.int .i64 p, .int .i64 (aN : Int), .int .i64 q]), (b13, 78, #[.int .i64 p, .int .i64 (sN : Int), .int .i64 i]), (b8, 32, mc (p, (sN : Int), i, (aN : Int), q)), (b1, 30, tc f g h (.slice a0 n cap))] [] [entI 3 k1v wf6 b6 n6 (nOf (ms.take j)), entI 79 k2 ok2 b5 n5 (nPl (ms.take j)), entB 78 k3 ok3 b4 n4 (sIn (ms.take j)), entB 76 k3 ok3 b3 n3 (sOut (ms.take j))])
  case first =>
    refine wp_region_noPanic ?_
    refine wp_region_held_drew (S := fun W => Row 32 W b8 (mc (p, (sN : Int), i, (aN : Int), q))) (by kernel_rfl) R8 (fun _ => ?_)
    refine wpAnyH_take (i := 0) (v := .pointer (some ⟨b8, 0, none⟩)) rfl (by kernel_rfl) (by kernel_rfl) (by kernel_rfl) (fun _ _ _ h => h) (Or.inl ⟨by kernel_rfl, by intro w hS; go_simp⟩) R8 ?_
    simp only [Act.put, List.getElem_toArray, List.getElem_cons_succ, List.getElem_cons_zero, List.setIfInBounds_toArray, List.set_cons_zero, List.set_cons_succ]
    refine wpAnyH_take (i := 1) (v := .int .i64 p) rfl (by kernel_rfl) (by kernel_rfl) (by kernel_rfl) (fun _ _ _ h => h) (Or.inl ⟨by kernel_rfl, by intro w hS; have hc := (hS.cell 0).trans (show (mc (p, (sN : Int), i, (aN : Int), q))[0]? = some (.int .i64 p) from rfl); go_simp⟩) R8 ?_
    simp only [Act.put, List.getElem_toArray, List.getElem_cons_succ, List.getElem_cons_zero, List.setIfInBounds_toArray, List.set_cons_zero, List.set_cons_succ]
    refine wpAnyH_take (i := 2) (v := .pointer (some ⟨b8, 3, none⟩)) rfl (by kernel_rfl) (by kernel_rfl) (by kernel_rfl) (fun _ _ _ h => h) (Or.inl ⟨by kernel_rfl, by intro w hS; go_simp⟩) R8 ?_
    simp only [Act.put, List.getElem_toArray, List.getElem_cons_succ, List.getElem_cons_zero, List.setIfInBounds_toArray, List.set_cons_zero, List.set_cons_succ]
    refine wpAnyH_take (i := 3) (v := .int .i64 (aN : Int)) rfl (by kernel_rfl) (by kernel_rfl) (by kernel_rfl) (fun _ _ _ h => h) (Or.inl ⟨by kernel_rfl, by intro w hS; have hc := (hS.cell 3).trans (show (mc (p, (sN : Int), i, (aN : Int), q))[3]? = some (.int .i64 (aN : Int)) from rfl); go_simp⟩) R8 ?_
    simp only [Act.put, List.getElem_toArray, List.getElem_cons_succ, List.getElem_cons_zero, List.setIfInBounds_toArray, List.set_cons_zero, List.set_cons_succ]
    refine wpAnyH_take (i := 4) (v := .pointer (some ⟨b8, 4, none⟩)) rfl (by kernel_rfl) (by kernel_rfl) (by kernel_rfl) (fun _ _ _ h => h) (Or.inl ⟨by kernel_rfl, by intro w hS; go_simp⟩) R8 ?_
    simp only [Act.put, List.getElem_toArray, List.getElem_cons_succ, List.getElem_cons_zero, List.setIfInBounds_toArray, List.set_cons_zero, List.set_cons_succ]
    refine wpAnyH_take (i := 5) (v := .int .i64 q) rfl (by kernel_rfl) (by kernel_rfl) (by kernel_rfl) (fun _ _ _ h => h) (Or.inl ⟨by kernel_rfl, by intro w hS; have hc := (hS.cell 4).trans (show (mc (p, (sN : Int), i, (aN : Int), q))[4]? = some (.int .i64 q) from rfl); go_simp⟩) R8 ?_
    simp only [Act.put, List.getElem_toArray, List.getElem_cons_succ, List.getElem_cons_zero, List.setIfInBounds_toArray, List.set_cons_zero, List.set_cons_succ]
    refine wpAnyH_take (i := 6) (v := .agg #[.int .i64 p, .int .i64 (aN : Int), .int .i64 q]) rfl (by kernel_rfl) (by kernel_rfl) (by kernel_rfl) (fun _ _ _ h => h) (yields_bpl (.tmp 80) (.tmp 82) (.tmp 84) rfl (by kernel_rfl) p (aN : Int) q (by kernel_rfl) (by kernel_rfl) (by kernel_rfl)) R8 ?_
    simp only [Act.put, List.getElem_toArray, List.getElem_cons_succ, List.getElem_cons_zero, List.setIfInBounds_toArray, List.set_cons_zero, List.set_cons_succ]
    refine wpAnyH_take (i := 7) (v := .pointer (some ⟨b8, 0, none⟩)) rfl (by kernel_rfl) (by kernel_rfl) (by kernel_rfl) (fun _ _ _ h => h) (Or.inl ⟨by kernel_rfl, by intro w hS; go_simp⟩) R8 ?_
    simp only [Act.put, List.getElem_toArray, List.getElem_cons_succ, List.getElem_cons_zero, List.setIfInBounds_toArray, List.set_cons_zero, List.set_cons_succ]
    refine wpAnyH_take (i := 8) (v := .int .i64 p) rfl (by kernel_rfl) (by kernel_rfl) (by kernel_rfl) (fun _ _ _ h => h) (Or.inl ⟨by kernel_rfl, by intro w hS; have hc := (hS.cell 0).trans (show (mc (p, (sN : Int), i, (aN : Int), q))[0]? = some (.int .i64 p) from rfl); go_simp⟩) R8 ?_
    simp only [Act.put, List.getElem_toArray, List.getElem_cons_succ, List.getElem_cons_zero, List.setIfInBounds_toArray, List.set_cons_zero, List.set_cons_succ]
    refine wpAnyH_take (i := 9) (v := .pointer (some ⟨b8, 1, none⟩)) rfl (by kernel_rfl) (by kernel_rfl) (by kernel_rfl) (fun _ _ _ h => h) (Or.inl ⟨by kernel_rfl, by intro w hS; go_simp⟩) R8 ?_
    simp only [Act.put, List.getElem_toArray, List.getElem_cons_succ, List.getElem_cons_zero, List.setIfInBounds_toArray, List.set_cons_zero, List.set_cons_succ]
    refine wpAnyH_take (i := 10) (v := .int .i64 (sN : Int)) rfl (by kernel_rfl) (by kernel_rfl) (by kernel_rfl) (fun _ _ _ h => h) (Or.inl ⟨by kernel_rfl, by intro w hS; have hc := (hS.cell 1).trans (show (mc (p, (sN : Int), i, (aN : Int), q))[1]? = some (.int .i64 (sN : Int)) from rfl); go_simp⟩) R8 ?_
    simp only [Act.put, List.getElem_toArray, List.getElem_cons_succ, List.getElem_cons_zero, List.setIfInBounds_toArray, List.set_cons_zero, List.set_cons_succ]
    refine wpAnyH_take (i := 11) (v := .pointer (some ⟨b8, 2, none⟩)) rfl (by kernel_rfl) (by kernel_rfl) (by kernel_rfl) (fun _ _ _ h => h) (Or.inl ⟨by kernel_rfl, by intro w hS; go_simp⟩) R8 ?_
    simp only [Act.put, List.getElem_toArray, List.getElem_cons_succ, List.getElem_cons_zero, List.setIfInBounds_toArray, List.set_cons_zero, List.set_cons_succ]
    refine wpAnyH_take (i := 12) (v := .int .i64 i) rfl (by kernel_rfl) (by kernel_rfl) (by kernel_rfl) (fun _ _ _ h => h) (Or.inl ⟨by kernel_rfl, by intro w hS; have hc := (hS.cell 2).trans (show (mc (p, (sN : Int), i, (aN : Int), q))[2]? = some (.int .i64 i) from rfl); go_simp⟩) R8 ?_
    simp only [Act.put, List.getElem_toArray, List.getElem_cons_succ, List.getElem_cons_zero, List.setIfInBounds_toArray, List.set_cons_zero, List.set_cons_succ]
    refine wpAnyH_take (i := 13) (v := .agg #[.int .i64 p, .int .i64 (sN : Int), .int .i64 i]) rfl (by kernel_rfl) (by kernel_rfl) (by kernel_rfl) (fun _ _ _ h => h) (yields_bpr (.tmp 87) (.tmp 89) (.tmp 91) rfl (by kernel_rfl) p (sN : Int) i (by kernel_rfl) (by kernel_rfl) (by kernel_rfl)) R8 ?_
    simp only [Act.put, List.getElem_toArray, List.getElem_cons_succ, List.getElem_cons_zero, List.setIfInBounds_toArray, List.set_cons_zero, List.set_cons_succ]
    refine wpAnyH_ready (rs := [14, 15]) (by kernel_rfl) (by simp) ?_
    refine AllReadyH.cons rfl (fun K hK => ?_) ?_
    · rw [if_pos (by kernel_rfl)]
      refine wp_allocG 76 rfl _ pl_zero ?_; intro b12 w9 l9 R9 h9; (first | replace h9 := below_undrG h9 | skip); replace G := G.alloc l9 R9 h9; clear R9 h9 l9; replace R8 : Row 32 _ b8 (mc (p, (sN : Int), i, (aN : Int), q)) := (by first | exact G.bd.row 1 rfl | exact G.bd.row 2 rfl)
      refine hK.out _ _ R8 (fun _ => ?_)
      clear hK K
      try simp only [Act.put, List.getElem_toArray, List.getElem_cons_succ, List.getElem_cons_zero, List.setIfInBounds_toArray, List.set_cons_zero, List.set_cons_succ]
      refine wpAnyH_ready (rs := [15]) (by kernel_rfl) (by simp) ?_
      refine AllReadyH.cons rfl (fun K hK => ?_) ?_
      · rw [if_pos (by kernel_rfl)]
        refine wp_allocG 78 rfl _ pr_zero ?_; intro b13 w9 l9 R9 h9; (first | replace h9 := below_undrG h9 | skip); replace G := G.alloc l9 R9 h9; clear R9 h9 l9; replace R8 : Row 32 _ b8 (mc (p, (sN : Int), i, (aN : Int), q)) := (by first | exact G.bd.row 1 rfl | exact G.bd.row 2 rfl)
        refine hK.out _ _ R8 (fun _ => ?_)
        clear hK K
        try simp only [Act.put, List.getElem_toArray, List.getElem_cons_succ, List.getElem_cons_zero, List.setIfInBounds_toArray, List.set_cons_zero, List.set_cons_succ]
        refine wpAnyH_ready (rs := [16]) (by kernel_rfl) (by simp) ?_
        refine AllReadyH.cons rfl (fun K hK => ?_) ?_
        · rw [if_pos (by kernel_rfl)]
          (first | refine wp_storeR 76 (.tmp 12) (.tmp 85) rfl b12 (by kernel_rfl) #[.int .i64 p, .int .i64 (aN : Int), .int .i64 q] (by kernel_rfl) _ (G.bd.row 0 rfl) rfl (pl3_info (p, (sN : Int), i, (aN : Int), q)) (pl3_one (p, (sN : Int), i, (aN : Int), q)) ?_ | refine wp_storeR 76 (.tmp 12) (.tmp 85) rfl b12 (by kernel_rfl) #[.int .i64 p, .int .i64 (aN : Int), .int .i64 q] (by kernel_rfl) _ (G.bd.row 1 rfl) rfl (pl3_info (p, (sN : Int), i, (aN : Int), q)) (pl3_one (p, (sN : Int), i, (aN : Int), q)) ?_); intro w9 R9 t9; (first | replace t9 := turned_undrG t9 | skip); (first | replace G := G.turn 0 rfl R9 t9 | replace G := G.turn 1 rfl R9 t9); clear R9 t9; replace R8 : Row 32 _ b8 (mc (p, (sN : Int), i, (aN : Int), q)) := G.bd.row 2 rfl
          refine hK.out _ _ R8 (fun _ => ?_)
          clear hK K
          try simp only [Act.put, List.getElem_toArray, List.getElem_cons_succ, List.getElem_cons_zero, List.setIfInBounds_toArray, List.set_cons_zero, List.set_cons_succ]
          refine wpAnyH_ready (rs := [17]) (by kernel_rfl) (by simp) ?_
          refine AllReadyH.cons rfl (fun K hK => ?_) ?_
          · rw [if_pos (by kernel_rfl)]
            (first | refine wp_storeR 78 (.tmp 13) (.tmp 92) rfl b13 (by kernel_rfl) #[.int .i64 p, .int .i64 (sN : Int), .int .i64 i] (by kernel_rfl) _ (G.bd.row 0 rfl) rfl (pr3a_info (p, (sN : Int), i, (aN : Int), q)) (pr3a_one (p, (sN : Int), i, (aN : Int), q)) ?_ | refine wp_storeR 78 (.tmp 13) (.tmp 92) rfl b13 (by kernel_rfl) #[.int .i64 p, .int .i64 (sN : Int), .int .i64 i] (by kernel_rfl) _ (G.bd.row 1 rfl) rfl (pr3a_info (p, (sN : Int), i, (aN : Int), q)) (pr3a_one (p, (sN : Int), i, (aN : Int), q)) ?_); intro w9 R9 t9; (first | replace t9 := turned_undrG t9 | skip); (first | replace G := G.turn 0 rfl R9 t9 | replace G := G.turn 1 rfl R9 t9); clear R9 t9; replace R8 : Row 32 _ b8 (mc (p, (sN : Int), i, (aN : Int), q)) := G.bd.row 2 rfl
            refine hK.out _ _ R8 (fun _ => ?_)
            clear hK K
            try simp only [Act.put, List.getElem_toArray, List.getElem_cons_succ, List.getElem_cons_zero, List.setIfInBounds_toArray, List.set_cons_zero, List.set_cons_succ]
            refine wpAnyH_done (by kernel_rfl) ?_ _
            refine NoPanic.normal ?_
            go_wp2_with fail
            go_meet
            case rel => first | exact ⟨b12, b13, rfl, rfl, rfl, G⟩ | exact ⟨b12, b13, rfl, rfl, rfl, G.swap⟩
          exact AllReadyH.nil
        exact AllReadyH.nil
      exact AllReadyH.nil
    refine AllReadyH.cons rfl (fun K hK => ?_) ?_
    · rw [if_pos (by kernel_rfl)]
      refine wp_allocG 78 rfl _ pr_zero ?_; intro b13 w9 l9 R9 h9; (first | replace h9 := below_undrG h9 | skip); replace G := G.alloc l9 R9 h9; clear R9 h9 l9; replace R8 : Row 32 _ b8 (mc (p, (sN : Int), i, (aN : Int), q)) := (by first | exact G.bd.row 1 rfl | exact G.bd.row 2 rfl)
      refine hK.out _ _ R8 (fun _ => ?_)
      clear hK K
      try simp only [Act.put, List.getElem_toArray, List.getElem_cons_succ, List.getElem_cons_zero, List.setIfInBounds_toArray, List.set_cons_zero, List.set_cons_succ]
      refine wpAnyH_ready (rs := [14]) (by kernel_rfl) (by simp) ?_
      refine AllReadyH.cons rfl (fun K hK => ?_) ?_
      · rw [if_pos (by kernel_rfl)]
        refine wp_allocG 76 rfl _ pl_zero ?_; intro b12 w9 l9 R9 h9; (first | replace h9 := below_undrG h9 | skip); replace G := G.alloc l9 R9 h9; clear R9 h9 l9; replace R8 : Row 32 _ b8 (mc (p, (sN : Int), i, (aN : Int), q)) := (by first | exact G.bd.row 1 rfl | exact G.bd.row 2 rfl)
        refine hK.out _ _ R8 (fun _ => ?_)
        clear hK K
        try simp only [Act.put, List.getElem_toArray, List.getElem_cons_succ, List.getElem_cons_zero, List.setIfInBounds_toArray, List.set_cons_zero, List.set_cons_succ]
        refine wpAnyH_ready (rs := [16]) (by kernel_rfl) (by simp) ?_
        refine AllReadyH.cons rfl (fun K hK => ?_) ?_
        · rw [if_pos (by kernel_rfl)]
          (first | refine wp_storeR 76 (.tmp 12) (.tmp 85) rfl b12 (by kernel_rfl) #[.int .i64 p, .int .i64 (aN : Int), .int .i64 q] (by kernel_rfl) _ (G.bd.row 0 rfl) rfl (pl3_info (p, (sN : Int), i, (aN : Int), q)) (pl3_one (p, (sN : Int), i, (aN : Int), q)) ?_ | refine wp_storeR 76 (.tmp 12) (.tmp 85) rfl b12 (by kernel_rfl) #[.int .i64 p, .int .i64 (aN : Int), .int .i64 q] (by kernel_rfl) _ (G.bd.row 1 rfl) rfl (pl3_info (p, (sN : Int), i, (aN : Int), q)) (pl3_one (p, (sN : Int), i, (aN : Int), q)) ?_); intro w9 R9 t9; (first | replace t9 := turned_undrG t9 | skip); (first | replace G := G.turn 0 rfl R9 t9 | replace G := G.turn 1 rfl R9 t9); clear R9 t9; replace R8 : Row 32 _ b8 (mc (p, (sN : Int), i, (aN : Int), q)) := G.bd.row 2 rfl
          refine hK.out _ _ R8 (fun _ => ?_)
          clear hK K
          try simp only [Act.put, List.getElem_toArray, List.getElem_cons_succ, List.getElem_cons_zero, List.setIfInBounds_toArray, List.set_cons_zero, List.set_cons_succ]
          refine wpAnyH_ready (rs := [17]) (by kernel_rfl) (by simp) ?_
          refine AllReadyH.cons rfl (fun K hK => ?_) ?_
          · rw [if_pos (by kernel_rfl)]
            (first | refine wp_storeR 78 (.tmp 13) (.tmp 92) rfl b13 (by kernel_rfl) #[.int .i64 p, .int .i64 (sN : Int), .int .i64 i] (by kernel_rfl) _ (G.bd.row 0 rfl) rfl (pr3a_info (p, (sN : Int), i, (aN : Int), q)) (pr3a_one (p, (sN : Int), i, (aN : Int), q)) ?_ | refine wp_storeR 78 (.tmp 13) (.tmp 92) rfl b13 (by kernel_rfl) #[.int .i64 p, .int .i64 (sN : Int), .int .i64 i] (by kernel_rfl) _ (G.bd.row 1 rfl) rfl (pr3a_info (p, (sN : Int), i, (aN : Int), q)) (pr3a_one (p, (sN : Int), i, (aN : Int), q)) ?_); intro w9 R9 t9; (first | replace t9 := turned_undrG t9 | skip); (first | replace G := G.turn 0 rfl R9 t9 | replace G := G.turn 1 rfl R9 t9); clear R9 t9; replace R8 : Row 32 _ b8 (mc (p, (sN : Int), i, (aN : Int), q)) := G.bd.row 2 rfl
            refine hK.out _ _ R8 (fun _ => ?_)
            clear hK K
            try simp only [Act.put, List.getElem_toArray, List.getElem_cons_succ, List.getElem_cons_zero, List.setIfInBounds_toArray, List.set_cons_zero, List.set_cons_succ]
            refine wpAnyH_done (by kernel_rfl) ?_ _
            refine NoPanic.normal ?_
            go_wp2_with fail
            go_meet
            case rel => first | exact ⟨b12, b13, rfl, rfl, rfl, G⟩ | exact ⟨b12, b13, rfl, rfl, rfl, G.swap⟩
          exact AllReadyH.nil
        exact AllReadyH.nil
      exact AllReadyH.nil
    exact AllReadyH.nil
  case rest =>
    clear G R8
    obtain ⟨b12, b13, rfl, rfl, rfl, G⟩ := hcut
    have H18 : Hid (6 * aN + kN < 18) := hidB (by have := H50.out; have := HK6.out; omega)
    obtain ⟨dH, hdH⟩ : ∃ d, IntKind.i64.wrap (h sN - 1) = d := ⟨_, rfl⟩
    obtain ⟨dO, hdO⟩ : ∃ d, IntKind.i64.wrap (f (6 * aN + kN) - 1) = d := ⟨_, rfl⟩
    have EH : Hid (IntKind.i64.wrap (h sN - 1) = dH) := hdH
    have EO : Hid (IntKind.i64.wrap (f (6 * aN + kN) - 1) = dO) := hdO
    have hc3 := dec_ne (x := h sN) (y := (aN : Int)) (hwH sN HS8.out) ⟨by omega, by have := H50.out; omega⟩
    have hc4 := dec_ne (x := f (6 * aN + kN)) (y := (sN : Int)) (good_wf hgp _ H18.out) ⟨by omega, by have := HS8.out; omega⟩
    rw [hdH] at hc3
    rw [hdO] at hc4
    clear hdH hdO
    have C3 : Hid ((dH != (aN : Int)) = false) := hidB (by rw [hc3]; have := E5.out; simp at this; simp [this])
    have C4 : Hid ((dO != (sN : Int)) = true) := hidB (by rw [hc4]; have := E6.out; rw [place_at HKN.out] at this; simp at this ⊢; exact this)
    clear hc3 hc4
    go_upto_region 13 with (fail)
    refine wp_region_noPanic ?_
    refine wp_region_held_drew (S := fun W => Gm w W [(b12, 76, #[.int .i64 p, .int .i64 (aN : Int), .int .i64 q]), (b13, 78, #[.int .i64 p, .int .i64 (sN : Int), .int .i64 i]), (b8, 32, mc (p, (sN : Int), i, (aN : Int), q)), (b1, 30, tc f g h (.slice a0 n cap))] [] [entI 3 k1v wf6 b6 n6 (nOf (ms.take j)), entI 79 k2 ok2 b5 n5 (nPl (ms.take j)), entB 78 k3 ok3 b4 n4 (sIn (ms.take j)), entB 76 k3 ok3 b3 n3 (sOut (ms.take j))]) (by kernel_rfl) (by first | exact G | exact G.drew) (fun _ => ?_)
    refine wpAnyH_take (i := 0) (v := .map (some b3)) rfl (by kernel_rfl) (by kernel_rfl) (by kernel_rfl) (fun _ _ _ h => h) (Or.inl ⟨by kernel_rfl, by intro w hS; go_simp⟩) (by first | exact G | exact G.drew) ?_
    simp only [Act.put, List.getElem_toArray, List.getElem_cons_succ, List.getElem_cons_zero, List.setIfInBounds_toArray, List.set_cons_zero, List.set_cons_succ]
    refine wpAnyH_take (i := 1) (v := .agg #[.int .i64 p, .int .i64 (aN : Int), .int .i64 q]) rfl (by kernel_rfl) (by kernel_rfl) (by kernel_rfl) (fun _ _ _ h => h) (yields_loadR 76 (.tmp 12) rfl (by kernel_rfl) b12 (by kernel_rfl) #[.int .i64 p, .int .i64 (aN : Int), .int .i64 q] (fun _ h => h.bd.row 0 rfl) _ Try.underlying76 rfl (pl3_info (p, (sN : Int), i, (aN : Int), q))) (by first | exact G | exact G.drew) ?_
    simp only [Act.put, List.getElem_toArray, List.getElem_cons_succ, List.getElem_cons_zero, List.setIfInBounds_toArray, List.set_cons_zero, List.set_cons_succ]
    refine wpAnyH_take (i := 2) (v := .bool false) rfl (by kernel_rfl) (by kernel_rfl) (by kernel_rfl) (fun _ _ _ h => h) (yields_lk 70 (.tmp 93) (.tmp 94) rfl (by kernel_rfl) (.map (some b3)) (k3 (p, (aN : Int), q)) _ (by kernel_rfl) (by kernel_rfl) (fun w h => by have := MeB.look (h.ent 3 rfl) kyPlace Try.underlying70 (p, (aN : Int), q) HPL.out; rw [E3.out] at this; exact this)) (by first | exact G | exact G.drew) ?_
    simp only [Act.put, List.getElem_toArray, List.getElem_cons_succ, List.getElem_cons_zero, List.setIfInBounds_toArray, List.set_cons_zero, List.set_cons_succ]
    refine wpAnyH_take (i := 3) (v := .bool false) rfl (by kernel_rfl) (by kernel_rfl) (by kernel_rfl) (fun _ _ _ h => h) (Or.inl ⟨by kernel_rfl, by intro w hS; go_simp⟩) (by first | exact G | exact G.drew) ?_
    simp only [Act.put, List.getElem_toArray, List.getElem_cons_succ, List.getElem_cons_zero, List.setIfInBounds_toArray, List.set_cons_zero, List.set_cons_succ]
    refine wpAnyH_take (i := 4) (v := .map (some b4)) rfl (by kernel_rfl) (by kernel_rfl) (by kernel_rfl) (fun _ _ _ h => h) (Or.inl ⟨by kernel_rfl, by intro w hS; go_simp⟩) (by first | exact G | exact G.drew) ?_
    simp only [Act.put, List.getElem_toArray, List.getElem_cons_succ, List.getElem_cons_zero, List.setIfInBounds_toArray, List.set_cons_zero, List.set_cons_succ]
    refine wpAnyH_take (i := 5) (v := .agg #[.int .i64 p, .int .i64 (sN : Int), .int .i64 i]) rfl (by kernel_rfl) (by kernel_rfl) (by kernel_rfl) (fun _ _ _ h => h) (yields_loadR 78 (.tmp 13) rfl (by kernel_rfl) b13 (by kernel_rfl) #[.int .i64 p, .int .i64 (sN : Int), .int .i64 i] (fun _ h => h.bd.row 1 rfl) _ Try.underlying78 rfl (pr3a_info (p, (sN : Int), i, (aN : Int), q))) (by first | exact G | exact G.drew) ?_
    simp only [Act.put, List.getElem_toArray, List.getElem_cons_succ, List.getElem_cons_zero, List.setIfInBounds_toArray, List.set_cons_zero, List.set_cons_succ]
    refine wpAnyH_take (i := 6) (v := .bool false) rfl (by kernel_rfl) (by kernel_rfl) (by kernel_rfl) (fun _ _ _ h => h) (yields_lk 71 (.tmp 97) (.tmp 98) rfl (by kernel_rfl) (.map (some b4)) (k3 (p, (sN : Int), i)) _ (by kernel_rfl) (by kernel_rfl) (fun w h => by have := MeB.look (h.ent 2 rfl) kyPort Try.underlying71 (p, (sN : Int), i) HPR.out; rw [E4.out] at this; exact this)) (by first | exact G | exact G.drew) ?_
    simp only [Act.put, List.getElem_toArray, List.getElem_cons_succ, List.getElem_cons_zero, List.setIfInBounds_toArray, List.set_cons_zero, List.set_cons_succ]
    refine wpAnyH_take (i := 7) (v := .bool false) rfl (by kernel_rfl) (by kernel_rfl) (by kernel_rfl) (fun _ _ _ h => h) (yields_pickf (.tmp 96) (.const (.bool true)) (.tmp 99) _ rfl (by kernel_rfl) (by kernel_rfl) (by kernel_rfl)) (by first | exact G | exact G.drew) ?_
    simp only [Act.put, List.getElem_toArray, List.getElem_cons_succ, List.getElem_cons_zero, List.setIfInBounds_toArray, List.set_cons_zero, List.set_cons_succ]
    refine wpAnyH_take (i := 8) (v := .bool false) rfl (by kernel_rfl) (by kernel_rfl) (by kernel_rfl) (fun _ _ _ h => h) (Or.inl ⟨by kernel_rfl, by intro w hS; go_simp⟩) (by first | exact G | exact G.drew) ?_
    simp only [Act.put, List.getElem_toArray, List.getElem_cons_succ, List.getElem_cons_zero, List.setIfInBounds_toArray, List.set_cons_zero, List.set_cons_succ]
    refine wpAnyH_take (i := 9) (v := .pointer (some ⟨b8, 1, none⟩)) rfl (by kernel_rfl) (by kernel_rfl) (by kernel_rfl) (fun _ _ _ h => h) (Or.inl ⟨by kernel_rfl, by intro w hS; go_simp⟩) (by first | exact G | exact G.drew) ?_
    simp only [Act.put, List.getElem_toArray, List.getElem_cons_succ, List.getElem_cons_zero, List.setIfInBounds_toArray, List.set_cons_zero, List.set_cons_succ]
    refine wpAnyH_take (i := 10) (v := .int .i64 (sN : Int)) rfl (by kernel_rfl) (by kernel_rfl) (by kernel_rfl) (fun _ _ _ h => h) (Or.inl ⟨by kernel_rfl, by intro w hS; have hc := ((hS.bd.row 2 rfl).cell 1).trans (show (mc (p, (sN : Int), i, (aN : Int), q))[1]? = some (.int .i64 (sN : Int)) from rfl); go_simp⟩) (by first | exact G | exact G.drew) ?_
    simp only [Act.put, List.getElem_toArray, List.getElem_cons_succ, List.getElem_cons_zero, List.setIfInBounds_toArray, List.set_cons_zero, List.set_cons_succ]
    refine wpAnyH_take (i := 11) (v := .pointer (some ⟨b1, 21, none⟩)) rfl (by kernel_rfl) (by kernel_rfl) (by kernel_rfl) (fun _ _ _ h => h) (Or.inl ⟨by kernel_rfl, by intro w hS; go_simp⟩) (by first | exact G | exact G.drew) ?_
    simp only [Act.put, List.getElem_toArray, List.getElem_cons_succ, List.getElem_cons_zero, List.setIfInBounds_toArray, List.set_cons_zero, List.set_cons_succ]
    refine wpAnyH_take (i := 12) (v := .pointer (some ⟨b1, 21 + sN, none⟩)) rfl (by kernel_rfl) (by kernel_rfl) (by kernel_rfl) (fun _ _ _ h => h) (yields_ixG 27 (.tmp 104) (.tmp 103) rfl (by kernel_rfl) _ _ _ (by kernel_rfl) (by kernel_rfl) (fun w => ix8 b1 21 sN HS8.out w)) (by first | exact G | exact G.drew) ?_
    simp only [Act.put, List.getElem_toArray, List.getElem_cons_succ, List.getElem_cons_zero, List.setIfInBounds_toArray, List.set_cons_zero, List.set_cons_succ]
    refine wpAnyH_take (i := 13) (v := .int .i64 (h sN)) rfl (by kernel_rfl) (by kernel_rfl) (by kernel_rfl) (fun _ _ _ h => h) (Or.inl ⟨by kernel_rfl, by intro w hS; have hc := ((hS.bd.row 3 rfl).cell (21 + sN)).trans (tc_home _ _ _ _ sN HS8.out); go_simp⟩) (by first | exact G | exact G.drew) ?_
    simp only [Act.put, List.getElem_toArray, List.getElem_cons_succ, List.getElem_cons_zero, List.setIfInBounds_toArray, List.set_cons_zero, List.set_cons_succ]
    refine wpAnyH_take (i := 14) (v := .int .i64 dH) rfl (by kernel_rfl) (by kernel_rfl) (by kernel_rfl) (fun _ _ _ h => h) (yields_dec (.tmp 106) rfl (by kernel_rfl) _ _ (by kernel_rfl) EH.out) (by first | exact G | exact G.drew) ?_
    simp only [Act.put, List.getElem_toArray, List.getElem_cons_succ, List.getElem_cons_zero, List.setIfInBounds_toArray, List.set_cons_zero, List.set_cons_succ]
    refine wpAnyH_take (i := 15) (v := .pointer (some ⟨b8, 3, none⟩)) rfl (by kernel_rfl) (by kernel_rfl) (by kernel_rfl) (fun _ _ _ h => h) (Or.inl ⟨by kernel_rfl, by intro w hS; go_simp⟩) (by first | exact G | exact G.drew) ?_
    simp only [Act.put, List.getElem_toArray, List.getElem_cons_succ, List.getElem_cons_zero, List.setIfInBounds_toArray, List.set_cons_zero, List.set_cons_succ]
    refine wpAnyH_take (i := 16) (v := .int .i64 (aN : Int)) rfl (by kernel_rfl) (by kernel_rfl) (by kernel_rfl) (fun _ _ _ h => h) (Or.inl ⟨by kernel_rfl, by intro w hS; have hc := ((hS.bd.row 2 rfl).cell 3).trans (show (mc (p, (sN : Int), i, (aN : Int), q))[3]? = some (.int .i64 (aN : Int)) from rfl); go_simp⟩) (by first | exact G | exact G.drew) ?_
    simp only [Act.put, List.getElem_toArray, List.getElem_cons_succ, List.getElem_cons_zero, List.setIfInBounds_toArray, List.set_cons_zero, List.set_cons_succ]
    refine wpAnyH_take (i := 17) (v := .bool false) rfl (by kernel_rfl) (by kernel_rfl) (by kernel_rfl) (fun _ _ _ h => h) (yields_nei 3 (.tmp 107) (.tmp 109) _ _ _ rfl (by kernel_rfl) (by kernel_rfl) (by kernel_rfl) C3.out) (by first | exact G | exact G.drew) ?_
    simp only [Act.put, List.getElem_toArray, List.getElem_cons_succ, List.getElem_cons_zero, List.setIfInBounds_toArray, List.set_cons_zero, List.set_cons_succ]
    refine wpAnyH_take (i := 18) (v := .bool false) rfl (by kernel_rfl) (by kernel_rfl) (by kernel_rfl) (fun _ _ _ h => h) (yields_pickf (.tmp 101) (.const (.bool true)) (.tmp 110) _ rfl (by kernel_rfl) (by kernel_rfl) (by kernel_rfl)) (by first | exact G | exact G.drew) ?_
    simp only [Act.put, List.getElem_toArray, List.getElem_cons_succ, List.getElem_cons_zero, List.setIfInBounds_toArray, List.set_cons_zero, List.set_cons_succ]
    refine wpAnyH_take (i := 19) (v := .bool false) rfl (by kernel_rfl) (by kernel_rfl) (by kernel_rfl) (fun _ _ _ h => h) (Or.inl ⟨by kernel_rfl, by intro w hS; go_simp⟩) (by first | exact G | exact G.drew) ?_
    simp only [Act.put, List.getElem_toArray, List.getElem_cons_succ, List.getElem_cons_zero, List.setIfInBounds_toArray, List.set_cons_zero, List.set_cons_succ]
    refine wpAnyH_take (i := 20) (v := .pointer (some ⟨b8, 3, none⟩)) rfl (by kernel_rfl) (by kernel_rfl) (by kernel_rfl) (fun _ _ _ h => h) (Or.inl ⟨by kernel_rfl, by intro w hS; go_simp⟩) (by first | exact G | exact G.drew) ?_
    simp only [Act.put, List.getElem_toArray, List.getElem_cons_succ, List.getElem_cons_zero, List.setIfInBounds_toArray, List.set_cons_zero, List.set_cons_succ]
    refine wpAnyH_take (i := 21) (v := .int .i64 (aN : Int)) rfl (by kernel_rfl) (by kernel_rfl) (by kernel_rfl) (fun _ _ _ h => h) (Or.inl ⟨by kernel_rfl, by intro w hS; have hc := ((hS.bd.row 2 rfl).cell 3).trans (show (mc (p, (sN : Int), i, (aN : Int), q))[3]? = some (.int .i64 (aN : Int)) from rfl); go_simp⟩) (by first | exact G | exact G.drew) ?_
    simp only [Act.put, List.getElem_toArray, List.getElem_cons_succ, List.getElem_cons_zero, List.setIfInBounds_toArray, List.set_cons_zero, List.set_cons_succ]
    refine wpAnyH_take (i := 22) (v := .int .i64 (kN : Int)) rfl (by kernel_rfl) (by kernel_rfl) (by kernel_rfl) (fun _ _ _ h => h) (Or.inl ⟨by kernel_rfl, by intro w hS; go_simp⟩) (by first | exact G | exact G.drew) ?_
    simp only [Act.put, List.getElem_toArray, List.getElem_cons_succ, List.getElem_cons_zero, List.setIfInBounds_toArray, List.set_cons_zero, List.set_cons_succ]
    refine wpAnyH_take (i := 23) (v := .pointer (some ⟨b1, 0, none⟩)) rfl (by kernel_rfl) (by kernel_rfl) (by kernel_rfl) (fun _ _ _ h => h) (Or.inl ⟨by kernel_rfl, by intro w hS; go_simp⟩) (by first | exact G | exact G.drew) ?_
    simp only [Act.put, List.getElem_toArray, List.getElem_cons_succ, List.getElem_cons_zero, List.setIfInBounds_toArray, List.set_cons_zero, List.set_cons_succ]
    refine wpAnyH_take (i := 24) (v := .pointer (some ⟨b1, 0, none⟩)) rfl (by kernel_rfl) (by kernel_rfl) (by kernel_rfl) (fun _ _ _ h => h) (Or.inl ⟨by kernel_rfl, by intro w hS; go_simp⟩) (by first | exact G | exact G.drew) ?_
    simp only [Act.put, List.getElem_toArray, List.getElem_cons_succ, List.getElem_cons_zero, List.setIfInBounds_toArray, List.set_cons_zero, List.set_cons_succ]
    refine wpAnyH_take (i := 25) (v := .pointer (some ⟨b1, 6 * aN, none⟩)) rfl (by kernel_rfl) (by kernel_rfl) (by kernel_rfl) (fun _ _ _ h => h) (yields_ixG 23 (.tmp 117) (.tmp 114) rfl (by kernel_rfl) _ _ _ (by kernel_rfl) (by kernel_rfl) (fun w => by have := ix3 b1 0 aN H50.out w; simpa using this)) (by first | exact G | exact G.drew) ?_
    simp only [Act.put, List.getElem_toArray, List.getElem_cons_succ, List.getElem_cons_zero, List.setIfInBounds_toArray, List.set_cons_zero, List.set_cons_succ]
    refine wpAnyH_take (i := 26) (v := .pointer (some ⟨b1, 6 * aN + kN, none⟩)) rfl (by kernel_rfl) (by kernel_rfl) (by kernel_rfl) (fun _ _ _ h => h) (yields_ixG 22 (.tmp 118) (.tmp 115) rfl (by kernel_rfl) _ _ _ (by kernel_rfl) (by kernel_rfl) (fun w => ix6 b1 (6 * aN) kN HK6.out w)) (by first | exact G | exact G.drew) ?_
    simp only [Act.put, List.getElem_toArray, List.getElem_cons_succ, List.getElem_cons_zero, List.setIfInBounds_toArray, List.set_cons_zero, List.set_cons_succ]
    refine wpAnyH_take (i := 27) (v := .int .i64 (f (6 * aN + kN))) rfl (by kernel_rfl) (by kernel_rfl) (by kernel_rfl) (fun _ _ _ h => h) (Or.inl ⟨by kernel_rfl, by intro w hS; have hc := ((hS.bd.row 3 rfl).cell (6 * aN + kN)).trans (tc_own _ _ _ _ _ H18.out); go_simp⟩) (by first | exact G | exact G.drew) ?_
    simp only [Act.put, List.getElem_toArray, List.getElem_cons_succ, List.getElem_cons_zero, List.setIfInBounds_toArray, List.set_cons_zero, List.set_cons_succ]
    refine wpAnyH_take (i := 28) (v := .int .i64 dO) rfl (by kernel_rfl) (by kernel_rfl) (by kernel_rfl) (fun _ _ _ h => h) (yields_dec (.tmp 120) rfl (by kernel_rfl) _ _ (by kernel_rfl) EO.out) (by first | exact G | exact G.drew) ?_
    simp only [Act.put, List.getElem_toArray, List.getElem_cons_succ, List.getElem_cons_zero, List.setIfInBounds_toArray, List.set_cons_zero, List.set_cons_succ]
    refine wpAnyH_take (i := 29) (v := .pointer (some ⟨b8, 1, none⟩)) rfl (by kernel_rfl) (by kernel_rfl) (by kernel_rfl) (fun _ _ _ h => h) (Or.inl ⟨by kernel_rfl, by intro w hS; go_simp⟩) (by first | exact G | exact G.drew) ?_
    simp only [Act.put, List.getElem_toArray, List.getElem_cons_succ, List.getElem_cons_zero, List.setIfInBounds_toArray, List.set_cons_zero, List.set_cons_succ]
    refine wpAnyH_take (i := 30) (v := .int .i64 (sN : Int)) rfl (by kernel_rfl) (by kernel_rfl) (by kernel_rfl) (fun _ _ _ h => h) (Or.inl ⟨by kernel_rfl, by intro w hS; have hc := ((hS.bd.row 2 rfl).cell 1).trans (show (mc (p, (sN : Int), i, (aN : Int), q))[1]? = some (.int .i64 (sN : Int)) from rfl); go_simp⟩) (by first | exact G | exact G.drew) ?_
    simp only [Act.put, List.getElem_toArray, List.getElem_cons_succ, List.getElem_cons_zero, List.setIfInBounds_toArray, List.set_cons_zero, List.set_cons_succ]
    refine wpAnyH_take (i := 31) (v := .bool true) rfl (by kernel_rfl) (by kernel_rfl) (by kernel_rfl) (fun _ _ _ h => h) (yields_nei 3 (.tmp 121) (.tmp 123) _ _ _ rfl (by kernel_rfl) (by kernel_rfl) (by kernel_rfl) C4.out) (by first | exact G | exact G.drew) ?_
    simp only [Act.put, List.getElem_toArray, List.getElem_cons_succ, List.getElem_cons_zero, List.setIfInBounds_toArray, List.set_cons_zero, List.set_cons_succ]
    refine wpAnyH_take (i := 32) (v := .bool true) rfl (by kernel_rfl) (by kernel_rfl) (by kernel_rfl) (fun _ _ _ h => h) (yields_pickf (.tmp 112) (.const (.bool true)) (.tmp 124) _ rfl (by kernel_rfl) (by kernel_rfl) (by kernel_rfl)) (by first | exact G | exact G.drew) ?_
    simp only [Act.put, List.getElem_toArray, List.getElem_cons_succ, List.getElem_cons_zero, List.setIfInBounds_toArray, List.set_cons_zero, List.set_cons_succ]
    refine wpAnyH_done (by kernel_rfl) ?_ _
    refine NoPanic.normal ?_
    go_wp2
    go_ret
    first | exact ⟨false, HNG.out, rfl, G.bd.base⟩ | exact ⟨false, HNG.out, rfl, G.drew.bd.base⟩
end Go.Proofs.Ytmdijjbkjcnbpaa

namespace Go.Proofs.Ytmdijjbkjcnbpaa
open Go.ChangeShapes Go.WideShapes Go.ChangeAt Go.RowKit Go.Maps
set_option linter.unusedSimpArgs false
set_option linter.unusedVariables false

attribute [local irreducible] tc pc
set_option maxRecDepth 1000000 in
set_option maxHeartbeats 8000000 in
theorem gt_ok {w wr : World} {f : Nat → Int} {g : Nat → Bool} {h : Nat → Int} {ms : List Mp} {b1 b3 b4 b5 b6 : Nat} {a0 : Option Addr} {n cap : Nat} (u2 u7 u8 u9 u10 u11 u12 u13 u14 u15 u16 u17 u18 u19 u20 u21 u22 u23 u24 u25 u26 u27 u31 u32 u33 u34 u35 u36 u37 u38 u39 u40 u41 u42 u43 u44 u45 u46 u47 u48 u49 u50 u51 u52 u53 u54 u55 u56 u57 u58 u59 u60 u61 u62 u63 u64 u65 u66 u67 u68 u69 u70 u71 u72 u73 u74 u75 u76 u77 u78 u79 u80 u81 u82 u83 u84 u85 u86 u87 u88 u89 u90 u91 u92 u93 u94 u95 u96 u97 u98 u99 u100 u101 u102 u103 u104 u105 u106 u107 u108 u109 u110 u111 u112 u113 u114 u115 u116 u117 u118 u119 u120 u121 u122 u123 u124 u125 u126 u127 u128 u129 u130 u131 u132 u133 u134 u135 u136 u137 u138 u139 u140 u141 u142 u143 u144 u145 u146 u147 u148 u149 u150 u151 u152 u153 u154 u155 u156 u157 u158 u159 u160 u161 u162 u163 u164 u165 u166 u167 u168 u169 u170 u171 u172 u173 u174 u175 u176 u177 u178 u179 u180 u181 u182 u183 u184 u185 u186 u187 u188 u189 u190 u191 u192 u193 u194 u195 u196 u197 u198 u199 u200 u201 u202 : Value) (j : Nat) {n6 n5 n4 n3 : Nat}
    (HNs : Hid (n6 ≤ 2 * j ∧ n5 ≤ 2 * j ∧ n4 ≤ 2 * j ∧ n3 ≤ 2 * j)) (G : Gm w wr [(b1, 30, tc f g h (.slice a0 n cap))] [] [entI 3 k1v wf6 b6 n6 (nOf (ms.take j)), entI 79 k2 ok2 b5 n5 (nPl (ms.take j)), entB 78 k3 ok3 b4 n4 (sIn (ms.take j)), entB 76 k3 ok3 b3 n3 (sOut (ms.take j))])
    (HK : Hid (MsOk f h (ms.take j))) (HN : Hid (n = ms.length)) (hM : MapsAt w (.slice a0 n cap) ms) (hwH : wfH h) (hgp : goodP f = true) (hlj : j < ms.length) (m : Mp) (hm : ms[j] = m) (hok : OkM m) (e3 : sOut (ms.take j) (m.1, m.2.2.2.1, m.2.2.2.2) = false) (e4 : sIn (ms.take j) (m.1, m.2.1, m.2.2.1) = false) (e5 : h m.2.1.toNat = m.2.2.2.1 + 1) (e6 : f (placeM m) = m.2.1 + 1) (Q0 : Exit → Act → World → Prop) (hret : ∀ a w', bodyPost Try.prog Try.f15 (fun e w' => ∃ r : Bool, (r = true ↔ GoodT f h ms) ∧ e = .returned (.bool r) ∧ Below w.heap.size w w') .ret a w' → Q0 .ret a w') :
    Code.wp Try.prog bodyG (Exit.then (fun a' W => WG w f g h ms b1 b3 b4 b5 b6 a0 n cap a' W ∧ WGmu n a' W < WGmu n ⟨#[(.agg (tc f g h (.slice a0 n cap))), .pointer (some ⟨b1, 0, none⟩), u2, .map (some b3), .map (some b4), .map (some b5), .map (some b6), u7, u8, u9, u10, u11, u12, u13, u14, u15, u16, u17, u18, u19, u20, u21, u22, u23, u24, u25, u26, u27, (.slice a0 n cap), .int .i64 (n : Int), .int .i64 (j : Int), u31, u32, u33, u34, u35, u36, u37, u38, u39, u40, u41, u42, u43, u44, u45, u46, u47, u48, u49, u50, u51, u52, u53, u54, u55, u56, u57, u58, u59, u60, u61, u62, u63, u64, u65, u66, u67, u68, u69, u70, u71, u72, u73, u74, u75, u76, u77, u78, u79, u80, u81, u82, u83, u84, u85, u86, u87, u88, u89, u90, u91, u92, u93, u94, u95, u96, u97, u98, u99, u100, u101, u102, u103, u104, u105, u106, u107, u108, u109, u110, u111, u112, u113, u114, u115, u116, u117, u118, u119, u120, u121, u122, u123, u124, u125, u126, u127, u128, u129, u130, u131, u132, u133, u134, u135, u136, u137, u138, u139, u140, u141, u142, u143, u144, u145, u146, u147, u148, u149, u150, u151, u152, u153, u154, u155, u156, u157, u158, u159, u160, u161, u162, u163, u164, u165, u166, u167, u168, u169, u170, u171, u172, u173, u174, u175, u176, u177, u178, u179, u180, u181, u182, u183, u184, u185, u186, u187, u188, u189, u190, u191, u192, u193, u194, u195, u196, u197, u198, u199, u200, u201, u202], []⟩ wr) Q0) ⟨#[(.agg (tc f g h (.slice a0 n cap))), .pointer (some ⟨b1, 0, none⟩), u2, .map (some b3), .map (some b4), .map (some b5), .map (some b6), u7, u8, u9, u10, u11, u12, u13, u14, u15, u16, u17, u18, u19, u20, u21, u22, u23, u24, u25, u26, u27, (.slice a0 n cap), .int .i64 (n : Int), .int .i64 (j : Int), u31, u32, u33, u34, u35, u36, u37, u38, u39, u40, u41, u42, u43, u44, u45, u46, u47, u48, u49, u50, u51, u52, u53, u54, u55, u56, u57, u58, u59, u60, u61, u62, u63, u64, u65, u66, u67, u68, u69, u70, u71, u72, u73, u74, u75, u76, u77, u78, u79, u80, u81, u82, u83, u84, u85, u86, u87, u88, u89, u90, u91, u92, u93, u94, u95, u96, u97, u98, u99, u100, u101, u102, u103, u104, u105, u106, u107, u108, u109, u110, u111, u112, u113, u114, u115, u116, u117, u118, u119, u120, u121, u122, u123, u124, u125, u126, u127, u128, u129, u130, u131, u132, u133, u134, u135, u136, u137, u138, u139, u140, u141, u142, u143, u144, u145, u146, u147, u148, u149, u150, u151, u152, u153, u154, u155, u156, u157, u158, u159, u160, u161, u162, u163, u164, u165, u166, u167, u168, u169, u170, u171, u172, u173, u174, u175, u176, u177, u178, u179, u180, u181, u182, u183, u184, u185, u186, u187, u188, u189, u190, u191, u192, u193, u194, u195, u196, u197, u198, u199, u200, u201, u202], []⟩ wr := by
  conv => arg 2; whnf
  have hlt := hM.lt
  have hjn : (j : Int) < (n : Int) := by have := HN.out; omega
  have hjw := wrap_next hlj hM.len
  have hMW := hM.keep G.bd.base hlt
  have hrg := hMW.at j hlj hm
  have HLT : Hid ((ms.take j).length ≤ 140737488355328) := hidB (by have := hM.len; rw [List.length_take]; omega)
  have HB3 : Hid (n3 < maxLen) := hidB (by have := HNs.out; have := hM.len; unfold maxLen; omega)
  have HB4 : Hid (n4 < maxLen) := hidB (by have := HNs.out; have := hM.len; unfold maxLen; omega)
  have HB5 : Hid (n5 < maxLen) := hidB (by have := HNs.out; have := hM.len; unfold maxLen; omega)
  have HB6 : Hid (n6 < maxLen) := hidB (by have := HNs.out; have := hM.len; unfold maxLen; omega)
  have HJ1 : Hid (j + 1 ≤ ms.length) := hidB hlj
  have HN2 : Hid (n6 + 1 ≤ 2 * (j + 1) ∧ n5 + 1 ≤ 2 * (j + 1) ∧ n4 + 1 ≤ 2 * (j + 1) ∧ n3 + 1 ≤ 2 * (j + 1)) := hidB (by have := HNs.out; omega)
  have HME : Hid (n - ((j : Int) + 1).toNat < n - ((j : Int)).toNat) := hidB (by have := HN.out; omega)
  have HST : Hid (MsOk f h (ms.take (j + 1))) := hidB (by rw [List.take_succ_eq_append_getElem hlj, msOk_snoc, hm]; exact ⟨HK.out, ⟨hok.2.1, hok.2.2.1, hok.2.2.2.1, hok.1, hok.2.2.2.2, e5, e6⟩, by rw [meets_two, e3, e4]; rfl⟩)
  have HTK : Hid (ms.take (j + 1) = ms.take j ++ [m]) := hidB (by rw [List.take_succ_eq_append_getElem hlj, hm])
  have E3 : Hid (sOut (ms.take j) (m.1, m.2.2.2.1, m.2.2.2.2) = false) := e3
  have E4 : Hid (sIn (ms.take j) (m.1, m.2.1, m.2.2.1) = false) := e4
  have E5 : Hid (h m.2.1.toNat = m.2.2.2.1 + 1) := e5
  have E6 : Hid (f (placeM m) = m.2.1 + 1) := e6
  clear e3 e4 e5 e6
  obtain ⟨hq, hip, hs, hi, ha⟩ := hok
  have HOK : Hid (OkM m) := ⟨hq, hip, hs, hi, ha⟩
  obtain ⟨p, s, i, a, q⟩ := m
  simp only at hq hip hs hi ha
  obtain ⟨sN, rfl⟩ : ∃ sN : Nat, s = (sN : Int) := ⟨s.toNat, by omega⟩
  obtain ⟨aN, rfl⟩ : ∃ aN : Nat, a = (aN : Int) := ⟨a.toNat, by omega⟩
  obtain ⟨kN, hkN⟩ : ∃ kN : Nat, blkQ q = (kN : Int) := ⟨(blkQ q).toNat, by unfold blkQ; omega⟩
  have HKN : Hid (blkQ q = (kN : Int)) := hkN
  have HS8 : Hid (sN < 8) := hidB (by omega)
  have H50 : Hid (aN < 3) := hidB (by omega)
  have HK6 : Hid (kN < 6) := hidB (by unfold blkQ at hkN; omega)
  have HPL : Hid (ok3 (p, (aN : Int), q)) := hidB ⟨isP_wf hip, wf6_of (by show -9223372036854775808 ≤ (aN : Int) ∧ (aN : Int) ≤ _; omega), wf6_of (by show -9223372036854775808 ≤ q ∧ q ≤ _; omega)⟩
  have HPR : Hid (ok3 (p, (sN : Int), i)) := hidB ⟨isP_wf hip, wf6_of (by show -9223372036854775808 ≤ (sN : Int) ∧ (sN : Int) ≤ _; omega), wf6_of (by show -9223372036854775808 ≤ i ∧ i ≤ _; omega)⟩
  have HTW : Hid (ok2 ((aN : Int), (kN : Int))) := hidB ⟨wf6_of (by show -9223372036854775808 ≤ (aN : Int) ∧ (aN : Int) ≤ _; omega), wf6_of (by unfold blkQ at hkN; show -9223372036854775808 ≤ (kN : Int) ∧ (kN : Int) ≤ _; omega)⟩
  have HSW : Hid (wf6 (sN : Int)) := hidB (wf6_of (by omega))
  have CB := fun w => blockOf_in q w hq
  rw [hkN] at CB
  have CI := fun w => isProto_ref p w
  rw [hip] at CI
  have d1 : decide ((sN : Int) < 0) = false := decide_eq_false (by omega)
  have d2 : decide (7 < (sN : Int)) = false := decide_eq_false (by omega)
  have d3 : decide (i < 0) = false := decide_eq_false (by omega)
  have d4 : decide (65535 < i) = false := decide_eq_false (by omega)
  have d5 : decide ((aN : Int) < 0) = false := decide_eq_false (by omega)
  have d6 : decide (2 < (aN : Int)) = false := decide_eq_false (by omega)
  clear hq hip hs hi ha hkN
  go_upto_region 12 with (first | (refine wpList_indexM rfl (.tmp 28) (.tmp 30) rfl (.slice a0 n cap) ms hMW rfl j rfl hlj ?_) | ((with_reducible refine at_opB (.load 32 (.tmp 32)) rfl ?_); refine wpList_load_mid rfl 32 _ rfl _ _ rfl (mcl (p, (sN : Int), i, (aN : Int), q)) _ hrg Try.underlying32 rfl (mcl_info (p, (sN : Int), i, (aN : Int), q)) ?_; rw [mcl_mc]) | ((with_reducible refine at_opB (.alloc 32) rfl ?_); refine wpList_allocX 8 32 rfl rfl rfl _ map_zero ?_; intro b8 w9 l9 R9 h9; replace G := G.alloc l9 R9 h9; clear R9 h9 l9) | ((with_reducible refine at_opB (.store 32 (.tmp 8) (.tmp 33)) rfl ?_); refine wpList_storeR 32 rfl (.tmp 8) _ rfl b8 rfl (mc (p, (sN : Int), i, (aN : Int), q)) rfl _ (G.bd.row 0 rfl) rfl (mc_info _) (mc_one _) ?_; intro w9 R9 t9; replace G := G.turn 0 rfl R9 t9; clear R9 t9) | ((with_reducible refine at_opB (.load 3 (.tmp 35)) rfl ?_); refine wpList_loadF (G.bd.row 0 rfl) _ rfl (by kernel_rfl) 4 rfl (q) rfl ?_) | (go_at_call 13; refine (CB _).mono ?_; rintro e w' ⟨rfl, hw⟩; rw [hw]; clear hw w') | ((with_reducible refine at_opB (.load 3 (.tmp 44)) rfl ?_); refine wpList_loadF (G.bd.row 0 rfl) _ rfl (by kernel_rfl) 0 rfl (p) rfl ?_) | ((with_reducible refine at_opB (.load 3 (.tmp 50)) rfl ?_); refine wpList_loadF (G.bd.row 0 rfl) _ rfl (by kernel_rfl) 1 rfl ((sN : Int)) rfl ?_) | ((with_reducible refine at_opB (.load 3 (.tmp 55)) rfl ?_); refine wpList_loadF (G.bd.row 0 rfl) _ rfl (by kernel_rfl) 1 rfl ((sN : Int)) rfl ?_) | ((with_reducible refine at_opB (.load 3 (.tmp 60)) rfl ?_); refine wpList_loadF (G.bd.row 0 rfl) _ rfl (by kernel_rfl) 2 rfl (i) rfl ?_) | ((with_reducible refine at_opB (.load 3 (.tmp 65)) rfl ?_); refine wpList_loadF (G.bd.row 0 rfl) _ rfl (by kernel_rfl) 2 rfl (i) rfl ?_) | ((with_reducible refine at_opB (.load 3 (.tmp 70)) rfl ?_); refine wpList_loadF (G.bd.row 0 rfl) _ rfl (by kernel_rfl) 3 rfl ((aN : Int)) rfl ?_) | ((with_reducible refine at_opB (.load 3 (.tmp 75)) rfl ?_); refine wpList_loadF (G.bd.row 0 rfl) _ rfl (by kernel_rfl) 3 rfl ((aN : Int)) rfl ?_) | (go_at_call 36; refine (CI _).mono ?_; rintro e w' ⟨rfl, hw⟩; rw [hw]; clear hw w'))
  clear d1 d2 d3 d4 d5 d6 CB CI
  (try dsimp only [Act.put]); (try simp only [List.getElem_toArray, List.getElem_cons_succ, List.getElem_cons_zero, List.setIfInBounds_toArray, List.set_cons_zero, List.set_cons_succ])
  have R8 : Row 32 _ b8 (mc (p, (sN : Int), i, (aN : Int), q)) := G.bd.row 0 rfl
  go_cut [12, 13, 30] from 30 to 144 (fun s12 s13 s30 wx => ∃ b12 b13, s12 = .pointer (some ⟨b12, 0, none⟩) ∧ s13 = .pointer (some ⟨b13, 0, none⟩) ∧ s30 = .int .i64 (j : Int) ∧ Gm w wx [(b12, 76, #[.int .i64 p, .int .i64 (aN : Int), .int .i64 q]), (b13, 78, #[.int .i64 p, .int .i64 (sN : Int), .int .i64 i]), (b8, 32, mc (p, (sN : Int), i, (aN : Int), q)), (b1, 30, tc f g h (.slice a0 n cap))] [] [entI 3 k1v wf6 b6 n6 (nOf (ms.take j)), entI 79 k2 ok2 b5 n5 (nPl (ms.take j)), entB 78 k3 ok3 b4 n4 (sIn (ms.take j)), entB 76 k3 ok3 b3 n3 (sOut (ms.take j))])
  case first =>
    refine wp_region_noPanic ?_
    refine wp_region_held_drew (S := fun W => Row 32 W b8 (mc (p, (sN : Int), i, (aN : Int), q))) (by kernel_rfl) R8 (fun _ => ?_)
    refine wpAnyH_take (i := 0) (v := .pointer (some ⟨b8, 0, none⟩)) rfl (by kernel_rfl) (by kernel_rfl) (by kernel_rfl) (fun _ _ _ h => h) (Or.inl ⟨by kernel_rfl, by intro w hS; go_simp⟩) R8 ?_
    simp only [Act.put, List.getElem_toArray, List.getElem_cons_succ, List.getElem_cons_zero, List.setIfInBounds_toArray, List.set_cons_zero, List.set_cons_succ]
    refine wpAnyH_take (i := 1) (v := .int .i64 p) rfl (by kernel_rfl) (by kernel_rfl) (by kernel_rfl) (fun _ _ _ h => h) (Or.inl ⟨by kernel_rfl, by intro w hS; have hc := (hS.cell 0).trans (show (mc (p, (sN : Int), i, (aN : Int), q))[0]? = some (.int .i64 p) from rfl); go_simp⟩) R8 ?_
    simp only [Act.put, List.getElem_toArray, List.getElem_cons_succ, List.getElem_cons_zero, List.setIfInBounds_toArray, List.set_cons_zero, List.set_cons_succ]
    refine wpAnyH_take (i := 2) (v := .pointer (some ⟨b8, 3, none⟩)) rfl (by kernel_rfl) (by kernel_rfl) (by kernel_rfl) (fun _ _ _ h => h) (Or.inl ⟨by kernel_rfl, by intro w hS; go_simp⟩) R8 ?_
    simp only [Act.put, List.getElem_toArray, List.getElem_cons_succ, List.getElem_cons_zero, List.setIfInBounds_toArray, List.set_cons_zero, List.set_cons_succ]
    refine wpAnyH_take (i := 3) (v := .int .i64 (aN : Int)) rfl (by kernel_rfl) (by kernel_rfl) (by kernel_rfl) (fun _ _ _ h => h) (Or.inl ⟨by kernel_rfl, by intro w hS; have hc := (hS.cell 3).trans (show (mc (p, (sN : Int), i, (aN : Int), q))[3]? = some (.int .i64 (aN : Int)) from rfl); go_simp⟩) R8 ?_
    simp only [Act.put, List.getElem_toArray, List.getElem_cons_succ, List.getElem_cons_zero, List.setIfInBounds_toArray, List.set_cons_zero, List.set_cons_succ]
    refine wpAnyH_take (i := 4) (v := .pointer (some ⟨b8, 4, none⟩)) rfl (by kernel_rfl) (by kernel_rfl) (by kernel_rfl) (fun _ _ _ h => h) (Or.inl ⟨by kernel_rfl, by intro w hS; go_simp⟩) R8 ?_
    simp only [Act.put, List.getElem_toArray, List.getElem_cons_succ, List.getElem_cons_zero, List.setIfInBounds_toArray, List.set_cons_zero, List.set_cons_succ]
    refine wpAnyH_take (i := 5) (v := .int .i64 q) rfl (by kernel_rfl) (by kernel_rfl) (by kernel_rfl) (fun _ _ _ h => h) (Or.inl ⟨by kernel_rfl, by intro w hS; have hc := (hS.cell 4).trans (show (mc (p, (sN : Int), i, (aN : Int), q))[4]? = some (.int .i64 q) from rfl); go_simp⟩) R8 ?_
    simp only [Act.put, List.getElem_toArray, List.getElem_cons_succ, List.getElem_cons_zero, List.setIfInBounds_toArray, List.set_cons_zero, List.set_cons_succ]
    refine wpAnyH_take (i := 6) (v := .agg #[.int .i64 p, .int .i64 (aN : Int), .int .i64 q]) rfl (by kernel_rfl) (by kernel_rfl) (by kernel_rfl) (fun _ _ _ h => h) (yields_bpl (.tmp 80) (.tmp 82) (.tmp 84) rfl (by kernel_rfl) p (aN : Int) q (by kernel_rfl) (by kernel_rfl) (by kernel_rfl)) R8 ?_
    simp only [Act.put, List.getElem_toArray, List.getElem_cons_succ, List.getElem_cons_zero, List.setIfInBounds_toArray, List.set_cons_zero, List.set_cons_succ]
    refine wpAnyH_take (i := 7) (v := .pointer (some ⟨b8, 0, none⟩)) rfl (by kernel_rfl) (by kernel_rfl) (by kernel_rfl) (fun _ _ _ h => h) (Or.inl ⟨by kernel_rfl, by intro w hS; go_simp⟩) R8 ?_
    simp only [Act.put, List.getElem_toArray, List.getElem_cons_succ, List.getElem_cons_zero, List.setIfInBounds_toArray, List.set_cons_zero, List.set_cons_succ]
    refine wpAnyH_take (i := 8) (v := .int .i64 p) rfl (by kernel_rfl) (by kernel_rfl) (by kernel_rfl) (fun _ _ _ h => h) (Or.inl ⟨by kernel_rfl, by intro w hS; have hc := (hS.cell 0).trans (show (mc (p, (sN : Int), i, (aN : Int), q))[0]? = some (.int .i64 p) from rfl); go_simp⟩) R8 ?_
    simp only [Act.put, List.getElem_toArray, List.getElem_cons_succ, List.getElem_cons_zero, List.setIfInBounds_toArray, List.set_cons_zero, List.set_cons_succ]
    refine wpAnyH_take (i := 9) (v := .pointer (some ⟨b8, 1, none⟩)) rfl (by kernel_rfl) (by kernel_rfl) (by kernel_rfl) (fun _ _ _ h => h) (Or.inl ⟨by kernel_rfl, by intro w hS; go_simp⟩) R8 ?_
    simp only [Act.put, List.getElem_toArray, List.getElem_cons_succ, List.getElem_cons_zero, List.setIfInBounds_toArray, List.set_cons_zero, List.set_cons_succ]
    refine wpAnyH_take (i := 10) (v := .int .i64 (sN : Int)) rfl (by kernel_rfl) (by kernel_rfl) (by kernel_rfl) (fun _ _ _ h => h) (Or.inl ⟨by kernel_rfl, by intro w hS; have hc := (hS.cell 1).trans (show (mc (p, (sN : Int), i, (aN : Int), q))[1]? = some (.int .i64 (sN : Int)) from rfl); go_simp⟩) R8 ?_
    simp only [Act.put, List.getElem_toArray, List.getElem_cons_succ, List.getElem_cons_zero, List.setIfInBounds_toArray, List.set_cons_zero, List.set_cons_succ]
    refine wpAnyH_take (i := 11) (v := .pointer (some ⟨b8, 2, none⟩)) rfl (by kernel_rfl) (by kernel_rfl) (by kernel_rfl) (fun _ _ _ h => h) (Or.inl ⟨by kernel_rfl, by intro w hS; go_simp⟩) R8 ?_
    simp only [Act.put, List.getElem_toArray, List.getElem_cons_succ, List.getElem_cons_zero, List.setIfInBounds_toArray, List.set_cons_zero, List.set_cons_succ]
    refine wpAnyH_take (i := 12) (v := .int .i64 i) rfl (by kernel_rfl) (by kernel_rfl) (by kernel_rfl) (fun _ _ _ h => h) (Or.inl ⟨by kernel_rfl, by intro w hS; have hc := (hS.cell 2).trans (show (mc (p, (sN : Int), i, (aN : Int), q))[2]? = some (.int .i64 i) from rfl); go_simp⟩) R8 ?_
    simp only [Act.put, List.getElem_toArray, List.getElem_cons_succ, List.getElem_cons_zero, List.setIfInBounds_toArray, List.set_cons_zero, List.set_cons_succ]
    refine wpAnyH_take (i := 13) (v := .agg #[.int .i64 p, .int .i64 (sN : Int), .int .i64 i]) rfl (by kernel_rfl) (by kernel_rfl) (by kernel_rfl) (fun _ _ _ h => h) (yields_bpr (.tmp 87) (.tmp 89) (.tmp 91) rfl (by kernel_rfl) p (sN : Int) i (by kernel_rfl) (by kernel_rfl) (by kernel_rfl)) R8 ?_
    simp only [Act.put, List.getElem_toArray, List.getElem_cons_succ, List.getElem_cons_zero, List.setIfInBounds_toArray, List.set_cons_zero, List.set_cons_succ]
    refine wpAnyH_ready (rs := [14, 15]) (by kernel_rfl) (by simp) ?_
    refine AllReadyH.cons rfl (fun K hK => ?_) ?_
    · rw [if_pos (by kernel_rfl)]
      refine wp_allocG 76 rfl _ pl_zero ?_; intro b12 w9 l9 R9 h9; (first | replace h9 := below_undrG h9 | skip); replace G := G.alloc l9 R9 h9; clear R9 h9 l9; replace R8 : Row 32 _ b8 (mc (p, (sN : Int), i, (aN : Int), q)) := (by first | exact G.bd.row 1 rfl | exact G.bd.row 2 rfl)
      refine hK.out _ _ R8 (fun _ => ?_)
      clear hK K
      try simp only [Act.put, List.getElem_toArray, List.getElem_cons_succ, List.getElem_cons_zero, List.setIfInBounds_toArray, List.set_cons_zero, List.set_cons_succ]
      refine wpAnyH_ready (rs := [15]) (by kernel_rfl) (by simp) ?_
      refine AllReadyH.cons rfl (fun K hK => ?_) ?_
      · rw [if_pos (by kernel_rfl)]
        refine wp_allocG 78 rfl _ pr_zero ?_; intro b13 w9 l9 R9 h9; (first | replace h9 := below_undrG h9 | skip); replace G := G.alloc l9 R9 h9; clear R9 h9 l9; replace R8 : Row 32 _ b8 (mc (p, (sN : Int), i, (aN : Int), q)) := (by first | exact G.bd.row 1 rfl | exact G.bd.row 2 rfl)
        refine hK.out _ _ R8 (fun _ => ?_)
        clear hK K
        try simp only [Act.put, List.getElem_toArray, List.getElem_cons_succ, List.getElem_cons_zero, List.setIfInBounds_toArray, List.set_cons_zero, List.set_cons_succ]
        refine wpAnyH_ready (rs := [16]) (by kernel_rfl) (by simp) ?_
        refine AllReadyH.cons rfl (fun K hK => ?_) ?_
        · rw [if_pos (by kernel_rfl)]
          (first | refine wp_storeR 76 (.tmp 12) (.tmp 85) rfl b12 (by kernel_rfl) #[.int .i64 p, .int .i64 (aN : Int), .int .i64 q] (by kernel_rfl) _ (G.bd.row 0 rfl) rfl (pl3_info (p, (sN : Int), i, (aN : Int), q)) (pl3_one (p, (sN : Int), i, (aN : Int), q)) ?_ | refine wp_storeR 76 (.tmp 12) (.tmp 85) rfl b12 (by kernel_rfl) #[.int .i64 p, .int .i64 (aN : Int), .int .i64 q] (by kernel_rfl) _ (G.bd.row 1 rfl) rfl (pl3_info (p, (sN : Int), i, (aN : Int), q)) (pl3_one (p, (sN : Int), i, (aN : Int), q)) ?_); intro w9 R9 t9; (first | replace t9 := turned_undrG t9 | skip); (first | replace G := G.turn 0 rfl R9 t9 | replace G := G.turn 1 rfl R9 t9); clear R9 t9; replace R8 : Row 32 _ b8 (mc (p, (sN : Int), i, (aN : Int), q)) := G.bd.row 2 rfl
          refine hK.out _ _ R8 (fun _ => ?_)
          clear hK K
          try simp only [Act.put, List.getElem_toArray, List.getElem_cons_succ, List.getElem_cons_zero, List.setIfInBounds_toArray, List.set_cons_zero, List.set_cons_succ]
          refine wpAnyH_ready (rs := [17]) (by kernel_rfl) (by simp) ?_
          refine AllReadyH.cons rfl (fun K hK => ?_) ?_
          · rw [if_pos (by kernel_rfl)]
            (first | refine wp_storeR 78 (.tmp 13) (.tmp 92) rfl b13 (by kernel_rfl) #[.int .i64 p, .int .i64 (sN : Int), .int .i64 i] (by kernel_rfl) _ (G.bd.row 0 rfl) rfl (pr3a_info (p, (sN : Int), i, (aN : Int), q)) (pr3a_one (p, (sN : Int), i, (aN : Int), q)) ?_ | refine wp_storeR 78 (.tmp 13) (.tmp 92) rfl b13 (by kernel_rfl) #[.int .i64 p, .int .i64 (sN : Int), .int .i64 i] (by kernel_rfl) _ (G.bd.row 1 rfl) rfl (pr3a_info (p, (sN : Int), i, (aN : Int), q)) (pr3a_one (p, (sN : Int), i, (aN : Int), q)) ?_); intro w9 R9 t9; (first | replace t9 := turned_undrG t9 | skip); (first | replace G := G.turn 0 rfl R9 t9 | replace G := G.turn 1 rfl R9 t9); clear R9 t9; replace R8 : Row 32 _ b8 (mc (p, (sN : Int), i, (aN : Int), q)) := G.bd.row 2 rfl
            refine hK.out _ _ R8 (fun _ => ?_)
            clear hK K
            try simp only [Act.put, List.getElem_toArray, List.getElem_cons_succ, List.getElem_cons_zero, List.setIfInBounds_toArray, List.set_cons_zero, List.set_cons_succ]
            refine wpAnyH_done (by kernel_rfl) ?_ _
            refine NoPanic.normal ?_
            go_wp2_with fail
            go_meet
            case rel => first | exact ⟨b12, b13, rfl, rfl, rfl, G⟩ | exact ⟨b12, b13, rfl, rfl, rfl, G.swap⟩
          exact AllReadyH.nil
        exact AllReadyH.nil
      exact AllReadyH.nil
    refine AllReadyH.cons rfl (fun K hK => ?_) ?_
    · rw [if_pos (by kernel_rfl)]
      refine wp_allocG 78 rfl _ pr_zero ?_; intro b13 w9 l9 R9 h9; (first | replace h9 := below_undrG h9 | skip); replace G := G.alloc l9 R9 h9; clear R9 h9 l9; replace R8 : Row 32 _ b8 (mc (p, (sN : Int), i, (aN : Int), q)) := (by first | exact G.bd.row 1 rfl | exact G.bd.row 2 rfl)
      refine hK.out _ _ R8 (fun _ => ?_)
      clear hK K
      try simp only [Act.put, List.getElem_toArray, List.getElem_cons_succ, List.getElem_cons_zero, List.setIfInBounds_toArray, List.set_cons_zero, List.set_cons_succ]
      refine wpAnyH_ready (rs := [14]) (by kernel_rfl) (by simp) ?_
      refine AllReadyH.cons rfl (fun K hK => ?_) ?_
      · rw [if_pos (by kernel_rfl)]
        refine wp_allocG 76 rfl _ pl_zero ?_; intro b12 w9 l9 R9 h9; (first | replace h9 := below_undrG h9 | skip); replace G := G.alloc l9 R9 h9; clear R9 h9 l9; replace R8 : Row 32 _ b8 (mc (p, (sN : Int), i, (aN : Int), q)) := (by first | exact G.bd.row 1 rfl | exact G.bd.row 2 rfl)
        refine hK.out _ _ R8 (fun _ => ?_)
        clear hK K
        try simp only [Act.put, List.getElem_toArray, List.getElem_cons_succ, List.getElem_cons_zero, List.setIfInBounds_toArray, List.set_cons_zero, List.set_cons_succ]
        refine wpAnyH_ready (rs := [16]) (by kernel_rfl) (by simp) ?_
        refine AllReadyH.cons rfl (fun K hK => ?_) ?_
        · rw [if_pos (by kernel_rfl)]
          (first | refine wp_storeR 76 (.tmp 12) (.tmp 85) rfl b12 (by kernel_rfl) #[.int .i64 p, .int .i64 (aN : Int), .int .i64 q] (by kernel_rfl) _ (G.bd.row 0 rfl) rfl (pl3_info (p, (sN : Int), i, (aN : Int), q)) (pl3_one (p, (sN : Int), i, (aN : Int), q)) ?_ | refine wp_storeR 76 (.tmp 12) (.tmp 85) rfl b12 (by kernel_rfl) #[.int .i64 p, .int .i64 (aN : Int), .int .i64 q] (by kernel_rfl) _ (G.bd.row 1 rfl) rfl (pl3_info (p, (sN : Int), i, (aN : Int), q)) (pl3_one (p, (sN : Int), i, (aN : Int), q)) ?_); intro w9 R9 t9; (first | replace t9 := turned_undrG t9 | skip); (first | replace G := G.turn 0 rfl R9 t9 | replace G := G.turn 1 rfl R9 t9); clear R9 t9; replace R8 : Row 32 _ b8 (mc (p, (sN : Int), i, (aN : Int), q)) := G.bd.row 2 rfl
          refine hK.out _ _ R8 (fun _ => ?_)
          clear hK K
          try simp only [Act.put, List.getElem_toArray, List.getElem_cons_succ, List.getElem_cons_zero, List.setIfInBounds_toArray, List.set_cons_zero, List.set_cons_succ]
          refine wpAnyH_ready (rs := [17]) (by kernel_rfl) (by simp) ?_
          refine AllReadyH.cons rfl (fun K hK => ?_) ?_
          · rw [if_pos (by kernel_rfl)]
            (first | refine wp_storeR 78 (.tmp 13) (.tmp 92) rfl b13 (by kernel_rfl) #[.int .i64 p, .int .i64 (sN : Int), .int .i64 i] (by kernel_rfl) _ (G.bd.row 0 rfl) rfl (pr3a_info (p, (sN : Int), i, (aN : Int), q)) (pr3a_one (p, (sN : Int), i, (aN : Int), q)) ?_ | refine wp_storeR 78 (.tmp 13) (.tmp 92) rfl b13 (by kernel_rfl) #[.int .i64 p, .int .i64 (sN : Int), .int .i64 i] (by kernel_rfl) _ (G.bd.row 1 rfl) rfl (pr3a_info (p, (sN : Int), i, (aN : Int), q)) (pr3a_one (p, (sN : Int), i, (aN : Int), q)) ?_); intro w9 R9 t9; (first | replace t9 := turned_undrG t9 | skip); (first | replace G := G.turn 0 rfl R9 t9 | replace G := G.turn 1 rfl R9 t9); clear R9 t9; replace R8 : Row 32 _ b8 (mc (p, (sN : Int), i, (aN : Int), q)) := G.bd.row 2 rfl
            refine hK.out _ _ R8 (fun _ => ?_)
            clear hK K
            try simp only [Act.put, List.getElem_toArray, List.getElem_cons_succ, List.getElem_cons_zero, List.setIfInBounds_toArray, List.set_cons_zero, List.set_cons_succ]
            refine wpAnyH_done (by kernel_rfl) ?_ _
            refine NoPanic.normal ?_
            go_wp2_with fail
            go_meet
            case rel => first | exact ⟨b12, b13, rfl, rfl, rfl, G⟩ | exact ⟨b12, b13, rfl, rfl, rfl, G.swap⟩
          exact AllReadyH.nil
        exact AllReadyH.nil
      exact AllReadyH.nil
    exact AllReadyH.nil
  case rest =>
    clear G R8
    obtain ⟨b12, b13, rfl, rfl, rfl, G⟩ := hcut
    have H18 : Hid (6 * aN + kN < 18) := hidB (by have := H50.out; have := HK6.out; omega)
    obtain ⟨dH, hdH⟩ : ∃ d, IntKind.i64.wrap (h sN - 1) = d := ⟨_, rfl⟩
    obtain ⟨dO, hdO⟩ : ∃ d, IntKind.i64.wrap (f (6 * aN + kN) - 1) = d := ⟨_, rfl⟩
    have EH : Hid (IntKind.i64.wrap (h sN - 1) = dH) := hdH
    have EO : Hid (IntKind.i64.wrap (f (6 * aN + kN) - 1) = dO) := hdO
    have hc3 := dec_ne (x := h sN) (y := (aN : Int)) (hwH sN HS8.out) ⟨by omega, by have := H50.out; omega⟩
    have hc4 := dec_ne (x := f (6 * aN + kN)) (y := (sN : Int)) (good_wf hgp _ H18.out) ⟨by omega, by have := HS8.out; omega⟩
    rw [hdH] at hc3
    rw [hdO] at hc4
    clear hdH hdO
    have C3 : Hid ((dH != (aN : Int)) = false) := hidB (by rw [hc3]; have := E5.out; simp at this; simp [this])
    have C4 : Hid ((dO != (sN : Int)) = false) := hidB (by rw [hc4]; have := E6.out; rw [place_at HKN.out] at this; simp at this ⊢; exact this)
    clear hc3 hc4
    go_upto_region 13 with (fail)
    refine wp_region_noPanic ?_
    refine wp_region_held_drew (S := fun W => Gm w W [(b12, 76, #[.int .i64 p, .int .i64 (aN : Int), .int .i64 q]), (b13, 78, #[.int .i64 p, .int .i64 (sN : Int), .int .i64 i]), (b8, 32, mc (p, (sN : Int), i, (aN : Int), q)), (b1, 30, tc f g h (.slice a0 n cap))] [] [entI 3 k1v wf6 b6 n6 (nOf (ms.take j)), entI 79 k2 ok2 b5 n5 (nPl (ms.take j)), entB 78 k3 ok3 b4 n4 (sIn (ms.take j)), entB 76 k3 ok3 b3 n3 (sOut (ms.take j))]) (by kernel_rfl) (by first | exact G | exact G.drew) (fun _ => ?_)
    refine wpAnyH_take (i := 0) (v := .map (some b3)) rfl (by kernel_rfl) (by kernel_rfl) (by kernel_rfl) (fun _ _ _ h => h) (Or.inl ⟨by kernel_rfl, by intro w hS; go_simp⟩) (by first | exact G | exact G.drew) ?_
    simp only [Act.put, List.getElem_toArray, List.getElem_cons_succ, List.getElem_cons_zero, List.setIfInBounds_toArray, List.set_cons_zero, List.set_cons_succ]
    refine wpAnyH_take (i := 1) (v := .agg #[.int .i64 p, .int .i64 (aN : Int), .int .i64 q]) rfl (by kernel_rfl) (by kernel_rfl) (by kernel_rfl) (fun _ _ _ h => h) (yields_loadR 76 (.tmp 12) rfl (by kernel_rfl) b12 (by kernel_rfl) #[.int .i64 p, .int .i64 (aN : Int), .int .i64 q] (fun _ h => h.bd.row 0 rfl) _ Try.underlying76 rfl (pl3_info (p, (sN : Int), i, (aN : Int), q))) (by first | exact G | exact G.drew) ?_
    simp only [Act.put, List.getElem_toArray, List.getElem_cons_succ, List.getElem_cons_zero, List.setIfInBounds_toArray, List.set_cons_zero, List.set_cons_succ]
    refine wpAnyH_take (i := 2) (v := .bool false) rfl (by kernel_rfl) (by kernel_rfl) (by kernel_rfl) (fun _ _ _ h => h) (yields_lk 70 (.tmp 93) (.tmp 94) rfl (by kernel_rfl) (.map (some b3)) (k3 (p, (aN : Int), q)) _ (by kernel_rfl) (by kernel_rfl) (fun w h => by have := MeB.look (h.ent 3 rfl) kyPlace Try.underlying70 (p, (aN : Int), q) HPL.out; rw [E3.out] at this; exact this)) (by first | exact G | exact G.drew) ?_
    simp only [Act.put, List.getElem_toArray, List.getElem_cons_succ, List.getElem_cons_zero, List.setIfInBounds_toArray, List.set_cons_zero, List.set_cons_succ]
    refine wpAnyH_take (i := 3) (v := .bool false) rfl (by kernel_rfl) (by kernel_rfl) (by kernel_rfl) (fun _ _ _ h => h) (Or.inl ⟨by kernel_rfl, by intro w hS; go_simp⟩) (by first | exact G | exact G.drew) ?_
    simp only [Act.put, List.getElem_toArray, List.getElem_cons_succ, List.getElem_cons_zero, List.setIfInBounds_toArray, List.set_cons_zero, List.set_cons_succ]
    refine wpAnyH_take (i := 4) (v := .map (some b4)) rfl (by kernel_rfl) (by kernel_rfl) (by kernel_rfl) (fun _ _ _ h => h) (Or.inl ⟨by kernel_rfl, by intro w hS; go_simp⟩) (by first | exact G | exact G.drew) ?_
    simp only [Act.put, List.getElem_toArray, List.getElem_cons_succ, List.getElem_cons_zero, List.setIfInBounds_toArray, List.set_cons_zero, List.set_cons_succ]
    refine wpAnyH_take (i := 5) (v := .agg #[.int .i64 p, .int .i64 (sN : Int), .int .i64 i]) rfl (by kernel_rfl) (by kernel_rfl) (by kernel_rfl) (fun _ _ _ h => h) (yields_loadR 78 (.tmp 13) rfl (by kernel_rfl) b13 (by kernel_rfl) #[.int .i64 p, .int .i64 (sN : Int), .int .i64 i] (fun _ h => h.bd.row 1 rfl) _ Try.underlying78 rfl (pr3a_info (p, (sN : Int), i, (aN : Int), q))) (by first | exact G | exact G.drew) ?_
    simp only [Act.put, List.getElem_toArray, List.getElem_cons_succ, List.getElem_cons_zero, List.setIfInBounds_toArray, List.set_cons_zero, List.set_cons_succ]
    refine wpAnyH_take (i := 6) (v := .bool false) rfl (by kernel_rfl) (by kernel_rfl) (by kernel_rfl) (fun _ _ _ h => h) (yields_lk 71 (.tmp 97) (.tmp 98) rfl (by kernel_rfl) (.map (some b4)) (k3 (p, (sN : Int), i)) _ (by kernel_rfl) (by kernel_rfl) (fun w h => by have := MeB.look (h.ent 2 rfl) kyPort Try.underlying71 (p, (sN : Int), i) HPR.out; rw [E4.out] at this; exact this)) (by first | exact G | exact G.drew) ?_
    simp only [Act.put, List.getElem_toArray, List.getElem_cons_succ, List.getElem_cons_zero, List.setIfInBounds_toArray, List.set_cons_zero, List.set_cons_succ]
    refine wpAnyH_take (i := 7) (v := .bool false) rfl (by kernel_rfl) (by kernel_rfl) (by kernel_rfl) (fun _ _ _ h => h) (yields_pickf (.tmp 96) (.const (.bool true)) (.tmp 99) _ rfl (by kernel_rfl) (by kernel_rfl) (by kernel_rfl)) (by first | exact G | exact G.drew) ?_
    simp only [Act.put, List.getElem_toArray, List.getElem_cons_succ, List.getElem_cons_zero, List.setIfInBounds_toArray, List.set_cons_zero, List.set_cons_succ]
    refine wpAnyH_take (i := 8) (v := .bool false) rfl (by kernel_rfl) (by kernel_rfl) (by kernel_rfl) (fun _ _ _ h => h) (Or.inl ⟨by kernel_rfl, by intro w hS; go_simp⟩) (by first | exact G | exact G.drew) ?_
    simp only [Act.put, List.getElem_toArray, List.getElem_cons_succ, List.getElem_cons_zero, List.setIfInBounds_toArray, List.set_cons_zero, List.set_cons_succ]
    refine wpAnyH_take (i := 9) (v := .pointer (some ⟨b8, 1, none⟩)) rfl (by kernel_rfl) (by kernel_rfl) (by kernel_rfl) (fun _ _ _ h => h) (Or.inl ⟨by kernel_rfl, by intro w hS; go_simp⟩) (by first | exact G | exact G.drew) ?_
    simp only [Act.put, List.getElem_toArray, List.getElem_cons_succ, List.getElem_cons_zero, List.setIfInBounds_toArray, List.set_cons_zero, List.set_cons_succ]
    refine wpAnyH_take (i := 10) (v := .int .i64 (sN : Int)) rfl (by kernel_rfl) (by kernel_rfl) (by kernel_rfl) (fun _ _ _ h => h) (Or.inl ⟨by kernel_rfl, by intro w hS; have hc := ((hS.bd.row 2 rfl).cell 1).trans (show (mc (p, (sN : Int), i, (aN : Int), q))[1]? = some (.int .i64 (sN : Int)) from rfl); go_simp⟩) (by first | exact G | exact G.drew) ?_
    simp only [Act.put, List.getElem_toArray, List.getElem_cons_succ, List.getElem_cons_zero, List.setIfInBounds_toArray, List.set_cons_zero, List.set_cons_succ]
    refine wpAnyH_take (i := 11) (v := .pointer (some ⟨b1, 21, none⟩)) rfl (by kernel_rfl) (by kernel_rfl) (by kernel_rfl) (fun _ _ _ h => h) (Or.inl ⟨by kernel_rfl, by intro w hS; go_simp⟩) (by first | exact G | exact G.drew) ?_
    simp only [Act.put, List.getElem_toArray, List.getElem_cons_succ, List.getElem_cons_zero, List.setIfInBounds_toArray, List.set_cons_zero, List.set_cons_succ]
    refine wpAnyH_take (i := 12) (v := .pointer (some ⟨b1, 21 + sN, none⟩)) rfl (by kernel_rfl) (by kernel_rfl) (by kernel_rfl) (fun _ _ _ h => h) (yields_ixG 27 (.tmp 104) (.tmp 103) rfl (by kernel_rfl) _ _ _ (by kernel_rfl) (by kernel_rfl) (fun w => ix8 b1 21 sN HS8.out w)) (by first | exact G | exact G.drew) ?_
    simp only [Act.put, List.getElem_toArray, List.getElem_cons_succ, List.getElem_cons_zero, List.setIfInBounds_toArray, List.set_cons_zero, List.set_cons_succ]
    refine wpAnyH_take (i := 13) (v := .int .i64 (h sN)) rfl (by kernel_rfl) (by kernel_rfl) (by kernel_rfl) (fun _ _ _ h => h) (Or.inl ⟨by kernel_rfl, by intro w hS; have hc := ((hS.bd.row 3 rfl).cell (21 + sN)).trans (tc_home _ _ _ _ sN HS8.out); go_simp⟩) (by first | exact G | exact G.drew) ?_
    simp only [Act.put, List.getElem_toArray, List.getElem_cons_succ, List.getElem_cons_zero, List.setIfInBounds_toArray, List.set_cons_zero, List.set_cons_succ]
    refine wpAnyH_take (i := 14) (v := .int .i64 dH) rfl (by kernel_rfl) (by kernel_rfl) (by kernel_rfl) (fun _ _ _ h => h) (yields_dec (.tmp 106) rfl (by kernel_rfl) _ _ (by kernel_rfl) EH.out) (by first | exact G | exact G.drew) ?_
    simp only [Act.put, List.getElem_toArray, List.getElem_cons_succ, List.getElem_cons_zero, List.setIfInBounds_toArray, List.set_cons_zero, List.set_cons_succ]
    refine wpAnyH_take (i := 15) (v := .pointer (some ⟨b8, 3, none⟩)) rfl (by kernel_rfl) (by kernel_rfl) (by kernel_rfl) (fun _ _ _ h => h) (Or.inl ⟨by kernel_rfl, by intro w hS; go_simp⟩) (by first | exact G | exact G.drew) ?_
    simp only [Act.put, List.getElem_toArray, List.getElem_cons_succ, List.getElem_cons_zero, List.setIfInBounds_toArray, List.set_cons_zero, List.set_cons_succ]
    refine wpAnyH_take (i := 16) (v := .int .i64 (aN : Int)) rfl (by kernel_rfl) (by kernel_rfl) (by kernel_rfl) (fun _ _ _ h => h) (Or.inl ⟨by kernel_rfl, by intro w hS; have hc := ((hS.bd.row 2 rfl).cell 3).trans (show (mc (p, (sN : Int), i, (aN : Int), q))[3]? = some (.int .i64 (aN : Int)) from rfl); go_simp⟩) (by first | exact G | exact G.drew) ?_
    simp only [Act.put, List.getElem_toArray, List.getElem_cons_succ, List.getElem_cons_zero, List.setIfInBounds_toArray, List.set_cons_zero, List.set_cons_succ]
    refine wpAnyH_take (i := 17) (v := .bool false) rfl (by kernel_rfl) (by kernel_rfl) (by kernel_rfl) (fun _ _ _ h => h) (yields_nei 3 (.tmp 107) (.tmp 109) _ _ _ rfl (by kernel_rfl) (by kernel_rfl) (by kernel_rfl) C3.out) (by first | exact G | exact G.drew) ?_
    simp only [Act.put, List.getElem_toArray, List.getElem_cons_succ, List.getElem_cons_zero, List.setIfInBounds_toArray, List.set_cons_zero, List.set_cons_succ]
    refine wpAnyH_take (i := 18) (v := .bool false) rfl (by kernel_rfl) (by kernel_rfl) (by kernel_rfl) (fun _ _ _ h => h) (yields_pickf (.tmp 101) (.const (.bool true)) (.tmp 110) _ rfl (by kernel_rfl) (by kernel_rfl) (by kernel_rfl)) (by first | exact G | exact G.drew) ?_
    simp only [Act.put, List.getElem_toArray, List.getElem_cons_succ, List.getElem_cons_zero, List.setIfInBounds_toArray, List.set_cons_zero, List.set_cons_succ]
    refine wpAnyH_take (i := 19) (v := .bool false) rfl (by kernel_rfl) (by kernel_rfl) (by kernel_rfl) (fun _ _ _ h => h) (Or.inl ⟨by kernel_rfl, by intro w hS; go_simp⟩) (by first | exact G | exact G.drew) ?_
    simp only [Act.put, List.getElem_toArray, List.getElem_cons_succ, List.getElem_cons_zero, List.setIfInBounds_toArray, List.set_cons_zero, List.set_cons_succ]
    refine wpAnyH_take (i := 20) (v := .pointer (some ⟨b8, 3, none⟩)) rfl (by kernel_rfl) (by kernel_rfl) (by kernel_rfl) (fun _ _ _ h => h) (Or.inl ⟨by kernel_rfl, by intro w hS; go_simp⟩) (by first | exact G | exact G.drew) ?_
    simp only [Act.put, List.getElem_toArray, List.getElem_cons_succ, List.getElem_cons_zero, List.setIfInBounds_toArray, List.set_cons_zero, List.set_cons_succ]
    refine wpAnyH_take (i := 21) (v := .int .i64 (aN : Int)) rfl (by kernel_rfl) (by kernel_rfl) (by kernel_rfl) (fun _ _ _ h => h) (Or.inl ⟨by kernel_rfl, by intro w hS; have hc := ((hS.bd.row 2 rfl).cell 3).trans (show (mc (p, (sN : Int), i, (aN : Int), q))[3]? = some (.int .i64 (aN : Int)) from rfl); go_simp⟩) (by first | exact G | exact G.drew) ?_
    simp only [Act.put, List.getElem_toArray, List.getElem_cons_succ, List.getElem_cons_zero, List.setIfInBounds_toArray, List.set_cons_zero, List.set_cons_succ]
    refine wpAnyH_take (i := 22) (v := .int .i64 (kN : Int)) rfl (by kernel_rfl) (by kernel_rfl) (by kernel_rfl) (fun _ _ _ h => h) (Or.inl ⟨by kernel_rfl, by intro w hS; go_simp⟩) (by first | exact G | exact G.drew) ?_
    simp only [Act.put, List.getElem_toArray, List.getElem_cons_succ, List.getElem_cons_zero, List.setIfInBounds_toArray, List.set_cons_zero, List.set_cons_succ]
    refine wpAnyH_take (i := 23) (v := .pointer (some ⟨b1, 0, none⟩)) rfl (by kernel_rfl) (by kernel_rfl) (by kernel_rfl) (fun _ _ _ h => h) (Or.inl ⟨by kernel_rfl, by intro w hS; go_simp⟩) (by first | exact G | exact G.drew) ?_
    simp only [Act.put, List.getElem_toArray, List.getElem_cons_succ, List.getElem_cons_zero, List.setIfInBounds_toArray, List.set_cons_zero, List.set_cons_succ]
    refine wpAnyH_take (i := 24) (v := .pointer (some ⟨b1, 0, none⟩)) rfl (by kernel_rfl) (by kernel_rfl) (by kernel_rfl) (fun _ _ _ h => h) (Or.inl ⟨by kernel_rfl, by intro w hS; go_simp⟩) (by first | exact G | exact G.drew) ?_
    simp only [Act.put, List.getElem_toArray, List.getElem_cons_succ, List.getElem_cons_zero, List.setIfInBounds_toArray, List.set_cons_zero, List.set_cons_succ]
    refine wpAnyH_take (i := 25) (v := .pointer (some ⟨b1, 6 * aN, none⟩)) rfl (by kernel_rfl) (by kernel_rfl) (by kernel_rfl) (fun _ _ _ h => h) (yields_ixG 23 (.tmp 117) (.tmp 114) rfl (by kernel_rfl) _ _ _ (by kernel_rfl) (by kernel_rfl) (fun w => by have := ix3 b1 0 aN H50.out w; simpa using this)) (by first | exact G | exact G.drew) ?_
    simp only [Act.put, List.getElem_toArray, List.getElem_cons_succ, List.getElem_cons_zero, List.setIfInBounds_toArray, List.set_cons_zero, List.set_cons_succ]
    refine wpAnyH_take (i := 26) (v := .pointer (some ⟨b1, 6 * aN + kN, none⟩)) rfl (by kernel_rfl) (by kernel_rfl) (by kernel_rfl) (fun _ _ _ h => h) (yields_ixG 22 (.tmp 118) (.tmp 115) rfl (by kernel_rfl) _ _ _ (by kernel_rfl) (by kernel_rfl) (fun w => ix6 b1 (6 * aN) kN HK6.out w)) (by first | exact G | exact G.drew) ?_
    simp only [Act.put, List.getElem_toArray, List.getElem_cons_succ, List.getElem_cons_zero, List.setIfInBounds_toArray, List.set_cons_zero, List.set_cons_succ]
    refine wpAnyH_take (i := 27) (v := .int .i64 (f (6 * aN + kN))) rfl (by kernel_rfl) (by kernel_rfl) (by kernel_rfl) (fun _ _ _ h => h) (Or.inl ⟨by kernel_rfl, by intro w hS; have hc := ((hS.bd.row 3 rfl).cell (6 * aN + kN)).trans (tc_own _ _ _ _ _ H18.out); go_simp⟩) (by first | exact G | exact G.drew) ?_
    simp only [Act.put, List.getElem_toArray, List.getElem_cons_succ, List.getElem_cons_zero, List.setIfInBounds_toArray, List.set_cons_zero, List.set_cons_succ]
    refine wpAnyH_take (i := 28) (v := .int .i64 dO) rfl (by kernel_rfl) (by kernel_rfl) (by kernel_rfl) (fun _ _ _ h => h) (yields_dec (.tmp 120) rfl (by kernel_rfl) _ _ (by kernel_rfl) EO.out) (by first | exact G | exact G.drew) ?_
    simp only [Act.put, List.getElem_toArray, List.getElem_cons_succ, List.getElem_cons_zero, List.setIfInBounds_toArray, List.set_cons_zero, List.set_cons_succ]
    refine wpAnyH_take (i := 29) (v := .pointer (some ⟨b8, 1, none⟩)) rfl (by kernel_rfl) (by kernel_rfl) (by kernel_rfl) (fun _ _ _ h => h) (Or.inl ⟨by kernel_rfl, by intro w hS; go_simp⟩) (by first | exact G | exact G.drew) ?_
    simp only [Act.put, List.getElem_toArray, List.getElem_cons_succ, List.getElem_cons_zero, List.setIfInBounds_toArray, List.set_cons_zero, List.set_cons_succ]
    refine wpAnyH_take (i := 30) (v := .int .i64 (sN : Int)) rfl (by kernel_rfl) (by kernel_rfl) (by kernel_rfl) (fun _ _ _ h => h) (Or.inl ⟨by kernel_rfl, by intro w hS; have hc := ((hS.bd.row 2 rfl).cell 1).trans (show (mc (p, (sN : Int), i, (aN : Int), q))[1]? = some (.int .i64 (sN : Int)) from rfl); go_simp⟩) (by first | exact G | exact G.drew) ?_
    simp only [Act.put, List.getElem_toArray, List.getElem_cons_succ, List.getElem_cons_zero, List.setIfInBounds_toArray, List.set_cons_zero, List.set_cons_succ]
    refine wpAnyH_take (i := 31) (v := .bool false) rfl (by kernel_rfl) (by kernel_rfl) (by kernel_rfl) (fun _ _ _ h => h) (yields_nei 3 (.tmp 121) (.tmp 123) _ _ _ rfl (by kernel_rfl) (by kernel_rfl) (by kernel_rfl) C4.out) (by first | exact G | exact G.drew) ?_
    simp only [Act.put, List.getElem_toArray, List.getElem_cons_succ, List.getElem_cons_zero, List.setIfInBounds_toArray, List.set_cons_zero, List.set_cons_succ]
    refine wpAnyH_take (i := 32) (v := .bool false) rfl (by kernel_rfl) (by kernel_rfl) (by kernel_rfl) (fun _ _ _ h => h) (yields_pickf (.tmp 112) (.const (.bool true)) (.tmp 124) _ rfl (by kernel_rfl) (by kernel_rfl) (by kernel_rfl)) (by first | exact G | exact G.drew) ?_
    simp only [Act.put, List.getElem_toArray, List.getElem_cons_succ, List.getElem_cons_zero, List.setIfInBounds_toArray, List.set_cons_zero, List.set_cons_succ]
    refine wpAnyH_done (by kernel_rfl) ?_ _
    refine NoPanic.normal ?_
    replace G := G.drew
    go_upto_region 15 with (fail)
    have R12 : Row 76 _ b12 #[.int .i64 p, .int .i64 (aN : Int), .int .i64 q] := G.bd.row 0 rfl
    have R13 : Row 78 _ b13 #[.int .i64 p, .int .i64 (sN : Int), .int .i64 i] := G.bd.row 1 rfl
    refine wp_region_noPanic ?_
    refine wp_region_held_drew (S := fun W => Row 76 W b12 #[.int .i64 p, .int .i64 (aN : Int), .int .i64 q] ∧ Row 78 W b13 #[.int .i64 p, .int .i64 (sN : Int), .int .i64 i]) (by kernel_rfl) ⟨R12, R13⟩ (fun _ => ?_)
    refine wpAnyH_take (i := 0) (v := .map (some b3)) rfl (by kernel_rfl) (by kernel_rfl) (by kernel_rfl) (fun _ _ _ h => h) (Or.inl ⟨by kernel_rfl, by intro w hS; go_simp⟩) ⟨R12, R13⟩ ?_
    simp only [Act.put, List.getElem_toArray, List.getElem_cons_succ, List.getElem_cons_zero, List.setIfInBounds_toArray, List.set_cons_zero, List.set_cons_succ]
    refine wpAnyH_take (i := 1) (v := .agg #[.int .i64 p, .int .i64 (aN : Int), .int .i64 q]) rfl (by kernel_rfl) (by kernel_rfl) (by kernel_rfl) (fun _ _ _ h => h) (yields_loadR 76 (.tmp 12) rfl (by kernel_rfl) b12 (by kernel_rfl) #[.int .i64 p, .int .i64 (aN : Int), .int .i64 q] (fun _ h => h.1) _ Try.underlying76 rfl (pl3_info (p, (sN : Int), i, (aN : Int), q))) ⟨R12, R13⟩ ?_
    simp only [Act.put, List.getElem_toArray, List.getElem_cons_succ, List.getElem_cons_zero, List.setIfInBounds_toArray, List.set_cons_zero, List.set_cons_succ]
    refine wpAnyH_take (i := 2) (v := .map (some b4)) rfl (by kernel_rfl) (by kernel_rfl) (by kernel_rfl) (fun _ _ _ h => h) (Or.inl ⟨by kernel_rfl, by intro w hS; go_simp⟩) ⟨R12, R13⟩ ?_
    simp only [Act.put, List.getElem_toArray, List.getElem_cons_succ, List.getElem_cons_zero, List.setIfInBounds_toArray, List.set_cons_zero, List.set_cons_succ]
    refine wpAnyH_take (i := 3) (v := .agg #[.int .i64 p, .int .i64 (sN : Int), .int .i64 i]) rfl (by kernel_rfl) (by kernel_rfl) (by kernel_rfl) (fun _ _ _ h => h) (yields_loadR 78 (.tmp 13) rfl (by kernel_rfl) b13 (by kernel_rfl) #[.int .i64 p, .int .i64 (sN : Int), .int .i64 i] (fun _ h => h.2) _ Try.underlying78 rfl (pr3a_info (p, (sN : Int), i, (aN : Int), q))) ⟨R12, R13⟩ ?_
    simp only [Act.put, List.getElem_toArray, List.getElem_cons_succ, List.getElem_cons_zero, List.setIfInBounds_toArray, List.set_cons_zero, List.set_cons_succ]
    refine wpAnyH_ready (rs := [4]) (by kernel_rfl) (by simp) ?_
    refine AllReadyH.cons rfl (fun K hK => ?_) ?_
    · rw [if_pos (by kernel_rfl)]
      (first | (obtain ⟨w9, hr9, G9⟩ := G.putB 3 rfl kyPlace Try.underlying70 HB3.out (p, (aN : Int), q) HPL.out true; refine wp_mu 70 (.tmp 126) (.tmp 127) (.const (.bool true)) rfl _ _ _ (by kernel_rfl) (by kernel_rfl) (by kernel_rfl) hr9 ?_) | (obtain ⟨w9, hr9, G9⟩ := G.drew.putB 3 rfl kyPlace Try.underlying70 HB3.out (p, (aN : Int), q) HPL.out true; refine wp_mu 70 (.tmp 126) (.tmp 127) (.const (.bool true)) rfl _ _ _ (by kernel_rfl) (by kernel_rfl) (by kernel_rfl) hr9 ?_)); clear G hr9; have G := G9; clear G9; replace R12 : Row 76 _ b12 #[.int .i64 p, .int .i64 (aN : Int), .int .i64 q] := G.bd.row 0 rfl; replace R13 : Row 78 _ b13 #[.int .i64 p, .int .i64 (sN : Int), .int .i64 i] := G.bd.row 1 rfl
      refine hK.out _ _ ⟨R12, R13⟩ (fun _ => ?_)
      clear hK K
      try simp only [Act.put, List.getElem_toArray, List.getElem_cons_succ, List.getElem_cons_zero, List.setIfInBounds_toArray, List.set_cons_zero, List.set_cons_succ]
      refine wpAnyH_ready (rs := [5]) (by kernel_rfl) (by simp) ?_
      refine AllReadyH.cons rfl (fun K hK => ?_) ?_
      · rw [if_pos (by kernel_rfl)]
        (first | (obtain ⟨w9, hr9, G9⟩ := G.putB 2 rfl kyPort Try.underlying71 HB4.out (p, (sN : Int), i) HPR.out true; refine wp_mu 71 (.tmp 128) (.tmp 129) (.const (.bool true)) rfl _ _ _ (by kernel_rfl) (by kernel_rfl) (by kernel_rfl) hr9 ?_) | (obtain ⟨w9, hr9, G9⟩ := G.drew.putB 2 rfl kyPort Try.underlying71 HB4.out (p, (sN : Int), i) HPR.out true; refine wp_mu 71 (.tmp 128) (.tmp 129) (.const (.bool true)) rfl _ _ _ (by kernel_rfl) (by kernel_rfl) (by kernel_rfl) hr9 ?_)); clear G hr9; have G := G9; clear G9; replace R12 : Row 76 _ b12 #[.int .i64 p, .int .i64 (aN : Int), .int .i64 q] := G.bd.row 0 rfl; replace R13 : Row 78 _ b13 #[.int .i64 p, .int .i64 (sN : Int), .int .i64 i] := G.bd.row 1 rfl
        refine hK.out _ _ ⟨R12, R13⟩ (fun _ => ?_)
        clear hK K
        try simp only [Act.put, List.getElem_toArray, List.getElem_cons_succ, List.getElem_cons_zero, List.setIfInBounds_toArray, List.set_cons_zero, List.set_cons_succ]
        refine wpAnyH_done (by kernel_rfl) ?_ _
        refine NoPanic.normal ?_
        clear R12 R13
        go_upto_region 16 with (fail)
        have R8 : Row 32 _ b8 (mc (p, (sN : Int), i, (aN : Int), q)) := G.bd.row 2 rfl
        have HW5 : Hid (IntKind.i64.wrap (nPl (ms.take j) ((aN : Int), (kN : Int)) + 1) = nPl (ms.take j) ((aN : Int), (kN : Int)) + 1) := hidB (wrap_in (by have := nPl_le (ms.take j) ((aN : Int), (kN : Int)); have := HLT.out; omega))
        have HY5 : Hid ((Lit.int .i64 (nPl (ms.take j) ((aN : Int), (kN : Int)) + 1)).wf = true) := hidB (wf6_of (by have := nPl_le (ms.take j) ((aN : Int), (kN : Int)); have := HLT.out; omega))
        refine wp_region_noPanic ?_
        refine wp_region_held_drew (S := fun W => Row 32 W b8 (mc (p, (sN : Int), i, (aN : Int), q))) (by kernel_rfl) R8 (fun _ => ?_)
        refine wpAnyH_take (i := 0) (v := .map (some b5)) rfl (by kernel_rfl) (by kernel_rfl) (by kernel_rfl) (fun _ _ _ h => h) (Or.inl ⟨by kernel_rfl, by intro w hS; go_simp⟩) R8 ?_
        simp only [Act.put, List.getElem_toArray, List.getElem_cons_succ, List.getElem_cons_zero, List.setIfInBounds_toArray, List.set_cons_zero, List.set_cons_succ]
        refine wpAnyH_take (i := 1) (v := .pointer (some ⟨b8, 3, none⟩)) rfl (by kernel_rfl) (by kernel_rfl) (by kernel_rfl) (fun _ _ _ h => h) (Or.inl ⟨by kernel_rfl, by intro w hS; go_simp⟩) R8 ?_
        simp only [Act.put, List.getElem_toArray, List.getElem_cons_succ, List.getElem_cons_zero, List.setIfInBounds_toArray, List.set_cons_zero, List.set_cons_succ]
        refine wpAnyH_take (i := 2) (v := .int .i64 (aN : Int)) rfl (by kernel_rfl) (by kernel_rfl) (by kernel_rfl) (fun _ _ _ h => h) (Or.inl ⟨by kernel_rfl, by intro w hS; have hc := (hS.cell 3).trans (show (mc (p, (sN : Int), i, (aN : Int), q))[3]? = some (.int .i64 (aN : Int)) from rfl); go_simp⟩) R8 ?_
        simp only [Act.put, List.getElem_toArray, List.getElem_cons_succ, List.getElem_cons_zero, List.setIfInBounds_toArray, List.set_cons_zero, List.set_cons_succ]
        refine wpAnyH_take (i := 3) (v := .int .i64 (kN : Int)) rfl (by kernel_rfl) (by kernel_rfl) (by kernel_rfl) (fun _ _ _ h => h) (Or.inl ⟨by kernel_rfl, by intro w hS; go_simp⟩) R8 ?_
        simp only [Act.put, List.getElem_toArray, List.getElem_cons_succ, List.getElem_cons_zero, List.setIfInBounds_toArray, List.set_cons_zero, List.set_cons_succ]
        refine wpAnyH_take (i := 4) (v := .agg #[.int .i64 (aN : Int), .int .i64 (kN : Int)]) rfl (by kernel_rfl) (by kernel_rfl) (by kernel_rfl) (fun _ _ _ h => h) (yields_btw (.tmp 132) (.tmp 133) rfl (by kernel_rfl) _ _ (by kernel_rfl) (by kernel_rfl)) R8 ?_
        simp only [Act.put, List.getElem_toArray, List.getElem_cons_succ, List.getElem_cons_zero, List.setIfInBounds_toArray, List.set_cons_zero, List.set_cons_succ]
        refine wpAnyH_ready (rs := [5, 7]) (by kernel_rfl) (by simp) ?_
        refine AllReadyH.cons rfl (fun K hK => ?_) ?_
        · rw [if_pos (by kernel_rfl)]
          (first | refine wp_lk 72 (.tmp 130) (.tmp 134) rfl _ _ _ (by kernel_rfl) (by kernel_rfl) (MeI.look (G.ent 1 rfl) kyTwo Try.underlying72 ((aN : Int), (kN : Int)) HTW.out).1 ?_ | refine wp_lk 72 (.tmp 130) (.tmp 134) rfl _ _ _ (by kernel_rfl) (by kernel_rfl) (MeI.look (G.drew.ent 1 rfl) kyTwo Try.underlying72 ((aN : Int), (kN : Int)) HTW.out).1 ?_)
          refine hK.out _ _ R8 (fun _ => ?_)
          clear hK K
          try simp only [Act.put, List.getElem_toArray, List.getElem_cons_succ, List.getElem_cons_zero, List.setIfInBounds_toArray, List.set_cons_zero, List.set_cons_succ]
          refine wpAnyH_take (i := 6) (v := .int .i64 (nPl (ms.take j) ((aN : Int), (kN : Int)) + 1)) rfl (by kernel_rfl) (by kernel_rfl) (by kernel_rfl) (fun _ _ _ h => h) (yields_incG (.tmp 135) rfl (by kernel_rfl) _ _ (by kernel_rfl) HW5.out) R8 ?_
          simp only [Act.put, List.getElem_toArray, List.getElem_cons_succ, List.getElem_cons_zero, List.setIfInBounds_toArray, List.set_cons_zero, List.set_cons_succ]
          refine wpAnyH_ready (rs := [7]) (by kernel_rfl) (by simp) ?_
          refine AllReadyH.cons rfl (fun K hK => ?_) ?_
          · rw [if_pos (by kernel_rfl)]
            (first | (obtain ⟨v0, st, w9, hr9, G9, hst⟩ := G.entry 1 rfl kyTwo lawTwo Try.underlying72 HB5.out ((aN : Int), (kN : Int)) HTW.out; refine wp_me 72 (.tmp 130) (.tmp 134) rfl _ _ _ (by kernel_rfl) (by kernel_rfl) hr9 ?_) | (obtain ⟨v0, st, w9, hr9, G9, hst⟩ := G.drew.entry 1 rfl kyTwo lawTwo Try.underlying72 HB5.out ((aN : Int), (kN : Int)) HTW.out; refine wp_me 72 (.tmp 130) (.tmp 134) rfl _ _ _ (by kernel_rfl) (by kernel_rfl) hr9 ?_)); clear G hr9; have G := G9; clear G9; replace R8 : Row 32 _ b8 (mc (p, (sN : Int), i, (aN : Int), q)) := G.bd.row 2 rfl
            refine hK.out _ _ R8 (fun _ => ?_)
            clear hK K
            try simp only [Act.put, List.getElem_toArray, List.getElem_cons_succ, List.getElem_cons_zero, List.setIfInBounds_toArray, List.set_cons_zero, List.set_cons_succ]
            refine wpAnyH_take (i := 8) (v := goInt st) rfl (by kernel_rfl) (by kernel_rfl) (by kernel_rfl) (fun _ _ _ h => h) (Or.inl ⟨by kernel_rfl, by intro w hS; go_simp⟩) R8 ?_
            simp only [Act.put, List.getElem_toArray, List.getElem_cons_succ, List.getElem_cons_zero, List.setIfInBounds_toArray, List.set_cons_zero, List.set_cons_succ]
            refine wpAnyH_ready (rs := [9]) (by kernel_rfl) (by simp) ?_
            refine AllReadyH.cons rfl (fun K hK => ?_) ?_
            · rw [if_pos (by kernel_rfl)]
              (obtain ⟨w10, hr10, G10⟩ := hst _ (nPl (ms.take j) ((aN : Int), (kN : Int)) + 1) HY5.out rfl G; refine wp_es 72 (.tmp 130) (.tmp 138) (.tmp 136) rfl _ _ _ (by kernel_rfl) (by kernel_rfl) (by kernel_rfl) hr10 ?_); clear G hr10 hst; have G := G10; clear G10; replace R8 : Row 32 _ b8 (mc (p, (sN : Int), i, (aN : Int), q)) := G.bd.row 2 rfl
              refine hK.out _ _ R8 (fun _ => ?_)
              clear hK K
              try simp only [Act.put, List.getElem_toArray, List.getElem_cons_succ, List.getElem_cons_zero, List.setIfInBounds_toArray, List.set_cons_zero, List.set_cons_succ]
              refine wpAnyH_done (by kernel_rfl) ?_ _
              refine NoPanic.normal ?_
              clear R8
              have hw6 : wrap64 (nOf (ms.take j) (sN : Int) + 1) = nOf (ms.take j) (sN : Int) + 1 := by have := nOf_le (ms.take j) (sN : Int); have := HLT.out; unfold wrap64; omega
              have HY6 : Hid ((Lit.int .i64 (nOf (ms.take j) (sN : Int) + 1)).wf = true) := hidB (wf6_of (by have := nOf_le (ms.take j) (sN : Int); have := HLT.out; omega))
              go_wp2_with (first | ((with_reducible refine at_opB (.load 3 (.tmp 140)) rfl ?_); refine wpList_loadF (G.bd.row 2 rfl) _ rfl (by kernel_rfl) 1 rfl ((sN : Int)) rfl ?_) | ((with_reducible refine at_opB (.lookup 73 (.tmp 139) (.tmp 141) false) rfl ?_); refine wpList_lk rfl 73 (.tmp 139) (.tmp 141) rfl (.map (some b6)) (k1v (sN : Int)) (.int .i64 (nOf (ms.take j) (sN : Int))) rfl rfl (MeI.look (G.ent 0 rfl) kyInt Try.underlying73 (sN : Int) HSW.out).1 ?_) | ((with_reducible refine at_opB (.mapUpdate 73 (.tmp 139) (.tmp 141) (.tmp 143)) rfl ?_); obtain ⟨w9, hr9, G9⟩ := G.putI 0 rfl kyInt Try.underlying73 HB6.out (sN : Int) HSW.out (nOf (ms.take j) (sN : Int) + 1) HY6.out; refine wpList_mu rfl 73 (.tmp 139) (.tmp 141) (.tmp 143) rfl (.map (some b6)) (k1v (sN : Int)) (.int .i64 (nOf (ms.take j) (sN : Int) + 1)) rfl rfl (by first | rfl | exact congrArg (Value.int .i64) hw6) hr9 ?_; clear G hr9; have G := G9; clear G9))
              (refine ⟨?_, ?measure⟩; unfold WG; (repeat apply Exists.intro); refine ⟨?rel, rfl⟩)
              case rel =>
                have G' := gt_next HTK.out HKN.out G
                first | exact ⟨j + 1, HJ1.out, castB j, HST, _, _, _, _, HN2, G'⟩ | exact ⟨j + 1, HJ1.out, castBW hjw, HST, _, _, _, _, HN2, G'⟩
              case measure => unfold WGmu; (first | rw [hjw] | skip); exact HME.out
            exact AllReadyH.nil
          exact AllReadyH.nil
        refine AllReadyH.cons rfl (fun K hK => ?_) ?_
        · rw [if_pos (by kernel_rfl)]
          (first | (obtain ⟨v0, st, w9, hr9, G9, hst⟩ := G.entry 1 rfl kyTwo lawTwo Try.underlying72 HB5.out ((aN : Int), (kN : Int)) HTW.out; refine wp_me 72 (.tmp 130) (.tmp 134) rfl _ _ _ (by kernel_rfl) (by kernel_rfl) hr9 ?_) | (obtain ⟨v0, st, w9, hr9, G9, hst⟩ := G.drew.entry 1 rfl kyTwo lawTwo Try.underlying72 HB5.out ((aN : Int), (kN : Int)) HTW.out; refine wp_me 72 (.tmp 130) (.tmp 134) rfl _ _ _ (by kernel_rfl) (by kernel_rfl) hr9 ?_)); clear G hr9; have G := G9; clear G9; replace R8 : Row 32 _ b8 (mc (p, (sN : Int), i, (aN : Int), q)) := G.bd.row 2 rfl
          refine hK.out _ _ R8 (fun _ => ?_)
          clear hK K
          try simp only [Act.put, List.getElem_toArray, List.getElem_cons_succ, List.getElem_cons_zero, List.setIfInBounds_toArray, List.set_cons_zero, List.set_cons_succ]
          refine wpAnyH_take (i := 8) (v := goInt st) rfl (by kernel_rfl) (by kernel_rfl) (by kernel_rfl) (fun _ _ _ h => h) (Or.inl ⟨by kernel_rfl, by intro w hS; go_simp⟩) R8 ?_
          simp only [Act.put, List.getElem_toArray, List.getElem_cons_succ, List.getElem_cons_zero, List.setIfInBounds_toArray, List.set_cons_zero, List.set_cons_succ]
          refine wpAnyH_ready (rs := [5]) (by kernel_rfl) (by simp) ?_
          refine AllReadyH.cons rfl (fun K hK => ?_) ?_
          · rw [if_pos (by kernel_rfl)]
            (first | refine wp_lk 72 (.tmp 130) (.tmp 134) rfl _ _ _ (by kernel_rfl) (by kernel_rfl) (MeI.look (G.ent 1 rfl) kyTwo Try.underlying72 ((aN : Int), (kN : Int)) HTW.out).1 ?_ | refine wp_lk 72 (.tmp 130) (.tmp 134) rfl _ _ _ (by kernel_rfl) (by kernel_rfl) (MeI.look (G.drew.ent 1 rfl) kyTwo Try.underlying72 ((aN : Int), (kN : Int)) HTW.out).1 ?_)
            refine hK.out _ _ R8 (fun _ => ?_)
            clear hK K
            try simp only [Act.put, List.getElem_toArray, List.getElem_cons_succ, List.getElem_cons_zero, List.setIfInBounds_toArray, List.set_cons_zero, List.set_cons_succ]
            refine wpAnyH_take (i := 6) (v := .int .i64 (nPl (ms.take j) ((aN : Int), (kN : Int)) + 1)) rfl (by kernel_rfl) (by kernel_rfl) (by kernel_rfl) (fun _ _ _ h => h) (yields_incG (.tmp 135) rfl (by kernel_rfl) _ _ (by kernel_rfl) HW5.out) R8 ?_
            simp only [Act.put, List.getElem_toArray, List.getElem_cons_succ, List.getElem_cons_zero, List.setIfInBounds_toArray, List.set_cons_zero, List.set_cons_succ]
            refine wpAnyH_ready (rs := [9]) (by kernel_rfl) (by simp) ?_
            refine AllReadyH.cons rfl (fun K hK => ?_) ?_
            · rw [if_pos (by kernel_rfl)]
              (obtain ⟨w10, hr10, G10⟩ := hst _ (nPl (ms.take j) ((aN : Int), (kN : Int)) + 1) HY5.out rfl G; refine wp_es 72 (.tmp 130) (.tmp 138) (.tmp 136) rfl _ _ _ (by kernel_rfl) (by kernel_rfl) (by kernel_rfl) hr10 ?_); clear G hr10 hst; have G := G10; clear G10; replace R8 : Row 32 _ b8 (mc (p, (sN : Int), i, (aN : Int), q)) := G.bd.row 2 rfl
              refine hK.out _ _ R8 (fun _ => ?_)
              clear hK K
              try simp only [Act.put, List.getElem_toArray, List.getElem_cons_succ, List.getElem_cons_zero, List.setIfInBounds_toArray, List.set_cons_zero, List.set_cons_succ]
              refine wpAnyH_done (by kernel_rfl) ?_ _
              refine NoPanic.normal ?_
              clear R8
              have hw6 : wrap64 (nOf (ms.take j) (sN : Int) + 1) = nOf (ms.take j) (sN : Int) + 1 := by have := nOf_le (ms.take j) (sN : Int); have := HLT.out; unfold wrap64; omega
              have HY6 : Hid ((Lit.int .i64 (nOf (ms.take j) (sN : Int) + 1)).wf = true) := hidB (wf6_of (by have := nOf_le (ms.take j) (sN : Int); have := HLT.out; omega))
              go_wp2_with (first | ((with_reducible refine at_opB (.load 3 (.tmp 140)) rfl ?_); refine wpList_loadF (G.bd.row 2 rfl) _ rfl (by kernel_rfl) 1 rfl ((sN : Int)) rfl ?_) | ((with_reducible refine at_opB (.lookup 73 (.tmp 139) (.tmp 141) false) rfl ?_); refine wpList_lk rfl 73 (.tmp 139) (.tmp 141) rfl (.map (some b6)) (k1v (sN : Int)) (.int .i64 (nOf (ms.take j) (sN : Int))) rfl rfl (MeI.look (G.ent 0 rfl) kyInt Try.underlying73 (sN : Int) HSW.out).1 ?_) | ((with_reducible refine at_opB (.mapUpdate 73 (.tmp 139) (.tmp 141) (.tmp 143)) rfl ?_); obtain ⟨w9, hr9, G9⟩ := G.putI 0 rfl kyInt Try.underlying73 HB6.out (sN : Int) HSW.out (nOf (ms.take j) (sN : Int) + 1) HY6.out; refine wpList_mu rfl 73 (.tmp 139) (.tmp 141) (.tmp 143) rfl (.map (some b6)) (k1v (sN : Int)) (.int .i64 (nOf (ms.take j) (sN : Int) + 1)) rfl rfl (by first | rfl | exact congrArg (Value.int .i64) hw6) hr9 ?_; clear G hr9; have G := G9; clear G9))
              (refine ⟨?_, ?measure⟩; unfold WG; (repeat apply Exists.intro); refine ⟨?rel, rfl⟩)
              case rel =>
                have G' := gt_next HTK.out HKN.out G
                first | exact ⟨j + 1, HJ1.out, castB j, HST, _, _, _, _, HN2, G'⟩ | exact ⟨j + 1, HJ1.out, castBW hjw, HST, _, _, _, _, HN2, G'⟩
              case measure => unfold WGmu; (first | rw [hjw] | skip); exact HME.out
            exact AllReadyH.nil
          exact AllReadyH.nil
        exact AllReadyH.nil
      exact AllReadyH.nil
    exact AllReadyH.nil
end Go.Proofs.Ytmdijjbkjcnbpaa
