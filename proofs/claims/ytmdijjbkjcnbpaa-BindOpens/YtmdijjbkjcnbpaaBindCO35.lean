/-
  Of what BindCloses, BindOpens stands on: part 35.
-/
import Derived.Test.YtmdijjbkjcnbpaaBindCO10
import Derived.Test.YtmdijjbkjcnbpaaBindCO33
namespace Go.Proofs.Ytmdijjbkjcnbpaa
open Go.ChangeShapes Go.WideShapes Go.ChangeAt Go.RowKit
set_option linter.unusedSimpArgs false
set_option linter.unusedVariables false

attribute [local irreducible] tc pc
set_option maxRecDepth 100000 in
set_option maxHeartbeats 8000000 in
theorem openr_found (f : Nat → Int) (g : Nat → Bool) (h : Nat → Int) (sl : Value) (ms : List Mp) (p s i d : Int) (hwH : wfH h) (hP : openP f h ms p s i) (m : Mp) (hf : ms.find? (inS p s i) = some m) (w : World) (hM : MapsAt w sl ms) :
    Calls Try.prog 18 #[.agg (tc f g h sl), .int .i64 p, .int .i64 s, .int .i64 i, .int .i64 d] w fun e w' => e = .returned (openS f g h sl m false 0) ∧ Below w.heap.size w w' := by
  unfold openS
  have B := Bd.start w
  have hM0 := hM
  obtain ⟨a0, cap, hsl, -⟩ := hM0
  obtain ⟨n, hn⟩ : ∃ n, n = ms.length := ⟨_, rfl⟩
  have HN : Hid (n = ms.length) := hn
  rw [← hn] at hsl
  subst hsl
  clear hn
  have hlt := hM.lt
  have CG := fun w hM => goodTable_ref f g h (.slice a0 n cap) ms hwH w hM
  have CI := fun w => isProto_ref p w
  obtain ⟨G, hp, hs, hi⟩ := hP
  have HG : Hid (GoodT f h ms) := G
  rw [hp] at CI
  have d1 : decide (s < 0) = false := decide_eq_false (by omega)
  have d2 : decide (7 < s) = false := decide_eq_false (by omega)
  have d3 : decide (i < 0) = false := decide_eq_false (by omega)
  have d4 : decide (65535 < i) = false := decide_eq_false (by omega)
  have CF := fun w hM => findMap_ref f g h (.slice a0 n cap) ms p s i w hM
  rw [hf] at CF
  unfold foundS at CF
  clear G hp hs hi hf
  go_enter Try.func18, Try.ntmps18
  go_upto_region 6 with (first | ((with_reducible refine at_opB (.box 30 (.tmp 0)) rfl ?_); refine wpList_boxR 30 rfl (.tmp 0) rfl _ rfl ?_; intro b5 w9 l9 R9 h9; replace B := B.alloc l9 R9 h9; clear R9 h9 l9) | ((with_reducible refine at_opB (.alloc 30) rfl ?_); refine wpList_allocX 10 30 rfl rfl rfl _ table_zero ?_; intro b10 w9 l9 R9 h9; replace B := B.alloc l9 R9 h9; clear R9 h9 l9) | ((with_reducible refine at_opB (.alloc 32) rfl ?_); refine wpList_allocX 11 32 rfl rfl rfl _ map_zero ?_; intro b11 w9 l9 R9 h9; replace B := B.alloc l9 R9 h9; clear R9 h9 l9) | ((with_reducible refine at_opB (.build 32 #[]) rfl ?_); refine wpList_buildM0 rfl rfl ?_) | ((with_reducible refine at_opB (.alloc 32) rfl ?_); refine wpList_allocX 14 32 rfl rfl rfl _ map_zero ?_; intro b14 w9 l9 R9 h9; replace B := B.alloc l9 R9 h9; clear R9 h9 l9) | ((with_reducible refine at_opB (.store 32 (.tmp 14) (.tmp 35)) rfl ?_); refine wpList_storeR 32 rfl (.tmp 14) _ rfl b14 rfl (mc noM) rfl _ (B.row 0 rfl) rfl (mc_info _) (mc_one _) ?_; intro w9 R9 t9; replace B := B.turn 0 rfl R9 t9; clear R9 t9) | ((with_reducible refine at_opB (.load 30 (.tmp 5)) rfl ?_); refine wpList_loadR 30 (.tmp 5) rfl (by kernel_rfl) b5 rfl (tc f g h (.slice a0 n cap)) (B.row 3 rfl) _ Try.underlying30 rfl (tc_info _ _ _ _) ?_) | (go_at_call 15; go_fit (CG _ (hM.keep B.base hlt)); rintro e w5 ⟨r, hr, rfl, hb5⟩; obtain rfl : r = true := (hr.2 HG.out); clear hr; replace B := B.below hb5; clear hb5) | (go_at_call 36; go_fit (CI _); rintro e w' ⟨rfl, hw⟩; rw [hw]; clear hw w') | (go_at_call 9; go_fit (CF _ (hM.keep B.base hlt)); rintro e w5 ⟨rfl, hb5⟩; replace B := B.below hb5; clear hb5) | ((with_reducible refine at_opB (.alloc 32) rfl ?_); refine wpList_allocX 15 32 rfl rfl rfl _ map_zero ?_; intro b15 w9 l9 R9 h9; replace B := B.alloc l9 R9 h9; clear R9 h9 l9) | ((with_reducible refine at_opB (.store 32 (.tmp 15) (.tmp 68)) rfl ?_); refine wpList_storeR 32 rfl (.tmp 15) _ rfl b15 rfl (mc m) rfl _ (B.row 0 rfl) rfl (mc_info _) (mc_one _) ?_; intro w9 R9 t9; replace B := B.turn 0 rfl R9 t9; clear R9 t9))
  have RT : Row 30 _ b5 (tc f g h (.slice a0 n cap)) := B.row 4 rfl
  have RM : Row 32 _ b15 (mc m) := B.row 0 rfl
  refine wp_region_noPanic ?_
  refine wp_region_held_drew (S := fun W => Row 30 W b5 (tc f g h (.slice a0 n cap)) ∧ Row 32 W b15 (mc m)) (by kernel_rfl) ⟨RT, RM⟩ (fun _ => ?_)
  refine wpAnyH_take (i := 0) (v := .agg (tc f g h (.slice a0 n cap))) rfl (by kernel_rfl) (by kernel_rfl) (by kernel_rfl) (fun _ _ _ h => h) (yields_loadR 30 (.tmp 5) rfl (by kernel_rfl) b5 (by kernel_rfl) (tc f g h (.slice a0 n cap)) (fun _ h => h.1) _ Try.underlying30 rfl (tc_info _ _ _ _)) ⟨RT, RM⟩ ?_
  simp only [Act.put, List.getElem_toArray, List.getElem_cons_succ, List.getElem_cons_zero, List.setIfInBounds_toArray, List.set_cons_zero, List.set_cons_succ]
  refine wpAnyH_take (i := 1) (v := .agg (mc m)) rfl (by kernel_rfl) (by kernel_rfl) (by kernel_rfl) (fun _ _ _ h => h) (yields_loadR 32 (.tmp 15) rfl (by kernel_rfl) b15 (by kernel_rfl) (mc m) (fun _ h => h.2) _ Try.underlying32 rfl (mc_info _)) ⟨RT, RM⟩ ?_
  simp only [Act.put, List.getElem_toArray, List.getElem_cons_succ, List.getElem_cons_zero, List.setIfInBounds_toArray, List.set_cons_zero, List.set_cons_succ]
  refine wpAnyH_ready (rs := [2]) (by kernel_rfl) (by simp) ?_
  refine AllReadyH.cons rfl (fun K hK => ?_) ?_
  · rw [if_pos (by kernel_rfl)]
    refine wp_storeR 30 (.tmp 10) (.tmp 71) rfl b10 (by kernel_rfl) (tc f g h (.slice a0 n cap)) (by kernel_rfl) _ (B.row 3 rfl) (tc_sz _ _ _ _ _ _ _ _) (tc_info _ _ _ _) (tc_one _ _ _ _ _ _) ?_; intro w9 R9 t9; (first | replace t9 := turned_undrG t9 | skip); replace B := B.turn 3 rfl R9 t9; clear R9 t9; replace RT := B.row 4 rfl; replace RM := B.row 0 rfl
    refine hK.out _ _ ⟨RT, RM⟩ (fun _ => ?_)
    clear hK K
    try simp only [Act.put, List.getElem_toArray, List.getElem_cons_succ, List.getElem_cons_zero, List.setIfInBounds_toArray, List.set_cons_zero, List.set_cons_succ]
    refine wpAnyH_ready (rs := [3]) (by kernel_rfl) (by simp) ?_
    refine AllReadyH.cons rfl (fun K hK => ?_) ?_
    · rw [if_pos (by kernel_rfl)]
      refine wp_storeR 32 (.tmp 11) (.tmp 72) rfl b11 (by kernel_rfl) (mc m) (by kernel_rfl) _ (B.row 2 rfl) rfl (mc_info _) (mc_one _) ?_; intro w9 R9 t9; (first | replace t9 := turned_undrG t9 | skip); replace B := B.turn 2 rfl R9 t9; clear R9 t9; replace RT := B.row 4 rfl; replace RM := B.row 0 rfl
      refine hK.out _ _ ⟨RT, RM⟩ (fun _ => ?_)
      clear hK K
      try simp only [Act.put, List.getElem_toArray, List.getElem_cons_succ, List.getElem_cons_zero, List.setIfInBounds_toArray, List.set_cons_zero, List.set_cons_succ]
      refine wpAnyH_take (i := 4) (v := .bool false) rfl (by kernel_rfl) (by kernel_rfl) (by kernel_rfl) (fun _ _ _ h => h) (Or.inl ⟨by kernel_rfl, by intro w hS; go_simp⟩) ⟨RT, RM⟩ ?_
      simp only [Act.put, List.getElem_toArray, List.getElem_cons_succ, List.getElem_cons_zero, List.setIfInBounds_toArray, List.set_cons_zero, List.set_cons_succ]
      refine wpAnyH_take (i := 5) (v := .int .i64 0) rfl (by kernel_rfl) (by kernel_rfl) (by kernel_rfl) (fun _ _ _ h => h) (Or.inl ⟨by kernel_rfl, by intro w hS; go_simp⟩) ⟨RT, RM⟩ ?_
      simp only [Act.put, List.getElem_toArray, List.getElem_cons_succ, List.getElem_cons_zero, List.setIfInBounds_toArray, List.set_cons_zero, List.set_cons_succ]
      refine wpAnyH_done (by kernel_rfl) ?_ _
      refine NoPanic.normal ?_
      clear RT RM
      go_wp2_with fail
      ((try simp only [Exit.inBlock, Exit.then]); first | (refine bodyPost_ret (results_row22 rfl _ _ _ _ _ _ rfl rfl (B.row 3 rfl) (B.row 2 rfl) _ _ Try.underlying30 Try.underlying32 rfl rfl (tc_info _ _ _ _) (mc_info _)) rfl ⟨rfl, B.base⟩) | (replace B := B.drew; refine bodyPost_ret (results_row22 rfl _ _ _ _ _ _ rfl rfl (B.row 3 rfl) (B.row 2 rfl) _ _ Try.underlying30 Try.underlying32 rfl rfl (tc_info _ _ _ _) (mc_info _)) rfl ⟨rfl, B.base⟩))
    exact AllReadyH.nil
  exact AllReadyH.nil
end Go.Proofs.Ytmdijjbkjcnbpaa

namespace Go.Proofs.Ytmdijjbkjcnbpaa
open Go.ChangeShapes Go.WideShapes Go.ChangeAt Go.RowKit
set_option linter.unusedSimpArgs false
set_option linter.unusedVariables false

/-- a port of an address is one of the subscriber's, and free. -/
def okQ (f : Nat → Int) (ms : List Mp) (p s : Int) (a j : Nat) : Bool := f (6 * a + j / 8) == s + 1 && !usedB ms p (a : Int) (1024 + (j : Int))
/-- how many blocks were met among the first ports. -/
def hadN (f : Nat → Int) (s : Int) (a j : Nat) : Nat := ((List.range j).filter fun x => x % 8 == 0 && f (6 * a + x / 8) == s + 1).length
theorem hadN_step (f : Nat → Int) (s : Int) (a j : Nat) : hadN f s a (j + 1) = hadN f s a j + if (j % 8 == 0 && f (6 * a + j / 8) == s + 1) = true then 1 else 0 := by
  unfold hadN; rw [List.range_succ, List.filter_append, List.length_append]
  cases hq : (j % 8 == 0 && f (6 * a + j / 8) == s + 1) <;> simp [hq]
theorem hadN_le (f : Nat → Int) (s : Int) (a j : Nat) : hadN f s a j ≤ j := by
  have := List.length_filter_le (fun x => x % 8 == 0 && f (6 * a + x / 8) == s + 1) (List.range j); simpa [hadN] using this
theorem hadN_eight (f : Nat → Int) (s : Int) (a k : Nat) : hadN f s a (8 * k) = ((List.range k).filter fun i => f (6 * a + i) == s + 1).length := by
  induction k with
  | zero => rfl
  | succ k ih =>
    have h0 : ∀ r, 0 < r → r < 8 → hadN f s a (8 * k + r + 1) = hadN f s a (8 * k + r) := by
      intro r hr h8
      rw [hadN_step, if_neg (by simp; omega)]; rfl
    have e : 8 * (k + 1) = 8 * k + 7 + 1 := by omega
    rw [e, h0 7 (by omega) (by omega), h0 6 (by omega) (by omega), h0 5 (by omega) (by omega), h0 4 (by omega) (by omega), h0 3 (by omega) (by omega), h0 2 (by omega) (by omega), h0 1 (by omega) (by omega), hadN_step, ih, List.range_succ, List.filter_append, List.length_append]
    rw [show 8 * k % 8 = 0 by omega, show 8 * k / 8 = k by omega]
    cases hq : (f (6 * a + k) == s + 1) <;> simp [hq]
theorem blocksL_row {f : Nat → Int} {s : Int} {a : Nat} (ha : a < 3) (hall : ∀ n ∈ blocksL f s, n / 6 = a) : blocksL f s = ((List.range 6).filter fun i => f (6 * a + i) == s + 1).map (6 * a + ·) := by
  have e18 : List.range 18 = (List.range 6).map (6 * 0 + ·) ++ ((List.range 6).map (6 * 1 + ·) ++ (List.range 6).map (6 * 2 + ·)) := by decide
  have key : ∀ b, b < 3 → ((List.range 6).map (6 * b + ·)).filter (fun n => f n == s + 1) = if b = a then ((List.range 6).filter fun i => f (6 * a + i) == s + 1).map (6 * a + ·) else [] := by
    intro b hb
    split
    · rename_i e; subst e; rw [List.filter_map]; rfl
    · rename_i hne
      rw [List.filter_eq_nil_iff]
      intro n hn hq
      obtain ⟨i, hi, rfl⟩ := List.mem_map.1 hn
      have hi6 : i < 6 := by simpa using hi
      have := hall (6 * b + i) ((blocksL_mem _ _ _).2 ⟨by omega, by simpa using hq⟩)
      omega
  unfold blocksL
  rw [e18, List.filter_append, List.filter_append, key 0 (by omega), key 1 (by omega), key 2 (by omega)]
  rcases (show a = 0 ∨ a = 1 ∨ a = 2 by omega) with rfl | rfl | rfl <;> simp
theorem had_all {f : Nat → Int} {s : Int} {a : Nat} (ha : a < 3) (hall : ∀ n ∈ blocksL f s, n / 6 = a) : hadN f s a 48 = (blocksL f s).length := by
  rw [blocksL_row ha hall, List.length_map]; exact hadN_eight f s a 6
theorem find_congr {α : Type} {p q : α → Bool} {l : List α} (h : ∀ x ∈ l, p x = q x) : l.find? p = l.find? q := by
  induction l with
  | nil => rfl
  | cons a r ih =>
    rw [List.find?_cons, List.find?_cons, h a (by simp), ih (fun x hx => h x (by simp [hx]))]
theorem find_chunk (f : Nat → Int) (ms : List Mp) (p s : Int) (a : Nat) (l : List Nat) (hl : ∀ k ∈ l, k < 6) :
    unusedO ms p ((l.filter fun i => f (6 * a + i) == s + 1).map (6 * a + ·)) = ((l.flatMap fun k => (List.range 8).map (8 * k + ·)).find? (okQ f ms p s a)).map fun j => (6 * a + j / 8, j % 8) := by
  induction l with
  | nil => rfl
  | cons k r ih =>
    have hk := hl k (by simp)
    have ih' := ih (fun x hx => hl x (by simp [hx]))
    rw [List.flatMap_cons, List.find?_append, List.filter_cons]
    have hok : ∀ i, i < 8 → okQ f ms p s a (8 * k + i) = (f (6 * a + k) == s + 1 && !usedB ms p (a : Int) (portQ (6 * a + k) i)) := by
      intro i hi
      unfold okQ portQ
      rw [show (8 * k + i) / 8 = k by omega, show (6 * a + k) % 6 = k by omega]
      have : (1024 : Int) + ((8 * k + i : Nat) : Int) = ((1024 + 8 * k + i : Nat) : Int) := by omega
      rw [this]
    have hfm : ((List.range 8).map (8 * k + ·)).find? (okQ f ms p s a) = ((List.range 8).find? fun i => f (6 * a + k) == s + 1 && !usedB ms p (a : Int) (portQ (6 * a + k) i)).map (8 * k + ·) := by
      rw [List.find?_map]
      congr 1
      exact find_congr (fun i hi => hok i (List.mem_range.1 hi))
    rw [hfm]
    cases hb : (f (6 * a + k) == s + 1) with
    | false =>
      simp only [Bool.false_and]
      rw [if_neg (by simp), ih']
      have : (List.range 8).find? (fun _ => false) = none := by decide
      rw [this]
      rfl
    | true =>
      simp only [Bool.true_and, if_true]
      rw [List.map_cons]
      unfold unusedO
      have hu : unused1 ms p (6 * a + k) = (List.range 8).find? fun i => !usedB ms p (a : Int) (portQ (6 * a + k) i) := by
        unfold unused1
        rw [show (6 * a + k) / 6 = a by omega]
      rw [hu]
      cases hf : (List.range 8).find? (fun i => !usedB ms p (a : Int) (portQ (6 * a + k) i)) with
      | none => rw [ih']; rfl
      | some i =>
        have hi : i < 8 := List.mem_range.1 (List.mem_of_find?_eq_some hf)
        simp only [Option.map_some, Option.some_or]
        rw [show (8 * k + i) / 8 = k by omega, show (8 * k + i) % 8 = i by omega]
/-- the program's way to a port and the document's are one. -/
theorem unused_doc {f : Nat → Int} {s : Int} {a : Nat} (ms : List Mp) (p : Int) (ha : a < 3) (hall : ∀ n ∈ blocksL f s, n / 6 = a) : unusedO ms p (blocksL f s) = ((List.range 48).find? (okQ f ms p s a)).map fun j => (6 * a + j / 8, j % 8) := by
  rw [blocksL_row ha hall, find_chunk f ms p s a (List.range 6) (fun k hk => by simpa using hk)]
  rfl
theorem find_next {q : Nat → Bool} {j : Nat} (h : (List.range j).find? q = none) (hq : q j = false) : (List.range (j + 1)).find? q = none := by
  rw [List.range_succ, List.find?_append, h]; simp [hq]
theorem find_here {q : Nat → Bool} {j n : Nat} (h : (List.range j).find? q = none) (hq : q j = true) (hn : j < n) : (List.range n).find? q = some j := by
  have : List.range n = List.range j ++ j :: (List.range (n - j - 1)).map (j + 1 + ·) := by
    apply List.ext_getElem?
    intro i
    by_cases h1 : i < j
    · rw [List.getElem?_append_left (by simpa using h1)]; rw [List.getElem?_range (by omega), List.getElem?_range h1]
    · rw [List.getElem?_append_right (by simpa using h1)]
      simp only [List.length_range]
      by_cases h2 : i = j
      · subst h2; simp [hn]
      · obtain ⟨k, rfl⟩ : ∃ k, i = j + 1 + k := ⟨i - j - 1, by omega⟩
        rw [show j + 1 + k - j = k + 1 by omega, List.getElem?_cons_succ, List.getElem?_map]
        by_cases h3 : j + 1 + k < n
        · rw [List.getElem?_range (by omega), List.getElem?_range (by omega)]; rfl
        · rw [List.getElem?_eq_none (by simp; omega), List.getElem?_eq_none (by simp; omega)]; rfl
  rw [this, List.find?_append, h]
  simp [hq]
end Go.Proofs.Ytmdijjbkjcnbpaa

namespace Go.Proofs.Ytmdijjbkjcnbpaa
open Go.ChangeShapes Go.WideShapes Go.ChangeAt Go.RowKit
set_option linter.unusedSimpArgs false
set_option linter.unusedVariables false

/-- the bodies of a function's loops. -/
def loopsOf : Code → List Code
  | .loop c => c :: loopsOf c
  | .seq a b => loopsOf a ++ loopsOf b
  | .block _ c => loopsOf c
  | .scope c => loopsOf c
  | .cond _ a b => loopsOf a ++ loopsOf b
  | _ => []
noncomputable def bodyO1 : Code := ((Try.f18.body.map loopsOf).getD []).headD .skip
noncomputable def bodyO2 : Code := ((Try.f18.body.map loopsOf).getD []).tail.headD .skip
set_option maxRecDepth 1000000 in
/-- between two maps. -/
def WO1 (w : World) (f : Nat → Int) (g : Nat → Bool) (h : Nat → Int) (ms : List Mp) (p s i d : Int) (b5 b10 b11 b14 b15 : Nat) (a0 : Option Addr) (n cap : Nat) (a : Act) (W : World) : Prop :=
  ∃ u6 u7 u8 u9 u12 u13 u15 u16 u17 u19 u20 u21 u22 u23 u24 u25 u26 u27 u28 u29 u30 u31 u32 u33 u34 u35 u36 u37 u38 u39 u40 u41 u42 u43 u44 u45 u46 u47 u48 u49 u50 u51 u52 u53 u54 u55 u56 u57 u58 u59 u60 u61 u62 u63 u64 u65 u66 u67 u68 u69 u70 u71 u72 u73 u76 u77 u78 u79 u80 u81 u82 u83 u84 u85 u86 u87 u88 u89 u90 u91 u92 u93 u94 u95 u96 u97 u98 u99 u100 u101 u102 u103 u104 u105 u106 u107 u108 u109 u110 u111 u112 u113 u114 u115 u116 u117 u118 u119 u120 u121 u122 u123 u124 u125 u126 u127 u128 u129 u130 u131 u132 u133 u134 u135 u136 u137 u138 u139 u140 u141 u142 u143 u144 u145 u146 u147 u148 u149 u150 u151 u152 u153 u154 u155 u156 u157 u158 u159 u160 u161 u162 u163 u164 u165 u166 u167 u168 u169 u170 u171 u172 u173 u174 u175 u176 u177 u178 u179 u180 u181 u182 u183 u184 u185 u186 u187 u188 u189 u190 u191 u192 u193 u194 u195 u196 u197 u198 u199 u200 u201 u202 u203 u204 u205 : Value, (∃ j : Nat, j ≤ ms.length ∧ u76 = .int .i64 (j : Int) ∧ u17 = .int .i64 (cntM (ms.take j) s : Int) ∧ Bd w W [(b15, 32, mc noM), (b14, 32, mc noM), (b11, 32, mc noM), (b10, 30, tc (fun _ => 0) (fun _ => false) (fun _ => 0) (.slice none 0 0)), (b5, 30, tc f g h (.slice a0 n cap))] []) ∧ a = ⟨#[(.agg (tc f g h (.slice a0 n cap))), .int .i64 p, .int .i64 s, .int .i64 i, .int .i64 d, .pointer (some ⟨b5, 0, none⟩), u6, u7, u8, u9, .pointer (some ⟨b10, 0, none⟩), .pointer (some ⟨b11, 0, none⟩), u12, u13, .pointer (some ⟨b14, 0, none⟩), u15, u16, u17, .int .i64 0, u19, u20, u21, u22, u23, u24, u25, u26, u27, u28, u29, u30, u31, u32, u33, u34, u35, u36, u37, u38, u39, u40, u41, u42, u43, u44, u45, u46, u47, u48, u49, u50, u51, u52, u53, u54, u55, u56, u57, u58, u59, u60, u61, u62, u63, u64, u65, u66, u67, u68, u69, u70, u71, u72, u73, (.slice a0 n cap), .int .i64 (n : Int), u76, u77, u78, u79, u80, u81, u82, u83, u84, u85, u86, u87, u88, u89, u90, u91, u92, u93, u94, u95, u96, u97, u98, u99, u100, u101, u102, u103, u104, u105, u106, u107, u108, u109, u110, u111, u112, u113, u114, u115, u116, u117, u118, u119, u120, u121, u122, u123, u124, u125, u126, u127, u128, u129, u130, u131, u132, u133, u134, u135, u136, u137, u138, u139, u140, u141, u142, u143, u144, u145, u146, u147, u148, u149, u150, u151, u152, u153, u154, u155, u156, u157, u158, u159, u160, u161, u162, u163, u164, u165, u166, u167, u168, u169, u170, u171, u172, u173, u174, u175, u176, u177, u178, u179, u180, u181, u182, u183, u184, u185, u186, u187, u188, u189, u190, u191, u192, u193, u194, u195, u196, u197, u198, u199, u200, u201, u202, u203, u204, u205], []⟩
def WO1mu (n : Nat) (a : Act) (_ : World) : Nat := n - (intOf (a.tmps.getD 76 undef)).toNat
set_option maxRecDepth 1000000 in
/-- between two ports. -/
def WO2 (w : World) (f : Nat → Int) (g : Nat → Bool) (h : Nat → Int) (ms : List Mp) (p s i d : Int) (b5 b10 b11 b14 b15 : Nat) (a0 : Option Addr) (n cap : Nat) (b21 aN : Nat) (av : Option Addr) (cv : Nat) (a : Act) (W : World) : Prop :=
  ∃ u6 u7 u8 u9 u12 u13 u15 u16 u17 u18 u19 u20 u23 u24 u25 u26 u27 u28 u29 u30 u31 u32 u33 u34 u35 u36 u37 u38 u39 u40 u41 u42 u43 u44 u45 u46 u47 u48 u49 u50 u51 u52 u53 u54 u55 u56 u57 u58 u59 u60 u61 u62 u63 u64 u65 u66 u67 u68 u69 u70 u71 u72 u73 u74 u75 u76 u77 u78 u79 u80 u81 u82 u83 u84 u85 u86 u87 u88 u89 u90 u91 u92 u93 u94 u95 u96 u97 u98 u99 u100 u101 u102 u103 u104 u105 u106 u107 u108 u109 u110 u111 u112 u113 u114 u115 u116 u117 u118 u119 u120 u121 u122 u123 u124 u125 u126 u127 u128 u129 u130 u131 u132 u133 u134 u135 u136 u137 u138 u139 u140 u141 u142 u143 u144 u145 u146 u147 u148 u149 u150 u151 u152 u153 u154 u155 u156 u157 u158 u159 u160 u161 u162 u163 u164 u165 u166 u167 u168 u169 u170 u171 u172 u173 u174 u175 u176 u177 u178 u179 u180 u181 u182 u183 u184 u185 u186 u187 u188 u189 u190 u191 u192 u193 u194 u195 u196 u197 u198 u199 u200 u201 u202 u203 u204 u205 : Value, (∃ j : Nat, j ≤ 48 ∧ u23 = .int .i64 (1024 + (j : Int)) ∧ u18 = .int .i64 (hadN f s aN j : Int) ∧ (List.range j).find? (okQ f ms p s aN) = none ∧ Bo w W [(b21, 30, tc f g h (.slice av n cv)), (b15, 32, mc noM), (b14, 32, mc noM), (b11, 32, mc noM), (b10, 30, tc (fun _ => 0) (fun _ => false) (fun _ => 0) (.slice none 0 0)), (b5, 30, tc f g h (.slice a0 n cap))] (.slice av n cv) ms) ∧ a = ⟨#[(.agg (tc f g h (.slice a0 n cap))), .int .i64 p, .int .i64 s, .int .i64 i, .int .i64 d, .pointer (some ⟨b5, 0, none⟩), u6, u7, u8, u9, .pointer (some ⟨b10, 0, none⟩), .pointer (some ⟨b11, 0, none⟩), u12, u13, .pointer (some ⟨b14, 0, none⟩), u15, u16, u17, u18, u19, u20, .pointer (some ⟨b21, 0, none⟩), .int .i64 (aN : Int), u23, u24, u25, u26, u27, u28, u29, u30, u31, u32, u33, u34, u35, u36, u37, u38, u39, u40, u41, u42, u43, u44, u45, u46, u47, u48, u49, u50, u51, u52, u53, u54, u55, u56, u57, u58, u59, u60, u61, u62, u63, u64, u65, u66, u67, u68, u69, u70, u71, u72, u73, u74, u75, u76, u77, u78, u79, u80, u81, u82, u83, u84, u85, u86, u87, u88, u89, u90, u91, u92, u93, u94, u95, u96, u97, u98, u99, u100, u101, u102, u103, u104, u105, u106, u107, u108, u109, u110, u111, u112, u113, u114, u115, u116, u117, u118, u119, u120, u121, u122, u123, u124, u125, u126, u127, u128, u129, u130, u131, u132, u133, u134, u135, u136, u137, u138, u139, u140, u141, u142, u143, u144, u145, u146, u147, u148, u149, u150, u151, u152, u153, u154, u155, u156, u157, u158, u159, u160, u161, u162, u163, u164, u165, u166, u167, u168, u169, u170, u171, u172, u173, u174, u175, u176, u177, u178, u179, u180, u181, u182, u183, u184, u185, u186, u187, u188, u189, u190, u191, u192, u193, u194, u195, u196, u197, u198, u199, u200, u201, u202, u203, u204, u205], []⟩
def WO2mu (a : Act) (_ : World) : Nat := 2000 - (intOf (a.tmps.getD 23 undef)).toNat
theorem cnt_step {ms : List Mp} {j : Nat} {q : Mp} (s : Int) (hlj : j < ms.length) (hm : ms[j] = q) : cntM (ms.take (j + 1)) s = cntM (ms.take j) s + if (q.2.1 == s) = true then 1 else 0 := by
  unfold cntM
  rw [List.take_succ_eq_append_getElem hlj, hm, List.filter_append, List.length_append]
  cases hq : (q.2.1 == s) <;> simp [hq]
theorem cnt_le (l : List Mp) (s : Int) : cntM l s ≤ l.length := List.length_filter_le _ _
theorem castP (j : Nat) : Value.int .i64 (1024 + (j : Int) + 1) = .int .i64 (1024 + ((j + 1 : Nat) : Int)) := by congr 1
theorem castPW {j : Nat} (h : wrap64 (1024 + (j : Int) + 1) = 1024 + (j : Int) + 1) : Value.int .i64 (wrap64 (1024 + (j : Int) + 1)) = .int .i64 (1024 + ((j + 1 : Nat) : Int)) := by rw [h]; exact castP j
theorem meas_port {j : Nat} (h : j < 48) : 2000 - (1024 + (j : Int) + 1).toNat < 2000 - (1024 + (j : Int)).toNat := by omega
theorem blockOf_at (j : Nat) (h : j < 48) (w : World) : Calls Try.prog 13 #[.int .i64 (1024 + (j : Int))] w fun e w' => e = .returned (.tuple #[.int .i64 ((j / 8 : Nat) : Int), .int .i64 ((j % 8 : Nat) : Int), .bool true]) ∧ w' = w := by
  have := blockOf_in (1024 + (j : Int)) w (by omega)
  unfold blkQ at this
  rw [show (1024 + (j : Int) - 1024) / 8 = ((j / 8 : Nat) : Int) by omega, show (1024 + (j : Int) - 1024) % 8 = ((j % 8 : Nat) : Int) by omega] at this
  exact this
end Go.Proofs.Ytmdijjbkjcnbpaa
