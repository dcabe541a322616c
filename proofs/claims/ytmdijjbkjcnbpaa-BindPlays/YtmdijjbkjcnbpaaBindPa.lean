/-
  The play of BindPlays: its loop, between two wishes.
-/
import Derived.Test.YtmdijjbkjcnbpaaBindBd
import Derived.Test.YtmdijjbkjcnbpaaBindJ
namespace Go.Proofs.Ytmdijjbkjcnbpaa
open Go.ChangeShapes Go.WideShapes Go.ChangeAt Go.RowKit
set_option linter.unusedSimpArgs false
set_option linter.unusedVariables false

def pr3 : Array Value := #[.int .i64 1, .int .i64 6, .int .i64 17]
/-- the protocols, by their place. -/
def prN : Nat → Int | 0 => 1 | 1 => 6 | _ => 17
theorem prN_at (k : Nat) (h : k < 3) : pr3[k]? = some (.int .i64 (prN k)) := by
  match k, h with
  | 0, _ => rfl
  | 1, _ => rfl
  | 2, _ => rfl
theorem a3_info : (Try.prog.info? 50).map (·.size) = some pr3.size := by kernel_rfl
theorem a3_one : pr3.all (·.oneCell') = true := by kernel_rfl
theorem a3_zero (w : World) : (zeroValue 50).run Try.prog w = .ok (.agg #[.int .i64 0, .int .i64 0, .int .i64 0]) w := by kernel_rfl
theorem meas_play {j : Nat} (h : j < 120) : 120 - ((j : Int) + 1).toNat < 120 - ((j : Int)).toNat := by omega
theorem castB (m : Nat) : Value.int .i64 ((m : Int) + 1) = .int .i64 ((m + 1 : Nat) : Int) := by simp
theorem castBW {m : Nat} (h : wrap64 ((m : Int) + 1) = (m : Int) + 1) : Value.int .i64 (wrap64 ((m : Int) + 1)) = .int .i64 ((m + 1 : Nat) : Int) := by rw [h]; simp
theorem hidB {p : Prop} (h : p) : Hid p := h
theorem wp_allocR2 {o : Oper} {a : Act} {w : World} {K : Act → World → Prop} {Q : Exit → Act → World → Prop} (t : TypeId) (ho : o.op = .alloc t) (cs : Array Value) (hz : ∀ w : World, (zeroValue t).run Try.prog w = .ok (.agg cs) w)
    (hr : ∀ b w', w.heap.size ≤ b → Row t w' b cs → Below w.heap.size w w' → K (a.put o.dst (.pointer (some ⟨b, 0, none⟩))) w') : o.wp Try.prog a w K Q := by
  have h' := hr w.heap.size (w.alloc (.cells cs t)) (Nat.le_refl _) (Row.new t w cs) ((Below.refl _ _).alloc (Nat.le_refl _) _)
  unfold Oper.wp execOp
  simp [ho, Instr.alloc, newVar, hz w, Result.andThen, Value.cells]
  simp [go_sem]
  exact h'
theorem below_undrP {w w' : World} (h : Below w.drew.heap.size w.drew w') : Below w.heap.size w w' := ⟨h.os, h.tape, h.output, h.size, h.block⟩
theorem turned_undrP {b : Nat} {w w' : World} (h : Turned b w.drew w') : Turned b w w' := ⟨h.size, h.other, fun B w0 hB hb => h.below B w0 hB (below_drewB hb)⟩
theorem wpList_indexW {ops : Array Oper} {rest : List Oper} {o : Oper} {a : Act} {w : World} {Q : Exit → Act → World → Prop} (x y : Operand) (ho : o.op = .indexAddr 49 x y) (hw : Region.wanted o (yielded ops a.tmps) = true) (p i q : Value) (hx : a.eval x = p) (hy : a.eval y = i) (hrun : (Instr.indexAt 49 p i).run Try.prog w = .ok q w)
    (hr : wpList Try.prog ops Q rest (a.put o.dst q) w) : wpList Try.prog ops Q (o :: rest) a w :=
  wpList_step fun K hK => by
    rw [if_pos hw]
    unfold Oper.wp execOp
    simp only [ho, hx, hy, Sem.run_bind, hrun, Result.andThen_ok, Sem.run_pure]
    exact hK _ _ hr
theorem idxThI (b o l : Nat) (h : l < 3) (w : World) : (Instr.indexAt 50 (.pointer (some ⟨b, o, none⟩)) (.int .i64 (l : Int))).run Try.prog w = .ok (.pointer (some ⟨b, o + l, none⟩)) w := by
  have hs : (sizeOf 3).run Try.prog w = .ok 1 w := by kernel_rfl
  have h1 : (l : Int) < 3 := by omega
  simp [go_sem, Try.underlying50, h1, h, hs]
theorem idxThB (b o l : Nat) (h : l < 3) (w : World) : (Instr.indexAt 24 (.pointer (some ⟨b, o, none⟩)) (.int .i64 (l : Int))).run Try.prog w = .ok (.pointer (some ⟨b, o + l, none⟩)) w := by
  have hs : (sizeOf 4).run Try.prog w = .ok 1 w := by kernel_rfl
  have h1 : (l : Int) < 3 := by omega
  simp [go_sem, Try.underlying24, h1, h, hs]
theorem tdiv2 {n : Int} (h : (Lit.int .i64 n).wf = true) : wrap64 (n.tdiv 2) = n.tdiv 2 := by
  have hb : -9223372036854775808 ≤ n ∧ n ≤ 9223372036854775807 := by simpa [Lit.wf, IntKind.min, IntKind.max, IntKind.signed, IntKind.bits] using h
  unfold wrap64
  have : n.tdiv 2 = if 0 ≤ n then n / 2 else -((-n) / 2) := by
    split
    · rw [Int.tdiv_eq_ediv_of_nonneg (by omega)]
    · rename_i hn
      rw [show n = -(-n) by omega, Int.neg_tdiv, Int.tdiv_eq_ediv_of_nonneg (by omega)]
      omega
  rw [this]
  split <;> omega
theorem drop_one {f h : Nat → Int} {ms : List Mp} {m : Mp} (G : GoodT f h ms) (hm : m ∈ ms) : (dropM ms m).length + 1 = ms.length := by
  have hp := G.maps.2
  clear G
  induction ms with
  | nil => cases hm
  | cons o r ih =>
    rw [List.pairwise_cons] at hp
    have hself : ∀ x : Mp, meetsB [x] x = true := fun x => by simp [meetsB, inS]
    by_cases e : o = m
    · subst e
      have hno : o ∉ r := fun h => by have := hp.1 o h; rw [hself] at this; cases this
      have : dropM (o :: r) o = r := by
        unfold dropM
        rw [List.filter_cons_of_neg (by simp), List.filter_eq_self]
        intro a ha
        have : a ≠ o := fun e => hno (e ▸ ha)
        simpa using this
      rw [this, List.length_cons]
    · have hm' : m ∈ r := by
        rcases List.mem_cons.1 hm with h | h
        · exact absurd h.symm e
        · exact h
      have : dropM (o :: r) m = o :: dropM r m := by
        unfold dropM
        rw [List.filter_cons_of_pos (by simpa using e)]
      rw [this, List.length_cons, List.length_cons, ih hm' hp.2]
theorem ks28 {W : World} {b3 b6 : Nat} {f : Nat → Int} {g : Nat → Bool} {h : Nat → Int} {v : Value} {x m : Mp} {ms : List Mp} {jj : Nat} (R3 : Row 30 W b3 (tc f g h v)) (R6 : Row 52 W b6 (mc x)) (hM : MapsAt W v ms) (hj : jj < ms.length) (hm : ms[jj] = m) : W.cell? ⟨b3, 29, none⟩ = some v ∧ W.cell? ⟨b6, 4, none⟩ = some (.int .i64 x.2.2.2.2) ∧ W.rangeAt (mb v) (mo v + 5 * jj) (mcl m) :=
  ⟨(R3.cell 29).trans (tc_maps _ _ _ _), (R6.cell 4).trans rfl, hM.at jj hj hm⟩
theorem yields_loadM {ops : Array Oper} {S : World → Prop} {o : Oper} {a : Act} (x : Operand) (ho : o.op = .load 32 x) (hw : Region.wanted o (yielded ops a.tmps) = true) (b k : Nat) (hx : a.eval x = .pointer (some ⟨b, k, none⟩)) (m : Mp) (hS : ∀ w, S w → w.rangeAt b k (mcl m)) : YieldsIf Try.prog ops S o (.agg (mc m)) a := by
  have := yields_loadQ (S := S) 32 x ho hw b k hx (mcl m) hS _ Try.underlying32 rfl (mcl_info m)
  rw [mcl_mc] at this
  exact this
/-- the body of the first loop. -/
def loopOf : Code → Option Code
  | .loop c => some c
  | .seq a b => (loopOf a).or (loopOf b)
  | .block _ c => loopOf c
  | .scope c => loopOf c
  | .cond _ a b => (loopOf a).or (loopOf b)
  | _ => none
noncomputable def bodyP : Code := (Try.f6.body.bind loopOf).getD .skip
set_option maxRecDepth 1000000 in
/-- between two wishes. -/
def WP (w : World) (b3 b4 : Nat) (a0 : Option Addr) (n cap : Nat) (a : Act) (W : World) : Prop :=
  ∃ u1 u2 u5 u6 u7 u8 u9 u10 u11 u12 u13 u14 u15 u16 u17 u18 u19 u20 u21 u22 u23 u24 u25 u26 u27 u28 u29 u30 u31 u32 u33 u34 u35 u36 u37 u38 u39 u40 u41 u42 u43 u44 u45 u46 u47 u48 u49 u50 u51 u52 u53 u54 u55 u56 u57 u58 u59 u60 u61 u62 u63 u64 u65 u66 u67 u68 u69 u70 u71 u72 u73 u74 u75 u76 u77 u78 u79 u80 u81 u82 u83 u84 u85 u86 u87 u88 u89 u90 u91 u92 u93 u94 u95 u96 u97 u98 u99 u100 u101 u102 u103 u104 u105 u106 u107 u108 u109 u110 u111 u112 u113 u114 u115 u116 u117 u118 u119 u120 u121 u122 u123 u124 u125 u126 u127 u128 u129 u130 u131 u132 u133 u134 u135 u136 u137 u138 u139 u140 u141 u142 u143 u144 u145 u146 u147 u148 u149 u150 u151 u152 u153 u154 u155 u156 u157 u158 u159 u160 u161 u162 u163 u164 u165 u166 u167 u168 u169 u170 u171 u172 u173 u174 u175 u176 u177 u178 u179 u180 u181 u182 u183 u184 u185 u186 u187 u188 u189 u190 u191 u192 u193 u194 u195 u196 u197 u198 u199 u200 u201 u202 u203 u204 u205 u206 u207 u208 u209 u210 u211 u212 u213 u214 u215 u216 u217 u218 u219 u220 u221 u222 u223 u224 u225 u226 u227 u228 u229 u230 u231 u232 u233 u234 : Value, (∃ j : Nat, j ≤ n ∧ j ≤ 120 ∧ u5 = .int .i64 (j : Int) ∧ ∃ (f : Nat → Int) (g : Nat → Bool) (h : Nat → Int) (a1 : Option Addr) (lv c1 : Nat) (ms : List Mp), Bd w W [(b3, 30, tc f g h (.slice a1 lv c1)), (b4, 50, pr3)] [(.slice a1 lv c1, ms)] ∧ NilOk (.slice a1 lv c1) ∧ Hid (GoodT f h ms) ∧ Hid (lv = ms.length)) ∧ a = ⟨#[(.slice a0 n cap), u1, u2, .pointer (some ⟨b3, 0, none⟩), .pointer (some ⟨b4, 0, none⟩), u5, u6, u7, u8, u9, u10, u11, u12, u13, u14, u15, u16, u17, u18, u19, u20, u21, u22, u23, u24, u25, u26, u27, u28, u29, u30, u31, u32, u33, u34, u35, u36, u37, u38, u39, u40, u41, u42, u43, u44, u45, u46, u47, u48, u49, u50, u51, u52, u53, u54, u55, u56, u57, u58, u59, u60, u61, u62, u63, u64, u65, u66, u67, u68, u69, u70, u71, u72, u73, u74, u75, u76, u77, u78, u79, u80, u81, u82, u83, u84, u85, u86, u87, u88, u89, u90, u91, u92, u93, u94, u95, u96, u97, u98, u99, u100, u101, u102, u103, u104, u105, u106, u107, u108, u109, u110, u111, u112, u113, u114, u115, u116, u117, u118, u119, u120, u121, u122, u123, u124, u125, u126, u127, u128, u129, u130, u131, u132, u133, u134, u135, u136, u137, u138, u139, u140, u141, u142, u143, u144, u145, u146, u147, u148, u149, u150, u151, u152, u153, u154, u155, u156, u157, u158, u159, u160, u161, u162, u163, u164, u165, u166, u167, u168, u169, u170, u171, u172, u173, u174, u175, u176, u177, u178, u179, u180, u181, u182, u183, u184, u185, u186, u187, u188, u189, u190, u191, u192, u193, u194, u195, u196, u197, u198, u199, u200, u201, u202, u203, u204, u205, u206, u207, u208, u209, u210, u211, u212, u213, u214, u215, u216, u217, u218, u219, u220, u221, u222, u223, u224, u225, u226, u227, u228, u229, u230, u231, u232, u233, u234], []⟩
def WPmu (a : Act) (_ : World) : Nat := 120 - (intOf (a.tmps.getD 5 undef)).toNat
end Go.Proofs.Ytmdijjbkjcnbpaa
