/-
  The document's wheel: Due and Cancel.
-/
import Derived.Test.YtphijplgnffoiaaWpA
namespace Go.Proofs.Ytphijplgnffoiaa
open Go.ChangeShapes Go.WideShapes Go.ChangeAt Go.RowKit
set_option linter.unusedSimpArgs false
set_option linter.unusedVariables false

theorem atT {ops : Array Oper} {rest : List Oper} {o : Oper} {a : Act} {w : World} {Q : Exit → Act → World → Prop} (p : Op) (ho : o.op = p) (h : wpList Try.prog ops Q (o :: rest) a w) : wpList Try.prog ops Q (o :: rest) a w := h
theorem hidT {p : Prop} (h : p) : Hid p := h
theorem castT (m : Nat) : Value.int .i64 ((m : Int) + 1) = .int .i64 ((m + 1 : Nat) : Int) := by simp
theorem castTW {m : Nat} (h : wrap64 ((m : Int) + 1) = (m : Int) + 1) : Value.int .i64 (wrap64 ((m : Int) + 1)) = .int .i64 ((m + 1 : Nat) : Int) := by rw [h]; simp
theorem nextT {j n : Nat} (h : j < n) (hn : n ≤ 100000) : wrap64 ((j : Int) + 1) = (j : Int) + 1 := by unfold wrap64; omega
theorem measT {j n : Nat} (h : j < n) : n - ((j : Int) + 1).toNat < n - ((j : Int)).toNat := by omega
/-- when a timer goes off, by the list. -/
def lk : List Tm → Int → Option Int
  | [], _ => none
  | x :: r, i => if x.1 = i then some x.2 else lk r i
theorem drop_atT {ts : List Tm} {j : Nat} (h : j < ts.length) {x : Tm} (hx : ts[j] = x) : ts.drop j = x :: ts.drop (j + 1) := by rw [List.drop_eq_getElem_cons h, hx]
/-- the list without one. -/
def outT (ts : List Tm) (i : Int) : List Tm := ts.filter (fun x => decide (x.1 ≠ i))
theorem outT_step {ts : List Tm} {j : Nat} (h : j < ts.length) {x : Tm} (hx : ts[j] = x) (i : Int) : outT (ts.take (j + 1)) i = if x.1 ≠ i then outT (ts.take j) i ++ [x] else outT (ts.take j) i := by
  unfold outT
  rw [List.take_succ_eq_append_getElem h, List.filter_append, hx]
  by_cases hi : x.1 = i <;> simp [hi]
theorem outT_len (ts : List Tm) (i : Int) : (outT ts i).length ≤ ts.length := List.length_filter_le _ _
theorem lk_none {ts : List Tm} {i : Int} : lk ts i = none ↔ ∀ x ∈ ts, x.1 ≠ i := by
  induction ts with
  | nil => simp [lk]
  | cons x r ih => by_cases h : x.1 = i <;> simp [lk, h, ih]
theorem outT_same {ts : List Tm} {i : Int} (h : lk ts i = none) : outT ts i = ts := by
  unfold outT; rw [List.filter_eq_self]; intro x hx; simpa using lk_none.1 h x hx
theorem outT_cons (x : Tm) (r : List Tm) (i : Int) : outT (x :: r) i = if x.1 = i then outT r i else x :: outT r i := by
  unfold outT; by_cases h : x.1 = i <;> simp [h]
theorem outT_less {ts : List Tm} {i : Int} (h : lk ts i ≠ none) : (outT ts i).length < ts.length := by
  induction ts with
  | nil => simp [lk] at h
  | cons x r ih =>
    rw [outT_cons]
    by_cases hx : x.1 = i
    · have := outT_len r i
      rw [if_pos hx, List.length_cons]; omega
    · have h2 := ih (by simpa [lk, hx] using h)
      rw [if_neg hx, List.length_cons, List.length_cons]; omega
theorem wpList_loadT {ops : Array Oper} {rest : List Oper} {o : Oper} {a : Act} {w : World} {Q : Exit → Act → World → Prop} (x : Operand) (ho : o.op = .load 57 x) (hw : Region.wanted o (yielded ops a.tmps) = true)
    (b f : Nat) (hx : a.eval x = .pointer (some ⟨b, f, none⟩)) (e : Tm) (h : w.rangeAt b f (tml e))
    (hr : wpList Try.prog ops Q rest (a.put o.dst (.agg (tmc e))) w) : wpList Try.prog ops Q (o :: rest) a w :=
  wpList_step fun K hK => by
    rw [if_pos hw]
    exact wp_load_mid 57 x ho b f hx (tml e) _ h Try.underlying57 rfl (tml_info e) (hK _ _ hr)
/-- the document's wheel in memory. -/
structure RW (w : World) (p : Nat) (now : Int) (v : Value) (ts : List Tm) : Prop where
  row : Row 41 w p #[.int .i64 now, v]
  own : TmO w v ts
  ne : v.ownBlock ≠ some p
  n : ts.length ≤ 400
theorem RW.below {w w' : World} {p : Nat} {now : Int} {v : Value} {ts : List Tm} (h : RW w p now v ts) (hb : Below w.heap.size w w') : RW w' p now v ts := ⟨h.row.below hb, h.own.below hb, h.ne, h.n⟩
set_option maxRecDepth 10000 in
set_option maxHeartbeats 2000000 in
theorem dueRef_any {p : Nat} {now : Int} {v : Value} {ts : List Tm} (i : Int) (w : World) (h : RW w p now v ts) :
    Calls Try.prog 19 #[.pointer (some ⟨p, 0, none⟩), .int .i64 i] w fun e w' => e = .returned (.tuple #[.int .i64 ((lk ts i).getD 0), .bool (lk ts i).isSome]) ∧ Below w.heap.size w w' := by
  have hB := Below.refl w.heap.size w
  obtain ⟨hR, hO, hne, hn4⟩ := h
  obtain ⟨n, hn⟩ : ∃ n, n = ts.length := ⟨_, rfl⟩
  obtain ⟨a0, cap, hv⟩ := hO.slice
  rw [← hn] at hv
  subst hv
  have HN : Hid (n = ts.length) := hn
  have H4 : Hid (ts.length ≤ 400) := hn4
  have k1 : w.cell? ⟨p, 1, none⟩ = some (.slice a0 n cap) := hR.cell 1
  clear hn hn4
  go_enter Try.func19, Try.ntmps19
  go_wp2
  clear k1
  go_loopw [13] (fun k W => ∃ j : Nat, k = .int .i64 (j : Int) ∧ Hid (j ≤ ts.length) ∧ Hid (lk (ts.drop j) i = lk ts i) ∧ Below w.heap.size w W) (fun k _ => n - (intOf k).toNat)
  case atStart => exact ⟨0, rfl, Nat.zero_le _, rfl, hB⟩
  case round =>
    clear hB
    obtain ⟨j, rfl, hj, HL, hB⟩ := hrel
    by_cases hlj : j < ts.length
    · have hjn : (j : Int) < (n : Int) := by have := HN.out; omega
      have hjw := nextT hlj (by have := H4.out; omega)
      have HJ : Hid (j < ts.length) := hlj
      obtain ⟨x, hx⟩ : ∃ x, ts[j] = x := ⟨_, rfl⟩
      have I1 := fun w2 => hO.index j hlj w2
      have rE := (hO.below hB).at j hlj hx
      have HD : Hid (ts.drop j = x :: ts.drop (j + 1)) := drop_atT hlj hx
      clear hx hlj
      by_cases hxi : x.1 = i
      · have HR : Hid (lk ts i = some x.2) := by rw [← HL.out, HD.out]; exact hidT (by simp [lk, hxi])
        have g1 : (x.1 == i) = true := by simpa using hxi
        clear hxi
        go_wp2_with (first
          | ((with_reducible refine atT (.load 57 (.tmp 15)) rfl ?_); refine wpList_loadT (.tmp 15) rfl rfl _ _ rfl x rE ?_)
          | ((with_reducible refine atT (.alloc 57) rfl ?_); refine wpList_allocR 57 rfl rfl _ tm_zero ?_; intro b1 w1 l1 R1 hb1; replace l1 := Nat.le_trans hB.size l1; replace hB := hB.trans (hb1.mono hB.size))
          | ((with_reducible refine atT (.store 57 (.tmp 7) (.tmp 16)) rfl ?_); refine wpList_storeR 57 rfl _ _ rfl b1 (by kernel_rfl) (tmc x) (by kernel_rfl) _ R1 rfl (tmc_info x) (tmc_one x) ?_; intro w2 R2 t2; replace hB := t2.below _ _ l1 hB)
          | ((with_reducible refine atT (.load 3 (.tmp 17)) rfl ?_); refine wpList_loadF R2 _ rfl rfl 0 rfl x.1 rfl ?_)
          | ((with_reducible refine atT (.load 3 (.tmp 21)) rfl ?_); refine wpList_loadF R2 _ rfl rfl 1 rfl x.2 rfl ?_))
        go_ret2
        exact ⟨by rw [HR.out]; rfl, hB⟩
      · have HR : Hid (lk (ts.drop (j + 1)) i = lk ts i) := by rw [← HL.out, HD.out]; exact hidT (by simp [lk, hxi])
        have g1 : (x.1 == i) = false := by simpa using hxi
        clear hxi
        go_wp2_with (first
          | ((with_reducible refine atT (.load 57 (.tmp 15)) rfl ?_); refine wpList_loadT (.tmp 15) rfl rfl _ _ rfl x rE ?_)
          | ((with_reducible refine atT (.alloc 57) rfl ?_); refine wpList_allocR 57 rfl rfl _ tm_zero ?_; intro b1 w1 l1 R1 hb1; replace l1 := Nat.le_trans hB.size l1; replace hB := hB.trans (hb1.mono hB.size))
          | ((with_reducible refine atT (.store 57 (.tmp 7) (.tmp 16)) rfl ?_); refine wpList_storeR 57 rfl _ _ rfl b1 (by kernel_rfl) (tmc x) (by kernel_rfl) _ R1 rfl (tmc_info x) (tmc_one x) ?_; intro w2 R2 t2; replace hB := t2.below _ _ l1 hB)
          | ((with_reducible refine atT (.load 3 (.tmp 17)) rfl ?_); refine wpList_loadF R2 _ rfl rfl 0 rfl x.1 rfl ?_))
        go_roundw
        case rel => first | exact ⟨j + 1, castT j, hidT (Nat.succ_le_of_lt HJ.out), HR, hB⟩ | exact ⟨j + 1, castTW hjw, hidT (Nat.succ_le_of_lt HJ.out), HR, hB⟩ | ((repeat apply Exists.intro); first | exact ⟨⟨j + 1, castT j, hidT (Nat.succ_le_of_lt HJ.out), HR, hB⟩, rfl⟩ | exact ⟨⟨j + 1, castTW hjw, hidT (Nat.succ_le_of_lt HJ.out), HR, hB⟩, rfl⟩)
        case measure => (first | rw [hjw] | skip); exact measT (HN.out.symm ▸ HJ.out)
    · have hjn : ¬ (j : Int) < (n : Int) := by have := HN.out; omega
      have HR : Hid (lk ts i = none) := by rw [← HL.out, List.drop_of_length_le (by omega)]; rfl
      clear hlj
      go_wp2
      go_ret2
      exact ⟨by rw [HR.out]; rfl, hB⟩
end Go.Proofs.Ytphijplgnffoiaa
