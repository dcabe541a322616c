/-
  The document's wheel: Cancel.
-/
import Derived.Test.YtphijplgnffoiaaWpB
namespace Go.Proofs.Ytphijplgnffoiaa
open Go.ChangeShapes Go.WideShapes Go.ChangeAt Go.RowKit
set_option linter.unusedSimpArgs false
set_option linter.unusedVariables false

theorem run_buildT1 (e : Tm) (w : World) : (Instr.buildSlice 39 1 #[(0, .agg (tmc e))]).run Try.prog w = .ok (.slice (some ⟨w.heap.size, 0, none⟩) 1 1) (w.alloc (.cells (tmc e) 57)) := by
  obtain ⟨t, s⟩ := e
  kernel_rfl
theorem wp_buildT1 {o : Oper} {a : Act} {w : World} {K : Act → World → Prop} {Q : Exit → Act → World → Prop} (x : Operand) (ho : o.op = .buildSlice 39 1 #[(0, x)]) (e : Tm) (hx : a.eval x = .agg (tmc e))
    (hr : ∀ b w', w.heap.size ≤ b → Row 57 w' b (tmc e) → Below w.heap.size w w' → K (a.put o.dst (.slice (some ⟨b, 0, none⟩) 1 1)) w') : o.wp Try.prog a w K Q := by
  have h' := hr w.heap.size (w.alloc (.cells (tmc e) 57)) (Nat.le_refl _) (Row.new _ w _) ((Below.refl _ _).alloc (Nat.le_refl _) _)
  unfold Oper.wp execOp
  simp only [ho, List.map_toArray, List.map_cons, List.map_nil, hx, Sem.run_bind, run_buildT1, Result.andThen_ok, Sem.run_pure]
  exact h'
theorem wp_pushT {o : Oper} {a : Act} {w : World} {K : Act → World → Prop} {Q : Exit → Act → World → Prop} (s x : Operand) (ho : o.op = .call { callee := .builtin .append, args := #[s, x], argTypes := #[39, 39] })
    {b : Nat} {v : Value} {ts : List Tm} {e : Tm} (h : TmO w v ts) (R : Row 57 w b (tmc e)) (hs : a.eval s = v) (hx : a.eval x = .slice (some ⟨b, 0, none⟩) 1 1) (hl : ts.length ≤ 100000)
    (hr : ∀ v' w', TmO w' v' (ts ++ [e]) → w.grownBy w' v.ownBlock → (v'.ownBlock = v.ownBlock ∨ v'.ownBlock = some w.heap.size) → K (a.put o.dst v') w') : o.wp Try.prog a w K Q := by
  obtain ⟨v', w', h1, h2, h3, h4⟩ := run_pushT h R hl o.type
  unfold Oper.wp execOp
  simp only [ho, resolve, invoke, builtin, Sem.run_bind, Sem.run_pure, Result.andThen_ok, List.map_toArray, List.map_cons, List.map_nil, hs, hx, h1]
  exact hr v' w' h2 h3 h4
theorem wpList_buildT1 {ops : Array Oper} {rest : List Oper} {o : Oper} {a : Act} {w : World} {Q : Exit → Act → World → Prop} (hgd : o.guard = none) (x : Operand) (ho : o.op = .buildSlice 39 1 #[(0, x)]) (e : Tm) (hx : a.eval x = .agg (tmc e))
    (hr : ∀ b w', w.heap.size ≤ b → Row 57 w' b (tmc e) → Below w.heap.size w w' → wpList Try.prog ops Q rest (a.put o.dst (.slice (some ⟨b, 0, none⟩) 1 1)) w') : wpList Try.prog ops Q (o :: rest) a w :=
  wpList_plain hgd fun K hK => wp_buildT1 x ho e hx (fun b w' h1 h2 h3 => hK _ _ (hr b w' h1 h2 h3))
theorem wpList_pushT {ops : Array Oper} {rest : List Oper} {o : Oper} {a : Act} {w : World} {Q : Exit → Act → World → Prop} (hgd : o.guard = none) (s x : Operand) (ho : o.op = .call { callee := .builtin .append, args := #[s, x], argTypes := #[39, 39] })
    {b : Nat} {v : Value} {ts : List Tm} {e : Tm} (h : TmO w v ts) (R : Row 57 w b (tmc e)) (hs : a.eval s = v) (hx : a.eval x = .slice (some ⟨b, 0, none⟩) 1 1) (hl : ts.length ≤ 100000)
    (hr : ∀ v' w', TmO w' v' (ts ++ [e]) → w.grownBy w' v.ownBlock → (v'.ownBlock = v.ownBlock ∨ v'.ownBlock = some w.heap.size) → wpList Try.prog ops Q rest (a.put o.dst v') w') : wpList Try.prog ops Q (o :: rest) a w :=
  wpList_plain hgd fun K hK => wp_pushT s x ho h R hs hx hl (fun v' w' h1 h2 h3 => hK _ _ (hr v' w' h1 h2 h3))
/-- a list that lies behind B. -/
def Gt (B : Nat) (v : Value) : Prop := ∀ k, v.ownBlock = some k → B ≤ k
theorem gt_nil (B : Nat) : Gt B (.slice none 0 0) := fun k h => by cases h
theorem own_ge {B : Nat} {v v' : Value} {w w' : World} (hG : w.grownBy w' v.ownBlock) (hO : v'.ownBlock = v.ownBlock ∨ v'.ownBlock = some w.heap.size) (h : Gt B v) (hB : B ≤ w.heap.size) : Gt B v' := by
  intro k hk
  rcases hO with e | e
  · exact h k (by rw [← e]; exact hk)
  · rw [e] at hk; cases hk; exact hB
theorem grown_below {B : Nat} {v : Value} {w w' : World} (hG : w.grownBy w' v.ownBlock) (h : Gt B v) (hB : B ≤ w.heap.size) : Below B w w' :=
  ⟨hG.os, hG.tape, hG.output, hG.size, fun k hk => hG.block k (by omega) (fun e => by have := h k e.symm; omega)⟩
theorem wp_storeTL {o : Oper} {a : Act} {w : World} {K : Act → World → Prop} {Q : Exit → Act → World → Prop} {t : TypeId} {b : Nat} {cs : Array Value} (R : Row t w b cs) (x y : Operand) (ho : o.op = .store 39 x y)
    (f : Nat) (hx : a.eval x = .pointer (some ⟨b, f, none⟩)) (sa : Option Addr) (n c : Nat) (hy : a.eval y = .slice sa n c) (m : Value) (hc : cs[f]? = some m) (ds : Array Value) (hd : cs.setIfInBounds f (.slice sa n c) = ds)
    (hr : ∀ w', Row t w' b ds → Turned b w w' → K (a.put o.dst undef) w') : o.wp Try.prog a w K Q := by
  have hcell := (R.cell f).trans hc
  have hfr := R.free f
  unfold Oper.wp execOp
  simp only [ho, hx, hy]
  simp [go_sem, hcell, hfr, Try.underlying39]
  exact hr _ (hd ▸ R.set) (turned_cell _ _ _ _)
theorem wpList_storeTL {ops : Array Oper} {rest : List Oper} {o : Oper} {a : Act} {w : World} {Q : Exit → Act → World → Prop} {t : TypeId} {b : Nat} {cs : Array Value} (R : Row t w b cs) (hgd : o.guard = none) (x y : Operand) (ho : o.op = .store 39 x y)
    (f : Nat) (hx : a.eval x = .pointer (some ⟨b, f, none⟩)) (sa : Option Addr) (n c : Nat) (hy : a.eval y = .slice sa n c) (m : Value) (hc : cs[f]? = some m) (ds : Array Value) (hd : cs.setIfInBounds f (.slice sa n c) = ds)
    (hr : ∀ w', Row t w' b ds → Turned b w w' → wpList Try.prog ops Q rest (a.put o.dst undef) w') : wpList Try.prog ops Q (o :: rest) a w :=
  wpList_plain hgd fun K hK => wp_storeTL R x y ho f hx sa n c hy m hc ds hd (fun w' h1 h2 => hK _ _ (hr w' h1 h2))
/-- the number that Cancel answers. -/
def canE (ts : List Tm) (i : Int) : Int := if lk ts i = none then 7 else 0
set_option maxRecDepth 10000 in
set_option maxHeartbeats 2000000 in
theorem cancelRef_any {p : Nat} {now : Int} {v : Value} {ts : List Tm} (i : Int) (w : World) (h : RW w p now v ts) :
    Calls Try.prog 16 #[.pointer (some ⟨p, 0, none⟩), .int .i64 i] w fun e w' => e = .returned (.int .i64 (canE ts i)) ∧ ∃ v', RW w' p now v' (outT ts i) ∧ Gr (fun c => c = p) w w' ∧ (v' = v ∨ Gt w.heap.size v') := by
  have hB := Below.refl w.heap.size w
  have hh := h
  obtain ⟨hR, hO, hne, hn4⟩ := h
  obtain ⟨n, hn⟩ : ∃ n, n = ts.length := ⟨_, rfl⟩
  obtain ⟨a0, cap, hv⟩ := hO.slice
  rw [← hn] at hv
  subst hv
  have HN : Hid (n = ts.length) := hn
  have H4 : Hid (ts.length ≤ 400) := hn4
  have k1 : w.cell? ⟨p, 1, none⟩ = some (.slice a0 n cap) := hR.cell 1
  have HW : Hid (∀ {W : World}, Below w.heap.size w W → w.heap.size ≤ W.heap.size) := fun h => h.size
  clear hn hn4
  go_enter Try.func16, Try.ntmps16
  go_wp2
  clear k1
  go_loopw [5, 13] (fun u k W => ∃ (j : Nat) (al : Option Addr) (nl cl : Nat), k = .int .i64 (j : Int) ∧ u = .slice al nl cl ∧ Hid (j ≤ ts.length) ∧ Hid (nl = (outT (ts.take j) i).length) ∧ TmO W (.slice al nl cl) (outT (ts.take j) i) ∧ Gt w.heap.size (.slice al nl cl) ∧ Below w.heap.size w W) (fun _ k _ => n - (intOf k).toNat)
  case atStart => exact ⟨0, none, 0, 0, rfl, rfl, Nat.zero_le _, rfl, TmO.nil _, gt_nil _, hB⟩
  case round =>
    clear hB
    obtain ⟨j, al, nl, cl, rfl, rfl, hj, HNL, hL, hgt, hB⟩ := hrel
    by_cases hlj : j < ts.length
    · have hjn : (j : Int) < (n : Int) := by have := HN.out; omega
      have hjw := nextT hlj (by have := H4.out; omega)
      have HJ : Hid (j < ts.length) := hlj
      obtain ⟨x, hx⟩ : ∃ x, ts[j] = x := ⟨_, rfl⟩
      have I1 := fun w2 => hO.index j hlj w2
      have rE := (hO.below hB).at j hlj hx
      have HS := outT_step hlj hx i
      have HQ : Hid ((outT (ts.take j) i).length ≤ 100000) := hidT (by have h1 := outT_len (ts.take j) i; have h2 := H4.out; rw [List.length_take] at h1; omega)
      clear hx hlj
      by_cases hxi : x.1 = i
      · rw [if_neg (by simpa using hxi)] at HS
        replace HS : Hid (outT (ts.take (j + 1)) i = outT (ts.take j) i) := HS
        have g1 : (x.1 != i) = false := by simpa using hxi
        clear hxi
        go_wp2_with (first
          | ((with_reducible refine atT (.load 57 (.tmp 15)) rfl ?_); refine wpList_loadT (.tmp 15) rfl rfl _ _ rfl x rE ?_)
          | ((with_reducible refine atT (.alloc 57) rfl ?_); refine wpList_allocR 57 rfl rfl _ tm_zero ?_; intro b1 w1 l1 R1 hb1; have n1 := hL.new l1; replace hL := hL.below hb1; replace l1 := Nat.le_trans hB.size l1; replace hB := hB.trans (hb1.mono hB.size))
          | ((with_reducible refine atT (.store 57 (.tmp 7) (.tmp 16)) rfl ?_); refine wpList_storeR 57 rfl _ _ rfl b1 (by kernel_rfl) (tmc x) (by kernel_rfl) _ R1 rfl (tmc_info x) (tmc_one x) ?_; intro w2 R2 t2; replace hL := hL.turned t2 n1; replace hB := t2.below _ _ l1 hB)
          | ((with_reducible refine atT (.load 3 (.tmp 17)) rfl ?_); refine wpList_loadF R2 _ rfl rfl 0 rfl x.1 rfl ?_))
        rw [← HS.out] at hL
        go_roundw
        case rel => first | exact ⟨j + 1, _, _, _, castT j, rfl, hidT (Nat.succ_le_of_lt HJ.out), hidT (HNL.out.trans (congrArg List.length HS.out.symm)), hL, hgt, hB⟩ | exact ⟨j + 1, _, _, _, castTW hjw, rfl, hidT (Nat.succ_le_of_lt HJ.out), hidT (HNL.out.trans (congrArg List.length HS.out.symm)), hL, hgt, hB⟩ | ((repeat apply Exists.intro); first | exact ⟨⟨j + 1, _, _, _, castT j, rfl, hidT (Nat.succ_le_of_lt HJ.out), hidT (HNL.out.trans (congrArg List.length HS.out.symm)), hL, hgt, hB⟩, rfl⟩ | exact ⟨⟨j + 1, _, _, _, castTW hjw, rfl, hidT (Nat.succ_le_of_lt HJ.out), hidT (HNL.out.trans (congrArg List.length HS.out.symm)), hL, hgt, hB⟩, rfl⟩)
        case measure => (first | rw [hjw] | skip); exact measT (HN.out.symm ▸ HJ.out)
      · rw [if_pos (by simpa using hxi)] at HS
        replace HS : Hid (outT (ts.take (j + 1)) i = outT (ts.take j) i ++ [x]) := HS
        have g1 : (x.1 != i) = true := by simpa using hxi
        clear hxi
        go_wp2_with (first
          | ((with_reducible refine atT (.load 57 (.tmp 15)) rfl ?_); refine wpList_loadT (.tmp 15) rfl rfl _ _ rfl x rE ?_)
          | ((with_reducible refine atT (.alloc 57) rfl ?_); refine wpList_allocR 57 rfl rfl _ tm_zero ?_; intro b1 w1 l1 R1 hb1; have n1 := hL.new l1; replace hL := hL.below hb1; replace l1 := Nat.le_trans hB.size l1; replace hB := hB.trans (hb1.mono hB.size))
          | ((with_reducible refine atT (.store 57 (.tmp 7) (.tmp 16)) rfl ?_); refine wpList_storeR 57 rfl _ _ rfl b1 (by kernel_rfl) (tmc x) (by kernel_rfl) _ R1 rfl (tmc_info x) (tmc_one x) ?_; intro w2 R2 t2; replace hL := hL.turned t2 n1; replace hB := t2.below _ _ l1 hB)
          | ((with_reducible refine atT (.load 3 (.tmp 17)) rfl ?_); refine wpList_loadF R2 _ rfl rfl 0 rfl x.1 rfl ?_)
          | ((with_reducible refine atT (.load 57 (.tmp 7)) rfl ?_); refine wpList_loadR 57 (.tmp 7) rfl rfl b1 (by kernel_rfl) (tmc x) R2 _ Try.underlying57 rfl (tmc_info _) ?_)
          | ((with_reducible refine atT (.buildSlice 39 1 #[(0, .tmp 22)]) rfl ?_); refine wpList_buildT1 rfl (.tmp 22) rfl x (by kernel_rfl) ?_; intro b6 w6 l6 R6 hb6; replace hL := hL.below hb6; replace hB := hB.trans (hb6.mono hB.size))
          | ((with_reducible refine atT (.call { callee := .builtin .append, args := #[.tmp 21, .tmp 23], argTypes := #[39, 39] }) rfl ?_); refine wpList_pushT rfl (.tmp 21) (.tmp 23) rfl hL R6 (by kernel_rfl) (by kernel_rfl) HQ.out ?_; intro v8 w8 hL8 hG8 hO8; have hgt8 := own_ge hG8 hO8 hgt (HW.out hB) ; replace hB := hB.trans (grown_below hG8 hgt hB.size); clear hG8 hO8 hL; obtain ⟨n8, hn8⟩ : ∃ n, n = (outT (ts.take j) i ++ [x]).length := ⟨_, rfl⟩; obtain ⟨a8, c8, e8⟩ := hL8.slice; rw [← hn8] at e8; have H8 : Hid (n8 = (outT (ts.take j) i ++ [x]).length) := hn8; clear hn8; subst e8))
        rw [← HS.out] at hL8 H8
        go_roundw
        case rel => first | exact ⟨j + 1, _, _, _, castT j, rfl, hidT (Nat.succ_le_of_lt HJ.out), H8, hL8, hgt8, hB⟩ | exact ⟨j + 1, _, _, _, castTW hjw, rfl, hidT (Nat.succ_le_of_lt HJ.out), H8, hL8, hgt8, hB⟩ | ((repeat apply Exists.intro); first | exact ⟨⟨j + 1, _, _, _, castT j, rfl, hidT (Nat.succ_le_of_lt HJ.out), H8, hL8, hgt8, hB⟩, rfl⟩ | exact ⟨⟨j + 1, _, _, _, castTW hjw, rfl, hidT (Nat.succ_le_of_lt HJ.out), H8, hL8, hgt8, hB⟩, rfl⟩)
        case measure => (first | rw [hjw] | skip); exact measT (HN.out.symm ▸ HJ.out)
    · have hjn : ¬ (j : Int) < (n : Int) := by have := HN.out; omega
      have e1 : ts.take j = ts := List.take_of_length_le (by omega)
      rw [e1] at hL HNL
      have k1 := (hR.keep hB hR.lt).cell 1
      replace k1 : World.cell? _ ⟨p, 1, none⟩ = some (.slice a0 n cap) := k1
      clear hlj e1
      by_cases hno : lk ts i = none
      · have g2 : ((nl : Int) == (n : Int)) = true := by have h1 := HNL.out; have h2 := HN.out; rw [outT_same hno] at h1; rw [h1, h2]; simp
        have HE : Hid (canE ts i = 7) := if_pos hno
        have HO : Hid (outT ts i = ts) := outT_same hno
        clear hno
        go_wp2
        go_ret
        exact ⟨by rw [HE.out]; rfl, _, by rw [HO.out]; exact hh.below hB, Gr.of_below hB, .inl rfl⟩
      · have g2 : ((nl : Int) == (n : Int)) = false := by have h1 := HNL.out; have h2 := HN.out; have h3 := outT_less hno; simp; omega
        have HE : Hid (canE ts i = 0) := if_neg hno
        have R3 := hR.keep hB hR.lt
        have hp : Value.ownBlock (.slice al nl cl) ≠ some p := fun e => by have := hgt p e; have := hR.lt; omega
        have HLn : Hid ((outT ts i).length ≤ 400) := hidT (by have := outT_len ts i; have := H4.out; omega)
        clear hno
        go_wp2_with ((with_reducible refine atT (.store 39 (.tmp 37) (.tmp 35)) rfl ?_); refine wpList_storeTL R3 rfl _ _ rfl 1 (by kernel_rfl) al nl cl (by kernel_rfl) _ rfl _ rfl ?_; intro w9 R9 t9; have hL9 := hL.turned t9 hp)
        go_ret
        refine ⟨by rw [HE.out]; rfl, _, ⟨R9, hL9, hp, HLn.out⟩, ?_, .inr hgt⟩
        have hG : Gr (fun c => c = p) w _ := Gr.of_below hB
        exact hG.trans ⟨by have := t9.below 0 _ (Nat.zero_le _) (Below.refl _ _); exact this.os, by have := t9.below 0 _ (Nat.zero_le _) (Below.refl _ _); exact this.tape, by have := t9.below 0 _ (Nat.zero_le _) (Below.refl _ _); exact this.output, by rw [t9.size]; exact Nat.le_refl _, fun c _ hc => t9.other c hc⟩ (fun x hx => .inl hx)
end Go.Proofs.Ytphijplgnffoiaa
