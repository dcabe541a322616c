/-
  The document's wheel: Arm.
-/
import Derived.Test.YtphijplgnffoiaaWpC
import Derived.Test.YtphijplgnffoiaaWhP
namespace Go.Proofs.Ytphijplgnffoiaa
open Go.ChangeShapes Go.WideShapes Go.ChangeAt Go.RowKit
set_option linter.unusedSimpArgs false
set_option linter.unusedVariables false

theorem wp_loadTL {o : Oper} {a : Act} {w : World} {K : Act → World → Prop} {Q : Exit → Act → World → Prop} {t : TypeId} {b : Nat} {cs : Array Value} (R : Row t w b cs) (x : Operand) (ho : o.op = .load 39 x)
    (f : Nat) (hx : a.eval x = .pointer (some ⟨b, f, none⟩)) (v : Value) (hc : cs[f]? = some v)
    (hr : K (a.put o.dst v) w) : o.wp Try.prog a w K Q := by
  have hcell := (R.cell f).trans hc
  unfold Oper.wp execOp
  simp only [ho, hx]
  simp [go_sem, hcell, Try.underlying39]
  exact hr
theorem run_build2 (i d : Int) (w : World) : (Instr.build 57 #[(0, .int .i64 i), (1, .int .i64 d)]).run Try.prog w = .ok (.agg (tmc (i, d))) w := by kernel_rfl
theorem yields_build2 {ops : Array Oper} {S : World → Prop} {o : Oper} {a : Act} (x y : Operand) (ho : o.op = .build 57 #[(0, x), (1, y)]) (hw : Region.wanted o (yielded ops a.tmps) = true) (i d : Int) (hx : a.eval x = .int .i64 i) (hy : a.eval y = .int .i64 d) : YieldsIf Try.prog ops S o (.agg (tmc (i, d))) a :=
  .inl ⟨hw, fun w _ => by
    unfold execOp
    simp only [ho, List.map_toArray, List.map_cons, List.map_nil, hx, hy, Sem.run_bind, run_build2, Result.andThen_ok, Sem.run_pure]⟩
theorem below_undrT {w w' : World} (h : Below w.drew.heap.size w.drew w') : Below w.heap.size w w' := ⟨h.os, h.tape, h.output, h.size, h.block⟩
theorem Row.grownT {t : TypeId} {w w' : World} {b : Nat} {cs : Array Value} {v : Value} (R : Row t w b cs) (h : w.grownBy w' v.ownBlock) (hne : v.ownBlock ≠ some b) : Row t w' b cs := (h.block b R.lt (fun e => hne e.symm)).trans R
theorem own_neT {v v' : Value} {w : World} {p : Nat} (h : v'.ownBlock = v.ownBlock ∨ v'.ownBlock = some w.heap.size) (hne : v.ownBlock ≠ some p) (hp : p < w.heap.size) : v'.ownBlock ≠ some p := by
  rcases h with e | e
  · rw [e]; exact hne
  · rw [e]; intro x; have := Option.some.inj x; omega
theorem own_lie {v0 v v' : Value} {w : World} {B : Nat} (h : v'.ownBlock = v.ownBlock ∨ v'.ownBlock = some w.heap.size) (hv : v = v0 ∨ Gt B v) (hB : B ≤ w.heap.size) : v'.ownBlock = v0.ownBlock ∨ Gt B v' := by
  rcases h with e | e
  · rcases hv with rfl | hv
    · exact .inl e
    · exact .inr (fun k hk => hv k (by rw [← e]; exact hk))
  · exact .inr (fun k hk => by rw [e] at hk; have := Option.some.inj hk; omega)
theorem Gr.ofTurned {p : Nat} {w w' : World} (t9 : Turned p w w') : Gr (fun c => c = p) w w' :=
  have hb := t9.below 0 _ (Nat.zero_le _) (Below.refl _ _)
  ⟨hb.os, hb.tape, hb.output, by rw [t9.size]; exact Nat.le_refl _, fun c _ hc => t9.other c hc⟩
set_option maxRecDepth 10000 in
set_option maxHeartbeats 2000000 in
theorem armRef_ok {p : Nat} {now : Int} {v : Value} {ts : List Tm} (i due : Int) (w : World) (h : RW w p now v ts) (h0 : 0 ≤ due) (h1 : due ≤ 1099511627776) (hroom : lk ts i = none → ts.length < 400) :
    Calls Try.prog 14 #[.pointer (some ⟨p, 0, none⟩), .int .i64 i, .int .i64 due] w fun e w' => e = .returned (.int .i64 0) ∧ ∃ v', RW w' p now v' (outT ts i ++ [(i, max due now)]) ∧ Gr (fun c => c = p ∨ v.ownBlock = some c) w w' ∧ (v'.ownBlock = v.ownBlock ∨ Gt w.heap.size v') := by
  have HNN : Hid ((outT ts i ++ [(i, max due now)]).length ≤ 400) := hidT (by
    rw [List.length_append]
    by_cases hn : lk ts i = none
    · have := hroom hn; rw [outT_same hn]; simp; omega
    · have := outT_less hn; have := h.n; simp; omega)
  have g0 : decide (due < 0) = false := by simpa using h0
  have g1 : decide (1099511627776 < due) = false := by simpa using h1
  have CD := fun w h => dueRef_any (p := p) (now := now) (v := v) (ts := ts) i w h
  have CC := fun w h => cancelRef_any (p := p) (now := now) (v := v) (ts := ts) i w h
  have hG := Gr.refl (fun c => c = p ∨ v.ownBlock = some c) w
  obtain ⟨n, hn⟩ : ∃ n, n = ts.length := ⟨_, rfl⟩
  obtain ⟨a0, cap, hv⟩ := h.own.slice
  have k1 : ∀ W, RW W p now v ts → W.cell? ⟨p, 1, none⟩ = some v := fun W h => h.row.cell 1
  rw [← hn] at hv
  have HF0 : Hid (∀ c, v.ownBlock = some c → c < w.heap.size) := h.own.lt
  have HR : Hid ((lk ts i).isSome = true ∨ (n : Int) < 400) := by
    cases hl : lk ts i with
    | none => exact .inr (by have := hroom hl; omega)
    | some d => exact .inl rfl
  clear hn h0 h1 hroom
  obtain ⟨is, his⟩ : ∃ b, (lk ts i).isSome = b := ⟨_, rfl⟩
  obtain ⟨dv, hdv⟩ : ∃ d, (lk ts i).getD 0 = d := ⟨_, rfl⟩
  rw [his, hdv] at CD
  rw [his] at HR
  clear his hdv
  have tailA : ∀ g : Prop, g → g := fun _ h => h
  cases is with
  | true =>
    go_enter Try.func14, Try.ntmps14
    go_upto_region 7 with (first
      | (go_at_call 19; refine (CD _ h).mono ?_; rintro e w5 ⟨rfl, hb5⟩; replace h := h.below hb5; replace hG := hG.trans (Gr.of_below (F := fun _ => False) hb5) (fun _ h => h.elim); have HS1 := hidT hb5.size)
      | (go_at_call 16; refine (CC _ h).mono ?_; rintro e w6 ⟨rfl, v1, h6, hG6, hV6⟩))
    replace hG := hG.trans hG6 (fun x hx => .inl (.inl hx))
    have HSZ : Hid (w.heap.size ≤ _) := hidT (Nat.le_trans HS1.out hG6.size)
    have HV : Hid (v1 = v ∨ Gt w.heap.size v1) := hidT (by
      rcases hV6 with e | e
      · exact .inl e
      · exact .inr (fun k hk => Nat.le_trans HS1.out (e k hk)))
    clear hV6 hG6
    obtain ⟨R, hT, hne, hn6⟩ := h6
    obtain ⟨n1, hn1⟩ : ∃ n, n = (outT ts i).length := ⟨_, rfl⟩
    obtain ⟨a1, c1, e1⟩ := hT.slice
    rw [← hn1] at e1
    subst e1
    have HL : Hid ((outT ts i).length ≤ 100000) := hidT (by omega)
    have HF : Hid (∀ x, Value.ownBlock (.slice a1 n1 c1) = some x → (x = p ∨ v.ownBlock = some x) ∨ w.heap.size ≤ x) := hidT (fun x hx => by
      rcases HV.out with e | e
      · exact .inl (.inr (by rw [← e]; exact hx))
      · exact .inr (e x hx))
    have k0 := R.cell 0
    replace k0 : World.cell? _ ⟨p, 0, none⟩ = some (.int .i64 now) := k0
    clear hn1 hn6 h CD CC k1
    refine wp_region_noPanic ?_
    refine wp_region_held_drew (S := fun W => W.cell? ⟨p, 0, none⟩ = some (.int .i64 now)) (by kernel_rfl) k0 (fun _ => ?_)
    refine wpAnyH_take (i := 0) (v := .pointer (some ⟨p, 0, none⟩)) rfl (by kernel_rfl) (by kernel_rfl) (by kernel_rfl) (fun _ _ _ h => h) (Or.inl ⟨by kernel_rfl, by intro w hS; go_simp⟩) k0 ?_
    simp only [Act.put, List.getElem_toArray, List.getElem_cons_succ, List.getElem_cons_zero, List.setIfInBounds_toArray, List.set_cons_zero, List.set_cons_succ]
    refine wpAnyH_take (i := 1) (v := .pointer (some ⟨p, 0, none⟩)) rfl (by kernel_rfl) (by kernel_rfl) (by kernel_rfl) (fun _ _ _ h => h) (Or.inl ⟨by kernel_rfl, by intro w hS; go_simp⟩) k0 ?_
    simp only [Act.put, List.getElem_toArray, List.getElem_cons_succ, List.getElem_cons_zero, List.setIfInBounds_toArray, List.set_cons_zero, List.set_cons_succ]
    refine wpAnyH_take (i := 2) (v := .pointer (some ⟨p, 0, none⟩)) rfl (by kernel_rfl) (by kernel_rfl) (by kernel_rfl) (fun _ _ _ h => h) (Or.inl ⟨by kernel_rfl, by intro w hS; go_simp⟩) k0 ?_
    simp only [Act.put, List.getElem_toArray, List.getElem_cons_succ, List.getElem_cons_zero, List.setIfInBounds_toArray, List.set_cons_zero, List.set_cons_succ]
    refine wpAnyH_take (i := 3) (v := .pointer (some ⟨p, 1, none⟩)) rfl (by kernel_rfl) (by kernel_rfl) (by kernel_rfl) (fun _ _ _ h => h) (Or.inl ⟨by kernel_rfl, by intro w hS; go_simp⟩) k0 ?_
    simp only [Act.put, List.getElem_toArray, List.getElem_cons_succ, List.getElem_cons_zero, List.setIfInBounds_toArray, List.set_cons_zero, List.set_cons_succ]
    refine wpAnyH_take (i := 5) (v := .int .i64 i) rfl (by kernel_rfl) (by kernel_rfl) (by kernel_rfl) (fun _ _ _ h => h) (Or.inl ⟨by kernel_rfl, by intro w hS; go_simp⟩) k0 ?_
    simp only [Act.put, List.getElem_toArray, List.getElem_cons_succ, List.getElem_cons_zero, List.setIfInBounds_toArray, List.set_cons_zero, List.set_cons_succ]
    refine wpAnyH_take (i := 6) (v := .int .i64 due) rfl (by kernel_rfl) (by kernel_rfl) (by kernel_rfl) (fun _ _ _ h => h) (Or.inl ⟨by kernel_rfl, by intro w hS; go_simp⟩) k0 ?_
    simp only [Act.put, List.getElem_toArray, List.getElem_cons_succ, List.getElem_cons_zero, List.setIfInBounds_toArray, List.set_cons_zero, List.set_cons_succ]
    refine wpAnyH_take (i := 7) (v := .pointer (some ⟨p, 0, none⟩)) rfl (by kernel_rfl) (by kernel_rfl) (by kernel_rfl) (fun _ _ _ h => h) (Or.inl ⟨by kernel_rfl, by intro w hS; go_simp⟩) k0 ?_
    simp only [Act.put, List.getElem_toArray, List.getElem_cons_succ, List.getElem_cons_zero, List.setIfInBounds_toArray, List.set_cons_zero, List.set_cons_succ]
    refine wpAnyH_take (i := 8) (v := .pointer (some ⟨p, 0, none⟩)) rfl (by kernel_rfl) (by kernel_rfl) (by kernel_rfl) (fun _ _ _ h => h) (Or.inl ⟨by kernel_rfl, by intro w hS; go_simp⟩) k0 ?_
    simp only [Act.put, List.getElem_toArray, List.getElem_cons_succ, List.getElem_cons_zero, List.setIfInBounds_toArray, List.set_cons_zero, List.set_cons_succ]
    refine wpAnyH_take (i := 9) (v := .pointer (some ⟨p, 0, none⟩)) rfl (by kernel_rfl) (by kernel_rfl) (by kernel_rfl) (fun _ _ _ h => h) (Or.inl ⟨by kernel_rfl, by intro w hS; go_simp⟩) k0 ?_
    simp only [Act.put, List.getElem_toArray, List.getElem_cons_succ, List.getElem_cons_zero, List.setIfInBounds_toArray, List.set_cons_zero, List.set_cons_succ]
    refine wpAnyH_take (i := 10) (v := .int .i64 now) rfl (by kernel_rfl) (by kernel_rfl) (by kernel_rfl) (fun _ _ _ h => h) (Or.inl ⟨by kernel_rfl, by intro w hS; have hc := hS; go_simp⟩) k0 ?_
    simp only [Act.put, List.getElem_toArray, List.getElem_cons_succ, List.getElem_cons_zero, List.setIfInBounds_toArray, List.set_cons_zero, List.set_cons_succ]
    refine wpAnyH_take (i := 11) (v := .int .i64 (max due now)) rfl (by kernel_rfl) (by kernel_rfl) (by kernel_rfl) (fun _ _ _ h => h) (yields_max (.tmp 40) (.tmp 44) _ rfl (by kernel_rfl) _ _ (by kernel_rfl) (by kernel_rfl)) k0 ?_
    simp only [Act.put, List.getElem_toArray, List.getElem_cons_succ, List.getElem_cons_zero, List.setIfInBounds_toArray, List.set_cons_zero, List.set_cons_succ]
    refine wpAnyH_take (i := 12) (v := .agg (tmc (i, max due now))) rfl (by kernel_rfl) (by kernel_rfl) (by kernel_rfl) (fun _ _ _ h => h) (yields_build2 (.tmp 39) (.tmp 45) rfl (by kernel_rfl) i (max due now) (by kernel_rfl) (by kernel_rfl)) k0 ?_
    simp only [Act.put, List.getElem_toArray, List.getElem_cons_succ, List.getElem_cons_zero, List.setIfInBounds_toArray, List.set_cons_zero, List.set_cons_succ]
    refine wpAnyH_ready (rs := [4, 13]) (by kernel_rfl) (by simp) ?_
    refine AllReadyH.cons rfl (fun K hK => ?_) ?_
    · rw [if_pos (by kernel_rfl)]
      refine wp_loadTL R (.tmp 37) rfl 1 (by kernel_rfl) (.slice a1 n1 c1) rfl ?_
      refine hK.out _ _ k0 (fun _ => ?_)
      clear hK K
      try simp only [Act.put, List.getElem_toArray, List.getElem_cons_succ, List.getElem_cons_zero, List.setIfInBounds_toArray, List.set_cons_zero, List.set_cons_succ]
      refine wpAnyH_ready (rs := [13]) (by kernel_rfl) (by simp) ?_
      refine AllReadyH.cons rfl (fun K hK => ?_) ?_
      · rw [if_pos (by kernel_rfl)]
        refine wp_buildT1 (.tmp 46) rfl (i, max due now) (by kernel_rfl) ?_; intro b9 w7 g9 R9 hb7; (first | replace hb7 := below_undrT hb7 | skip); replace R := Row.below R hb7; replace hT := hT.below hb7; replace k0 := R.cell 0; replace hG := hG.trans (Gr.of_below (F := fun _ => False) hb7) (fun _ h => h.elim); replace HSZ := hidT (Nat.le_trans HSZ.out hb7.size)
        refine hK.out _ _ k0 (fun _ => ?_)
        clear hK K
        try simp only [Act.put, List.getElem_toArray, List.getElem_cons_succ, List.getElem_cons_zero, List.setIfInBounds_toArray, List.set_cons_zero, List.set_cons_succ]
        refine wpAnyH_ready (rs := [14]) (by kernel_rfl) (by simp) ?_
        refine AllReadyH.cons rfl (fun K hK => ?_) ?_
        · rw [if_pos (by kernel_rfl)]
          refine wp_pushT (.tmp 38) (.tmp 47) rfl hT R9 (by kernel_rfl) (by kernel_rfl) HL.out ?_; intro v8 w8 hT8 hG8 hO8; have n8 := own_neT hO8 hne R.lt; replace R := Row.grownT R hG8 hne; replace k0 := R.cell 0; have hO9 := own_lie hO8 HV.out HSZ.out; replace hG := hG.trans (Gr.of_grown (F := fun c => Value.ownBlock (.slice a1 n1 c1) = some c) hG8 (fun c h => h)) HF.out; clear hG8 hO8; obtain ⟨n8', hn8⟩ : ∃ n, n = (outT ts i ++ [(i, max due now)]).length := ⟨_, rfl⟩; obtain ⟨a8, c8, e8⟩ := hT8.slice; rw [← hn8] at e8; clear hn8; subst e8
          refine hK.out _ _ k0 (fun _ => ?_)
          clear hK K
          try simp only [Act.put, List.getElem_toArray, List.getElem_cons_succ, List.getElem_cons_zero, List.setIfInBounds_toArray, List.set_cons_zero, List.set_cons_succ]
          refine wpAnyH_take (i := 15) (v := .pointer (some ⟨p, 0, none⟩)) rfl (by kernel_rfl) (by kernel_rfl) (by kernel_rfl) (fun _ _ _ h => h) (Or.inl ⟨by kernel_rfl, by intro w hS; go_simp⟩) k0 ?_
          simp only [Act.put, List.getElem_toArray, List.getElem_cons_succ, List.getElem_cons_zero, List.setIfInBounds_toArray, List.set_cons_zero, List.set_cons_succ]
          refine wpAnyH_take (i := 16) (v := .pointer (some ⟨p, 1, none⟩)) rfl (by kernel_rfl) (by kernel_rfl) (by kernel_rfl) (fun _ _ _ h => h) (Or.inl ⟨by kernel_rfl, by intro w hS; go_simp⟩) k0 ?_
          simp only [Act.put, List.getElem_toArray, List.getElem_cons_succ, List.getElem_cons_zero, List.setIfInBounds_toArray, List.set_cons_zero, List.set_cons_succ]
          refine wpAnyH_ready (rs := [17]) (by kernel_rfl) (by simp) ?_
          refine AllReadyH.cons rfl (fun K hK => ?_) ?_
          · rw [if_pos (by kernel_rfl)]
            refine wp_storeTL R (.tmp 50) (.tmp 48) rfl 1 (by kernel_rfl) a8 n8' c8 (by kernel_rfl) _ rfl _ rfl ?_; intro w9 R10 t9; have hT9 := hT8.turned t9 n8; replace k0 := R10.cell 0; replace hG := hG.trans (Gr.ofTurned t9) (fun x hx => .inl (.inl hx))
            refine hK.out _ _ k0 (fun _ => ?_)
            clear hK K
            try simp only [Act.put, List.getElem_toArray, List.getElem_cons_succ, List.getElem_cons_zero, List.setIfInBounds_toArray, List.set_cons_zero, List.set_cons_succ]
            refine wpAnyH_done (by kernel_rfl) ?_ _
            refine NoPanic.normal ?_
            go_wp2
            go_ret
            exact ⟨rfl, _, ⟨R10, hT9, n8, HNN.out⟩, hG, hO9⟩
          exact AllReadyH.nil
        exact AllReadyH.nil
      exact AllReadyH.nil
    refine AllReadyH.cons rfl (fun K hK => ?_) ?_
    · rw [if_pos (by kernel_rfl)]
      refine wp_buildT1 (.tmp 46) rfl (i, max due now) (by kernel_rfl) ?_; intro b9 w7 g9 R9 hb7; (first | replace hb7 := below_undrT hb7 | skip); replace R := Row.below R hb7; replace hT := hT.below hb7; replace k0 := R.cell 0; replace hG := hG.trans (Gr.of_below (F := fun _ => False) hb7) (fun _ h => h.elim); replace HSZ := hidT (Nat.le_trans HSZ.out hb7.size)
      refine hK.out _ _ k0 (fun _ => ?_)
      clear hK K
      try simp only [Act.put, List.getElem_toArray, List.getElem_cons_succ, List.getElem_cons_zero, List.setIfInBounds_toArray, List.set_cons_zero, List.set_cons_succ]
      refine wpAnyH_ready (rs := [4]) (by kernel_rfl) (by simp) ?_
      refine AllReadyH.cons rfl (fun K hK => ?_) ?_
      · rw [if_pos (by kernel_rfl)]
        refine wp_loadTL R (.tmp 37) rfl 1 (by kernel_rfl) (.slice a1 n1 c1) rfl ?_
        refine hK.out _ _ k0 (fun _ => ?_)
        clear hK K
        try simp only [Act.put, List.getElem_toArray, List.getElem_cons_succ, List.getElem_cons_zero, List.setIfInBounds_toArray, List.set_cons_zero, List.set_cons_succ]
        refine wpAnyH_ready (rs := [14]) (by kernel_rfl) (by simp) ?_
        refine AllReadyH.cons rfl (fun K hK => ?_) ?_
        · rw [if_pos (by kernel_rfl)]
          refine wp_pushT (.tmp 38) (.tmp 47) rfl hT R9 (by kernel_rfl) (by kernel_rfl) HL.out ?_; intro v8 w8 hT8 hG8 hO8; have n8 := own_neT hO8 hne R.lt; replace R := Row.grownT R hG8 hne; replace k0 := R.cell 0; have hO9 := own_lie hO8 HV.out HSZ.out; replace hG := hG.trans (Gr.of_grown (F := fun c => Value.ownBlock (.slice a1 n1 c1) = some c) hG8 (fun c h => h)) HF.out; clear hG8 hO8; obtain ⟨n8', hn8⟩ : ∃ n, n = (outT ts i ++ [(i, max due now)]).length := ⟨_, rfl⟩; obtain ⟨a8, c8, e8⟩ := hT8.slice; rw [← hn8] at e8; clear hn8; subst e8
          refine hK.out _ _ k0 (fun _ => ?_)
          clear hK K
          try simp only [Act.put, List.getElem_toArray, List.getElem_cons_succ, List.getElem_cons_zero, List.setIfInBounds_toArray, List.set_cons_zero, List.set_cons_succ]
          refine wpAnyH_take (i := 15) (v := .pointer (some ⟨p, 0, none⟩)) rfl (by kernel_rfl) (by kernel_rfl) (by kernel_rfl) (fun _ _ _ h => h) (Or.inl ⟨by kernel_rfl, by intro w hS; go_simp⟩) k0 ?_
          simp only [Act.put, List.getElem_toArray, List.getElem_cons_succ, List.getElem_cons_zero, List.setIfInBounds_toArray, List.set_cons_zero, List.set_cons_succ]
          refine wpAnyH_take (i := 16) (v := .pointer (some ⟨p, 1, none⟩)) rfl (by kernel_rfl) (by kernel_rfl) (by kernel_rfl) (fun _ _ _ h => h) (Or.inl ⟨by kernel_rfl, by intro w hS; go_simp⟩) k0 ?_
          simp only [Act.put, List.getElem_toArray, List.getElem_cons_succ, List.getElem_cons_zero, List.setIfInBounds_toArray, List.set_cons_zero, List.set_cons_succ]
          refine wpAnyH_ready (rs := [17]) (by kernel_rfl) (by simp) ?_
          refine AllReadyH.cons rfl (fun K hK => ?_) ?_
          · rw [if_pos (by kernel_rfl)]
            refine wp_storeTL R (.tmp 50) (.tmp 48) rfl 1 (by kernel_rfl) a8 n8' c8 (by kernel_rfl) _ rfl _ rfl ?_; intro w9 R10 t9; have hT9 := hT8.turned t9 n8; replace k0 := R10.cell 0; replace hG := hG.trans (Gr.ofTurned t9) (fun x hx => .inl (.inl hx))
            refine hK.out _ _ k0 (fun _ => ?_)
            clear hK K
            try simp only [Act.put, List.getElem_toArray, List.getElem_cons_succ, List.getElem_cons_zero, List.setIfInBounds_toArray, List.set_cons_zero, List.set_cons_succ]
            refine wpAnyH_done (by kernel_rfl) ?_ _
            refine NoPanic.normal ?_
            go_wp2
            go_ret
            exact ⟨rfl, _, ⟨R10, hT9, n8, HNN.out⟩, hG, hO9⟩
          exact AllReadyH.nil
        exact AllReadyH.nil
      exact AllReadyH.nil
    exact AllReadyH.nil
  | false =>
    have g3 : decide ((400 : Int) ≤ (n : Int)) = false := by have := HR.out; simp at this; simp; omega
    go_enter Try.func14, Try.ntmps14
    go_upto_region 7 with (first
      | (go_at_call 19; refine (CD _ h).mono ?_; rintro e w5 ⟨rfl, hb5⟩; replace h := h.below hb5; have kk := k1 _ h; rw [hv] at kk; replace hG := hG.trans (Gr.of_below (F := fun _ => False) hb5) (fun _ h => h.elim); have HS1 := hidT hb5.size)
      | (go_at_call 16; clear kk; refine (CC _ h).mono ?_; rintro e w6 ⟨rfl, v1, h6, hG6, hV6⟩))
    replace hG := hG.trans hG6 (fun x hx => .inl (.inl hx))
    have HSZ : Hid (w.heap.size ≤ _) := hidT (Nat.le_trans HS1.out hG6.size)
    have HV : Hid (v1 = v ∨ Gt w.heap.size v1) := hidT (by
      rcases hV6 with e | e
      · exact .inl e
      · exact .inr (fun k hk => Nat.le_trans HS1.out (e k hk)))
    clear hV6 hG6
    obtain ⟨R, hT, hne, hn6⟩ := h6
    obtain ⟨n1, hn1⟩ : ∃ n, n = (outT ts i).length := ⟨_, rfl⟩
    obtain ⟨a1, c1, e1⟩ := hT.slice
    rw [← hn1] at e1
    subst e1
    have HL : Hid ((outT ts i).length ≤ 100000) := hidT (by omega)
    have HF : Hid (∀ x, Value.ownBlock (.slice a1 n1 c1) = some x → (x = p ∨ v.ownBlock = some x) ∨ w.heap.size ≤ x) := hidT (fun x hx => by
      rcases HV.out with e | e
      · exact .inl (.inr (by rw [← e]; exact hx))
      · exact .inr (e x hx))
    have k0 := R.cell 0
    replace k0 : World.cell? _ ⟨p, 0, none⟩ = some (.int .i64 now) := k0
    clear hn1 hn6 h CD CC k1
    refine wp_region_noPanic ?_
    refine wp_region_held_drew (S := fun W => W.cell? ⟨p, 0, none⟩ = some (.int .i64 now)) (by kernel_rfl) k0 (fun _ => ?_)
    refine wpAnyH_take (i := 0) (v := .pointer (some ⟨p, 0, none⟩)) rfl (by kernel_rfl) (by kernel_rfl) (by kernel_rfl) (fun _ _ _ h => h) (Or.inl ⟨by kernel_rfl, by intro w hS; go_simp⟩) k0 ?_
    simp only [Act.put, List.getElem_toArray, List.getElem_cons_succ, List.getElem_cons_zero, List.setIfInBounds_toArray, List.set_cons_zero, List.set_cons_succ]
    refine wpAnyH_take (i := 1) (v := .pointer (some ⟨p, 0, none⟩)) rfl (by kernel_rfl) (by kernel_rfl) (by kernel_rfl) (fun _ _ _ h => h) (Or.inl ⟨by kernel_rfl, by intro w hS; go_simp⟩) k0 ?_
    simp only [Act.put, List.getElem_toArray, List.getElem_cons_succ, List.getElem_cons_zero, List.setIfInBounds_toArray, List.set_cons_zero, List.set_cons_succ]
    refine wpAnyH_take (i := 2) (v := .pointer (some ⟨p, 0, none⟩)) rfl (by kernel_rfl) (by kernel_rfl) (by kernel_rfl) (fun _ _ _ h => h) (Or.inl ⟨by kernel_rfl, by intro w hS; go_simp⟩) k0 ?_
    simp only [Act.put, List.getElem_toArray, List.getElem_cons_succ, List.getElem_cons_zero, List.setIfInBounds_toArray, List.set_cons_zero, List.set_cons_succ]
    refine wpAnyH_take (i := 3) (v := .pointer (some ⟨p, 1, none⟩)) rfl (by kernel_rfl) (by kernel_rfl) (by kernel_rfl) (fun _ _ _ h => h) (Or.inl ⟨by kernel_rfl, by intro w hS; go_simp⟩) k0 ?_
    simp only [Act.put, List.getElem_toArray, List.getElem_cons_succ, List.getElem_cons_zero, List.setIfInBounds_toArray, List.set_cons_zero, List.set_cons_succ]
    refine wpAnyH_take (i := 5) (v := .int .i64 i) rfl (by kernel_rfl) (by kernel_rfl) (by kernel_rfl) (fun _ _ _ h => h) (Or.inl ⟨by kernel_rfl, by intro w hS; go_simp⟩) k0 ?_
    simp only [Act.put, List.getElem_toArray, List.getElem_cons_succ, List.getElem_cons_zero, List.setIfInBounds_toArray, List.set_cons_zero, List.set_cons_succ]
    refine wpAnyH_take (i := 6) (v := .int .i64 due) rfl (by kernel_rfl) (by kernel_rfl) (by kernel_rfl) (fun _ _ _ h => h) (Or.inl ⟨by kernel_rfl, by intro w hS; go_simp⟩) k0 ?_
    simp only [Act.put, List.getElem_toArray, List.getElem_cons_succ, List.getElem_cons_zero, List.setIfInBounds_toArray, List.set_cons_zero, List.set_cons_succ]
    refine wpAnyH_take (i := 7) (v := .pointer (some ⟨p, 0, none⟩)) rfl (by kernel_rfl) (by kernel_rfl) (by kernel_rfl) (fun _ _ _ h => h) (Or.inl ⟨by kernel_rfl, by intro w hS; go_simp⟩) k0 ?_
    simp only [Act.put, List.getElem_toArray, List.getElem_cons_succ, List.getElem_cons_zero, List.setIfInBounds_toArray, List.set_cons_zero, List.set_cons_succ]
    refine wpAnyH_take (i := 8) (v := .pointer (some ⟨p, 0, none⟩)) rfl (by kernel_rfl) (by kernel_rfl) (by kernel_rfl) (fun _ _ _ h => h) (Or.inl ⟨by kernel_rfl, by intro w hS; go_simp⟩) k0 ?_
    simp only [Act.put, List.getElem_toArray, List.getElem_cons_succ, List.getElem_cons_zero, List.setIfInBounds_toArray, List.set_cons_zero, List.set_cons_succ]
    refine wpAnyH_take (i := 9) (v := .pointer (some ⟨p, 0, none⟩)) rfl (by kernel_rfl) (by kernel_rfl) (by kernel_rfl) (fun _ _ _ h => h) (Or.inl ⟨by kernel_rfl, by intro w hS; go_simp⟩) k0 ?_
    simp only [Act.put, List.getElem_toArray, List.getElem_cons_succ, List.getElem_cons_zero, List.setIfInBounds_toArray, List.set_cons_zero, List.set_cons_succ]
    refine wpAnyH_take (i := 10) (v := .int .i64 now) rfl (by kernel_rfl) (by kernel_rfl) (by kernel_rfl) (fun _ _ _ h => h) (Or.inl ⟨by kernel_rfl, by intro w hS; have hc := hS; go_simp⟩) k0 ?_
    simp only [Act.put, List.getElem_toArray, List.getElem_cons_succ, List.getElem_cons_zero, List.setIfInBounds_toArray, List.set_cons_zero, List.set_cons_succ]
    refine wpAnyH_take (i := 11) (v := .int .i64 (max due now)) rfl (by kernel_rfl) (by kernel_rfl) (by kernel_rfl) (fun _ _ _ h => h) (yields_max (.tmp 40) (.tmp 44) _ rfl (by kernel_rfl) _ _ (by kernel_rfl) (by kernel_rfl)) k0 ?_
    simp only [Act.put, List.getElem_toArray, List.getElem_cons_succ, List.getElem_cons_zero, List.setIfInBounds_toArray, List.set_cons_zero, List.set_cons_succ]
    refine wpAnyH_take (i := 12) (v := .agg (tmc (i, max due now))) rfl (by kernel_rfl) (by kernel_rfl) (by kernel_rfl) (fun _ _ _ h => h) (yields_build2 (.tmp 39) (.tmp 45) rfl (by kernel_rfl) i (max due now) (by kernel_rfl) (by kernel_rfl)) k0 ?_
    simp only [Act.put, List.getElem_toArray, List.getElem_cons_succ, List.getElem_cons_zero, List.setIfInBounds_toArray, List.set_cons_zero, List.set_cons_succ]
    refine wpAnyH_ready (rs := [4, 13]) (by kernel_rfl) (by simp) ?_
    refine AllReadyH.cons rfl (fun K hK => ?_) ?_
    · rw [if_pos (by kernel_rfl)]
      refine wp_loadTL R (.tmp 37) rfl 1 (by kernel_rfl) (.slice a1 n1 c1) rfl ?_
      refine hK.out _ _ k0 (fun _ => ?_)
      clear hK K
      try simp only [Act.put, List.getElem_toArray, List.getElem_cons_succ, List.getElem_cons_zero, List.setIfInBounds_toArray, List.set_cons_zero, List.set_cons_succ]
      refine wpAnyH_ready (rs := [13]) (by kernel_rfl) (by simp) ?_
      refine AllReadyH.cons rfl (fun K hK => ?_) ?_
      · rw [if_pos (by kernel_rfl)]
        refine wp_buildT1 (.tmp 46) rfl (i, max due now) (by kernel_rfl) ?_; intro b9 w7 g9 R9 hb7; (first | replace hb7 := below_undrT hb7 | skip); replace R := Row.below R hb7; replace hT := hT.below hb7; replace k0 := R.cell 0; replace hG := hG.trans (Gr.of_below (F := fun _ => False) hb7) (fun _ h => h.elim); replace HSZ := hidT (Nat.le_trans HSZ.out hb7.size)
        refine hK.out _ _ k0 (fun _ => ?_)
        clear hK K
        try simp only [Act.put, List.getElem_toArray, List.getElem_cons_succ, List.getElem_cons_zero, List.setIfInBounds_toArray, List.set_cons_zero, List.set_cons_succ]
        refine wpAnyH_ready (rs := [14]) (by kernel_rfl) (by simp) ?_
        refine AllReadyH.cons rfl (fun K hK => ?_) ?_
        · rw [if_pos (by kernel_rfl)]
          refine wp_pushT (.tmp 38) (.tmp 47) rfl hT R9 (by kernel_rfl) (by kernel_rfl) HL.out ?_; intro v8 w8 hT8 hG8 hO8; have n8 := own_neT hO8 hne R.lt; replace R := Row.grownT R hG8 hne; replace k0 := R.cell 0; have hO9 := own_lie hO8 HV.out HSZ.out; replace hG := hG.trans (Gr.of_grown (F := fun c => Value.ownBlock (.slice a1 n1 c1) = some c) hG8 (fun c h => h)) HF.out; clear hG8 hO8; obtain ⟨n8', hn8⟩ : ∃ n, n = (outT ts i ++ [(i, max due now)]).length := ⟨_, rfl⟩; obtain ⟨a8, c8, e8⟩ := hT8.slice; rw [← hn8] at e8; clear hn8; subst e8
          refine hK.out _ _ k0 (fun _ => ?_)
          clear hK K
          try simp only [Act.put, List.getElem_toArray, List.getElem_cons_succ, List.getElem_cons_zero, List.setIfInBounds_toArray, List.set_cons_zero, List.set_cons_succ]
          refine wpAnyH_take (i := 15) (v := .pointer (some ⟨p, 0, none⟩)) rfl (by kernel_rfl) (by kernel_rfl) (by kernel_rfl) (fun _ _ _ h => h) (Or.inl ⟨by kernel_rfl, by intro w hS; go_simp⟩) k0 ?_
          simp only [Act.put, List.getElem_toArray, List.getElem_cons_succ, List.getElem_cons_zero, List.setIfInBounds_toArray, List.set_cons_zero, List.set_cons_succ]
          refine wpAnyH_take (i := 16) (v := .pointer (some ⟨p, 1, none⟩)) rfl (by kernel_rfl) (by kernel_rfl) (by kernel_rfl) (fun _ _ _ h => h) (Or.inl ⟨by kernel_rfl, by intro w hS; go_simp⟩) k0 ?_
          simp only [Act.put, List.getElem_toArray, List.getElem_cons_succ, List.getElem_cons_zero, List.setIfInBounds_toArray, List.set_cons_zero, List.set_cons_succ]
          refine wpAnyH_ready (rs := [17]) (by kernel_rfl) (by simp) ?_
          refine AllReadyH.cons rfl (fun K hK => ?_) ?_
          · rw [if_pos (by kernel_rfl)]
            refine wp_storeTL R (.tmp 50) (.tmp 48) rfl 1 (by kernel_rfl) a8 n8' c8 (by kernel_rfl) _ rfl _ rfl ?_; intro w9 R10 t9; have hT9 := hT8.turned t9 n8; replace k0 := R10.cell 0; replace hG := hG.trans (Gr.ofTurned t9) (fun x hx => .inl (.inl hx))
            refine hK.out _ _ k0 (fun _ => ?_)
            clear hK K
            try simp only [Act.put, List.getElem_toArray, List.getElem_cons_succ, List.getElem_cons_zero, List.setIfInBounds_toArray, List.set_cons_zero, List.set_cons_succ]
            refine wpAnyH_done (by kernel_rfl) ?_ _
            refine NoPanic.normal ?_
            go_wp2
            go_ret
            exact ⟨rfl, _, ⟨R10, hT9, n8, HNN.out⟩, hG, hO9⟩
          exact AllReadyH.nil
        exact AllReadyH.nil
      exact AllReadyH.nil
    refine AllReadyH.cons rfl (fun K hK => ?_) ?_
    · rw [if_pos (by kernel_rfl)]
      refine wp_buildT1 (.tmp 46) rfl (i, max due now) (by kernel_rfl) ?_; intro b9 w7 g9 R9 hb7; (first | replace hb7 := below_undrT hb7 | skip); replace R := Row.below R hb7; replace hT := hT.below hb7; replace k0 := R.cell 0; replace hG := hG.trans (Gr.of_below (F := fun _ => False) hb7) (fun _ h => h.elim); replace HSZ := hidT (Nat.le_trans HSZ.out hb7.size)
      refine hK.out _ _ k0 (fun _ => ?_)
      clear hK K
      try simp only [Act.put, List.getElem_toArray, List.getElem_cons_succ, List.getElem_cons_zero, List.setIfInBounds_toArray, List.set_cons_zero, List.set_cons_succ]
      refine wpAnyH_ready (rs := [4]) (by kernel_rfl) (by simp) ?_
      refine AllReadyH.cons rfl (fun K hK => ?_) ?_
      · rw [if_pos (by kernel_rfl)]
        refine wp_loadTL R (.tmp 37) rfl 1 (by kernel_rfl) (.slice a1 n1 c1) rfl ?_
        refine hK.out _ _ k0 (fun _ => ?_)
        clear hK K
        try simp only [Act.put, List.getElem_toArray, List.getElem_cons_succ, List.getElem_cons_zero, List.setIfInBounds_toArray, List.set_cons_zero, List.set_cons_succ]
        refine wpAnyH_ready (rs := [14]) (by kernel_rfl) (by simp) ?_
        refine AllReadyH.cons rfl (fun K hK => ?_) ?_
        · rw [if_pos (by kernel_rfl)]
          refine wp_pushT (.tmp 38) (.tmp 47) rfl hT R9 (by kernel_rfl) (by kernel_rfl) HL.out ?_; intro v8 w8 hT8 hG8 hO8; have n8 := own_neT hO8 hne R.lt; replace R := Row.grownT R hG8 hne; replace k0 := R.cell 0; have hO9 := own_lie hO8 HV.out HSZ.out; replace hG := hG.trans (Gr.of_grown (F := fun c => Value.ownBlock (.slice a1 n1 c1) = some c) hG8 (fun c h => h)) HF.out; clear hG8 hO8; obtain ⟨n8', hn8⟩ : ∃ n, n = (outT ts i ++ [(i, max due now)]).length := ⟨_, rfl⟩; obtain ⟨a8, c8, e8⟩ := hT8.slice; rw [← hn8] at e8; clear hn8; subst e8
          refine hK.out _ _ k0 (fun _ => ?_)
          clear hK K
          try simp only [Act.put, List.getElem_toArray, List.getElem_cons_succ, List.getElem_cons_zero, List.setIfInBounds_toArray, List.set_cons_zero, List.set_cons_succ]
          refine wpAnyH_take (i := 15) (v := .pointer (some ⟨p, 0, none⟩)) rfl (by kernel_rfl) (by kernel_rfl) (by kernel_rfl) (fun _ _ _ h => h) (Or.inl ⟨by kernel_rfl, by intro w hS; go_simp⟩) k0 ?_
          simp only [Act.put, List.getElem_toArray, List.getElem_cons_succ, List.getElem_cons_zero, List.setIfInBounds_toArray, List.set_cons_zero, List.set_cons_succ]
          refine wpAnyH_take (i := 16) (v := .pointer (some ⟨p, 1, none⟩)) rfl (by kernel_rfl) (by kernel_rfl) (by kernel_rfl) (fun _ _ _ h => h) (Or.inl ⟨by kernel_rfl, by intro w hS; go_simp⟩) k0 ?_
          simp only [Act.put, List.getElem_toArray, List.getElem_cons_succ, List.getElem_cons_zero, List.setIfInBounds_toArray, List.set_cons_zero, List.set_cons_succ]
          refine wpAnyH_ready (rs := [17]) (by kernel_rfl) (by simp) ?_
          refine AllReadyH.cons rfl (fun K hK => ?_) ?_
          · rw [if_pos (by kernel_rfl)]
            refine wp_storeTL R (.tmp 50) (.tmp 48) rfl 1 (by kernel_rfl) a8 n8' c8 (by kernel_rfl) _ rfl _ rfl ?_; intro w9 R10 t9; have hT9 := hT8.turned t9 n8; replace k0 := R10.cell 0; replace hG := hG.trans (Gr.ofTurned t9) (fun x hx => .inl (.inl hx))
            refine hK.out _ _ k0 (fun _ => ?_)
            clear hK K
            try simp only [Act.put, List.getElem_toArray, List.getElem_cons_succ, List.getElem_cons_zero, List.setIfInBounds_toArray, List.set_cons_zero, List.set_cons_succ]
            refine wpAnyH_done (by kernel_rfl) ?_ _
            refine NoPanic.normal ?_
            go_wp2
            go_ret
            exact ⟨rfl, _, ⟨R10, hT9, n8, HNN.out⟩, hG, hO9⟩
          exact AllReadyH.nil
        exact AllReadyH.nil
      exact AllReadyH.nil
    exact AllReadyH.nil
end Go.Proofs.Ytphijplgnffoiaa
