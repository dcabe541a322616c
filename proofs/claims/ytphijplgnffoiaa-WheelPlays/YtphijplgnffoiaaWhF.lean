/-
  A timer is put into its list.
-/
import Derived.Test.YtphijplgnffoiaaWhE
namespace Go.Proofs.Ytphijplgnffoiaa
open Go.ChangeShapes Go.WideShapes Go.ChangeAt Go.RowKit Go.Maps
set_option linter.unusedSimpArgs false
set_option linter.unusedVariables false

theorem row_cell {w : World} {b : Nat} {t : TypeId} {cs : Array Value} (h : w.heap[b]? = some (.cells cs t (0, 0))) (i : Nat) : w.cell? ⟨b, i, none⟩ = cs[i]? := by simp [World.cell?, h]
theorem row_free {w : World} {b : Nat} {t : TypeId} {cs : Array Value} (h : w.heap[b]? = some (.cells cs t (0, 0))) (i : Nat) : w.frozen? ⟨b, i, none⟩ = false := by simp [World.frozen?, h]
theorem grown_undrew {w w2 : World} {r : Option Nat} (h : w.drew.grownBy w2 r) : w.grownBy w2 r := ⟨h.os, h.tape, h.output, h.size, h.block⟩
theorem run_app {w : World} {v : Value} {l : List Int} (hown : Own w v l) (c : Nat) (i : Int) (hc : w.cell? ⟨c, 0, none⟩ = some (.int .i64 i)) (hl : l.length ≤ 1000000000) (ty : TypeId) :
    ∃ v' w', (Builtin.append_ #[22, 22] ty #[v, .slice (some ⟨c, 0, none⟩) 1 1]).run Try.prog w = .ok v' w' ∧ Own w' v' (l ++ [i]) ∧ w.grownBy w' v.ownBlock ∧ (v'.ownBlock = v.ownBlock ∨ v'.ownBlock = some w.heap.size) ∧ ∃ a k, v' = .slice a (l.length + 1) k := by
  obtain ⟨i0, hi0, hz0, hz1, hz2⟩ := info_parts info_i
  obtain ⟨v', w', h1, h2, h3, h4, h5⟩ := run_append_own_at (P := Try.prog) w 0 22 ty 3 i0 (.int .i64 0) 1 8 Try.underlying22 hi0 hz0 hz1 hz2 rfl (by decide) v l.length (l.map (Value.int .i64)) hown ⟨c, 0, none⟩ 1 1 [.int .i64 i] rfl (fun j u hu => by
    match j, hu with
    | 0, hu =>
      have e : Value.int .i64 i = u := by simpa using hu
      rw [← e]; rw [Addr.add_lit]; exact hc) (by simp [Value.oneCell']) (by unfold maxLen; omega) (by omega) (Nat.zero_le _)
  refine ⟨v', w', h1, by show w'.ownsRow 0 3 1 v' (l ++ [i]).length ((l ++ [i]).map (Value.int .i64)); rw [List.length_append, List.map_append]; exact h2, h3, h5, ?_⟩
  rcases h2.2 with ⟨_, e⟩ | ⟨g, cap, cur, e, _⟩
  · omega
  · exact ⟨_, _, e⟩
theorem wp_app {o : Oper} {a : Act} {w : World} {K : Act → World → Prop} {Q : Exit → Act → World → Prop} (s x : Operand) (ho : o.op = .call { callee := .builtin .append, args := #[s, x], argTypes := #[22, 22] })
    {v : Value} {l : List Int} (hs : a.eval s = v) (hown : Own w v l) (c : Nat) (i : Int) (hx : a.eval x = .slice (some ⟨c, 0, none⟩) 1 1) (hc : w.cell? ⟨c, 0, none⟩ = some (.int .i64 i)) (hl : l.length ≤ 1000000000)
    (hr : ∀ a' k' w', Own w' (.slice a' (l.length + 1) k') (l ++ [i]) → w.grownBy w' v.ownBlock → ((Value.slice a' (l.length + 1) k').ownBlock = v.ownBlock ∨ (Value.slice a' (l.length + 1) k').ownBlock = some w.heap.size) → K (a.put o.dst (.slice a' (l.length + 1) k')) w') : o.wp Try.prog a w K Q := by
  obtain ⟨v', w', h1, h2, h3, h4, a', k', rfl⟩ := run_app hown c i hc hl o.type
  unfold Oper.wp execOp
  simp only [ho, resolve, invoke, builtin, Sem.run_bind, Sem.run_pure, Result.andThen_ok, List.map_toArray, List.map_cons, List.map_nil, hs, hx, h1]
  exact hr a' k' w' h2 h3 h4
theorem wpList_app {ops : Array Oper} {rest : List Oper} {o : Oper} {a : Act} {w : World} {Q : Exit → Act → World → Prop} (hgd : o.guard = none) (s x : Operand) (ho : o.op = .call { callee := .builtin .append, args := #[s, x], argTypes := #[22, 22] })
    {v : Value} {l : List Int} (hs : a.eval s = v) (hown : Own w v l) (c : Nat) (i : Int) (hx : a.eval x = .slice (some ⟨c, 0, none⟩) 1 1) (hc : w.cell? ⟨c, 0, none⟩ = some (.int .i64 i)) (hl : l.length ≤ 1000000000)
    (hr : ∀ a' k' w', Own w' (.slice a' (l.length + 1) k') (l ++ [i]) → w.grownBy w' v.ownBlock → ((Value.slice a' (l.length + 1) k').ownBlock = v.ownBlock ∨ (Value.slice a' (l.length + 1) k').ownBlock = some w.heap.size) → wpList Try.prog ops Q rest (a.put o.dst (.slice a' (l.length + 1) k')) w') : wpList Try.prog ops Q (o :: rest) a w :=
  wpList_plain hgd fun K hK => wp_app s x ho hs hown c i hx hc hl (fun a' k' w' h1 h2 h3 => hK _ _ (hr a' k' w' h1 h2 h3))
theorem yields_idx {ops : Array Oper} {S : World → Prop} {o : Oper} {a : Act} (t : TypeId) (x y : Operand) (ho : o.op = .indexAddr t x y) (hw : Region.wanted o (yielded ops a.tmps) = true) (p i q : Value) (hx : a.eval x = p) (hy : a.eval y = i) (hrun : ∀ w : World, (Instr.indexAt t p i).run Try.prog w = .ok q w) : YieldsIf Try.prog ops S o q a :=
  .inl ⟨hw, fun w _ => by unfold execOp; simp only [ho, hx, hy, Sem.run_bind, hrun w, Result.andThen_ok, Sem.run_pure]⟩
set_option maxRecDepth 10000 in
set_option maxHeartbeats 4000000 in
theorem putIn_any {w : World} {b o : Nat} {t : TypeId} {cs : Array Value} {now : Nat} {bm : Nat} {D : DataW Unit} {vs : Nat → Value} {L : Nat → List Int} (h : WM w b t cs o (now : Int) (some bm) D vs L) (i : Int) (d : Nat) (hi : (Lit.int .i64 i).wf = true) (hd : at' D i (d : Int)) (hn : now ≤ 1099511627776) (hdd : d ≤ 1099511627776)
    (hlen : (L (pk now d)).length ≤ 1000000000) :
    Calls Try.prog 22 #[.pointer (some ⟨b, o, none⟩), .int .i64 i] w fun e w' => e = .returned (.tuple #[]) ∧ ∃ cs' vs', WM w' b t cs' o (now : Int) (some bm) D vs' (setL L (pk now d) (L (pk now d) ++ [i])) ∧ SameOut o cs cs' ∧ Gr (Fp b (some bm) vs) w w' ∧ ∀ c, Fp b (some bm) vs' c → Fp b (some bm) vs c ∨ w.heap.size ≤ c := by
  have hkey := keyOf_int_mk (P := Try.prog) (q := .i64) (a := i) Try.underlying3 hi
  have c0 : w.cell? ⟨b, o, none⟩ = some (.int .i64 (now : Int)) := (h.cell o).trans h.c0
  have c1 : w.cell? ⟨b, o + 1, none⟩ = some (.map (some bm)) := (h.cell _).trans h.c1
  have hl7 := lv_le d now hdd hn
  have ha64 := dg_lt d (lv d now)
  have hpk : pk now d = 64 * lv d now + dg d (lv d now) := rfl
  have CP := fun w h => place_any b o now d hn hdd w h
  generalize lv d now = l at *
  generalize dg d l = a at *
  rw [hpk] at hlen ⊢
  have hk : 64 * l + a < 448 := by omega
  have hI7 := fun w => idx7 b (o + 2) l (by omega) w
  have hI64 := fun w => idx64 b (o + 2 + 64 * l) a (by omega) w
  have HO : Hid (o + 2 + 64 * l + a = o + 2 + (64 * l + a)) := (by omega : o + 2 + 64 * l + a = o + 2 + (64 * l + a))
  obtain ⟨n, hn', hm⟩ := h.theMap
  have hGr : Gr (Fp b (some bm) vs) w (w.alloc (.cells #[.int .i64 i] 3)) := Gr.of_below ((Below.refl _ _).alloc (Nat.le_refl _) _)
  clear hpk
  go_enter Try.func22, Try.ntmps22
  go_wp2_with (first
    | (at_lookup; refine wpList_lookup_own_int _ rfl _ _ 29 rfl 3 3 .i64 lawI Try.underlying29 Try.underlying3 (zeroI _) bm n D rfl hm _ _ rfl hkey ?_; intro c hat hwc; obtain rfl := at_num hd hat; clear hat hwc)
    | (go_at_call 28; refine (CP _ c0).mono ?_; rintro e w' ⟨rfl, hw⟩; rw [hw]; clear hw w'))
  clear c0 c1
  refine wp_region_noPanic ?_
  refine wp_region_held_drew (S := fun _ => True) (by kernel_rfl) trivial (fun _ => ?_)
  refine wpAnyH_take (i := 0) (v := .pointer (some ⟨b, o, none⟩)) rfl (by kernel_rfl) (by kernel_rfl) (by kernel_rfl) (fun _ _ _ h => h) (Or.inl ⟨by kernel_rfl, by intro w hS; go_simp⟩) trivial ?_
  simp only [Act.put, List.getElem_toArray, List.getElem_cons_succ, List.getElem_cons_zero, List.setIfInBounds_toArray, List.set_cons_zero, List.set_cons_succ]
  refine wpAnyH_take (i := 1) (v := .int .i64 (l : Int)) rfl (by kernel_rfl) (by kernel_rfl) (by kernel_rfl) (fun _ _ _ h => h) (Or.inl ⟨by kernel_rfl, by intro w hS; go_simp⟩) trivial ?_
  simp only [Act.put, List.getElem_toArray, List.getElem_cons_succ, List.getElem_cons_zero, List.setIfInBounds_toArray, List.set_cons_zero, List.set_cons_succ]
  refine wpAnyH_take (i := 2) (v := .int .i64 (a : Int)) rfl (by kernel_rfl) (by kernel_rfl) (by kernel_rfl) (fun _ _ _ h => h) (Or.inl ⟨by kernel_rfl, by intro w hS; go_simp⟩) trivial ?_
  simp only [Act.put, List.getElem_toArray, List.getElem_cons_succ, List.getElem_cons_zero, List.setIfInBounds_toArray, List.set_cons_zero, List.set_cons_succ]
  refine wpAnyH_take (i := 3) (v := .pointer (some ⟨b, o, none⟩)) rfl (by kernel_rfl) (by kernel_rfl) (by kernel_rfl) (fun _ _ _ h => h) (Or.inl ⟨by kernel_rfl, by intro w hS; go_simp⟩) trivial ?_
  simp only [Act.put, List.getElem_toArray, List.getElem_cons_succ, List.getElem_cons_zero, List.setIfInBounds_toArray, List.set_cons_zero, List.set_cons_succ]
  refine wpAnyH_take (i := 4) (v := .int .i64 (l : Int)) rfl (by kernel_rfl) (by kernel_rfl) (by kernel_rfl) (fun _ _ _ h => h) (Or.inl ⟨by kernel_rfl, by intro w hS; go_simp⟩) trivial ?_
  simp only [Act.put, List.getElem_toArray, List.getElem_cons_succ, List.getElem_cons_zero, List.setIfInBounds_toArray, List.set_cons_zero, List.set_cons_succ]
  refine wpAnyH_take (i := 5) (v := .int .i64 (a : Int)) rfl (by kernel_rfl) (by kernel_rfl) (by kernel_rfl) (fun _ _ _ h => h) (Or.inl ⟨by kernel_rfl, by intro w hS; go_simp⟩) trivial ?_
  simp only [Act.put, List.getElem_toArray, List.getElem_cons_succ, List.getElem_cons_zero, List.setIfInBounds_toArray, List.set_cons_zero, List.set_cons_succ]
  refine wpAnyH_take (i := 6) (v := .pointer (some ⟨b, o, none⟩)) rfl (by kernel_rfl) (by kernel_rfl) (by kernel_rfl) (fun _ _ _ h => h) (Or.inl ⟨by kernel_rfl, by intro w hS; go_simp⟩) trivial ?_
  simp only [Act.put, List.getElem_toArray, List.getElem_cons_succ, List.getElem_cons_zero, List.setIfInBounds_toArray, List.set_cons_zero, List.set_cons_succ]
  refine wpAnyH_take (i := 7) (v := .pointer (some ⟨b, o + 2, none⟩)) rfl (by kernel_rfl) (by kernel_rfl) (by kernel_rfl) (fun _ _ _ h => h) (Or.inl ⟨by kernel_rfl, by intro w hS; go_simp⟩) trivial ?_
  simp only [Act.put, List.getElem_toArray, List.getElem_cons_succ, List.getElem_cons_zero, List.setIfInBounds_toArray, List.set_cons_zero, List.set_cons_succ]
  refine wpAnyH_take (i := 8) (v := .pointer (some ⟨b, o + 2 + 64 * l, none⟩)) rfl (by kernel_rfl) (by kernel_rfl) (by kernel_rfl) (fun _ _ _ h => h) (yields_idx 49 (.tmp 24) (.tmp 21) rfl (by kernel_rfl) _ _ _ (by kernel_rfl) (by kernel_rfl) hI7) trivial ?_
  simp only [Act.put, List.getElem_toArray, List.getElem_cons_succ, List.getElem_cons_zero, List.setIfInBounds_toArray, List.set_cons_zero, List.set_cons_succ]
  refine wpAnyH_take (i := 9) (v := .pointer (some ⟨b, o + 2 + 64 * l + a, none⟩)) rfl (by kernel_rfl) (by kernel_rfl) (by kernel_rfl) (fun _ _ _ h => h) (yields_idx 48 (.tmp 25) (.tmp 22) rfl (by kernel_rfl) _ _ _ (by kernel_rfl) (by kernel_rfl) hI64) trivial ?_
  simp only [Act.put, List.getElem_toArray, List.getElem_cons_succ, List.getElem_cons_zero, List.setIfInBounds_toArray, List.set_cons_zero, List.set_cons_succ]
  refine wpAnyH_take (i := 11) (v := .int .i64 i) rfl (by kernel_rfl) (by kernel_rfl) (by kernel_rfl) (fun _ _ _ h => h) (Or.inl ⟨by kernel_rfl, by intro w hS; go_simp⟩) trivial ?_
  simp only [Act.put, List.getElem_toArray, List.getElem_cons_succ, List.getElem_cons_zero, List.setIfInBounds_toArray, List.set_cons_zero, List.set_cons_succ]
  refine wpAnyH_take (i := 14) (v := .pointer (some ⟨b, o, none⟩)) rfl (by kernel_rfl) (by kernel_rfl) (by kernel_rfl) (fun _ _ _ h => h) (Or.inl ⟨by kernel_rfl, by intro w hS; go_simp⟩) trivial ?_
  simp only [Act.put, List.getElem_toArray, List.getElem_cons_succ, List.getElem_cons_zero, List.setIfInBounds_toArray, List.set_cons_zero, List.set_cons_succ]
  refine wpAnyH_take (i := 15) (v := .pointer (some ⟨b, o + 2, none⟩)) rfl (by kernel_rfl) (by kernel_rfl) (by kernel_rfl) (fun _ _ _ h => h) (Or.inl ⟨by kernel_rfl, by intro w hS; go_simp⟩) trivial ?_
  simp only [Act.put, List.getElem_toArray, List.getElem_cons_succ, List.getElem_cons_zero, List.setIfInBounds_toArray, List.set_cons_zero, List.set_cons_succ]
  refine wpAnyH_take (i := 16) (v := .pointer (some ⟨b, o + 2 + 64 * l, none⟩)) rfl (by kernel_rfl) (by kernel_rfl) (by kernel_rfl) (fun _ _ _ h => h) (yields_idx 49 (.tmp 32) (.tmp 18) rfl (by kernel_rfl) _ _ _ (by kernel_rfl) (by kernel_rfl) hI7) trivial ?_
  simp only [Act.put, List.getElem_toArray, List.getElem_cons_succ, List.getElem_cons_zero, List.setIfInBounds_toArray, List.set_cons_zero, List.set_cons_succ]
  refine wpAnyH_ready (rs := [10, 12]) (by kernel_rfl) (by simp) ?_
  refine AllReadyH.cons rfl (fun K hK => ?_) ?_
  · rw [if_pos (by kernel_rfl)]
    have hc := (h.cell (o + 2 + (64 * l + a))).trans (h.cl _ hk); rw [← HO.out] at hc
    (unfold Oper.wp execOp; go_simp); clear hc
    refine hK.out _ _ trivial (fun _ => ?_)
    clear hK K
    try simp only [Act.put, List.getElem_toArray, List.getElem_cons_succ, List.getElem_cons_zero, List.setIfInBounds_toArray, List.set_cons_zero, List.set_cons_succ]
    refine wpAnyH_ready (rs := [12]) (by kernel_rfl) (by simp) ?_
    refine AllReadyH.cons rfl (fun K hK => ?_) ?_
    · rw [if_pos (by kernel_rfl)]
      (unfold Oper.wp execOp; go_simp); replace h := h.alloc (.cells #[.int .i64 i] 3); have h29 : World.cell? _ ⟨_, 0, none⟩ = some (.int .i64 i) := World.cell?_alloc_mark w #[.int .i64 i] 3 (0, 0) 0
      refine hK.out _ _ trivial (fun _ => ?_)
      clear hK K
      try simp only [Act.put, List.getElem_toArray, List.getElem_cons_succ, List.getElem_cons_zero, List.setIfInBounds_toArray, List.set_cons_zero, List.set_cons_succ]
      refine wpAnyH_ready (rs := [13]) (by kernel_rfl) (by simp) ?_
      refine AllReadyH.cons rfl (fun K hK => ?_) ?_
      · rw [if_pos (by kernel_rfl)]
        refine wp_app (v := vs (64 * l + a)) (.tmp 27) (.tmp 29) rfl rfl (h.own _ hk) _ i rfl h29 hlen ?_; intro a' k' w2 ho2 hg2 hl2; clear h29; replace hg2 := grown_undrew hg2
        refine hK.out _ _ trivial (fun _ => ?_)
        clear hK K
        try simp only [Act.put, List.getElem_toArray, List.getElem_cons_succ, List.getElem_cons_zero, List.setIfInBounds_toArray, List.set_cons_zero, List.set_cons_succ]
        refine wpAnyH_take (i := 17) (v := .pointer (some ⟨b, o + 2 + 64 * l + a, none⟩)) rfl (by kernel_rfl) (by kernel_rfl) (by kernel_rfl) (fun _ _ _ h => h) (yields_idx 48 (.tmp 33) (.tmp 19) rfl (by kernel_rfl) _ _ _ (by kernel_rfl) (by kernel_rfl) hI64) trivial ?_
        simp only [Act.put, List.getElem_toArray, List.getElem_cons_succ, List.getElem_cons_zero, List.setIfInBounds_toArray, List.set_cons_zero, List.set_cons_succ]
        refine wpAnyH_ready (rs := [18]) (by kernel_rfl) (by simp) ?_
        refine AllReadyH.cons rfl (fun K hK => ?_) ?_
        · rw [if_pos (by kernel_rfl)]
          have hr2 := row_grown h.row hg2 (h.notb _ hk); have hc := (row_cell hr2 (o + 2 + (64 * l + a))).trans (h.cl _ hk); have hz := row_free hr2 (o + 2 + (64 * l + a)); rw [← HO.out] at hc hz
          (unfold Oper.wp execOp; go_simp); clear hc hz
          refine hK.out _ _ trivial (fun _ => ?_)
          clear hK K
          try simp only [Act.put, List.getElem_toArray, List.getElem_cons_succ, List.getElem_cons_zero, List.setIfInBounds_toArray, List.set_cons_zero, List.set_cons_succ]
          refine wpAnyH_done (by kernel_rfl) ?_ _
          refine NoPanic.normal ?_
          go_wp2
          go_end0
          have hq := h.turnL hk hg2 ho2 (fun e => absurd e (by simp)) (.inr (hl2.imp id (fun e => ⟨_, e, Nat.le_refl _⟩))) HO.out
          exact ⟨rfl, _, _, hq.1, hq.2.1, (hGr.trans hq.2.2.1 (fun x hx => .inl hx)), fun c hc => (hq.2.2.2 c hc).imp id (fun hh => Nat.le_trans hGr.size hh)⟩
        exact AllReadyH.nil
      exact AllReadyH.nil
    exact AllReadyH.nil
  refine AllReadyH.cons rfl (fun K hK => ?_) ?_
  · rw [if_pos (by kernel_rfl)]
    (unfold Oper.wp execOp; go_simp); replace h := h.alloc (.cells #[.int .i64 i] 3); have h29 : World.cell? _ ⟨_, 0, none⟩ = some (.int .i64 i) := World.cell?_alloc_mark w #[.int .i64 i] 3 (0, 0) 0
    refine hK.out _ _ trivial (fun _ => ?_)
    clear hK K
    try simp only [Act.put, List.getElem_toArray, List.getElem_cons_succ, List.getElem_cons_zero, List.setIfInBounds_toArray, List.set_cons_zero, List.set_cons_succ]
    refine wpAnyH_ready (rs := [10]) (by kernel_rfl) (by simp) ?_
    refine AllReadyH.cons rfl (fun K hK => ?_) ?_
    · rw [if_pos (by kernel_rfl)]
      have hc := (h.cell (o + 2 + (64 * l + a))).trans (h.cl _ hk); rw [← HO.out] at hc
      (unfold Oper.wp execOp; go_simp); clear hc
      refine hK.out _ _ trivial (fun _ => ?_)
      clear hK K
      try simp only [Act.put, List.getElem_toArray, List.getElem_cons_succ, List.getElem_cons_zero, List.setIfInBounds_toArray, List.set_cons_zero, List.set_cons_succ]
      refine wpAnyH_ready (rs := [13]) (by kernel_rfl) (by simp) ?_
      refine AllReadyH.cons rfl (fun K hK => ?_) ?_
      · rw [if_pos (by kernel_rfl)]
        refine wp_app (v := vs (64 * l + a)) (.tmp 27) (.tmp 29) rfl rfl (h.own _ hk) _ i rfl h29 hlen ?_; intro a' k' w2 ho2 hg2 hl2; clear h29; replace hg2 := grown_undrew hg2
        refine hK.out _ _ trivial (fun _ => ?_)
        clear hK K
        try simp only [Act.put, List.getElem_toArray, List.getElem_cons_succ, List.getElem_cons_zero, List.setIfInBounds_toArray, List.set_cons_zero, List.set_cons_succ]
        refine wpAnyH_take (i := 17) (v := .pointer (some ⟨b, o + 2 + 64 * l + a, none⟩)) rfl (by kernel_rfl) (by kernel_rfl) (by kernel_rfl) (fun _ _ _ h => h) (yields_idx 48 (.tmp 33) (.tmp 19) rfl (by kernel_rfl) _ _ _ (by kernel_rfl) (by kernel_rfl) hI64) trivial ?_
        simp only [Act.put, List.getElem_toArray, List.getElem_cons_succ, List.getElem_cons_zero, List.setIfInBounds_toArray, List.set_cons_zero, List.set_cons_succ]
        refine wpAnyH_ready (rs := [18]) (by kernel_rfl) (by simp) ?_
        refine AllReadyH.cons rfl (fun K hK => ?_) ?_
        · rw [if_pos (by kernel_rfl)]
          have hr2 := row_grown h.row hg2 (h.notb _ hk); have hc := (row_cell hr2 (o + 2 + (64 * l + a))).trans (h.cl _ hk); have hz := row_free hr2 (o + 2 + (64 * l + a)); rw [← HO.out] at hc hz
          (unfold Oper.wp execOp; go_simp); clear hc hz
          refine hK.out _ _ trivial (fun _ => ?_)
          clear hK K
          try simp only [Act.put, List.getElem_toArray, List.getElem_cons_succ, List.getElem_cons_zero, List.setIfInBounds_toArray, List.set_cons_zero, List.set_cons_succ]
          refine wpAnyH_done (by kernel_rfl) ?_ _
          refine NoPanic.normal ?_
          go_wp2
          go_end0
          have hq := h.turnL hk hg2 ho2 (fun e => absurd e (by simp)) (.inr (hl2.imp id (fun e => ⟨_, e, Nat.le_refl _⟩))) HO.out
          exact ⟨rfl, _, _, hq.1, hq.2.1, (hGr.trans hq.2.2.1 (fun x hx => .inl hx)), fun c hc => (hq.2.2.2 c hc).imp id (fun hh => Nat.le_trans hGr.size hh)⟩
        exact AllReadyH.nil
      exact AllReadyH.nil
    exact AllReadyH.nil
  exact AllReadyH.nil
end Go.Proofs.Ytphijplgnffoiaa
