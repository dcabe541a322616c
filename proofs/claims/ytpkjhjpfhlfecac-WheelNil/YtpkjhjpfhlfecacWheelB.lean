/-
  A wheel that New has made, and its first timer.
-/
import Derived.Deep.DeepFit
import Derived.Test.YtpkjhjpfhlfecacWheelA
namespace Go.Proofs.Ytpkjhjpfhlfecac
open Go.ChangeShapes Go.WideShapes Go.ChangeAt Go.RowKit Go.Maps
set_option linter.unusedSimpArgs false
set_option linter.unusedVariables false

theorem lawI : Keyed Try.prog 3 := int_keyed Try.underlying3
theorem zeroI (w : World) : (zeroValue 3).run Try.prog w = .ok (.int .i64 0) w := by kernel_rfl
theorem info_i : (Try.prog.info? 3).map (fun i => (i.zero, i.size, i.bytes)) = some (some (.int .i64 0), 1, 8) := by kernel_rfl
theorem wp_mapUpdate_own {H : Type} {P : Program} (w : World) {o : Oper} {a : Act} {K' : Act → World → Prop} {Q : Exit → Act → World → Prop}
    (m x v : Operand) (t : TypeId) (hop : o.op = Op.mapUpdate t m x v)
    (k e : TypeId) (K : Keyed P k) (ht : P.underlying t = some (.map k e)) (R : Value → Option (DataW H × List MemPlace)) (b n : Nat) (D : DataW H)
    (hm : a.eval m = .map (some b)) (hown : w.ownsMap P k R b n D) (hn : n < maxLen) (key val : Value) (kl : Lit) (hx : a.eval x = key) (hv : a.eval v = val) (hkey : keyOf P k key = some kl)
    (d : DataW H) (ps : List MemPlace) (hval : R val = some (d, ps))
    (hK : ∀ w', w'.ownsMap P k R b (n + 1) (D.put kl d) → w.grownBy w' (some b) → K' (a.put o.dst undef) w') : o.wp P a w K' Q := by
  obtain ⟨w', hrun, r1, r2⟩ := hown.update K ht hn hkey hval
  unfold Oper.wp
  simp [execOp, hop, hm, hx, hv, hrun, Result.andThen]
  exact hK w' r1 r2
theorem len_10 (w : World) : Calls Try.prog 73 #[.int .u64 10] w fun e w' => e = .returned (.int .i64 4) ∧ w' = w := by
  have C := fun w => len64_10 w
  go_enter Try.func73, Try.ntmps73
  go_wp2_with (go_at_call 87; go_fit (C _); rintro e w' ⟨rfl, rfl⟩)
  go_ret
  exact ⟨rfl, rfl⟩
theorem place_9 (b : Nat) (w : World) (c0 : w.cell? ⟨b, 0, none⟩ = some (.int .i64 3)) : Calls Try.prog 69 #[.pointer (some ⟨b, 0, none⟩), .int .i64 9] w fun e w' => e = .returned (.tuple #[.int .i64 0, .int .i64 9]) ∧ w' = w := by
  have C := fun w => len_10 w
  have C2 := fun w => digit_9 w
  have hx : bits .xor .i64 9 3 = 10 := by decide
  go_enter Try.func69, Try.ntmps69
  go_wp2_with (first
    | (go_at_call 73; go_fit (C _); rintro e w' ⟨rfl, rfl⟩)
    | (go_at_call 70; go_fit (C2 _); rintro e w' ⟨rfl, rfl⟩))
  go_ret2
  exact ⟨rfl, rfl⟩
theorem one_newI (w : World) (x : Value) (t : TypeId) : ∀ j u, [x][j]? = some u → (w.alloc (.cells #[x] t)).cell? ((⟨w.heap.size, 0, none⟩ : Addr).add j) = some u := by
  intro j u hu
  match j, hu with
  | 0, hu =>
    have e : x = u := by simpa using hu
    subst e
    rw [Addr.add_lit, Nat.zero_add]
    exact World.cell?_alloc_mark w #[x] t (0, 0) 0
theorem row_slice {w : World} {base : Nat} {e : TypeId} {size : Nat} {v : Value} {n : Nat} {xs : List Value} (h : w.ownsRow base e size v n xs) : ∃ a c, v = .slice a n c := by
  rcases h.2 with ⟨e, n0⟩ | ⟨b, cap, cur, hv, _⟩
  · exact ⟨none, 0, by rw [e, n0]⟩
  · exact ⟨_, _, hv⟩
theorem WRow.setL {w : World} {b n : Nat} {now : Int} {d : Value} {ls : Nat → Value} (h : WRow w b (wcs now d ls)) (k : Nat) (hk : k < 448) (hn : n = 2 + k) (v : Value) : WRow (w.setCell ⟨b, n, none⟩ v) b (wcs now d (updV ls k v)) := by
  subst hn; rw [← wcs_setList _ _ _ _ _ hk]; exact h.set
theorem owns_ne {w : World} {b bm n : Nat} {cs : Array Value} {D : DataW Unit} (h : WRow w b cs) (ho : w.ownsMap Try.prog 3 (plainElem Try.prog 3) bm n D) : bm ≠ b := by
  obtain ⟨es, clock, hb, _⟩ := ho
  rintro rfl
  unfold WRow at h
  rw [h] at hb
  simp at hb
theorem WRow.grown {w w' : World} {b : Nat} {cs : Array Value} {row : Option Nat} (h : WRow w b cs) (hg : w.drew.grownBy w' row) (hr : row = none) : WRow w' b cs := (hg.block b h.lt (by rw [hr]; simp)).trans h
theorem below_grown {B : Nat} {w0 w w' : World} {row : Option Nat} (h : Below B w0 w) (hle : B < w.heap.size) (hg : w.drew.grownBy w' row) (hr : row = none) : Below B w0 w' :=
  ⟨hg.os.trans h.os, hg.tape.trans h.tape, hg.output.trans h.output, Nat.le_trans h.size hg.size, fun k hk => (hg.block k (Nat.lt_trans hk hle) (by rw [hr]; simp)).trans (h.block k hk)⟩
theorem owns_grown {w w' : World} {b n : Nat} {D : DataW Unit} {row : Option Nat} (h : w.ownsMap Try.prog 3 (plainElem Try.prog 3) b n D) (hg : w.drew.grownBy w' row) (hr : row = none) : w'.ownsMap Try.prog 3 (plainElem Try.prog 3) b n D := h.drew.kept hg (by rw [hr]; simp)
set_option maxRecDepth 10000 in
set_option maxHeartbeats 4000000 in
theorem putIn_new {D : DataW Unit} {n : Nat} (b bm : Nat) (w : World) (hW : WRow w b (wcs 3 (.map (some bm)) nilL)) (hown : w.ownsMap Try.prog 3 (plainElem Try.prog 3) bm n D) (hD : D.atKey (.int .i64 1) (.lit (.int .i64 0)) = .lit (.int .i64 9)) :
    Calls Try.prog 53 #[.pointer (some ⟨b, 0, none⟩), .int .i64 1] w fun e w' => e = .returned (.tuple #[]) ∧ (∃ L, WRow w' b (wcs 3 (.map (some bm)) L)) ∧ w'.ownsMap Try.prog 3 (plainElem Try.prog 3) bm n D ∧ Below b w w' := by
  have hkey := keyOf_int_mk (P := Try.prog) (q := .i64) (a := 1) Try.underlying3 (by decide)
  have c0 : w.cell? ⟨b, 0, none⟩ = some (.int .i64 3) := (hW.cell 0).trans (wcs_now _ _ _)
  have c1 : w.cell? ⟨b, 1, none⟩ = some (.map (some bm)) := (hW.cell 1).trans (wcs_due _ _ _)
  have hlt := hW.lt
  have hB := Below.refl b w
  obtain ⟨i0, hi, hz0, hz1, hz2⟩ := info_parts info_i
  have CP := fun w h => place_9 b w h
  go_enter Try.func53, Try.ntmps53
  go_wp2_with (first
    | (at_lookup; refine wpList_lookup_own_int _ rfl _ _ 48 rfl 3 3 .i64 lawI Try.underlying48 Try.underlying3 (zeroI _) bm n D rfl hown _ _ rfl hkey ?_; intro c hat hwc; (obtain rfl : c = 9 := by rw [hD] at hat; injection hat with h1; injection h1 with _ h2; exact h2.symm); clear hat hwc)
    | (go_at_call 69; refine (CP _ c0).mono ?_; rintro e w' ⟨rfl, rfl⟩))
  refine wp_region_noPanic ?_
  refine wp_region_held_drew (S := fun _ => True) (by kernel_rfl) trivial (fun _ => ?_)
  refine wpAnyH_take (i := 0) (v := (.pointer (some ⟨b, 0, none⟩))) rfl (by kernel_rfl) (by kernel_rfl) (by kernel_rfl) (fun _ _ _ h => h) (Or.inl ⟨by kernel_rfl, by intro w hS; go_simp⟩) trivial ?_
  simp only [Act.put, List.getElem_toArray, List.getElem_cons_succ, List.getElem_cons_zero, List.setIfInBounds_toArray, List.set_cons_zero, List.set_cons_succ]
  refine wpAnyH_take (i := 1) (v := .int .i64 0) rfl (by kernel_rfl) (by kernel_rfl) (by kernel_rfl) (fun _ _ _ h => h) (Or.inl ⟨by kernel_rfl, by intro w hS; go_simp⟩) trivial ?_
  simp only [Act.put, List.getElem_toArray, List.getElem_cons_succ, List.getElem_cons_zero, List.setIfInBounds_toArray, List.set_cons_zero, List.set_cons_succ]
  refine wpAnyH_take (i := 2) (v := .int .i64 9) rfl (by kernel_rfl) (by kernel_rfl) (by kernel_rfl) (fun _ _ _ h => h) (Or.inl ⟨by kernel_rfl, by intro w hS; go_simp⟩) trivial ?_
  simp only [Act.put, List.getElem_toArray, List.getElem_cons_succ, List.getElem_cons_zero, List.setIfInBounds_toArray, List.set_cons_zero, List.set_cons_succ]
  refine wpAnyH_take (i := 3) (v := (.pointer (some ⟨b, 0, none⟩))) rfl (by kernel_rfl) (by kernel_rfl) (by kernel_rfl) (fun _ _ _ h => h) (Or.inl ⟨by kernel_rfl, by intro w hS; go_simp⟩) trivial ?_
  simp only [Act.put, List.getElem_toArray, List.getElem_cons_succ, List.getElem_cons_zero, List.setIfInBounds_toArray, List.set_cons_zero, List.set_cons_succ]
  refine wpAnyH_take (i := 4) (v := .int .i64 0) rfl (by kernel_rfl) (by kernel_rfl) (by kernel_rfl) (fun _ _ _ h => h) (Or.inl ⟨by kernel_rfl, by intro w hS; go_simp⟩) trivial ?_
  simp only [Act.put, List.getElem_toArray, List.getElem_cons_succ, List.getElem_cons_zero, List.setIfInBounds_toArray, List.set_cons_zero, List.set_cons_succ]
  refine wpAnyH_take (i := 5) (v := .int .i64 9) rfl (by kernel_rfl) (by kernel_rfl) (by kernel_rfl) (fun _ _ _ h => h) (Or.inl ⟨by kernel_rfl, by intro w hS; go_simp⟩) trivial ?_
  simp only [Act.put, List.getElem_toArray, List.getElem_cons_succ, List.getElem_cons_zero, List.setIfInBounds_toArray, List.set_cons_zero, List.set_cons_succ]
  refine wpAnyH_take (i := 6) (v := (.pointer (some ⟨b, 0, none⟩))) rfl (by kernel_rfl) (by kernel_rfl) (by kernel_rfl) (fun _ _ _ h => h) (Or.inl ⟨by kernel_rfl, by intro w hS; go_simp⟩) trivial ?_
  simp only [Act.put, List.getElem_toArray, List.getElem_cons_succ, List.getElem_cons_zero, List.setIfInBounds_toArray, List.set_cons_zero, List.set_cons_succ]
  refine wpAnyH_take (i := 7) (v := (.pointer (some ⟨b, 2, none⟩))) rfl (by kernel_rfl) (by kernel_rfl) (by kernel_rfl) (fun _ _ _ h => h) (Or.inl ⟨by kernel_rfl, by intro w hS; go_simp⟩) trivial ?_
  simp only [Act.put, List.getElem_toArray, List.getElem_cons_succ, List.getElem_cons_zero, List.setIfInBounds_toArray, List.set_cons_zero, List.set_cons_succ]
  refine wpAnyH_take (i := 8) (v := (.pointer (some ⟨b, 2, none⟩))) rfl (by kernel_rfl) (by kernel_rfl) (by kernel_rfl) (fun _ _ _ h => h) (Or.inl ⟨by kernel_rfl, by intro w hS; go_simp⟩) trivial ?_
  simp only [Act.put, List.getElem_toArray, List.getElem_cons_succ, List.getElem_cons_zero, List.setIfInBounds_toArray, List.set_cons_zero, List.set_cons_succ]
  refine wpAnyH_take (i := 9) (v := (.pointer (some ⟨b, 11, none⟩))) rfl (by kernel_rfl) (by kernel_rfl) (by kernel_rfl) (fun _ _ _ h => h) (Or.inl ⟨by kernel_rfl, by intro w hS; go_simp⟩) trivial ?_
  simp only [Act.put, List.getElem_toArray, List.getElem_cons_succ, List.getElem_cons_zero, List.setIfInBounds_toArray, List.set_cons_zero, List.set_cons_succ]
  refine wpAnyH_take (i := 11) (v := .int .i64 1) rfl (by kernel_rfl) (by kernel_rfl) (by kernel_rfl) (fun _ _ _ h => h) (Or.inl ⟨by kernel_rfl, by intro w hS; go_simp⟩) trivial ?_
  simp only [Act.put, List.getElem_toArray, List.getElem_cons_succ, List.getElem_cons_zero, List.setIfInBounds_toArray, List.set_cons_zero, List.set_cons_succ]
  refine wpAnyH_take (i := 14) (v := (.pointer (some ⟨b, 0, none⟩))) rfl (by kernel_rfl) (by kernel_rfl) (by kernel_rfl) (fun _ _ _ h => h) (Or.inl ⟨by kernel_rfl, by intro w hS; go_simp⟩) trivial ?_
  simp only [Act.put, List.getElem_toArray, List.getElem_cons_succ, List.getElem_cons_zero, List.setIfInBounds_toArray, List.set_cons_zero, List.set_cons_succ]
  refine wpAnyH_take (i := 15) (v := (.pointer (some ⟨b, 2, none⟩))) rfl (by kernel_rfl) (by kernel_rfl) (by kernel_rfl) (fun _ _ _ h => h) (Or.inl ⟨by kernel_rfl, by intro w hS; go_simp⟩) trivial ?_
  simp only [Act.put, List.getElem_toArray, List.getElem_cons_succ, List.getElem_cons_zero, List.setIfInBounds_toArray, List.set_cons_zero, List.set_cons_succ]
  refine wpAnyH_take (i := 16) (v := (.pointer (some ⟨b, 2, none⟩))) rfl (by kernel_rfl) (by kernel_rfl) (by kernel_rfl) (fun _ _ _ h => h) (Or.inl ⟨by kernel_rfl, by intro w hS; go_simp⟩) trivial ?_
  simp only [Act.put, List.getElem_toArray, List.getElem_cons_succ, List.getElem_cons_zero, List.setIfInBounds_toArray, List.set_cons_zero, List.set_cons_succ]
  refine wpAnyH_ready (rs := [10, 12]) (by kernel_rfl) (by simp) ?_
  refine AllReadyH.cons rfl (fun K hK => ?_) ?_
  · rw [if_pos (by kernel_rfl)]
    have hc : World.cell? _ ⟨b, 11, none⟩ = some (.slice none 0 0) := (hW.cell 11).trans (wcs_list 3 _ nilL 9 (by omega)); (unfold Oper.wp execOp; go_simp); clear hc
    refine hK.out _ _ trivial (fun _ => ?_)
    clear hK K
    try simp only [Act.put, List.getElem_toArray, List.getElem_cons_succ, List.getElem_cons_zero, List.setIfInBounds_toArray, List.set_cons_zero, List.set_cons_succ]
    refine wpAnyH_ready (rs := [12]) (by kernel_rfl) (by simp) ?_
    refine AllReadyH.cons rfl (fun K hK => ?_) ?_
    · rw [if_pos (by kernel_rfl)]
      (unfold Oper.wp execOp; go_simp); replace hW := hW.alloc (.cells #[.int .i64 1] 3); replace hown := hown.alloc (.cells #[.int .i64 1] 3); replace hB := hB.alloc (Nat.le_of_lt hlt) (.cells #[.int .i64 1] 3); replace hlt := hW.lt
      refine hK.out _ _ trivial (fun _ => ?_)
      clear hK K
      try simp only [Act.put, List.getElem_toArray, List.getElem_cons_succ, List.getElem_cons_zero, List.setIfInBounds_toArray, List.set_cons_zero, List.set_cons_succ]
      refine wpAnyH_ready (rs := [13]) (by kernel_rfl) (by simp) ?_
      refine AllReadyH.cons rfl (fun K hK => ?_) ?_
      · rw [if_pos (by kernel_rfl)]
        refine wp_append_own _ _ _ 36 rfl (b + 1) 3 i0 (.int .i64 0) 1 8 Try.underlying36 hi hz0 hz1 hz2 rfl (by decide) _ 0 [] rfl (World.ownsRow_nil _ _ _ _) ⟨_, 0, none⟩ 1 1 [.int .i64 1] rfl rfl (one_newI _ _ _) (by simp [Value.oneCell']) (by unfold maxLen; omega) (by omega) hlt ?_; intro v1 w1 hr1 hg1 _; obtain ⟨a1, c1, rfl⟩ := row_slice hr1; replace hB := below_grown hB hlt hg1 rfl; replace hW := hW.grown hg1 rfl; replace hown := owns_grown hown hg1 rfl
        refine hK.out _ _ trivial (fun _ => ?_)
        clear hK K
        try simp only [Act.put, List.getElem_toArray, List.getElem_cons_succ, List.getElem_cons_zero, List.setIfInBounds_toArray, List.set_cons_zero, List.set_cons_succ]
        refine wpAnyH_take (i := 17) (v := (.pointer (some ⟨b, 11, none⟩))) rfl (by kernel_rfl) (by kernel_rfl) (by kernel_rfl) (fun _ _ _ h => h) (Or.inl ⟨by kernel_rfl, by intro w hS; go_simp⟩) trivial ?_
        simp only [Act.put, List.getElem_toArray, List.getElem_cons_succ, List.getElem_cons_zero, List.setIfInBounds_toArray, List.set_cons_zero, List.set_cons_succ]
        refine wpAnyH_ready (rs := [18]) (by kernel_rfl) (by simp) ?_
        refine AllReadyH.cons rfl (fun K hK => ?_) ?_
        · rw [if_pos (by kernel_rfl)]
          have fz := hW.free 11; have hc : World.cell? _ ⟨b, 11, none⟩ = some (.slice none 0 0) := (hW.cell 11).trans (wcs_list 3 _ nilL 9 (by omega)); (unfold Oper.wp execOp; go_simp)
          refine hK.out _ _ trivial (fun _ => ?_)
          clear hK K
          try simp only [Act.put, List.getElem_toArray, List.getElem_cons_succ, List.getElem_cons_zero, List.setIfInBounds_toArray, List.set_cons_zero, List.set_cons_succ]
          refine wpAnyH_done (by kernel_rfl) ?_ _
          refine NoPanic.normal ?_
          go_end0
          exact ⟨rfl, ⟨_, hW.setL 9 (by omega) rfl _⟩, hown.setCell (owns_ne hW hown) _, hB.setCell (Nat.le_refl _) _⟩
        exact AllReadyH.nil
      exact AllReadyH.nil
    exact AllReadyH.nil
  refine AllReadyH.cons rfl (fun K hK => ?_) ?_
  · rw [if_pos (by kernel_rfl)]
    (unfold Oper.wp execOp; go_simp); replace hW := hW.alloc (.cells #[.int .i64 1] 3); replace hown := hown.alloc (.cells #[.int .i64 1] 3); replace hB := hB.alloc (Nat.le_of_lt hlt) (.cells #[.int .i64 1] 3); replace hlt := hW.lt
    refine hK.out _ _ trivial (fun _ => ?_)
    clear hK K
    try simp only [Act.put, List.getElem_toArray, List.getElem_cons_succ, List.getElem_cons_zero, List.setIfInBounds_toArray, List.set_cons_zero, List.set_cons_succ]
    refine wpAnyH_ready (rs := [10]) (by kernel_rfl) (by simp) ?_
    refine AllReadyH.cons rfl (fun K hK => ?_) ?_
    · rw [if_pos (by kernel_rfl)]
      have hc : World.cell? _ ⟨b, 11, none⟩ = some (.slice none 0 0) := (hW.cell 11).trans (wcs_list 3 _ nilL 9 (by omega)); (unfold Oper.wp execOp; go_simp); clear hc
      refine hK.out _ _ trivial (fun _ => ?_)
      clear hK K
      try simp only [Act.put, List.getElem_toArray, List.getElem_cons_succ, List.getElem_cons_zero, List.setIfInBounds_toArray, List.set_cons_zero, List.set_cons_succ]
      refine wpAnyH_ready (rs := [13]) (by kernel_rfl) (by simp) ?_
      refine AllReadyH.cons rfl (fun K hK => ?_) ?_
      · rw [if_pos (by kernel_rfl)]
        refine wp_append_own _ _ _ 36 rfl (b + 1) 3 i0 (.int .i64 0) 1 8 Try.underlying36 hi hz0 hz1 hz2 rfl (by decide) _ 0 [] rfl (World.ownsRow_nil _ _ _ _) ⟨_, 0, none⟩ 1 1 [.int .i64 1] rfl rfl (one_newI _ _ _) (by simp [Value.oneCell']) (by unfold maxLen; omega) (by omega) hlt ?_; intro v1 w1 hr1 hg1 _; obtain ⟨a1, c1, rfl⟩ := row_slice hr1; replace hB := below_grown hB hlt hg1 rfl; replace hW := hW.grown hg1 rfl; replace hown := owns_grown hown hg1 rfl
        refine hK.out _ _ trivial (fun _ => ?_)
        clear hK K
        try simp only [Act.put, List.getElem_toArray, List.getElem_cons_succ, List.getElem_cons_zero, List.setIfInBounds_toArray, List.set_cons_zero, List.set_cons_succ]
        refine wpAnyH_take (i := 17) (v := (.pointer (some ⟨b, 11, none⟩))) rfl (by kernel_rfl) (by kernel_rfl) (by kernel_rfl) (fun _ _ _ h => h) (Or.inl ⟨by kernel_rfl, by intro w hS; go_simp⟩) trivial ?_
        simp only [Act.put, List.getElem_toArray, List.getElem_cons_succ, List.getElem_cons_zero, List.setIfInBounds_toArray, List.set_cons_zero, List.set_cons_succ]
        refine wpAnyH_ready (rs := [18]) (by kernel_rfl) (by simp) ?_
        refine AllReadyH.cons rfl (fun K hK => ?_) ?_
        · rw [if_pos (by kernel_rfl)]
          have fz := hW.free 11; have hc : World.cell? _ ⟨b, 11, none⟩ = some (.slice none 0 0) := (hW.cell 11).trans (wcs_list 3 _ nilL 9 (by omega)); (unfold Oper.wp execOp; go_simp)
          refine hK.out _ _ trivial (fun _ => ?_)
          clear hK K
          try simp only [Act.put, List.getElem_toArray, List.getElem_cons_succ, List.getElem_cons_zero, List.setIfInBounds_toArray, List.set_cons_zero, List.set_cons_succ]
          refine wpAnyH_done (by kernel_rfl) ?_ _
          refine NoPanic.normal ?_
          go_end0
          exact ⟨rfl, ⟨_, hW.setL 9 (by omega) rfl _⟩, hown.setCell (owns_ne hW hown) _, hB.setCell (Nat.le_refl _) _⟩
        exact AllReadyH.nil
      exact AllReadyH.nil
    exact AllReadyH.nil
  exact AllReadyH.nil
end Go.Proofs.Ytpkjhjpfhlfecac
