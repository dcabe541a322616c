/-
  Timers held against each other: by their times, then by their numbers.
-/
import Derived.Test.YtphijplgnffoiaaWhH
import Derived.Test.YtphijplgnffoiaaWhS
namespace Go.Proofs.Ytphijplgnffoiaa
open Go.ChangeShapes Go.WideShapes Go.ChangeAt Go.RowKit Go.Maps
set_option linter.unusedSimpArgs false
set_option linter.unusedVariables false

def orZ (a b : Int) : Int := if a = 0 then b else a
set_option maxRecDepth 10000 in
set_option maxHeartbeats 2000000 in
theorem or_any (c : Nat) (a b : Int) (w : World) (h0 : w.cell? ⟨c, 0, none⟩ = some (.int .i64 a)) (h1 : w.cell? ⟨c, 1, none⟩ = some (.int .i64 b)) :
    Calls Try.prog 26 #[.slice (some ⟨c, 0, none⟩) 2 2] w fun e w' => e = .returned (.int .i64 (orZ a b)) ∧ w' = w := by
  have I0 := fun w => ixI c 2 2 0 (by omega) w
  have I1 := fun w => ixI c 2 2 1 (by omega) w
  go_enter Try.func26, Try.ntmps26
  go_wp2
  go_loop [8] (fun i => ∃ j : Nat, j ≤ 2 ∧ i = .int .i64 (j : Int) ∧ (1 ≤ j → a = 0) ∧ (2 ≤ j → b = 0)) (fun i => 2 - (intOf i).toNat)
  case atStart => exact ⟨0, by omega, rfl, fun h => by omega, fun h => by omega⟩
  case round =>
    obtain ⟨j, hj, rfl, ha, hb⟩ := hrel
    have hc : j = 0 ∨ j = 1 ∨ j = 2 := by omega
    rcases hc with rfl | rfl | rfl
    · clear ha hb hj
      by_cases e : a = 0
      · have hn : (a != 0) = false := by simp [e]
        have HE : Hid (a = 0) := e
        clear e
        go_wp2
        go_round
        case rel => exact ⟨1, by omega, rfl, fun _ => HE.out, fun h => by omega⟩
        case measure => simp [intOf]
      · have hn : (a != 0) = true := by simp [e]
        have HE : Hid (a ≠ 0) := e
        clear e
        go_wp2
        go_ret
        exact ⟨ret_int (by unfold orZ; rw [if_neg HE.out]), rfl⟩
    · have HA : Hid (a = 0) := ha (by omega)
      clear ha hb hj
      by_cases e : b = 0
      · have hn : (b != 0) = false := by simp [e]
        have HE : Hid (b = 0) := e
        clear e
        go_wp2
        go_round
        case rel => exact ⟨2, by omega, rfl, fun _ => HA.out, fun _ => HE.out⟩
        case measure => simp [intOf]
      · have hn : (b != 0) = true := by simp [e]
        clear e
        go_wp2
        go_ret
        exact ⟨ret_int (by unfold orZ; rw [if_pos HA.out]), rfl⟩
    · have HA : Hid (a = 0) := ha (by omega)
      have HB : Hid (b = 0) := hb (by omega)
      clear ha hb hj
      go_wp2
      go_ret
      exact ⟨ret_int (by unfold orZ; rw [if_pos HA.out, HB.out]), rfl⟩
theorem cmp_any (x y : Int) (W : World) : Calls Try.prog 27 #[.int .i64 x, .int .i64 y] W fun e w' => e = .returned (.int .i64 (Lib.compareInt x y)) ∧ w' = W := AnyG.cmp_Compare_int cmpL x y W
/-- by times, then by numbers. -/
def cmpZ (z : Int → Int) (x y : Int) : Int := orZ (Lib.compareInt (z x) (z y)) (Lib.compareInt x y)
theorem cell_alloc {w : World} {b o : Nat} {v : Value} (h : w.cell? ⟨b, o, none⟩ = some v) (x : Obj) : (w.alloc x).cell? ⟨b, o, none⟩ = some v := by
  have hl := World.block_lt_of_cell? w _ h
  rw [← h]
  exact World.cell?_of_block (Below.heap_alloc _ _ _ hl)
theorem cmpS {z : Int → Int} {x y p q : Int} (hp : Lib.compareInt (z x) (z y) = p) (hq : Lib.compareInt x y = q) : cmpZ z x y = orZ p q := by unfold cmpZ; rw [hp, hq]
set_option maxRecDepth 10000 in
set_option maxHeartbeats 4000000 in
theorem less_any {b o bm n bx : Nat} {D : DataW Unit} (z : Int → Int) (x y : Int) (hx : (Lit.int .i64 x).wf = true) (hy : (Lit.int .i64 y).wf = true) (hzx : at' D x (z x)) (hzy : at' D y (z y)) (W : World) (hb : W.cell? ⟨bx, 0, none⟩ = some (.pointer (some ⟨b, o, none⟩))) (c1 : W.cell? ⟨b, o + 1, none⟩ = some (.map (some bm))) (hm : MapI W bm n D) :
    Calls Try.prog 25 #[.int .i64 x, .int .i64 y, .pointer (some ⟨bx, 0, none⟩)] W fun e w' => e = .returned (.int .i64 (cmpZ z x y)) ∧ ∃ q os', w' = Sort.grow (W.drewN q) os' := by
  have kx := keyOf_int_mk (P := Try.prog) (q := .i64) (a := x) Try.underlying3 hx
  have ky := keyOf_int_mk (P := Try.prog) (q := .i64) (a := y) Try.underlying3 hy
  have hlx : ∀ W, MapI W bm n D → (Instr.lookup 29 (.map (some bm)) (.int .i64 x) false).run Try.prog W = .ok (.int .i64 (z x)) W := by
    intro W hW
    obtain ⟨c, h1, h2, _⟩ := hW.lookup_int lawI Try.underlying29 Try.underlying3 (zeroI _) kx
    rw [h1, at_num hzx h2]
  have hly : ∀ W, MapI W bm n D → (Instr.lookup 29 (.map (some bm)) (.int .i64 y) false).run Try.prog W = .ok (.int .i64 (z y)) W := by
    intro W hW
    obtain ⟨c, h1, h2, _⟩ := hW.lookup_int lawI Try.underlying29 Try.underlying3 (zeroI _) ky
    rw [h1, at_num hzy h2]
  have C1 := fun w => cmp_any (z x) (z y) w
  have C2 := fun w => cmp_any x y w
  obtain ⟨p, hp⟩ : ∃ p, Lib.compareInt (z x) (z y) = p := ⟨_, rfl⟩
  obtain ⟨q, hq⟩ : ∃ q, Lib.compareInt x y = q := ⟨_, rfl⟩
  rw [hp] at C1
  rw [hq] at C2
  rw [cmpS hp hq]
  clear hp hq kx ky hzx hzy hx hy
  go_enter Try.func25, Try.ntmps25
  go_wp2_with fail
  refine wp_region_noPanic ?_
  refine wp_region_held_drew (S := fun W => W.cell? ⟨bx, 0, none⟩ = some (.pointer (some ⟨b, o, none⟩)) ∧ W.cell? ⟨b, o + 1, none⟩ = some (.map (some bm)) ∧ MapI W bm n D) (by kernel_rfl) ⟨hb, c1, hm⟩ (fun _ => ?_)
  refine wpAnyH_take (i := 0) (v := .pointer (some ⟨b, o, none⟩)) rfl (by kernel_rfl) (by kernel_rfl) (by kernel_rfl) (fun _ _ _ h => h) (Or.inl ⟨by kernel_rfl, by intro w hS; have hc := hS.1; go_simp⟩) ⟨hb, c1, hm⟩ ?_
  simp only [Act.put, List.getElem_toArray, List.getElem_cons_succ, List.getElem_cons_zero, List.setIfInBounds_toArray, List.set_cons_zero, List.set_cons_succ]
  refine wpAnyH_take (i := 1) (v := .pointer (some ⟨b, o, none⟩)) rfl (by kernel_rfl) (by kernel_rfl) (by kernel_rfl) (fun _ _ _ h => h) (Or.inl ⟨by kernel_rfl, by intro w hS; go_simp⟩) ⟨hb, c1, hm⟩ ?_
  simp only [Act.put, List.getElem_toArray, List.getElem_cons_succ, List.getElem_cons_zero, List.setIfInBounds_toArray, List.set_cons_zero, List.set_cons_succ]
  refine wpAnyH_take (i := 2) (v := .pointer (some ⟨b, o + 1, none⟩)) rfl (by kernel_rfl) (by kernel_rfl) (by kernel_rfl) (fun _ _ _ h => h) (Or.inl ⟨by kernel_rfl, by intro w hS; go_simp⟩) ⟨hb, c1, hm⟩ ?_
  simp only [Act.put, List.getElem_toArray, List.getElem_cons_succ, List.getElem_cons_zero, List.setIfInBounds_toArray, List.set_cons_zero, List.set_cons_succ]
  refine wpAnyH_take (i := 3) (v := .map (some bm)) rfl (by kernel_rfl) (by kernel_rfl) (by kernel_rfl) (fun _ _ _ h => h) (Or.inl ⟨by kernel_rfl, by intro w hS; have hc := hS.2.1; go_simp⟩) ⟨hb, c1, hm⟩ ?_
  simp only [Act.put, List.getElem_toArray, List.getElem_cons_succ, List.getElem_cons_zero, List.setIfInBounds_toArray, List.set_cons_zero, List.set_cons_succ]
  refine wpAnyH_take (i := 4) (v := .int .i64 x) rfl (by kernel_rfl) (by kernel_rfl) (by kernel_rfl) (fun _ _ _ h => h) (Or.inl ⟨by kernel_rfl, by intro w hS; go_simp⟩) ⟨hb, c1, hm⟩ ?_
  simp only [Act.put, List.getElem_toArray, List.getElem_cons_succ, List.getElem_cons_zero, List.setIfInBounds_toArray, List.set_cons_zero, List.set_cons_succ]
  refine wpAnyH_take (i := 5) (v := .int .i64 (z x)) rfl (by kernel_rfl) (by kernel_rfl) (by kernel_rfl) (fun _ _ _ h => h) (Or.inl ⟨by kernel_rfl, by intro w hS; have hc := hlx w hS.2.2; go_simp⟩) ⟨hb, c1, hm⟩ ?_
  simp only [Act.put, List.getElem_toArray, List.getElem_cons_succ, List.getElem_cons_zero, List.setIfInBounds_toArray, List.set_cons_zero, List.set_cons_succ]
  refine wpAnyH_take (i := 6) (v := .pointer (some ⟨b, o, none⟩)) rfl (by kernel_rfl) (by kernel_rfl) (by kernel_rfl) (fun _ _ _ h => h) (Or.inl ⟨by kernel_rfl, by intro w hS; have hc := hS.1; go_simp⟩) ⟨hb, c1, hm⟩ ?_
  simp only [Act.put, List.getElem_toArray, List.getElem_cons_succ, List.getElem_cons_zero, List.setIfInBounds_toArray, List.set_cons_zero, List.set_cons_succ]
  refine wpAnyH_take (i := 7) (v := .pointer (some ⟨b, o, none⟩)) rfl (by kernel_rfl) (by kernel_rfl) (by kernel_rfl) (fun _ _ _ h => h) (Or.inl ⟨by kernel_rfl, by intro w hS; go_simp⟩) ⟨hb, c1, hm⟩ ?_
  simp only [Act.put, List.getElem_toArray, List.getElem_cons_succ, List.getElem_cons_zero, List.setIfInBounds_toArray, List.set_cons_zero, List.set_cons_succ]
  refine wpAnyH_take (i := 8) (v := .pointer (some ⟨b, o + 1, none⟩)) rfl (by kernel_rfl) (by kernel_rfl) (by kernel_rfl) (fun _ _ _ h => h) (Or.inl ⟨by kernel_rfl, by intro w hS; go_simp⟩) ⟨hb, c1, hm⟩ ?_
  simp only [Act.put, List.getElem_toArray, List.getElem_cons_succ, List.getElem_cons_zero, List.setIfInBounds_toArray, List.set_cons_zero, List.set_cons_succ]
  refine wpAnyH_take (i := 9) (v := .map (some bm)) rfl (by kernel_rfl) (by kernel_rfl) (by kernel_rfl) (fun _ _ _ h => h) (Or.inl ⟨by kernel_rfl, by intro w hS; have hc := hS.2.1; go_simp⟩) ⟨hb, c1, hm⟩ ?_
  simp only [Act.put, List.getElem_toArray, List.getElem_cons_succ, List.getElem_cons_zero, List.setIfInBounds_toArray, List.set_cons_zero, List.set_cons_succ]
  refine wpAnyH_take (i := 10) (v := .int .i64 y) rfl (by kernel_rfl) (by kernel_rfl) (by kernel_rfl) (fun _ _ _ h => h) (Or.inl ⟨by kernel_rfl, by intro w hS; go_simp⟩) ⟨hb, c1, hm⟩ ?_
  simp only [Act.put, List.getElem_toArray, List.getElem_cons_succ, List.getElem_cons_zero, List.setIfInBounds_toArray, List.set_cons_zero, List.set_cons_succ]
  refine wpAnyH_take (i := 11) (v := .int .i64 (z y)) rfl (by kernel_rfl) (by kernel_rfl) (by kernel_rfl) (fun _ _ _ h => h) (Or.inl ⟨by kernel_rfl, by intro w hS; have hc := hly w hS.2.2; go_simp⟩) ⟨hb, c1, hm⟩ ?_
  simp only [Act.put, List.getElem_toArray, List.getElem_cons_succ, List.getElem_cons_zero, List.setIfInBounds_toArray, List.set_cons_zero, List.set_cons_succ]
  refine wpAnyH_take (i := 13) (v := .int .i64 x) rfl (by kernel_rfl) (by kernel_rfl) (by kernel_rfl) (fun _ _ _ h => h) (Or.inl ⟨by kernel_rfl, by intro w hS; go_simp⟩) ⟨hb, c1, hm⟩ ?_
  simp only [Act.put, List.getElem_toArray, List.getElem_cons_succ, List.getElem_cons_zero, List.setIfInBounds_toArray, List.set_cons_zero, List.set_cons_succ]
  refine wpAnyH_take (i := 14) (v := .int .i64 y) rfl (by kernel_rfl) (by kernel_rfl) (by kernel_rfl) (fun _ _ _ h => h) (Or.inl ⟨by kernel_rfl, by intro w hS; go_simp⟩) ⟨hb, c1, hm⟩ ?_
  simp only [Act.put, List.getElem_toArray, List.getElem_cons_succ, List.getElem_cons_zero, List.setIfInBounds_toArray, List.set_cons_zero, List.set_cons_succ]
  refine wpAnyH_ready (rs := [12]) (by kernel_rfl) (by simp) ?_
  refine AllReadyH.cons rfl (fun K hK => ?_) ?_
  · go_simp
    go_at_call 27; refine (C1 _).mono ?_; rintro e w' ⟨rfl, hw⟩; rw [hw]; clear hw w'
    go_wp2_with fail
    refine hK.out _ _ ⟨hb, c1, hm⟩ (fun _ => ?_)
    clear hK K
    try simp only [Act.put, List.getElem_toArray, List.getElem_cons_succ, List.getElem_cons_zero, List.setIfInBounds_toArray, List.set_cons_zero, List.set_cons_succ]
    refine wpAnyH_ready (rs := [15]) (by kernel_rfl) (by simp) ?_
    refine AllReadyH.cons rfl (fun K hK => ?_) ?_
    · go_simp
      go_at_call 27; refine (C2 _).mono ?_; rintro e w' ⟨rfl, hw⟩; rw [hw]; clear hw w'
      go_wp2_with fail
      refine hK.out _ _ ⟨hb, c1, hm⟩ (fun _ => ?_)
      clear hK K
      try simp only [Act.put, List.getElem_toArray, List.getElem_cons_succ, List.getElem_cons_zero, List.setIfInBounds_toArray, List.set_cons_zero, List.set_cons_succ]
      refine wpAnyH_ready (rs := [16]) (by kernel_rfl) (by simp) ?_
      refine AllReadyH.cons rfl (fun K hK => ?_) ?_
      · rw [if_pos (by kernel_rfl)]
        (unfold Oper.wp execOp; go_simp); have k0 := World.cell?_alloc_mark W #[.int .i64 p, .int .i64 q] 3 (0, 0) 0; have k1 := World.cell?_alloc_mark W #[.int .i64 p, .int .i64 q] 3 (0, 0) 1; replace hb := cell_alloc hb (.cells #[.int .i64 p, .int .i64 q] 3); replace c1 := cell_alloc c1 (.cells #[.int .i64 p, .int .i64 q] 3); replace hm := hm.alloc (.cells #[.int .i64 p, .int .i64 q] 3)
        refine hK.out _ _ ⟨hb, c1, hm⟩ (fun _ => ?_)
        clear hK K
        try simp only [Act.put, List.getElem_toArray, List.getElem_cons_succ, List.getElem_cons_zero, List.setIfInBounds_toArray, List.set_cons_zero, List.set_cons_succ]
        refine wpAnyH_ready (rs := [17]) (by kernel_rfl) (by simp) ?_
        refine AllReadyH.cons rfl (fun K hK => ?_) ?_
        · go_simp
          go_at_call 26; refine (or_any _ p q _ ?_ ?_).mono ?_; exact k0; exact k1; rintro e w' ⟨rfl, hw⟩; rw [hw]; clear hw w'
          go_wp2_with fail
          refine hK.out _ _ ⟨hb, c1, hm⟩ (fun _ => ?_)
          clear hK K
          try simp only [Act.put, List.getElem_toArray, List.getElem_cons_succ, List.getElem_cons_zero, List.setIfInBounds_toArray, List.set_cons_zero, List.set_cons_succ]
          refine wpAnyH_take (i := 18) (v := .int .i64 (orZ p q)) rfl (by kernel_rfl) (by kernel_rfl) (by kernel_rfl) (fun _ _ _ h => h) (Or.inl ⟨by kernel_rfl, by intro w hS; go_simp⟩) ⟨hb, c1, hm⟩ ?_
          simp only [Act.put, List.getElem_toArray, List.getElem_cons_succ, List.getElem_cons_zero, List.setIfInBounds_toArray, List.set_cons_zero, List.set_cons_succ]
          refine wpAnyH_done (by kernel_rfl) ?_ _
          refine NoPanic.normal ?_
          go_wp2
          go_ret
          exact ⟨rfl, 1, #[.cells #[.int .i64 p, .int .i64 q] 3], Sort.alloc_eq_grow (W.drewN 1) _⟩
        exact AllReadyH.nil
      exact AllReadyH.nil
    exact AllReadyH.nil
  exact AllReadyH.nil
end Go.Proofs.Ytphijplgnffoiaa
