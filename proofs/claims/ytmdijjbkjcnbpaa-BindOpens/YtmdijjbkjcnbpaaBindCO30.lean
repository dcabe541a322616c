/-
  Of what BindCloses, BindOpens stands on: part 30.
-/
import Derived.Test.YtmdijjbkjcnbpaaBindCO25
namespace Go.Proofs.Ytmdijjbkjcnbpaa
open Go.ChangeShapes Go.WideShapes Go.ChangeAt Go.RowKit
set_option linter.unusedSimpArgs false
set_option linter.unusedVariables false

attribute [local irreducible] tc pc hc8 mb mo
set_option maxRecDepth 20000 in
set_option maxHeartbeats 2000000 in
theorem same_ref (f : Nat → Int) (g : Nat → Bool) (h : Nat → Int) (sl sl2 : Value) (ms : List Mp) (hwF : wfF f) (hwH : wfH h) (w : World) (hM : MapsAt w sl ms) (hM2 : MapsAt w sl2 ms) :
    Calls Try.prog 19 #[.agg (tc f g h sl), .agg (tc f g h sl2)] w fun e w' => e = .returned (.bool true) ∧ Below w.heap.size w w' := by
  have hB := Below.refl w.heap.size w
  have hM0 := hM
  obtain ⟨a0, cap, hsl, -⟩ := hM0
  obtain ⟨n, hn⟩ : ∃ n, n = ms.length := ⟨_, rfl⟩
  rw [← hn] at hsl
  subst hsl
  have HN : Hid (n = ms.length) := hn
  clear hn
  have hlt := hM.lt
  have hlt2 := hM2.lt
  obtain ⟨a1, c1, hsl2, -⟩ := id hM2
  rw [← HN.out] at hsl2
  subst hsl2
  have hnn : ((n : Int) != (n : Int)) = false := by simp
  go_enter Try.func19, Try.ntmps19
  go_wp2_with (first | ((with_reducible refine at_opB (.box 30 (.tmp 0)) rfl ?_); refine wpList_boxR 30 rfl (.tmp 0) rfl _ rfl ?_; intro b2 w1 l2 R2 hb1; replace hB := hB.trans (hb1.mono hB.size)) | ((with_reducible refine at_opB (.box 30 (.tmp 1)) rfl ?_); refine wpList_boxR 30 rfl (.tmp 1) rfl (tc f g h (.slice a1 n c1)) rfl ?_; intro b3 w1 l3 R3 hb1; replace R2 := R2.below hb1; replace hB := hB.trans (hb1.mono hB.size); have hp2 := R2.pool; have hp3 := R3.pool; have hh2 := R2.homes; have hh3 := R3.homes; have k2 : World.cell? _ ⟨b2, 29, none⟩ = some (.slice a0 n cap) := (R2.cell 29).trans (tc_maps _ _ _ _); have k3 : World.cell? _ ⟨b3, 29, none⟩ = some (.slice a1 n c1) := (R3.cell 29).trans (tc_maps _ _ _ _)) | ((with_reducible refine at_opB (.load 26 (.tmp 6)) rfl ?_); refine wpList_loadW 26 (.tmp 6) rfl rfl b2 0 rfl (pc f g).toList hp2 _ Try.underlying26 rfl (by simpa using pc_info f g) ?_; (try simp only [Array.toArray_toList])) | ((with_reducible refine at_opB (.load 26 (.tmp 8)) rfl ?_); refine wpList_loadW 26 (.tmp 8) rfl rfl b3 0 rfl (pc f g).toList hp3 _ Try.underlying26 rfl (by simpa using pc_info f g) ?_; (try simp only [Array.toArray_toList])) | ((with_reducible refine at_opB (.binOp .neq 26 (.tmp 7) (.tmp 9) 26) rfl ?_); refine wpList_neS 26 (.tmp 7) (.tmp 9) rfl rfl (pc f g) (pc f g) (by kernel_rfl) (by kernel_rfl) Try.eqGuardType26 _ false (run_eqp f g hwF _) rfl ?_) | ((with_reducible refine at_opB (.load 27 (.tmp 12)) rfl ?_); refine wpList_loadW 27 (.tmp 12) rfl ?_ b2 21 rfl (hcl h) hh2 _ Try.underlying27 rfl (home_info _) ?_; · kernel_rfl) | ((with_reducible refine at_opB (.load 27 (.tmp 14)) rfl ?_); refine wpList_loadW 27 (.tmp 14) rfl ?_ b3 21 rfl (hcl h) hh3 _ Try.underlying27 rfl (home_info _) ?_; · kernel_rfl) | ((with_reducible refine at_opB (.binOp .neq 27 (.tmp 13) (.tmp 15) 27) rfl ?_); refine wpList_neS 27 (.tmp 13) (.tmp 15) rfl ?_ (hc8 h) (hc8 h) (by kernel_rfl) (by kernel_rfl) Try.eqGuardType27 _ false (eq_home h h hwH hwH _) (by rw [eqTo_self]; rfl) ?_; · kernel_rfl))
  clear hp2 hp3 hh2 hh3 k2 k3
  go_loopw [30] (fun i W => ∃ j : Nat, j ≤ ms.length ∧ i = .int .i64 j ∧ Below w.heap.size w W ∧ Row 30 W b2 (tc f g h (.slice a0 n cap)) ∧ Row 30 W b3 (tc f g h (.slice a1 n c1))) (fun i _ => n - (intOf i).toNat)
  case atStart => exact ⟨0, by omega, rfl, hB, R2, R3⟩
  case round =>
    clear hB R2 R3
    obtain ⟨j, hj, rfl, hB, R2, R3⟩ := hrel
    have k2 : World.cell? _ ⟨b2, 29, none⟩ = some (.slice a0 n cap) := (R2.cell 29).trans (tc_maps _ _ _ _)
    by_cases hlj : j < ms.length
    · have hjn : (j : Int) < (n : Int) := by have := HN.out; omega
      have hjw := wrap_next hlj hM.len
      obtain ⟨o, hm⟩ : ∃ o, ms[j] = o := ⟨_, rfl⟩
      have r2 := (hM.keep hB hlt).at j hlj hm
      have r3 := (hM2.keep hB hlt2).at j hlj hm
      have I2 := fun w2 => index_runM hM j hlj w2
      have I3 := fun w2 => index_runM hM2 j hlj w2
      clear hm
      go_upto_region 6 with fail
      clear k2
      refine wp_region_noPanic ?_
      refine wp_region_held_drew (S := fun W => Row 30 W b2 (tc f g h (.slice a0 n cap)) ∧ Row 30 W b3 (tc f g h (.slice a1 n c1)) ∧ W.rangeAt (mb (.slice a0 n cap)) (mo (.slice a0 n cap) + 5 * j) (mcl o) ∧ W.rangeAt (mb (.slice a1 n c1)) (mo (.slice a1 n c1) + 5 * j) (mcl o)) (by kernel_rfl) ⟨R2, R3, r2, r3⟩ (fun _ => ?_)
      refine wpAnyH_take (i := 0) (v := .pointer (some ⟨b2, 29, none⟩)) rfl (by kernel_rfl) (by kernel_rfl) (by kernel_rfl) (fun _ _ _ h => h) (Or.inl ⟨by kernel_rfl, by intro w hS; go_simp⟩) ⟨R2, R3, r2, r3⟩ ?_
      simp only [Act.put, List.getElem_toArray, List.getElem_cons_succ, List.getElem_cons_zero, List.setIfInBounds_toArray, List.set_cons_zero, List.set_cons_succ]
      refine wpAnyH_take (i := 1) (v := .slice a0 n cap) rfl (by kernel_rfl) (by kernel_rfl) (by kernel_rfl) (fun _ _ _ h => h) (Or.inl ⟨by kernel_rfl, by intro w hS; have hc := (hS.1.cell 29).trans (tc_maps _ _ _ _); go_simp⟩) ⟨R2, R3, r2, r3⟩ ?_
      simp only [Act.put, List.getElem_toArray, List.getElem_cons_succ, List.getElem_cons_zero, List.setIfInBounds_toArray, List.set_cons_zero, List.set_cons_succ]
      refine wpAnyH_take (i := 2) (v := .int .i64 (j : Int)) rfl (by kernel_rfl) (by kernel_rfl) (by kernel_rfl) (fun _ _ _ h => h) (Or.inl ⟨by kernel_rfl, by intro w hS; go_simp⟩) ⟨R2, R3, r2, r3⟩ ?_
      simp only [Act.put, List.getElem_toArray, List.getElem_cons_succ, List.getElem_cons_zero, List.setIfInBounds_toArray, List.set_cons_zero, List.set_cons_succ]
      refine wpAnyH_take (i := 3) (v := .pointer (some ⟨mb (.slice a0 n cap), mo (.slice a0 n cap) + 5 * j, none⟩)) rfl (by kernel_rfl) (by kernel_rfl) (by kernel_rfl) (fun _ _ _ h => h) (yields_indexR (.tmp 34) (.tmp 35) rfl (by kernel_rfl) _ _ _ (by kernel_rfl) (by kernel_rfl) I2) ⟨R2, R3, r2, r3⟩ ?_
      simp only [Act.put, List.getElem_toArray, List.getElem_cons_succ, List.getElem_cons_zero, List.setIfInBounds_toArray, List.set_cons_zero, List.set_cons_succ]
      refine wpAnyH_take (i := 4) (v := .agg (mcl o).toArray) rfl (by kernel_rfl) (by kernel_rfl) (by kernel_rfl) (fun _ _ _ h => h) (yields_loadQ 32 (.tmp 36) rfl (by kernel_rfl) _ _ (by kernel_rfl) (mcl o) (fun _ h => h.2.2.1) _ Try.underlying32 rfl (mcl_info o)) ⟨R2, R3, r2, r3⟩ ?_
      simp only [Act.put, List.getElem_toArray, List.getElem_cons_succ, List.getElem_cons_zero, List.setIfInBounds_toArray, List.set_cons_zero, List.set_cons_succ]
      refine wpAnyH_take (i := 5) (v := .pointer (some ⟨b3, 29, none⟩)) rfl (by kernel_rfl) (by kernel_rfl) (by kernel_rfl) (fun _ _ _ h => h) (Or.inl ⟨by kernel_rfl, by intro w hS; go_simp⟩) ⟨R2, R3, r2, r3⟩ ?_
      simp only [Act.put, List.getElem_toArray, List.getElem_cons_succ, List.getElem_cons_zero, List.setIfInBounds_toArray, List.set_cons_zero, List.set_cons_succ]
      refine wpAnyH_take (i := 6) (v := .slice a1 n c1) rfl (by kernel_rfl) (by kernel_rfl) (by kernel_rfl) (fun _ _ _ h => h) (Or.inl ⟨by kernel_rfl, by intro w hS; have hc := (hS.2.1.cell 29).trans (tc_maps _ _ _ _); go_simp⟩) ⟨R2, R3, r2, r3⟩ ?_
      simp only [Act.put, List.getElem_toArray, List.getElem_cons_succ, List.getElem_cons_zero, List.setIfInBounds_toArray, List.set_cons_zero, List.set_cons_succ]
      refine wpAnyH_take (i := 7) (v := .int .i64 (j : Int)) rfl (by kernel_rfl) (by kernel_rfl) (by kernel_rfl) (fun _ _ _ h => h) (Or.inl ⟨by kernel_rfl, by intro w hS; go_simp⟩) ⟨R2, R3, r2, r3⟩ ?_
      simp only [Act.put, List.getElem_toArray, List.getElem_cons_succ, List.getElem_cons_zero, List.setIfInBounds_toArray, List.set_cons_zero, List.set_cons_succ]
      refine wpAnyH_take (i := 8) (v := .pointer (some ⟨mb (.slice a1 n c1), mo (.slice a1 n c1) + 5 * j, none⟩)) rfl (by kernel_rfl) (by kernel_rfl) (by kernel_rfl) (fun _ _ _ h => h) (yields_indexR (.tmp 39) (.tmp 40) rfl (by kernel_rfl) _ _ _ (by kernel_rfl) (by kernel_rfl) I3) ⟨R2, R3, r2, r3⟩ ?_
      simp only [Act.put, List.getElem_toArray, List.getElem_cons_succ, List.getElem_cons_zero, List.setIfInBounds_toArray, List.set_cons_zero, List.set_cons_succ]
      refine wpAnyH_take (i := 9) (v := .agg (mcl o).toArray) rfl (by kernel_rfl) (by kernel_rfl) (by kernel_rfl) (fun _ _ _ h => h) (yields_loadQ 32 (.tmp 41) rfl (by kernel_rfl) _ _ (by kernel_rfl) (mcl o) (fun _ h => h.2.2.2) _ Try.underlying32 rfl (mcl_info o)) ⟨R2, R3, r2, r3⟩ ?_
      simp only [Act.put, List.getElem_toArray, List.getElem_cons_succ, List.getElem_cons_zero, List.setIfInBounds_toArray, List.set_cons_zero, List.set_cons_succ]
      refine wpAnyH_take (i := 10) (v := .bool false) rfl (by kernel_rfl) (by kernel_rfl) (by kernel_rfl) (fun _ _ _ h => h) (yields_neS 32 (.tmp 37) (.tmp 42) rfl (by kernel_rfl) (mc o) (mc o) (by kernel_rfl) (by kernel_rfl) Try.eqGuardType32 _ _ (fun w => eq_map o o w) (by simp)) ⟨R2, R3, r2, r3⟩ ?_
      simp only [Act.put, List.getElem_toArray, List.getElem_cons_succ, List.getElem_cons_zero, List.setIfInBounds_toArray, List.set_cons_zero, List.set_cons_succ]
      refine wpAnyH_done (by kernel_rfl) ?_ _
      refine NoPanic.normal ?_
      replace R2 : Row 30 (World.drew _) b2 _ := R2; replace R3 : Row 30 (World.drew _) b3 _ := R3; replace hB := below_drewB hB
      go_wp2
      go_roundw
      case rel => first | exact ⟨j + 1, by omega, by go_num, hB, R2, R3⟩ | ((repeat apply Exists.intro); exact ⟨⟨j + 1, by omega, by go_num, hB, R2, R3⟩, rfl⟩)
      case measure => (first | rw [hjw] | skip); exact meas_next (HN.out.symm ▸ hlj)
    · have hjn : (n : Int) ≤ (j : Int) := by have := HN.out; omega
      clear hj hlj
      go_wp2
      go_ret
      exact ⟨rfl, hB⟩
end Go.Proofs.Ytmdijjbkjcnbpaa
