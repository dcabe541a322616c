/-
  Who has each block behind events: the program's Owners.
-/
import Derived.Test.YtnhafdkfjjplkaaDoorRecO
namespace Go.Proofs.YtnhafdkfjjplkaaDoor
open Go.ChangeShapes Go.WideShapes Go.ChangeAt Go.RowKit
set_option linter.unusedSimpArgs false
set_option linter.unusedVariables false

set_option maxRecDepth 10000 in
set_option maxHeartbeats 8000000 in
theorem owners_any (sl : Value) (es : List Ev) (w : World) (hM : EvAt w sl es) : Calls Tryd.prog 17 #[sl] w fun x w' => x = .returned (ownS es) ∧ Below w.heap.size w w' := by
  have hB := Below.refl w.heap.size w
  have hM0 := hM
  obtain ⟨a0, cap, hsl⟩ := hM0.slice
  obtain ⟨n, hn⟩ : ∃ n, n = es.length := ⟨_, rfl⟩
  rw [← hn] at hsl
  subst hsl
  have HN : Hid (n = es.length) := hn
  clear hn hM0
  have hlt := hM.lt
  go_enter Tryd.func17, Tryd.ntmps17
  go_wp2_with (first
    | ((with_reducible refine atOp (.alloc 39) rfl ?_); refine wpList_allocX 2 39 rfl rfl rfl _ pool_zero ?_; intro b2 w1 l2 R2 hb1; replace hB := hB.trans (hb1.mono hB.size))
    | ((with_reducible refine atOp (.alloc 39) rfl ?_); refine wpList_allocX 4 39 rfl rfl rfl _ pool_zero ?_; intro b4 w1 l4 R4 hb1; have n24 := R2.ne l4; replace R2 := R2.below hb1; replace l4 := Nat.le_trans hB.size l4; replace hB := hB.trans (hb1.mono hB.size)))
  go_loopw [12] (fun i W => ∃ j : Nat, j ≤ es.length ∧ i = .int .i64 (j : Int) ∧ ∃ F : Nat → Int, Hid (walkO z0 es = walkO F (es.drop j)) ∧ Below w.heap.size w W ∧ Row 39 W b2 (pc z0 g0') ∧ Row 39 W b4 (pc F g0')) (fun i _ => n - (intOf i).toNat)
  case atStart => exact ⟨0, by omega, rfl, z0, rfl, hB, R2, R4⟩
  case round =>
    clear hB R2 R4
    obtain ⟨j, hj, rfl, F, HW, hB, R2, R4⟩ := hrel
    by_cases hlj : j < es.length
    · have hjn : (j : Int) < (n : Int) := by have := HN.out; omega
      have hjw := ev_next hlj hM.len
      obtain ⟨e, he⟩ : ∃ e, es[j] = e := ⟨_, rfl⟩
      have hMW := hM.keep hB hlt
      have hrg := hMW.at j hlj he
      have IR := fun w2 => hM.index j hlj w2
      by_cases hk : okE e
      · have CG : ∀ w, Calls Tryd.prog 12 #[.agg (ec e)] w fun x w' => x = .returned (.int .i64 0) ∧ Below w.heap.size w w' := fun w => by have := goodEv_any e w; rw [goodE_yes hk] at this; exact this
        by_cases hbh : bhE (F (at6 e)) e = 0
        · have HW2 : Hid (walkO z0 es = _) := HW.out.trans (walkO_ok F hlj he hk hbh)
          clear HW
          have HW := HW2
          clear HW2
          obtain ⟨A, Z, hA, hK, hA3, hK6⟩ : ∃ A Z : Nat, e.a = (A : Int) ∧ e.b = (Z : Int) ∧ A < 3 ∧ Z < 6 := ⟨e.a.toNat, e.b.toNat, by have := hk.2.2.1; omega, by have := hk.2.2.2; omega, by have := hk.2.2.1; omega, by have := hk.2.2.2; omega⟩
          have hat : at6 e = 6 * A + Z := by unfold at6; omega
          have h18 : 6 * A + Z < 18 := by omega
          have hs0 := hk.2.1.1
          have hs1 := hk.2.1.2
          rw [hat] at hbh HW
          have cA : (ec e)[2]? = some (.int .i64 (A : Int)) := by rw [← hA]; rfl
          have cK : (ec e)[3]? = some (.int .i64 (Z : Int)) := by rw [← hK]; rfl
          have CO : ∀ w, Calls Tryd.prog 30 #[.int .i64 (F (6 * A + Z)), .agg (ec e)] w fun x w' => x = .returned (.tuple #[.int .i64 (ownN e), .int .i64 0]) ∧ Below w.heap.size w w' := fun w => by have := behind_any (F (6 * A + Z)) e w hs0 hs1; rw [show bhN (F (6 * A + Z)) e = ownN e by unfold bhN; rw [if_pos hbh], hbh] at this; exact this
          clear hA hK hat hbh he hk
          go_upto_region 8 with (first
            | ((with_reducible refine atOp (.indexAddr 22 (.tmp 10) (.tmp 12)) rfl ?_); refine wpList_indexG 22 (.tmp 10) (.tmp 12) rfl rfl _ _ _ rfl rfl (IR _) ?_)
            | ((with_reducible refine atOp (.load 29 (.tmp 14)) rfl ?_); refine wpList_loadE (.tmp 14) rfl rfl _ _ rfl e hrg ?_)
            | ((with_reducible refine atOp (.alloc 29) rfl ?_); refine wpList_allocX 6 29 rfl rfl rfl _ ev_zero ?_; intro b6 w3 l6 R6 hb3; have n26 := R2.ne l6; have n46 := R4.ne l6; replace l6 := Nat.le_trans hB.size l6; replace R2 := R2.below hb3; replace R4 := R4.below hb3; replace hB := hB.trans (hb3.mono hB.size); clear hrg hMW)
            | ((with_reducible refine atOp (.store 29 (.tmp 6) (.tmp 15)) rfl ?_); refine wpList_storeR 29 rfl (.tmp 6) (.tmp 15) rfl b6 rfl (ec e) rfl _ R6 rfl (ec_info e) (ec_one e) ?_; intro w4 R6 t4; replace R2 := t4.row R2 n26; replace R4 := t4.row R4 n46; replace hB := t4.below _ _ l6 hB)
            | ((with_reducible refine atOp (.load 29 (.tmp 6)) rfl ?_); refine wpList_loadR 29 (.tmp 6) rfl rfl b6 rfl (ec e) R6 _ Tryd.underlying29 rfl (ec_info e) ?_)
            | (go_at_call 12; go_fit (CG _); rintro x w5 ⟨rfl, hb5⟩; replace R6 := R6.below hb5; replace R2 := R2.below hb5; replace R4 := R4.below hb5; replace hB := hB.trans (hb5.mono hB.size)))
          refine wp_region_noPanic ?_
          refine wp_region_held_drew (S := fun W => Row 29 W b6 (ec e) ∧ Row 39 W b4 (pc F g0')) (by kernel_rfl) ⟨R6, R4⟩ (fun _ => ?_)
          refine wpAnyH_take (i := 0) (v := .pointer (some ⟨b6, 2, none⟩)) rfl (by kernel_rfl) (by kernel_rfl) (by kernel_rfl) (fun _ _ _ h => h) (Or.inl ⟨by kernel_rfl, by intro w hS; go_simp⟩) ⟨R6, R4⟩ ?_
          simp only [Act.put, List.getElem_toArray, List.getElem_cons_succ, List.getElem_cons_zero, List.setIfInBounds_toArray, List.set_cons_zero, List.set_cons_succ]
          refine wpAnyH_take (i := 1) (v := .int .i64 (A : Int)) rfl (by kernel_rfl) (by kernel_rfl) (by kernel_rfl) (fun _ _ _ h => h) (yields_loadI (.tmp 23) rfl (by kernel_rfl) b6 2 (by kernel_rfl) (A : Int) (fun w h => (h.1.cell 2).trans cA)) ⟨R6, R4⟩ ?_
          simp only [Act.put, List.getElem_toArray, List.getElem_cons_succ, List.getElem_cons_zero, List.setIfInBounds_toArray, List.set_cons_zero, List.set_cons_succ]
          refine wpAnyH_take (i := 2) (v := .pointer (some ⟨b6, 3, none⟩)) rfl (by kernel_rfl) (by kernel_rfl) (by kernel_rfl) (fun _ _ _ h => h) (Or.inl ⟨by kernel_rfl, by intro w hS; go_simp⟩) ⟨R6, R4⟩ ?_
          simp only [Act.put, List.getElem_toArray, List.getElem_cons_succ, List.getElem_cons_zero, List.setIfInBounds_toArray, List.set_cons_zero, List.set_cons_succ]
          refine wpAnyH_take (i := 3) (v := .int .i64 (Z : Int)) rfl (by kernel_rfl) (by kernel_rfl) (by kernel_rfl) (fun _ _ _ h => h) (yields_loadI (.tmp 25) rfl (by kernel_rfl) b6 3 (by kernel_rfl) (Z : Int) (fun w h => (h.1.cell 3).trans cK)) ⟨R6, R4⟩ ?_
          simp only [Act.put, List.getElem_toArray, List.getElem_cons_succ, List.getElem_cons_zero, List.setIfInBounds_toArray, List.set_cons_zero, List.set_cons_succ]
          refine wpAnyH_take (i := 4) (v := .pointer (some ⟨b4, 0, none⟩)) rfl (by kernel_rfl) (by kernel_rfl) (by kernel_rfl) (fun _ _ _ h => h) (Or.inl ⟨by kernel_rfl, by intro w hS; go_simp⟩) ⟨R6, R4⟩ ?_
          simp only [Act.put, List.getElem_toArray, List.getElem_cons_succ, List.getElem_cons_zero, List.setIfInBounds_toArray, List.set_cons_zero, List.set_cons_succ]
          refine wpAnyH_take (i := 5) (v := .pointer (some ⟨b4, 6 * A, none⟩)) rfl (by kernel_rfl) (by kernel_rfl) (by kernel_rfl) (fun _ _ _ h => h) (yields_indexG 36 (.tmp 27) (.tmp 24) rfl (by kernel_rfl) _ _ _ (by kernel_rfl) (by kernel_rfl) (idxA b4 A hA3)) ⟨R6, R4⟩ ?_
          simp only [Act.put, List.getElem_toArray, List.getElem_cons_succ, List.getElem_cons_zero, List.setIfInBounds_toArray, List.set_cons_zero, List.set_cons_succ]
          refine wpAnyH_take (i := 6) (v := .pointer (some ⟨b4, 6 * A + Z, none⟩)) rfl (by kernel_rfl) (by kernel_rfl) (by kernel_rfl) (fun _ _ _ h => h) (yields_indexG 35 (.tmp 28) (.tmp 26) rfl (by kernel_rfl) _ _ _ (by kernel_rfl) (by kernel_rfl) (idxK b4 A Z hK6)) ⟨R6, R4⟩ ?_
          simp only [Act.put, List.getElem_toArray, List.getElem_cons_succ, List.getElem_cons_zero, List.setIfInBounds_toArray, List.set_cons_zero, List.set_cons_succ]
          refine wpAnyH_take (i := 7) (v := .int .i64 (F (6 * A + Z))) rfl (by kernel_rfl) (by kernel_rfl) (by kernel_rfl) (fun _ _ _ h => h) (yields_loadI (.tmp 29) rfl (by kernel_rfl) b4 (6 * A + Z) (by kernel_rfl) (F (6 * A + Z)) (fun w h => (h.2.cell _).trans (pc_own F g0' _ h18))) ⟨R6, R4⟩ ?_
          simp only [Act.put, List.getElem_toArray, List.getElem_cons_succ, List.getElem_cons_zero, List.setIfInBounds_toArray, List.set_cons_zero, List.set_cons_succ]
          refine wpAnyH_take (i := 8) (v := .agg (ec e)) rfl (by kernel_rfl) (by kernel_rfl) (by kernel_rfl) (fun _ _ _ h => h) (yields_loadR 29 (.tmp 6) rfl (by kernel_rfl) b6 (by kernel_rfl) (ec e) (fun w h => h.1) _ Tryd.underlying29 rfl (ec_info e)) ⟨R6, R4⟩ ?_
          simp only [Act.put, List.getElem_toArray, List.getElem_cons_succ, List.getElem_cons_zero, List.setIfInBounds_toArray, List.set_cons_zero, List.set_cons_succ]
          refine wpAnyH_ready (rs := [9]) (by kernel_rfl) (by simp) ?_
          refine AllReadyH.cons rfl (fun K hK => ?_) ?_
          · go_simp
            go_at_call 30; refine (CO _).mono ?_; rintro x w5 ⟨rfl, hb5⟩; replace hb5 := below_undrE hb5; replace R6 := R6.below hb5; replace R2 := R2.below hb5; replace R4 := R4.below hb5; replace hB := hB.trans (hb5.mono hB.size)
            go_wp2_with fail
            refine hK.out _ _ ⟨R6, R4⟩ (fun _ => ?_)
            clear hK K
            try simp only [Act.put, List.getElem_toArray, List.getElem_cons_succ, List.getElem_cons_zero, List.setIfInBounds_toArray, List.set_cons_zero, List.set_cons_succ]
            refine wpAnyH_take (i := 10) (v := .tuple #[.int .i64 (ownN e), .int .i64 0]) rfl (by kernel_rfl) (by kernel_rfl) (by kernel_rfl) (fun _ _ _ h => h) (Or.inl ⟨by kernel_rfl, by intro w hS; go_simp⟩) ⟨R6, R4⟩ ?_
            simp only [Act.put, List.getElem_toArray, List.getElem_cons_succ, List.getElem_cons_zero, List.setIfInBounds_toArray, List.set_cons_zero, List.set_cons_succ]
            refine wpAnyH_take (i := 11) (v := .int .i64 (ownN e)) rfl (by kernel_rfl) (by kernel_rfl) (by kernel_rfl) (fun _ _ _ h => h) (Or.inl ⟨by kernel_rfl, by intro w hS; go_simp⟩) ⟨R6, R4⟩ ?_
            simp only [Act.put, List.getElem_toArray, List.getElem_cons_succ, List.getElem_cons_zero, List.setIfInBounds_toArray, List.set_cons_zero, List.set_cons_succ]
            refine wpAnyH_take (i := 12) (v := .int .i64 0) rfl (by kernel_rfl) (by kernel_rfl) (by kernel_rfl) (fun _ _ _ h => h) (Or.inl ⟨by kernel_rfl, by intro w hS; go_simp⟩) ⟨R6, R4⟩ ?_
            simp only [Act.put, List.getElem_toArray, List.getElem_cons_succ, List.getElem_cons_zero, List.setIfInBounds_toArray, List.set_cons_zero, List.set_cons_succ]
            refine wpAnyH_take (i := 13) (v := .int .i64 (ownN e)) rfl (by kernel_rfl) (by kernel_rfl) (by kernel_rfl) (fun _ _ _ h => h) (Or.inl ⟨by kernel_rfl, by intro w hS; go_simp⟩) ⟨R6, R4⟩ ?_
            simp only [Act.put, List.getElem_toArray, List.getElem_cons_succ, List.getElem_cons_zero, List.setIfInBounds_toArray, List.set_cons_zero, List.set_cons_succ]
            refine wpAnyH_take (i := 14) (v := .int .i64 0) rfl (by kernel_rfl) (by kernel_rfl) (by kernel_rfl) (fun _ _ _ h => h) (Or.inl ⟨by kernel_rfl, by intro w hS; go_simp⟩) ⟨R6, R4⟩ ?_
            simp only [Act.put, List.getElem_toArray, List.getElem_cons_succ, List.getElem_cons_zero, List.setIfInBounds_toArray, List.set_cons_zero, List.set_cons_succ]
            refine wpAnyH_done (by kernel_rfl) ?_ _
            refine NoPanic.normal ?_
            go_upto_region 11 with fail
            refine wp_region_noPanic ?_
            refine wp_region_held_drew (S := fun W => Row 29 W b6 (ec e)) (by kernel_rfl) R6 (fun _ => ?_)
            refine wpAnyH_take (i := 0) (v := .pointer (some ⟨b6, 2, none⟩)) rfl (by kernel_rfl) (by kernel_rfl) (by kernel_rfl) (fun _ _ _ h => h) (Or.inl ⟨by kernel_rfl, by intro w hS; go_simp⟩) R6 ?_
            simp only [Act.put, List.getElem_toArray, List.getElem_cons_succ, List.getElem_cons_zero, List.setIfInBounds_toArray, List.set_cons_zero, List.set_cons_succ]
            refine wpAnyH_take (i := 1) (v := .int .i64 (A : Int)) rfl (by kernel_rfl) (by kernel_rfl) (by kernel_rfl) (fun _ _ _ h => h) (yields_loadI (.tmp 39) rfl (by kernel_rfl) b6 2 (by kernel_rfl) (A : Int) (fun w h => (h.cell 2).trans cA)) R6 ?_
            simp only [Act.put, List.getElem_toArray, List.getElem_cons_succ, List.getElem_cons_zero, List.setIfInBounds_toArray, List.set_cons_zero, List.set_cons_succ]
            refine wpAnyH_take (i := 2) (v := .pointer (some ⟨b6, 3, none⟩)) rfl (by kernel_rfl) (by kernel_rfl) (by kernel_rfl) (fun _ _ _ h => h) (Or.inl ⟨by kernel_rfl, by intro w hS; go_simp⟩) R6 ?_
            simp only [Act.put, List.getElem_toArray, List.getElem_cons_succ, List.getElem_cons_zero, List.setIfInBounds_toArray, List.set_cons_zero, List.set_cons_succ]
            refine wpAnyH_take (i := 3) (v := .int .i64 (Z : Int)) rfl (by kernel_rfl) (by kernel_rfl) (by kernel_rfl) (fun _ _ _ h => h) (yields_loadI (.tmp 41) rfl (by kernel_rfl) b6 3 (by kernel_rfl) (Z : Int) (fun w h => (h.cell 3).trans cK)) R6 ?_
            simp only [Act.put, List.getElem_toArray, List.getElem_cons_succ, List.getElem_cons_zero, List.setIfInBounds_toArray, List.set_cons_zero, List.set_cons_succ]
            refine wpAnyH_take (i := 4) (v := .int .i64 (ownN e)) rfl (by kernel_rfl) (by kernel_rfl) (by kernel_rfl) (fun _ _ _ h => h) (Or.inl ⟨by kernel_rfl, by intro w hS; go_simp⟩) R6 ?_
            simp only [Act.put, List.getElem_toArray, List.getElem_cons_succ, List.getElem_cons_zero, List.setIfInBounds_toArray, List.set_cons_zero, List.set_cons_succ]
            refine wpAnyH_take (i := 5) (v := .pointer (some ⟨b4, 0, none⟩)) rfl (by kernel_rfl) (by kernel_rfl) (by kernel_rfl) (fun _ _ _ h => h) (Or.inl ⟨by kernel_rfl, by intro w hS; go_simp⟩) R6 ?_
            simp only [Act.put, List.getElem_toArray, List.getElem_cons_succ, List.getElem_cons_zero, List.setIfInBounds_toArray, List.set_cons_zero, List.set_cons_succ]
            refine wpAnyH_take (i := 6) (v := .pointer (some ⟨b4, 6 * A, none⟩)) rfl (by kernel_rfl) (by kernel_rfl) (by kernel_rfl) (fun _ _ _ h => h) (yields_indexG 36 (.tmp 44) (.tmp 40) rfl (by kernel_rfl) _ _ _ (by kernel_rfl) (by kernel_rfl) (idxA b4 A hA3)) R6 ?_
            simp only [Act.put, List.getElem_toArray, List.getElem_cons_succ, List.getElem_cons_zero, List.setIfInBounds_toArray, List.set_cons_zero, List.set_cons_succ]
            refine wpAnyH_take (i := 7) (v := .pointer (some ⟨b4, 6 * A + Z, none⟩)) rfl (by kernel_rfl) (by kernel_rfl) (by kernel_rfl) (fun _ _ _ h => h) (yields_indexG 35 (.tmp 45) (.tmp 42) rfl (by kernel_rfl) _ _ _ (by kernel_rfl) (by kernel_rfl) (idxK b4 A Z hK6)) R6 ?_
            simp only [Act.put, List.getElem_toArray, List.getElem_cons_succ, List.getElem_cons_zero, List.setIfInBounds_toArray, List.set_cons_zero, List.set_cons_succ]
            refine wpAnyH_ready (rs := [8]) (by kernel_rfl) (by simp) ?_
            refine AllReadyH.cons rfl (fun K hK => ?_) ?_
            · rw [if_pos (by kernel_rfl)]
              refine wp_storeI R4 (.tmp 46) (.tmp 43) rfl (6 * A + Z) (by kernel_rfl) (ownN e) (by kernel_rfl) _ (pc_own F g0' _ h18) _ (pc_set F g0' _ _ h18) ?_; intro w7 R4 t7; replace R6 := t7.row R6 n46.symm; replace R2 := t7.row R2 n24; replace hB := t7.below _ _ l4 (below_drewE hB)
              refine hK.out _ _ R6 (fun _ => ?_)
              clear hK K
              try simp only [Act.put, List.getElem_toArray, List.getElem_cons_succ, List.getElem_cons_zero, List.setIfInBounds_toArray, List.set_cons_zero, List.set_cons_succ]
              refine wpAnyH_done (by kernel_rfl) ?_ _
              refine NoPanic.normal ?_
              go_wp2
              go_roundw
              case rel => first | exact ⟨j + 1, by omega, by go_num, _, HW, hB, R2, R4⟩ | ((repeat apply Exists.intro); exact ⟨⟨j + 1, by omega, by go_num, _, HW, hB, R2, R4⟩, rfl⟩)
              case measure => (first | rw [hjw] | skip); exact ev_meas (HN.out.symm ▸ hlj)
            exact AllReadyH.nil
          exact AllReadyH.nil
        · have HW2 : Hid (walkO z0 es = _) := HW.out.trans (walkO_err F hlj he hk hbh)
          have HS : Hid (ownS es = _) := ownS_of HW2
          clear HW2
          obtain ⟨A, Z, hA, hK, hA3, hK6⟩ : ∃ A Z : Nat, e.a = (A : Int) ∧ e.b = (Z : Int) ∧ A < 3 ∧ Z < 6 := ⟨e.a.toNat, e.b.toNat, by have := hk.2.2.1; omega, by have := hk.2.2.2; omega, by have := hk.2.2.1; omega, by have := hk.2.2.2; omega⟩
          have hat : at6 e = 6 * A + Z := by unfold at6; omega
          have h18 : 6 * A + Z < 18 := by omega
          have hs0 := hk.2.1.1
          have hs1 := hk.2.1.2
          rw [hat] at hbh HS
          have cA : (ec e)[2]? = some (.int .i64 (A : Int)) := by rw [← hA]; rfl
          have cK : (ec e)[3]? = some (.int .i64 (Z : Int)) := by rw [← hK]; rfl
          obtain ⟨E, hE⟩ : ∃ E, bhE (F (6 * A + Z)) e = E := ⟨_, rfl⟩
          have CO : ∀ w, Calls Tryd.prog 30 #[.int .i64 (F (6 * A + Z)), .agg (ec e)] w fun x w' => x = .returned (.tuple #[.int .i64 0, .int .i64 E]) ∧ Below w.heap.size w w' := fun w => by have := behind_any (F (6 * A + Z)) e w hs0 hs1; rw [show bhN (F (6 * A + Z)) e = 0 by unfold bhN; rw [if_neg hbh], hE] at this; exact this
          rw [hE] at hbh HS
          have hE0 : (E != 0) = true := by simpa using hbh
          clear hA hK hat hbh he hk hE HW
          go_upto_region 8 with (first
            | ((with_reducible refine atOp (.indexAddr 22 (.tmp 10) (.tmp 12)) rfl ?_); refine wpList_indexG 22 (.tmp 10) (.tmp 12) rfl rfl _ _ _ rfl rfl (IR _) ?_)
            | ((with_reducible refine atOp (.load 29 (.tmp 14)) rfl ?_); refine wpList_loadE (.tmp 14) rfl rfl _ _ rfl e hrg ?_)
            | ((with_reducible refine atOp (.alloc 29) rfl ?_); refine wpList_allocX 6 29 rfl rfl rfl _ ev_zero ?_; intro b6 w3 l6 R6 hb3; have n26 := R2.ne l6; have n46 := R4.ne l6; replace l6 := Nat.le_trans hB.size l6; replace R2 := R2.below hb3; replace R4 := R4.below hb3; replace hB := hB.trans (hb3.mono hB.size); clear hrg hMW)
            | ((with_reducible refine atOp (.store 29 (.tmp 6) (.tmp 15)) rfl ?_); refine wpList_storeR 29 rfl (.tmp 6) (.tmp 15) rfl b6 rfl (ec e) rfl _ R6 rfl (ec_info e) (ec_one e) ?_; intro w4 R6 t4; replace R2 := t4.row R2 n26; replace R4 := t4.row R4 n46; replace hB := t4.below _ _ l6 hB)
            | ((with_reducible refine atOp (.load 29 (.tmp 6)) rfl ?_); refine wpList_loadR 29 (.tmp 6) rfl rfl b6 rfl (ec e) R6 _ Tryd.underlying29 rfl (ec_info e) ?_)
            | (go_at_call 12; go_fit (CG _); rintro x w5 ⟨rfl, hb5⟩; replace R6 := R6.below hb5; replace R2 := R2.below hb5; replace R4 := R4.below hb5; replace hB := hB.trans (hb5.mono hB.size)))
          refine wp_region_noPanic ?_
          refine wp_region_held_drew (S := fun W => Row 29 W b6 (ec e) ∧ Row 39 W b4 (pc F g0')) (by kernel_rfl) ⟨R6, R4⟩ (fun _ => ?_)
          refine wpAnyH_take (i := 0) (v := .pointer (some ⟨b6, 2, none⟩)) rfl (by kernel_rfl) (by kernel_rfl) (by kernel_rfl) (fun _ _ _ h => h) (Or.inl ⟨by kernel_rfl, by intro w hS; go_simp⟩) ⟨R6, R4⟩ ?_
          simp only [Act.put, List.getElem_toArray, List.getElem_cons_succ, List.getElem_cons_zero, List.setIfInBounds_toArray, List.set_cons_zero, List.set_cons_succ]
          refine wpAnyH_take (i := 1) (v := .int .i64 (A : Int)) rfl (by kernel_rfl) (by kernel_rfl) (by kernel_rfl) (fun _ _ _ h => h) (yields_loadI (.tmp 23) rfl (by kernel_rfl) b6 2 (by kernel_rfl) (A : Int) (fun w h => (h.1.cell 2).trans cA)) ⟨R6, R4⟩ ?_
          simp only [Act.put, List.getElem_toArray, List.getElem_cons_succ, List.getElem_cons_zero, List.setIfInBounds_toArray, List.set_cons_zero, List.set_cons_succ]
          refine wpAnyH_take (i := 2) (v := .pointer (some ⟨b6, 3, none⟩)) rfl (by kernel_rfl) (by kernel_rfl) (by kernel_rfl) (fun _ _ _ h => h) (Or.inl ⟨by kernel_rfl, by intro w hS; go_simp⟩) ⟨R6, R4⟩ ?_
          simp only [Act.put, List.getElem_toArray, List.getElem_cons_succ, List.getElem_cons_zero, List.setIfInBounds_toArray, List.set_cons_zero, List.set_cons_succ]
          refine wpAnyH_take (i := 3) (v := .int .i64 (Z : Int)) rfl (by kernel_rfl) (by kernel_rfl) (by kernel_rfl) (fun _ _ _ h => h) (yields_loadI (.tmp 25) rfl (by kernel_rfl) b6 3 (by kernel_rfl) (Z : Int) (fun w h => (h.1.cell 3).trans cK)) ⟨R6, R4⟩ ?_
          simp only [Act.put, List.getElem_toArray, List.getElem_cons_succ, List.getElem_cons_zero, List.setIfInBounds_toArray, List.set_cons_zero, List.set_cons_succ]
          refine wpAnyH_take (i := 4) (v := .pointer (some ⟨b4, 0, none⟩)) rfl (by kernel_rfl) (by kernel_rfl) (by kernel_rfl) (fun _ _ _ h => h) (Or.inl ⟨by kernel_rfl, by intro w hS; go_simp⟩) ⟨R6, R4⟩ ?_
          simp only [Act.put, List.getElem_toArray, List.getElem_cons_succ, List.getElem_cons_zero, List.setIfInBounds_toArray, List.set_cons_zero, List.set_cons_succ]
          refine wpAnyH_take (i := 5) (v := .pointer (some ⟨b4, 6 * A, none⟩)) rfl (by kernel_rfl) (by kernel_rfl) (by kernel_rfl) (fun _ _ _ h => h) (yields_indexG 36 (.tmp 27) (.tmp 24) rfl (by kernel_rfl) _ _ _ (by kernel_rfl) (by kernel_rfl) (idxA b4 A hA3)) ⟨R6, R4⟩ ?_
          simp only [Act.put, List.getElem_toArray, List.getElem_cons_succ, List.getElem_cons_zero, List.setIfInBounds_toArray, List.set_cons_zero, List.set_cons_succ]
          refine wpAnyH_take (i := 6) (v := .pointer (some ⟨b4, 6 * A + Z, none⟩)) rfl (by kernel_rfl) (by kernel_rfl) (by kernel_rfl) (fun _ _ _ h => h) (yields_indexG 35 (.tmp 28) (.tmp 26) rfl (by kernel_rfl) _ _ _ (by kernel_rfl) (by kernel_rfl) (idxK b4 A Z hK6)) ⟨R6, R4⟩ ?_
          simp only [Act.put, List.getElem_toArray, List.getElem_cons_succ, List.getElem_cons_zero, List.setIfInBounds_toArray, List.set_cons_zero, List.set_cons_succ]
          refine wpAnyH_take (i := 7) (v := .int .i64 (F (6 * A + Z))) rfl (by kernel_rfl) (by kernel_rfl) (by kernel_rfl) (fun _ _ _ h => h) (yields_loadI (.tmp 29) rfl (by kernel_rfl) b4 (6 * A + Z) (by kernel_rfl) (F (6 * A + Z)) (fun w h => (h.2.cell _).trans (pc_own F g0' _ h18))) ⟨R6, R4⟩ ?_
          simp only [Act.put, List.getElem_toArray, List.getElem_cons_succ, List.getElem_cons_zero, List.setIfInBounds_toArray, List.set_cons_zero, List.set_cons_succ]
          refine wpAnyH_take (i := 8) (v := .agg (ec e)) rfl (by kernel_rfl) (by kernel_rfl) (by kernel_rfl) (fun _ _ _ h => h) (yields_loadR 29 (.tmp 6) rfl (by kernel_rfl) b6 (by kernel_rfl) (ec e) (fun w h => h.1) _ Tryd.underlying29 rfl (ec_info e)) ⟨R6, R4⟩ ?_
          simp only [Act.put, List.getElem_toArray, List.getElem_cons_succ, List.getElem_cons_zero, List.setIfInBounds_toArray, List.set_cons_zero, List.set_cons_succ]
          refine wpAnyH_ready (rs := [9]) (by kernel_rfl) (by simp) ?_
          refine AllReadyH.cons rfl (fun K hK => ?_) ?_
          · go_simp
            go_at_call 30; refine (CO _).mono ?_; rintro x w5 ⟨rfl, hb5⟩; replace hb5 := below_undrE hb5; replace R6 := R6.below hb5; replace R2 := R2.below hb5; replace R4 := R4.below hb5; replace hB := hB.trans (hb5.mono hB.size)
            go_wp2_with fail
            refine hK.out _ _ ⟨R6, R4⟩ (fun _ => ?_)
            clear hK K
            try simp only [Act.put, List.getElem_toArray, List.getElem_cons_succ, List.getElem_cons_zero, List.setIfInBounds_toArray, List.set_cons_zero, List.set_cons_succ]
            refine wpAnyH_take (i := 10) (v := .tuple #[.int .i64 0, .int .i64 E]) rfl (by kernel_rfl) (by kernel_rfl) (by kernel_rfl) (fun _ _ _ h => h) (Or.inl ⟨by kernel_rfl, by intro w hS; go_simp⟩) ⟨R6, R4⟩ ?_
            simp only [Act.put, List.getElem_toArray, List.getElem_cons_succ, List.getElem_cons_zero, List.setIfInBounds_toArray, List.set_cons_zero, List.set_cons_succ]
            refine wpAnyH_take (i := 11) (v := .int .i64 0) rfl (by kernel_rfl) (by kernel_rfl) (by kernel_rfl) (fun _ _ _ h => h) (Or.inl ⟨by kernel_rfl, by intro w hS; go_simp⟩) ⟨R6, R4⟩ ?_
            simp only [Act.put, List.getElem_toArray, List.getElem_cons_succ, List.getElem_cons_zero, List.setIfInBounds_toArray, List.set_cons_zero, List.set_cons_succ]
            refine wpAnyH_take (i := 12) (v := .int .i64 E) rfl (by kernel_rfl) (by kernel_rfl) (by kernel_rfl) (fun _ _ _ h => h) (Or.inl ⟨by kernel_rfl, by intro w hS; go_simp⟩) ⟨R6, R4⟩ ?_
            simp only [Act.put, List.getElem_toArray, List.getElem_cons_succ, List.getElem_cons_zero, List.setIfInBounds_toArray, List.set_cons_zero, List.set_cons_succ]
            refine wpAnyH_take (i := 13) (v := .int .i64 0) rfl (by kernel_rfl) (by kernel_rfl) (by kernel_rfl) (fun _ _ _ h => h) (Or.inl ⟨by kernel_rfl, by intro w hS; go_simp⟩) ⟨R6, R4⟩ ?_
            simp only [Act.put, List.getElem_toArray, List.getElem_cons_succ, List.getElem_cons_zero, List.setIfInBounds_toArray, List.set_cons_zero, List.set_cons_succ]
            refine wpAnyH_take (i := 14) (v := .int .i64 E) rfl (by kernel_rfl) (by kernel_rfl) (by kernel_rfl) (fun _ _ _ h => h) (Or.inl ⟨by kernel_rfl, by intro w hS; go_simp⟩) ⟨R6, R4⟩ ?_
            simp only [Act.put, List.getElem_toArray, List.getElem_cons_succ, List.getElem_cons_zero, List.setIfInBounds_toArray, List.set_cons_zero, List.set_cons_succ]
            refine wpAnyH_done (by kernel_rfl) ?_ _
            refine NoPanic.normal ?_
            go_wp2_with (first
              | ((with_reducible refine atOp (.build 39 #[]) rfl ?_); refine wpList_buildZ 39 rfl rfl _ pool_build ?_)
              | ((with_reducible refine atOp (.store 39 (.tmp 2) (.tmp 37)) rfl ?_); refine wpList_storeR 39 rfl (.tmp 2) (.tmp 37) rfl b2 rfl (pc z0 g0') rfl _ R2 rfl (pc_info _ _) (pc_one _ _) ?_; intro w6 R2 t6; replace hB := t6.below _ _ l2 hB))
            ((try simp only [Exit.inBlock, Exit.then]); refine bodyPost_ret (results_row2 (p := 2) (u := 3) rfl _ _ _ _ rfl R2 _ Tryd.underlying39 rfl (pc_info _ _)) rfl ⟨?_, hB⟩)
            rw [HS.out]; rfl
          exact AllReadyH.nil
      · have HW2 : Hid (walkO z0 es = _) := HW.out.trans (walkO_bad F hlj he hk)
        have HS : Hid (ownS es = _) := ownS_of HW2
        have CG : ∀ w, Calls Tryd.prog 12 #[.agg (ec e)] w fun x w' => x = .returned (.int .i64 2) ∧ Below w.heap.size w w' := fun w => by have := goodEv_any e w; rw [goodE_no hk] at this; exact this
        clear HW HW2 hk he
        go_wp2_with (first
          | ((with_reducible refine atOp (.indexAddr 22 (.tmp 10) (.tmp 12)) rfl ?_); refine wpList_indexG 22 (.tmp 10) (.tmp 12) rfl rfl _ _ _ rfl rfl (IR _) ?_)
          | ((with_reducible refine atOp (.load 29 (.tmp 14)) rfl ?_); refine wpList_loadE (.tmp 14) rfl rfl _ _ rfl e hrg ?_)
          | ((with_reducible refine atOp (.alloc 29) rfl ?_); refine wpList_allocX 6 29 rfl rfl rfl _ ev_zero ?_; intro b6 w3 l6 R6 hb3; have n26 := R2.ne l6; have n46 := R4.ne l6; replace l6 := Nat.le_trans hB.size l6; replace R2 := R2.below hb3; replace R4 := R4.below hb3; replace hB := hB.trans (hb3.mono hB.size); clear hrg hMW)
          | ((with_reducible refine atOp (.store 29 (.tmp 6) (.tmp 15)) rfl ?_); refine wpList_storeR 29 rfl (.tmp 6) (.tmp 15) rfl b6 rfl (ec e) rfl _ R6 rfl (ec_info e) (ec_one e) ?_; intro w4 R6 t4; replace R2 := t4.row R2 n26; replace R4 := t4.row R4 n46; replace hB := t4.below _ _ l6 hB)
          | ((with_reducible refine atOp (.load 29 (.tmp 6)) rfl ?_); refine wpList_loadR 29 (.tmp 6) rfl rfl b6 rfl (ec e) R6 _ Tryd.underlying29 rfl (ec_info e) ?_)
          | (go_at_call 12; go_fit (CG _); rintro x w5 ⟨rfl, hb5⟩; replace R6 := R6.below hb5; replace R2 := R2.below hb5; replace R4 := R4.below hb5; replace hB := hB.trans (hb5.mono hB.size))
          | ((with_reducible refine atOp (.build 39 #[]) rfl ?_); refine wpList_buildZ 39 rfl rfl _ pool_build ?_)
          | ((with_reducible refine atOp (.store 39 (.tmp 2) (.tmp 20)) rfl ?_); refine wpList_storeR 39 rfl (.tmp 2) (.tmp 20) rfl b2 rfl (pc z0 g0') rfl _ R2 rfl (pc_info _ _) (pc_one _ _) ?_; intro w6 R2 t6; replace hB := t6.below _ _ l2 hB))
        ((try simp only [Exit.inBlock, Exit.then]); refine bodyPost_ret (results_row2 (p := 2) (u := 3) rfl _ _ _ _ rfl R2 _ Tryd.underlying39 rfl (pc_info _ _)) rfl ⟨?_, hB⟩)
        rw [HS.out]; rfl
    · have HS : Hid (ownS es = _) := ownS_of (HW.out.trans (walkO_end F es j (by omega)))
      have hjn : ¬ (j : Int) < (n : Int) := by have := HN.out; omega
      clear HW
      go_wp2_with (first
        | ((with_reducible refine atOp (.load 39 (.tmp 4)) rfl ?_); refine wpList_loadR 39 (.tmp 4) rfl rfl b4 rfl (pc F g0') R4 _ Tryd.underlying39 rfl (pc_info _ _) ?_)
        | ((with_reducible refine atOp (.store 39 (.tmp 2) (.tmp 48)) rfl ?_); refine wpList_storeR 39 rfl (.tmp 2) (.tmp 48) rfl b2 rfl (pc F g0') rfl _ R2 rfl (pc_info _ _) (pc_one _ _) ?_; intro w6 R2 t6; replace hB := t6.below _ _ l2 hB))
      ((try simp only [Exit.inBlock, Exit.then]); refine bodyPost_ret (results_row2 (p := 2) (u := 3) rfl _ _ _ _ rfl R2 _ Tryd.underlying39 rfl (pc_info _ _)) rfl ⟨?_, hB⟩)
      rw [HS.out]; rfl
end Go.Proofs.YtnhafdkfjjplkaaDoor
