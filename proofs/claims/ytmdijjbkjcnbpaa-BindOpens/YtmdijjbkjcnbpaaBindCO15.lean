/-
  Of what BindCloses, BindOpens stands on: part 15.
-/
import Derived.Deep.RegionHeld3
import Derived.Test.YtmdijjbkjcnbpaaBindCO12
import Derived.Test.YtmdijjbkjcnbpaaBindCO14
namespace Go.Proofs.Ytmdijjbkjcnbpaa
open Go.ChangeShapes Go.WideShapes Go.ChangeAt Go.RowKit
set_option linter.unusedSimpArgs false
set_option linter.unusedVariables false

theorem meetsB_at {ms : List Mp} {j : Nat} {m o : Mp} (hlj : j < ms.length) (hm : ms[j] = o) (h : (inS m.1 m.2.1 m.2.2.1 o || outS m.1 m.2.2.2.1 m.2.2.2.2 o) = true) : meetsB ms m = true := by
  unfold meetsB; rw [List.any_eq_true]; exact ⟨o, hm ▸ List.getElem_mem hlj, h⟩
theorem meetsB_step {ms : List Mp} {j : Nat} {m o : Mp} (hno : meetsB (ms.take j) m = false) (hlj : j < ms.length) (hm : ms[j] = o) (h1 : inS m.1 m.2.1 m.2.2.1 o = false) (h2 : outS m.1 m.2.2.2.1 m.2.2.2.2 o = false) : meetsB (ms.take (j + 1)) m = false := by
  unfold meetsB at *; rw [take_next hlj hm, List.any_append, hno]; simp [h1, h2]
set_option maxRecDepth 10000 in
set_option maxHeartbeats 4000000 in
theorem meets_any (sl : Value) (ms : List Mp) (m : Mp) (w : World) (hM : MapsAt w sl ms) :
    Calls Try.prog 32 #[sl, .agg (mc m)] w fun e w' => e = .returned (.bool (meetsB ms m)) ∧ Below w.heap.size w w' := by
  have hB := Below.refl w.heap.size w
  have hM0 := hM
  obtain ⟨a0, cap, hsl, -⟩ := hM0
  obtain ⟨n, hn⟩ : ∃ n, n = ms.length := ⟨_, rfl⟩
  rw [← hn] at hsl
  subst hsl
  have HN : Hid (n = ms.length) := hn
  clear hn
  have hlt := hM.lt
  go_enter Try.func32, Try.ntmps32
  go_wp2_with (refine wpList_boxR 32 rfl _ rfl _ rfl ?_; intro b3 w1 l3 R3 hb1; replace l3 := Nat.le_trans hB.size l3; replace hB := hB.trans (hb1.mono hB.size))
  go_loopw [9] (fun i W => ∃ j : Nat, j ≤ ms.length ∧ i = .int .i64 j ∧ meetsB (ms.take j) m = false ∧ Below w.heap.size w W ∧ Row 32 W b3 (mc m)) (fun i _ => n - (intOf i).toNat)
  case atStart => exact ⟨0, by omega, rfl, by simp [meetsB], hB, R3⟩
  case round =>
    clear hB R3 hb1
    obtain ⟨j, hj, rfl, hno, hB, R3⟩ := hrel
    by_cases hlj : j < ms.length
    · have hjn : (j : Int) < (n : Int) := by have := HN.out; omega
      have hjw := wrap_next hlj hM.len
      obtain ⟨o, hm⟩ : ∃ o, ms[j] = o := ⟨_, rfl⟩
      have hMW := hM.keep hB hlt
      have hrg := hMW.at j hlj hm
      cases hin : inS m.1 m.2.1 m.2.2.1 o with
      | true =>
        have HF : Hid (meetsB ms m = true) := meetsB_at hlj hm (by rw [hin]; rfl)
        go_wp2_with (first
          | (refine wpList_indexM rfl (.tmp 7) (.tmp 9) rfl (.slice a0 n cap) ms hMW rfl j rfl hlj ?_)
          | (refine wpList_load_mid rfl 32 _ rfl _ _ rfl (mcl o) _ hrg Try.underlying32 rfl (mcl_info o) ?_; rw [mcl_mc])
          | (refine wpList_allocR 32 rfl rfl _ map_zero ?_; intro b6 w3 l6 R6 hb3; have n3 := R3.ne l6; replace l6 := Nat.le_trans hB.size l6; replace R3 := R3.below hb3; replace hB := hB.trans (hb3.mono hB.size))
          | (refine wpList_storeR 32 rfl _ _ rfl b6 rfl (mc o) rfl _ R6 rfl (mc_info o) (mc_one o) ?_; intro w4 R6 t4; replace R3 := t4.row R3 n3; replace hB := t4.below _ _ l6 hB))
        refine wp_region_noPanic ?_
        refine wp_region_held_drew (S := fun W => Row 32 W b6 (mc o) ∧ Row 32 W b3 (mc m)) (by kernel_rfl) ⟨R6, R3⟩ (fun _ => ?_)
        refine wpAnyH_take (i := 0) (v := .agg (mc o)) rfl (by kernel_rfl) (by kernel_rfl) (by kernel_rfl) (fun _ _ _ h => h) (yields_loadR 32 (.tmp 6) rfl (by kernel_rfl) b6 (by kernel_rfl) (mc o) (fun _ h => h.1) _ Try.underlying32 rfl (mc_info o)) ⟨R6, R3⟩ ?_
        simp only [Act.put, List.getElem_toArray, List.getElem_cons_succ, List.getElem_cons_zero, List.setIfInBounds_toArray, List.set_cons_zero, List.set_cons_succ]
        refine wpAnyH_take (i := 2) (v := .agg (mc m)) rfl (by kernel_rfl) (by kernel_rfl) (by kernel_rfl) (fun _ _ _ h => h) (yields_loadR 32 (.tmp 3) rfl (by kernel_rfl) b3 (by kernel_rfl) (mc m) (fun _ h => h.2) _ Try.underlying32 rfl (mc_info m)) ⟨R6, R3⟩ ?_
        simp only [Act.put, List.getElem_toArray, List.getElem_cons_succ, List.getElem_cons_zero, List.setIfInBounds_toArray, List.set_cons_zero, List.set_cons_succ]
        refine wpAnyH_ready (rs := [1]) (by kernel_rfl) (by simp) ?_
        refine AllReadyH.cons rfl (fun K hK => ?_) ?_
        · go_simp
          go_at_call 27; refine (innerOf_any o _).mono ?_; rintro e w5 ⟨rfl, hb5⟩; (try replace hb5 := below_undr' hb5); replace R3 := R3.below hb5; replace R6 := R6.below hb5; replace hB := hB.trans (hb5.mono hB.size)
          go_wp2_with fail
          refine hK.out _ _ ⟨R6, R3⟩ (fun _ => ?_)
          clear hK K
          try simp only [Act.put, List.getElem_toArray, List.getElem_cons_succ, List.getElem_cons_zero, List.setIfInBounds_toArray, List.set_cons_zero, List.set_cons_succ]
          refine wpAnyH_ready (rs := [3]) (by kernel_rfl) (by simp) ?_
          refine AllReadyH.cons rfl (fun K hK => ?_) ?_
          · go_simp
            go_at_call 27; refine (innerOf_any m _).mono ?_; rintro e w5 ⟨rfl, hb5⟩; (try replace hb5 := below_undr' hb5); replace R3 := R3.below hb5; replace R6 := R6.below hb5; replace hB := hB.trans (hb5.mono hB.size)
            go_wp2_with fail
            refine hK.out _ _ ⟨R6, R3⟩ (fun _ => ?_)
            clear hK K
            try simp only [Act.put, List.getElem_toArray, List.getElem_cons_succ, List.getElem_cons_zero, List.setIfInBounds_toArray, List.set_cons_zero, List.set_cons_succ]
            refine wpAnyH_take (i := 4) (v := .bool true) rfl (by kernel_rfl) (by kernel_rfl) (by kernel_rfl) (fun _ _ _ h => h) (yields_eqS 58 (.tmp 14) (.tmp 16) rfl (by kernel_rfl) (ic3 o.1 o.2.1 o.2.2.1) (ic3 m.1 m.2.1 m.2.2.1) (by kernel_rfl) (by kernel_rfl) Try.eqGuardType58 _ _ (fun w => eq_inner _ _ _ _ _ _ w) hin) ⟨R6, R3⟩ ?_
            simp only [Act.put, List.getElem_toArray, List.getElem_cons_succ, List.getElem_cons_zero, List.setIfInBounds_toArray, List.set_cons_zero, List.set_cons_succ]
            refine wpAnyH_take (i := 5) (v := .bool true) rfl (by kernel_rfl) (by kernel_rfl) (by kernel_rfl) (fun _ _ _ h => h) (Or.inl ⟨by kernel_rfl, by intro w hS; go_simp⟩) ⟨R6, R3⟩ ?_
            simp only [Act.put, List.getElem_toArray, List.getElem_cons_succ, List.getElem_cons_zero, List.setIfInBounds_toArray, List.set_cons_zero, List.set_cons_succ]
            refine wpAnyH_take (i := 6) (v := undef) rfl (by kernel_rfl) (by kernel_rfl) (by kernel_rfl) (fun _ _ _ h => h) (Or.inr ⟨by kernel_rfl, rfl⟩) ⟨R6, R3⟩ ?_
            simp only [Act.put, List.getElem_toArray, List.getElem_cons_succ, List.getElem_cons_zero, List.setIfInBounds_toArray, List.set_cons_zero, List.set_cons_succ]
            refine wpAnyH_take (i := 8) (v := undef) rfl (by kernel_rfl) (by kernel_rfl) (by kernel_rfl) (fun _ _ _ h => h) (Or.inr ⟨by kernel_rfl, rfl⟩) ⟨R6, R3⟩ ?_
            simp only [Act.put, List.getElem_toArray, List.getElem_cons_succ, List.getElem_cons_zero, List.setIfInBounds_toArray, List.set_cons_zero, List.set_cons_succ]
            refine wpAnyH_ready (rs := [7]) (by kernel_rfl) (by simp) ?_
            refine AllReadyH.cons rfl (fun K hK => ?_) ?_
            · rw [if_neg (ne_true_of_eq_false (by kernel_rfl))]
              refine hK.out _ _ ⟨R6, R3⟩ (fun _ => ?_)
              clear hK K
              try simp only [Act.put, List.getElem_toArray, List.getElem_cons_succ, List.getElem_cons_zero, List.setIfInBounds_toArray, List.set_cons_zero, List.set_cons_succ]
              refine wpAnyH_ready (rs := [9]) (by kernel_rfl) (by simp) ?_
              refine AllReadyH.cons rfl (fun K hK => ?_) ?_
              · rw [if_neg (ne_true_of_eq_false (by kernel_rfl))]
                refine hK.out _ _ ⟨R6, R3⟩ (fun _ => ?_)
                clear hK K
                try simp only [Act.put, List.getElem_toArray, List.getElem_cons_succ, List.getElem_cons_zero, List.setIfInBounds_toArray, List.set_cons_zero, List.set_cons_succ]
                refine wpAnyH_take (i := 10) (v := undef) rfl (by kernel_rfl) (by kernel_rfl) (by kernel_rfl) (fun _ _ _ h => h) (Or.inr ⟨by kernel_rfl, rfl⟩) ⟨R6, R3⟩ ?_
                simp only [Act.put, List.getElem_toArray, List.getElem_cons_succ, List.getElem_cons_zero, List.setIfInBounds_toArray, List.set_cons_zero, List.set_cons_succ]
                refine wpAnyH_take (i := 11) (v := .bool true) rfl (by kernel_rfl) (by kernel_rfl) (by kernel_rfl) (fun _ _ _ h => h) (Or.inl ⟨by kernel_rfl, by intro w hS; go_simp⟩) ⟨R6, R3⟩ ?_
                simp only [Act.put, List.getElem_toArray, List.getElem_cons_succ, List.getElem_cons_zero, List.setIfInBounds_toArray, List.set_cons_zero, List.set_cons_succ]
                refine wpAnyH_done (by kernel_rfl) ?_ _
                refine NoPanic.normal ?_
                go_wp2
                go_ret
                exact ⟨by rw [HF.out]; rfl, hB⟩
              exact AllReadyH.nil
            exact AllReadyH.nil
          exact AllReadyH.nil
        exact AllReadyH.nil
      | false =>
        cases hout : outS m.1 m.2.2.2.1 m.2.2.2.2 o with
        | true =>
          have HF : Hid (meetsB ms m = true) := meetsB_at hlj hm (by rw [hout]; simp)
          go_wp2_with (first
            | (refine wpList_indexM rfl (.tmp 7) (.tmp 9) rfl (.slice a0 n cap) ms hMW rfl j rfl hlj ?_)
            | (refine wpList_load_mid rfl 32 _ rfl _ _ rfl (mcl o) _ hrg Try.underlying32 rfl (mcl_info o) ?_; rw [mcl_mc])
            | (refine wpList_allocR 32 rfl rfl _ map_zero ?_; intro b6 w3 l6 R6 hb3; have n3 := R3.ne l6; replace l6 := Nat.le_trans hB.size l6; replace R3 := R3.below hb3; replace hB := hB.trans (hb3.mono hB.size))
            | (refine wpList_storeR 32 rfl _ _ rfl b6 rfl (mc o) rfl _ R6 rfl (mc_info o) (mc_one o) ?_; intro w4 R6 t4; replace R3 := t4.row R3 n3; replace hB := t4.below _ _ l6 hB))
          refine wp_region_noPanic ?_
          refine wp_region_held_drew (S := fun W => Row 32 W b6 (mc o) ∧ Row 32 W b3 (mc m)) (by kernel_rfl) ⟨R6, R3⟩ (fun _ => ?_)
          refine wpAnyH_take (i := 0) (v := .agg (mc o)) rfl (by kernel_rfl) (by kernel_rfl) (by kernel_rfl) (fun _ _ _ h => h) (yields_loadR 32 (.tmp 6) rfl (by kernel_rfl) b6 (by kernel_rfl) (mc o) (fun _ h => h.1) _ Try.underlying32 rfl (mc_info o)) ⟨R6, R3⟩ ?_
          simp only [Act.put, List.getElem_toArray, List.getElem_cons_succ, List.getElem_cons_zero, List.setIfInBounds_toArray, List.set_cons_zero, List.set_cons_succ]
          refine wpAnyH_take (i := 2) (v := .agg (mc m)) rfl (by kernel_rfl) (by kernel_rfl) (by kernel_rfl) (fun _ _ _ h => h) (yields_loadR 32 (.tmp 3) rfl (by kernel_rfl) b3 (by kernel_rfl) (mc m) (fun _ h => h.2) _ Try.underlying32 rfl (mc_info m)) ⟨R6, R3⟩ ?_
          simp only [Act.put, List.getElem_toArray, List.getElem_cons_succ, List.getElem_cons_zero, List.setIfInBounds_toArray, List.set_cons_zero, List.set_cons_succ]
          refine wpAnyH_ready (rs := [1]) (by kernel_rfl) (by simp) ?_
          refine AllReadyH.cons rfl (fun K hK => ?_) ?_
          · go_simp
            go_at_call 27; refine (innerOf_any o _).mono ?_; rintro e w5 ⟨rfl, hb5⟩; (try replace hb5 := below_undr' hb5); replace R3 := R3.below hb5; replace R6 := R6.below hb5; replace hB := hB.trans (hb5.mono hB.size)
            go_wp2_with fail
            refine hK.out _ _ ⟨R6, R3⟩ (fun _ => ?_)
            clear hK K
            try simp only [Act.put, List.getElem_toArray, List.getElem_cons_succ, List.getElem_cons_zero, List.setIfInBounds_toArray, List.set_cons_zero, List.set_cons_succ]
            refine wpAnyH_ready (rs := [3]) (by kernel_rfl) (by simp) ?_
            refine AllReadyH.cons rfl (fun K hK => ?_) ?_
            · go_simp
              go_at_call 27; refine (innerOf_any m _).mono ?_; rintro e w5 ⟨rfl, hb5⟩; (try replace hb5 := below_undr' hb5); replace R3 := R3.below hb5; replace R6 := R6.below hb5; replace hB := hB.trans (hb5.mono hB.size)
              go_wp2_with fail
              refine hK.out _ _ ⟨R6, R3⟩ (fun _ => ?_)
              clear hK K
              try simp only [Act.put, List.getElem_toArray, List.getElem_cons_succ, List.getElem_cons_zero, List.setIfInBounds_toArray, List.set_cons_zero, List.set_cons_succ]
              refine wpAnyH_take (i := 4) (v := .bool false) rfl (by kernel_rfl) (by kernel_rfl) (by kernel_rfl) (fun _ _ _ h => h) (yields_eqS 58 (.tmp 14) (.tmp 16) rfl (by kernel_rfl) (ic3 o.1 o.2.1 o.2.2.1) (ic3 m.1 m.2.1 m.2.2.1) (by kernel_rfl) (by kernel_rfl) Try.eqGuardType58 _ _ (fun w => eq_inner _ _ _ _ _ _ w) hin) ⟨R6, R3⟩ ?_
              simp only [Act.put, List.getElem_toArray, List.getElem_cons_succ, List.getElem_cons_zero, List.setIfInBounds_toArray, List.set_cons_zero, List.set_cons_succ]
              refine wpAnyH_take (i := 5) (v := .bool false) rfl (by kernel_rfl) (by kernel_rfl) (by kernel_rfl) (fun _ _ _ h => h) (Or.inl ⟨by kernel_rfl, by intro w hS; go_simp⟩) ⟨R6, R3⟩ ?_
              simp only [Act.put, List.getElem_toArray, List.getElem_cons_succ, List.getElem_cons_zero, List.setIfInBounds_toArray, List.set_cons_zero, List.set_cons_succ]
              refine wpAnyH_take (i := 6) (v := .agg (mc o)) rfl (by kernel_rfl) (by kernel_rfl) (by kernel_rfl) (fun _ _ _ h => h) (yields_loadR 32 (.tmp 6) rfl (by kernel_rfl) b6 (by kernel_rfl) (mc o) (fun _ h => h.1) _ Try.underlying32 rfl (mc_info o)) ⟨R6, R3⟩ ?_
              simp only [Act.put, List.getElem_toArray, List.getElem_cons_succ, List.getElem_cons_zero, List.setIfInBounds_toArray, List.set_cons_zero, List.set_cons_succ]
              refine wpAnyH_take (i := 8) (v := .agg (mc m)) rfl (by kernel_rfl) (by kernel_rfl) (by kernel_rfl) (fun _ _ _ h => h) (yields_loadR 32 (.tmp 3) rfl (by kernel_rfl) b3 (by kernel_rfl) (mc m) (fun _ h => h.2) _ Try.underlying32 rfl (mc_info m)) ⟨R6, R3⟩ ?_
              simp only [Act.put, List.getElem_toArray, List.getElem_cons_succ, List.getElem_cons_zero, List.setIfInBounds_toArray, List.set_cons_zero, List.set_cons_succ]
              refine wpAnyH_ready (rs := [7]) (by kernel_rfl) (by simp) ?_
              refine AllReadyH.cons rfl (fun K hK => ?_) ?_
              · go_simp
                go_at_call 28; refine (outerOf_any o _).mono ?_; rintro e w5 ⟨rfl, hb5⟩; (try replace hb5 := below_undr' hb5); replace R3 := R3.below hb5; replace R6 := R6.below hb5; replace hB := hB.trans (hb5.mono hB.size)
                go_wp2_with fail
                refine hK.out _ _ ⟨R6, R3⟩ (fun _ => ?_)
                clear hK K
                try simp only [Act.put, List.getElem_toArray, List.getElem_cons_succ, List.getElem_cons_zero, List.setIfInBounds_toArray, List.set_cons_zero, List.set_cons_succ]
                refine wpAnyH_ready (rs := [9]) (by kernel_rfl) (by simp) ?_
                refine AllReadyH.cons rfl (fun K hK => ?_) ?_
                · go_simp
                  go_at_call 28; refine (outerOf_any m _).mono ?_; rintro e w5 ⟨rfl, hb5⟩; (try replace hb5 := below_undr' hb5); replace R3 := R3.below hb5; replace R6 := R6.below hb5; replace hB := hB.trans (hb5.mono hB.size)
                  go_wp2_with fail
                  refine hK.out _ _ ⟨R6, R3⟩ (fun _ => ?_)
                  clear hK K
                  try simp only [Act.put, List.getElem_toArray, List.getElem_cons_succ, List.getElem_cons_zero, List.setIfInBounds_toArray, List.set_cons_zero, List.set_cons_succ]
                  refine wpAnyH_take (i := 10) (v := .bool true) rfl (by kernel_rfl) (by kernel_rfl) (by kernel_rfl) (fun _ _ _ h => h) (yields_eqS 61 (.tmp 20) (.tmp 22) rfl (by kernel_rfl) (ic3 o.1 o.2.2.2.1 o.2.2.2.2) (ic3 m.1 m.2.2.2.1 m.2.2.2.2) (by kernel_rfl) (by kernel_rfl) Try.eqGuardType61 _ _ (fun w => eq_outer _ _ _ _ _ _ w) hout) ⟨R6, R3⟩ ?_
                  simp only [Act.put, List.getElem_toArray, List.getElem_cons_succ, List.getElem_cons_zero, List.setIfInBounds_toArray, List.set_cons_zero, List.set_cons_succ]
                  refine wpAnyH_take (i := 11) (v := .bool true) rfl (by kernel_rfl) (by kernel_rfl) (by kernel_rfl) (fun _ _ _ h => h) (Or.inl ⟨by kernel_rfl, by intro w hS; go_simp⟩) ⟨R6, R3⟩ ?_
                  simp only [Act.put, List.getElem_toArray, List.getElem_cons_succ, List.getElem_cons_zero, List.setIfInBounds_toArray, List.set_cons_zero, List.set_cons_succ]
                  refine wpAnyH_done (by kernel_rfl) ?_ _
                  refine NoPanic.normal ?_
                  go_wp2
                  go_ret
                  exact ⟨by rw [HF.out]; rfl, hB⟩
                exact AllReadyH.nil
              exact AllReadyH.nil
            exact AllReadyH.nil
          exact AllReadyH.nil
        | false =>
          have HF : Hid (meetsB (ms.take (j + 1)) m = false) := meetsB_step hno hlj hm hin hout
          go_wp2_with (first
            | (refine wpList_indexM rfl (.tmp 7) (.tmp 9) rfl (.slice a0 n cap) ms hMW rfl j rfl hlj ?_)
            | (refine wpList_load_mid rfl 32 _ rfl _ _ rfl (mcl o) _ hrg Try.underlying32 rfl (mcl_info o) ?_; rw [mcl_mc])
            | (refine wpList_allocR 32 rfl rfl _ map_zero ?_; intro b6 w3 l6 R6 hb3; have n3 := R3.ne l6; replace l6 := Nat.le_trans hB.size l6; replace R3 := R3.below hb3; replace hB := hB.trans (hb3.mono hB.size))
            | (refine wpList_storeR 32 rfl _ _ rfl b6 rfl (mc o) rfl _ R6 rfl (mc_info o) (mc_one o) ?_; intro w4 R6 t4; replace R3 := t4.row R3 n3; replace hB := t4.below _ _ l6 hB))
          refine wp_region_noPanic ?_
          refine wp_region_held_drew (S := fun W => Row 32 W b6 (mc o) ∧ Row 32 W b3 (mc m)) (by kernel_rfl) ⟨R6, R3⟩ (fun _ => ?_)
          refine wpAnyH_take (i := 0) (v := .agg (mc o)) rfl (by kernel_rfl) (by kernel_rfl) (by kernel_rfl) (fun _ _ _ h => h) (yields_loadR 32 (.tmp 6) rfl (by kernel_rfl) b6 (by kernel_rfl) (mc o) (fun _ h => h.1) _ Try.underlying32 rfl (mc_info o)) ⟨R6, R3⟩ ?_
          simp only [Act.put, List.getElem_toArray, List.getElem_cons_succ, List.getElem_cons_zero, List.setIfInBounds_toArray, List.set_cons_zero, List.set_cons_succ]
          refine wpAnyH_take (i := 2) (v := .agg (mc m)) rfl (by kernel_rfl) (by kernel_rfl) (by kernel_rfl) (fun _ _ _ h => h) (yields_loadR 32 (.tmp 3) rfl (by kernel_rfl) b3 (by kernel_rfl) (mc m) (fun _ h => h.2) _ Try.underlying32 rfl (mc_info m)) ⟨R6, R3⟩ ?_
          simp only [Act.put, List.getElem_toArray, List.getElem_cons_succ, List.getElem_cons_zero, List.setIfInBounds_toArray, List.set_cons_zero, List.set_cons_succ]
          refine wpAnyH_ready (rs := [1]) (by kernel_rfl) (by simp) ?_
          refine AllReadyH.cons rfl (fun K hK => ?_) ?_
          · go_simp
            go_at_call 27; refine (innerOf_any o _).mono ?_; rintro e w5 ⟨rfl, hb5⟩; (try replace hb5 := below_undr' hb5); replace R3 := R3.below hb5; replace R6 := R6.below hb5; replace hB := hB.trans (hb5.mono hB.size)
            go_wp2_with fail
            refine hK.out _ _ ⟨R6, R3⟩ (fun _ => ?_)
            clear hK K
            try simp only [Act.put, List.getElem_toArray, List.getElem_cons_succ, List.getElem_cons_zero, List.setIfInBounds_toArray, List.set_cons_zero, List.set_cons_succ]
            refine wpAnyH_ready (rs := [3]) (by kernel_rfl) (by simp) ?_
            refine AllReadyH.cons rfl (fun K hK => ?_) ?_
            · go_simp
              go_at_call 27; refine (innerOf_any m _).mono ?_; rintro e w5 ⟨rfl, hb5⟩; (try replace hb5 := below_undr' hb5); replace R3 := R3.below hb5; replace R6 := R6.below hb5; replace hB := hB.trans (hb5.mono hB.size)
              go_wp2_with fail
              refine hK.out _ _ ⟨R6, R3⟩ (fun _ => ?_)
              clear hK K
              try simp only [Act.put, List.getElem_toArray, List.getElem_cons_succ, List.getElem_cons_zero, List.setIfInBounds_toArray, List.set_cons_zero, List.set_cons_succ]
              refine wpAnyH_take (i := 4) (v := .bool false) rfl (by kernel_rfl) (by kernel_rfl) (by kernel_rfl) (fun _ _ _ h => h) (yields_eqS 58 (.tmp 14) (.tmp 16) rfl (by kernel_rfl) (ic3 o.1 o.2.1 o.2.2.1) (ic3 m.1 m.2.1 m.2.2.1) (by kernel_rfl) (by kernel_rfl) Try.eqGuardType58 _ _ (fun w => eq_inner _ _ _ _ _ _ w) hin) ⟨R6, R3⟩ ?_
              simp only [Act.put, List.getElem_toArray, List.getElem_cons_succ, List.getElem_cons_zero, List.setIfInBounds_toArray, List.set_cons_zero, List.set_cons_succ]
              refine wpAnyH_take (i := 5) (v := .bool false) rfl (by kernel_rfl) (by kernel_rfl) (by kernel_rfl) (fun _ _ _ h => h) (Or.inl ⟨by kernel_rfl, by intro w hS; go_simp⟩) ⟨R6, R3⟩ ?_
              simp only [Act.put, List.getElem_toArray, List.getElem_cons_succ, List.getElem_cons_zero, List.setIfInBounds_toArray, List.set_cons_zero, List.set_cons_succ]
              refine wpAnyH_take (i := 6) (v := .agg (mc o)) rfl (by kernel_rfl) (by kernel_rfl) (by kernel_rfl) (fun _ _ _ h => h) (yields_loadR 32 (.tmp 6) rfl (by kernel_rfl) b6 (by kernel_rfl) (mc o) (fun _ h => h.1) _ Try.underlying32 rfl (mc_info o)) ⟨R6, R3⟩ ?_
              simp only [Act.put, List.getElem_toArray, List.getElem_cons_succ, List.getElem_cons_zero, List.setIfInBounds_toArray, List.set_cons_zero, List.set_cons_succ]
              refine wpAnyH_take (i := 8) (v := .agg (mc m)) rfl (by kernel_rfl) (by kernel_rfl) (by kernel_rfl) (fun _ _ _ h => h) (yields_loadR 32 (.tmp 3) rfl (by kernel_rfl) b3 (by kernel_rfl) (mc m) (fun _ h => h.2) _ Try.underlying32 rfl (mc_info m)) ⟨R6, R3⟩ ?_
              simp only [Act.put, List.getElem_toArray, List.getElem_cons_succ, List.getElem_cons_zero, List.setIfInBounds_toArray, List.set_cons_zero, List.set_cons_succ]
              refine wpAnyH_ready (rs := [7]) (by kernel_rfl) (by simp) ?_
              refine AllReadyH.cons rfl (fun K hK => ?_) ?_
              · go_simp
                go_at_call 28; refine (outerOf_any o _).mono ?_; rintro e w5 ⟨rfl, hb5⟩; (try replace hb5 := below_undr' hb5); replace R3 := R3.below hb5; replace R6 := R6.below hb5; replace hB := hB.trans (hb5.mono hB.size)
                go_wp2_with fail
                refine hK.out _ _ ⟨R6, R3⟩ (fun _ => ?_)
                clear hK K
                try simp only [Act.put, List.getElem_toArray, List.getElem_cons_succ, List.getElem_cons_zero, List.setIfInBounds_toArray, List.set_cons_zero, List.set_cons_succ]
                refine wpAnyH_ready (rs := [9]) (by kernel_rfl) (by simp) ?_
                refine AllReadyH.cons rfl (fun K hK => ?_) ?_
                · go_simp
                  go_at_call 28; refine (outerOf_any m _).mono ?_; rintro e w5 ⟨rfl, hb5⟩; (try replace hb5 := below_undr' hb5); replace R3 := R3.below hb5; replace R6 := R6.below hb5; replace hB := hB.trans (hb5.mono hB.size)
                  go_wp2_with fail
                  refine hK.out _ _ ⟨R6, R3⟩ (fun _ => ?_)
                  clear hK K
                  try simp only [Act.put, List.getElem_toArray, List.getElem_cons_succ, List.getElem_cons_zero, List.setIfInBounds_toArray, List.set_cons_zero, List.set_cons_succ]
                  refine wpAnyH_take (i := 10) (v := .bool false) rfl (by kernel_rfl) (by kernel_rfl) (by kernel_rfl) (fun _ _ _ h => h) (yields_eqS 61 (.tmp 20) (.tmp 22) rfl (by kernel_rfl) (ic3 o.1 o.2.2.2.1 o.2.2.2.2) (ic3 m.1 m.2.2.2.1 m.2.2.2.2) (by kernel_rfl) (by kernel_rfl) Try.eqGuardType61 _ _ (fun w => eq_outer _ _ _ _ _ _ w) hout) ⟨R6, R3⟩ ?_
                  simp only [Act.put, List.getElem_toArray, List.getElem_cons_succ, List.getElem_cons_zero, List.setIfInBounds_toArray, List.set_cons_zero, List.set_cons_succ]
                  refine wpAnyH_take (i := 11) (v := .bool false) rfl (by kernel_rfl) (by kernel_rfl) (by kernel_rfl) (fun _ _ _ h => h) (Or.inl ⟨by kernel_rfl, by intro w hS; go_simp⟩) ⟨R6, R3⟩ ?_
                  simp only [Act.put, List.getElem_toArray, List.getElem_cons_succ, List.getElem_cons_zero, List.setIfInBounds_toArray, List.set_cons_zero, List.set_cons_succ]
                  refine wpAnyH_done (by kernel_rfl) ?_ _
                  refine NoPanic.normal ?_
                  go_wp2
                  go_roundw
                  case rel => exact ⟨j + 1, by omega, by go_num, HF.out, hB, R3⟩
                  case measure => rw [hjw]; exact meas_next (HN.out.symm ▸ hlj)
                exact AllReadyH.nil
              exact AllReadyH.nil
            exact AllReadyH.nil
          exact AllReadyH.nil
    · have e : j = ms.length := by omega
      have HF : Hid (meetsB ms m = false) := by
        show _ = _
        rw [e, List.take_length] at hno; exact hno
      have hjn : (n : Int) ≤ (j : Int) := by have := HN.out; omega
      clear e hno hj hlj
      go_wp2
      go_ret
      exact ⟨by rw [HF.out]; rfl, hB⟩
end Go.Proofs.Ytmdijjbkjcnbpaa
