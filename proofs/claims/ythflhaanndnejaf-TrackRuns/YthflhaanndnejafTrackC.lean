/-
  A flow of Tcp, step by step.
-/
import Derived.Deep.DeepFit
import Derived.Test.YthflhaanndnejafTrackB
namespace Go.Proofs.Ythflhaanndnejaf
open Go.ChangeShapes Go.WideShapes Go.ChangeAt Go.RowKit
set_option linter.unusedSimpArgs false
set_option linter.unusedVariables false

theorem fc_info (k : Fl) : (Try.prog.info? 31).map (·.size) = some (fc k).size := by kernel_rfl
theorem fc_one (k : Fl) : (fc k).all (·.oneCell') = true := by kernel_rfl
/-- the flow of nothing. -/
def noF : Fl := ⟨0, 0, 0, 0, 0, 0, 0, 0, 0, 0⟩
theorem flow_zero (w : World) : (zeroValue 31).run Try.prog w = .ok (.agg (fc noF)) w := by kernel_rfl
theorem hasAll_is (x : Int) (b : Nat) (hb : 63 &&& b = b) (hl : b < 64) (r : Bool) (h : has x b = r) (w : World) : Calls Try.prog 15 #[.int .i64 x, .int .i64 (b : Int)] w fun e w' => e = .returned (.bool r) ∧ w' = w := by rw [← h]; exact hasAll_any x b hb hl w
theorem ret_step {k k' : Fl} {x : Int} {i r : Bool} (h : stepT k x i = (k', r)) : Ending.returned (.tuple #[.agg (fc k'), .bool r]) = .returned (.tuple #[.agg (fc (stepT k x i).1), .bool (stepT k x i).2]) := by rw [h]
theorem Row.drew {t : TypeId} {w : World} {b : Nat} {cs : Array Value} (h : Row t w b cs) : Row t w.drew b cs := h
theorem below_drewG {B : Nat} {w0 w : World} (h : Below B w0 w) : Below B w0 w.drew := ⟨h.os, h.tape, h.output, h.size, h.block⟩
theorem turned_undrG {b : Nat} {w w' : World} (h : Turned b w.drew w') : Turned b w w' := ⟨h.size, h.other, fun B w0 hB hb => h.below B w0 hB ⟨hb.os, hb.tape, hb.output, hb.size, hb.block⟩⟩
set_option maxRecDepth 10000 in
set_option maxHeartbeats 4000000 in
theorem stepTcp_true (k : Fl) (x : Int) (w : World) : Calls Try.prog 19 #[.agg (fc k), .int .i64 x, .bool true] w fun e w' => e = .returned (.tuple #[.agg (fc (stepT k x true).1), .bool (stepT k x true).2]) ∧ Below w.heap.size w w' := by
  have hB := Below.refl w.heap.size w
  cases h4 : has x 4 with
  | true =>
    have C4 := fun w => hasAll_is x 4 (by decide) (by decide) _ h4 w
    have H : Hid (stepT k x true = ({ k with st := 4 }, k.st != 4)) := by show stepT k x true = ({ k with st := 4 }, k.st != 4); simp [stepT, h4]
    clear h4
    go_enter Try.func19, Try.ntmps19
    go_wp2_with (first | (refine wpList_boxR 31 rfl _ rfl _ rfl ?_; intro b3 w1 l3 R3 hb1; replace l3 := Nat.le_trans hB.size l3; replace hB := hB.trans (hb1.mono hB.size)) | (refine wpList_allocX 6 31 rfl rfl rfl _ flow_zero ?_; intro b6 w2 l6 R6 hb2; have n36 := R3.ne l6; replace l6 := Nat.le_trans hB.size l6; replace R3 := R3.below hb2; replace hB := hB.trans (hb2.mono hB.size)) | (refine wpList_loadF R3 _ rfl rfl _ rfl _ rfl ?_) | (refine wpList_storeF R3 rfl _ _ rfl _ rfl _ rfl _ rfl (fc { k with st := 4 }) rfl ?_; intro w4 R3 t4; replace R6 := t4.row R6 n36.symm; replace hB := t4.below _ _ l3 hB) | (refine wpList_loadR 31 (.tmp 3) rfl rfl b3 rfl (fc { k with st := 4 }) R3 _ Try.underlying31 rfl (fc_info _) ?_) | (refine wpList_storeR 31 rfl (.tmp 6) _ rfl b6 rfl (fc { k with st := 4 }) rfl _ R6 rfl (fc_info _) (fc_one _) ?_; intro w6 R6 t6; replace R3 := t6.row R3 n36; replace hB := t6.below _ _ l6 hB) | (go_at_call 15; go_fit (C4 _); rintro e w' ⟨rfl, hw⟩; rw [hw]; clear hw w'))
    refine wp_region_noPanic ?_
    refine wp_region_held_drew (S := fun W => Row 31 W b3 (fc k)) (by kernel_rfl) R3 (fun _ => ?_)
    refine wpAnyH_take (i := 0) (v := .pointer (some ⟨b3, 7, none⟩)) rfl (by kernel_rfl) (by kernel_rfl) (by kernel_rfl) (fun _ _ _ h => h) (Or.inl ⟨by kernel_rfl, by intro w hS; go_simp⟩) R3 ?_
    simp only [Act.put, List.getElem_toArray, List.getElem_cons_succ, List.getElem_cons_zero, List.setIfInBounds_toArray, List.set_cons_zero, List.set_cons_succ]
    refine wpAnyH_take (i := 1) (v := .int .i64 k.st) rfl (by kernel_rfl) (by kernel_rfl) (by kernel_rfl) (fun _ _ _ h => h) (Or.inl ⟨by kernel_rfl, by intro w hS; have hc := (hS.cell 7).trans (show (fc k)[7]? = some (.int .i64 k.st) from rfl); go_simp⟩) R3 ?_
    simp only [Act.put, List.getElem_toArray, List.getElem_cons_succ, List.getElem_cons_zero, List.setIfInBounds_toArray, List.set_cons_zero, List.set_cons_succ]
    refine wpAnyH_take (i := 2) (v := .bool true) rfl (by kernel_rfl) (by kernel_rfl) (by kernel_rfl) (fun _ _ _ h => h) (Or.inl ⟨by kernel_rfl, by intro w hS; go_simp⟩) R3 ?_
    simp only [Act.put, List.getElem_toArray, List.getElem_cons_succ, List.getElem_cons_zero, List.setIfInBounds_toArray, List.set_cons_zero, List.set_cons_succ]
    refine wpAnyH_ready (rs := [3]) (by kernel_rfl) (by simp) ?_
    refine AllReadyH.cons rfl (fun K hK => ?_) ?_
    · go_simp
      go_at_call 20; refine (sideOf_any true _).mono ?_; rintro e w5 ⟨rfl, hw⟩; rw [hw]; clear hw w5
      go_wp2_with fail
      refine hK.out _ _ R3 (fun _ => ?_)
      clear hK K
      try simp only [Act.put, List.getElem_toArray, List.getElem_cons_succ, List.getElem_cons_zero, List.setIfInBounds_toArray, List.set_cons_zero, List.set_cons_succ]
      refine wpAnyH_take (i := 4) (v := .int .i64 k.st) rfl (by kernel_rfl) (by kernel_rfl) (by kernel_rfl) (fun _ _ _ h => h) (Or.inl ⟨by kernel_rfl, by intro w hS; go_simp⟩) R3 ?_
      simp only [Act.put, List.getElem_toArray, List.getElem_cons_succ, List.getElem_cons_zero, List.setIfInBounds_toArray, List.set_cons_zero, List.set_cons_succ]
      refine wpAnyH_take (i := 5) (v := .int .i64 (sideZ true)) rfl (by kernel_rfl) (by kernel_rfl) (by kernel_rfl) (fun _ _ _ h => h) (Or.inl ⟨by kernel_rfl, by intro w hS; go_simp⟩) R3 ?_
      simp only [Act.put, List.getElem_toArray, List.getElem_cons_succ, List.getElem_cons_zero, List.setIfInBounds_toArray, List.set_cons_zero, List.set_cons_succ]
      refine wpAnyH_done (by kernel_rfl) ?_ _
      refine NoPanic.normal ?_
      replace R3 := R3.drew; replace R6 := R6.drew; replace hB := below_drewG hB
      go_wp2_with (first | (refine wpList_boxR 31 rfl _ rfl _ rfl ?_; intro b3 w1 l3 R3 hb1; replace l3 := Nat.le_trans hB.size l3; replace hB := hB.trans (hb1.mono hB.size)) | (refine wpList_allocX 6 31 rfl rfl rfl _ flow_zero ?_; intro b6 w2 l6 R6 hb2; have n36 := R3.ne l6; replace l6 := Nat.le_trans hB.size l6; replace R3 := R3.below hb2; replace hB := hB.trans (hb2.mono hB.size)) | (refine wpList_loadF R3 _ rfl rfl _ rfl _ rfl ?_) | (refine wpList_storeF R3 rfl _ _ rfl _ rfl _ rfl _ rfl (fc { k with st := 4 }) rfl ?_; intro w4 R3 t4; replace R6 := t4.row R6 n36.symm; replace hB := t4.below _ _ l3 hB) | (refine wpList_loadR 31 (.tmp 3) rfl rfl b3 rfl (fc { k with st := 4 }) R3 _ Try.underlying31 rfl (fc_info _) ?_) | (refine wpList_storeR 31 rfl (.tmp 6) _ rfl b6 rfl (fc { k with st := 4 }) rfl _ R6 rfl (fc_info _) (fc_one _) ?_; intro w6 R6 t6; replace R3 := t6.row R3 n36; replace hB := t6.below _ _ l6 hB) | (go_at_call 15; go_fit (C4 _); rintro e w' ⟨rfl, hw⟩; rw [hw]; clear hw w'))
      ((try simp only [Exit.inBlock, Exit.then]); refine bodyPost_ret (results_row2 (p := 6) (u := 7) rfl _ _ _ _ rfl R6 _ Try.underlying31 rfl (fc_info _)) rfl ⟨ret_step H.out, hB⟩)
    exact AllReadyH.nil
  | false =>
    have C4 := fun w => hasAll_is x 4 (by decide) (by decide) _ h4 w
    by_cases e1 : k.st = 1
    · have s1 : (k.st == 1) = true := by simp [e1]
      have s2 : (k.st == 2) = false := by simp [e1]
      have s3 : (k.st == 3) = false := by simp [e1]
      cases h18 : has x 18 with
      | true =>
        have C18 := fun w => hasAll_is x 18 (by decide) (by decide) _ h18 w
        have H : Hid (stepT k x true = ({ k with st := 2 }, true)) := by show stepT k x true = ({ k with st := 2 }, true); simp [stepT, h4, h18, e1]
        clear h4 h18 e1
        go_enter Try.func19, Try.ntmps19
        go_wp2_with (first | (refine wpList_boxR 31 rfl _ rfl _ rfl ?_; intro b3 w1 l3 R3 hb1; replace l3 := Nat.le_trans hB.size l3; replace hB := hB.trans (hb1.mono hB.size)) | (refine wpList_allocX 6 31 rfl rfl rfl _ flow_zero ?_; intro b6 w2 l6 R6 hb2; have n36 := R3.ne l6; replace l6 := Nat.le_trans hB.size l6; replace R3 := R3.below hb2; replace hB := hB.trans (hb2.mono hB.size)) | (refine wpList_loadF R3 _ rfl rfl _ rfl _ rfl ?_) | (refine wpList_storeF R3 rfl _ _ rfl _ rfl _ rfl _ rfl (fc { k with st := 2 }) rfl ?_; intro w4 R3 t4; replace R6 := t4.row R6 n36.symm; replace hB := t4.below _ _ l3 hB) | (refine wpList_loadR 31 (.tmp 3) rfl rfl b3 rfl (fc { k with st := 2 }) R3 _ Try.underlying31 rfl (fc_info _) ?_) | (refine wpList_storeR 31 rfl (.tmp 6) _ rfl b6 rfl (fc { k with st := 2 }) rfl _ R6 rfl (fc_info _) (fc_one _) ?_; intro w6 R6 t6; replace R3 := t6.row R3 n36; replace hB := t6.below _ _ l6 hB) | (go_at_call 15; go_fit (C4 _); rintro e w' ⟨rfl, hw⟩; rw [hw]; clear hw w') | (go_at_call 15; go_fit (C18 _); rintro e w' ⟨rfl, hw⟩; rw [hw]; clear hw w'))
        refine wp_region_noPanic ?_
        refine wp_region_held_drew (S := fun W => Row 31 W b3 (fc k)) (by kernel_rfl) R3 (fun _ => ?_)
        refine wpAnyH_take (i := 0) (v := .pointer (some ⟨b3, 7, none⟩)) rfl (by kernel_rfl) (by kernel_rfl) (by kernel_rfl) (fun _ _ _ h => h) (Or.inl ⟨by kernel_rfl, by intro w hS; go_simp⟩) R3 ?_
        simp only [Act.put, List.getElem_toArray, List.getElem_cons_succ, List.getElem_cons_zero, List.setIfInBounds_toArray, List.set_cons_zero, List.set_cons_succ]
        refine wpAnyH_take (i := 1) (v := .int .i64 k.st) rfl (by kernel_rfl) (by kernel_rfl) (by kernel_rfl) (fun _ _ _ h => h) (Or.inl ⟨by kernel_rfl, by intro w hS; have hc := (hS.cell 7).trans (show (fc k)[7]? = some (.int .i64 k.st) from rfl); go_simp⟩) R3 ?_
        simp only [Act.put, List.getElem_toArray, List.getElem_cons_succ, List.getElem_cons_zero, List.setIfInBounds_toArray, List.set_cons_zero, List.set_cons_succ]
        refine wpAnyH_take (i := 2) (v := .bool true) rfl (by kernel_rfl) (by kernel_rfl) (by kernel_rfl) (fun _ _ _ h => h) (Or.inl ⟨by kernel_rfl, by intro w hS; go_simp⟩) R3 ?_
        simp only [Act.put, List.getElem_toArray, List.getElem_cons_succ, List.getElem_cons_zero, List.setIfInBounds_toArray, List.set_cons_zero, List.set_cons_succ]
        refine wpAnyH_ready (rs := [3]) (by kernel_rfl) (by simp) ?_
        refine AllReadyH.cons rfl (fun K hK => ?_) ?_
        · go_simp
          go_at_call 20; refine (sideOf_any true _).mono ?_; rintro e w5 ⟨rfl, hw⟩; rw [hw]; clear hw w5
          go_wp2_with fail
          refine hK.out _ _ R3 (fun _ => ?_)
          clear hK K
          try simp only [Act.put, List.getElem_toArray, List.getElem_cons_succ, List.getElem_cons_zero, List.setIfInBounds_toArray, List.set_cons_zero, List.set_cons_succ]
          refine wpAnyH_take (i := 4) (v := .int .i64 k.st) rfl (by kernel_rfl) (by kernel_rfl) (by kernel_rfl) (fun _ _ _ h => h) (Or.inl ⟨by kernel_rfl, by intro w hS; go_simp⟩) R3 ?_
          simp only [Act.put, List.getElem_toArray, List.getElem_cons_succ, List.getElem_cons_zero, List.setIfInBounds_toArray, List.set_cons_zero, List.set_cons_succ]
          refine wpAnyH_take (i := 5) (v := .int .i64 (sideZ true)) rfl (by kernel_rfl) (by kernel_rfl) (by kernel_rfl) (fun _ _ _ h => h) (Or.inl ⟨by kernel_rfl, by intro w hS; go_simp⟩) R3 ?_
          simp only [Act.put, List.getElem_toArray, List.getElem_cons_succ, List.getElem_cons_zero, List.setIfInBounds_toArray, List.set_cons_zero, List.set_cons_succ]
          refine wpAnyH_done (by kernel_rfl) ?_ _
          refine NoPanic.normal ?_
          replace R3 := R3.drew; replace R6 := R6.drew; replace hB := below_drewG hB
          go_wp2_with (first | (refine wpList_boxR 31 rfl _ rfl _ rfl ?_; intro b3 w1 l3 R3 hb1; replace l3 := Nat.le_trans hB.size l3; replace hB := hB.trans (hb1.mono hB.size)) | (refine wpList_allocX 6 31 rfl rfl rfl _ flow_zero ?_; intro b6 w2 l6 R6 hb2; have n36 := R3.ne l6; replace l6 := Nat.le_trans hB.size l6; replace R3 := R3.below hb2; replace hB := hB.trans (hb2.mono hB.size)) | (refine wpList_loadF R3 _ rfl rfl _ rfl _ rfl ?_) | (refine wpList_storeF R3 rfl _ _ rfl _ rfl _ rfl _ rfl (fc { k with st := 2 }) rfl ?_; intro w4 R3 t4; replace R6 := t4.row R6 n36.symm; replace hB := t4.below _ _ l3 hB) | (refine wpList_loadR 31 (.tmp 3) rfl rfl b3 rfl (fc { k with st := 2 }) R3 _ Try.underlying31 rfl (fc_info _) ?_) | (refine wpList_storeR 31 rfl (.tmp 6) _ rfl b6 rfl (fc { k with st := 2 }) rfl _ R6 rfl (fc_info _) (fc_one _) ?_; intro w6 R6 t6; replace R3 := t6.row R3 n36; replace hB := t6.below _ _ l6 hB) | (go_at_call 15; go_fit (C4 _); rintro e w' ⟨rfl, hw⟩; rw [hw]; clear hw w') | (go_at_call 15; go_fit (C18 _); rintro e w' ⟨rfl, hw⟩; rw [hw]; clear hw w'))
          ((try simp only [Exit.inBlock, Exit.then]); refine bodyPost_ret (results_row2 (p := 6) (u := 7) rfl _ _ _ _ rfl R6 _ Try.underlying31 rfl (fc_info _)) rfl ⟨ret_step H.out, hB⟩)
        exact AllReadyH.nil
      | false =>
        have C18 := fun w => hasAll_is x 18 (by decide) (by decide) _ h18 w
        have H : Hid (stepT k x true = (k, false)) := by show stepT k x true = (k, false); simp [stepT, h4, h18, e1]
        clear h4 h18 e1
        go_enter Try.func19, Try.ntmps19
        go_wp2_with (first | (refine wpList_boxR 31 rfl _ rfl _ rfl ?_; intro b3 w1 l3 R3 hb1; replace l3 := Nat.le_trans hB.size l3; replace hB := hB.trans (hb1.mono hB.size)) | (refine wpList_allocX 6 31 rfl rfl rfl _ flow_zero ?_; intro b6 w2 l6 R6 hb2; have n36 := R3.ne l6; replace l6 := Nat.le_trans hB.size l6; replace R3 := R3.below hb2; replace hB := hB.trans (hb2.mono hB.size)) | (refine wpList_loadF R3 _ rfl rfl _ rfl _ rfl ?_) | (refine wpList_loadR 31 (.tmp 3) rfl rfl b3 rfl (fc k) R3 _ Try.underlying31 rfl (fc_info _) ?_) | (refine wpList_storeR 31 rfl (.tmp 6) _ rfl b6 rfl (fc k) rfl _ R6 rfl (fc_info _) (fc_one _) ?_; intro w6 R6 t6; replace R3 := t6.row R3 n36; replace hB := t6.below _ _ l6 hB) | (go_at_call 15; go_fit (C4 _); rintro e w' ⟨rfl, hw⟩; rw [hw]; clear hw w') | (go_at_call 15; go_fit (C18 _); rintro e w' ⟨rfl, hw⟩; rw [hw]; clear hw w'))
        refine wp_region_noPanic ?_
        refine wp_region_held_drew (S := fun W => Row 31 W b3 (fc k)) (by kernel_rfl) R3 (fun _ => ?_)
        refine wpAnyH_take (i := 0) (v := .pointer (some ⟨b3, 7, none⟩)) rfl (by kernel_rfl) (by kernel_rfl) (by kernel_rfl) (fun _ _ _ h => h) (Or.inl ⟨by kernel_rfl, by intro w hS; go_simp⟩) R3 ?_
        simp only [Act.put, List.getElem_toArray, List.getElem_cons_succ, List.getElem_cons_zero, List.setIfInBounds_toArray, List.set_cons_zero, List.set_cons_succ]
        refine wpAnyH_take (i := 1) (v := .int .i64 k.st) rfl (by kernel_rfl) (by kernel_rfl) (by kernel_rfl) (fun _ _ _ h => h) (Or.inl ⟨by kernel_rfl, by intro w hS; have hc := (hS.cell 7).trans (show (fc k)[7]? = some (.int .i64 k.st) from rfl); go_simp⟩) R3 ?_
        simp only [Act.put, List.getElem_toArray, List.getElem_cons_succ, List.getElem_cons_zero, List.setIfInBounds_toArray, List.set_cons_zero, List.set_cons_succ]
        refine wpAnyH_take (i := 2) (v := .bool true) rfl (by kernel_rfl) (by kernel_rfl) (by kernel_rfl) (fun _ _ _ h => h) (Or.inl ⟨by kernel_rfl, by intro w hS; go_simp⟩) R3 ?_
        simp only [Act.put, List.getElem_toArray, List.getElem_cons_succ, List.getElem_cons_zero, List.setIfInBounds_toArray, List.set_cons_zero, List.set_cons_succ]
        refine wpAnyH_ready (rs := [3]) (by kernel_rfl) (by simp) ?_
        refine AllReadyH.cons rfl (fun K hK => ?_) ?_
        · go_simp
          go_at_call 20; refine (sideOf_any true _).mono ?_; rintro e w5 ⟨rfl, hw⟩; rw [hw]; clear hw w5
          go_wp2_with fail
          refine hK.out _ _ R3 (fun _ => ?_)
          clear hK K
          try simp only [Act.put, List.getElem_toArray, List.getElem_cons_succ, List.getElem_cons_zero, List.setIfInBounds_toArray, List.set_cons_zero, List.set_cons_succ]
          refine wpAnyH_take (i := 4) (v := .int .i64 k.st) rfl (by kernel_rfl) (by kernel_rfl) (by kernel_rfl) (fun _ _ _ h => h) (Or.inl ⟨by kernel_rfl, by intro w hS; go_simp⟩) R3 ?_
          simp only [Act.put, List.getElem_toArray, List.getElem_cons_succ, List.getElem_cons_zero, List.setIfInBounds_toArray, List.set_cons_zero, List.set_cons_succ]
          refine wpAnyH_take (i := 5) (v := .int .i64 (sideZ true)) rfl (by kernel_rfl) (by kernel_rfl) (by kernel_rfl) (fun _ _ _ h => h) (Or.inl ⟨by kernel_rfl, by intro w hS; go_simp⟩) R3 ?_
          simp only [Act.put, List.getElem_toArray, List.getElem_cons_succ, List.getElem_cons_zero, List.setIfInBounds_toArray, List.set_cons_zero, List.set_cons_succ]
          refine wpAnyH_done (by kernel_rfl) ?_ _
          refine NoPanic.normal ?_
          replace R3 := R3.drew; replace R6 := R6.drew; replace hB := below_drewG hB
          go_wp2_with (first | (refine wpList_boxR 31 rfl _ rfl _ rfl ?_; intro b3 w1 l3 R3 hb1; replace l3 := Nat.le_trans hB.size l3; replace hB := hB.trans (hb1.mono hB.size)) | (refine wpList_allocX 6 31 rfl rfl rfl _ flow_zero ?_; intro b6 w2 l6 R6 hb2; have n36 := R3.ne l6; replace l6 := Nat.le_trans hB.size l6; replace R3 := R3.below hb2; replace hB := hB.trans (hb2.mono hB.size)) | (refine wpList_loadF R3 _ rfl rfl _ rfl _ rfl ?_) | (refine wpList_loadR 31 (.tmp 3) rfl rfl b3 rfl (fc k) R3 _ Try.underlying31 rfl (fc_info _) ?_) | (refine wpList_storeR 31 rfl (.tmp 6) _ rfl b6 rfl (fc k) rfl _ R6 rfl (fc_info _) (fc_one _) ?_; intro w6 R6 t6; replace R3 := t6.row R3 n36; replace hB := t6.below _ _ l6 hB) | (go_at_call 15; go_fit (C4 _); rintro e w' ⟨rfl, hw⟩; rw [hw]; clear hw w') | (go_at_call 15; go_fit (C18 _); rintro e w' ⟨rfl, hw⟩; rw [hw]; clear hw w'))
          refine wp_region_noPanic ?_
          refine wp_region_held_drew (S := fun W => Row 31 W b3 (fc k)) (by kernel_rfl) R3 (fun _ => ?_)
          refine wpAnyH_take (i := 0) (v := .agg (fc k)) rfl (by kernel_rfl) (by kernel_rfl) (by kernel_rfl) (fun _ _ _ h => h) (yields_loadR 31 (.tmp 3) rfl (by kernel_rfl) b3 (by kernel_rfl) (fc k) (fun _ h => h) _ Try.underlying31 rfl (fc_info _)) R3 ?_
          simp only [Act.put, List.getElem_toArray, List.getElem_cons_succ, List.getElem_cons_zero, List.setIfInBounds_toArray, List.set_cons_zero, List.set_cons_succ]
          refine wpAnyH_take (i := 1) (v := .bool true) rfl (by kernel_rfl) (by kernel_rfl) (by kernel_rfl) (fun _ _ _ h => h) (Or.inl ⟨by kernel_rfl, by intro w hS; go_simp⟩) R3 ?_
          simp only [Act.put, List.getElem_toArray, List.getElem_cons_succ, List.getElem_cons_zero, List.setIfInBounds_toArray, List.set_cons_zero, List.set_cons_succ]
          refine wpAnyH_take (i := 2) (v := .bool false) rfl (by kernel_rfl) (by kernel_rfl) (by kernel_rfl) (fun _ _ _ h => h) (Or.inl ⟨by kernel_rfl, by intro w hS; go_simp⟩) R3 ?_
          simp only [Act.put, List.getElem_toArray, List.getElem_cons_succ, List.getElem_cons_zero, List.setIfInBounds_toArray, List.set_cons_zero, List.set_cons_succ]
          refine wpAnyH_take (i := 3) (v := .bool false) rfl (by kernel_rfl) (by kernel_rfl) (by kernel_rfl) (fun _ _ _ h => h) (Or.inl ⟨by kernel_rfl, by intro w hS; go_simp⟩) R3 ?_
          simp only [Act.put, List.getElem_toArray, List.getElem_cons_succ, List.getElem_cons_zero, List.setIfInBounds_toArray, List.set_cons_zero, List.set_cons_succ]
          refine wpAnyH_take (i := 4) (v := undef) rfl (by kernel_rfl) (by kernel_rfl) (by kernel_rfl) (fun _ _ _ h => h) (Or.inr ⟨by kernel_rfl, rfl⟩) R3 ?_
          simp only [Act.put, List.getElem_toArray, List.getElem_cons_succ, List.getElem_cons_zero, List.setIfInBounds_toArray, List.set_cons_zero, List.set_cons_succ]
          refine wpAnyH_ready (rs := [5]) (by kernel_rfl) (by simp) ?_
          refine AllReadyH.cons rfl (fun K hK => ?_) ?_
          · rw [if_neg (ne_true_of_eq_false (by kernel_rfl))]
            refine hK.out _ _ R3 (fun _ => ?_)
            clear hK K
            try simp only [Act.put, List.getElem_toArray, List.getElem_cons_succ, List.getElem_cons_zero, List.setIfInBounds_toArray, List.set_cons_zero, List.set_cons_succ]
            refine wpAnyH_take (i := 6) (v := .bool false) rfl (by kernel_rfl) (by kernel_rfl) (by kernel_rfl) (fun _ _ _ h => h) (Or.inl ⟨by kernel_rfl, by intro w hS; go_simp⟩) R3 ?_
            simp only [Act.put, List.getElem_toArray, List.getElem_cons_succ, List.getElem_cons_zero, List.setIfInBounds_toArray, List.set_cons_zero, List.set_cons_succ]
            refine wpAnyH_ready (rs := [7]) (by kernel_rfl) (by simp) ?_
            refine AllReadyH.cons rfl (fun K hK => ?_) ?_
            · rw [if_pos (by kernel_rfl)]
              refine wp_storeR 31 (.tmp 6) (.tmp 62) rfl b6 rfl (fc k) rfl _ R6 rfl (fc_info _) (fc_one _) ?_; intro w10 R6 t10; (first | replace R3 := t10.row R3 n36 | replace R3 := t10.row R3.drew n36); (first | replace hB := t10.below _ _ l6 hB | replace hB := t10.below _ _ l6 (below_drewG hB))
              refine hK.out _ _ R3 (fun _ => ?_)
              clear hK K
              try simp only [Act.put, List.getElem_toArray, List.getElem_cons_succ, List.getElem_cons_zero, List.setIfInBounds_toArray, List.set_cons_zero, List.set_cons_succ]
              refine wpAnyH_take (i := 8) (v := .bool false) rfl (by kernel_rfl) (by kernel_rfl) (by kernel_rfl) (fun _ _ _ h => h) (Or.inl ⟨by kernel_rfl, by intro w hS; go_simp⟩) R3 ?_
              simp only [Act.put, List.getElem_toArray, List.getElem_cons_succ, List.getElem_cons_zero, List.setIfInBounds_toArray, List.set_cons_zero, List.set_cons_succ]
              refine wpAnyH_done (by kernel_rfl) ?_ _
              refine NoPanic.normal ?_
              go_wp2
              ((try simp only [Exit.inBlock, Exit.then]); refine bodyPost_ret (results_row2 (p := 6) (u := 7) rfl _ _ _ _ rfl R6 _ Try.underlying31 rfl (fc_info _)) rfl ⟨ret_step H.out, hB⟩)
            exact AllReadyH.nil
          exact AllReadyH.nil
        exact AllReadyH.nil
    · have s1 : (k.st == 1) = false := by simp [e1]
      by_cases e2 : k.st = 2
      · have s2 : (k.st == 2) = true := by simp [e2]
        have s3 : (k.st == 3) = false := by simp [e2]
        cases h1 : has x 1 with
        | true =>
          have C1 := fun w => hasAll_is x 1 (by decide) (by decide) _ h1 w
          have H : Hid (stepT k x true = ({ k with st := 3, sd := sideZ true }, true)) := by show stepT k x true = ({ k with st := 3, sd := sideZ true }, true); simp [stepT, h4, h1, e2]
          clear h4 h1 e1 e2
          go_enter Try.func19, Try.ntmps19
          go_wp2_with (first | (refine wpList_boxR 31 rfl _ rfl _ rfl ?_; intro b3 w1 l3 R3 hb1; replace l3 := Nat.le_trans hB.size l3; replace hB := hB.trans (hb1.mono hB.size)) | (refine wpList_allocX 6 31 rfl rfl rfl _ flow_zero ?_; intro b6 w2 l6 R6 hb2; have n36 := R3.ne l6; replace l6 := Nat.le_trans hB.size l6; replace R3 := R3.below hb2; replace hB := hB.trans (hb2.mono hB.size)) | (refine wpList_loadF R3 _ rfl rfl _ rfl _ rfl ?_) | (refine wpList_storeF R3 rfl _ _ rfl _ rfl _ rfl _ rfl (fc { k with st := 3 }) rfl ?_; intro w4 R3 t4; replace R6 := t4.row R6 n36.symm; replace hB := t4.below _ _ l3 hB) | (refine wpList_storeF R3 rfl _ _ rfl _ rfl _ rfl _ rfl (fc { k with st := 3, sd := sideZ true }) rfl ?_; intro w4 R3 t4; replace R6 := t4.row R6 n36.symm; replace hB := t4.below _ _ l3 hB) | (refine wpList_loadR 31 (.tmp 3) rfl rfl b3 rfl (fc { k with st := 3, sd := sideZ true }) R3 _ Try.underlying31 rfl (fc_info _) ?_) | (refine wpList_storeR 31 rfl (.tmp 6) _ rfl b6 rfl (fc { k with st := 3, sd := sideZ true }) rfl _ R6 rfl (fc_info _) (fc_one _) ?_; intro w6 R6 t6; replace R3 := t6.row R3 n36; replace hB := t6.below _ _ l6 hB) | (go_at_call 15; go_fit (C4 _); rintro e w' ⟨rfl, hw⟩; rw [hw]; clear hw w') | (go_at_call 15; go_fit (C1 _); rintro e w' ⟨rfl, hw⟩; rw [hw]; clear hw w'))
          refine wp_region_noPanic ?_
          refine wp_region_held_drew (S := fun W => Row 31 W b3 (fc k)) (by kernel_rfl) R3 (fun _ => ?_)
          refine wpAnyH_take (i := 0) (v := .pointer (some ⟨b3, 7, none⟩)) rfl (by kernel_rfl) (by kernel_rfl) (by kernel_rfl) (fun _ _ _ h => h) (Or.inl ⟨by kernel_rfl, by intro w hS; go_simp⟩) R3 ?_
          simp only [Act.put, List.getElem_toArray, List.getElem_cons_succ, List.getElem_cons_zero, List.setIfInBounds_toArray, List.set_cons_zero, List.set_cons_succ]
          refine wpAnyH_take (i := 1) (v := .int .i64 k.st) rfl (by kernel_rfl) (by kernel_rfl) (by kernel_rfl) (fun _ _ _ h => h) (Or.inl ⟨by kernel_rfl, by intro w hS; have hc := (hS.cell 7).trans (show (fc k)[7]? = some (.int .i64 k.st) from rfl); go_simp⟩) R3 ?_
          simp only [Act.put, List.getElem_toArray, List.getElem_cons_succ, List.getElem_cons_zero, List.setIfInBounds_toArray, List.set_cons_zero, List.set_cons_succ]
          refine wpAnyH_take (i := 2) (v := .bool true) rfl (by kernel_rfl) (by kernel_rfl) (by kernel_rfl) (fun _ _ _ h => h) (Or.inl ⟨by kernel_rfl, by intro w hS; go_simp⟩) R3 ?_
          simp only [Act.put, List.getElem_toArray, List.getElem_cons_succ, List.getElem_cons_zero, List.setIfInBounds_toArray, List.set_cons_zero, List.set_cons_succ]
          refine wpAnyH_ready (rs := [3]) (by kernel_rfl) (by simp) ?_
          refine AllReadyH.cons rfl (fun K hK => ?_) ?_
          · go_simp
            go_at_call 20; refine (sideOf_any true _).mono ?_; rintro e w5 ⟨rfl, hw⟩; rw [hw]; clear hw w5
            go_wp2_with fail
            refine hK.out _ _ R3 (fun _ => ?_)
            clear hK K
            try simp only [Act.put, List.getElem_toArray, List.getElem_cons_succ, List.getElem_cons_zero, List.setIfInBounds_toArray, List.set_cons_zero, List.set_cons_succ]
            refine wpAnyH_take (i := 4) (v := .int .i64 k.st) rfl (by kernel_rfl) (by kernel_rfl) (by kernel_rfl) (fun _ _ _ h => h) (Or.inl ⟨by kernel_rfl, by intro w hS; go_simp⟩) R3 ?_
            simp only [Act.put, List.getElem_toArray, List.getElem_cons_succ, List.getElem_cons_zero, List.setIfInBounds_toArray, List.set_cons_zero, List.set_cons_succ]
            refine wpAnyH_take (i := 5) (v := .int .i64 (sideZ true)) rfl (by kernel_rfl) (by kernel_rfl) (by kernel_rfl) (fun _ _ _ h => h) (Or.inl ⟨by kernel_rfl, by intro w hS; go_simp⟩) R3 ?_
            simp only [Act.put, List.getElem_toArray, List.getElem_cons_succ, List.getElem_cons_zero, List.setIfInBounds_toArray, List.set_cons_zero, List.set_cons_succ]
            refine wpAnyH_done (by kernel_rfl) ?_ _
            refine NoPanic.normal ?_
            replace R3 := R3.drew; replace R6 := R6.drew; replace hB := below_drewG hB
            go_wp2_with (first | (refine wpList_boxR 31 rfl _ rfl _ rfl ?_; intro b3 w1 l3 R3 hb1; replace l3 := Nat.le_trans hB.size l3; replace hB := hB.trans (hb1.mono hB.size)) | (refine wpList_allocX 6 31 rfl rfl rfl _ flow_zero ?_; intro b6 w2 l6 R6 hb2; have n36 := R3.ne l6; replace l6 := Nat.le_trans hB.size l6; replace R3 := R3.below hb2; replace hB := hB.trans (hb2.mono hB.size)) | (refine wpList_loadF R3 _ rfl rfl _ rfl _ rfl ?_) | (refine wpList_storeF R3 rfl _ _ rfl _ rfl _ rfl _ rfl (fc { k with st := 3 }) rfl ?_; intro w4 R3 t4; replace R6 := t4.row R6 n36.symm; replace hB := t4.below _ _ l3 hB) | (refine wpList_storeF R3 rfl _ _ rfl _ rfl _ rfl _ rfl (fc { k with st := 3, sd := sideZ true }) rfl ?_; intro w4 R3 t4; replace R6 := t4.row R6 n36.symm; replace hB := t4.below _ _ l3 hB) | (refine wpList_loadR 31 (.tmp 3) rfl rfl b3 rfl (fc { k with st := 3, sd := sideZ true }) R3 _ Try.underlying31 rfl (fc_info _) ?_) | (refine wpList_storeR 31 rfl (.tmp 6) _ rfl b6 rfl (fc { k with st := 3, sd := sideZ true }) rfl _ R6 rfl (fc_info _) (fc_one _) ?_; intro w6 R6 t6; replace R3 := t6.row R3 n36; replace hB := t6.below _ _ l6 hB) | (go_at_call 15; go_fit (C4 _); rintro e w' ⟨rfl, hw⟩; rw [hw]; clear hw w') | (go_at_call 15; go_fit (C1 _); rintro e w' ⟨rfl, hw⟩; rw [hw]; clear hw w'))
            ((try simp only [Exit.inBlock, Exit.then]); refine bodyPost_ret (results_row2 (p := 6) (u := 7) rfl _ _ _ _ rfl R6 _ Try.underlying31 rfl (fc_info _)) rfl ⟨ret_step H.out, hB⟩)
          exact AllReadyH.nil
        | false =>
          have C1 := fun w => hasAll_is x 1 (by decide) (by decide) _ h1 w
          have H : Hid (stepT k x true = (k, true)) := by show stepT k x true = (k, true); simp [stepT, h4, h1, e2]
          clear h4 h1 e1 e2
          go_enter Try.func19, Try.ntmps19
          go_wp2_with (first | (refine wpList_boxR 31 rfl _ rfl _ rfl ?_; intro b3 w1 l3 R3 hb1; replace l3 := Nat.le_trans hB.size l3; replace hB := hB.trans (hb1.mono hB.size)) | (refine wpList_allocX 6 31 rfl rfl rfl _ flow_zero ?_; intro b6 w2 l6 R6 hb2; have n36 := R3.ne l6; replace l6 := Nat.le_trans hB.size l6; replace R3 := R3.below hb2; replace hB := hB.trans (hb2.mono hB.size)) | (refine wpList_loadF R3 _ rfl rfl _ rfl _ rfl ?_) | (refine wpList_loadR 31 (.tmp 3) rfl rfl b3 rfl (fc k) R3 _ Try.underlying31 rfl (fc_info _) ?_) | (refine wpList_storeR 31 rfl (.tmp 6) _ rfl b6 rfl (fc k) rfl _ R6 rfl (fc_info _) (fc_one _) ?_; intro w6 R6 t6; replace R3 := t6.row R3 n36; replace hB := t6.below _ _ l6 hB) | (go_at_call 15; go_fit (C4 _); rintro e w' ⟨rfl, hw⟩; rw [hw]; clear hw w') | (go_at_call 15; go_fit (C1 _); rintro e w' ⟨rfl, hw⟩; rw [hw]; clear hw w'))
          refine wp_region_noPanic ?_
          refine wp_region_held_drew (S := fun W => Row 31 W b3 (fc k)) (by kernel_rfl) R3 (fun _ => ?_)
          refine wpAnyH_take (i := 0) (v := .pointer (some ⟨b3, 7, none⟩)) rfl (by kernel_rfl) (by kernel_rfl) (by kernel_rfl) (fun _ _ _ h => h) (Or.inl ⟨by kernel_rfl, by intro w hS; go_simp⟩) R3 ?_
          simp only [Act.put, List.getElem_toArray, List.getElem_cons_succ, List.getElem_cons_zero, List.setIfInBounds_toArray, List.set_cons_zero, List.set_cons_succ]
          refine wpAnyH_take (i := 1) (v := .int .i64 k.st) rfl (by kernel_rfl) (by kernel_rfl) (by kernel_rfl) (fun _ _ _ h => h) (Or.inl ⟨by kernel_rfl, by intro w hS; have hc := (hS.cell 7).trans (show (fc k)[7]? = some (.int .i64 k.st) from rfl); go_simp⟩) R3 ?_
          simp only [Act.put, List.getElem_toArray, List.getElem_cons_succ, List.getElem_cons_zero, List.setIfInBounds_toArray, List.set_cons_zero, List.set_cons_succ]
          refine wpAnyH_take (i := 2) (v := .bool true) rfl (by kernel_rfl) (by kernel_rfl) (by kernel_rfl) (fun _ _ _ h => h) (Or.inl ⟨by kernel_rfl, by intro w hS; go_simp⟩) R3 ?_
          simp only [Act.put, List.getElem_toArray, List.getElem_cons_succ, List.getElem_cons_zero, List.setIfInBounds_toArray, List.set_cons_zero, List.set_cons_succ]
          refine wpAnyH_ready (rs := [3]) (by kernel_rfl) (by simp) ?_
          refine AllReadyH.cons rfl (fun K hK => ?_) ?_
          · go_simp
            go_at_call 20; refine (sideOf_any true _).mono ?_; rintro e w5 ⟨rfl, hw⟩; rw [hw]; clear hw w5
            go_wp2_with fail
            refine hK.out _ _ R3 (fun _ => ?_)
            clear hK K
            try simp only [Act.put, List.getElem_toArray, List.getElem_cons_succ, List.getElem_cons_zero, List.setIfInBounds_toArray, List.set_cons_zero, List.set_cons_succ]
            refine wpAnyH_take (i := 4) (v := .int .i64 k.st) rfl (by kernel_rfl) (by kernel_rfl) (by kernel_rfl) (fun _ _ _ h => h) (Or.inl ⟨by kernel_rfl, by intro w hS; go_simp⟩) R3 ?_
            simp only [Act.put, List.getElem_toArray, List.getElem_cons_succ, List.getElem_cons_zero, List.setIfInBounds_toArray, List.set_cons_zero, List.set_cons_succ]
            refine wpAnyH_take (i := 5) (v := .int .i64 (sideZ true)) rfl (by kernel_rfl) (by kernel_rfl) (by kernel_rfl) (fun _ _ _ h => h) (Or.inl ⟨by kernel_rfl, by intro w hS; go_simp⟩) R3 ?_
            simp only [Act.put, List.getElem_toArray, List.getElem_cons_succ, List.getElem_cons_zero, List.setIfInBounds_toArray, List.set_cons_zero, List.set_cons_succ]
            refine wpAnyH_done (by kernel_rfl) ?_ _
            refine NoPanic.normal ?_
            replace R3 := R3.drew; replace R6 := R6.drew; replace hB := below_drewG hB
            go_wp2_with (first | (refine wpList_boxR 31 rfl _ rfl _ rfl ?_; intro b3 w1 l3 R3 hb1; replace l3 := Nat.le_trans hB.size l3; replace hB := hB.trans (hb1.mono hB.size)) | (refine wpList_allocX 6 31 rfl rfl rfl _ flow_zero ?_; intro b6 w2 l6 R6 hb2; have n36 := R3.ne l6; replace l6 := Nat.le_trans hB.size l6; replace R3 := R3.below hb2; replace hB := hB.trans (hb2.mono hB.size)) | (refine wpList_loadF R3 _ rfl rfl _ rfl _ rfl ?_) | (refine wpList_loadR 31 (.tmp 3) rfl rfl b3 rfl (fc k) R3 _ Try.underlying31 rfl (fc_info _) ?_) | (refine wpList_storeR 31 rfl (.tmp 6) _ rfl b6 rfl (fc k) rfl _ R6 rfl (fc_info _) (fc_one _) ?_; intro w6 R6 t6; replace R3 := t6.row R3 n36; replace hB := t6.below _ _ l6 hB) | (go_at_call 15; go_fit (C4 _); rintro e w' ⟨rfl, hw⟩; rw [hw]; clear hw w') | (go_at_call 15; go_fit (C1 _); rintro e w' ⟨rfl, hw⟩; rw [hw]; clear hw w'))
            ((try simp only [Exit.inBlock, Exit.then]); refine bodyPost_ret (results_row2 (p := 6) (u := 7) rfl _ _ _ _ rfl R6 _ Try.underlying31 rfl (fc_info _)) rfl ⟨ret_step H.out, hB⟩)
          exact AllReadyH.nil
      · have s2 : (k.st == 2) = false := by simp [e2]
        by_cases e3 : k.st = 3
        · have s3 : (k.st == 3) = true := by simp [e3]
          cases h1 : has x 1 with
          | true =>
            have C1 := fun w => hasAll_is x 1 (by decide) (by decide) _ h1 w
            by_cases e5 : sideZ true = k.sd
            · have s5 : (sideZ true != k.sd) = false := by simp [e5]
              have H : Hid (stepT k x true = (k, false)) := by show stepT k x true = (k, false); simp [stepT, h4, h1, e3, e5]
              clear h4 h1 e1 e2 e3 e5
              go_enter Try.func19, Try.ntmps19
              go_wp2_with (first | (refine wpList_boxR 31 rfl _ rfl _ rfl ?_; intro b3 w1 l3 R3 hb1; replace l3 := Nat.le_trans hB.size l3; replace hB := hB.trans (hb1.mono hB.size)) | (refine wpList_allocX 6 31 rfl rfl rfl _ flow_zero ?_; intro b6 w2 l6 R6 hb2; have n36 := R3.ne l6; replace l6 := Nat.le_trans hB.size l6; replace R3 := R3.below hb2; replace hB := hB.trans (hb2.mono hB.size)) | (refine wpList_loadF R3 _ rfl rfl _ rfl _ rfl ?_) | (refine wpList_loadR 31 (.tmp 3) rfl rfl b3 rfl (fc k) R3 _ Try.underlying31 rfl (fc_info _) ?_) | (refine wpList_storeR 31 rfl (.tmp 6) _ rfl b6 rfl (fc k) rfl _ R6 rfl (fc_info _) (fc_one _) ?_; intro w6 R6 t6; replace R3 := t6.row R3 n36; replace hB := t6.below _ _ l6 hB) | (go_at_call 15; go_fit (C4 _); rintro e w' ⟨rfl, hw⟩; rw [hw]; clear hw w') | (go_at_call 15; go_fit (C1 _); rintro e w' ⟨rfl, hw⟩; rw [hw]; clear hw w'))
              refine wp_region_noPanic ?_
              refine wp_region_held_drew (S := fun W => Row 31 W b3 (fc k)) (by kernel_rfl) R3 (fun _ => ?_)
              refine wpAnyH_take (i := 0) (v := .pointer (some ⟨b3, 7, none⟩)) rfl (by kernel_rfl) (by kernel_rfl) (by kernel_rfl) (fun _ _ _ h => h) (Or.inl ⟨by kernel_rfl, by intro w hS; go_simp⟩) R3 ?_
              simp only [Act.put, List.getElem_toArray, List.getElem_cons_succ, List.getElem_cons_zero, List.setIfInBounds_toArray, List.set_cons_zero, List.set_cons_succ]
              refine wpAnyH_take (i := 1) (v := .int .i64 k.st) rfl (by kernel_rfl) (by kernel_rfl) (by kernel_rfl) (fun _ _ _ h => h) (Or.inl ⟨by kernel_rfl, by intro w hS; have hc := (hS.cell 7).trans (show (fc k)[7]? = some (.int .i64 k.st) from rfl); go_simp⟩) R3 ?_
              simp only [Act.put, List.getElem_toArray, List.getElem_cons_succ, List.getElem_cons_zero, List.setIfInBounds_toArray, List.set_cons_zero, List.set_cons_succ]
              refine wpAnyH_take (i := 2) (v := .bool true) rfl (by kernel_rfl) (by kernel_rfl) (by kernel_rfl) (fun _ _ _ h => h) (Or.inl ⟨by kernel_rfl, by intro w hS; go_simp⟩) R3 ?_
              simp only [Act.put, List.getElem_toArray, List.getElem_cons_succ, List.getElem_cons_zero, List.setIfInBounds_toArray, List.set_cons_zero, List.set_cons_succ]
              refine wpAnyH_ready (rs := [3]) (by kernel_rfl) (by simp) ?_
              refine AllReadyH.cons rfl (fun K hK => ?_) ?_
              · go_simp
                go_at_call 20; refine (sideOf_any true _).mono ?_; rintro e w5 ⟨rfl, hw⟩; rw [hw]; clear hw w5
                go_wp2_with fail
                refine hK.out _ _ R3 (fun _ => ?_)
                clear hK K
                try simp only [Act.put, List.getElem_toArray, List.getElem_cons_succ, List.getElem_cons_zero, List.setIfInBounds_toArray, List.set_cons_zero, List.set_cons_succ]
                refine wpAnyH_take (i := 4) (v := .int .i64 k.st) rfl (by kernel_rfl) (by kernel_rfl) (by kernel_rfl) (fun _ _ _ h => h) (Or.inl ⟨by kernel_rfl, by intro w hS; go_simp⟩) R3 ?_
                simp only [Act.put, List.getElem_toArray, List.getElem_cons_succ, List.getElem_cons_zero, List.setIfInBounds_toArray, List.set_cons_zero, List.set_cons_succ]
                refine wpAnyH_take (i := 5) (v := .int .i64 (sideZ true)) rfl (by kernel_rfl) (by kernel_rfl) (by kernel_rfl) (fun _ _ _ h => h) (Or.inl ⟨by kernel_rfl, by intro w hS; go_simp⟩) R3 ?_
                simp only [Act.put, List.getElem_toArray, List.getElem_cons_succ, List.getElem_cons_zero, List.setIfInBounds_toArray, List.set_cons_zero, List.set_cons_succ]
                refine wpAnyH_done (by kernel_rfl) ?_ _
                refine NoPanic.normal ?_
                replace R3 := R3.drew; replace R6 := R6.drew; replace hB := below_drewG hB
                go_wp2_with (first | (refine wpList_boxR 31 rfl _ rfl _ rfl ?_; intro b3 w1 l3 R3 hb1; replace l3 := Nat.le_trans hB.size l3; replace hB := hB.trans (hb1.mono hB.size)) | (refine wpList_allocX 6 31 rfl rfl rfl _ flow_zero ?_; intro b6 w2 l6 R6 hb2; have n36 := R3.ne l6; replace l6 := Nat.le_trans hB.size l6; replace R3 := R3.below hb2; replace hB := hB.trans (hb2.mono hB.size)) | (refine wpList_loadF R3 _ rfl rfl _ rfl _ rfl ?_) | (refine wpList_loadR 31 (.tmp 3) rfl rfl b3 rfl (fc k) R3 _ Try.underlying31 rfl (fc_info _) ?_) | (refine wpList_storeR 31 rfl (.tmp 6) _ rfl b6 rfl (fc k) rfl _ R6 rfl (fc_info _) (fc_one _) ?_; intro w6 R6 t6; replace R3 := t6.row R3 n36; replace hB := t6.below _ _ l6 hB) | (go_at_call 15; go_fit (C4 _); rintro e w' ⟨rfl, hw⟩; rw [hw]; clear hw w') | (go_at_call 15; go_fit (C1 _); rintro e w' ⟨rfl, hw⟩; rw [hw]; clear hw w'))
                ((try simp only [Exit.inBlock, Exit.then]); refine bodyPost_ret (results_row2 (p := 6) (u := 7) rfl _ _ _ _ rfl R6 _ Try.underlying31 rfl (fc_info _)) rfl ⟨ret_step H.out, hB⟩)
              exact AllReadyH.nil
            · have s5 : (sideZ true != k.sd) = true := by simp [e5]
              have H : Hid (stepT k x true = ({ k with st := 4 }, true)) := by show stepT k x true = ({ k with st := 4 }, true); simp [stepT, h4, h1, e3, e5]
              clear h4 h1 e1 e2 e3 e5
              go_enter Try.func19, Try.ntmps19
              go_wp2_with (first | (refine wpList_boxR 31 rfl _ rfl _ rfl ?_; intro b3 w1 l3 R3 hb1; replace l3 := Nat.le_trans hB.size l3; replace hB := hB.trans (hb1.mono hB.size)) | (refine wpList_allocX 6 31 rfl rfl rfl _ flow_zero ?_; intro b6 w2 l6 R6 hb2; have n36 := R3.ne l6; replace l6 := Nat.le_trans hB.size l6; replace R3 := R3.below hb2; replace hB := hB.trans (hb2.mono hB.size)) | (refine wpList_loadF R3 _ rfl rfl _ rfl _ rfl ?_) | (refine wpList_storeF R3 rfl _ _ rfl _ rfl _ rfl _ rfl (fc { k with st := 4 }) rfl ?_; intro w4 R3 t4; replace R6 := t4.row R6 n36.symm; replace hB := t4.below _ _ l3 hB) | (refine wpList_loadR 31 (.tmp 3) rfl rfl b3 rfl (fc { k with st := 4 }) R3 _ Try.underlying31 rfl (fc_info _) ?_) | (refine wpList_storeR 31 rfl (.tmp 6) _ rfl b6 rfl (fc { k with st := 4 }) rfl _ R6 rfl (fc_info _) (fc_one _) ?_; intro w6 R6 t6; replace R3 := t6.row R3 n36; replace hB := t6.below _ _ l6 hB) | (go_at_call 15; go_fit (C4 _); rintro e w' ⟨rfl, hw⟩; rw [hw]; clear hw w') | (go_at_call 15; go_fit (C1 _); rintro e w' ⟨rfl, hw⟩; rw [hw]; clear hw w'))
              refine wp_region_noPanic ?_
              refine wp_region_held_drew (S := fun W => Row 31 W b3 (fc k)) (by kernel_rfl) R3 (fun _ => ?_)
              refine wpAnyH_take (i := 0) (v := .pointer (some ⟨b3, 7, none⟩)) rfl (by kernel_rfl) (by kernel_rfl) (by kernel_rfl) (fun _ _ _ h => h) (Or.inl ⟨by kernel_rfl, by intro w hS; go_simp⟩) R3 ?_
              simp only [Act.put, List.getElem_toArray, List.getElem_cons_succ, List.getElem_cons_zero, List.setIfInBounds_toArray, List.set_cons_zero, List.set_cons_succ]
              refine wpAnyH_take (i := 1) (v := .int .i64 k.st) rfl (by kernel_rfl) (by kernel_rfl) (by kernel_rfl) (fun _ _ _ h => h) (Or.inl ⟨by kernel_rfl, by intro w hS; have hc := (hS.cell 7).trans (show (fc k)[7]? = some (.int .i64 k.st) from rfl); go_simp⟩) R3 ?_
              simp only [Act.put, List.getElem_toArray, List.getElem_cons_succ, List.getElem_cons_zero, List.setIfInBounds_toArray, List.set_cons_zero, List.set_cons_succ]
              refine wpAnyH_take (i := 2) (v := .bool true) rfl (by kernel_rfl) (by kernel_rfl) (by kernel_rfl) (fun _ _ _ h => h) (Or.inl ⟨by kernel_rfl, by intro w hS; go_simp⟩) R3 ?_
              simp only [Act.put, List.getElem_toArray, List.getElem_cons_succ, List.getElem_cons_zero, List.setIfInBounds_toArray, List.set_cons_zero, List.set_cons_succ]
              refine wpAnyH_ready (rs := [3]) (by kernel_rfl) (by simp) ?_
              refine AllReadyH.cons rfl (fun K hK => ?_) ?_
              · go_simp
                go_at_call 20; refine (sideOf_any true _).mono ?_; rintro e w5 ⟨rfl, hw⟩; rw [hw]; clear hw w5
                go_wp2_with fail
                refine hK.out _ _ R3 (fun _ => ?_)
                clear hK K
                try simp only [Act.put, List.getElem_toArray, List.getElem_cons_succ, List.getElem_cons_zero, List.setIfInBounds_toArray, List.set_cons_zero, List.set_cons_succ]
                refine wpAnyH_take (i := 4) (v := .int .i64 k.st) rfl (by kernel_rfl) (by kernel_rfl) (by kernel_rfl) (fun _ _ _ h => h) (Or.inl ⟨by kernel_rfl, by intro w hS; go_simp⟩) R3 ?_
                simp only [Act.put, List.getElem_toArray, List.getElem_cons_succ, List.getElem_cons_zero, List.setIfInBounds_toArray, List.set_cons_zero, List.set_cons_succ]
                refine wpAnyH_take (i := 5) (v := .int .i64 (sideZ true)) rfl (by kernel_rfl) (by kernel_rfl) (by kernel_rfl) (fun _ _ _ h => h) (Or.inl ⟨by kernel_rfl, by intro w hS; go_simp⟩) R3 ?_
                simp only [Act.put, List.getElem_toArray, List.getElem_cons_succ, List.getElem_cons_zero, List.setIfInBounds_toArray, List.set_cons_zero, List.set_cons_succ]
                refine wpAnyH_done (by kernel_rfl) ?_ _
                refine NoPanic.normal ?_
                replace R3 := R3.drew; replace R6 := R6.drew; replace hB := below_drewG hB
                go_wp2_with (first | (refine wpList_boxR 31 rfl _ rfl _ rfl ?_; intro b3 w1 l3 R3 hb1; replace l3 := Nat.le_trans hB.size l3; replace hB := hB.trans (hb1.mono hB.size)) | (refine wpList_allocX 6 31 rfl rfl rfl _ flow_zero ?_; intro b6 w2 l6 R6 hb2; have n36 := R3.ne l6; replace l6 := Nat.le_trans hB.size l6; replace R3 := R3.below hb2; replace hB := hB.trans (hb2.mono hB.size)) | (refine wpList_loadF R3 _ rfl rfl _ rfl _ rfl ?_) | (refine wpList_storeF R3 rfl _ _ rfl _ rfl _ rfl _ rfl (fc { k with st := 4 }) rfl ?_; intro w4 R3 t4; replace R6 := t4.row R6 n36.symm; replace hB := t4.below _ _ l3 hB) | (refine wpList_loadR 31 (.tmp 3) rfl rfl b3 rfl (fc { k with st := 4 }) R3 _ Try.underlying31 rfl (fc_info _) ?_) | (refine wpList_storeR 31 rfl (.tmp 6) _ rfl b6 rfl (fc { k with st := 4 }) rfl _ R6 rfl (fc_info _) (fc_one _) ?_; intro w6 R6 t6; replace R3 := t6.row R3 n36; replace hB := t6.below _ _ l6 hB) | (go_at_call 15; go_fit (C4 _); rintro e w' ⟨rfl, hw⟩; rw [hw]; clear hw w') | (go_at_call 15; go_fit (C1 _); rintro e w' ⟨rfl, hw⟩; rw [hw]; clear hw w'))
                ((try simp only [Exit.inBlock, Exit.then]); refine bodyPost_ret (results_row2 (p := 6) (u := 7) rfl _ _ _ _ rfl R6 _ Try.underlying31 rfl (fc_info _)) rfl ⟨ret_step H.out, hB⟩)
              exact AllReadyH.nil
          | false =>
            have C1 := fun w => hasAll_is x 1 (by decide) (by decide) _ h1 w
            have H : Hid (stepT k x true = (k, false)) := by show stepT k x true = (k, false); simp [stepT, h4, h1, e3]
            clear h4 h1 e1 e2 e3
            go_enter Try.func19, Try.ntmps19
            go_wp2_with (first | (refine wpList_boxR 31 rfl _ rfl _ rfl ?_; intro b3 w1 l3 R3 hb1; replace l3 := Nat.le_trans hB.size l3; replace hB := hB.trans (hb1.mono hB.size)) | (refine wpList_allocX 6 31 rfl rfl rfl _ flow_zero ?_; intro b6 w2 l6 R6 hb2; have n36 := R3.ne l6; replace l6 := Nat.le_trans hB.size l6; replace R3 := R3.below hb2; replace hB := hB.trans (hb2.mono hB.size)) | (refine wpList_loadF R3 _ rfl rfl _ rfl _ rfl ?_) | (refine wpList_loadR 31 (.tmp 3) rfl rfl b3 rfl (fc k) R3 _ Try.underlying31 rfl (fc_info _) ?_) | (refine wpList_storeR 31 rfl (.tmp 6) _ rfl b6 rfl (fc k) rfl _ R6 rfl (fc_info _) (fc_one _) ?_; intro w6 R6 t6; replace R3 := t6.row R3 n36; replace hB := t6.below _ _ l6 hB) | (go_at_call 15; go_fit (C4 _); rintro e w' ⟨rfl, hw⟩; rw [hw]; clear hw w') | (go_at_call 15; go_fit (C1 _); rintro e w' ⟨rfl, hw⟩; rw [hw]; clear hw w'))
            refine wp_region_noPanic ?_
            refine wp_region_held_drew (S := fun W => Row 31 W b3 (fc k)) (by kernel_rfl) R3 (fun _ => ?_)
            refine wpAnyH_take (i := 0) (v := .pointer (some ⟨b3, 7, none⟩)) rfl (by kernel_rfl) (by kernel_rfl) (by kernel_rfl) (fun _ _ _ h => h) (Or.inl ⟨by kernel_rfl, by intro w hS; go_simp⟩) R3 ?_
            simp only [Act.put, List.getElem_toArray, List.getElem_cons_succ, List.getElem_cons_zero, List.setIfInBounds_toArray, List.set_cons_zero, List.set_cons_succ]
            refine wpAnyH_take (i := 1) (v := .int .i64 k.st) rfl (by kernel_rfl) (by kernel_rfl) (by kernel_rfl) (fun _ _ _ h => h) (Or.inl ⟨by kernel_rfl, by intro w hS; have hc := (hS.cell 7).trans (show (fc k)[7]? = some (.int .i64 k.st) from rfl); go_simp⟩) R3 ?_
            simp only [Act.put, List.getElem_toArray, List.getElem_cons_succ, List.getElem_cons_zero, List.setIfInBounds_toArray, List.set_cons_zero, List.set_cons_succ]
            refine wpAnyH_take (i := 2) (v := .bool true) rfl (by kernel_rfl) (by kernel_rfl) (by kernel_rfl) (fun _ _ _ h => h) (Or.inl ⟨by kernel_rfl, by intro w hS; go_simp⟩) R3 ?_
            simp only [Act.put, List.getElem_toArray, List.getElem_cons_succ, List.getElem_cons_zero, List.setIfInBounds_toArray, List.set_cons_zero, List.set_cons_succ]
            refine wpAnyH_ready (rs := [3]) (by kernel_rfl) (by simp) ?_
            refine AllReadyH.cons rfl (fun K hK => ?_) ?_
            · go_simp
              go_at_call 20; refine (sideOf_any true _).mono ?_; rintro e w5 ⟨rfl, hw⟩; rw [hw]; clear hw w5
              go_wp2_with fail
              refine hK.out _ _ R3 (fun _ => ?_)
              clear hK K
              try simp only [Act.put, List.getElem_toArray, List.getElem_cons_succ, List.getElem_cons_zero, List.setIfInBounds_toArray, List.set_cons_zero, List.set_cons_succ]
              refine wpAnyH_take (i := 4) (v := .int .i64 k.st) rfl (by kernel_rfl) (by kernel_rfl) (by kernel_rfl) (fun _ _ _ h => h) (Or.inl ⟨by kernel_rfl, by intro w hS; go_simp⟩) R3 ?_
              simp only [Act.put, List.getElem_toArray, List.getElem_cons_succ, List.getElem_cons_zero, List.setIfInBounds_toArray, List.set_cons_zero, List.set_cons_succ]
              refine wpAnyH_take (i := 5) (v := .int .i64 (sideZ true)) rfl (by kernel_rfl) (by kernel_rfl) (by kernel_rfl) (fun _ _ _ h => h) (Or.inl ⟨by kernel_rfl, by intro w hS; go_simp⟩) R3 ?_
              simp only [Act.put, List.getElem_toArray, List.getElem_cons_succ, List.getElem_cons_zero, List.setIfInBounds_toArray, List.set_cons_zero, List.set_cons_succ]
              refine wpAnyH_done (by kernel_rfl) ?_ _
              refine NoPanic.normal ?_
              replace R3 := R3.drew; replace R6 := R6.drew; replace hB := below_drewG hB
              go_wp2_with (first | (refine wpList_boxR 31 rfl _ rfl _ rfl ?_; intro b3 w1 l3 R3 hb1; replace l3 := Nat.le_trans hB.size l3; replace hB := hB.trans (hb1.mono hB.size)) | (refine wpList_allocX 6 31 rfl rfl rfl _ flow_zero ?_; intro b6 w2 l6 R6 hb2; have n36 := R3.ne l6; replace l6 := Nat.le_trans hB.size l6; replace R3 := R3.below hb2; replace hB := hB.trans (hb2.mono hB.size)) | (refine wpList_loadF R3 _ rfl rfl _ rfl _ rfl ?_) | (refine wpList_loadR 31 (.tmp 3) rfl rfl b3 rfl (fc k) R3 _ Try.underlying31 rfl (fc_info _) ?_) | (refine wpList_storeR 31 rfl (.tmp 6) _ rfl b6 rfl (fc k) rfl _ R6 rfl (fc_info _) (fc_one _) ?_; intro w6 R6 t6; replace R3 := t6.row R3 n36; replace hB := t6.below _ _ l6 hB) | (go_at_call 15; go_fit (C4 _); rintro e w' ⟨rfl, hw⟩; rw [hw]; clear hw w') | (go_at_call 15; go_fit (C1 _); rintro e w' ⟨rfl, hw⟩; rw [hw]; clear hw w'))
              ((try simp only [Exit.inBlock, Exit.then]); refine bodyPost_ret (results_row2 (p := 6) (u := 7) rfl _ _ _ _ rfl R6 _ Try.underlying31 rfl (fc_info _)) rfl ⟨ret_step H.out, hB⟩)
            exact AllReadyH.nil
        · have s3 : (k.st == 3) = false := by simp [e3]
          have H : Hid (stepT k x true = (k, false)) := by show stepT k x true = (k, false); simp [stepT, h4, e1, e2, e3]
          clear h4 e1 e2 e3
          go_enter Try.func19, Try.ntmps19
          go_wp2_with (first | (refine wpList_boxR 31 rfl _ rfl _ rfl ?_; intro b3 w1 l3 R3 hb1; replace l3 := Nat.le_trans hB.size l3; replace hB := hB.trans (hb1.mono hB.size)) | (refine wpList_allocX 6 31 rfl rfl rfl _ flow_zero ?_; intro b6 w2 l6 R6 hb2; have n36 := R3.ne l6; replace l6 := Nat.le_trans hB.size l6; replace R3 := R3.below hb2; replace hB := hB.trans (hb2.mono hB.size)) | (refine wpList_loadF R3 _ rfl rfl _ rfl _ rfl ?_) | (refine wpList_loadR 31 (.tmp 3) rfl rfl b3 rfl (fc k) R3 _ Try.underlying31 rfl (fc_info _) ?_) | (refine wpList_storeR 31 rfl (.tmp 6) _ rfl b6 rfl (fc k) rfl _ R6 rfl (fc_info _) (fc_one _) ?_; intro w6 R6 t6; replace R3 := t6.row R3 n36; replace hB := t6.below _ _ l6 hB) | (go_at_call 15; go_fit (C4 _); rintro e w' ⟨rfl, hw⟩; rw [hw]; clear hw w'))
          refine wp_region_noPanic ?_
          refine wp_region_held_drew (S := fun W => Row 31 W b3 (fc k)) (by kernel_rfl) R3 (fun _ => ?_)
          refine wpAnyH_take (i := 0) (v := .pointer (some ⟨b3, 7, none⟩)) rfl (by kernel_rfl) (by kernel_rfl) (by kernel_rfl) (fun _ _ _ h => h) (Or.inl ⟨by kernel_rfl, by intro w hS; go_simp⟩) R3 ?_
          simp only [Act.put, List.getElem_toArray, List.getElem_cons_succ, List.getElem_cons_zero, List.setIfInBounds_toArray, List.set_cons_zero, List.set_cons_succ]
          refine wpAnyH_take (i := 1) (v := .int .i64 k.st) rfl (by kernel_rfl) (by kernel_rfl) (by kernel_rfl) (fun _ _ _ h => h) (Or.inl ⟨by kernel_rfl, by intro w hS; have hc := (hS.cell 7).trans (show (fc k)[7]? = some (.int .i64 k.st) from rfl); go_simp⟩) R3 ?_
          simp only [Act.put, List.getElem_toArray, List.getElem_cons_succ, List.getElem_cons_zero, List.setIfInBounds_toArray, List.set_cons_zero, List.set_cons_succ]
          refine wpAnyH_take (i := 2) (v := .bool true) rfl (by kernel_rfl) (by kernel_rfl) (by kernel_rfl) (fun _ _ _ h => h) (Or.inl ⟨by kernel_rfl, by intro w hS; go_simp⟩) R3 ?_
          simp only [Act.put, List.getElem_toArray, List.getElem_cons_succ, List.getElem_cons_zero, List.setIfInBounds_toArray, List.set_cons_zero, List.set_cons_succ]
          refine wpAnyH_ready (rs := [3]) (by kernel_rfl) (by simp) ?_
          refine AllReadyH.cons rfl (fun K hK => ?_) ?_
          · go_simp
            go_at_call 20; refine (sideOf_any true _).mono ?_; rintro e w5 ⟨rfl, hw⟩; rw [hw]; clear hw w5
            go_wp2_with fail
            refine hK.out _ _ R3 (fun _ => ?_)
            clear hK K
            try simp only [Act.put, List.getElem_toArray, List.getElem_cons_succ, List.getElem_cons_zero, List.setIfInBounds_toArray, List.set_cons_zero, List.set_cons_succ]
            refine wpAnyH_take (i := 4) (v := .int .i64 k.st) rfl (by kernel_rfl) (by kernel_rfl) (by kernel_rfl) (fun _ _ _ h => h) (Or.inl ⟨by kernel_rfl, by intro w hS; go_simp⟩) R3 ?_
            simp only [Act.put, List.getElem_toArray, List.getElem_cons_succ, List.getElem_cons_zero, List.setIfInBounds_toArray, List.set_cons_zero, List.set_cons_succ]
            refine wpAnyH_take (i := 5) (v := .int .i64 (sideZ true)) rfl (by kernel_rfl) (by kernel_rfl) (by kernel_rfl) (fun _ _ _ h => h) (Or.inl ⟨by kernel_rfl, by intro w hS; go_simp⟩) R3 ?_
            simp only [Act.put, List.getElem_toArray, List.getElem_cons_succ, List.getElem_cons_zero, List.setIfInBounds_toArray, List.set_cons_zero, List.set_cons_succ]
            refine wpAnyH_done (by kernel_rfl) ?_ _
            refine NoPanic.normal ?_
            replace R3 := R3.drew; replace R6 := R6.drew; replace hB := below_drewG hB
            go_wp2_with (first | (refine wpList_boxR 31 rfl _ rfl _ rfl ?_; intro b3 w1 l3 R3 hb1; replace l3 := Nat.le_trans hB.size l3; replace hB := hB.trans (hb1.mono hB.size)) | (refine wpList_allocX 6 31 rfl rfl rfl _ flow_zero ?_; intro b6 w2 l6 R6 hb2; have n36 := R3.ne l6; replace l6 := Nat.le_trans hB.size l6; replace R3 := R3.below hb2; replace hB := hB.trans (hb2.mono hB.size)) | (refine wpList_loadF R3 _ rfl rfl _ rfl _ rfl ?_) | (refine wpList_loadR 31 (.tmp 3) rfl rfl b3 rfl (fc k) R3 _ Try.underlying31 rfl (fc_info _) ?_) | (refine wpList_storeR 31 rfl (.tmp 6) _ rfl b6 rfl (fc k) rfl _ R6 rfl (fc_info _) (fc_one _) ?_; intro w6 R6 t6; replace R3 := t6.row R3 n36; replace hB := t6.below _ _ l6 hB) | (go_at_call 15; go_fit (C4 _); rintro e w' ⟨rfl, hw⟩; rw [hw]; clear hw w'))
            ((try simp only [Exit.inBlock, Exit.then]); refine bodyPost_ret (results_row2 (p := 6) (u := 7) rfl _ _ _ _ rfl R6 _ Try.underlying31 rfl (fc_info _)) rfl ⟨ret_step H.out, hB⟩)
          exact AllReadyH.nil
set_option maxRecDepth 10000 in
set_option maxHeartbeats 4000000 in
theorem stepTcp_false (k : Fl) (x : Int) (w : World) : Calls Try.prog 19 #[.agg (fc k), .int .i64 x, .bool false] w fun e w' => e = .returned (.tuple #[.agg (fc (stepT k x false).1), .bool (stepT k x false).2]) ∧ Below w.heap.size w w' := by
  have hB := Below.refl w.heap.size w
  cases h4 : has x 4 with
  | true =>
    have C4 := fun w => hasAll_is x 4 (by decide) (by decide) _ h4 w
    have H : Hid (stepT k x false = ({ k with st := 4 }, k.st != 4)) := by show stepT k x false = ({ k with st := 4 }, k.st != 4); simp [stepT, h4]
    clear h4
    go_enter Try.func19, Try.ntmps19
    go_wp2_with (first | (refine wpList_boxR 31 rfl _ rfl _ rfl ?_; intro b3 w1 l3 R3 hb1; replace l3 := Nat.le_trans hB.size l3; replace hB := hB.trans (hb1.mono hB.size)) | (refine wpList_allocX 6 31 rfl rfl rfl _ flow_zero ?_; intro b6 w2 l6 R6 hb2; have n36 := R3.ne l6; replace l6 := Nat.le_trans hB.size l6; replace R3 := R3.below hb2; replace hB := hB.trans (hb2.mono hB.size)) | (refine wpList_loadF R3 _ rfl rfl _ rfl _ rfl ?_) | (refine wpList_storeF R3 rfl _ _ rfl _ rfl _ rfl _ rfl (fc { k with st := 4 }) rfl ?_; intro w4 R3 t4; replace R6 := t4.row R6 n36.symm; replace hB := t4.below _ _ l3 hB) | (refine wpList_loadR 31 (.tmp 3) rfl rfl b3 rfl (fc { k with st := 4 }) R3 _ Try.underlying31 rfl (fc_info _) ?_) | (refine wpList_storeR 31 rfl (.tmp 6) _ rfl b6 rfl (fc { k with st := 4 }) rfl _ R6 rfl (fc_info _) (fc_one _) ?_; intro w6 R6 t6; replace R3 := t6.row R3 n36; replace hB := t6.below _ _ l6 hB) | (go_at_call 15; go_fit (C4 _); rintro e w' ⟨rfl, hw⟩; rw [hw]; clear hw w'))
    refine wp_region_noPanic ?_
    refine wp_region_held_drew (S := fun W => Row 31 W b3 (fc k)) (by kernel_rfl) R3 (fun _ => ?_)
    refine wpAnyH_take (i := 0) (v := .pointer (some ⟨b3, 7, none⟩)) rfl (by kernel_rfl) (by kernel_rfl) (by kernel_rfl) (fun _ _ _ h => h) (Or.inl ⟨by kernel_rfl, by intro w hS; go_simp⟩) R3 ?_
    simp only [Act.put, List.getElem_toArray, List.getElem_cons_succ, List.getElem_cons_zero, List.setIfInBounds_toArray, List.set_cons_zero, List.set_cons_succ]
    refine wpAnyH_take (i := 1) (v := .int .i64 k.st) rfl (by kernel_rfl) (by kernel_rfl) (by kernel_rfl) (fun _ _ _ h => h) (Or.inl ⟨by kernel_rfl, by intro w hS; have hc := (hS.cell 7).trans (show (fc k)[7]? = some (.int .i64 k.st) from rfl); go_simp⟩) R3 ?_
    simp only [Act.put, List.getElem_toArray, List.getElem_cons_succ, List.getElem_cons_zero, List.setIfInBounds_toArray, List.set_cons_zero, List.set_cons_succ]
    refine wpAnyH_take (i := 2) (v := .bool false) rfl (by kernel_rfl) (by kernel_rfl) (by kernel_rfl) (fun _ _ _ h => h) (Or.inl ⟨by kernel_rfl, by intro w hS; go_simp⟩) R3 ?_
    simp only [Act.put, List.getElem_toArray, List.getElem_cons_succ, List.getElem_cons_zero, List.setIfInBounds_toArray, List.set_cons_zero, List.set_cons_succ]
    refine wpAnyH_ready (rs := [3]) (by kernel_rfl) (by simp) ?_
    refine AllReadyH.cons rfl (fun K hK => ?_) ?_
    · go_simp
      go_at_call 20; refine (sideOf_any false _).mono ?_; rintro e w5 ⟨rfl, hw⟩; rw [hw]; clear hw w5
      go_wp2_with fail
      refine hK.out _ _ R3 (fun _ => ?_)
      clear hK K
      try simp only [Act.put, List.getElem_toArray, List.getElem_cons_succ, List.getElem_cons_zero, List.setIfInBounds_toArray, List.set_cons_zero, List.set_cons_succ]
      refine wpAnyH_take (i := 4) (v := .int .i64 k.st) rfl (by kernel_rfl) (by kernel_rfl) (by kernel_rfl) (fun _ _ _ h => h) (Or.inl ⟨by kernel_rfl, by intro w hS; go_simp⟩) R3 ?_
      simp only [Act.put, List.getElem_toArray, List.getElem_cons_succ, List.getElem_cons_zero, List.setIfInBounds_toArray, List.set_cons_zero, List.set_cons_succ]
      refine wpAnyH_take (i := 5) (v := .int .i64 (sideZ false)) rfl (by kernel_rfl) (by kernel_rfl) (by kernel_rfl) (fun _ _ _ h => h) (Or.inl ⟨by kernel_rfl, by intro w hS; go_simp⟩) R3 ?_
      simp only [Act.put, List.getElem_toArray, List.getElem_cons_succ, List.getElem_cons_zero, List.setIfInBounds_toArray, List.set_cons_zero, List.set_cons_succ]
      refine wpAnyH_done (by kernel_rfl) ?_ _
      refine NoPanic.normal ?_
      replace R3 := R3.drew; replace R6 := R6.drew; replace hB := below_drewG hB
      go_wp2_with (first | (refine wpList_boxR 31 rfl _ rfl _ rfl ?_; intro b3 w1 l3 R3 hb1; replace l3 := Nat.le_trans hB.size l3; replace hB := hB.trans (hb1.mono hB.size)) | (refine wpList_allocX 6 31 rfl rfl rfl _ flow_zero ?_; intro b6 w2 l6 R6 hb2; have n36 := R3.ne l6; replace l6 := Nat.le_trans hB.size l6; replace R3 := R3.below hb2; replace hB := hB.trans (hb2.mono hB.size)) | (refine wpList_loadF R3 _ rfl rfl _ rfl _ rfl ?_) | (refine wpList_storeF R3 rfl _ _ rfl _ rfl _ rfl _ rfl (fc { k with st := 4 }) rfl ?_; intro w4 R3 t4; replace R6 := t4.row R6 n36.symm; replace hB := t4.below _ _ l3 hB) | (refine wpList_loadR 31 (.tmp 3) rfl rfl b3 rfl (fc { k with st := 4 }) R3 _ Try.underlying31 rfl (fc_info _) ?_) | (refine wpList_storeR 31 rfl (.tmp 6) _ rfl b6 rfl (fc { k with st := 4 }) rfl _ R6 rfl (fc_info _) (fc_one _) ?_; intro w6 R6 t6; replace R3 := t6.row R3 n36; replace hB := t6.below _ _ l6 hB) | (go_at_call 15; go_fit (C4 _); rintro e w' ⟨rfl, hw⟩; rw [hw]; clear hw w'))
      ((try simp only [Exit.inBlock, Exit.then]); refine bodyPost_ret (results_row2 (p := 6) (u := 7) rfl _ _ _ _ rfl R6 _ Try.underlying31 rfl (fc_info _)) rfl ⟨ret_step H.out, hB⟩)
    exact AllReadyH.nil
  | false =>
    have C4 := fun w => hasAll_is x 4 (by decide) (by decide) _ h4 w
    by_cases e1 : k.st = 1
    · have s1 : (k.st == 1) = true := by simp [e1]
      have s2 : (k.st == 2) = false := by simp [e1]
      have s3 : (k.st == 3) = false := by simp [e1]
      cases h2 : has x 2 with
      | true =>
        have C2 := fun w => hasAll_is x 2 (by decide) (by decide) _ h2 w
        have H : Hid (stepT k x false = (k, true)) := by show stepT k x false = (k, true); simp [stepT, h4, h2, e1]
        clear h4 h2 e1
        go_enter Try.func19, Try.ntmps19
        go_wp2_with (first | (refine wpList_boxR 31 rfl _ rfl _ rfl ?_; intro b3 w1 l3 R3 hb1; replace l3 := Nat.le_trans hB.size l3; replace hB := hB.trans (hb1.mono hB.size)) | (refine wpList_allocX 6 31 rfl rfl rfl _ flow_zero ?_; intro b6 w2 l6 R6 hb2; have n36 := R3.ne l6; replace l6 := Nat.le_trans hB.size l6; replace R3 := R3.below hb2; replace hB := hB.trans (hb2.mono hB.size)) | (refine wpList_loadF R3 _ rfl rfl _ rfl _ rfl ?_) | (refine wpList_loadR 31 (.tmp 3) rfl rfl b3 rfl (fc k) R3 _ Try.underlying31 rfl (fc_info _) ?_) | (refine wpList_storeR 31 rfl (.tmp 6) _ rfl b6 rfl (fc k) rfl _ R6 rfl (fc_info _) (fc_one _) ?_; intro w6 R6 t6; replace R3 := t6.row R3 n36; replace hB := t6.below _ _ l6 hB) | (go_at_call 15; go_fit (C4 _); rintro e w' ⟨rfl, hw⟩; rw [hw]; clear hw w'))
        refine wp_region_noPanic ?_
        refine wp_region_held_drew (S := fun W => Row 31 W b3 (fc k)) (by kernel_rfl) R3 (fun _ => ?_)
        refine wpAnyH_take (i := 0) (v := .pointer (some ⟨b3, 7, none⟩)) rfl (by kernel_rfl) (by kernel_rfl) (by kernel_rfl) (fun _ _ _ h => h) (Or.inl ⟨by kernel_rfl, by intro w hS; go_simp⟩) R3 ?_
        simp only [Act.put, List.getElem_toArray, List.getElem_cons_succ, List.getElem_cons_zero, List.setIfInBounds_toArray, List.set_cons_zero, List.set_cons_succ]
        refine wpAnyH_take (i := 1) (v := .int .i64 k.st) rfl (by kernel_rfl) (by kernel_rfl) (by kernel_rfl) (fun _ _ _ h => h) (Or.inl ⟨by kernel_rfl, by intro w hS; have hc := (hS.cell 7).trans (show (fc k)[7]? = some (.int .i64 k.st) from rfl); go_simp⟩) R3 ?_
        simp only [Act.put, List.getElem_toArray, List.getElem_cons_succ, List.getElem_cons_zero, List.setIfInBounds_toArray, List.set_cons_zero, List.set_cons_succ]
        refine wpAnyH_take (i := 2) (v := .bool false) rfl (by kernel_rfl) (by kernel_rfl) (by kernel_rfl) (fun _ _ _ h => h) (Or.inl ⟨by kernel_rfl, by intro w hS; go_simp⟩) R3 ?_
        simp only [Act.put, List.getElem_toArray, List.getElem_cons_succ, List.getElem_cons_zero, List.setIfInBounds_toArray, List.set_cons_zero, List.set_cons_succ]
        refine wpAnyH_ready (rs := [3]) (by kernel_rfl) (by simp) ?_
        refine AllReadyH.cons rfl (fun K hK => ?_) ?_
        · go_simp
          go_at_call 20; refine (sideOf_any false _).mono ?_; rintro e w5 ⟨rfl, hw⟩; rw [hw]; clear hw w5
          go_wp2_with fail
          refine hK.out _ _ R3 (fun _ => ?_)
          clear hK K
          try simp only [Act.put, List.getElem_toArray, List.getElem_cons_succ, List.getElem_cons_zero, List.setIfInBounds_toArray, List.set_cons_zero, List.set_cons_succ]
          refine wpAnyH_take (i := 4) (v := .int .i64 k.st) rfl (by kernel_rfl) (by kernel_rfl) (by kernel_rfl) (fun _ _ _ h => h) (Or.inl ⟨by kernel_rfl, by intro w hS; go_simp⟩) R3 ?_
          simp only [Act.put, List.getElem_toArray, List.getElem_cons_succ, List.getElem_cons_zero, List.setIfInBounds_toArray, List.set_cons_zero, List.set_cons_succ]
          refine wpAnyH_take (i := 5) (v := .int .i64 (sideZ false)) rfl (by kernel_rfl) (by kernel_rfl) (by kernel_rfl) (fun _ _ _ h => h) (Or.inl ⟨by kernel_rfl, by intro w hS; go_simp⟩) R3 ?_
          simp only [Act.put, List.getElem_toArray, List.getElem_cons_succ, List.getElem_cons_zero, List.setIfInBounds_toArray, List.set_cons_zero, List.set_cons_succ]
          refine wpAnyH_done (by kernel_rfl) ?_ _
          refine NoPanic.normal ?_
          replace R3 := R3.drew; replace R6 := R6.drew; replace hB := below_drewG hB
          go_wp2_with (first | (refine wpList_boxR 31 rfl _ rfl _ rfl ?_; intro b3 w1 l3 R3 hb1; replace l3 := Nat.le_trans hB.size l3; replace hB := hB.trans (hb1.mono hB.size)) | (refine wpList_allocX 6 31 rfl rfl rfl _ flow_zero ?_; intro b6 w2 l6 R6 hb2; have n36 := R3.ne l6; replace l6 := Nat.le_trans hB.size l6; replace R3 := R3.below hb2; replace hB := hB.trans (hb2.mono hB.size)) | (refine wpList_loadF R3 _ rfl rfl _ rfl _ rfl ?_) | (refine wpList_loadR 31 (.tmp 3) rfl rfl b3 rfl (fc k) R3 _ Try.underlying31 rfl (fc_info _) ?_) | (refine wpList_storeR 31 rfl (.tmp 6) _ rfl b6 rfl (fc k) rfl _ R6 rfl (fc_info _) (fc_one _) ?_; intro w6 R6 t6; replace R3 := t6.row R3 n36; replace hB := t6.below _ _ l6 hB) | (go_at_call 15; go_fit (C4 _); rintro e w' ⟨rfl, hw⟩; rw [hw]; clear hw w'))
          refine wp_region_noPanic ?_
          refine wp_region_held_drew (S := fun W => Row 31 W b3 (fc k)) (by kernel_rfl) R3 (fun _ => ?_)
          refine wpAnyH_take (i := 0) (v := .agg (fc k)) rfl (by kernel_rfl) (by kernel_rfl) (by kernel_rfl) (fun _ _ _ h => h) (yields_loadR 31 (.tmp 3) rfl (by kernel_rfl) b3 (by kernel_rfl) (fc k) (fun _ h => h) _ Try.underlying31 rfl (fc_info _)) R3 ?_
          simp only [Act.put, List.getElem_toArray, List.getElem_cons_succ, List.getElem_cons_zero, List.setIfInBounds_toArray, List.set_cons_zero, List.set_cons_succ]
          refine wpAnyH_take (i := 1) (v := .bool false) rfl (by kernel_rfl) (by kernel_rfl) (by kernel_rfl) (fun _ _ _ h => h) (Or.inl ⟨by kernel_rfl, by intro w hS; go_simp⟩) R3 ?_
          simp only [Act.put, List.getElem_toArray, List.getElem_cons_succ, List.getElem_cons_zero, List.setIfInBounds_toArray, List.set_cons_zero, List.set_cons_succ]
          refine wpAnyH_take (i := 2) (v := .bool true) rfl (by kernel_rfl) (by kernel_rfl) (by kernel_rfl) (fun _ _ _ h => h) (Or.inl ⟨by kernel_rfl, by intro w hS; go_simp⟩) R3 ?_
          simp only [Act.put, List.getElem_toArray, List.getElem_cons_succ, List.getElem_cons_zero, List.setIfInBounds_toArray, List.set_cons_zero, List.set_cons_succ]
          refine wpAnyH_take (i := 3) (v := .bool true) rfl (by kernel_rfl) (by kernel_rfl) (by kernel_rfl) (fun _ _ _ h => h) (Or.inl ⟨by kernel_rfl, by intro w hS; go_simp⟩) R3 ?_
          simp only [Act.put, List.getElem_toArray, List.getElem_cons_succ, List.getElem_cons_zero, List.setIfInBounds_toArray, List.set_cons_zero, List.set_cons_succ]
          refine wpAnyH_take (i := 4) (v := .int .i64 x) rfl (by kernel_rfl) (by kernel_rfl) (by kernel_rfl) (fun _ _ _ h => h) (Or.inl ⟨by kernel_rfl, by intro w hS; go_simp⟩) R3 ?_
          simp only [Act.put, List.getElem_toArray, List.getElem_cons_succ, List.getElem_cons_zero, List.setIfInBounds_toArray, List.set_cons_zero, List.set_cons_succ]
          refine wpAnyH_ready (rs := [5]) (by kernel_rfl) (by simp) ?_
          refine AllReadyH.cons rfl (fun K hK => ?_) ?_
          · go_simp
            go_at_call 15; refine (C2 _).mono ?_; rintro e w5 ⟨rfl, hw⟩; rw [hw]; clear hw w5
            go_wp2_with fail
            refine hK.out _ _ R3 (fun _ => ?_)
            clear hK K
            try simp only [Act.put, List.getElem_toArray, List.getElem_cons_succ, List.getElem_cons_zero, List.setIfInBounds_toArray, List.set_cons_zero, List.set_cons_succ]
            refine wpAnyH_take (i := 6) (v := .bool true) rfl (by kernel_rfl) (by kernel_rfl) (by kernel_rfl) (fun _ _ _ h => h) (Or.inl ⟨by kernel_rfl, by intro w hS; go_simp⟩) R3 ?_
            simp only [Act.put, List.getElem_toArray, List.getElem_cons_succ, List.getElem_cons_zero, List.setIfInBounds_toArray, List.set_cons_zero, List.set_cons_succ]
            refine wpAnyH_ready (rs := [7]) (by kernel_rfl) (by simp) ?_
            refine AllReadyH.cons rfl (fun K hK => ?_) ?_
            · rw [if_pos (by kernel_rfl)]
              refine wp_storeR 31 (.tmp 6) (.tmp 62) rfl b6 rfl (fc k) rfl _ R6 rfl (fc_info _) (fc_one _) ?_; intro w10 R6 t10; (first | replace R3 := t10.row R3 n36 | replace R3 := t10.row R3.drew n36); (first | replace hB := t10.below _ _ l6 hB | replace hB := t10.below _ _ l6 (below_drewG hB))
              refine hK.out _ _ R3 (fun _ => ?_)
              clear hK K
              try simp only [Act.put, List.getElem_toArray, List.getElem_cons_succ, List.getElem_cons_zero, List.setIfInBounds_toArray, List.set_cons_zero, List.set_cons_succ]
              refine wpAnyH_take (i := 8) (v := .bool true) rfl (by kernel_rfl) (by kernel_rfl) (by kernel_rfl) (fun _ _ _ h => h) (Or.inl ⟨by kernel_rfl, by intro w hS; go_simp⟩) R3 ?_
              simp only [Act.put, List.getElem_toArray, List.getElem_cons_succ, List.getElem_cons_zero, List.setIfInBounds_toArray, List.set_cons_zero, List.set_cons_succ]
              refine wpAnyH_done (by kernel_rfl) ?_ _
              refine NoPanic.normal ?_
              go_wp2
              ((try simp only [Exit.inBlock, Exit.then]); refine bodyPost_ret (results_row2 (p := 6) (u := 7) rfl _ _ _ _ rfl R6 _ Try.underlying31 rfl (fc_info _)) rfl ⟨ret_step H.out, hB⟩)
            exact AllReadyH.nil
          exact AllReadyH.nil
        exact AllReadyH.nil
      | false =>
        have C2 := fun w => hasAll_is x 2 (by decide) (by decide) _ h2 w
        have H : Hid (stepT k x false = (k, false)) := by show stepT k x false = (k, false); simp [stepT, h4, h2, e1]
        clear h4 h2 e1
        go_enter Try.func19, Try.ntmps19
        go_wp2_with (first | (refine wpList_boxR 31 rfl _ rfl _ rfl ?_; intro b3 w1 l3 R3 hb1; replace l3 := Nat.le_trans hB.size l3; replace hB := hB.trans (hb1.mono hB.size)) | (refine wpList_allocX 6 31 rfl rfl rfl _ flow_zero ?_; intro b6 w2 l6 R6 hb2; have n36 := R3.ne l6; replace l6 := Nat.le_trans hB.size l6; replace R3 := R3.below hb2; replace hB := hB.trans (hb2.mono hB.size)) | (refine wpList_loadF R3 _ rfl rfl _ rfl _ rfl ?_) | (refine wpList_loadR 31 (.tmp 3) rfl rfl b3 rfl (fc k) R3 _ Try.underlying31 rfl (fc_info _) ?_) | (refine wpList_storeR 31 rfl (.tmp 6) _ rfl b6 rfl (fc k) rfl _ R6 rfl (fc_info _) (fc_one _) ?_; intro w6 R6 t6; replace R3 := t6.row R3 n36; replace hB := t6.below _ _ l6 hB) | (go_at_call 15; go_fit (C4 _); rintro e w' ⟨rfl, hw⟩; rw [hw]; clear hw w'))
        refine wp_region_noPanic ?_
        refine wp_region_held_drew (S := fun W => Row 31 W b3 (fc k)) (by kernel_rfl) R3 (fun _ => ?_)
        refine wpAnyH_take (i := 0) (v := .pointer (some ⟨b3, 7, none⟩)) rfl (by kernel_rfl) (by kernel_rfl) (by kernel_rfl) (fun _ _ _ h => h) (Or.inl ⟨by kernel_rfl, by intro w hS; go_simp⟩) R3 ?_
        simp only [Act.put, List.getElem_toArray, List.getElem_cons_succ, List.getElem_cons_zero, List.setIfInBounds_toArray, List.set_cons_zero, List.set_cons_succ]
        refine wpAnyH_take (i := 1) (v := .int .i64 k.st) rfl (by kernel_rfl) (by kernel_rfl) (by kernel_rfl) (fun _ _ _ h => h) (Or.inl ⟨by kernel_rfl, by intro w hS; have hc := (hS.cell 7).trans (show (fc k)[7]? = some (.int .i64 k.st) from rfl); go_simp⟩) R3 ?_
        simp only [Act.put, List.getElem_toArray, List.getElem_cons_succ, List.getElem_cons_zero, List.setIfInBounds_toArray, List.set_cons_zero, List.set_cons_succ]
        refine wpAnyH_take (i := 2) (v := .bool false) rfl (by kernel_rfl) (by kernel_rfl) (by kernel_rfl) (fun _ _ _ h => h) (Or.inl ⟨by kernel_rfl, by intro w hS; go_simp⟩) R3 ?_
        simp only [Act.put, List.getElem_toArray, List.getElem_cons_succ, List.getElem_cons_zero, List.setIfInBounds_toArray, List.set_cons_zero, List.set_cons_succ]
        refine wpAnyH_ready (rs := [3]) (by kernel_rfl) (by simp) ?_
        refine AllReadyH.cons rfl (fun K hK => ?_) ?_
        · go_simp
          go_at_call 20; refine (sideOf_any false _).mono ?_; rintro e w5 ⟨rfl, hw⟩; rw [hw]; clear hw w5
          go_wp2_with fail
          refine hK.out _ _ R3 (fun _ => ?_)
          clear hK K
          try simp only [Act.put, List.getElem_toArray, List.getElem_cons_succ, List.getElem_cons_zero, List.setIfInBounds_toArray, List.set_cons_zero, List.set_cons_succ]
          refine wpAnyH_take (i := 4) (v := .int .i64 k.st) rfl (by kernel_rfl) (by kernel_rfl) (by kernel_rfl) (fun _ _ _ h => h) (Or.inl ⟨by kernel_rfl, by intro w hS; go_simp⟩) R3 ?_
          simp only [Act.put, List.getElem_toArray, List.getElem_cons_succ, List.getElem_cons_zero, List.setIfInBounds_toArray, List.set_cons_zero, List.set_cons_succ]
          refine wpAnyH_take (i := 5) (v := .int .i64 (sideZ false)) rfl (by kernel_rfl) (by kernel_rfl) (by kernel_rfl) (fun _ _ _ h => h) (Or.inl ⟨by kernel_rfl, by intro w hS; go_simp⟩) R3 ?_
          simp only [Act.put, List.getElem_toArray, List.getElem_cons_succ, List.getElem_cons_zero, List.setIfInBounds_toArray, List.set_cons_zero, List.set_cons_succ]
          refine wpAnyH_done (by kernel_rfl) ?_ _
          refine NoPanic.normal ?_
          replace R3 := R3.drew; replace R6 := R6.drew; replace hB := below_drewG hB
          go_wp2_with (first | (refine wpList_boxR 31 rfl _ rfl _ rfl ?_; intro b3 w1 l3 R3 hb1; replace l3 := Nat.le_trans hB.size l3; replace hB := hB.trans (hb1.mono hB.size)) | (refine wpList_allocX 6 31 rfl rfl rfl _ flow_zero ?_; intro b6 w2 l6 R6 hb2; have n36 := R3.ne l6; replace l6 := Nat.le_trans hB.size l6; replace R3 := R3.below hb2; replace hB := hB.trans (hb2.mono hB.size)) | (refine wpList_loadF R3 _ rfl rfl _ rfl _ rfl ?_) | (refine wpList_loadR 31 (.tmp 3) rfl rfl b3 rfl (fc k) R3 _ Try.underlying31 rfl (fc_info _) ?_) | (refine wpList_storeR 31 rfl (.tmp 6) _ rfl b6 rfl (fc k) rfl _ R6 rfl (fc_info _) (fc_one _) ?_; intro w6 R6 t6; replace R3 := t6.row R3 n36; replace hB := t6.below _ _ l6 hB) | (go_at_call 15; go_fit (C4 _); rintro e w' ⟨rfl, hw⟩; rw [hw]; clear hw w'))
          refine wp_region_noPanic ?_
          refine wp_region_held_drew (S := fun W => Row 31 W b3 (fc k)) (by kernel_rfl) R3 (fun _ => ?_)
          refine wpAnyH_take (i := 0) (v := .agg (fc k)) rfl (by kernel_rfl) (by kernel_rfl) (by kernel_rfl) (fun _ _ _ h => h) (yields_loadR 31 (.tmp 3) rfl (by kernel_rfl) b3 (by kernel_rfl) (fc k) (fun _ h => h) _ Try.underlying31 rfl (fc_info _)) R3 ?_
          simp only [Act.put, List.getElem_toArray, List.getElem_cons_succ, List.getElem_cons_zero, List.setIfInBounds_toArray, List.set_cons_zero, List.set_cons_succ]
          refine wpAnyH_take (i := 1) (v := .bool false) rfl (by kernel_rfl) (by kernel_rfl) (by kernel_rfl) (fun _ _ _ h => h) (Or.inl ⟨by kernel_rfl, by intro w hS; go_simp⟩) R3 ?_
          simp only [Act.put, List.getElem_toArray, List.getElem_cons_succ, List.getElem_cons_zero, List.setIfInBounds_toArray, List.set_cons_zero, List.set_cons_succ]
          refine wpAnyH_take (i := 2) (v := .bool true) rfl (by kernel_rfl) (by kernel_rfl) (by kernel_rfl) (fun _ _ _ h => h) (Or.inl ⟨by kernel_rfl, by intro w hS; go_simp⟩) R3 ?_
          simp only [Act.put, List.getElem_toArray, List.getElem_cons_succ, List.getElem_cons_zero, List.setIfInBounds_toArray, List.set_cons_zero, List.set_cons_succ]
          refine wpAnyH_take (i := 3) (v := .bool true) rfl (by kernel_rfl) (by kernel_rfl) (by kernel_rfl) (fun _ _ _ h => h) (Or.inl ⟨by kernel_rfl, by intro w hS; go_simp⟩) R3 ?_
          simp only [Act.put, List.getElem_toArray, List.getElem_cons_succ, List.getElem_cons_zero, List.setIfInBounds_toArray, List.set_cons_zero, List.set_cons_succ]
          refine wpAnyH_take (i := 4) (v := .int .i64 x) rfl (by kernel_rfl) (by kernel_rfl) (by kernel_rfl) (fun _ _ _ h => h) (Or.inl ⟨by kernel_rfl, by intro w hS; go_simp⟩) R3 ?_
          simp only [Act.put, List.getElem_toArray, List.getElem_cons_succ, List.getElem_cons_zero, List.setIfInBounds_toArray, List.set_cons_zero, List.set_cons_succ]
          refine wpAnyH_ready (rs := [5]) (by kernel_rfl) (by simp) ?_
          refine AllReadyH.cons rfl (fun K hK => ?_) ?_
          · go_simp
            go_at_call 15; refine (C2 _).mono ?_; rintro e w5 ⟨rfl, hw⟩; rw [hw]; clear hw w5
            go_wp2_with fail
            refine hK.out _ _ R3 (fun _ => ?_)
            clear hK K
            try simp only [Act.put, List.getElem_toArray, List.getElem_cons_succ, List.getElem_cons_zero, List.setIfInBounds_toArray, List.set_cons_zero, List.set_cons_succ]
            refine wpAnyH_take (i := 6) (v := .bool false) rfl (by kernel_rfl) (by kernel_rfl) (by kernel_rfl) (fun _ _ _ h => h) (Or.inl ⟨by kernel_rfl, by intro w hS; go_simp⟩) R3 ?_
            simp only [Act.put, List.getElem_toArray, List.getElem_cons_succ, List.getElem_cons_zero, List.setIfInBounds_toArray, List.set_cons_zero, List.set_cons_succ]
            refine wpAnyH_ready (rs := [7]) (by kernel_rfl) (by simp) ?_
            refine AllReadyH.cons rfl (fun K hK => ?_) ?_
            · rw [if_pos (by kernel_rfl)]
              refine wp_storeR 31 (.tmp 6) (.tmp 62) rfl b6 rfl (fc k) rfl _ R6 rfl (fc_info _) (fc_one _) ?_; intro w10 R6 t10; (first | replace R3 := t10.row R3 n36 | replace R3 := t10.row R3.drew n36); (first | replace hB := t10.below _ _ l6 hB | replace hB := t10.below _ _ l6 (below_drewG hB))
              refine hK.out _ _ R3 (fun _ => ?_)
              clear hK K
              try simp only [Act.put, List.getElem_toArray, List.getElem_cons_succ, List.getElem_cons_zero, List.setIfInBounds_toArray, List.set_cons_zero, List.set_cons_succ]
              refine wpAnyH_take (i := 8) (v := .bool false) rfl (by kernel_rfl) (by kernel_rfl) (by kernel_rfl) (fun _ _ _ h => h) (Or.inl ⟨by kernel_rfl, by intro w hS; go_simp⟩) R3 ?_
              simp only [Act.put, List.getElem_toArray, List.getElem_cons_succ, List.getElem_cons_zero, List.setIfInBounds_toArray, List.set_cons_zero, List.set_cons_succ]
              refine wpAnyH_done (by kernel_rfl) ?_ _
              refine NoPanic.normal ?_
              go_wp2
              ((try simp only [Exit.inBlock, Exit.then]); refine bodyPost_ret (results_row2 (p := 6) (u := 7) rfl _ _ _ _ rfl R6 _ Try.underlying31 rfl (fc_info _)) rfl ⟨ret_step H.out, hB⟩)
            exact AllReadyH.nil
          exact AllReadyH.nil
        exact AllReadyH.nil
    · have s1 : (k.st == 1) = false := by simp [e1]
      by_cases e2 : k.st = 2
      · have s2 : (k.st == 2) = true := by simp [e2]
        have s3 : (k.st == 3) = false := by simp [e2]
        cases h1 : has x 1 with
        | true =>
          have C1 := fun w => hasAll_is x 1 (by decide) (by decide) _ h1 w
          have H : Hid (stepT k x false = ({ k with st := 3, sd := sideZ false }, true)) := by show stepT k x false = ({ k with st := 3, sd := sideZ false }, true); simp [stepT, h4, h1, e2]
          clear h4 h1 e1 e2
          go_enter Try.func19, Try.ntmps19
          go_wp2_with (first | (refine wpList_boxR 31 rfl _ rfl _ rfl ?_; intro b3 w1 l3 R3 hb1; replace l3 := Nat.le_trans hB.size l3; replace hB := hB.trans (hb1.mono hB.size)) | (refine wpList_allocX 6 31 rfl rfl rfl _ flow_zero ?_; intro b6 w2 l6 R6 hb2; have n36 := R3.ne l6; replace l6 := Nat.le_trans hB.size l6; replace R3 := R3.below hb2; replace hB := hB.trans (hb2.mono hB.size)) | (refine wpList_loadF R3 _ rfl rfl _ rfl _ rfl ?_) | (refine wpList_storeF R3 rfl _ _ rfl _ rfl _ rfl _ rfl (fc { k with st := 3 }) rfl ?_; intro w4 R3 t4; replace R6 := t4.row R6 n36.symm; replace hB := t4.below _ _ l3 hB) | (refine wpList_storeF R3 rfl _ _ rfl _ rfl _ rfl _ rfl (fc { k with st := 3, sd := sideZ false }) rfl ?_; intro w4 R3 t4; replace R6 := t4.row R6 n36.symm; replace hB := t4.below _ _ l3 hB) | (refine wpList_loadR 31 (.tmp 3) rfl rfl b3 rfl (fc { k with st := 3, sd := sideZ false }) R3 _ Try.underlying31 rfl (fc_info _) ?_) | (refine wpList_storeR 31 rfl (.tmp 6) _ rfl b6 rfl (fc { k with st := 3, sd := sideZ false }) rfl _ R6 rfl (fc_info _) (fc_one _) ?_; intro w6 R6 t6; replace R3 := t6.row R3 n36; replace hB := t6.below _ _ l6 hB) | (go_at_call 15; go_fit (C4 _); rintro e w' ⟨rfl, hw⟩; rw [hw]; clear hw w') | (go_at_call 15; go_fit (C1 _); rintro e w' ⟨rfl, hw⟩; rw [hw]; clear hw w'))
          refine wp_region_noPanic ?_
          refine wp_region_held_drew (S := fun W => Row 31 W b3 (fc k)) (by kernel_rfl) R3 (fun _ => ?_)
          refine wpAnyH_take (i := 0) (v := .pointer (some ⟨b3, 7, none⟩)) rfl (by kernel_rfl) (by kernel_rfl) (by kernel_rfl) (fun _ _ _ h => h) (Or.inl ⟨by kernel_rfl, by intro w hS; go_simp⟩) R3 ?_
          simp only [Act.put, List.getElem_toArray, List.getElem_cons_succ, List.getElem_cons_zero, List.setIfInBounds_toArray, List.set_cons_zero, List.set_cons_succ]
          refine wpAnyH_take (i := 1) (v := .int .i64 k.st) rfl (by kernel_rfl) (by kernel_rfl) (by kernel_rfl) (fun _ _ _ h => h) (Or.inl ⟨by kernel_rfl, by intro w hS; have hc := (hS.cell 7).trans (show (fc k)[7]? = some (.int .i64 k.st) from rfl); go_simp⟩) R3 ?_
          simp only [Act.put, List.getElem_toArray, List.getElem_cons_succ, List.getElem_cons_zero, List.setIfInBounds_toArray, List.set_cons_zero, List.set_cons_succ]
          refine wpAnyH_take (i := 2) (v := .bool false) rfl (by kernel_rfl) (by kernel_rfl) (by kernel_rfl) (fun _ _ _ h => h) (Or.inl ⟨by kernel_rfl, by intro w hS; go_simp⟩) R3 ?_
          simp only [Act.put, List.getElem_toArray, List.getElem_cons_succ, List.getElem_cons_zero, List.setIfInBounds_toArray, List.set_cons_zero, List.set_cons_succ]
          refine wpAnyH_ready (rs := [3]) (by kernel_rfl) (by simp) ?_
          refine AllReadyH.cons rfl (fun K hK => ?_) ?_
          · go_simp
            go_at_call 20; refine (sideOf_any false _).mono ?_; rintro e w5 ⟨rfl, hw⟩; rw [hw]; clear hw w5
            go_wp2_with fail
            refine hK.out _ _ R3 (fun _ => ?_)
            clear hK K
            try simp only [Act.put, List.getElem_toArray, List.getElem_cons_succ, List.getElem_cons_zero, List.setIfInBounds_toArray, List.set_cons_zero, List.set_cons_succ]
            refine wpAnyH_take (i := 4) (v := .int .i64 k.st) rfl (by kernel_rfl) (by kernel_rfl) (by kernel_rfl) (fun _ _ _ h => h) (Or.inl ⟨by kernel_rfl, by intro w hS; go_simp⟩) R3 ?_
            simp only [Act.put, List.getElem_toArray, List.getElem_cons_succ, List.getElem_cons_zero, List.setIfInBounds_toArray, List.set_cons_zero, List.set_cons_succ]
            refine wpAnyH_take (i := 5) (v := .int .i64 (sideZ false)) rfl (by kernel_rfl) (by kernel_rfl) (by kernel_rfl) (fun _ _ _ h => h) (Or.inl ⟨by kernel_rfl, by intro w hS; go_simp⟩) R3 ?_
            simp only [Act.put, List.getElem_toArray, List.getElem_cons_succ, List.getElem_cons_zero, List.setIfInBounds_toArray, List.set_cons_zero, List.set_cons_succ]
            refine wpAnyH_done (by kernel_rfl) ?_ _
            refine NoPanic.normal ?_
            replace R3 := R3.drew; replace R6 := R6.drew; replace hB := below_drewG hB
            go_wp2_with (first | (refine wpList_boxR 31 rfl _ rfl _ rfl ?_; intro b3 w1 l3 R3 hb1; replace l3 := Nat.le_trans hB.size l3; replace hB := hB.trans (hb1.mono hB.size)) | (refine wpList_allocX 6 31 rfl rfl rfl _ flow_zero ?_; intro b6 w2 l6 R6 hb2; have n36 := R3.ne l6; replace l6 := Nat.le_trans hB.size l6; replace R3 := R3.below hb2; replace hB := hB.trans (hb2.mono hB.size)) | (refine wpList_loadF R3 _ rfl rfl _ rfl _ rfl ?_) | (refine wpList_storeF R3 rfl _ _ rfl _ rfl _ rfl _ rfl (fc { k with st := 3 }) rfl ?_; intro w4 R3 t4; replace R6 := t4.row R6 n36.symm; replace hB := t4.below _ _ l3 hB) | (refine wpList_storeF R3 rfl _ _ rfl _ rfl _ rfl _ rfl (fc { k with st := 3, sd := sideZ false }) rfl ?_; intro w4 R3 t4; replace R6 := t4.row R6 n36.symm; replace hB := t4.below _ _ l3 hB) | (refine wpList_loadR 31 (.tmp 3) rfl rfl b3 rfl (fc { k with st := 3, sd := sideZ false }) R3 _ Try.underlying31 rfl (fc_info _) ?_) | (refine wpList_storeR 31 rfl (.tmp 6) _ rfl b6 rfl (fc { k with st := 3, sd := sideZ false }) rfl _ R6 rfl (fc_info _) (fc_one _) ?_; intro w6 R6 t6; replace R3 := t6.row R3 n36; replace hB := t6.below _ _ l6 hB) | (go_at_call 15; go_fit (C4 _); rintro e w' ⟨rfl, hw⟩; rw [hw]; clear hw w') | (go_at_call 15; go_fit (C1 _); rintro e w' ⟨rfl, hw⟩; rw [hw]; clear hw w'))
            ((try simp only [Exit.inBlock, Exit.then]); refine bodyPost_ret (results_row2 (p := 6) (u := 7) rfl _ _ _ _ rfl R6 _ Try.underlying31 rfl (fc_info _)) rfl ⟨ret_step H.out, hB⟩)
          exact AllReadyH.nil
        | false =>
          have C1 := fun w => hasAll_is x 1 (by decide) (by decide) _ h1 w
          have H : Hid (stepT k x false = (k, true)) := by show stepT k x false = (k, true); simp [stepT, h4, h1, e2]
          clear h4 h1 e1 e2
          go_enter Try.func19, Try.ntmps19
          go_wp2_with (first | (refine wpList_boxR 31 rfl _ rfl _ rfl ?_; intro b3 w1 l3 R3 hb1; replace l3 := Nat.le_trans hB.size l3; replace hB := hB.trans (hb1.mono hB.size)) | (refine wpList_allocX 6 31 rfl rfl rfl _ flow_zero ?_; intro b6 w2 l6 R6 hb2; have n36 := R3.ne l6; replace l6 := Nat.le_trans hB.size l6; replace R3 := R3.below hb2; replace hB := hB.trans (hb2.mono hB.size)) | (refine wpList_loadF R3 _ rfl rfl _ rfl _ rfl ?_) | (refine wpList_loadR 31 (.tmp 3) rfl rfl b3 rfl (fc k) R3 _ Try.underlying31 rfl (fc_info _) ?_) | (refine wpList_storeR 31 rfl (.tmp 6) _ rfl b6 rfl (fc k) rfl _ R6 rfl (fc_info _) (fc_one _) ?_; intro w6 R6 t6; replace R3 := t6.row R3 n36; replace hB := t6.below _ _ l6 hB) | (go_at_call 15; go_fit (C4 _); rintro e w' ⟨rfl, hw⟩; rw [hw]; clear hw w') | (go_at_call 15; go_fit (C1 _); rintro e w' ⟨rfl, hw⟩; rw [hw]; clear hw w'))
          refine wp_region_noPanic ?_
          refine wp_region_held_drew (S := fun W => Row 31 W b3 (fc k)) (by kernel_rfl) R3 (fun _ => ?_)
          refine wpAnyH_take (i := 0) (v := .pointer (some ⟨b3, 7, none⟩)) rfl (by kernel_rfl) (by kernel_rfl) (by kernel_rfl) (fun _ _ _ h => h) (Or.inl ⟨by kernel_rfl, by intro w hS; go_simp⟩) R3 ?_
          simp only [Act.put, List.getElem_toArray, List.getElem_cons_succ, List.getElem_cons_zero, List.setIfInBounds_toArray, List.set_cons_zero, List.set_cons_succ]
          refine wpAnyH_take (i := 1) (v := .int .i64 k.st) rfl (by kernel_rfl) (by kernel_rfl) (by kernel_rfl) (fun _ _ _ h => h) (Or.inl ⟨by kernel_rfl, by intro w hS; have hc := (hS.cell 7).trans (show (fc k)[7]? = some (.int .i64 k.st) from rfl); go_simp⟩) R3 ?_
          simp only [Act.put, List.getElem_toArray, List.getElem_cons_succ, List.getElem_cons_zero, List.setIfInBounds_toArray, List.set_cons_zero, List.set_cons_succ]
          refine wpAnyH_take (i := 2) (v := .bool false) rfl (by kernel_rfl) (by kernel_rfl) (by kernel_rfl) (fun _ _ _ h => h) (Or.inl ⟨by kernel_rfl, by intro w hS; go_simp⟩) R3 ?_
          simp only [Act.put, List.getElem_toArray, List.getElem_cons_succ, List.getElem_cons_zero, List.setIfInBounds_toArray, List.set_cons_zero, List.set_cons_succ]
          refine wpAnyH_ready (rs := [3]) (by kernel_rfl) (by simp) ?_
          refine AllReadyH.cons rfl (fun K hK => ?_) ?_
          · go_simp
            go_at_call 20; refine (sideOf_any false _).mono ?_; rintro e w5 ⟨rfl, hw⟩; rw [hw]; clear hw w5
            go_wp2_with fail
            refine hK.out _ _ R3 (fun _ => ?_)
            clear hK K
            try simp only [Act.put, List.getElem_toArray, List.getElem_cons_succ, List.getElem_cons_zero, List.setIfInBounds_toArray, List.set_cons_zero, List.set_cons_succ]
            refine wpAnyH_take (i := 4) (v := .int .i64 k.st) rfl (by kernel_rfl) (by kernel_rfl) (by kernel_rfl) (fun _ _ _ h => h) (Or.inl ⟨by kernel_rfl, by intro w hS; go_simp⟩) R3 ?_
            simp only [Act.put, List.getElem_toArray, List.getElem_cons_succ, List.getElem_cons_zero, List.setIfInBounds_toArray, List.set_cons_zero, List.set_cons_succ]
            refine wpAnyH_take (i := 5) (v := .int .i64 (sideZ false)) rfl (by kernel_rfl) (by kernel_rfl) (by kernel_rfl) (fun _ _ _ h => h) (Or.inl ⟨by kernel_rfl, by intro w hS; go_simp⟩) R3 ?_
            simp only [Act.put, List.getElem_toArray, List.getElem_cons_succ, List.getElem_cons_zero, List.setIfInBounds_toArray, List.set_cons_zero, List.set_cons_succ]
            refine wpAnyH_done (by kernel_rfl) ?_ _
            refine NoPanic.normal ?_
            replace R3 := R3.drew; replace R6 := R6.drew; replace hB := below_drewG hB
            go_wp2_with (first | (refine wpList_boxR 31 rfl _ rfl _ rfl ?_; intro b3 w1 l3 R3 hb1; replace l3 := Nat.le_trans hB.size l3; replace hB := hB.trans (hb1.mono hB.size)) | (refine wpList_allocX 6 31 rfl rfl rfl _ flow_zero ?_; intro b6 w2 l6 R6 hb2; have n36 := R3.ne l6; replace l6 := Nat.le_trans hB.size l6; replace R3 := R3.below hb2; replace hB := hB.trans (hb2.mono hB.size)) | (refine wpList_loadF R3 _ rfl rfl _ rfl _ rfl ?_) | (refine wpList_loadR 31 (.tmp 3) rfl rfl b3 rfl (fc k) R3 _ Try.underlying31 rfl (fc_info _) ?_) | (refine wpList_storeR 31 rfl (.tmp 6) _ rfl b6 rfl (fc k) rfl _ R6 rfl (fc_info _) (fc_one _) ?_; intro w6 R6 t6; replace R3 := t6.row R3 n36; replace hB := t6.below _ _ l6 hB) | (go_at_call 15; go_fit (C4 _); rintro e w' ⟨rfl, hw⟩; rw [hw]; clear hw w') | (go_at_call 15; go_fit (C1 _); rintro e w' ⟨rfl, hw⟩; rw [hw]; clear hw w'))
            ((try simp only [Exit.inBlock, Exit.then]); refine bodyPost_ret (results_row2 (p := 6) (u := 7) rfl _ _ _ _ rfl R6 _ Try.underlying31 rfl (fc_info _)) rfl ⟨ret_step H.out, hB⟩)
          exact AllReadyH.nil
      · have s2 : (k.st == 2) = false := by simp [e2]
        by_cases e3 : k.st = 3
        · have s3 : (k.st == 3) = true := by simp [e3]
          cases h1 : has x 1 with
          | true =>
            have C1 := fun w => hasAll_is x 1 (by decide) (by decide) _ h1 w
            by_cases e5 : sideZ false = k.sd
            · have s5 : (sideZ false != k.sd) = false := by simp [e5]
              have H : Hid (stepT k x false = (k, false)) := by show stepT k x false = (k, false); simp [stepT, h4, h1, e3, e5]
              clear h4 h1 e1 e2 e3 e5
              go_enter Try.func19, Try.ntmps19
              go_wp2_with (first | (refine wpList_boxR 31 rfl _ rfl _ rfl ?_; intro b3 w1 l3 R3 hb1; replace l3 := Nat.le_trans hB.size l3; replace hB := hB.trans (hb1.mono hB.size)) | (refine wpList_allocX 6 31 rfl rfl rfl _ flow_zero ?_; intro b6 w2 l6 R6 hb2; have n36 := R3.ne l6; replace l6 := Nat.le_trans hB.size l6; replace R3 := R3.below hb2; replace hB := hB.trans (hb2.mono hB.size)) | (refine wpList_loadF R3 _ rfl rfl _ rfl _ rfl ?_) | (refine wpList_loadR 31 (.tmp 3) rfl rfl b3 rfl (fc k) R3 _ Try.underlying31 rfl (fc_info _) ?_) | (refine wpList_storeR 31 rfl (.tmp 6) _ rfl b6 rfl (fc k) rfl _ R6 rfl (fc_info _) (fc_one _) ?_; intro w6 R6 t6; replace R3 := t6.row R3 n36; replace hB := t6.below _ _ l6 hB) | (go_at_call 15; go_fit (C4 _); rintro e w' ⟨rfl, hw⟩; rw [hw]; clear hw w') | (go_at_call 15; go_fit (C1 _); rintro e w' ⟨rfl, hw⟩; rw [hw]; clear hw w'))
              refine wp_region_noPanic ?_
              refine wp_region_held_drew (S := fun W => Row 31 W b3 (fc k)) (by kernel_rfl) R3 (fun _ => ?_)
              refine wpAnyH_take (i := 0) (v := .pointer (some ⟨b3, 7, none⟩)) rfl (by kernel_rfl) (by kernel_rfl) (by kernel_rfl) (fun _ _ _ h => h) (Or.inl ⟨by kernel_rfl, by intro w hS; go_simp⟩) R3 ?_
              simp only [Act.put, List.getElem_toArray, List.getElem_cons_succ, List.getElem_cons_zero, List.setIfInBounds_toArray, List.set_cons_zero, List.set_cons_succ]
              refine wpAnyH_take (i := 1) (v := .int .i64 k.st) rfl (by kernel_rfl) (by kernel_rfl) (by kernel_rfl) (fun _ _ _ h => h) (Or.inl ⟨by kernel_rfl, by intro w hS; have hc := (hS.cell 7).trans (show (fc k)[7]? = some (.int .i64 k.st) from rfl); go_simp⟩) R3 ?_
              simp only [Act.put, List.getElem_toArray, List.getElem_cons_succ, List.getElem_cons_zero, List.setIfInBounds_toArray, List.set_cons_zero, List.set_cons_succ]
              refine wpAnyH_take (i := 2) (v := .bool false) rfl (by kernel_rfl) (by kernel_rfl) (by kernel_rfl) (fun _ _ _ h => h) (Or.inl ⟨by kernel_rfl, by intro w hS; go_simp⟩) R3 ?_
              simp only [Act.put, List.getElem_toArray, List.getElem_cons_succ, List.getElem_cons_zero, List.setIfInBounds_toArray, List.set_cons_zero, List.set_cons_succ]
              refine wpAnyH_ready (rs := [3]) (by kernel_rfl) (by simp) ?_
              refine AllReadyH.cons rfl (fun K hK => ?_) ?_
              · go_simp
                go_at_call 20; refine (sideOf_any false _).mono ?_; rintro e w5 ⟨rfl, hw⟩; rw [hw]; clear hw w5
                go_wp2_with fail
                refine hK.out _ _ R3 (fun _ => ?_)
                clear hK K
                try simp only [Act.put, List.getElem_toArray, List.getElem_cons_succ, List.getElem_cons_zero, List.setIfInBounds_toArray, List.set_cons_zero, List.set_cons_succ]
                refine wpAnyH_take (i := 4) (v := .int .i64 k.st) rfl (by kernel_rfl) (by kernel_rfl) (by kernel_rfl) (fun _ _ _ h => h) (Or.inl ⟨by kernel_rfl, by intro w hS; go_simp⟩) R3 ?_
                simp only [Act.put, List.getElem_toArray, List.getElem_cons_succ, List.getElem_cons_zero, List.setIfInBounds_toArray, List.set_cons_zero, List.set_cons_succ]
                refine wpAnyH_take (i := 5) (v := .int .i64 (sideZ false)) rfl (by kernel_rfl) (by kernel_rfl) (by kernel_rfl) (fun _ _ _ h => h) (Or.inl ⟨by kernel_rfl, by intro w hS; go_simp⟩) R3 ?_
                simp only [Act.put, List.getElem_toArray, List.getElem_cons_succ, List.getElem_cons_zero, List.setIfInBounds_toArray, List.set_cons_zero, List.set_cons_succ]
                refine wpAnyH_done (by kernel_rfl) ?_ _
                refine NoPanic.normal ?_
                replace R3 := R3.drew; replace R6 := R6.drew; replace hB := below_drewG hB
                go_wp2_with (first | (refine wpList_boxR 31 rfl _ rfl _ rfl ?_; intro b3 w1 l3 R3 hb1; replace l3 := Nat.le_trans hB.size l3; replace hB := hB.trans (hb1.mono hB.size)) | (refine wpList_allocX 6 31 rfl rfl rfl _ flow_zero ?_; intro b6 w2 l6 R6 hb2; have n36 := R3.ne l6; replace l6 := Nat.le_trans hB.size l6; replace R3 := R3.below hb2; replace hB := hB.trans (hb2.mono hB.size)) | (refine wpList_loadF R3 _ rfl rfl _ rfl _ rfl ?_) | (refine wpList_loadR 31 (.tmp 3) rfl rfl b3 rfl (fc k) R3 _ Try.underlying31 rfl (fc_info _) ?_) | (refine wpList_storeR 31 rfl (.tmp 6) _ rfl b6 rfl (fc k) rfl _ R6 rfl (fc_info _) (fc_one _) ?_; intro w6 R6 t6; replace R3 := t6.row R3 n36; replace hB := t6.below _ _ l6 hB) | (go_at_call 15; go_fit (C4 _); rintro e w' ⟨rfl, hw⟩; rw [hw]; clear hw w') | (go_at_call 15; go_fit (C1 _); rintro e w' ⟨rfl, hw⟩; rw [hw]; clear hw w'))
                ((try simp only [Exit.inBlock, Exit.then]); refine bodyPost_ret (results_row2 (p := 6) (u := 7) rfl _ _ _ _ rfl R6 _ Try.underlying31 rfl (fc_info _)) rfl ⟨ret_step H.out, hB⟩)
              exact AllReadyH.nil
            · have s5 : (sideZ false != k.sd) = true := by simp [e5]
              have H : Hid (stepT k x false = ({ k with st := 4 }, true)) := by show stepT k x false = ({ k with st := 4 }, true); simp [stepT, h4, h1, e3, e5]
              clear h4 h1 e1 e2 e3 e5
              go_enter Try.func19, Try.ntmps19
              go_wp2_with (first | (refine wpList_boxR 31 rfl _ rfl _ rfl ?_; intro b3 w1 l3 R3 hb1; replace l3 := Nat.le_trans hB.size l3; replace hB := hB.trans (hb1.mono hB.size)) | (refine wpList_allocX 6 31 rfl rfl rfl _ flow_zero ?_; intro b6 w2 l6 R6 hb2; have n36 := R3.ne l6; replace l6 := Nat.le_trans hB.size l6; replace R3 := R3.below hb2; replace hB := hB.trans (hb2.mono hB.size)) | (refine wpList_loadF R3 _ rfl rfl _ rfl _ rfl ?_) | (refine wpList_storeF R3 rfl _ _ rfl _ rfl _ rfl _ rfl (fc { k with st := 4 }) rfl ?_; intro w4 R3 t4; replace R6 := t4.row R6 n36.symm; replace hB := t4.below _ _ l3 hB) | (refine wpList_loadR 31 (.tmp 3) rfl rfl b3 rfl (fc { k with st := 4 }) R3 _ Try.underlying31 rfl (fc_info _) ?_) | (refine wpList_storeR 31 rfl (.tmp 6) _ rfl b6 rfl (fc { k with st := 4 }) rfl _ R6 rfl (fc_info _) (fc_one _) ?_; intro w6 R6 t6; replace R3 := t6.row R3 n36; replace hB := t6.below _ _ l6 hB) | (go_at_call 15; go_fit (C4 _); rintro e w' ⟨rfl, hw⟩; rw [hw]; clear hw w') | (go_at_call 15; go_fit (C1 _); rintro e w' ⟨rfl, hw⟩; rw [hw]; clear hw w'))
              refine wp_region_noPanic ?_
              refine wp_region_held_drew (S := fun W => Row 31 W b3 (fc k)) (by kernel_rfl) R3 (fun _ => ?_)
              refine wpAnyH_take (i := 0) (v := .pointer (some ⟨b3, 7, none⟩)) rfl (by kernel_rfl) (by kernel_rfl) (by kernel_rfl) (fun _ _ _ h => h) (Or.inl ⟨by kernel_rfl, by intro w hS; go_simp⟩) R3 ?_
              simp only [Act.put, List.getElem_toArray, List.getElem_cons_succ, List.getElem_cons_zero, List.setIfInBounds_toArray, List.set_cons_zero, List.set_cons_succ]
              refine wpAnyH_take (i := 1) (v := .int .i64 k.st) rfl (by kernel_rfl) (by kernel_rfl) (by kernel_rfl) (fun _ _ _ h => h) (Or.inl ⟨by kernel_rfl, by intro w hS; have hc := (hS.cell 7).trans (show (fc k)[7]? = some (.int .i64 k.st) from rfl); go_simp⟩) R3 ?_
              simp only [Act.put, List.getElem_toArray, List.getElem_cons_succ, List.getElem_cons_zero, List.setIfInBounds_toArray, List.set_cons_zero, List.set_cons_succ]
              refine wpAnyH_take (i := 2) (v := .bool false) rfl (by kernel_rfl) (by kernel_rfl) (by kernel_rfl) (fun _ _ _ h => h) (Or.inl ⟨by kernel_rfl, by intro w hS; go_simp⟩) R3 ?_
              simp only [Act.put, List.getElem_toArray, List.getElem_cons_succ, List.getElem_cons_zero, List.setIfInBounds_toArray, List.set_cons_zero, List.set_cons_succ]
              refine wpAnyH_ready (rs := [3]) (by kernel_rfl) (by simp) ?_
              refine AllReadyH.cons rfl (fun K hK => ?_) ?_
              · go_simp
                go_at_call 20; refine (sideOf_any false _).mono ?_; rintro e w5 ⟨rfl, hw⟩; rw [hw]; clear hw w5
                go_wp2_with fail
                refine hK.out _ _ R3 (fun _ => ?_)
                clear hK K
                try simp only [Act.put, List.getElem_toArray, List.getElem_cons_succ, List.getElem_cons_zero, List.setIfInBounds_toArray, List.set_cons_zero, List.set_cons_succ]
                refine wpAnyH_take (i := 4) (v := .int .i64 k.st) rfl (by kernel_rfl) (by kernel_rfl) (by kernel_rfl) (fun _ _ _ h => h) (Or.inl ⟨by kernel_rfl, by intro w hS; go_simp⟩) R3 ?_
                simp only [Act.put, List.getElem_toArray, List.getElem_cons_succ, List.getElem_cons_zero, List.setIfInBounds_toArray, List.set_cons_zero, List.set_cons_succ]
                refine wpAnyH_take (i := 5) (v := .int .i64 (sideZ false)) rfl (by kernel_rfl) (by kernel_rfl) (by kernel_rfl) (fun _ _ _ h => h) (Or.inl ⟨by kernel_rfl, by intro w hS; go_simp⟩) R3 ?_
                simp only [Act.put, List.getElem_toArray, List.getElem_cons_succ, List.getElem_cons_zero, List.setIfInBounds_toArray, List.set_cons_zero, List.set_cons_succ]
                refine wpAnyH_done (by kernel_rfl) ?_ _
                refine NoPanic.normal ?_
                replace R3 := R3.drew; replace R6 := R6.drew; replace hB := below_drewG hB
                go_wp2_with (first | (refine wpList_boxR 31 rfl _ rfl _ rfl ?_; intro b3 w1 l3 R3 hb1; replace l3 := Nat.le_trans hB.size l3; replace hB := hB.trans (hb1.mono hB.size)) | (refine wpList_allocX 6 31 rfl rfl rfl _ flow_zero ?_; intro b6 w2 l6 R6 hb2; have n36 := R3.ne l6; replace l6 := Nat.le_trans hB.size l6; replace R3 := R3.below hb2; replace hB := hB.trans (hb2.mono hB.size)) | (refine wpList_loadF R3 _ rfl rfl _ rfl _ rfl ?_) | (refine wpList_storeF R3 rfl _ _ rfl _ rfl _ rfl _ rfl (fc { k with st := 4 }) rfl ?_; intro w4 R3 t4; replace R6 := t4.row R6 n36.symm; replace hB := t4.below _ _ l3 hB) | (refine wpList_loadR 31 (.tmp 3) rfl rfl b3 rfl (fc { k with st := 4 }) R3 _ Try.underlying31 rfl (fc_info _) ?_) | (refine wpList_storeR 31 rfl (.tmp 6) _ rfl b6 rfl (fc { k with st := 4 }) rfl _ R6 rfl (fc_info _) (fc_one _) ?_; intro w6 R6 t6; replace R3 := t6.row R3 n36; replace hB := t6.below _ _ l6 hB) | (go_at_call 15; go_fit (C4 _); rintro e w' ⟨rfl, hw⟩; rw [hw]; clear hw w') | (go_at_call 15; go_fit (C1 _); rintro e w' ⟨rfl, hw⟩; rw [hw]; clear hw w'))
                ((try simp only [Exit.inBlock, Exit.then]); refine bodyPost_ret (results_row2 (p := 6) (u := 7) rfl _ _ _ _ rfl R6 _ Try.underlying31 rfl (fc_info _)) rfl ⟨ret_step H.out, hB⟩)
              exact AllReadyH.nil
          | false =>
            have C1 := fun w => hasAll_is x 1 (by decide) (by decide) _ h1 w
            have H : Hid (stepT k x false = (k, false)) := by show stepT k x false = (k, false); simp [stepT, h4, h1, e3]
            clear h4 h1 e1 e2 e3
            go_enter Try.func19, Try.ntmps19
            go_wp2_with (first | (refine wpList_boxR 31 rfl _ rfl _ rfl ?_; intro b3 w1 l3 R3 hb1; replace l3 := Nat.le_trans hB.size l3; replace hB := hB.trans (hb1.mono hB.size)) | (refine wpList_allocX 6 31 rfl rfl rfl _ flow_zero ?_; intro b6 w2 l6 R6 hb2; have n36 := R3.ne l6; replace l6 := Nat.le_trans hB.size l6; replace R3 := R3.below hb2; replace hB := hB.trans (hb2.mono hB.size)) | (refine wpList_loadF R3 _ rfl rfl _ rfl _ rfl ?_) | (refine wpList_loadR 31 (.tmp 3) rfl rfl b3 rfl (fc k) R3 _ Try.underlying31 rfl (fc_info _) ?_) | (refine wpList_storeR 31 rfl (.tmp 6) _ rfl b6 rfl (fc k) rfl _ R6 rfl (fc_info _) (fc_one _) ?_; intro w6 R6 t6; replace R3 := t6.row R3 n36; replace hB := t6.below _ _ l6 hB) | (go_at_call 15; go_fit (C4 _); rintro e w' ⟨rfl, hw⟩; rw [hw]; clear hw w') | (go_at_call 15; go_fit (C1 _); rintro e w' ⟨rfl, hw⟩; rw [hw]; clear hw w'))
            refine wp_region_noPanic ?_
            refine wp_region_held_drew (S := fun W => Row 31 W b3 (fc k)) (by kernel_rfl) R3 (fun _ => ?_)
            refine wpAnyH_take (i := 0) (v := .pointer (some ⟨b3, 7, none⟩)) rfl (by kernel_rfl) (by kernel_rfl) (by kernel_rfl) (fun _ _ _ h => h) (Or.inl ⟨by kernel_rfl, by intro w hS; go_simp⟩) R3 ?_
            simp only [Act.put, List.getElem_toArray, List.getElem_cons_succ, List.getElem_cons_zero, List.setIfInBounds_toArray, List.set_cons_zero, List.set_cons_succ]
            refine wpAnyH_take (i := 1) (v := .int .i64 k.st) rfl (by kernel_rfl) (by kernel_rfl) (by kernel_rfl) (fun _ _ _ h => h) (Or.inl ⟨by kernel_rfl, by intro w hS; have hc := (hS.cell 7).trans (show (fc k)[7]? = some (.int .i64 k.st) from rfl); go_simp⟩) R3 ?_
            simp only [Act.put, List.getElem_toArray, List.getElem_cons_succ, List.getElem_cons_zero, List.setIfInBounds_toArray, List.set_cons_zero, List.set_cons_succ]
            refine wpAnyH_take (i := 2) (v := .bool false) rfl (by kernel_rfl) (by kernel_rfl) (by kernel_rfl) (fun _ _ _ h => h) (Or.inl ⟨by kernel_rfl, by intro w hS; go_simp⟩) R3 ?_
            simp only [Act.put, List.getElem_toArray, List.getElem_cons_succ, List.getElem_cons_zero, List.setIfInBounds_toArray, List.set_cons_zero, List.set_cons_succ]
            refine wpAnyH_ready (rs := [3]) (by kernel_rfl) (by simp) ?_
            refine AllReadyH.cons rfl (fun K hK => ?_) ?_
            · go_simp
              go_at_call 20; refine (sideOf_any false _).mono ?_; rintro e w5 ⟨rfl, hw⟩; rw [hw]; clear hw w5
              go_wp2_with fail
              refine hK.out _ _ R3 (fun _ => ?_)
              clear hK K
              try simp only [Act.put, List.getElem_toArray, List.getElem_cons_succ, List.getElem_cons_zero, List.setIfInBounds_toArray, List.set_cons_zero, List.set_cons_succ]
              refine wpAnyH_take (i := 4) (v := .int .i64 k.st) rfl (by kernel_rfl) (by kernel_rfl) (by kernel_rfl) (fun _ _ _ h => h) (Or.inl ⟨by kernel_rfl, by intro w hS; go_simp⟩) R3 ?_
              simp only [Act.put, List.getElem_toArray, List.getElem_cons_succ, List.getElem_cons_zero, List.setIfInBounds_toArray, List.set_cons_zero, List.set_cons_succ]
              refine wpAnyH_take (i := 5) (v := .int .i64 (sideZ false)) rfl (by kernel_rfl) (by kernel_rfl) (by kernel_rfl) (fun _ _ _ h => h) (Or.inl ⟨by kernel_rfl, by intro w hS; go_simp⟩) R3 ?_
              simp only [Act.put, List.getElem_toArray, List.getElem_cons_succ, List.getElem_cons_zero, List.setIfInBounds_toArray, List.set_cons_zero, List.set_cons_succ]
              refine wpAnyH_done (by kernel_rfl) ?_ _
              refine NoPanic.normal ?_
              replace R3 := R3.drew; replace R6 := R6.drew; replace hB := below_drewG hB
              go_wp2_with (first | (refine wpList_boxR 31 rfl _ rfl _ rfl ?_; intro b3 w1 l3 R3 hb1; replace l3 := Nat.le_trans hB.size l3; replace hB := hB.trans (hb1.mono hB.size)) | (refine wpList_allocX 6 31 rfl rfl rfl _ flow_zero ?_; intro b6 w2 l6 R6 hb2; have n36 := R3.ne l6; replace l6 := Nat.le_trans hB.size l6; replace R3 := R3.below hb2; replace hB := hB.trans (hb2.mono hB.size)) | (refine wpList_loadF R3 _ rfl rfl _ rfl _ rfl ?_) | (refine wpList_loadR 31 (.tmp 3) rfl rfl b3 rfl (fc k) R3 _ Try.underlying31 rfl (fc_info _) ?_) | (refine wpList_storeR 31 rfl (.tmp 6) _ rfl b6 rfl (fc k) rfl _ R6 rfl (fc_info _) (fc_one _) ?_; intro w6 R6 t6; replace R3 := t6.row R3 n36; replace hB := t6.below _ _ l6 hB) | (go_at_call 15; go_fit (C4 _); rintro e w' ⟨rfl, hw⟩; rw [hw]; clear hw w') | (go_at_call 15; go_fit (C1 _); rintro e w' ⟨rfl, hw⟩; rw [hw]; clear hw w'))
              ((try simp only [Exit.inBlock, Exit.then]); refine bodyPost_ret (results_row2 (p := 6) (u := 7) rfl _ _ _ _ rfl R6 _ Try.underlying31 rfl (fc_info _)) rfl ⟨ret_step H.out, hB⟩)
            exact AllReadyH.nil
        · have s3 : (k.st == 3) = false := by simp [e3]
          have H : Hid (stepT k x false = (k, false)) := by show stepT k x false = (k, false); simp [stepT, h4, e1, e2, e3]
          clear h4 e1 e2 e3
          go_enter Try.func19, Try.ntmps19
          go_wp2_with (first | (refine wpList_boxR 31 rfl _ rfl _ rfl ?_; intro b3 w1 l3 R3 hb1; replace l3 := Nat.le_trans hB.size l3; replace hB := hB.trans (hb1.mono hB.size)) | (refine wpList_allocX 6 31 rfl rfl rfl _ flow_zero ?_; intro b6 w2 l6 R6 hb2; have n36 := R3.ne l6; replace l6 := Nat.le_trans hB.size l6; replace R3 := R3.below hb2; replace hB := hB.trans (hb2.mono hB.size)) | (refine wpList_loadF R3 _ rfl rfl _ rfl _ rfl ?_) | (refine wpList_loadR 31 (.tmp 3) rfl rfl b3 rfl (fc k) R3 _ Try.underlying31 rfl (fc_info _) ?_) | (refine wpList_storeR 31 rfl (.tmp 6) _ rfl b6 rfl (fc k) rfl _ R6 rfl (fc_info _) (fc_one _) ?_; intro w6 R6 t6; replace R3 := t6.row R3 n36; replace hB := t6.below _ _ l6 hB) | (go_at_call 15; go_fit (C4 _); rintro e w' ⟨rfl, hw⟩; rw [hw]; clear hw w'))
          refine wp_region_noPanic ?_
          refine wp_region_held_drew (S := fun W => Row 31 W b3 (fc k)) (by kernel_rfl) R3 (fun _ => ?_)
          refine wpAnyH_take (i := 0) (v := .pointer (some ⟨b3, 7, none⟩)) rfl (by kernel_rfl) (by kernel_rfl) (by kernel_rfl) (fun _ _ _ h => h) (Or.inl ⟨by kernel_rfl, by intro w hS; go_simp⟩) R3 ?_
          simp only [Act.put, List.getElem_toArray, List.getElem_cons_succ, List.getElem_cons_zero, List.setIfInBounds_toArray, List.set_cons_zero, List.set_cons_succ]
          refine wpAnyH_take (i := 1) (v := .int .i64 k.st) rfl (by kernel_rfl) (by kernel_rfl) (by kernel_rfl) (fun _ _ _ h => h) (Or.inl ⟨by kernel_rfl, by intro w hS; have hc := (hS.cell 7).trans (show (fc k)[7]? = some (.int .i64 k.st) from rfl); go_simp⟩) R3 ?_
          simp only [Act.put, List.getElem_toArray, List.getElem_cons_succ, List.getElem_cons_zero, List.setIfInBounds_toArray, List.set_cons_zero, List.set_cons_succ]
          refine wpAnyH_take (i := 2) (v := .bool false) rfl (by kernel_rfl) (by kernel_rfl) (by kernel_rfl) (fun _ _ _ h => h) (Or.inl ⟨by kernel_rfl, by intro w hS; go_simp⟩) R3 ?_
          simp only [Act.put, List.getElem_toArray, List.getElem_cons_succ, List.getElem_cons_zero, List.setIfInBounds_toArray, List.set_cons_zero, List.set_cons_succ]
          refine wpAnyH_ready (rs := [3]) (by kernel_rfl) (by simp) ?_
          refine AllReadyH.cons rfl (fun K hK => ?_) ?_
          · go_simp
            go_at_call 20; refine (sideOf_any false _).mono ?_; rintro e w5 ⟨rfl, hw⟩; rw [hw]; clear hw w5
            go_wp2_with fail
            refine hK.out _ _ R3 (fun _ => ?_)
            clear hK K
            try simp only [Act.put, List.getElem_toArray, List.getElem_cons_succ, List.getElem_cons_zero, List.setIfInBounds_toArray, List.set_cons_zero, List.set_cons_succ]
            refine wpAnyH_take (i := 4) (v := .int .i64 k.st) rfl (by kernel_rfl) (by kernel_rfl) (by kernel_rfl) (fun _ _ _ h => h) (Or.inl ⟨by kernel_rfl, by intro w hS; go_simp⟩) R3 ?_
            simp only [Act.put, List.getElem_toArray, List.getElem_cons_succ, List.getElem_cons_zero, List.setIfInBounds_toArray, List.set_cons_zero, List.set_cons_succ]
            refine wpAnyH_take (i := 5) (v := .int .i64 (sideZ false)) rfl (by kernel_rfl) (by kernel_rfl) (by kernel_rfl) (fun _ _ _ h => h) (Or.inl ⟨by kernel_rfl, by intro w hS; go_simp⟩) R3 ?_
            simp only [Act.put, List.getElem_toArray, List.getElem_cons_succ, List.getElem_cons_zero, List.setIfInBounds_toArray, List.set_cons_zero, List.set_cons_succ]
            refine wpAnyH_done (by kernel_rfl) ?_ _
            refine NoPanic.normal ?_
            replace R3 := R3.drew; replace R6 := R6.drew; replace hB := below_drewG hB
            go_wp2_with (first | (refine wpList_boxR 31 rfl _ rfl _ rfl ?_; intro b3 w1 l3 R3 hb1; replace l3 := Nat.le_trans hB.size l3; replace hB := hB.trans (hb1.mono hB.size)) | (refine wpList_allocX 6 31 rfl rfl rfl _ flow_zero ?_; intro b6 w2 l6 R6 hb2; have n36 := R3.ne l6; replace l6 := Nat.le_trans hB.size l6; replace R3 := R3.below hb2; replace hB := hB.trans (hb2.mono hB.size)) | (refine wpList_loadF R3 _ rfl rfl _ rfl _ rfl ?_) | (refine wpList_loadR 31 (.tmp 3) rfl rfl b3 rfl (fc k) R3 _ Try.underlying31 rfl (fc_info _) ?_) | (refine wpList_storeR 31 rfl (.tmp 6) _ rfl b6 rfl (fc k) rfl _ R6 rfl (fc_info _) (fc_one _) ?_; intro w6 R6 t6; replace R3 := t6.row R3 n36; replace hB := t6.below _ _ l6 hB) | (go_at_call 15; go_fit (C4 _); rintro e w' ⟨rfl, hw⟩; rw [hw]; clear hw w'))
            ((try simp only [Exit.inBlock, Exit.then]); refine bodyPost_ret (results_row2 (p := 6) (u := 7) rfl _ _ _ _ rfl R6 _ Try.underlying31 rfl (fc_info _)) rfl ⟨ret_step H.out, hB⟩)
          exact AllReadyH.nil
end Go.Proofs.Ythflhaanndnejaf
