/-
  For every flow, packet and time, rentrollkeep.TrackKeeps returns true: of a flow of Udp, what comes from inside keeps it, what comes from outside does not; no condition but the form's own reach.
-/
import Derived.Test.YthflhaanndnejafRows
import Derived.WalkKit
import Derived.ProofKit
import Derived.OpenShut
import Derived.ShutString
import Derived.SizedLaws
import Derived.Below
import Derived.Test.YthflhaanndnejafPktIn
import Derived.Test.YthflhaanndnejafTrackJ
import Derived.Test.YthflhaanndnejafTrackH
import Derived.Test.YthflhaanndnejafTrackL
import Derived.Test.YthflhaanndnejafPickW
import Derived.Test.YthflhaanndnejafYieldP
namespace Go.Proofs.Ythflhaanndnejaf.trackKeeps
open Go.ChangeShapes Go.WideShapes Go.ChangeAt Go.RowKit
open Go.ChangeMaps (open_string shut_string)
set_option linter.unusedVariables false
set_option linter.unusedSimpArgs false

theorem own : ownKnob Try.prog.godebug = none := by kernel_rfl

theorem wpList_eqI {ops : Array Oper} {rest : List Oper} {o : Oper} {a : Act} {w : World} {Q : Exit → Act → World → Prop} (t : TypeId) (x y : Operand) (ho : o.op = .binOp .eql t x y t) (hgd : o.guard = none) (n m : Int) (hx : a.eval x = .int .i64 n) (hy : a.eval y = .int .i64 m) (b : Bool) (hb : (n == m) = b)
    (hr : wpList Try.prog ops Q rest (a.put o.dst (.bool b)) w) : wpList Try.prog ops Q (o :: rest) a w :=
  wpList_plain hgd fun K hK => by
    unfold Oper.wp execOp
    simp only [ho, hx, hy]
    simp [go_sem, eqGuard, hb]
    exact hK _ _ hr
theorem wp_allocR {o : Oper} {a : Act} {w : World} {K : Act → World → Prop} {Q : Exit → Act → World → Prop} (t : TypeId) (ho : o.op = .alloc t) (cs : Array Value) (hz : ∀ w : World, (zeroValue t).run Try.prog w = .ok (.agg cs) w)
    (hr : ∀ b w', w.heap.size ≤ b → Row t w' b cs → Below w.heap.size w w' → K (a.put o.dst (.pointer (some ⟨b, 0, none⟩))) w') : o.wp Try.prog a w K Q := by
  have h' := hr w.heap.size (w.alloc (.cells cs t)) (Nat.le_refl _) (Row.new t w cs) ((Below.refl _ _).alloc (Nat.le_refl _) _)
  unfold Oper.wp execOp
  simp [ho, Instr.alloc, newVar, hz w, Result.andThen, Value.cells]
  simp [go_sem]
  exact h'
set_option maxRecDepth 10000 in
set_option maxHeartbeats 8000000 in
theorem walk (a0 : Fl) (a1 : Pkt) (a2 : Int) (w0 : a0.wf) (w1 : a1.body.size ≤ 140737488351232) (w2 : (Lit.int .i64 a2).wf = true) (w : World) :
    Calls Try.prog 5 #[.agg (fc a0), pv a1, .int .i64 a2] w fun e w' => e = .returned (.bool true) ∧ Below w.heap.size w w' := by
  rw [pv_pcl]
  have hB := Below.refl w.heap.size w
  have CP := fun w => pick_any a2 1073741824 w (by decide) (by decide)
  have hn0 : 0 ≤ a2 % 1073741824 := by omega
  have hn1 : a2 % 1073741824 ≤ 1099511627776 := by omega
  have CF := fun w => next_any { a0 with pr := 17 } a1 false (a2 % 1073741824) hn0 hn1 w
  have CT := fun w => next_any { a0 with pr := 17 } a1 true (a2 % 1073741824) hn0 hn1 w
  rw [show nextF { a0 with pr := 17 } a1.flags false (a2 % 1073741824) = { a0 with pr := 17, du := a2 % 1073741824 + 20 } from rfl] at CF
  rw [show nextF { a0 with pr := 17 } a1.flags true (a2 % 1073741824) = { a0 with pr := 17 } from rfl] at CT
  have dS : wrap64 (a2 % 1073741824 + 20 - a2 % 1073741824) = 20 := by unfold wrap64; omega
  have dT : (a2 % 1073741824 + 20 - a2 % 1073741824 == 20) = true := by rw [show a2 % 1073741824 + 20 - a2 % 1073741824 = 20 by omega]; rfl
  clear hn0 hn1
  go_enter Try.func5, Try.ntmps5
  go_wp2_with (first | (with_reducible refine at_op (.box 31 (.tmp 0)) rfl ?_; refine wpList_boxR 31 rfl (.tmp 0) rfl (fc a0) rfl ?_; intro b3 w1 l3 R3 hb1; replace l3 := Nat.le_trans hB.size l3; replace hB := hB.trans (hb1.mono hB.size)) | (with_reducible refine at_op (.box 23 (.tmp 1)) rfl ?_; refine wpList_boxR 23 rfl (.tmp 1) rfl (pcl a1) rfl ?_; intro b4 w1 l4 R4 hb1; have n43 : b4 ≠ b3 := (R3.ne l4).symm; replace R3 := R3.below hb1; replace hB := hB.trans (hb1.mono hB.size)) | (with_reducible refine at_op (.store 3 (.tmp 10) (.const (.int .i64 17))) rfl ?_; refine wpList_storeF R3 rfl _ _ rfl _ rfl _ rfl _ rfl (fc { a0 with pr := 17 }) rfl ?_; intro w4 R3 t4; replace R4 := t4.row R4 n43; replace hB := t4.below _ _ l3 hB) | (go_at_call 13; go_fit (CP _); rintro e w' ⟨rfl, hw⟩; rw [hw]; clear hw w'))
  refine wp_region_noPanic ?_
  refine wp_region_held_drew (S := fun W => Row 31 W b3 (fc { a0 with pr := 17 }) ∧ Row 23 W b4 (pcl a1)) (by kernel_rfl) ⟨R3, R4⟩ (fun _ => ?_)
  refine wpAnyH_take (i := 0) (v := .agg (fc { a0 with pr := 17 })) rfl (by kernel_rfl) (by kernel_rfl) (by kernel_rfl) (fun _ _ _ h => h) (yields_loadR 31 (.tmp 3) rfl (by kernel_rfl) b3 (by kernel_rfl) (fc { a0 with pr := 17 }) (fun _ h => h.1) _ Try.underlying31 rfl (fc_info _)) ⟨R3, R4⟩ ?_
  simp only [Act.put, List.getElem_toArray, List.getElem_cons_succ, List.getElem_cons_zero, List.setIfInBounds_toArray, List.set_cons_zero, List.set_cons_succ]
  refine wpAnyH_take (i := 1) (v := .agg (pcl a1)) rfl (by kernel_rfl) (by kernel_rfl) (by kernel_rfl) (fun _ _ _ h => h) (yields_loadR 23 (.tmp 4) rfl (by kernel_rfl) b4 (by kernel_rfl) (pcl a1) (fun _ h => h.2) _ Try.underlying23 rfl (pcl_info _)) ⟨R3, R4⟩ ?_
  simp only [Act.put, List.getElem_toArray, List.getElem_cons_succ, List.getElem_cons_zero, List.setIfInBounds_toArray, List.set_cons_zero, List.set_cons_succ]
  refine wpAnyH_take (i := 2) (v := .int .i64 (a2 % 1073741824)) rfl (by kernel_rfl) (by kernel_rfl) (by kernel_rfl) (fun _ _ _ h => h) (Or.inl ⟨by kernel_rfl, by intro w hS; go_simp⟩) ⟨R3, R4⟩ ?_
  simp only [Act.put, List.getElem_toArray, List.getElem_cons_succ, List.getElem_cons_zero, List.setIfInBounds_toArray, List.set_cons_zero, List.set_cons_succ]
  refine wpAnyH_take (i := 4) (v := .agg (fc { a0 with pr := 17 })) rfl (by kernel_rfl) (by kernel_rfl) (by kernel_rfl) (fun _ _ _ h => h) (yields_loadR 31 (.tmp 3) rfl (by kernel_rfl) b3 (by kernel_rfl) (fc { a0 with pr := 17 }) (fun _ h => h.1) _ Try.underlying31 rfl (fc_info _)) ⟨R3, R4⟩ ?_
  simp only [Act.put, List.getElem_toArray, List.getElem_cons_succ, List.getElem_cons_zero, List.setIfInBounds_toArray, List.set_cons_zero, List.set_cons_succ]
  refine wpAnyH_take (i := 5) (v := .agg (pcl a1)) rfl (by kernel_rfl) (by kernel_rfl) (by kernel_rfl) (fun _ _ _ h => h) (yields_loadR 23 (.tmp 4) rfl (by kernel_rfl) b4 (by kernel_rfl) (pcl a1) (fun _ h => h.2) _ Try.underlying23 rfl (pcl_info _)) ⟨R3, R4⟩ ?_
  simp only [Act.put, List.getElem_toArray, List.getElem_cons_succ, List.getElem_cons_zero, List.setIfInBounds_toArray, List.set_cons_zero, List.set_cons_succ]
  refine wpAnyH_take (i := 6) (v := .int .i64 (a2 % 1073741824)) rfl (by kernel_rfl) (by kernel_rfl) (by kernel_rfl) (fun _ _ _ h => h) (Or.inl ⟨by kernel_rfl, by intro w hS; go_simp⟩) ⟨R3, R4⟩ ?_
  simp only [Act.put, List.getElem_toArray, List.getElem_cons_succ, List.getElem_cons_zero, List.setIfInBounds_toArray, List.set_cons_zero, List.set_cons_succ]
  refine wpAnyH_ready (rs := [3, 8, 9]) (by kernel_rfl) (by simp) ?_
  refine AllReadyH.cons rfl (fun K hK => ?_) ?_
  · go_simp
    go_at_call 14; refine (CF _).mono ?_; rintro e w5 ⟨rfl, hb5⟩; (try replace hb5 := below_undrG hb5); replace R3 := R3.below hb5; replace R4 := R4.below hb5; (try replace R7 := R7.below hb5); (try replace R8 := R8.below hb5); replace hB := hB.trans (hb5.mono hB.size)
    go_wp2_with fail
    refine hK.out _ _ ⟨R3, R4⟩ (fun _ => ?_)
    clear hK K
    try simp only [Act.put, List.getElem_toArray, List.getElem_cons_succ, List.getElem_cons_zero, List.setIfInBounds_toArray, List.set_cons_zero, List.set_cons_succ]
    refine wpAnyH_ready (rs := [7, 8, 9]) (by kernel_rfl) (by simp) ?_
    refine AllReadyH.cons rfl (fun K hK => ?_) ?_
    · go_simp
      go_at_call 14; refine (CT _).mono ?_; rintro e w5 ⟨rfl, hb5⟩; (try replace hb5 := below_undrG hb5); replace R3 := R3.below hb5; replace R4 := R4.below hb5; (try replace R7 := R7.below hb5); (try replace R8 := R8.below hb5); replace hB := hB.trans (hb5.mono hB.size)
      go_wp2_with fail
      refine hK.out _ _ ⟨R3, R4⟩ (fun _ => ?_)
      clear hK K
      try simp only [Act.put, List.getElem_toArray, List.getElem_cons_succ, List.getElem_cons_zero, List.setIfInBounds_toArray, List.set_cons_zero, List.set_cons_succ]
      refine wpAnyH_ready (rs := [8, 9]) (by kernel_rfl) (by simp) ?_
      refine AllReadyH.cons rfl (fun K hK => ?_) ?_
      · rw [if_pos (by kernel_rfl)]
        refine wp_allocR 31 rfl _ flow_zero ?_; intro b7 w7 l7 R7 hb7; (try replace hb7 := below_undrG hb7); have n37 := R3.ne l7; have n47 := R4.ne l7; (try (have n78 : b7 ≠ b8 := (by first | exact R8.ne l7 | exact (R8.ne l7).symm))); replace l7 := Nat.le_trans hB.size l7; replace R3 := R3.below hb7; replace R4 := R4.below hb7; (try replace R8 := R8.below hb7); replace hB := hB.trans (hb7.mono hB.size)
        refine hK.out _ _ ⟨R3, R4⟩ (fun _ => ?_)
        clear hK K
        try simp only [Act.put, List.getElem_toArray, List.getElem_cons_succ, List.getElem_cons_zero, List.setIfInBounds_toArray, List.set_cons_zero, List.set_cons_succ]
        refine wpAnyH_ready (rs := [9]) (by kernel_rfl) (by simp) ?_
        refine AllReadyH.cons rfl (fun K hK => ?_) ?_
        · rw [if_pos (by kernel_rfl)]
          refine wp_allocR 31 rfl _ flow_zero ?_; intro b8 w8 l8 R8 hb8; (try replace hb8 := below_undrG hb8); have n38 := R3.ne l8; have n48 := R4.ne l8; (try (have n78 : b7 ≠ b8 := (by first | exact R7.ne l8 | exact (R7.ne l8).symm))); replace l8 := Nat.le_trans hB.size l8; replace R3 := R3.below hb8; replace R4 := R4.below hb8; (try replace R7 := R7.below hb8); replace hB := hB.trans (hb8.mono hB.size)
          refine hK.out _ _ ⟨R3, R4⟩ (fun _ => ?_)
          clear hK K
          try simp only [Act.put, List.getElem_toArray, List.getElem_cons_succ, List.getElem_cons_zero, List.setIfInBounds_toArray, List.set_cons_zero, List.set_cons_succ]
          refine wpAnyH_ready (rs := [10]) (by kernel_rfl) (by simp) ?_
          refine AllReadyH.cons rfl (fun K hK => ?_) ?_
          · rw [if_pos (by kernel_rfl)]
            refine wp_storeR 31 (.tmp 7) (.tmp 16) rfl b7 rfl (fc { a0 with pr := 17, du := a2 % 1073741824 + 20 }) rfl _ R7 rfl (fc_info _) (fc_one _) ?_; intro w17 R7 t7; (try replace t7 := turned_undrG t7); replace R3 := t7.row R3 n37; replace R4 := t7.row R4 n47; replace R8 := t7.row R8 n78.symm; replace hB := t7.below _ _ l7 hB
            refine hK.out _ _ ⟨R3, R4⟩ (fun _ => ?_)
            clear hK K
            try simp only [Act.put, List.getElem_toArray, List.getElem_cons_succ, List.getElem_cons_zero, List.setIfInBounds_toArray, List.set_cons_zero, List.set_cons_succ]
            refine wpAnyH_ready (rs := [11]) (by kernel_rfl) (by simp) ?_
            refine AllReadyH.cons rfl (fun K hK => ?_) ?_
            · rw [if_pos (by kernel_rfl)]
              refine wp_storeR 31 (.tmp 8) (.tmp 20) rfl b8 rfl (fc { a0 with pr := 17 }) rfl _ R8 rfl (fc_info _) (fc_one _) ?_; intro w18 R8 t8; (try replace t8 := turned_undrG t8); replace R3 := t8.row R3 n38; replace R4 := t8.row R4 n48; replace R7 := t8.row R7 n78; replace hB := t8.below _ _ l8 hB
              refine hK.out _ _ ⟨R3, R4⟩ (fun _ => ?_)
              clear hK K
              try simp only [Act.put, List.getElem_toArray, List.getElem_cons_succ, List.getElem_cons_zero, List.setIfInBounds_toArray, List.set_cons_zero, List.set_cons_succ]
              refine wpAnyH_done (by kernel_rfl) ?_ _
              refine NoPanic.normal ?_
              have c79 : World.cell? _ ⟨b7, 9, none⟩ = some (.int .i64 (a2 % 1073741824 + 20)) := (R7.cell 9).trans rfl; have c77 : World.cell? _ ⟨b7, 7, none⟩ = some (.int .i64 a0.st) := (R7.cell 7).trans rfl; have c37 : World.cell? _ ⟨b3, 7, none⟩ = some (.int .i64 a0.st) := (R3.cell 7).trans rfl
              go_wp2_with (first | (with_reducible refine at_op (.binOp .eql 3 (.tmp 24) (.const (.int .i64 20)) 3) rfl ?_; refine wpList_eqI _ _ _ rfl rfl _ _ rfl rfl true (by first | exact dT | (rw [dS]; rfl)) ?_; (try dsimp only [Act.put, List.getElem_toArray, List.getElem_cons_succ, List.getElem_cons_zero, List.setIfInBounds_toArray, List.set_cons_zero, List.set_cons_succ])) | (with_reducible refine at_op (.load 31 (.tmp 8)) rfl ?_; refine wpList_loadR 31 (.tmp 8) rfl ?_ b8 rfl (fc { a0 with pr := 17 }) R8 _ Try.underlying31 rfl (fc_info _) ?_; · kernel_rfl; (try dsimp only [Act.put, List.getElem_toArray, List.getElem_cons_succ, List.getElem_cons_zero, List.setIfInBounds_toArray, List.set_cons_zero, List.set_cons_succ])) | (with_reducible refine at_op (.load 31 (.tmp 3)) rfl ?_; refine wpList_loadR 31 (.tmp 3) rfl ?_ b3 rfl (fc { a0 with pr := 17 }) R3 _ Try.underlying31 rfl (fc_info _) ?_; · kernel_rfl; (try dsimp only [Act.put, List.getElem_toArray, List.getElem_cons_succ, List.getElem_cons_zero, List.setIfInBounds_toArray, List.set_cons_zero, List.set_cons_succ])) | (with_reducible refine at_op (.binOp .eql 31 (.tmp 27) (.tmp 28) 31) rfl ?_; refine wpList_eqS 31 (.tmp 27) (.tmp 28) rfl ?_ (fc { a0 with pr := 17 }) (fc { a0 with pr := 17 }) rfl rfl Try.eqGuardType31 _ true (eq_flow _ _) rfl ?_; · kernel_rfl; (try dsimp only [Act.put, List.getElem_toArray, List.getElem_cons_succ, List.getElem_cons_zero, List.setIfInBounds_toArray, List.set_cons_zero, List.set_cons_succ])) | (go_at_call 11; go_fit (tracksKeep_any _); rintro e w9 ⟨rfl, hb9⟩; replace hB := hB.trans (hb9.mono hB.size)))
              go_ret
              exact ⟨rfl, hB⟩
            exact AllReadyH.nil
          exact AllReadyH.nil
        exact AllReadyH.nil
      refine AllReadyH.cons rfl (fun K hK => ?_) ?_
      · rw [if_pos (by kernel_rfl)]
        refine wp_allocR 31 rfl _ flow_zero ?_; intro b8 w8 l8 R8 hb8; (try replace hb8 := below_undrG hb8); have n38 := R3.ne l8; have n48 := R4.ne l8; (try (have n78 : b7 ≠ b8 := (by first | exact R7.ne l8 | exact (R7.ne l8).symm))); replace l8 := Nat.le_trans hB.size l8; replace R3 := R3.below hb8; replace R4 := R4.below hb8; (try replace R7 := R7.below hb8); replace hB := hB.trans (hb8.mono hB.size)
        refine hK.out _ _ ⟨R3, R4⟩ (fun _ => ?_)
        clear hK K
        try simp only [Act.put, List.getElem_toArray, List.getElem_cons_succ, List.getElem_cons_zero, List.setIfInBounds_toArray, List.set_cons_zero, List.set_cons_succ]
        refine wpAnyH_ready (rs := [8]) (by kernel_rfl) (by simp) ?_
        refine AllReadyH.cons rfl (fun K hK => ?_) ?_
        · rw [if_pos (by kernel_rfl)]
          refine wp_allocR 31 rfl _ flow_zero ?_; intro b7 w7 l7 R7 hb7; (try replace hb7 := below_undrG hb7); have n37 := R3.ne l7; have n47 := R4.ne l7; (try (have n78 : b7 ≠ b8 := (by first | exact R8.ne l7 | exact (R8.ne l7).symm))); replace l7 := Nat.le_trans hB.size l7; replace R3 := R3.below hb7; replace R4 := R4.below hb7; (try replace R8 := R8.below hb7); replace hB := hB.trans (hb7.mono hB.size)
          refine hK.out _ _ ⟨R3, R4⟩ (fun _ => ?_)
          clear hK K
          try simp only [Act.put, List.getElem_toArray, List.getElem_cons_succ, List.getElem_cons_zero, List.setIfInBounds_toArray, List.set_cons_zero, List.set_cons_succ]
          refine wpAnyH_ready (rs := [10]) (by kernel_rfl) (by simp) ?_
          refine AllReadyH.cons rfl (fun K hK => ?_) ?_
          · rw [if_pos (by kernel_rfl)]
            refine wp_storeR 31 (.tmp 7) (.tmp 16) rfl b7 rfl (fc { a0 with pr := 17, du := a2 % 1073741824 + 20 }) rfl _ R7 rfl (fc_info _) (fc_one _) ?_; intro w17 R7 t7; (try replace t7 := turned_undrG t7); replace R3 := t7.row R3 n37; replace R4 := t7.row R4 n47; replace R8 := t7.row R8 n78.symm; replace hB := t7.below _ _ l7 hB
            refine hK.out _ _ ⟨R3, R4⟩ (fun _ => ?_)
            clear hK K
            try simp only [Act.put, List.getElem_toArray, List.getElem_cons_succ, List.getElem_cons_zero, List.setIfInBounds_toArray, List.set_cons_zero, List.set_cons_succ]
            refine wpAnyH_ready (rs := [11]) (by kernel_rfl) (by simp) ?_
            refine AllReadyH.cons rfl (fun K hK => ?_) ?_
            · rw [if_pos (by kernel_rfl)]
              refine wp_storeR 31 (.tmp 8) (.tmp 20) rfl b8 rfl (fc { a0 with pr := 17 }) rfl _ R8 rfl (fc_info _) (fc_one _) ?_; intro w18 R8 t8; (try replace t8 := turned_undrG t8); replace R3 := t8.row R3 n38; replace R4 := t8.row R4 n48; replace R7 := t8.row R7 n78; replace hB := t8.below _ _ l8 hB
              refine hK.out _ _ ⟨R3, R4⟩ (fun _ => ?_)
              clear hK K
              try simp only [Act.put, List.getElem_toArray, List.getElem_cons_succ, List.getElem_cons_zero, List.setIfInBounds_toArray, List.set_cons_zero, List.set_cons_succ]
              refine wpAnyH_done (by kernel_rfl) ?_ _
              refine NoPanic.normal ?_
              have c79 : World.cell? _ ⟨b7, 9, none⟩ = some (.int .i64 (a2 % 1073741824 + 20)) := (R7.cell 9).trans rfl; have c77 : World.cell? _ ⟨b7, 7, none⟩ = some (.int .i64 a0.st) := (R7.cell 7).trans rfl; have c37 : World.cell? _ ⟨b3, 7, none⟩ = some (.int .i64 a0.st) := (R3.cell 7).trans rfl
              go_wp2_with (first | (with_reducible refine at_op (.binOp .eql 3 (.tmp 24) (.const (.int .i64 20)) 3) rfl ?_; refine wpList_eqI _ _ _ rfl rfl _ _ rfl rfl true (by first | exact dT | (rw [dS]; rfl)) ?_; (try dsimp only [Act.put, List.getElem_toArray, List.getElem_cons_succ, List.getElem_cons_zero, List.setIfInBounds_toArray, List.set_cons_zero, List.set_cons_succ])) | (with_reducible refine at_op (.load 31 (.tmp 8)) rfl ?_; refine wpList_loadR 31 (.tmp 8) rfl ?_ b8 rfl (fc { a0 with pr := 17 }) R8 _ Try.underlying31 rfl (fc_info _) ?_; · kernel_rfl; (try dsimp only [Act.put, List.getElem_toArray, List.getElem_cons_succ, List.getElem_cons_zero, List.setIfInBounds_toArray, List.set_cons_zero, List.set_cons_succ])) | (with_reducible refine at_op (.load 31 (.tmp 3)) rfl ?_; refine wpList_loadR 31 (.tmp 3) rfl ?_ b3 rfl (fc { a0 with pr := 17 }) R3 _ Try.underlying31 rfl (fc_info _) ?_; · kernel_rfl; (try dsimp only [Act.put, List.getElem_toArray, List.getElem_cons_succ, List.getElem_cons_zero, List.setIfInBounds_toArray, List.set_cons_zero, List.set_cons_succ])) | (with_reducible refine at_op (.binOp .eql 31 (.tmp 27) (.tmp 28) 31) rfl ?_; refine wpList_eqS 31 (.tmp 27) (.tmp 28) rfl ?_ (fc { a0 with pr := 17 }) (fc { a0 with pr := 17 }) rfl rfl Try.eqGuardType31 _ true (eq_flow _ _) rfl ?_; · kernel_rfl; (try dsimp only [Act.put, List.getElem_toArray, List.getElem_cons_succ, List.getElem_cons_zero, List.setIfInBounds_toArray, List.set_cons_zero, List.set_cons_succ])) | (go_at_call 11; go_fit (tracksKeep_any _); rintro e w9 ⟨rfl, hb9⟩; replace hB := hB.trans (hb9.mono hB.size)))
              go_ret
              exact ⟨rfl, hB⟩
            exact AllReadyH.nil
          exact AllReadyH.nil
        exact AllReadyH.nil
      exact AllReadyH.nil
    refine AllReadyH.cons rfl (fun K hK => ?_) ?_
    · rw [if_pos (by kernel_rfl)]
      refine wp_allocR 31 rfl _ flow_zero ?_; intro b7 w7 l7 R7 hb7; (try replace hb7 := below_undrG hb7); have n37 := R3.ne l7; have n47 := R4.ne l7; (try (have n78 : b7 ≠ b8 := (by first | exact R8.ne l7 | exact (R8.ne l7).symm))); replace l7 := Nat.le_trans hB.size l7; replace R3 := R3.below hb7; replace R4 := R4.below hb7; (try replace R8 := R8.below hb7); replace hB := hB.trans (hb7.mono hB.size)
      refine hK.out _ _ ⟨R3, R4⟩ (fun _ => ?_)
      clear hK K
      try simp only [Act.put, List.getElem_toArray, List.getElem_cons_succ, List.getElem_cons_zero, List.setIfInBounds_toArray, List.set_cons_zero, List.set_cons_succ]
      refine wpAnyH_ready (rs := [7, 9]) (by kernel_rfl) (by simp) ?_
      refine AllReadyH.cons rfl (fun K hK => ?_) ?_
      · go_simp
        go_at_call 14; refine (CT _).mono ?_; rintro e w5 ⟨rfl, hb5⟩; (try replace hb5 := below_undrG hb5); replace R3 := R3.below hb5; replace R4 := R4.below hb5; (try replace R7 := R7.below hb5); (try replace R8 := R8.below hb5); replace hB := hB.trans (hb5.mono hB.size)
        go_wp2_with fail
        refine hK.out _ _ ⟨R3, R4⟩ (fun _ => ?_)
        clear hK K
        try simp only [Act.put, List.getElem_toArray, List.getElem_cons_succ, List.getElem_cons_zero, List.setIfInBounds_toArray, List.set_cons_zero, List.set_cons_succ]
        refine wpAnyH_ready (rs := [9]) (by kernel_rfl) (by simp) ?_
        refine AllReadyH.cons rfl (fun K hK => ?_) ?_
        · rw [if_pos (by kernel_rfl)]
          refine wp_allocR 31 rfl _ flow_zero ?_; intro b8 w8 l8 R8 hb8; (try replace hb8 := below_undrG hb8); have n38 := R3.ne l8; have n48 := R4.ne l8; (try (have n78 : b7 ≠ b8 := (by first | exact R7.ne l8 | exact (R7.ne l8).symm))); replace l8 := Nat.le_trans hB.size l8; replace R3 := R3.below hb8; replace R4 := R4.below hb8; (try replace R7 := R7.below hb8); replace hB := hB.trans (hb8.mono hB.size)
          refine hK.out _ _ ⟨R3, R4⟩ (fun _ => ?_)
          clear hK K
          try simp only [Act.put, List.getElem_toArray, List.getElem_cons_succ, List.getElem_cons_zero, List.setIfInBounds_toArray, List.set_cons_zero, List.set_cons_succ]
          refine wpAnyH_ready (rs := [10]) (by kernel_rfl) (by simp) ?_
          refine AllReadyH.cons rfl (fun K hK => ?_) ?_
          · rw [if_pos (by kernel_rfl)]
            refine wp_storeR 31 (.tmp 7) (.tmp 16) rfl b7 rfl (fc { a0 with pr := 17, du := a2 % 1073741824 + 20 }) rfl _ R7 rfl (fc_info _) (fc_one _) ?_; intro w17 R7 t7; (try replace t7 := turned_undrG t7); replace R3 := t7.row R3 n37; replace R4 := t7.row R4 n47; replace R8 := t7.row R8 n78.symm; replace hB := t7.below _ _ l7 hB
            refine hK.out _ _ ⟨R3, R4⟩ (fun _ => ?_)
            clear hK K
            try simp only [Act.put, List.getElem_toArray, List.getElem_cons_succ, List.getElem_cons_zero, List.setIfInBounds_toArray, List.set_cons_zero, List.set_cons_succ]
            refine wpAnyH_ready (rs := [11]) (by kernel_rfl) (by simp) ?_
            refine AllReadyH.cons rfl (fun K hK => ?_) ?_
            · rw [if_pos (by kernel_rfl)]
              refine wp_storeR 31 (.tmp 8) (.tmp 20) rfl b8 rfl (fc { a0 with pr := 17 }) rfl _ R8 rfl (fc_info _) (fc_one _) ?_; intro w18 R8 t8; (try replace t8 := turned_undrG t8); replace R3 := t8.row R3 n38; replace R4 := t8.row R4 n48; replace R7 := t8.row R7 n78; replace hB := t8.below _ _ l8 hB
              refine hK.out _ _ ⟨R3, R4⟩ (fun _ => ?_)
              clear hK K
              try simp only [Act.put, List.getElem_toArray, List.getElem_cons_succ, List.getElem_cons_zero, List.setIfInBounds_toArray, List.set_cons_zero, List.set_cons_succ]
              refine wpAnyH_done (by kernel_rfl) ?_ _
              refine NoPanic.normal ?_
              have c79 : World.cell? _ ⟨b7, 9, none⟩ = some (.int .i64 (a2 % 1073741824 + 20)) := (R7.cell 9).trans rfl; have c77 : World.cell? _ ⟨b7, 7, none⟩ = some (.int .i64 a0.st) := (R7.cell 7).trans rfl; have c37 : World.cell? _ ⟨b3, 7, none⟩ = some (.int .i64 a0.st) := (R3.cell 7).trans rfl
              go_wp2_with (first | (with_reducible refine at_op (.binOp .eql 3 (.tmp 24) (.const (.int .i64 20)) 3) rfl ?_; refine wpList_eqI _ _ _ rfl rfl _ _ rfl rfl true (by first | exact dT | (rw [dS]; rfl)) ?_; (try dsimp only [Act.put, List.getElem_toArray, List.getElem_cons_succ, List.getElem_cons_zero, List.setIfInBounds_toArray, List.set_cons_zero, List.set_cons_succ])) | (with_reducible refine at_op (.load 31 (.tmp 8)) rfl ?_; refine wpList_loadR 31 (.tmp 8) rfl ?_ b8 rfl (fc { a0 with pr := 17 }) R8 _ Try.underlying31 rfl (fc_info _) ?_; · kernel_rfl; (try dsimp only [Act.put, List.getElem_toArray, List.getElem_cons_succ, List.getElem_cons_zero, List.setIfInBounds_toArray, List.set_cons_zero, List.set_cons_succ])) | (with_reducible refine at_op (.load 31 (.tmp 3)) rfl ?_; refine wpList_loadR 31 (.tmp 3) rfl ?_ b3 rfl (fc { a0 with pr := 17 }) R3 _ Try.underlying31 rfl (fc_info _) ?_; · kernel_rfl; (try dsimp only [Act.put, List.getElem_toArray, List.getElem_cons_succ, List.getElem_cons_zero, List.setIfInBounds_toArray, List.set_cons_zero, List.set_cons_succ])) | (with_reducible refine at_op (.binOp .eql 31 (.tmp 27) (.tmp 28) 31) rfl ?_; refine wpList_eqS 31 (.tmp 27) (.tmp 28) rfl ?_ (fc { a0 with pr := 17 }) (fc { a0 with pr := 17 }) rfl rfl Try.eqGuardType31 _ true (eq_flow _ _) rfl ?_; · kernel_rfl; (try dsimp only [Act.put, List.getElem_toArray, List.getElem_cons_succ, List.getElem_cons_zero, List.setIfInBounds_toArray, List.set_cons_zero, List.set_cons_succ])) | (go_at_call 11; go_fit (tracksKeep_any _); rintro e w9 ⟨rfl, hb9⟩; replace hB := hB.trans (hb9.mono hB.size)))
              go_ret
              exact ⟨rfl, hB⟩
            exact AllReadyH.nil
          exact AllReadyH.nil
        exact AllReadyH.nil
      refine AllReadyH.cons rfl (fun K hK => ?_) ?_
      · rw [if_pos (by kernel_rfl)]
        refine wp_allocR 31 rfl _ flow_zero ?_; intro b8 w8 l8 R8 hb8; (try replace hb8 := below_undrG hb8); have n38 := R3.ne l8; have n48 := R4.ne l8; (try (have n78 : b7 ≠ b8 := (by first | exact R7.ne l8 | exact (R7.ne l8).symm))); replace l8 := Nat.le_trans hB.size l8; replace R3 := R3.below hb8; replace R4 := R4.below hb8; (try replace R7 := R7.below hb8); replace hB := hB.trans (hb8.mono hB.size)
        refine hK.out _ _ ⟨R3, R4⟩ (fun _ => ?_)
        clear hK K
        try simp only [Act.put, List.getElem_toArray, List.getElem_cons_succ, List.getElem_cons_zero, List.setIfInBounds_toArray, List.set_cons_zero, List.set_cons_succ]
        refine wpAnyH_ready (rs := [7]) (by kernel_rfl) (by simp) ?_
        refine AllReadyH.cons rfl (fun K hK => ?_) ?_
        · go_simp
          go_at_call 14; refine (CT _).mono ?_; rintro e w5 ⟨rfl, hb5⟩; (try replace hb5 := below_undrG hb5); replace R3 := R3.below hb5; replace R4 := R4.below hb5; (try replace R7 := R7.below hb5); (try replace R8 := R8.below hb5); replace hB := hB.trans (hb5.mono hB.size)
          go_wp2_with fail
          refine hK.out _ _ ⟨R3, R4⟩ (fun _ => ?_)
          clear hK K
          try simp only [Act.put, List.getElem_toArray, List.getElem_cons_succ, List.getElem_cons_zero, List.setIfInBounds_toArray, List.set_cons_zero, List.set_cons_succ]
          refine wpAnyH_ready (rs := [10]) (by kernel_rfl) (by simp) ?_
          refine AllReadyH.cons rfl (fun K hK => ?_) ?_
          · rw [if_pos (by kernel_rfl)]
            refine wp_storeR 31 (.tmp 7) (.tmp 16) rfl b7 rfl (fc { a0 with pr := 17, du := a2 % 1073741824 + 20 }) rfl _ R7 rfl (fc_info _) (fc_one _) ?_; intro w17 R7 t7; (try replace t7 := turned_undrG t7); replace R3 := t7.row R3 n37; replace R4 := t7.row R4 n47; replace R8 := t7.row R8 n78.symm; replace hB := t7.below _ _ l7 hB
            refine hK.out _ _ ⟨R3, R4⟩ (fun _ => ?_)
            clear hK K
            try simp only [Act.put, List.getElem_toArray, List.getElem_cons_succ, List.getElem_cons_zero, List.setIfInBounds_toArray, List.set_cons_zero, List.set_cons_succ]
            refine wpAnyH_ready (rs := [11]) (by kernel_rfl) (by simp) ?_
            refine AllReadyH.cons rfl (fun K hK => ?_) ?_
            · rw [if_pos (by kernel_rfl)]
              refine wp_storeR 31 (.tmp 8) (.tmp 20) rfl b8 rfl (fc { a0 with pr := 17 }) rfl _ R8 rfl (fc_info _) (fc_one _) ?_; intro w18 R8 t8; (try replace t8 := turned_undrG t8); replace R3 := t8.row R3 n38; replace R4 := t8.row R4 n48; replace R7 := t8.row R7 n78; replace hB := t8.below _ _ l8 hB
              refine hK.out _ _ ⟨R3, R4⟩ (fun _ => ?_)
              clear hK K
              try simp only [Act.put, List.getElem_toArray, List.getElem_cons_succ, List.getElem_cons_zero, List.setIfInBounds_toArray, List.set_cons_zero, List.set_cons_succ]
              refine wpAnyH_done (by kernel_rfl) ?_ _
              refine NoPanic.normal ?_
              have c79 : World.cell? _ ⟨b7, 9, none⟩ = some (.int .i64 (a2 % 1073741824 + 20)) := (R7.cell 9).trans rfl; have c77 : World.cell? _ ⟨b7, 7, none⟩ = some (.int .i64 a0.st) := (R7.cell 7).trans rfl; have c37 : World.cell? _ ⟨b3, 7, none⟩ = some (.int .i64 a0.st) := (R3.cell 7).trans rfl
              go_wp2_with (first | (with_reducible refine at_op (.binOp .eql 3 (.tmp 24) (.const (.int .i64 20)) 3) rfl ?_; refine wpList_eqI _ _ _ rfl rfl _ _ rfl rfl true (by first | exact dT | (rw [dS]; rfl)) ?_; (try dsimp only [Act.put, List.getElem_toArray, List.getElem_cons_succ, List.getElem_cons_zero, List.setIfInBounds_toArray, List.set_cons_zero, List.set_cons_succ])) | (with_reducible refine at_op (.load 31 (.tmp 8)) rfl ?_; refine wpList_loadR 31 (.tmp 8) rfl ?_ b8 rfl (fc { a0 with pr := 17 }) R8 _ Try.underlying31 rfl (fc_info _) ?_; · kernel_rfl; (try dsimp only [Act.put, List.getElem_toArray, List.getElem_cons_succ, List.getElem_cons_zero, List.setIfInBounds_toArray, List.set_cons_zero, List.set_cons_succ])) | (with_reducible refine at_op (.load 31 (.tmp 3)) rfl ?_; refine wpList_loadR 31 (.tmp 3) rfl ?_ b3 rfl (fc { a0 with pr := 17 }) R3 _ Try.underlying31 rfl (fc_info _) ?_; · kernel_rfl; (try dsimp only [Act.put, List.getElem_toArray, List.getElem_cons_succ, List.getElem_cons_zero, List.setIfInBounds_toArray, List.set_cons_zero, List.set_cons_succ])) | (with_reducible refine at_op (.binOp .eql 31 (.tmp 27) (.tmp 28) 31) rfl ?_; refine wpList_eqS 31 (.tmp 27) (.tmp 28) rfl ?_ (fc { a0 with pr := 17 }) (fc { a0 with pr := 17 }) rfl rfl Try.eqGuardType31 _ true (eq_flow _ _) rfl ?_; · kernel_rfl; (try dsimp only [Act.put, List.getElem_toArray, List.getElem_cons_succ, List.getElem_cons_zero, List.setIfInBounds_toArray, List.set_cons_zero, List.set_cons_succ])) | (go_at_call 11; go_fit (tracksKeep_any _); rintro e w9 ⟨rfl, hb9⟩; replace hB := hB.trans (hb9.mono hB.size)))
              go_ret
              exact ⟨rfl, hB⟩
            exact AllReadyH.nil
          exact AllReadyH.nil
        exact AllReadyH.nil
      exact AllReadyH.nil
    refine AllReadyH.cons rfl (fun K hK => ?_) ?_
    · rw [if_pos (by kernel_rfl)]
      refine wp_allocR 31 rfl _ flow_zero ?_; intro b8 w8 l8 R8 hb8; (try replace hb8 := below_undrG hb8); have n38 := R3.ne l8; have n48 := R4.ne l8; (try (have n78 : b7 ≠ b8 := (by first | exact R7.ne l8 | exact (R7.ne l8).symm))); replace l8 := Nat.le_trans hB.size l8; replace R3 := R3.below hb8; replace R4 := R4.below hb8; (try replace R7 := R7.below hb8); replace hB := hB.trans (hb8.mono hB.size)
      refine hK.out _ _ ⟨R3, R4⟩ (fun _ => ?_)
      clear hK K
      try simp only [Act.put, List.getElem_toArray, List.getElem_cons_succ, List.getElem_cons_zero, List.setIfInBounds_toArray, List.set_cons_zero, List.set_cons_succ]
      refine wpAnyH_ready (rs := [7, 8]) (by kernel_rfl) (by simp) ?_
      refine AllReadyH.cons rfl (fun K hK => ?_) ?_
      · go_simp
        go_at_call 14; refine (CT _).mono ?_; rintro e w5 ⟨rfl, hb5⟩; (try replace hb5 := below_undrG hb5); replace R3 := R3.below hb5; replace R4 := R4.below hb5; (try replace R7 := R7.below hb5); (try replace R8 := R8.below hb5); replace hB := hB.trans (hb5.mono hB.size)
        go_wp2_with fail
        refine hK.out _ _ ⟨R3, R4⟩ (fun _ => ?_)
        clear hK K
        try simp only [Act.put, List.getElem_toArray, List.getElem_cons_succ, List.getElem_cons_zero, List.setIfInBounds_toArray, List.set_cons_zero, List.set_cons_succ]
        refine wpAnyH_ready (rs := [8]) (by kernel_rfl) (by simp) ?_
        refine AllReadyH.cons rfl (fun K hK => ?_) ?_
        · rw [if_pos (by kernel_rfl)]
          refine wp_allocR 31 rfl _ flow_zero ?_; intro b7 w7 l7 R7 hb7; (try replace hb7 := below_undrG hb7); have n37 := R3.ne l7; have n47 := R4.ne l7; (try (have n78 : b7 ≠ b8 := (by first | exact R8.ne l7 | exact (R8.ne l7).symm))); replace l7 := Nat.le_trans hB.size l7; replace R3 := R3.below hb7; replace R4 := R4.below hb7; (try replace R8 := R8.below hb7); replace hB := hB.trans (hb7.mono hB.size)
          refine hK.out _ _ ⟨R3, R4⟩ (fun _ => ?_)
          clear hK K
          try simp only [Act.put, List.getElem_toArray, List.getElem_cons_succ, List.getElem_cons_zero, List.setIfInBounds_toArray, List.set_cons_zero, List.set_cons_succ]
          refine wpAnyH_ready (rs := [10]) (by kernel_rfl) (by simp) ?_
          refine AllReadyH.cons rfl (fun K hK => ?_) ?_
          · rw [if_pos (by kernel_rfl)]
            refine wp_storeR 31 (.tmp 7) (.tmp 16) rfl b7 rfl (fc { a0 with pr := 17, du := a2 % 1073741824 + 20 }) rfl _ R7 rfl (fc_info _) (fc_one _) ?_; intro w17 R7 t7; (try replace t7 := turned_undrG t7); replace R3 := t7.row R3 n37; replace R4 := t7.row R4 n47; replace R8 := t7.row R8 n78.symm; replace hB := t7.below _ _ l7 hB
            refine hK.out _ _ ⟨R3, R4⟩ (fun _ => ?_)
            clear hK K
            try simp only [Act.put, List.getElem_toArray, List.getElem_cons_succ, List.getElem_cons_zero, List.setIfInBounds_toArray, List.set_cons_zero, List.set_cons_succ]
            refine wpAnyH_ready (rs := [11]) (by kernel_rfl) (by simp) ?_
            refine AllReadyH.cons rfl (fun K hK => ?_) ?_
            · rw [if_pos (by kernel_rfl)]
              refine wp_storeR 31 (.tmp 8) (.tmp 20) rfl b8 rfl (fc { a0 with pr := 17 }) rfl _ R8 rfl (fc_info _) (fc_one _) ?_; intro w18 R8 t8; (try replace t8 := turned_undrG t8); replace R3 := t8.row R3 n38; replace R4 := t8.row R4 n48; replace R7 := t8.row R7 n78; replace hB := t8.below _ _ l8 hB
              refine hK.out _ _ ⟨R3, R4⟩ (fun _ => ?_)
              clear hK K
              try simp only [Act.put, List.getElem_toArray, List.getElem_cons_succ, List.getElem_cons_zero, List.setIfInBounds_toArray, List.set_cons_zero, List.set_cons_succ]
              refine wpAnyH_done (by kernel_rfl) ?_ _
              refine NoPanic.normal ?_
              have c79 : World.cell? _ ⟨b7, 9, none⟩ = some (.int .i64 (a2 % 1073741824 + 20)) := (R7.cell 9).trans rfl; have c77 : World.cell? _ ⟨b7, 7, none⟩ = some (.int .i64 a0.st) := (R7.cell 7).trans rfl; have c37 : World.cell? _ ⟨b3, 7, none⟩ = some (.int .i64 a0.st) := (R3.cell 7).trans rfl
              go_wp2_with (first | (with_reducible refine at_op (.binOp .eql 3 (.tmp 24) (.const (.int .i64 20)) 3) rfl ?_; refine wpList_eqI _ _ _ rfl rfl _ _ rfl rfl true (by first | exact dT | (rw [dS]; rfl)) ?_; (try dsimp only [Act.put, List.getElem_toArray, List.getElem_cons_succ, List.getElem_cons_zero, List.setIfInBounds_toArray, List.set_cons_zero, List.set_cons_succ])) | (with_reducible refine at_op (.load 31 (.tmp 8)) rfl ?_; refine wpList_loadR 31 (.tmp 8) rfl ?_ b8 rfl (fc { a0 with pr := 17 }) R8 _ Try.underlying31 rfl (fc_info _) ?_; · kernel_rfl; (try dsimp only [Act.put, List.getElem_toArray, List.getElem_cons_succ, List.getElem_cons_zero, List.setIfInBounds_toArray, List.set_cons_zero, List.set_cons_succ])) | (with_reducible refine at_op (.load 31 (.tmp 3)) rfl ?_; refine wpList_loadR 31 (.tmp 3) rfl ?_ b3 rfl (fc { a0 with pr := 17 }) R3 _ Try.underlying31 rfl (fc_info _) ?_; · kernel_rfl; (try dsimp only [Act.put, List.getElem_toArray, List.getElem_cons_succ, List.getElem_cons_zero, List.setIfInBounds_toArray, List.set_cons_zero, List.set_cons_succ])) | (with_reducible refine at_op (.binOp .eql 31 (.tmp 27) (.tmp 28) 31) rfl ?_; refine wpList_eqS 31 (.tmp 27) (.tmp 28) rfl ?_ (fc { a0 with pr := 17 }) (fc { a0 with pr := 17 }) rfl rfl Try.eqGuardType31 _ true (eq_flow _ _) rfl ?_; · kernel_rfl; (try dsimp only [Act.put, List.getElem_toArray, List.getElem_cons_succ, List.getElem_cons_zero, List.setIfInBounds_toArray, List.set_cons_zero, List.set_cons_succ])) | (go_at_call 11; go_fit (tracksKeep_any _); rintro e w9 ⟨rfl, hb9⟩; replace hB := hB.trans (hb9.mono hB.size)))
              go_ret
              exact ⟨rfl, hB⟩
            exact AllReadyH.nil
          exact AllReadyH.nil
        exact AllReadyH.nil
      refine AllReadyH.cons rfl (fun K hK => ?_) ?_
      · rw [if_pos (by kernel_rfl)]
        refine wp_allocR 31 rfl _ flow_zero ?_; intro b7 w7 l7 R7 hb7; (try replace hb7 := below_undrG hb7); have n37 := R3.ne l7; have n47 := R4.ne l7; (try (have n78 : b7 ≠ b8 := (by first | exact R8.ne l7 | exact (R8.ne l7).symm))); replace l7 := Nat.le_trans hB.size l7; replace R3 := R3.below hb7; replace R4 := R4.below hb7; (try replace R8 := R8.below hb7); replace hB := hB.trans (hb7.mono hB.size)
        refine hK.out _ _ ⟨R3, R4⟩ (fun _ => ?_)
        clear hK K
        try simp only [Act.put, List.getElem_toArray, List.getElem_cons_succ, List.getElem_cons_zero, List.setIfInBounds_toArray, List.set_cons_zero, List.set_cons_succ]
        refine wpAnyH_ready (rs := [7]) (by kernel_rfl) (by simp) ?_
        refine AllReadyH.cons rfl (fun K hK => ?_) ?_
        · go_simp
          go_at_call 14; refine (CT _).mono ?_; rintro e w5 ⟨rfl, hb5⟩; (try replace hb5 := below_undrG hb5); replace R3 := R3.below hb5; replace R4 := R4.below hb5; (try replace R7 := R7.below hb5); (try replace R8 := R8.below hb5); replace hB := hB.trans (hb5.mono hB.size)
          go_wp2_with fail
          refine hK.out _ _ ⟨R3, R4⟩ (fun _ => ?_)
          clear hK K
          try simp only [Act.put, List.getElem_toArray, List.getElem_cons_succ, List.getElem_cons_zero, List.setIfInBounds_toArray, List.set_cons_zero, List.set_cons_succ]
          refine wpAnyH_ready (rs := [10]) (by kernel_rfl) (by simp) ?_
          refine AllReadyH.cons rfl (fun K hK => ?_) ?_
          · rw [if_pos (by kernel_rfl)]
            refine wp_storeR 31 (.tmp 7) (.tmp 16) rfl b7 rfl (fc { a0 with pr := 17, du := a2 % 1073741824 + 20 }) rfl _ R7 rfl (fc_info _) (fc_one _) ?_; intro w17 R7 t7; (try replace t7 := turned_undrG t7); replace R3 := t7.row R3 n37; replace R4 := t7.row R4 n47; replace R8 := t7.row R8 n78.symm; replace hB := t7.below _ _ l7 hB
            refine hK.out _ _ ⟨R3, R4⟩ (fun _ => ?_)
            clear hK K
            try simp only [Act.put, List.getElem_toArray, List.getElem_cons_succ, List.getElem_cons_zero, List.setIfInBounds_toArray, List.set_cons_zero, List.set_cons_succ]
            refine wpAnyH_ready (rs := [11]) (by kernel_rfl) (by simp) ?_
            refine AllReadyH.cons rfl (fun K hK => ?_) ?_
            · rw [if_pos (by kernel_rfl)]
              refine wp_storeR 31 (.tmp 8) (.tmp 20) rfl b8 rfl (fc { a0 with pr := 17 }) rfl _ R8 rfl (fc_info _) (fc_one _) ?_; intro w18 R8 t8; (try replace t8 := turned_undrG t8); replace R3 := t8.row R3 n38; replace R4 := t8.row R4 n48; replace R7 := t8.row R7 n78; replace hB := t8.below _ _ l8 hB
              refine hK.out _ _ ⟨R3, R4⟩ (fun _ => ?_)
              clear hK K
              try simp only [Act.put, List.getElem_toArray, List.getElem_cons_succ, List.getElem_cons_zero, List.setIfInBounds_toArray, List.set_cons_zero, List.set_cons_succ]
              refine wpAnyH_done (by kernel_rfl) ?_ _
              refine NoPanic.normal ?_
              have c79 : World.cell? _ ⟨b7, 9, none⟩ = some (.int .i64 (a2 % 1073741824 + 20)) := (R7.cell 9).trans rfl; have c77 : World.cell? _ ⟨b7, 7, none⟩ = some (.int .i64 a0.st) := (R7.cell 7).trans rfl; have c37 : World.cell? _ ⟨b3, 7, none⟩ = some (.int .i64 a0.st) := (R3.cell 7).trans rfl
              go_wp2_with (first | (with_reducible refine at_op (.binOp .eql 3 (.tmp 24) (.const (.int .i64 20)) 3) rfl ?_; refine wpList_eqI _ _ _ rfl rfl _ _ rfl rfl true (by first | exact dT | (rw [dS]; rfl)) ?_; (try dsimp only [Act.put, List.getElem_toArray, List.getElem_cons_succ, List.getElem_cons_zero, List.setIfInBounds_toArray, List.set_cons_zero, List.set_cons_succ])) | (with_reducible refine at_op (.load 31 (.tmp 8)) rfl ?_; refine wpList_loadR 31 (.tmp 8) rfl ?_ b8 rfl (fc { a0 with pr := 17 }) R8 _ Try.underlying31 rfl (fc_info _) ?_; · kernel_rfl; (try dsimp only [Act.put, List.getElem_toArray, List.getElem_cons_succ, List.getElem_cons_zero, List.setIfInBounds_toArray, List.set_cons_zero, List.set_cons_succ])) | (with_reducible refine at_op (.load 31 (.tmp 3)) rfl ?_; refine wpList_loadR 31 (.tmp 3) rfl ?_ b3 rfl (fc { a0 with pr := 17 }) R3 _ Try.underlying31 rfl (fc_info _) ?_; · kernel_rfl; (try dsimp only [Act.put, List.getElem_toArray, List.getElem_cons_succ, List.getElem_cons_zero, List.setIfInBounds_toArray, List.set_cons_zero, List.set_cons_succ])) | (with_reducible refine at_op (.binOp .eql 31 (.tmp 27) (.tmp 28) 31) rfl ?_; refine wpList_eqS 31 (.tmp 27) (.tmp 28) rfl ?_ (fc { a0 with pr := 17 }) (fc { a0 with pr := 17 }) rfl rfl Try.eqGuardType31 _ true (eq_flow _ _) rfl ?_; · kernel_rfl; (try dsimp only [Act.put, List.getElem_toArray, List.getElem_cons_succ, List.getElem_cons_zero, List.setIfInBounds_toArray, List.set_cons_zero, List.set_cons_succ])) | (go_at_call 11; go_fit (tracksKeep_any _); rintro e w9 ⟨rfl, hb9⟩; replace hB := hB.trans (hb9.mono hB.size)))
              go_ret
              exact ⟨rfl, hB⟩
            exact AllReadyH.nil
          exact AllReadyH.nil
        exact AllReadyH.nil
      exact AllReadyH.nil
    exact AllReadyH.nil
  refine AllReadyH.cons rfl (fun K hK => ?_) ?_
  · rw [if_pos (by kernel_rfl)]
    refine wp_allocR 31 rfl _ flow_zero ?_; intro b7 w7 l7 R7 hb7; (try replace hb7 := below_undrG hb7); have n37 := R3.ne l7; have n47 := R4.ne l7; (try (have n78 : b7 ≠ b8 := (by first | exact R8.ne l7 | exact (R8.ne l7).symm))); replace l7 := Nat.le_trans hB.size l7; replace R3 := R3.below hb7; replace R4 := R4.below hb7; (try replace R8 := R8.below hb7); replace hB := hB.trans (hb7.mono hB.size)
    refine hK.out _ _ ⟨R3, R4⟩ (fun _ => ?_)
    clear hK K
    try simp only [Act.put, List.getElem_toArray, List.getElem_cons_succ, List.getElem_cons_zero, List.setIfInBounds_toArray, List.set_cons_zero, List.set_cons_succ]
    refine wpAnyH_ready (rs := [3, 9]) (by kernel_rfl) (by simp) ?_
    refine AllReadyH.cons rfl (fun K hK => ?_) ?_
    · go_simp
      go_at_call 14; refine (CF _).mono ?_; rintro e w5 ⟨rfl, hb5⟩; (try replace hb5 := below_undrG hb5); replace R3 := R3.below hb5; replace R4 := R4.below hb5; (try replace R7 := R7.below hb5); (try replace R8 := R8.below hb5); replace hB := hB.trans (hb5.mono hB.size)
      go_wp2_with fail
      refine hK.out _ _ ⟨R3, R4⟩ (fun _ => ?_)
      clear hK K
      try simp only [Act.put, List.getElem_toArray, List.getElem_cons_succ, List.getElem_cons_zero, List.setIfInBounds_toArray, List.set_cons_zero, List.set_cons_succ]
      refine wpAnyH_ready (rs := [7, 9]) (by kernel_rfl) (by simp) ?_
      refine AllReadyH.cons rfl (fun K hK => ?_) ?_
      · go_simp
        go_at_call 14; refine (CT _).mono ?_; rintro e w5 ⟨rfl, hb5⟩; (try replace hb5 := below_undrG hb5); replace R3 := R3.below hb5; replace R4 := R4.below hb5; (try replace R7 := R7.below hb5); (try replace R8 := R8.below hb5); replace hB := hB.trans (hb5.mono hB.size)
        go_wp2_with fail
        refine hK.out _ _ ⟨R3, R4⟩ (fun _ => ?_)
        clear hK K
        try simp only [Act.put, List.getElem_toArray, List.getElem_cons_succ, List.getElem_cons_zero, List.setIfInBounds_toArray, List.set_cons_zero, List.set_cons_succ]
        refine wpAnyH_ready (rs := [9]) (by kernel_rfl) (by simp) ?_
        refine AllReadyH.cons rfl (fun K hK => ?_) ?_
        · rw [if_pos (by kernel_rfl)]
          refine wp_allocR 31 rfl _ flow_zero ?_; intro b8 w8 l8 R8 hb8; (try replace hb8 := below_undrG hb8); have n38 := R3.ne l8; have n48 := R4.ne l8; (try (have n78 : b7 ≠ b8 := (by first | exact R7.ne l8 | exact (R7.ne l8).symm))); replace l8 := Nat.le_trans hB.size l8; replace R3 := R3.below hb8; replace R4 := R4.below hb8; (try replace R7 := R7.below hb8); replace hB := hB.trans (hb8.mono hB.size)
          refine hK.out _ _ ⟨R3, R4⟩ (fun _ => ?_)
          clear hK K
          try simp only [Act.put, List.getElem_toArray, List.getElem_cons_succ, List.getElem_cons_zero, List.setIfInBounds_toArray, List.set_cons_zero, List.set_cons_succ]
          refine wpAnyH_ready (rs := [10]) (by kernel_rfl) (by simp) ?_
          refine AllReadyH.cons rfl (fun K hK => ?_) ?_
          · rw [if_pos (by kernel_rfl)]
            refine wp_storeR 31 (.tmp 7) (.tmp 16) rfl b7 rfl (fc { a0 with pr := 17, du := a2 % 1073741824 + 20 }) rfl _ R7 rfl (fc_info _) (fc_one _) ?_; intro w17 R7 t7; (try replace t7 := turned_undrG t7); replace R3 := t7.row R3 n37; replace R4 := t7.row R4 n47; replace R8 := t7.row R8 n78.symm; replace hB := t7.below _ _ l7 hB
            refine hK.out _ _ ⟨R3, R4⟩ (fun _ => ?_)
            clear hK K
            try simp only [Act.put, List.getElem_toArray, List.getElem_cons_succ, List.getElem_cons_zero, List.setIfInBounds_toArray, List.set_cons_zero, List.set_cons_succ]
            refine wpAnyH_ready (rs := [11]) (by kernel_rfl) (by simp) ?_
            refine AllReadyH.cons rfl (fun K hK => ?_) ?_
            · rw [if_pos (by kernel_rfl)]
              refine wp_storeR 31 (.tmp 8) (.tmp 20) rfl b8 rfl (fc { a0 with pr := 17 }) rfl _ R8 rfl (fc_info _) (fc_one _) ?_; intro w18 R8 t8; (try replace t8 := turned_undrG t8); replace R3 := t8.row R3 n38; replace R4 := t8.row R4 n48; replace R7 := t8.row R7 n78; replace hB := t8.below _ _ l8 hB
              refine hK.out _ _ ⟨R3, R4⟩ (fun _ => ?_)
              clear hK K
              try simp only [Act.put, List.getElem_toArray, List.getElem_cons_succ, List.getElem_cons_zero, List.setIfInBounds_toArray, List.set_cons_zero, List.set_cons_succ]
              refine wpAnyH_done (by kernel_rfl) ?_ _
              refine NoPanic.normal ?_
              have c79 : World.cell? _ ⟨b7, 9, none⟩ = some (.int .i64 (a2 % 1073741824 + 20)) := (R7.cell 9).trans rfl; have c77 : World.cell? _ ⟨b7, 7, none⟩ = some (.int .i64 a0.st) := (R7.cell 7).trans rfl; have c37 : World.cell? _ ⟨b3, 7, none⟩ = some (.int .i64 a0.st) := (R3.cell 7).trans rfl
              go_wp2_with (first | (with_reducible refine at_op (.binOp .eql 3 (.tmp 24) (.const (.int .i64 20)) 3) rfl ?_; refine wpList_eqI _ _ _ rfl rfl _ _ rfl rfl true (by first | exact dT | (rw [dS]; rfl)) ?_; (try dsimp only [Act.put, List.getElem_toArray, List.getElem_cons_succ, List.getElem_cons_zero, List.setIfInBounds_toArray, List.set_cons_zero, List.set_cons_succ])) | (with_reducible refine at_op (.load 31 (.tmp 8)) rfl ?_; refine wpList_loadR 31 (.tmp 8) rfl ?_ b8 rfl (fc { a0 with pr := 17 }) R8 _ Try.underlying31 rfl (fc_info _) ?_; · kernel_rfl; (try dsimp only [Act.put, List.getElem_toArray, List.getElem_cons_succ, List.getElem_cons_zero, List.setIfInBounds_toArray, List.set_cons_zero, List.set_cons_succ])) | (with_reducible refine at_op (.load 31 (.tmp 3)) rfl ?_; refine wpList_loadR 31 (.tmp 3) rfl ?_ b3 rfl (fc { a0 with pr := 17 }) R3 _ Try.underlying31 rfl (fc_info _) ?_; · kernel_rfl; (try dsimp only [Act.put, List.getElem_toArray, List.getElem_cons_succ, List.getElem_cons_zero, List.setIfInBounds_toArray, List.set_cons_zero, List.set_cons_succ])) | (with_reducible refine at_op (.binOp .eql 31 (.tmp 27) (.tmp 28) 31) rfl ?_; refine wpList_eqS 31 (.tmp 27) (.tmp 28) rfl ?_ (fc { a0 with pr := 17 }) (fc { a0 with pr := 17 }) rfl rfl Try.eqGuardType31 _ true (eq_flow _ _) rfl ?_; · kernel_rfl; (try dsimp only [Act.put, List.getElem_toArray, List.getElem_cons_succ, List.getElem_cons_zero, List.setIfInBounds_toArray, List.set_cons_zero, List.set_cons_succ])) | (go_at_call 11; go_fit (tracksKeep_any _); rintro e w9 ⟨rfl, hb9⟩; replace hB := hB.trans (hb9.mono hB.size)))
              go_ret
              exact ⟨rfl, hB⟩
            exact AllReadyH.nil
          exact AllReadyH.nil
        exact AllReadyH.nil
      refine AllReadyH.cons rfl (fun K hK => ?_) ?_
      · rw [if_pos (by kernel_rfl)]
        refine wp_allocR 31 rfl _ flow_zero ?_; intro b8 w8 l8 R8 hb8; (try replace hb8 := below_undrG hb8); have n38 := R3.ne l8; have n48 := R4.ne l8; (try (have n78 : b7 ≠ b8 := (by first | exact R7.ne l8 | exact (R7.ne l8).symm))); replace l8 := Nat.le_trans hB.size l8; replace R3 := R3.below hb8; replace R4 := R4.below hb8; (try replace R7 := R7.below hb8); replace hB := hB.trans (hb8.mono hB.size)
        refine hK.out _ _ ⟨R3, R4⟩ (fun _ => ?_)
        clear hK K
        try simp only [Act.put, List.getElem_toArray, List.getElem_cons_succ, List.getElem_cons_zero, List.setIfInBounds_toArray, List.set_cons_zero, List.set_cons_succ]
        refine wpAnyH_ready (rs := [7]) (by kernel_rfl) (by simp) ?_
        refine AllReadyH.cons rfl (fun K hK => ?_) ?_
        · go_simp
          go_at_call 14; refine (CT _).mono ?_; rintro e w5 ⟨rfl, hb5⟩; (try replace hb5 := below_undrG hb5); replace R3 := R3.below hb5; replace R4 := R4.below hb5; (try replace R7 := R7.below hb5); (try replace R8 := R8.below hb5); replace hB := hB.trans (hb5.mono hB.size)
          go_wp2_with fail
          refine hK.out _ _ ⟨R3, R4⟩ (fun _ => ?_)
          clear hK K
          try simp only [Act.put, List.getElem_toArray, List.getElem_cons_succ, List.getElem_cons_zero, List.setIfInBounds_toArray, List.set_cons_zero, List.set_cons_succ]
          refine wpAnyH_ready (rs := [10]) (by kernel_rfl) (by simp) ?_
          refine AllReadyH.cons rfl (fun K hK => ?_) ?_
          · rw [if_pos (by kernel_rfl)]
            refine wp_storeR 31 (.tmp 7) (.tmp 16) rfl b7 rfl (fc { a0 with pr := 17, du := a2 % 1073741824 + 20 }) rfl _ R7 rfl (fc_info _) (fc_one _) ?_; intro w17 R7 t7; (try replace t7 := turned_undrG t7); replace R3 := t7.row R3 n37; replace R4 := t7.row R4 n47; replace R8 := t7.row R8 n78.symm; replace hB := t7.below _ _ l7 hB
            refine hK.out _ _ ⟨R3, R4⟩ (fun _ => ?_)
            clear hK K
            try simp only [Act.put, List.getElem_toArray, List.getElem_cons_succ, List.getElem_cons_zero, List.setIfInBounds_toArray, List.set_cons_zero, List.set_cons_succ]
            refine wpAnyH_ready (rs := [11]) (by kernel_rfl) (by simp) ?_
            refine AllReadyH.cons rfl (fun K hK => ?_) ?_
            · rw [if_pos (by kernel_rfl)]
              refine wp_storeR 31 (.tmp 8) (.tmp 20) rfl b8 rfl (fc { a0 with pr := 17 }) rfl _ R8 rfl (fc_info _) (fc_one _) ?_; intro w18 R8 t8; (try replace t8 := turned_undrG t8); replace R3 := t8.row R3 n38; replace R4 := t8.row R4 n48; replace R7 := t8.row R7 n78; replace hB := t8.below _ _ l8 hB
              refine hK.out _ _ ⟨R3, R4⟩ (fun _ => ?_)
              clear hK K
              try simp only [Act.put, List.getElem_toArray, List.getElem_cons_succ, List.getElem_cons_zero, List.setIfInBounds_toArray, List.set_cons_zero, List.set_cons_succ]
              refine wpAnyH_done (by kernel_rfl) ?_ _
              refine NoPanic.normal ?_
              have c79 : World.cell? _ ⟨b7, 9, none⟩ = some (.int .i64 (a2 % 1073741824 + 20)) := (R7.cell 9).trans rfl; have c77 : World.cell? _ ⟨b7, 7, none⟩ = some (.int .i64 a0.st) := (R7.cell 7).trans rfl; have c37 : World.cell? _ ⟨b3, 7, none⟩ = some (.int .i64 a0.st) := (R3.cell 7).trans rfl
              go_wp2_with (first | (with_reducible refine at_op (.binOp .eql 3 (.tmp 24) (.const (.int .i64 20)) 3) rfl ?_; refine wpList_eqI _ _ _ rfl rfl _ _ rfl rfl true (by first | exact dT | (rw [dS]; rfl)) ?_; (try dsimp only [Act.put, List.getElem_toArray, List.getElem_cons_succ, List.getElem_cons_zero, List.setIfInBounds_toArray, List.set_cons_zero, List.set_cons_succ])) | (with_reducible refine at_op (.load 31 (.tmp 8)) rfl ?_; refine wpList_loadR 31 (.tmp 8) rfl ?_ b8 rfl (fc { a0 with pr := 17 }) R8 _ Try.underlying31 rfl (fc_info _) ?_; · kernel_rfl; (try dsimp only [Act.put, List.getElem_toArray, List.getElem_cons_succ, List.getElem_cons_zero, List.setIfInBounds_toArray, List.set_cons_zero, List.set_cons_succ])) | (with_reducible refine at_op (.load 31 (.tmp 3)) rfl ?_; refine wpList_loadR 31 (.tmp 3) rfl ?_ b3 rfl (fc { a0 with pr := 17 }) R3 _ Try.underlying31 rfl (fc_info _) ?_; · kernel_rfl; (try dsimp only [Act.put, List.getElem_toArray, List.getElem_cons_succ, List.getElem_cons_zero, List.setIfInBounds_toArray, List.set_cons_zero, List.set_cons_succ])) | (with_reducible refine at_op (.binOp .eql 31 (.tmp 27) (.tmp 28) 31) rfl ?_; refine wpList_eqS 31 (.tmp 27) (.tmp 28) rfl ?_ (fc { a0 with pr := 17 }) (fc { a0 with pr := 17 }) rfl rfl Try.eqGuardType31 _ true (eq_flow _ _) rfl ?_; · kernel_rfl; (try dsimp only [Act.put, List.getElem_toArray, List.getElem_cons_succ, List.getElem_cons_zero, List.setIfInBounds_toArray, List.set_cons_zero, List.set_cons_succ])) | (go_at_call 11; go_fit (tracksKeep_any _); rintro e w9 ⟨rfl, hb9⟩; replace hB := hB.trans (hb9.mono hB.size)))
              go_ret
              exact ⟨rfl, hB⟩
            exact AllReadyH.nil
          exact AllReadyH.nil
        exact AllReadyH.nil
      exact AllReadyH.nil
    refine AllReadyH.cons rfl (fun K hK => ?_) ?_
    · rw [if_pos (by kernel_rfl)]
      refine wp_allocR 31 rfl _ flow_zero ?_; intro b8 w8 l8 R8 hb8; (try replace hb8 := below_undrG hb8); have n38 := R3.ne l8; have n48 := R4.ne l8; (try (have n78 : b7 ≠ b8 := (by first | exact R7.ne l8 | exact (R7.ne l8).symm))); replace l8 := Nat.le_trans hB.size l8; replace R3 := R3.below hb8; replace R4 := R4.below hb8; (try replace R7 := R7.below hb8); replace hB := hB.trans (hb8.mono hB.size)
      refine hK.out _ _ ⟨R3, R4⟩ (fun _ => ?_)
      clear hK K
      try simp only [Act.put, List.getElem_toArray, List.getElem_cons_succ, List.getElem_cons_zero, List.setIfInBounds_toArray, List.set_cons_zero, List.set_cons_succ]
      refine wpAnyH_ready (rs := [3]) (by kernel_rfl) (by simp) ?_
      refine AllReadyH.cons rfl (fun K hK => ?_) ?_
      · go_simp
        go_at_call 14; refine (CF _).mono ?_; rintro e w5 ⟨rfl, hb5⟩; (try replace hb5 := below_undrG hb5); replace R3 := R3.below hb5; replace R4 := R4.below hb5; (try replace R7 := R7.below hb5); (try replace R8 := R8.below hb5); replace hB := hB.trans (hb5.mono hB.size)
        go_wp2_with fail
        refine hK.out _ _ ⟨R3, R4⟩ (fun _ => ?_)
        clear hK K
        try simp only [Act.put, List.getElem_toArray, List.getElem_cons_succ, List.getElem_cons_zero, List.setIfInBounds_toArray, List.set_cons_zero, List.set_cons_succ]
        refine wpAnyH_ready (rs := [7]) (by kernel_rfl) (by simp) ?_
        refine AllReadyH.cons rfl (fun K hK => ?_) ?_
        · go_simp
          go_at_call 14; refine (CT _).mono ?_; rintro e w5 ⟨rfl, hb5⟩; (try replace hb5 := below_undrG hb5); replace R3 := R3.below hb5; replace R4 := R4.below hb5; (try replace R7 := R7.below hb5); (try replace R8 := R8.below hb5); replace hB := hB.trans (hb5.mono hB.size)
          go_wp2_with fail
          refine hK.out _ _ ⟨R3, R4⟩ (fun _ => ?_)
          clear hK K
          try simp only [Act.put, List.getElem_toArray, List.getElem_cons_succ, List.getElem_cons_zero, List.setIfInBounds_toArray, List.set_cons_zero, List.set_cons_succ]
          refine wpAnyH_ready (rs := [10]) (by kernel_rfl) (by simp) ?_
          refine AllReadyH.cons rfl (fun K hK => ?_) ?_
          · rw [if_pos (by kernel_rfl)]
            refine wp_storeR 31 (.tmp 7) (.tmp 16) rfl b7 rfl (fc { a0 with pr := 17, du := a2 % 1073741824 + 20 }) rfl _ R7 rfl (fc_info _) (fc_one _) ?_; intro w17 R7 t7; (try replace t7 := turned_undrG t7); replace R3 := t7.row R3 n37; replace R4 := t7.row R4 n47; replace R8 := t7.row R8 n78.symm; replace hB := t7.below _ _ l7 hB
            refine hK.out _ _ ⟨R3, R4⟩ (fun _ => ?_)
            clear hK K
            try simp only [Act.put, List.getElem_toArray, List.getElem_cons_succ, List.getElem_cons_zero, List.setIfInBounds_toArray, List.set_cons_zero, List.set_cons_succ]
            refine wpAnyH_ready (rs := [11]) (by kernel_rfl) (by simp) ?_
            refine AllReadyH.cons rfl (fun K hK => ?_) ?_
            · rw [if_pos (by kernel_rfl)]
              refine wp_storeR 31 (.tmp 8) (.tmp 20) rfl b8 rfl (fc { a0 with pr := 17 }) rfl _ R8 rfl (fc_info _) (fc_one _) ?_; intro w18 R8 t8; (try replace t8 := turned_undrG t8); replace R3 := t8.row R3 n38; replace R4 := t8.row R4 n48; replace R7 := t8.row R7 n78; replace hB := t8.below _ _ l8 hB
              refine hK.out _ _ ⟨R3, R4⟩ (fun _ => ?_)
              clear hK K
              try simp only [Act.put, List.getElem_toArray, List.getElem_cons_succ, List.getElem_cons_zero, List.setIfInBounds_toArray, List.set_cons_zero, List.set_cons_succ]
              refine wpAnyH_done (by kernel_rfl) ?_ _
              refine NoPanic.normal ?_
              have c79 : World.cell? _ ⟨b7, 9, none⟩ = some (.int .i64 (a2 % 1073741824 + 20)) := (R7.cell 9).trans rfl; have c77 : World.cell? _ ⟨b7, 7, none⟩ = some (.int .i64 a0.st) := (R7.cell 7).trans rfl; have c37 : World.cell? _ ⟨b3, 7, none⟩ = some (.int .i64 a0.st) := (R3.cell 7).trans rfl
              go_wp2_with (first | (with_reducible refine at_op (.binOp .eql 3 (.tmp 24) (.const (.int .i64 20)) 3) rfl ?_; refine wpList_eqI _ _ _ rfl rfl _ _ rfl rfl true (by first | exact dT | (rw [dS]; rfl)) ?_; (try dsimp only [Act.put, List.getElem_toArray, List.getElem_cons_succ, List.getElem_cons_zero, List.setIfInBounds_toArray, List.set_cons_zero, List.set_cons_succ])) | (with_reducible refine at_op (.load 31 (.tmp 8)) rfl ?_; refine wpList_loadR 31 (.tmp 8) rfl ?_ b8 rfl (fc { a0 with pr := 17 }) R8 _ Try.underlying31 rfl (fc_info _) ?_; · kernel_rfl; (try dsimp only [Act.put, List.getElem_toArray, List.getElem_cons_succ, List.getElem_cons_zero, List.setIfInBounds_toArray, List.set_cons_zero, List.set_cons_succ])) | (with_reducible refine at_op (.load 31 (.tmp 3)) rfl ?_; refine wpList_loadR 31 (.tmp 3) rfl ?_ b3 rfl (fc { a0 with pr := 17 }) R3 _ Try.underlying31 rfl (fc_info _) ?_; · kernel_rfl; (try dsimp only [Act.put, List.getElem_toArray, List.getElem_cons_succ, List.getElem_cons_zero, List.setIfInBounds_toArray, List.set_cons_zero, List.set_cons_succ])) | (with_reducible refine at_op (.binOp .eql 31 (.tmp 27) (.tmp 28) 31) rfl ?_; refine wpList_eqS 31 (.tmp 27) (.tmp 28) rfl ?_ (fc { a0 with pr := 17 }) (fc { a0 with pr := 17 }) rfl rfl Try.eqGuardType31 _ true (eq_flow _ _) rfl ?_; · kernel_rfl; (try dsimp only [Act.put, List.getElem_toArray, List.getElem_cons_succ, List.getElem_cons_zero, List.setIfInBounds_toArray, List.set_cons_zero, List.set_cons_succ])) | (go_at_call 11; go_fit (tracksKeep_any _); rintro e w9 ⟨rfl, hb9⟩; replace hB := hB.trans (hb9.mono hB.size)))
              go_ret
              exact ⟨rfl, hB⟩
            exact AllReadyH.nil
          exact AllReadyH.nil
        exact AllReadyH.nil
      exact AllReadyH.nil
    exact AllReadyH.nil
  refine AllReadyH.cons rfl (fun K hK => ?_) ?_
  · rw [if_pos (by kernel_rfl)]
    refine wp_allocR 31 rfl _ flow_zero ?_; intro b8 w8 l8 R8 hb8; (try replace hb8 := below_undrG hb8); have n38 := R3.ne l8; have n48 := R4.ne l8; (try (have n78 : b7 ≠ b8 := (by first | exact R7.ne l8 | exact (R7.ne l8).symm))); replace l8 := Nat.le_trans hB.size l8; replace R3 := R3.below hb8; replace R4 := R4.below hb8; (try replace R7 := R7.below hb8); replace hB := hB.trans (hb8.mono hB.size)
    refine hK.out _ _ ⟨R3, R4⟩ (fun _ => ?_)
    clear hK K
    try simp only [Act.put, List.getElem_toArray, List.getElem_cons_succ, List.getElem_cons_zero, List.setIfInBounds_toArray, List.set_cons_zero, List.set_cons_succ]
    refine wpAnyH_ready (rs := [3, 8]) (by kernel_rfl) (by simp) ?_
    refine AllReadyH.cons rfl (fun K hK => ?_) ?_
    · go_simp
      go_at_call 14; refine (CF _).mono ?_; rintro e w5 ⟨rfl, hb5⟩; (try replace hb5 := below_undrG hb5); replace R3 := R3.below hb5; replace R4 := R4.below hb5; (try replace R7 := R7.below hb5); (try replace R8 := R8.below hb5); replace hB := hB.trans (hb5.mono hB.size)
      go_wp2_with fail
      refine hK.out _ _ ⟨R3, R4⟩ (fun _ => ?_)
      clear hK K
      try simp only [Act.put, List.getElem_toArray, List.getElem_cons_succ, List.getElem_cons_zero, List.setIfInBounds_toArray, List.set_cons_zero, List.set_cons_succ]
      refine wpAnyH_ready (rs := [7, 8]) (by kernel_rfl) (by simp) ?_
      refine AllReadyH.cons rfl (fun K hK => ?_) ?_
      · go_simp
        go_at_call 14; refine (CT _).mono ?_; rintro e w5 ⟨rfl, hb5⟩; (try replace hb5 := below_undrG hb5); replace R3 := R3.below hb5; replace R4 := R4.below hb5; (try replace R7 := R7.below hb5); (try replace R8 := R8.below hb5); replace hB := hB.trans (hb5.mono hB.size)
        go_wp2_with fail
        refine hK.out _ _ ⟨R3, R4⟩ (fun _ => ?_)
        clear hK K
        try simp only [Act.put, List.getElem_toArray, List.getElem_cons_succ, List.getElem_cons_zero, List.setIfInBounds_toArray, List.set_cons_zero, List.set_cons_succ]
        refine wpAnyH_ready (rs := [8]) (by kernel_rfl) (by simp) ?_
        refine AllReadyH.cons rfl (fun K hK => ?_) ?_
        · rw [if_pos (by kernel_rfl)]
          refine wp_allocR 31 rfl _ flow_zero ?_; intro b7 w7 l7 R7 hb7; (try replace hb7 := below_undrG hb7); have n37 := R3.ne l7; have n47 := R4.ne l7; (try (have n78 : b7 ≠ b8 := (by first | exact R8.ne l7 | exact (R8.ne l7).symm))); replace l7 := Nat.le_trans hB.size l7; replace R3 := R3.below hb7; replace R4 := R4.below hb7; (try replace R8 := R8.below hb7); replace hB := hB.trans (hb7.mono hB.size)
          refine hK.out _ _ ⟨R3, R4⟩ (fun _ => ?_)
          clear hK K
          try simp only [Act.put, List.getElem_toArray, List.getElem_cons_succ, List.getElem_cons_zero, List.setIfInBounds_toArray, List.set_cons_zero, List.set_cons_succ]
          refine wpAnyH_ready (rs := [10]) (by kernel_rfl) (by simp) ?_
          refine AllReadyH.cons rfl (fun K hK => ?_) ?_
          · rw [if_pos (by kernel_rfl)]
            refine wp_storeR 31 (.tmp 7) (.tmp 16) rfl b7 rfl (fc { a0 with pr := 17, du := a2 % 1073741824 + 20 }) rfl _ R7 rfl (fc_info _) (fc_one _) ?_; intro w17 R7 t7; (try replace t7 := turned_undrG t7); replace R3 := t7.row R3 n37; replace R4 := t7.row R4 n47; replace R8 := t7.row R8 n78.symm; replace hB := t7.below _ _ l7 hB
            refine hK.out _ _ ⟨R3, R4⟩ (fun _ => ?_)
            clear hK K
            try simp only [Act.put, List.getElem_toArray, List.getElem_cons_succ, List.getElem_cons_zero, List.setIfInBounds_toArray, List.set_cons_zero, List.set_cons_succ]
            refine wpAnyH_ready (rs := [11]) (by kernel_rfl) (by simp) ?_
            refine AllReadyH.cons rfl (fun K hK => ?_) ?_
            · rw [if_pos (by kernel_rfl)]
              refine wp_storeR 31 (.tmp 8) (.tmp 20) rfl b8 rfl (fc { a0 with pr := 17 }) rfl _ R8 rfl (fc_info _) (fc_one _) ?_; intro w18 R8 t8; (try replace t8 := turned_undrG t8); replace R3 := t8.row R3 n38; replace R4 := t8.row R4 n48; replace R7 := t8.row R7 n78; replace hB := t8.below _ _ l8 hB
              refine hK.out _ _ ⟨R3, R4⟩ (fun _ => ?_)
              clear hK K
              try simp only [Act.put, List.getElem_toArray, List.getElem_cons_succ, List.getElem_cons_zero, List.setIfInBounds_toArray, List.set_cons_zero, List.set_cons_succ]
              refine wpAnyH_done (by kernel_rfl) ?_ _
              refine NoPanic.normal ?_
              have c79 : World.cell? _ ⟨b7, 9, none⟩ = some (.int .i64 (a2 % 1073741824 + 20)) := (R7.cell 9).trans rfl; have c77 : World.cell? _ ⟨b7, 7, none⟩ = some (.int .i64 a0.st) := (R7.cell 7).trans rfl; have c37 : World.cell? _ ⟨b3, 7, none⟩ = some (.int .i64 a0.st) := (R3.cell 7).trans rfl
              go_wp2_with (first | (with_reducible refine at_op (.binOp .eql 3 (.tmp 24) (.const (.int .i64 20)) 3) rfl ?_; refine wpList_eqI _ _ _ rfl rfl _ _ rfl rfl true (by first | exact dT | (rw [dS]; rfl)) ?_; (try dsimp only [Act.put, List.getElem_toArray, List.getElem_cons_succ, List.getElem_cons_zero, List.setIfInBounds_toArray, List.set_cons_zero, List.set_cons_succ])) | (with_reducible refine at_op (.load 31 (.tmp 8)) rfl ?_; refine wpList_loadR 31 (.tmp 8) rfl ?_ b8 rfl (fc { a0 with pr := 17 }) R8 _ Try.underlying31 rfl (fc_info _) ?_; · kernel_rfl; (try dsimp only [Act.put, List.getElem_toArray, List.getElem_cons_succ, List.getElem_cons_zero, List.setIfInBounds_toArray, List.set_cons_zero, List.set_cons_succ])) | (with_reducible refine at_op (.load 31 (.tmp 3)) rfl ?_; refine wpList_loadR 31 (.tmp 3) rfl ?_ b3 rfl (fc { a0 with pr := 17 }) R3 _ Try.underlying31 rfl (fc_info _) ?_; · kernel_rfl; (try dsimp only [Act.put, List.getElem_toArray, List.getElem_cons_succ, List.getElem_cons_zero, List.setIfInBounds_toArray, List.set_cons_zero, List.set_cons_succ])) | (with_reducible refine at_op (.binOp .eql 31 (.tmp 27) (.tmp 28) 31) rfl ?_; refine wpList_eqS 31 (.tmp 27) (.tmp 28) rfl ?_ (fc { a0 with pr := 17 }) (fc { a0 with pr := 17 }) rfl rfl Try.eqGuardType31 _ true (eq_flow _ _) rfl ?_; · kernel_rfl; (try dsimp only [Act.put, List.getElem_toArray, List.getElem_cons_succ, List.getElem_cons_zero, List.setIfInBounds_toArray, List.set_cons_zero, List.set_cons_succ])) | (go_at_call 11; go_fit (tracksKeep_any _); rintro e w9 ⟨rfl, hb9⟩; replace hB := hB.trans (hb9.mono hB.size)))
              go_ret
              exact ⟨rfl, hB⟩
            exact AllReadyH.nil
          exact AllReadyH.nil
        exact AllReadyH.nil
      refine AllReadyH.cons rfl (fun K hK => ?_) ?_
      · rw [if_pos (by kernel_rfl)]
        refine wp_allocR 31 rfl _ flow_zero ?_; intro b7 w7 l7 R7 hb7; (try replace hb7 := below_undrG hb7); have n37 := R3.ne l7; have n47 := R4.ne l7; (try (have n78 : b7 ≠ b8 := (by first | exact R8.ne l7 | exact (R8.ne l7).symm))); replace l7 := Nat.le_trans hB.size l7; replace R3 := R3.below hb7; replace R4 := R4.below hb7; (try replace R8 := R8.below hb7); replace hB := hB.trans (hb7.mono hB.size)
        refine hK.out _ _ ⟨R3, R4⟩ (fun _ => ?_)
        clear hK K
        try simp only [Act.put, List.getElem_toArray, List.getElem_cons_succ, List.getElem_cons_zero, List.setIfInBounds_toArray, List.set_cons_zero, List.set_cons_succ]
        refine wpAnyH_ready (rs := [7]) (by kernel_rfl) (by simp) ?_
        refine AllReadyH.cons rfl (fun K hK => ?_) ?_
        · go_simp
          go_at_call 14; refine (CT _).mono ?_; rintro e w5 ⟨rfl, hb5⟩; (try replace hb5 := below_undrG hb5); replace R3 := R3.below hb5; replace R4 := R4.below hb5; (try replace R7 := R7.below hb5); (try replace R8 := R8.below hb5); replace hB := hB.trans (hb5.mono hB.size)
          go_wp2_with fail
          refine hK.out _ _ ⟨R3, R4⟩ (fun _ => ?_)
          clear hK K
          try simp only [Act.put, List.getElem_toArray, List.getElem_cons_succ, List.getElem_cons_zero, List.setIfInBounds_toArray, List.set_cons_zero, List.set_cons_succ]
          refine wpAnyH_ready (rs := [10]) (by kernel_rfl) (by simp) ?_
          refine AllReadyH.cons rfl (fun K hK => ?_) ?_
          · rw [if_pos (by kernel_rfl)]
            refine wp_storeR 31 (.tmp 7) (.tmp 16) rfl b7 rfl (fc { a0 with pr := 17, du := a2 % 1073741824 + 20 }) rfl _ R7 rfl (fc_info _) (fc_one _) ?_; intro w17 R7 t7; (try replace t7 := turned_undrG t7); replace R3 := t7.row R3 n37; replace R4 := t7.row R4 n47; replace R8 := t7.row R8 n78.symm; replace hB := t7.below _ _ l7 hB
            refine hK.out _ _ ⟨R3, R4⟩ (fun _ => ?_)
            clear hK K
            try simp only [Act.put, List.getElem_toArray, List.getElem_cons_succ, List.getElem_cons_zero, List.setIfInBounds_toArray, List.set_cons_zero, List.set_cons_succ]
            refine wpAnyH_ready (rs := [11]) (by kernel_rfl) (by simp) ?_
            refine AllReadyH.cons rfl (fun K hK => ?_) ?_
            · rw [if_pos (by kernel_rfl)]
              refine wp_storeR 31 (.tmp 8) (.tmp 20) rfl b8 rfl (fc { a0 with pr := 17 }) rfl _ R8 rfl (fc_info _) (fc_one _) ?_; intro w18 R8 t8; (try replace t8 := turned_undrG t8); replace R3 := t8.row R3 n38; replace R4 := t8.row R4 n48; replace R7 := t8.row R7 n78; replace hB := t8.below _ _ l8 hB
              refine hK.out _ _ ⟨R3, R4⟩ (fun _ => ?_)
              clear hK K
              try simp only [Act.put, List.getElem_toArray, List.getElem_cons_succ, List.getElem_cons_zero, List.setIfInBounds_toArray, List.set_cons_zero, List.set_cons_succ]
              refine wpAnyH_done (by kernel_rfl) ?_ _
              refine NoPanic.normal ?_
              have c79 : World.cell? _ ⟨b7, 9, none⟩ = some (.int .i64 (a2 % 1073741824 + 20)) := (R7.cell 9).trans rfl; have c77 : World.cell? _ ⟨b7, 7, none⟩ = some (.int .i64 a0.st) := (R7.cell 7).trans rfl; have c37 : World.cell? _ ⟨b3, 7, none⟩ = some (.int .i64 a0.st) := (R3.cell 7).trans rfl
              go_wp2_with (first | (with_reducible refine at_op (.binOp .eql 3 (.tmp 24) (.const (.int .i64 20)) 3) rfl ?_; refine wpList_eqI _ _ _ rfl rfl _ _ rfl rfl true (by first | exact dT | (rw [dS]; rfl)) ?_; (try dsimp only [Act.put, List.getElem_toArray, List.getElem_cons_succ, List.getElem_cons_zero, List.setIfInBounds_toArray, List.set_cons_zero, List.set_cons_succ])) | (with_reducible refine at_op (.load 31 (.tmp 8)) rfl ?_; refine wpList_loadR 31 (.tmp 8) rfl ?_ b8 rfl (fc { a0 with pr := 17 }) R8 _ Try.underlying31 rfl (fc_info _) ?_; · kernel_rfl; (try dsimp only [Act.put, List.getElem_toArray, List.getElem_cons_succ, List.getElem_cons_zero, List.setIfInBounds_toArray, List.set_cons_zero, List.set_cons_succ])) | (with_reducible refine at_op (.load 31 (.tmp 3)) rfl ?_; refine wpList_loadR 31 (.tmp 3) rfl ?_ b3 rfl (fc { a0 with pr := 17 }) R3 _ Try.underlying31 rfl (fc_info _) ?_; · kernel_rfl; (try dsimp only [Act.put, List.getElem_toArray, List.getElem_cons_succ, List.getElem_cons_zero, List.setIfInBounds_toArray, List.set_cons_zero, List.set_cons_succ])) | (with_reducible refine at_op (.binOp .eql 31 (.tmp 27) (.tmp 28) 31) rfl ?_; refine wpList_eqS 31 (.tmp 27) (.tmp 28) rfl ?_ (fc { a0 with pr := 17 }) (fc { a0 with pr := 17 }) rfl rfl Try.eqGuardType31 _ true (eq_flow _ _) rfl ?_; · kernel_rfl; (try dsimp only [Act.put, List.getElem_toArray, List.getElem_cons_succ, List.getElem_cons_zero, List.setIfInBounds_toArray, List.set_cons_zero, List.set_cons_succ])) | (go_at_call 11; go_fit (tracksKeep_any _); rintro e w9 ⟨rfl, hb9⟩; replace hB := hB.trans (hb9.mono hB.size)))
              go_ret
              exact ⟨rfl, hB⟩
            exact AllReadyH.nil
          exact AllReadyH.nil
        exact AllReadyH.nil
      exact AllReadyH.nil
    refine AllReadyH.cons rfl (fun K hK => ?_) ?_
    · rw [if_pos (by kernel_rfl)]
      refine wp_allocR 31 rfl _ flow_zero ?_; intro b7 w7 l7 R7 hb7; (try replace hb7 := below_undrG hb7); have n37 := R3.ne l7; have n47 := R4.ne l7; (try (have n78 : b7 ≠ b8 := (by first | exact R8.ne l7 | exact (R8.ne l7).symm))); replace l7 := Nat.le_trans hB.size l7; replace R3 := R3.below hb7; replace R4 := R4.below hb7; (try replace R8 := R8.below hb7); replace hB := hB.trans (hb7.mono hB.size)
      refine hK.out _ _ ⟨R3, R4⟩ (fun _ => ?_)
      clear hK K
      try simp only [Act.put, List.getElem_toArray, List.getElem_cons_succ, List.getElem_cons_zero, List.setIfInBounds_toArray, List.set_cons_zero, List.set_cons_succ]
      refine wpAnyH_ready (rs := [3]) (by kernel_rfl) (by simp) ?_
      refine AllReadyH.cons rfl (fun K hK => ?_) ?_
      · go_simp
        go_at_call 14; refine (CF _).mono ?_; rintro e w5 ⟨rfl, hb5⟩; (try replace hb5 := below_undrG hb5); replace R3 := R3.below hb5; replace R4 := R4.below hb5; (try replace R7 := R7.below hb5); (try replace R8 := R8.below hb5); replace hB := hB.trans (hb5.mono hB.size)
        go_wp2_with fail
        refine hK.out _ _ ⟨R3, R4⟩ (fun _ => ?_)
        clear hK K
        try simp only [Act.put, List.getElem_toArray, List.getElem_cons_succ, List.getElem_cons_zero, List.setIfInBounds_toArray, List.set_cons_zero, List.set_cons_succ]
        refine wpAnyH_ready (rs := [7]) (by kernel_rfl) (by simp) ?_
        refine AllReadyH.cons rfl (fun K hK => ?_) ?_
        · go_simp
          go_at_call 14; refine (CT _).mono ?_; rintro e w5 ⟨rfl, hb5⟩; (try replace hb5 := below_undrG hb5); replace R3 := R3.below hb5; replace R4 := R4.below hb5; (try replace R7 := R7.below hb5); (try replace R8 := R8.below hb5); replace hB := hB.trans (hb5.mono hB.size)
          go_wp2_with fail
          refine hK.out _ _ ⟨R3, R4⟩ (fun _ => ?_)
          clear hK K
          try simp only [Act.put, List.getElem_toArray, List.getElem_cons_succ, List.getElem_cons_zero, List.setIfInBounds_toArray, List.set_cons_zero, List.set_cons_succ]
          refine wpAnyH_ready (rs := [10]) (by kernel_rfl) (by simp) ?_
          refine AllReadyH.cons rfl (fun K hK => ?_) ?_
          · rw [if_pos (by kernel_rfl)]
            refine wp_storeR 31 (.tmp 7) (.tmp 16) rfl b7 rfl (fc { a0 with pr := 17, du := a2 % 1073741824 + 20 }) rfl _ R7 rfl (fc_info _) (fc_one _) ?_; intro w17 R7 t7; (try replace t7 := turned_undrG t7); replace R3 := t7.row R3 n37; replace R4 := t7.row R4 n47; replace R8 := t7.row R8 n78.symm; replace hB := t7.below _ _ l7 hB
            refine hK.out _ _ ⟨R3, R4⟩ (fun _ => ?_)
            clear hK K
            try simp only [Act.put, List.getElem_toArray, List.getElem_cons_succ, List.getElem_cons_zero, List.setIfInBounds_toArray, List.set_cons_zero, List.set_cons_succ]
            refine wpAnyH_ready (rs := [11]) (by kernel_rfl) (by simp) ?_
            refine AllReadyH.cons rfl (fun K hK => ?_) ?_
            · rw [if_pos (by kernel_rfl)]
              refine wp_storeR 31 (.tmp 8) (.tmp 20) rfl b8 rfl (fc { a0 with pr := 17 }) rfl _ R8 rfl (fc_info _) (fc_one _) ?_; intro w18 R8 t8; (try replace t8 := turned_undrG t8); replace R3 := t8.row R3 n38; replace R4 := t8.row R4 n48; replace R7 := t8.row R7 n78; replace hB := t8.below _ _ l8 hB
              refine hK.out _ _ ⟨R3, R4⟩ (fun _ => ?_)
              clear hK K
              try simp only [Act.put, List.getElem_toArray, List.getElem_cons_succ, List.getElem_cons_zero, List.setIfInBounds_toArray, List.set_cons_zero, List.set_cons_succ]
              refine wpAnyH_done (by kernel_rfl) ?_ _
              refine NoPanic.normal ?_
              have c79 : World.cell? _ ⟨b7, 9, none⟩ = some (.int .i64 (a2 % 1073741824 + 20)) := (R7.cell 9).trans rfl; have c77 : World.cell? _ ⟨b7, 7, none⟩ = some (.int .i64 a0.st) := (R7.cell 7).trans rfl; have c37 : World.cell? _ ⟨b3, 7, none⟩ = some (.int .i64 a0.st) := (R3.cell 7).trans rfl
              go_wp2_with (first | (with_reducible refine at_op (.binOp .eql 3 (.tmp 24) (.const (.int .i64 20)) 3) rfl ?_; refine wpList_eqI _ _ _ rfl rfl _ _ rfl rfl true (by first | exact dT | (rw [dS]; rfl)) ?_; (try dsimp only [Act.put, List.getElem_toArray, List.getElem_cons_succ, List.getElem_cons_zero, List.setIfInBounds_toArray, List.set_cons_zero, List.set_cons_succ])) | (with_reducible refine at_op (.load 31 (.tmp 8)) rfl ?_; refine wpList_loadR 31 (.tmp 8) rfl ?_ b8 rfl (fc { a0 with pr := 17 }) R8 _ Try.underlying31 rfl (fc_info _) ?_; · kernel_rfl; (try dsimp only [Act.put, List.getElem_toArray, List.getElem_cons_succ, List.getElem_cons_zero, List.setIfInBounds_toArray, List.set_cons_zero, List.set_cons_succ])) | (with_reducible refine at_op (.load 31 (.tmp 3)) rfl ?_; refine wpList_loadR 31 (.tmp 3) rfl ?_ b3 rfl (fc { a0 with pr := 17 }) R3 _ Try.underlying31 rfl (fc_info _) ?_; · kernel_rfl; (try dsimp only [Act.put, List.getElem_toArray, List.getElem_cons_succ, List.getElem_cons_zero, List.setIfInBounds_toArray, List.set_cons_zero, List.set_cons_succ])) | (with_reducible refine at_op (.binOp .eql 31 (.tmp 27) (.tmp 28) 31) rfl ?_; refine wpList_eqS 31 (.tmp 27) (.tmp 28) rfl ?_ (fc { a0 with pr := 17 }) (fc { a0 with pr := 17 }) rfl rfl Try.eqGuardType31 _ true (eq_flow _ _) rfl ?_; · kernel_rfl; (try dsimp only [Act.put, List.getElem_toArray, List.getElem_cons_succ, List.getElem_cons_zero, List.setIfInBounds_toArray, List.set_cons_zero, List.set_cons_succ])) | (go_at_call 11; go_fit (tracksKeep_any _); rintro e w9 ⟨rfl, hb9⟩; replace hB := hB.trans (hb9.mono hB.size)))
              go_ret
              exact ⟨rfl, hB⟩
            exact AllReadyH.nil
          exact AllReadyH.nil
        exact AllReadyH.nil
      exact AllReadyH.nil
    exact AllReadyH.nil
  exact AllReadyH.nil

set_option maxRecDepth 100000 in
theorem lifted (os : Os) (started : os.Started) (H : Type) (enc : TypeId × Value → H) :
    ReturnsInHanded {} Try.checked os 5 .any (Rows.trackKeepsSpec.pre6 enc Try.prog Try.f5 Rows.trackKeepsRow.domain false) (Rows.trackKeepsSpec.post enc Try.prog Try.f5 false true false false) := by
  refine returnsInHanded_of_change_sized (C := Try.checked) own started (by kernel_rfl) Try.func5
    (ChangeSpec.witness6 (enc := enc) (C := Try.checked) false ⟨#[], #[.agg #[.int .i64 0, .int .i64 0, .int .i64 0, .int .i64 0, .int .i64 0, .int .i64 0, .int .i64 0, .int .i64 0, .int .i64 0, .int .i64 0], .agg #[.int .i64 0, .int .i64 0, .int .i64 0, .int .i64 0, .int .i64 0, .int .i64 0, .int .i64 0, .int .i64 0, .int .i64 0, .int .i64 0, .int .i64 0, .string ByteArray.empty], .int .i64 0], []⟩ 8 (by kernel_rfl) (by kernel_rfl) (by kernel_rfl) (by kernel_rfl)) ?_
  intro W base args ds gs before hval0 hW hcnd hsz0 _
  have hval : ∀ (j : Nat) t v, Try.f5.params[j]? = some t → args[j]? = some v → Value.okWide Try.prog W .any base t v := hval0
  have hW' := hW
  obtain ⟨p, q, hA0, hV, rfl, hfz, hnd⟩ := hW
  have hA : DataW.TrodAll enc Try.prog W 0 (fun _ => true) true Try.f5.params.toList args.toList ds p := hA0
  have hsz : (DataW.weightsEach Try.prog (Try.f5.params.toList ++ Rows.trackKeepsSpec.plain.varTypes Try.prog) (ds ++ gs)).all (· ≤ reachBytes) = true := hsz0
  rw [Try.params5] at hA hval hsz
  obtain ⟨v0, vs0, d0, ds0, p0, q0, hargs, rfl, rfl, h0, r0⟩ := trodAll_cons hA
  obtain ⟨v1, vs1, d1, ds1, p1, q1, rfl, rfl, rfl, h1, r1⟩ := trodAll_cons r0
  obtain ⟨v2, vs2, d2, ds2, p2, q2, rfl, rfl, rfl, h2, r2⟩ := trodAll_cons r1
  obtain ⟨rfl, rfl, rfl⟩ := trodAll_nil r2
  obtain rfl : args = #[v0, v1, v2] := by cases args; simp_all
  obtain ⟨rfl, rfl⟩ := trodVars_none hV
  obtain ⟨a0, rfl, rfl, rfl, w0⟩ := open_flow (hval 0 31 v0 rfl rfl) h0
  obtain ⟨a1, rfl, rfl, rfl, f1, m1⟩ := open_pkt (hval 1 23 v1 rfl rfl) h1
  obtain ⟨a2, rfl, rfl, rfl, w2⟩ := open_int Try.underlying3 (hval 2 3 v2 rfl rfl) h2
  have w1 : a1.body.size ≤ 140737488351232 := sized_pkt hsz (j := 1) rfl rfl
  clear hA0 hval0
  simp only [List.append_nil] at hW'
  refine (walk a0 a1 a2 w0 w1 w2 W).mono fun e W' ⟨he, bel⟩ => ?_
  subst he
  exact ⟨_, rfl, _, _, _, [], [], [], hW', trodAll_mk1 (shut_bool Try.underlying4 _), (trodAll_cons_mk (shut_flow w0) (trodAll_cons_mk (shut_pkt f1 m1) (trodAll_cons_mk (shut_int Try.underlying3 w2) trodAll_mk0))), rfl, bel.frame _, fun h => by cases h⟩

theorem over : Rows.trackKeepsRow.holds Try.pinned (OpenSpec.ofChange Rows.trackKeepsSpec) :=
  OpenClaim.holds_of_wide 5 Try.f5 rfl rfl rfl rfl rfl rfl rfl ⟨rfl, rfl, rfl, rfl, rfl⟩ rfl rfl rfl rfl rfl (by kernel_rfl) Try.func5 (by kernel_rfl)
    (of_decide_eq_true (by kernel_rfl)) (by unfold Func.isWrapper; first | (rw [if_pos (by decide +kernel)]; kernel_rfl) | (rw [if_neg (by decide +kernel)]; exact ⟨rfl, rfl⟩))
    (fun os started H enc _ => lifted os started H enc)

end Go.Proofs.Ythflhaanndnejaf.trackKeeps
namespace Go.Proofs.Ythflhaanndnejaf
theorem trackKeeps_holds : Rows.TrackKeepsSaid := trackKeeps.over
#print axioms trackKeeps_holds
end Go.Proofs.Ythflhaanndnejaf
