/-
  For every flow, packet, side and time, rentrolllaw.TrackNexts returns true: track.Next and track.Life answer what the document's own answers are; no condition but the form's own reach.
-/
import Derived.Test.YthflhaanndnejaeRows
import Derived.WalkKit
import Derived.ProofKit
import Derived.OpenShut
import Derived.ShutString
import Derived.SizedLaws
import Derived.Below
import Derived.Test.YthflhaanndnejaePktIn
import Derived.Test.YthflhaanndnejaeTrackF
import Derived.Test.YthflhaanndnejaeTrackG
import Derived.Test.YthflhaanndnejaeTrackJ
import Derived.Test.YthflhaanndnejaeTrackH
import Derived.Test.YthflhaanndnejaeTrackL
import Derived.Test.YthflhaanndnejaeYieldP
namespace Go.Proofs.Ythflhaanndnejae.trackNexts
open Go.ChangeShapes Go.WideShapes Go.ChangeAt Go.RowKit
open Go.ChangeMaps (open_string shut_string)
set_option linter.unusedVariables false
set_option linter.unusedSimpArgs false

theorem own : ownKnob Try.prog.godebug = none := by kernel_rfl

theorem nextRef_any (k : Fl) (p : Pkt) (inw : Bool) (now : Int) (h0 : 0 ≤ now) (h1 : now ≤ 1099511627776) (w : World) : Calls Try.prog 26 #[.agg (fc k), .agg (pcl p), .bool inw, .int .i64 now] w fun e w' => e = .returned (.agg (fc (nextF k p.flags inw now))) ∧ Below w.heap.size w w' := by
  cases inw
  · exact nextRef_false k p now h0 h1 w
  · exact nextRef_true k p now h0 h1 w
set_option maxRecDepth 10000 in
set_option maxHeartbeats 8000000 in
theorem walk (a0 : Fl) (a1 : Pkt) (a2 : Bool) (a3 : Int) (w0 : a0.wf) (w1 : a1.body.size ≤ 140737488351232) (w2 : a2 = a2) (w3 : (Lit.int .i64 a3).wf = true) (w : World) :
    Calls Try.prog 8 #[.agg (fc a0), pv a1, .bool a2, .int .i64 a3] w fun e w' => e = .returned (.bool true) ∧ Below w.heap.size w w' := by
  rw [pv_pcl]
  have hB := Below.refl w.heap.size w
  by_cases h0 : 0 ≤ a3
  · by_cases h1 : a3 ≤ 1099511627776
    · have d0 : ¬ a3 < 0 := by omega
      have d1 : ¬ 1099511627776 < a3 := by omega
      go_enter Try.func8, Try.ntmps8
      go_wp2_with (first | (with_reducible refine at_op (.box 55 (.tmp 0)) rfl ?_; refine wpList_boxR 55 rfl (.tmp 0) rfl (fc a0) rfl ?_; intro b4 w1 l4 R4 hb1; replace hB := hB.trans (hb1.mono hB.size)) | (with_reducible refine at_op (.box 57 (.tmp 1)) rfl ?_; refine wpList_boxR 57 rfl (.tmp 1) rfl (pcl a1) rfl ?_; intro b5 w1 l5 R5 hb1; replace R4 := R4.below hb1; replace hB := hB.trans (hb1.mono hB.size)))
      refine wp_region_noPanic ?_
      refine wp_region_held_drew (S := fun W => Row 55 W b4 (fc a0) ∧ Row 57 W b5 (pcl a1)) (by kernel_rfl) ⟨R4, R5⟩ (fun _ => ?_)
      refine wpAnyH_take (i := 0) (v := .agg (fc a0)) rfl (by kernel_rfl) (by kernel_rfl) (by kernel_rfl) (fun _ _ _ h => h) (yields_loadR 55 (.tmp 4) rfl (by kernel_rfl) b4 (by kernel_rfl) (fc a0) (fun _ h => h.1) _ Try.underlying55 rfl (fc_info _)) ⟨R4, R5⟩ ?_
      simp only [Act.put, List.getElem_toArray, List.getElem_cons_succ, List.getElem_cons_zero, List.setIfInBounds_toArray, List.set_cons_zero, List.set_cons_succ]
      refine wpAnyH_take (i := 1) (v := .agg (pcl a1)) rfl (by kernel_rfl) (by kernel_rfl) (by kernel_rfl) (fun _ _ _ h => h) (yields_loadR 57 (.tmp 5) rfl (by kernel_rfl) b5 (by kernel_rfl) (pcl a1) (fun _ h => h.2) _ Try.underlying57 rfl (pcl_info _)) ⟨R4, R5⟩ ?_
      simp only [Act.put, List.getElem_toArray, List.getElem_cons_succ, List.getElem_cons_zero, List.setIfInBounds_toArray, List.set_cons_zero, List.set_cons_succ]
      refine wpAnyH_take (i := 2) (v := .bool a2) rfl (by kernel_rfl) (by kernel_rfl) (by kernel_rfl) (fun _ _ _ h => h) (Or.inl ⟨by kernel_rfl, by intro w hS; go_simp⟩) ⟨R4, R5⟩ ?_
      simp only [Act.put, List.getElem_toArray, List.getElem_cons_succ, List.getElem_cons_zero, List.setIfInBounds_toArray, List.set_cons_zero, List.set_cons_succ]
      refine wpAnyH_take (i := 3) (v := .int .i64 a3) rfl (by kernel_rfl) (by kernel_rfl) (by kernel_rfl) (fun _ _ _ h => h) (Or.inl ⟨by kernel_rfl, by intro w hS; go_simp⟩) ⟨R4, R5⟩ ?_
      simp only [Act.put, List.getElem_toArray, List.getElem_cons_succ, List.getElem_cons_zero, List.setIfInBounds_toArray, List.set_cons_zero, List.set_cons_succ]
      refine wpAnyH_take (i := 5) (v := .agg (fc a0)) rfl (by kernel_rfl) (by kernel_rfl) (by kernel_rfl) (fun _ _ _ h => h) (yields_loadR 55 (.tmp 4) rfl (by kernel_rfl) b4 (by kernel_rfl) (fc a0) (fun _ h => h.1) _ Try.underlying55 rfl (fc_info _)) ⟨R4, R5⟩ ?_
      simp only [Act.put, List.getElem_toArray, List.getElem_cons_succ, List.getElem_cons_zero, List.setIfInBounds_toArray, List.set_cons_zero, List.set_cons_succ]
      refine wpAnyH_take (i := 6) (v := .agg (pcl a1)) rfl (by kernel_rfl) (by kernel_rfl) (by kernel_rfl) (fun _ _ _ h => h) (yields_loadR 57 (.tmp 5) rfl (by kernel_rfl) b5 (by kernel_rfl) (pcl a1) (fun _ h => h.2) _ Try.underlying57 rfl (pcl_info _)) ⟨R4, R5⟩ ?_
      simp only [Act.put, List.getElem_toArray, List.getElem_cons_succ, List.getElem_cons_zero, List.setIfInBounds_toArray, List.set_cons_zero, List.set_cons_succ]
      refine wpAnyH_take (i := 7) (v := .bool a2) rfl (by kernel_rfl) (by kernel_rfl) (by kernel_rfl) (fun _ _ _ h => h) (Or.inl ⟨by kernel_rfl, by intro w hS; go_simp⟩) ⟨R4, R5⟩ ?_
      simp only [Act.put, List.getElem_toArray, List.getElem_cons_succ, List.getElem_cons_zero, List.setIfInBounds_toArray, List.set_cons_zero, List.set_cons_succ]
      refine wpAnyH_take (i := 8) (v := .int .i64 a3) rfl (by kernel_rfl) (by kernel_rfl) (by kernel_rfl) (fun _ _ _ h => h) (Or.inl ⟨by kernel_rfl, by intro w hS; go_simp⟩) ⟨R4, R5⟩ ?_
      simp only [Act.put, List.getElem_toArray, List.getElem_cons_succ, List.getElem_cons_zero, List.setIfInBounds_toArray, List.set_cons_zero, List.set_cons_succ]
      refine wpAnyH_ready (rs := [4]) (by kernel_rfl) (by simp) ?_
      refine AllReadyH.cons rfl (fun K hK => ?_) ?_
      · go_simp
        go_at_call 25; refine (next_any a0 a1 a2 a3 h0 h1 _).mono ?_; rintro e w5 ⟨rfl, hb5⟩; (try replace hb5 := below_undrG hb5); replace R4 := R4.below hb5; replace R5 := R5.below hb5; replace hB := hB.trans (hb5.mono hB.size)
        go_wp2_with fail
        refine hK.out _ _ ⟨R4, R5⟩ (fun _ => ?_)
        clear hK K
        try simp only [Act.put, List.getElem_toArray, List.getElem_cons_succ, List.getElem_cons_zero, List.setIfInBounds_toArray, List.set_cons_zero, List.set_cons_succ]
        refine wpAnyH_ready (rs := [9]) (by kernel_rfl) (by simp) ?_
        refine AllReadyH.cons rfl (fun K hK => ?_) ?_
        · go_simp
          go_at_call 26; refine (nextRef_any a0 a1 a2 a3 h0 h1 _).mono ?_; rintro e w5 ⟨rfl, hb5⟩; (try replace hb5 := below_undrG hb5); replace R4 := R4.below hb5; replace R5 := R5.below hb5; replace hB := hB.trans (hb5.mono hB.size)
          go_wp2_with fail
          refine hK.out _ _ ⟨R4, R5⟩ (fun _ => ?_)
          clear hK K
          try simp only [Act.put, List.getElem_toArray, List.getElem_cons_succ, List.getElem_cons_zero, List.setIfInBounds_toArray, List.set_cons_zero, List.set_cons_succ]
          refine wpAnyH_take (i := 10) (v := .bool true) rfl (by kernel_rfl) (by kernel_rfl) (by kernel_rfl) (fun _ _ _ h => h) (yields_eqS 55 (.tmp 20) (.tmp 25) rfl (by kernel_rfl) (fc (nextF a0 a1.flags a2 a3)) (fc (nextF a0 a1.flags a2 a3)) (by kernel_rfl) (by kernel_rfl) Try.eqGuardType55 _ _ (fun w => eq_flow (nextF a0 a1.flags a2 a3) w) rfl) ⟨R4, R5⟩ ?_
          simp only [Act.put, List.getElem_toArray, List.getElem_cons_succ, List.getElem_cons_zero, List.setIfInBounds_toArray, List.set_cons_zero, List.set_cons_succ]
          refine wpAnyH_take (i := 11) (v := .bool true) rfl (by kernel_rfl) (by kernel_rfl) (by kernel_rfl) (fun _ _ _ h => h) (Or.inl ⟨by kernel_rfl, by intro w hS; go_simp⟩) ⟨R4, R5⟩ ?_
          simp only [Act.put, List.getElem_toArray, List.getElem_cons_succ, List.getElem_cons_zero, List.setIfInBounds_toArray, List.set_cons_zero, List.set_cons_succ]
          refine wpAnyH_take (i := 12) (v := .pointer (some ⟨b4, 0, none⟩)) rfl (by kernel_rfl) (by kernel_rfl) (by kernel_rfl) (fun _ _ _ h => h) (Or.inl ⟨by kernel_rfl, by intro w hS; go_simp⟩) ⟨R4, R5⟩ ?_
          simp only [Act.put, List.getElem_toArray, List.getElem_cons_succ, List.getElem_cons_zero, List.setIfInBounds_toArray, List.set_cons_zero, List.set_cons_succ]
          refine wpAnyH_take (i := 13) (v := .pointer (some ⟨b4, 0, none⟩)) rfl (by kernel_rfl) (by kernel_rfl) (by kernel_rfl) (fun _ _ _ h => h) (Or.inl ⟨by kernel_rfl, by intro w hS; go_simp⟩) ⟨R4, R5⟩ ?_
          simp only [Act.put, List.getElem_toArray, List.getElem_cons_succ, List.getElem_cons_zero, List.setIfInBounds_toArray, List.set_cons_zero, List.set_cons_succ]
          refine wpAnyH_take (i := 14) (v := .int .i64 a0.pr) rfl (by kernel_rfl) (by kernel_rfl) (by kernel_rfl) (fun _ _ _ h => h) (Or.inl ⟨by kernel_rfl, by intro w hS; have hc := (hS.1.cell 0).trans (show (fc a0)[0]? = some (.int .i64 a0.pr) from rfl); go_simp⟩) ⟨R4, R5⟩ ?_
          simp only [Act.put, List.getElem_toArray, List.getElem_cons_succ, List.getElem_cons_zero, List.setIfInBounds_toArray, List.set_cons_zero, List.set_cons_succ]
          refine wpAnyH_take (i := 15) (v := .pointer (some ⟨b4, 7, none⟩)) rfl (by kernel_rfl) (by kernel_rfl) (by kernel_rfl) (fun _ _ _ h => h) (Or.inl ⟨by kernel_rfl, by intro w hS; go_simp⟩) ⟨R4, R5⟩ ?_
          simp only [Act.put, List.getElem_toArray, List.getElem_cons_succ, List.getElem_cons_zero, List.setIfInBounds_toArray, List.set_cons_zero, List.set_cons_succ]
          refine wpAnyH_take (i := 16) (v := .int .i64 a0.st) rfl (by kernel_rfl) (by kernel_rfl) (by kernel_rfl) (fun _ _ _ h => h) (Or.inl ⟨by kernel_rfl, by intro w hS; have hc := (hS.1.cell 7).trans (show (fc a0)[7]? = some (.int .i64 a0.st) from rfl); go_simp⟩) ⟨R4, R5⟩ ?_
          simp only [Act.put, List.getElem_toArray, List.getElem_cons_succ, List.getElem_cons_zero, List.setIfInBounds_toArray, List.set_cons_zero, List.set_cons_succ]
          refine wpAnyH_take (i := 18) (v := .pointer (some ⟨b4, 0, none⟩)) rfl (by kernel_rfl) (by kernel_rfl) (by kernel_rfl) (fun _ _ _ h => h) (Or.inl ⟨by kernel_rfl, by intro w hS; go_simp⟩) ⟨R4, R5⟩ ?_
          simp only [Act.put, List.getElem_toArray, List.getElem_cons_succ, List.getElem_cons_zero, List.setIfInBounds_toArray, List.set_cons_zero, List.set_cons_succ]
          refine wpAnyH_take (i := 19) (v := .pointer (some ⟨b4, 0, none⟩)) rfl (by kernel_rfl) (by kernel_rfl) (by kernel_rfl) (fun _ _ _ h => h) (Or.inl ⟨by kernel_rfl, by intro w hS; go_simp⟩) ⟨R4, R5⟩ ?_
          simp only [Act.put, List.getElem_toArray, List.getElem_cons_succ, List.getElem_cons_zero, List.setIfInBounds_toArray, List.set_cons_zero, List.set_cons_succ]
          refine wpAnyH_take (i := 20) (v := .int .i64 a0.pr) rfl (by kernel_rfl) (by kernel_rfl) (by kernel_rfl) (fun _ _ _ h => h) (Or.inl ⟨by kernel_rfl, by intro w hS; have hc := (hS.1.cell 0).trans (show (fc a0)[0]? = some (.int .i64 a0.pr) from rfl); go_simp⟩) ⟨R4, R5⟩ ?_
          simp only [Act.put, List.getElem_toArray, List.getElem_cons_succ, List.getElem_cons_zero, List.setIfInBounds_toArray, List.set_cons_zero, List.set_cons_succ]
          refine wpAnyH_take (i := 21) (v := .pointer (some ⟨b4, 7, none⟩)) rfl (by kernel_rfl) (by kernel_rfl) (by kernel_rfl) (fun _ _ _ h => h) (Or.inl ⟨by kernel_rfl, by intro w hS; go_simp⟩) ⟨R4, R5⟩ ?_
          simp only [Act.put, List.getElem_toArray, List.getElem_cons_succ, List.getElem_cons_zero, List.setIfInBounds_toArray, List.set_cons_zero, List.set_cons_succ]
          refine wpAnyH_take (i := 22) (v := .int .i64 a0.st) rfl (by kernel_rfl) (by kernel_rfl) (by kernel_rfl) (fun _ _ _ h => h) (Or.inl ⟨by kernel_rfl, by intro w hS; have hc := (hS.1.cell 7).trans (show (fc a0)[7]? = some (.int .i64 a0.st) from rfl); go_simp⟩) ⟨R4, R5⟩ ?_
          simp only [Act.put, List.getElem_toArray, List.getElem_cons_succ, List.getElem_cons_zero, List.setIfInBounds_toArray, List.set_cons_zero, List.set_cons_succ]
          refine wpAnyH_ready (rs := [17]) (by kernel_rfl) (by simp) ?_
          refine AllReadyH.cons rfl (fun K hK => ?_) ?_
          · go_simp
            go_at_call 27; refine (life_any a0.pr a0.st _).mono ?_; rintro e w5 ⟨rfl, hw⟩; rw [hw]; clear hw w5
            go_wp2_with fail
            refine hK.out _ _ ⟨R4, R5⟩ (fun _ => ?_)
            clear hK K
            try simp only [Act.put, List.getElem_toArray, List.getElem_cons_succ, List.getElem_cons_zero, List.setIfInBounds_toArray, List.set_cons_zero, List.set_cons_succ]
            refine wpAnyH_ready (rs := [23]) (by kernel_rfl) (by simp) ?_
            refine AllReadyH.cons rfl (fun K hK => ?_) ?_
            · go_simp
              go_at_call 28; refine (lifeRef_any a0.pr a0.st _).mono ?_; rintro e w5 ⟨rfl, hw⟩; rw [hw]; clear hw w5
              go_wp2_with fail
              refine hK.out _ _ ⟨R4, R5⟩ (fun _ => ?_)
              clear hK K
              try simp only [Act.put, List.getElem_toArray, List.getElem_cons_succ, List.getElem_cons_zero, List.setIfInBounds_toArray, List.set_cons_zero, List.set_cons_succ]
              refine wpAnyH_take (i := 24) (v := .bool true) rfl (by kernel_rfl) (by kernel_rfl) (by kernel_rfl) (fun _ _ _ h => h) (yields_eqi 3 (.tmp 33) (.tmp 39) (lifeZ a0.pr a0.st) (lifeZ a0.pr a0.st) true rfl (by kernel_rfl) (by kernel_rfl) (by kernel_rfl) (by simp)) ⟨R4, R5⟩ ?_
              simp only [Act.put, List.getElem_toArray, List.getElem_cons_succ, List.getElem_cons_zero, List.setIfInBounds_toArray, List.set_cons_zero, List.set_cons_succ]
              refine wpAnyH_take (i := 25) (v := .bool true) rfl (by kernel_rfl) (by kernel_rfl) (by kernel_rfl) (fun _ _ _ h => h) (Or.inl ⟨by kernel_rfl, by intro w hS; go_simp⟩) ⟨R4, R5⟩ ?_
              simp only [Act.put, List.getElem_toArray, List.getElem_cons_succ, List.getElem_cons_zero, List.setIfInBounds_toArray, List.set_cons_zero, List.set_cons_succ]
              refine wpAnyH_take (i := 26) (v := .bool true) rfl (by kernel_rfl) (by kernel_rfl) (by kernel_rfl) (fun _ _ _ h => h) (Or.inl ⟨by kernel_rfl, by intro w hS; go_simp⟩) ⟨R4, R5⟩ ?_
              simp only [Act.put, List.getElem_toArray, List.getElem_cons_succ, List.getElem_cons_zero, List.setIfInBounds_toArray, List.set_cons_zero, List.set_cons_succ]
              refine wpAnyH_ready (rs := [27]) (by kernel_rfl) (by simp) ?_
              refine AllReadyH.cons rfl (fun K hK => ?_) ?_
              · go_simp
                go_at_call 24; refine (tracksLaw_any _).mono ?_; rintro e w5 ⟨rfl, hb5⟩; (try replace hb5 := below_undrG hb5); replace R4 := R4.below hb5; replace R5 := R5.below hb5; replace hB := hB.trans (hb5.mono hB.size)
                go_wp2_with fail
                refine hK.out _ _ ⟨R4, R5⟩ (fun _ => ?_)
                clear hK K
                try simp only [Act.put, List.getElem_toArray, List.getElem_cons_succ, List.getElem_cons_zero, List.setIfInBounds_toArray, List.set_cons_zero, List.set_cons_succ]
                refine wpAnyH_take (i := 28) (v := .bool true) rfl (by kernel_rfl) (by kernel_rfl) (by kernel_rfl) (fun _ _ _ h => h) (Or.inl ⟨by kernel_rfl, by intro w hS; go_simp⟩) ⟨R4, R5⟩ ?_
                simp only [Act.put, List.getElem_toArray, List.getElem_cons_succ, List.getElem_cons_zero, List.setIfInBounds_toArray, List.set_cons_zero, List.set_cons_succ]
                refine wpAnyH_take (i := 29) (v := .bool true) rfl (by kernel_rfl) (by kernel_rfl) (by kernel_rfl) (fun _ _ _ h => h) (Or.inl ⟨by kernel_rfl, by intro w hS; go_simp⟩) ⟨R4, R5⟩ ?_
                simp only [Act.put, List.getElem_toArray, List.getElem_cons_succ, List.getElem_cons_zero, List.setIfInBounds_toArray, List.set_cons_zero, List.set_cons_succ]
                refine wpAnyH_done (by kernel_rfl) ?_ _
                refine NoPanic.normal ?_
                go_wp2
                go_ret
                exact ⟨rfl, hB⟩
              exact AllReadyH.nil
            exact AllReadyH.nil
          exact AllReadyH.nil
        exact AllReadyH.nil
      exact AllReadyH.nil
    · have d0 : ¬ a3 < 0 := by omega
      have d1 : 1099511627776 < a3 := by omega
      clear h0 h1
      go_enter Try.func8, Try.ntmps8
      go_wp2_with (first | (with_reducible refine at_op (.box 55 (.tmp 0)) rfl ?_; refine wpList_boxR 55 rfl (.tmp 0) rfl (fc a0) rfl ?_; intro b4 w1 l4 R4 hb1; replace hB := hB.trans (hb1.mono hB.size)) | (with_reducible refine at_op (.box 57 (.tmp 1)) rfl ?_; refine wpList_boxR 57 rfl (.tmp 1) rfl (pcl a1) rfl ?_; intro b5 w1 l5 R5 hb1; replace R4 := R4.below hb1; replace hB := hB.trans (hb1.mono hB.size)) | (go_at_call 24; go_fit (tracksLaw_any _); rintro e w5 ⟨rfl, hb5⟩; replace hB := hB.trans (hb5.mono hB.size)))
      go_ret
      exact ⟨rfl, hB⟩
  · have d0 : a3 < 0 := by omega
    clear h0
    go_enter Try.func8, Try.ntmps8
    go_wp2_with (first | (with_reducible refine at_op (.box 55 (.tmp 0)) rfl ?_; refine wpList_boxR 55 rfl (.tmp 0) rfl (fc a0) rfl ?_; intro b4 w1 l4 R4 hb1; replace hB := hB.trans (hb1.mono hB.size)) | (with_reducible refine at_op (.box 57 (.tmp 1)) rfl ?_; refine wpList_boxR 57 rfl (.tmp 1) rfl (pcl a1) rfl ?_; intro b5 w1 l5 R5 hb1; replace R4 := R4.below hb1; replace hB := hB.trans (hb1.mono hB.size)) | (go_at_call 24; go_fit (tracksLaw_any _); rintro e w5 ⟨rfl, hb5⟩; replace hB := hB.trans (hb5.mono hB.size)))
    go_ret
    exact ⟨rfl, hB⟩

set_option maxRecDepth 100000 in
theorem lifted (os : Os) (started : os.Started) (H : Type) (enc : TypeId × Value → H) :
    ReturnsInHanded {} Try.checked os 8 .any (Rows.trackNextsSpec.pre6 enc Try.prog Try.f8 Rows.trackNextsRow.domain false) (Rows.trackNextsSpec.post enc Try.prog Try.f8 false true false false) := by
  refine returnsInHanded_of_change_sized (C := Try.checked) own started (by kernel_rfl) Try.func8
    (ChangeSpec.witness6 (enc := enc) (C := Try.checked) false ⟨#[], #[.agg #[.int .i64 0, .int .i64 0, .int .i64 0, .int .i64 0, .int .i64 0, .int .i64 0, .int .i64 0, .int .i64 0, .int .i64 0, .int .i64 0], .agg #[.int .i64 0, .int .i64 0, .int .i64 0, .int .i64 0, .int .i64 0, .int .i64 0, .int .i64 0, .int .i64 0, .int .i64 0, .int .i64 0, .int .i64 0, .string ByteArray.empty], .bool false, .int .i64 0], []⟩ 8 (by kernel_rfl) (by kernel_rfl) (by kernel_rfl) (by kernel_rfl)) ?_
  intro W base args ds gs before hval0 hW hcnd hsz0 _
  have hval : ∀ (j : Nat) t v, Try.f8.params[j]? = some t → args[j]? = some v → Value.okWide Try.prog W .any base t v := hval0
  have hW' := hW
  obtain ⟨p, q, hA0, hV, rfl, hfz, hnd⟩ := hW
  have hA : DataW.TrodAll enc Try.prog W 0 (fun _ => true) true Try.f8.params.toList args.toList ds p := hA0
  have hsz : (DataW.weightsEach Try.prog (Try.f8.params.toList ++ Rows.trackNextsSpec.plain.varTypes Try.prog) (ds ++ gs)).all (· ≤ reachBytes) = true := hsz0
  rw [Try.params8] at hA hval hsz
  obtain ⟨v0, vs0, d0, ds0, p0, q0, hargs, rfl, rfl, h0, r0⟩ := trodAll_cons hA
  obtain ⟨v1, vs1, d1, ds1, p1, q1, rfl, rfl, rfl, h1, r1⟩ := trodAll_cons r0
  obtain ⟨v2, vs2, d2, ds2, p2, q2, rfl, rfl, rfl, h2, r2⟩ := trodAll_cons r1
  obtain ⟨v3, vs3, d3, ds3, p3, q3, rfl, rfl, rfl, h3, r3⟩ := trodAll_cons r2
  obtain ⟨rfl, rfl, rfl⟩ := trodAll_nil r3
  obtain rfl : args = #[v0, v1, v2, v3] := by cases args; simp_all
  obtain ⟨rfl, rfl⟩ := trodVars_none hV
  obtain ⟨a0, rfl, rfl, rfl, w0⟩ := open_flow (hval 0 55 v0 rfl rfl) h0
  obtain ⟨a1, rfl, rfl, rfl, f1, m1⟩ := open_pkt (hval 1 57 v1 rfl rfl) h1
  obtain ⟨a2, rfl, rfl, rfl⟩ := open_bool Try.underlying4 (hval 2 4 v2 rfl rfl) h2
  have w2 : a2 = a2 := rfl
  obtain ⟨a3, rfl, rfl, rfl, w3⟩ := open_int Try.underlying3 (hval 3 3 v3 rfl rfl) h3
  have w1 : a1.body.size ≤ 140737488351232 := sized_pkt hsz (j := 1) rfl rfl
  clear hA0 hval0
  simp only [List.append_nil] at hW'
  refine (walk a0 a1 a2 a3 w0 w1 w2 w3 W).mono fun e W' ⟨he, bel⟩ => ?_
  subst he
  exact ⟨_, rfl, _, _, _, [], [], [], hW', trodAll_mk1 (shut_bool Try.underlying4 _), (trodAll_cons_mk (shut_flow w0) (trodAll_cons_mk (shut_pkt f1 m1) (trodAll_cons_mk (shut_bool Try.underlying4 _) (trodAll_cons_mk (shut_int Try.underlying3 w3) trodAll_mk0)))), rfl, bel.frame _, fun h => by cases h⟩

theorem over : Rows.trackNextsRow.holds Try.pinned (OpenSpec.ofChange Rows.trackNextsSpec) :=
  OpenClaim.holds_of_wide 8 Try.f8 rfl rfl rfl rfl rfl rfl rfl ⟨rfl, rfl, rfl, rfl, rfl⟩ rfl rfl rfl rfl rfl (by kernel_rfl) Try.func8 (by kernel_rfl)
    (of_decide_eq_true (by kernel_rfl)) (by unfold Func.isWrapper; first | (rw [if_pos (by decide +kernel)]; kernel_rfl) | (rw [if_neg (by decide +kernel)]; exact ⟨rfl, rfl⟩))
    (fun os started H enc _ => lifted os started H enc)

end Go.Proofs.Ythflhaanndnejae.trackNexts
namespace Go.Proofs.Ythflhaanndnejae
theorem trackNexts_holds : Rows.TrackNextsSaid := trackNexts.over
#print axioms trackNexts_holds
end Go.Proofs.Ythflhaanndnejae
