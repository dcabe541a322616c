/-
  For every packet, rentrolllaw.TrackBegins returns true: track.Begins and track.First answer what the document's own answers are; no condition but the form's own reach.
-/
import Derived.Test.YthflhaanndnejafRows
import Derived.WalkKit
import Derived.ProofKit
import Derived.OpenShut
import Derived.ShutString
import Derived.SizedLaws
import Derived.Below
import Derived.Test.YthflhaanndnejafPktIn
import Derived.Test.YthflhaanndnejafTrackI
import Derived.Test.YthflhaanndnejafYieldP
namespace Go.Proofs.Ythflhaanndnejaf.trackBegins
open Go.ChangeShapes Go.WideShapes Go.ChangeAt Go.RowKit
open Go.ChangeMaps (open_string shut_string)
set_option linter.unusedVariables false
set_option linter.unusedSimpArgs false

theorem own : ownKnob Try.prog.godebug = none := by kernel_rfl

set_option maxHeartbeats 4000000 in
theorem walk (a0 : Pkt) (w0 : a0.body.size ≤ 140737488351232) (w : World) :
    Calls Try.prog 3 #[pv a0] w fun e w' => e = .returned (.bool true) ∧ Below w.heap.size w w' := by
  rw [pv_pcl]
  have hB := Below.refl w.heap.size w
  by_cases h0 : 0 ≤ a0.flags
  · by_cases h1 : a0.flags ≤ 63
    · have d0 : ¬ a0.flags < 0 := by omega
      have d1 : ¬ 63 < a0.flags := by omega
      go_enter Try.func3, Try.ntmps3
      go_wp2_with (first | (with_reducible refine at_op (.box 23 (.tmp 0)) rfl ?_; refine wpList_boxR 23 rfl (.tmp 0) rfl (pcl a0) rfl ?_; intro b1 w1 l1 R1 hb1; have c7 : World.cell? _ ⟨b1, 7, none⟩ = some (.int .i64 a0.flags) := (R1.cell 7).trans rfl; replace hB := hB.trans (hb1.mono hB.size)))
      clear c7
      refine wp_region_noPanic ?_
      refine wp_region_held_drew (S := fun W => Row 23 W b1 (pcl a0)) (by kernel_rfl) R1 (fun _ => ?_)
      refine wpAnyH_take (i := 0) (v := .agg (pcl a0)) rfl (by kernel_rfl) (by kernel_rfl) (by kernel_rfl) (fun _ _ _ h => h) (yields_loadR 23 (.tmp 1) rfl (by kernel_rfl) b1 (by kernel_rfl) (pcl a0) (fun _ h => h) _ Try.underlying23 rfl (pcl_info _)) R1 ?_
      simp only [Act.put, List.getElem_toArray, List.getElem_cons_succ, List.getElem_cons_zero, List.setIfInBounds_toArray, List.set_cons_zero, List.set_cons_succ]
      refine wpAnyH_take (i := 2) (v := .agg (pcl a0)) rfl (by kernel_rfl) (by kernel_rfl) (by kernel_rfl) (fun _ _ _ h => h) (yields_loadR 23 (.tmp 1) rfl (by kernel_rfl) b1 (by kernel_rfl) (pcl a0) (fun _ h => h) _ Try.underlying23 rfl (pcl_info _)) R1 ?_
      simp only [Act.put, List.getElem_toArray, List.getElem_cons_succ, List.getElem_cons_zero, List.setIfInBounds_toArray, List.set_cons_zero, List.set_cons_succ]
      refine wpAnyH_ready (rs := [1]) (by kernel_rfl) (by simp) ?_
      refine AllReadyH.cons rfl (fun K hK => ?_) ?_
      · go_simp
        go_at_call 7; refine (begins_any a0 _).mono ?_; rintro e w5 ⟨rfl, hb5⟩; (try replace hb5 := below_undrG hb5); replace R1 := R1.below hb5; replace hB := hB.trans (hb5.mono hB.size)
        go_wp2_with fail
        refine hK.out _ _ R1 (fun _ => ?_)
        clear hK K
        try simp only [Act.put, List.getElem_toArray, List.getElem_cons_succ, List.getElem_cons_zero, List.setIfInBounds_toArray, List.set_cons_zero, List.set_cons_succ]
        refine wpAnyH_ready (rs := [3]) (by kernel_rfl) (by simp) ?_
        refine AllReadyH.cons rfl (fun K hK => ?_) ?_
        · go_simp
          go_at_call 8; refine (begRef_any a0 h0 h1 _).mono ?_; rintro e w5 ⟨rfl, hb5⟩; (try replace hb5 := below_undrG hb5); replace R1 := R1.below hb5; replace hB := hB.trans (hb5.mono hB.size)
          go_wp2_with fail
          refine hK.out _ _ R1 (fun _ => ?_)
          clear hK K
          try simp only [Act.put, List.getElem_toArray, List.getElem_cons_succ, List.getElem_cons_zero, List.setIfInBounds_toArray, List.set_cons_zero, List.set_cons_succ]
          refine wpAnyH_take (i := 4) (v := .bool true) rfl (by kernel_rfl) (by kernel_rfl) (by kernel_rfl) (fun _ _ _ h => h) (yields_eqb (.tmp 13) (.tmp 15) (begB a0) (begB a0) true rfl (by kernel_rfl) (by kernel_rfl) (by kernel_rfl) (by simp)) R1 ?_
          simp only [Act.put, List.getElem_toArray, List.getElem_cons_succ, List.getElem_cons_zero, List.setIfInBounds_toArray, List.set_cons_zero, List.set_cons_succ]
          refine wpAnyH_take (i := 5) (v := .bool true) rfl (by kernel_rfl) (by kernel_rfl) (by kernel_rfl) (fun _ _ _ h => h) (Or.inl ⟨by kernel_rfl, by intro w hS; go_simp⟩) R1 ?_
          simp only [Act.put, List.getElem_toArray, List.getElem_cons_succ, List.getElem_cons_zero, List.setIfInBounds_toArray, List.set_cons_zero, List.set_cons_succ]
          refine wpAnyH_take (i := 6) (v := .agg (pcl a0)) rfl (by kernel_rfl) (by kernel_rfl) (by kernel_rfl) (fun _ _ _ h => h) (yields_loadR 23 (.tmp 1) rfl (by kernel_rfl) b1 (by kernel_rfl) (pcl a0) (fun _ h => h) _ Try.underlying23 rfl (pcl_info _)) R1 ?_
          simp only [Act.put, List.getElem_toArray, List.getElem_cons_succ, List.getElem_cons_zero, List.setIfInBounds_toArray, List.set_cons_zero, List.set_cons_succ]
          refine wpAnyH_take (i := 8) (v := .agg (pcl a0)) rfl (by kernel_rfl) (by kernel_rfl) (by kernel_rfl) (fun _ _ _ h => h) (yields_loadR 23 (.tmp 1) rfl (by kernel_rfl) b1 (by kernel_rfl) (pcl a0) (fun _ h => h) _ Try.underlying23 rfl (pcl_info _)) R1 ?_
          simp only [Act.put, List.getElem_toArray, List.getElem_cons_succ, List.getElem_cons_zero, List.setIfInBounds_toArray, List.set_cons_zero, List.set_cons_succ]
          refine wpAnyH_ready (rs := [7]) (by kernel_rfl) (by simp) ?_
          refine AllReadyH.cons rfl (fun K hK => ?_) ?_
          · go_simp
            go_at_call 9; refine (first_any a0 _).mono ?_; rintro e w5 ⟨rfl, hb5⟩; (try replace hb5 := below_undrG hb5); replace R1 := R1.below hb5; replace hB := hB.trans (hb5.mono hB.size)
            go_wp2_with fail
            refine hK.out _ _ R1 (fun _ => ?_)
            clear hK K
            try simp only [Act.put, List.getElem_toArray, List.getElem_cons_succ, List.getElem_cons_zero, List.setIfInBounds_toArray, List.set_cons_zero, List.set_cons_succ]
            refine wpAnyH_ready (rs := [9]) (by kernel_rfl) (by simp) ?_
            refine AllReadyH.cons rfl (fun K hK => ?_) ?_
            · go_simp
              go_at_call 10; refine (firstRef_any a0 _).mono ?_; rintro e w5 ⟨rfl, hb5⟩; (try replace hb5 := below_undrG hb5); replace R1 := R1.below hb5; replace hB := hB.trans (hb5.mono hB.size)
              go_wp2_with fail
              refine hK.out _ _ R1 (fun _ => ?_)
              clear hK K
              try simp only [Act.put, List.getElem_toArray, List.getElem_cons_succ, List.getElem_cons_zero, List.setIfInBounds_toArray, List.set_cons_zero, List.set_cons_succ]
              refine wpAnyH_take (i := 10) (v := .bool true) rfl (by kernel_rfl) (by kernel_rfl) (by kernel_rfl) (fun _ _ _ h => h) (yields_eqi 3 (.tmp 19) (.tmp 21) (firstZ a0.proto) (firstZ a0.proto) true rfl (by kernel_rfl) (by kernel_rfl) (by kernel_rfl) (by simp)) R1 ?_
              simp only [Act.put, List.getElem_toArray, List.getElem_cons_succ, List.getElem_cons_zero, List.setIfInBounds_toArray, List.set_cons_zero, List.set_cons_succ]
              refine wpAnyH_take (i := 11) (v := .bool true) rfl (by kernel_rfl) (by kernel_rfl) (by kernel_rfl) (fun _ _ _ h => h) (Or.inl ⟨by kernel_rfl, by intro w hS; go_simp⟩) R1 ?_
              simp only [Act.put, List.getElem_toArray, List.getElem_cons_succ, List.getElem_cons_zero, List.setIfInBounds_toArray, List.set_cons_zero, List.set_cons_succ]
              refine wpAnyH_take (i := 12) (v := .bool true) rfl (by kernel_rfl) (by kernel_rfl) (by kernel_rfl) (fun _ _ _ h => h) (Or.inl ⟨by kernel_rfl, by intro w hS; go_simp⟩) R1 ?_
              simp only [Act.put, List.getElem_toArray, List.getElem_cons_succ, List.getElem_cons_zero, List.setIfInBounds_toArray, List.set_cons_zero, List.set_cons_succ]
              refine wpAnyH_ready (rs := [13]) (by kernel_rfl) (by simp) ?_
              refine AllReadyH.cons rfl (fun K hK => ?_) ?_
              · go_simp
                go_at_call 6; refine (tracksLaw_any _).mono ?_; rintro e w5 ⟨rfl, hb5⟩; (try replace hb5 := below_undrG hb5); replace R1 := R1.below hb5; replace hB := hB.trans (hb5.mono hB.size)
                go_wp2_with fail
                refine hK.out _ _ R1 (fun _ => ?_)
                clear hK K
                try simp only [Act.put, List.getElem_toArray, List.getElem_cons_succ, List.getElem_cons_zero, List.setIfInBounds_toArray, List.set_cons_zero, List.set_cons_succ]
                refine wpAnyH_take (i := 14) (v := .bool true) rfl (by kernel_rfl) (by kernel_rfl) (by kernel_rfl) (fun _ _ _ h => h) (Or.inl ⟨by kernel_rfl, by intro w hS; go_simp⟩) R1 ?_
                simp only [Act.put, List.getElem_toArray, List.getElem_cons_succ, List.getElem_cons_zero, List.setIfInBounds_toArray, List.set_cons_zero, List.set_cons_succ]
                refine wpAnyH_take (i := 15) (v := .bool true) rfl (by kernel_rfl) (by kernel_rfl) (by kernel_rfl) (fun _ _ _ h => h) (Or.inl ⟨by kernel_rfl, by intro w hS; go_simp⟩) R1 ?_
                simp only [Act.put, List.getElem_toArray, List.getElem_cons_succ, List.getElem_cons_zero, List.setIfInBounds_toArray, List.set_cons_zero, List.set_cons_succ]
                refine wpAnyH_done (by kernel_rfl) ?_ _
                refine NoPanic.normal ?_
                go_wp2
                go_ret
                exact ⟨rfl, hB⟩
              exact AllReadyH.nil
            exact AllReadyH.nil
          exact AllReadyH.nil
        exact AllReadyH.nil
      exact AllReadyH.nil
    · have d0 : ¬ a0.flags < 0 := by omega
      have d1 : 63 < a0.flags := by omega
      clear h0 h1
      go_enter Try.func3, Try.ntmps3
      go_wp2_with (first | (with_reducible refine at_op (.box 23 (.tmp 0)) rfl ?_; refine wpList_boxR 23 rfl (.tmp 0) rfl (pcl a0) rfl ?_; intro b1 w1 l1 R1 hb1; have c7 : World.cell? _ ⟨b1, 7, none⟩ = some (.int .i64 a0.flags) := (R1.cell 7).trans rfl; replace hB := hB.trans (hb1.mono hB.size)) | (go_at_call 6; go_fit (tracksLaw_any _); rintro e w5 ⟨rfl, hb5⟩; clear c7; replace hB := hB.trans (hb5.mono hB.size)))
      go_ret
      exact ⟨rfl, hB⟩
  · have d0 : a0.flags < 0 := by omega
    clear h0
    go_enter Try.func3, Try.ntmps3
    go_wp2_with (first | (with_reducible refine at_op (.box 23 (.tmp 0)) rfl ?_; refine wpList_boxR 23 rfl (.tmp 0) rfl (pcl a0) rfl ?_; intro b1 w1 l1 R1 hb1; have c7 : World.cell? _ ⟨b1, 7, none⟩ = some (.int .i64 a0.flags) := (R1.cell 7).trans rfl; replace hB := hB.trans (hb1.mono hB.size)) | (go_at_call 6; go_fit (tracksLaw_any _); rintro e w5 ⟨rfl, hb5⟩; clear c7; replace hB := hB.trans (hb5.mono hB.size)))
    go_ret
    exact ⟨rfl, hB⟩

set_option maxRecDepth 100000 in
theorem lifted (os : Os) (started : os.Started) (H : Type) (enc : TypeId × Value → H) :
    ReturnsInHanded {} Try.checked os 3 .any (Rows.trackBeginsSpec.pre6 enc Try.prog Try.f3 Rows.trackBeginsRow.domain false) (Rows.trackBeginsSpec.post enc Try.prog Try.f3 false true false false) := by
  refine returnsInHanded_of_change_sized (C := Try.checked) own started (by kernel_rfl) Try.func3
    (ChangeSpec.witness6 (enc := enc) (C := Try.checked) false ⟨#[], #[.agg #[.int .i64 0, .int .i64 0, .int .i64 0, .int .i64 0, .int .i64 0, .int .i64 0, .int .i64 0, .int .i64 0, .int .i64 0, .int .i64 0, .int .i64 0, .string ByteArray.empty]], []⟩ 8 (by kernel_rfl) (by kernel_rfl) (by kernel_rfl) (by kernel_rfl)) ?_
  intro W base args ds gs before hval0 hW hcnd hsz0 _
  have hval : ∀ (j : Nat) t v, Try.f3.params[j]? = some t → args[j]? = some v → Value.okWide Try.prog W .any base t v := hval0
  have hW' := hW
  obtain ⟨p, q, hA0, hV, rfl, hfz, hnd⟩ := hW
  have hA : DataW.TrodAll enc Try.prog W 0 (fun _ => true) true Try.f3.params.toList args.toList ds p := hA0
  have hsz : (DataW.weightsEach Try.prog (Try.f3.params.toList ++ Rows.trackBeginsSpec.plain.varTypes Try.prog) (ds ++ gs)).all (· ≤ reachBytes) = true := hsz0
  rw [Try.params3] at hA hval hsz
  obtain ⟨v0, vs0, d0, ds0, p0, q0, hargs, rfl, rfl, h0, r0⟩ := trodAll_cons hA
  obtain ⟨rfl, rfl, rfl⟩ := trodAll_nil r0
  obtain rfl : args = #[v0] := by cases args; simp_all
  obtain ⟨rfl, rfl⟩ := trodVars_none hV
  obtain ⟨a0, rfl, rfl, rfl, f0, m0⟩ := open_pkt (hval 0 23 v0 rfl rfl) h0
  have w0 : a0.body.size ≤ 140737488351232 := sized_pkt hsz (j := 0) rfl rfl
  clear hA0 hval0
  simp only [List.append_nil] at hW'
  refine (walk a0 w0 W).mono fun e W' ⟨he, bel⟩ => ?_
  subst he
  exact ⟨_, rfl, _, _, _, [], [], [], hW', trodAll_mk1 (shut_bool Try.underlying4 _), (trodAll_cons_mk (shut_pkt f0 m0) trodAll_mk0), rfl, bel.frame _, fun h => by cases h⟩

theorem over : Rows.trackBeginsRow.holds Try.pinned (OpenSpec.ofChange Rows.trackBeginsSpec) :=
  OpenClaim.holds_of_wide 3 Try.f3 rfl rfl rfl rfl rfl rfl rfl ⟨rfl, rfl, rfl, rfl, rfl⟩ rfl rfl rfl rfl rfl (by kernel_rfl) Try.func3 (by kernel_rfl)
    (of_decide_eq_true (by kernel_rfl)) (by unfold Func.isWrapper; first | (rw [if_pos (by decide +kernel)]; kernel_rfl) | (rw [if_neg (by decide +kernel)]; exact ⟨rfl, rfl⟩))
    (fun os started H enc _ => lifted os started H enc)

end Go.Proofs.Ythflhaanndnejaf.trackBegins
namespace Go.Proofs.Ythflhaanndnejaf
theorem trackBegins_holds : Rows.TrackBeginsSaid := trackBegins.over
#print axioms trackBegins_holds
end Go.Proofs.Ythflhaanndnejaf
