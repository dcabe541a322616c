/-
  For every row of packets, rentrollkeep.TrackRuns returns true: a flow never goes back, is open only behind an answer, closed only behind an end, and lasts just as long as its state says; no condition but the form's own reach.
-/
import Derived.Test.YthflhaanndnejafRows
import Derived.WalkKit
import Derived.ProofKit
import Derived.OpenShut
import Derived.ShutString
import Derived.SizedLaws
import Derived.Below
import Derived.Carry
import Derived.Test.YthflhaanndnejafTrackN
namespace Go.Proofs.Ythflhaanndnejaf.trackRuns
open Go.ChangeShapes Go.WideShapes Go.ChangeAt Go.RowKit
set_option linter.unusedVariables false
set_option linter.unusedSimpArgs false

theorem own : ownKnob Try.prog.godebug = none := by kernel_rfl

set_option maxRecDepth 100000 in
theorem lifted (os : Os) (started : os.Started) (H : Type) (enc : TypeId × Value → H) :
    ReturnsInHanded {} Try.checked os 4 .any (Rows.trackRunsSpec.pre6 enc Try.prog Try.f4 Rows.trackRunsRow.domain false) (Rows.trackRunsSpec.post enc Try.prog Try.f4 false true false false) := by
  refine returnsInHanded_of_change_sized (C := Try.checked) own started (by kernel_rfl) Try.func4
    (ChangeSpec.witness6 (enc := enc) (C := Try.checked) false ⟨#[], #[.slice none 0 0], []⟩ 8 (by kernel_rfl) (by kernel_rfl) (by kernel_rfl) (by kernel_rfl)) ?_
  intro W base args ds gs before hval0 hW hcnd hsz0 _
  have hval : ∀ (j : Nat) t v, Try.f4.params[j]? = some t → args[j]? = some v → Value.okWide Try.prog W .any base t v := hval0
  have hW' := hW
  obtain ⟨p, q, hA0, hV, rfl, hfz, hnd⟩ := hW
  have hA : DataW.TrodAll enc Try.prog W 0 (fun _ => true) true Try.f4.params.toList args.toList ds p := hA0
  have hsz : (DataW.weightsEach Try.prog (Try.f4.params.toList ++ Rows.trackRunsSpec.plain.varTypes Try.prog) (ds ++ gs)).all (· ≤ reachBytes) = true := hsz0
  rw [Try.params4] at hA hval hsz
  obtain ⟨v0, vs0, d0, ds0, p0, q0, hargs, rfl, rfl, h0, r0⟩ := trodAll_cons hA
  obtain ⟨rfl, rfl, rfl⟩ := trodAll_nil r0
  obtain rfl : args = #[v0] := by cases args; simp_all
  obtain ⟨rfl, rfl⟩ := trodVars_none hV
  have hw0 : ∀ y ∈ d0.weights Try.prog 27, y ≤ reachBytes := fun y hy => of_decide_eq_true (List.all_eq_true.1 hsz _ (DataW.weights_mem_each (j := 0) rfl rfl y hy))
  obtain ⟨fuel, hf0⟩ := id h0
  obtain ⟨a, cap, B, O, ss, hl, hS⟩ := open_seen hf0 hw0
  obtain ⟨s1, n1, c1, hsl⟩ := okWide_slice Try.underlying27 (hval 0 27 v0 rfl rfl)
  subst hsl
  have hv : Value.slice s1 n1 c1 = .slice a ss.length cap := by simpa [Value.cells] using hl
  obtain ⟨rfl, rfl, rfl⟩ : s1 = a ∧ n1 = ss.length ∧ c1 = cap := by simpa using hv
  clear hA0 hval0
  simp only [List.append_nil, List.nil_append] at hW'
  have hlt : ∀ x ∈ p0, x.block < W.heap.size := fun x hx => by simpa using hW'.lt x (by simp [hx])
  refine (runs_any _ _ B O ss W hS).mono fun e W' ⟨he, bel⟩ => ?_
  subst he
  have h0' := Below.trod (by kernel_rfl) (by kernel_rfl) (of_decide_eq_true (by kernel_rfl)) h0 bel hlt
  have hall := trodAll_cons_mk h0' trodAll_mk0
  simp only [List.append_nil, List.nil_append] at hall
  exact ⟨_, rfl, _, _, _, [], p0, [], hW', trodAll_mk1 (shut_bool Try.underlying4 _), hall, rfl, bel.frame _, fun h => by cases h⟩

theorem over : Rows.trackRunsRow.holds Try.pinned (OpenSpec.ofChange Rows.trackRunsSpec) :=
  OpenClaim.holds_of_wide 4 Try.f4 rfl rfl rfl rfl rfl rfl rfl ⟨rfl, rfl, rfl, rfl, rfl⟩ rfl rfl rfl rfl rfl (by kernel_rfl) Try.func4 (by kernel_rfl)
    (of_decide_eq_true (by kernel_rfl)) (by unfold Func.isWrapper; first | (rw [if_pos (by decide +kernel)]; kernel_rfl) | (rw [if_neg (by decide +kernel)]; exact ⟨rfl, rfl⟩))
    (fun os started H enc _ => lifted os started H enc)

end Go.Proofs.Ythflhaanndnejaf.trackRuns
namespace Go.Proofs.Ythflhaanndnejaf
theorem trackRuns_holds : Rows.TrackRunsSaid := trackRuns.over
#print axioms trackRuns_holds
end Go.Proofs.Ythflhaanndnejaf
