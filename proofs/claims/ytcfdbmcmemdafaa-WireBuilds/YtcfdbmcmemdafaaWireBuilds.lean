/-
  For every packet, rentrolllaw.WireBuilds returns true: Good and Build answer exactly what the document's own answers say, errors too; no condition but the form's own reach.
-/
import Derived.Test.YtcfdbmcmemdafaaRows
import Derived.WalkKit
import Derived.ProofKit
import Derived.OpenShut
import Derived.ShutString
import Derived.SizedLaws
import Derived.Below
import Derived.Test.YtcfdbmcmemdafaaLawW
import Derived.Test.YtcfdbmcmemdafaaRefB
import Derived.Test.YtcfdbmcmemdafaaPktIn
import Derived.Deep.RegionHeld3
namespace Go.Proofs.Ytcfdbmcmemdafaa.wireBuilds
open Go.ChangeShapes Go.WideShapes Go.ChangeAt Go.RowKit
open Go.ChangeMaps (open_string shut_string)
set_option linter.unusedVariables false

theorem own : ownKnob Try.prog.godebug = none := by kernel_rfl

set_option maxHeartbeats 4000000 in
theorem walk (a0 : Pkt) (w0 : a0.wf ∧ a0.body.size ≤ 140737488351232) (w : World) :
    Calls Try.prog 8 #[pv a0] w fun e w' => e = .returned (.bool true) ∧ Below w.heap.size w w' := by
  have T0 : Twelve (w.alloc (.cells #[.int .i64 a0.proto, .int .i64 a0.src, .int .i64 a0.sport, .int .i64 a0.dst, .int .i64 a0.dport, .int .i64 a0.ttl, .int .i64 a0.id, .int .i64 a0.flags, .int .i64 a0.seq, .int .i64 a0.ack, .int .i64 a0.win, .string a0.body] 33)) w.heap.size #[.int .i64 a0.proto, .int .i64 a0.src, .int .i64 a0.sport, .int .i64 a0.dst, .int .i64 a0.dport, .int .i64 a0.ttl, .int .i64 a0.id, .int .i64 a0.flags, .int .i64 a0.seq, .int .i64 a0.ack, .int .i64 a0.win, .string a0.body] := heap_alloc_new w _
  have hB : Below w.heap.size w (w.alloc (.cells #[.int .i64 a0.proto, .int .i64 a0.src, .int .i64 a0.sport, .int .i64 a0.dst, .int .i64 a0.dport, .int .i64 a0.ttl, .int .i64 a0.id, .int .i64 a0.flags, .int .i64 a0.seq, .int .i64 a0.ack, .int .i64 a0.win, .string a0.body] 33)) := (Below.refl _ _).alloc (Nat.le_refl _) _
  have c0 := T0.cell
  have ht : -9223372036854775808 ≤ a0.ttl ∧ a0.ttl ≤ 9223372036854775807 := by simpa [Lit.wf, IntKind.min, IntKind.max, IntKind.bits, IntKind.signed] using w0.1.2.2.2.2.2.1
  have C1 := fun w => build_any a0 w w0.2
  have C2 := fun w => bref_any a0 w w0.2 ht
  have C3 := fun w => good_any a0 w w0.2
  have C4 := fun w => gref_any a0 w w0.2 ht
  generalize good a0 = ge at *
  generalize built a0 = bu at *
  unfold pv at *
  go_enter Try.func8, Try.ntmps8
  go_wp2_with (first
    | (go_at_call 21; go_fit (C1 _); rintro e w' ⟨rfl, hb⟩; (try replace hb := below_undr hb); replace T0 := T0.below hb; have c0 := T0.cell; replace hB := hB.trans (hb.mono hB.size))
    | (go_at_call 22; go_fit (C2 _); rintro e w' ⟨rfl, hb⟩; (try replace hb := below_undr hb); replace T0 := T0.below hb; have c0 := T0.cell; replace hB := hB.trans (hb.mono hB.size)))
  go_region_held3 (fun w' => w'.cell? ⟨w.heap.size, 0, none⟩ = some (.int .i64 a0.proto) ∧ w'.cell? ⟨w.heap.size, 1, none⟩ = some (.int .i64 a0.src) ∧ w'.cell? ⟨w.heap.size, 2, none⟩ = some (.int .i64 a0.sport) ∧ w'.cell? ⟨w.heap.size, 3, none⟩ = some (.int .i64 a0.dst) ∧ w'.cell? ⟨w.heap.size, 4, none⟩ = some (.int .i64 a0.dport) ∧ w'.cell? ⟨w.heap.size, 5, none⟩ = some (.int .i64 a0.ttl) ∧ w'.cell? ⟨w.heap.size, 6, none⟩ = some (.int .i64 a0.id) ∧ w'.cell? ⟨w.heap.size, 7, none⟩ = some (.int .i64 a0.flags) ∧ w'.cell? ⟨w.heap.size, 8, none⟩ = some (.int .i64 a0.seq) ∧ w'.cell? ⟨w.heap.size, 9, none⟩ = some (.int .i64 a0.ack) ∧ w'.cell? ⟨w.heap.size, 10, none⟩ = some (.int .i64 a0.win) ∧ w'.cell? ⟨w.heap.size, 11, none⟩ = some (.string a0.body))
    (first | exact ⟨T0.cell 0, T0.cell 1, T0.cell 2, T0.cell 3, T0.cell 4, T0.cell 5, T0.cell 6, T0.cell 7, T0.cell 8, T0.cell 9, T0.cell 10, T0.cell 11⟩ | go_keep)
    (first
    | (go_at_call 23; go_fit (C3 _); rintro e w' ⟨rfl, hb⟩; (try replace hb := below_undr hb); replace T0 := T0.below hb; have c0 := T0.cell; replace hB := hB.trans (hb.mono hB.size))
    | (go_at_call 24; go_fit (C4 _); rintro e w' ⟨rfl, hb⟩; (try replace hb := below_undr hb); replace T0 := T0.below hb; have c0 := T0.cell; replace hB := hB.trans (hb.mono hB.size))
    | (go_at_call 25; refine (buildsLaw_any _).mono ?_; rintro e w' ⟨rfl, hb⟩; (try replace hb := below_undr hb); replace T0 := T0.below hb; have c0 := T0.cell; replace hB := hB.trans (hb.mono hB.size)))
  all_goals
    go_wp2
    go_ret
    exact ⟨rfl, hB⟩

set_option maxRecDepth 100000 in
theorem lifted (os : Os) (started : os.Started) (H : Type) (enc : TypeId × Value → H) :
    ReturnsInHanded {} Try.checked os 8 .any (Rows.wireBuildsSpec.pre6 enc Try.prog Try.f8 Rows.wireBuildsRow.domain false) (Rows.wireBuildsSpec.post enc Try.prog Try.f8 false true false false) := by
  refine returnsInHanded_of_change_sized (C := Try.checked) own started (by kernel_rfl) Try.func8
    (ChangeSpec.witness6 (enc := enc) (C := Try.checked) false ⟨#[], #[.agg #[.int .i64 0, .int .i64 0, .int .i64 0, .int .i64 0, .int .i64 0, .int .i64 0, .int .i64 0, .int .i64 0, .int .i64 0, .int .i64 0, .int .i64 0, .string ByteArray.empty]], []⟩ 8 (by kernel_rfl) (by kernel_rfl) (by kernel_rfl) (by kernel_rfl)) ?_
  intro W base args ds gs before hval0 hW hcnd hsz0 _
  have hval : ∀ (j : Nat) t v, Try.f8.params[j]? = some t → args[j]? = some v → Value.okWide Try.prog W .any base t v := hval0
  have hW' := hW
  obtain ⟨p, q, hA0, hV, rfl, hfz, hnd⟩ := hW
  have hA : DataW.TrodAll enc Try.prog W 0 (fun _ => true) true Try.f8.params.toList args.toList ds p := hA0
  have hsz : (DataW.weightsEach Try.prog (Try.f8.params.toList ++ Rows.wireBuildsSpec.plain.varTypes Try.prog) (ds ++ gs)).all (· ≤ reachBytes) = true := hsz0
  rw [Try.params8] at hA hval hsz
  obtain ⟨v0, vs0, d0, ds0, p0, q0, hargs, rfl, rfl, h0, r0⟩ := trodAll_cons hA
  obtain ⟨rfl, rfl, rfl⟩ := trodAll_nil r0
  obtain rfl : args = #[v0] := by cases args; simp_all
  obtain ⟨rfl, rfl⟩ := trodVars_none hV
  obtain ⟨a0, rfl, rfl, rfl, f0, m0⟩ := open_pkt (hval 0 33 v0 rfl rfl) h0
  have w0 : a0.wf ∧ a0.body.size ≤ 140737488351232 := ⟨f0, sized_pkt hsz (j := 0) rfl rfl⟩
  clear hA0 hval0
  simp only [List.append_nil] at hW'
  refine (walk a0 w0 W).mono fun e W' ⟨he, bel⟩ => ?_
  subst he
  exact ⟨_, rfl, _, _, _, [], [], [], hW', trodAll_mk1 (shut_bool Try.underlying4 _), (trodAll_cons_mk (shut_pkt f0 m0) trodAll_mk0), rfl, bel.frame _, fun h => by cases h⟩

theorem over : Rows.wireBuildsRow.holds Try.pinned (OpenSpec.ofChange Rows.wireBuildsSpec) :=
  OpenClaim.holds_of_wide 8 Try.f8 rfl rfl rfl rfl rfl rfl rfl ⟨rfl, rfl, rfl, rfl, rfl⟩ rfl rfl rfl rfl rfl (by kernel_rfl) Try.func8 (by kernel_rfl)
    (of_decide_eq_true (by kernel_rfl)) (by unfold Func.isWrapper; first | (rw [if_pos (by decide +kernel)]; kernel_rfl) | (rw [if_neg (by decide +kernel)]; exact ⟨rfl, rfl⟩))
    (fun os started H enc _ => lifted os started H enc)

end Go.Proofs.Ytcfdbmcmemdafaa.wireBuilds
namespace Go.Proofs.Ytcfdbmcmemdafaa
theorem wireBuilds_holds : Rows.WireBuildsSaid := wireBuilds.over
#print axioms wireBuilds_holds
end Go.Proofs.Ytcfdbmcmemdafaa
