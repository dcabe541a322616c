/-
  For all bytes, rentrolllaw.WireParses returns true: Parse answers exactly what the document's own Parse says, errors too; no condition but the form's own reach.
-/
import Derived.Test.YthcedehppflcgabRows
import Derived.WalkKit
import Derived.ProofKit
import Derived.OpenShut
import Derived.ShutString
import Derived.SizedLaws
import Derived.Below
import Derived.Test.YthcedehppflcgabRefPA
import Derived.Test.YthcedehppflcgabLawW
import Derived.Test.YthcedehppflcgabKeepW
namespace Go.Proofs.Ythcedehppflcgab.wireParses
open Go.ChangeShapes Go.WideShapes Go.ChangeAt Go.RowKit
open Go.ChangeMaps (open_string shut_string)
set_option linter.unusedVariables false
set_option linter.unusedSimpArgs false

theorem own : ownKnob Try.prog.godebug = none := by kernel_rfl

set_option maxHeartbeats 4000000 in
theorem walk (a0 : ByteArray) (w0 : a0.size ≤ 140737488351232) (w : World) :
    Calls Try.prog 3 #[.string a0] w fun e w' => e = .returned (.bool true) ∧ Below w.heap.size w w' := by
  have C1 := fun w => parse_any a0 w w0
  have C2 := fun w => pref_any a0 w w0
  generalize parsed a0.data.toList = k at *
  generalize bad a0.data.toList = e0 at *
  have hB := Below.refl w.heap.size w
  unfold pv at *
  go_enter Try.func3, Try.ntmps3
  go_wp2_with (first
    | (go_at_call 9; go_fit (C1 _); rintro e w3 ⟨rfl, hb⟩; replace hB := hB.trans (hb.mono hB.size); have T1 : Twelve (w3.alloc (.cells #[.int .i64 k.proto, .int .i64 k.src, .int .i64 k.sport, .int .i64 k.dst, .int .i64 k.dport, .int .i64 k.ttl, .int .i64 k.id, .int .i64 k.flags, .int .i64 k.seq, .int .i64 k.ack, .int .i64 k.win, .string k.body] 23)) w3.heap.size #[.int .i64 k.proto, .int .i64 k.src, .int .i64 k.sport, .int .i64 k.dst, .int .i64 k.dport, .int .i64 k.ttl, .int .i64 k.id, .int .i64 k.flags, .int .i64 k.seq, .int .i64 k.ack, .int .i64 k.win, .string k.body] := heap_alloc_new w3 _)
    | (go_at_call 10; go_fit (C2 _); rintro e w4 ⟨rfl, hb⟩; replace T1 := T1.below hb; replace hB := below_next hB (by have := hB.size; omega) hb; have c1 := T1.cell; have l1 := T1.lt)
    | (go_at_call 11; refine (buildsLaw_any _).mono ?_; rintro e w5 ⟨rfl, hb⟩; replace hB := below_next hB (by have := hB.size; omega) hb))
  go_ret
  exact ⟨rfl, hB⟩

set_option maxRecDepth 100000 in
theorem lifted (os : Os) (started : os.Started) (H : Type) (enc : TypeId × Value → H) :
    ReturnsInHanded {} Try.checked os 3 .any (Rows.wireParsesSpec.pre6 enc Try.prog Try.f3 Rows.wireParsesRow.domain false) (Rows.wireParsesSpec.post enc Try.prog Try.f3 false true false false) := by
  refine returnsInHanded_of_change_sized (C := Try.checked) own started (by kernel_rfl) Try.func3
    (ChangeSpec.witness6 (enc := enc) (C := Try.checked) false ⟨#[], #[.string ByteArray.empty], []⟩ 8 (by kernel_rfl) (by kernel_rfl) (by kernel_rfl) (by kernel_rfl)) ?_
  intro W base args ds gs before hval0 hW hcnd hsz0 _
  have hval : ∀ (j : Nat) t v, Try.f3.params[j]? = some t → args[j]? = some v → Value.okWide Try.prog W .any base t v := hval0
  have hW' := hW
  obtain ⟨p, q, hA0, hV, rfl, hfz, hnd⟩ := hW
  have hA : DataW.TrodAll enc Try.prog W 0 (fun _ => true) true Try.f3.params.toList args.toList ds p := hA0
  have hsz : (DataW.weightsEach Try.prog (Try.f3.params.toList ++ Rows.wireParsesSpec.plain.varTypes Try.prog) (ds ++ gs)).all (· ≤ reachBytes) = true := hsz0
  rw [Try.params3] at hA hval hsz
  obtain ⟨v0, vs0, d0, ds0, p0, q0, hargs, rfl, rfl, h0, r0⟩ := trodAll_cons hA
  obtain ⟨rfl, rfl, rfl⟩ := trodAll_nil r0
  obtain rfl : args = #[v0] := by cases args; simp_all
  obtain ⟨rfl, rfl⟩ := trodVars_none hV
  obtain ⟨a0, rfl, rfl, rfl, m0⟩ := open_string Try.underlying9 (hval 0 9 v0 rfl rfl) h0
  have w0 : a0.size ≤ 140737488351232 := by
    have := sized_string hsz (j := 0) (t := 9) rfl rfl
    simpa [reachBytes] using this
  clear hA0 hval0
  simp only [List.append_nil] at hW'
  refine (walk a0 w0 W).mono fun e W' ⟨he, bel⟩ => ?_
  subst he
  exact ⟨_, rfl, _, _, _, [], [], [], hW', trodAll_mk1 (shut_bool Try.underlying4 _), (trodAll_cons_mk (shut_string Try.underlying9 m0) trodAll_mk0), rfl, bel.frame _, fun h => by cases h⟩

theorem over : Rows.wireParsesRow.holds Try.pinned (OpenSpec.ofChange Rows.wireParsesSpec) :=
  OpenClaim.holds_of_wide 3 Try.f3 rfl rfl rfl rfl rfl rfl rfl ⟨rfl, rfl, rfl, rfl, rfl⟩ rfl rfl rfl rfl rfl (by kernel_rfl) Try.func3 (by kernel_rfl)
    (of_decide_eq_true (by kernel_rfl)) (by unfold Func.isWrapper; first | (rw [if_pos (by decide +kernel)]; kernel_rfl) | (rw [if_neg (by decide +kernel)]; exact ⟨rfl, rfl⟩))
    (fun os started H enc _ => lifted os started H enc)

end Go.Proofs.Ythcedehppflcgab.wireParses
namespace Go.Proofs.Ythcedehppflcgab
theorem wireParses_holds : Rows.WireParsesSaid := wireParses.over
#print axioms wireParses_holds
end Go.Proofs.Ythcedehppflcgab
