/-
  For every three texts, rentrollkeep.SumsSwap returns true: the sum does not hang on the order of texts of whole words; no condition but the form's own reach.
-/
import Derived.Test.YtldjlhhjafidfaaRows
import Derived.WalkKit
import Derived.ProofKit
import Derived.OpenShut
import Derived.ShutString
import Derived.SizedLaws
import Derived.Below
import Derived.Test.YtldjlhhjafidfaaKeep
namespace Go.Proofs.Ytldjlhhjafidfaa.sumsSwap
open Go.ChangeShapes Go.WideShapes Go.ChangeAt Go.RowKit
open Go.ChangeMaps (open_string shut_string)
set_option linter.unusedVariables false

theorem own : ownKnob Try.prog.godebug = none := by kernel_rfl

theorem walk (a0 : ByteArray) (a1 : ByteArray) (a2 : ByteArray) (w0 : a0.size ≤ 140737488351232) (w1 : a1.size ≤ 140737488351232) (w2 : a2.size ≤ 140737488351232) (w : World) :
    Calls Try.prog 6 #[.string a0, .string a1, .string a2] w fun e w' => e = .returned (.bool true) ∧ Below w.heap.size w w' := by
  have za : (a0 ++ nought).size = a0.size + 1 := nought_size a0
  have zb : (a1 ++ nought).size = a1.size + 1 := nought_size a1
  by_cases hp : a0.size % 2 = 0 <;> by_cases hq : a1.size % 2 = 0
  · have hp' : ((a0.size : Int) % 2 == 1) = false := by simp; omega
    have hq' : ((a1.size : Int) % 2 == 1) = false := by simp; omega
    have f1 := swap_sum a0 a1 a2 hp hq
    have z1 := cat_size a0 a1; have z2 := cat_size a1 a0
    have z3 := cat_size (a0 ++ a1) a2; have z4 := cat_size (a1 ++ a0) a2
    unfold nought at *
    go_enter Try.func6, Try.ntmps6
    go_wp2_with (first | (go_at_call 8; refine (ofS_any _ _ (by omega)).mono ?_; rintro e w' ⟨rfl, rfl⟩) | (go_at_call 18; refine (addsKeep_any _).mono ?_; rintro e w' ⟨rfl, rfl⟩))
    go_ret
    exact ⟨rfl, Below.refl _ _⟩
  · have hp' : ((a0.size : Int) % 2 == 1) = false := by simp; omega
    have hq' : ((a1.size : Int) % 2 == 1) = true := by simp; omega
    have f1 := swap_sum a0 (a1 ++ nought) a2 hp (by rw [zb]; omega)
    have z1 := cat_size a0 (a1 ++ nought); have z2 := cat_size (a1 ++ nought) a0
    have z3 := cat_size (a0 ++ (a1 ++ nought)) a2; have z4 := cat_size ((a1 ++ nought) ++ a0) a2
    unfold nought at *
    go_enter Try.func6, Try.ntmps6
    go_wp2_with (first | (go_at_call 8; refine (ofS_any _ _ (by omega)).mono ?_; rintro e w' ⟨rfl, rfl⟩) | (go_at_call 18; refine (addsKeep_any _).mono ?_; rintro e w' ⟨rfl, rfl⟩))
    go_ret
    exact ⟨rfl, Below.refl _ _⟩
  · have hp' : ((a0.size : Int) % 2 == 1) = true := by simp; omega
    have hq' : ((a1.size : Int) % 2 == 1) = false := by simp; omega
    have f1 := swap_sum (a0 ++ nought) a1 a2 (by rw [za]; omega) hq
    have z1 := cat_size (a0 ++ nought) a1; have z2 := cat_size a1 (a0 ++ nought)
    have z3 := cat_size ((a0 ++ nought) ++ a1) a2; have z4 := cat_size (a1 ++ (a0 ++ nought)) a2
    unfold nought at *
    go_enter Try.func6, Try.ntmps6
    go_wp2_with (first | (go_at_call 8; refine (ofS_any _ _ (by omega)).mono ?_; rintro e w' ⟨rfl, rfl⟩) | (go_at_call 18; refine (addsKeep_any _).mono ?_; rintro e w' ⟨rfl, rfl⟩))
    go_ret
    exact ⟨rfl, Below.refl _ _⟩
  · have hp' : ((a0.size : Int) % 2 == 1) = true := by simp; omega
    have hq' : ((a1.size : Int) % 2 == 1) = true := by simp; omega
    have f1 := swap_sum (a0 ++ nought) (a1 ++ nought) a2 (by rw [za]; omega) (by rw [zb]; omega)
    have z1 := cat_size (a0 ++ nought) (a1 ++ nought); have z2 := cat_size (a1 ++ nought) (a0 ++ nought)
    have z3 := cat_size ((a0 ++ nought) ++ (a1 ++ nought)) a2; have z4 := cat_size ((a1 ++ nought) ++ (a0 ++ nought)) a2
    unfold nought at *
    go_enter Try.func6, Try.ntmps6
    go_wp2_with (first | (go_at_call 8; refine (ofS_any _ _ (by omega)).mono ?_; rintro e w' ⟨rfl, rfl⟩) | (go_at_call 18; refine (addsKeep_any _).mono ?_; rintro e w' ⟨rfl, rfl⟩))
    go_ret
    exact ⟨rfl, Below.refl _ _⟩

set_option maxRecDepth 100000 in
theorem lifted (os : Os) (started : os.Started) (H : Type) (enc : TypeId × Value → H) :
    ReturnsInHanded {} Try.checked os 6 .any (Rows.sumsSwapSpec.pre6 enc Try.prog Try.f6 Rows.sumsSwapRow.domain false) (Rows.sumsSwapSpec.post enc Try.prog Try.f6 false true false false) := by
  refine returnsInHanded_of_change_sized (C := Try.checked) own started (by kernel_rfl) Try.func6
    (ChangeSpec.witness6 (enc := enc) (C := Try.checked) false ⟨#[], #[.string ByteArray.empty, .string ByteArray.empty, .string ByteArray.empty], []⟩ 8 (by kernel_rfl) (by kernel_rfl) (by kernel_rfl) (by kernel_rfl)) ?_
  intro W base args ds gs before hval0 hW hcnd hsz0 _
  have hval : ∀ (j : Nat) t v, Try.f6.params[j]? = some t → args[j]? = some v → Value.okWide Try.prog W .any base t v := hval0
  have hW' := hW
  obtain ⟨p, q, hA0, hV, rfl, hfz, hnd⟩ := hW
  have hA : DataW.TrodAll enc Try.prog W 0 (fun _ => true) true Try.f6.params.toList args.toList ds p := hA0
  have hsz : (DataW.weightsEach Try.prog (Try.f6.params.toList ++ Rows.sumsSwapSpec.plain.varTypes Try.prog) (ds ++ gs)).all (· ≤ reachBytes) = true := hsz0
  rw [Try.params6] at hA hval hsz
  obtain ⟨v0, vs0, d0, ds0, p0, q0, hargs, rfl, rfl, h0, r0⟩ := trodAll_cons hA
  obtain ⟨v1, vs1, d1, ds1, p1, q1, rfl, rfl, rfl, h1, r1⟩ := trodAll_cons r0
  obtain ⟨v2, vs2, d2, ds2, p2, q2, rfl, rfl, rfl, h2, r2⟩ := trodAll_cons r1
  obtain ⟨rfl, rfl, rfl⟩ := trodAll_nil r2
  obtain rfl : args = #[v0, v1, v2] := by cases args; simp_all
  obtain ⟨rfl, rfl⟩ := trodVars_none hV
  obtain ⟨a0, rfl, rfl, rfl, m0⟩ := open_string Try.underlying9 (hval 0 9 v0 rfl rfl) h0
  obtain ⟨a1, rfl, rfl, rfl, m1⟩ := open_string Try.underlying9 (hval 1 9 v1 rfl rfl) h1
  obtain ⟨a2, rfl, rfl, rfl, m2⟩ := open_string Try.underlying9 (hval 2 9 v2 rfl rfl) h2
  have w0 : a0.size ≤ 140737488351232 := by
    have := sized_string hsz (j := 0) (t := 9) rfl rfl
    simpa [reachBytes] using this
  have w1 : a1.size ≤ 140737488351232 := by
    have := sized_string hsz (j := 1) (t := 9) rfl rfl
    simpa [reachBytes] using this
  have w2 : a2.size ≤ 140737488351232 := by
    have := sized_string hsz (j := 2) (t := 9) rfl rfl
    simpa [reachBytes] using this
  clear hA0 hval0
  simp only [List.append_nil] at hW'
  refine (walk a0 a1 a2 w0 w1 w2 W).mono fun e W' ⟨he, bel⟩ => ?_
  subst he
  exact ⟨_, rfl, _, _, _, [], [], [], hW', trodAll_mk1 (shut_bool Try.underlying4 _), (trodAll_cons_mk (shut_string Try.underlying9 m0) (trodAll_cons_mk (shut_string Try.underlying9 m1) (trodAll_cons_mk (shut_string Try.underlying9 m2) trodAll_mk0))), rfl, bel.frame _, fun h => by cases h⟩

theorem over : Rows.sumsSwapRow.holds Try.pinned (OpenSpec.ofChange Rows.sumsSwapSpec) :=
  OpenClaim.holds_of_wide 6 Try.f6 rfl rfl rfl rfl rfl rfl rfl ⟨rfl, rfl, rfl, rfl, rfl⟩ rfl rfl rfl rfl rfl (by kernel_rfl) Try.func6 (by kernel_rfl)
    (of_decide_eq_true (by kernel_rfl)) (by unfold Func.isWrapper; first | (rw [if_pos (by decide +kernel)]; kernel_rfl) | (rw [if_neg (by decide +kernel)]; exact ⟨rfl, rfl⟩))
    (fun os started H enc _ => lifted os started H enc)

end Go.Proofs.Ytldjlhhjafidfaa.sumsSwap
namespace Go.Proofs.Ytldjlhhjafidfaa
theorem sumsSwap_holds : Rows.SumsSwapSaid := sumsSwap.over
#print axioms sumsSwap_holds
end Go.Proofs.Ytldjlhhjafidfaa
