/-
  For every two texts and two numbers, rentrollkeep.SumsChange returns true: what sums.Update says of the change of a word is what sums.Check says anew, and back; no condition but the form's own reach.
-/
import Derived.Test.YtldjlhhjafidfaaRows
import Derived.WalkKit
import Derived.ProofKit
import Derived.OpenShut
import Derived.ShutString
import Derived.SizedLaws
import Derived.Below
import Derived.Test.YtldjlhhjafidfaaChange
namespace Go.Proofs.Ytldjlhhjafidfaa.sumsChange
open Go.ChangeShapes Go.WideShapes Go.ChangeAt Go.RowKit
open Go.ChangeMaps (open_string shut_string)
set_option linter.unusedVariables false

theorem own : ownKnob Try.prog.godebug = none := by kernel_rfl

theorem walk (a0 : ByteArray) (a1 : Int) (a2 : Int) (a3 : ByteArray) (w0 : a0.size ≤ 140737488351232) (w1 : (Lit.int .i64 a1).wf = true) (w2 : (Lit.int .i64 a2).wf = true) (w3 : a3.size ≤ 140737488351232) (w : World) :
    Calls Try.prog 7 #[.string a0, .int .i64 a1, .int .i64 a2, .string a3] w fun e w' => e = .returned (.bool true) ∧ Below w.heap.size w w' := by
  have za : (a0 ++ nought).size = a0.size + 1 := nought_size a0
  have bm : 0 ≤ a1 % 65536 ∧ a1 % 65536 ≤ 65535 := by omega
  have bn : 0 ≤ a2 % 65536 ∧ a2 % 65536 ≤ 65535 := by omega
  by_cases hp : a0.size % 2 = 0
  · have hp' : ((a0.size : Int) % 2 == 1) = false := by simp; omega
    have zt := there_size a0
    have hev : (a0 ++ there).size % 2 = 0 := by rw [zt]; omega
    have hT := there_pos a0 hp
    have f1 := change_says (a0 ++ there) a3 _ _ hev hT bm.1 bm.2 bn.1 bn.2
    have f2 := change_says (a0 ++ there) a3 _ _ hev hT bn.1 bn.2 bm.1 bm.2
    have f3 := change_says (a0 ++ there) a3 _ _ hev hT bm.1 bm.2 bm.1 bm.2
    have z1 := cat_size (a0 ++ there) (wordB (a1 % 65536)); have z2 := cat_size (a0 ++ there) (wordB (a2 % 65536))
    have z3 := cat_size (a0 ++ there ++ wordB (a1 % 65536)) a3; have z4 := cat_size (a0 ++ there ++ wordB (a2 % 65536)) a3
    have z5 := wordB_size (a1 % 65536); have z6 := wordB_size (a2 % 65536)
    have s1 := S_bd (a0 ++ there ++ wordB (a1 % 65536) ++ a3); have s2 := S_bd (a0 ++ there ++ wordB (a2 % 65536) ++ a3)
    clear hT hev
    unfold there at *
    unfold nought at *
    go_enter Try.func7, Try.ntmps7
    go_wp2_with (first | (go_at_call 19; refine (pick_any _ _).mono ?_; rintro e w' ⟨rfl, rfl⟩) | (go_at_call 17; refine (word_any _ _ (by omega) (by omega)).mono ?_; rintro e wn ⟨rfl, hbn⟩) | (go_at_call 10; refine (checkS_any _ _ (by omega)).mono ?_; rintro e w' ⟨rfl, rfl⟩) | (go_at_call 15; refine (upd_any _ _ _ _).mono ?_; rintro e w' ⟨rfl, rfl⟩) | (go_at_call 18; refine (addsKeep_any _).mono ?_; rintro e w' ⟨rfl, rfl⟩))
    go_ret
    rename_i hba
    exact ⟨rfl, hba.trans (hbn.mono hba.size)⟩
  · have hp' : ((a0.size : Int) % 2 == 1) = true := by simp; omega
    have zt := there_size (a0 ++ nought)
    have hev : ((a0 ++ nought) ++ there).size % 2 = 0 := by rw [zt, za]; omega
    have hT := there_pos (a0 ++ nought) (by rw [za]; omega)
    have f1 := change_says ((a0 ++ nought) ++ there) a3 _ _ hev hT bm.1 bm.2 bn.1 bn.2
    have f2 := change_says ((a0 ++ nought) ++ there) a3 _ _ hev hT bn.1 bn.2 bm.1 bm.2
    have f3 := change_says ((a0 ++ nought) ++ there) a3 _ _ hev hT bm.1 bm.2 bm.1 bm.2
    have z1 := cat_size ((a0 ++ nought) ++ there) (wordB (a1 % 65536)); have z2 := cat_size ((a0 ++ nought) ++ there) (wordB (a2 % 65536))
    have z3 := cat_size ((a0 ++ nought) ++ there ++ wordB (a1 % 65536)) a3; have z4 := cat_size ((a0 ++ nought) ++ there ++ wordB (a2 % 65536)) a3
    have z5 := wordB_size (a1 % 65536); have z6 := wordB_size (a2 % 65536)
    have s1 := S_bd ((a0 ++ nought) ++ there ++ wordB (a1 % 65536) ++ a3); have s2 := S_bd ((a0 ++ nought) ++ there ++ wordB (a2 % 65536) ++ a3)
    clear hT hev
    unfold there at *
    unfold nought at *
    go_enter Try.func7, Try.ntmps7
    go_wp2_with (first | (go_at_call 19; refine (pick_any _ _).mono ?_; rintro e w' ⟨rfl, rfl⟩) | (go_at_call 17; refine (word_any _ _ (by omega) (by omega)).mono ?_; rintro e wn ⟨rfl, hbn⟩) | (go_at_call 10; refine (checkS_any _ _ (by omega)).mono ?_; rintro e w' ⟨rfl, rfl⟩) | (go_at_call 15; refine (upd_any _ _ _ _).mono ?_; rintro e w' ⟨rfl, rfl⟩) | (go_at_call 18; refine (addsKeep_any _).mono ?_; rintro e w' ⟨rfl, rfl⟩))
    go_ret
    rename_i hba
    exact ⟨rfl, hba.trans (hbn.mono hba.size)⟩

set_option maxRecDepth 100000 in
theorem lifted (os : Os) (started : os.Started) (H : Type) (enc : TypeId × Value → H) :
    ReturnsInHanded {} Try.checked os 7 .any (Rows.sumsChangeSpec.pre6 enc Try.prog Try.f7 Rows.sumsChangeRow.domain false) (Rows.sumsChangeSpec.post enc Try.prog Try.f7 false true false false) := by
  refine returnsInHanded_of_change_sized (C := Try.checked) own started (by kernel_rfl) Try.func7
    (ChangeSpec.witness6 (enc := enc) (C := Try.checked) false ⟨#[], #[.string ByteArray.empty, .int .i64 0, .int .i64 0, .string ByteArray.empty], []⟩ 8 (by kernel_rfl) (by kernel_rfl) (by kernel_rfl) (by kernel_rfl)) ?_
  intro W base args ds gs before hval0 hW hcnd hsz0 _
  have hval : ∀ (j : Nat) t v, Try.f7.params[j]? = some t → args[j]? = some v → Value.okWide Try.prog W .any base t v := hval0
  have hW' := hW
  obtain ⟨p, q, hA0, hV, rfl, hfz, hnd⟩ := hW
  have hA : DataW.TrodAll enc Try.prog W 0 (fun _ => true) true Try.f7.params.toList args.toList ds p := hA0
  have hsz : (DataW.weightsEach Try.prog (Try.f7.params.toList ++ Rows.sumsChangeSpec.plain.varTypes Try.prog) (ds ++ gs)).all (· ≤ reachBytes) = true := hsz0
  rw [Try.params7] at hA hval hsz
  obtain ⟨v0, vs0, d0, ds0, p0, q0, hargs, rfl, rfl, h0, r0⟩ := trodAll_cons hA
  obtain ⟨v1, vs1, d1, ds1, p1, q1, rfl, rfl, rfl, h1, r1⟩ := trodAll_cons r0
  obtain ⟨v2, vs2, d2, ds2, p2, q2, rfl, rfl, rfl, h2, r2⟩ := trodAll_cons r1
  obtain ⟨v3, vs3, d3, ds3, p3, q3, rfl, rfl, rfl, h3, r3⟩ := trodAll_cons r2
  obtain ⟨rfl, rfl, rfl⟩ := trodAll_nil r3
  obtain rfl : args = #[v0, v1, v2, v3] := by cases args; simp_all
  obtain ⟨rfl, rfl⟩ := trodVars_none hV
  obtain ⟨a0, rfl, rfl, rfl, m0⟩ := open_string Try.underlying9 (hval 0 9 v0 rfl rfl) h0
  obtain ⟨a1, rfl, rfl, rfl, w1⟩ := open_int Try.underlying3 (hval 1 3 v1 rfl rfl) h1
  obtain ⟨a2, rfl, rfl, rfl, w2⟩ := open_int Try.underlying3 (hval 2 3 v2 rfl rfl) h2
  obtain ⟨a3, rfl, rfl, rfl, m3⟩ := open_string Try.underlying9 (hval 3 9 v3 rfl rfl) h3
  have w0 : a0.size ≤ 140737488351232 := by
    have := sized_string hsz (j := 0) (t := 9) rfl rfl
    simpa [reachBytes] using this
  have w3 : a3.size ≤ 140737488351232 := by
    have := sized_string hsz (j := 3) (t := 9) rfl rfl
    simpa [reachBytes] using this
  clear hA0 hval0
  simp only [List.append_nil] at hW'
  refine (walk a0 a1 a2 a3 w0 w1 w2 w3 W).mono fun e W' ⟨he, bel⟩ => ?_
  subst he
  exact ⟨_, rfl, _, _, _, [], [], [], hW', trodAll_mk1 (shut_bool Try.underlying4 _), (trodAll_cons_mk (shut_string Try.underlying9 m0) (trodAll_cons_mk (shut_int Try.underlying3 w1) (trodAll_cons_mk (shut_int Try.underlying3 w2) (trodAll_cons_mk (shut_string Try.underlying9 m3) trodAll_mk0)))), rfl, bel.frame _, fun h => by cases h⟩

theorem over : Rows.sumsChangeRow.holds Try.pinned (OpenSpec.ofChange Rows.sumsChangeSpec) :=
  OpenClaim.holds_of_wide 7 Try.f7 rfl rfl rfl rfl rfl rfl rfl ⟨rfl, rfl, rfl, rfl, rfl⟩ rfl rfl rfl rfl rfl (by kernel_rfl) Try.func7 (by kernel_rfl)
    (of_decide_eq_true (by kernel_rfl)) (by unfold Func.isWrapper; first | (rw [if_pos (by decide +kernel)]; kernel_rfl) | (rw [if_neg (by decide +kernel)]; exact ⟨rfl, rfl⟩))
    (fun os started H enc _ => lifted os started H enc)

end Go.Proofs.Ytldjlhhjafidfaa.sumsChange
namespace Go.Proofs.Ytldjlhhjafidfaa
theorem sumsChange_holds : Rows.SumsChangeSaid := sumsChange.over
#print axioms sumsChange_holds
end Go.Proofs.Ytldjlhhjafidfaa
