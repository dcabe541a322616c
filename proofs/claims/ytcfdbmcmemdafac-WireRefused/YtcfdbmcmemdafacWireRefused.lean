/-
  For every packet and id, rentrollkeep.WireRefused returns true: what tells its sender that it is refused has the first 28 bytes of its frame, right checks, and is no packet itself; no condition but the form's own reach.
-/
import Derived.Test.YtcfdbmcmemdafacRows
import Derived.WalkKit
import Derived.ProofKit
import Derived.OpenShut
import Derived.ShutString
import Derived.SizedLaws
import Derived.Below
import Derived.Test.YtcfdbmcmemdafacKeepW
import Derived.Test.YtcfdbmcmemdafacPktIn
import Derived.Test.YtcfdbmcmemdafacRefuse1
import Derived.Deep.QuietTactic
import Derived.BigQuiet
namespace Go.Proofs.Ytcfdbmcmemdafac.wireRefused
open Go.ChangeShapes Go.WideShapes Go.ChangeAt Go.RowKit
open Go.ChangeMaps (open_string shut_string)
set_option linter.unusedVariables false

theorem own : ownKnob Try.prog.godebug = none := by kernel_rfl

set_option maxHeartbeats 4000000 in
theorem walk (a0 : Pkt) (a1 : Int) (w0 : a0.body.size ≤ 140737488351232) (w1 : (Lit.int .i64 a1).wf = true) (w : World) :
    Calls Try.prog 5 #[pv a0, .int .i64 a1] w fun e w' => e = .returned (.bool true) ∧ Below w.heap.size w w' := by
  have T0 : Twelve (w.alloc (.cells #[.int .i64 a0.proto, .int .i64 a0.src, .int .i64 a0.sport, .int .i64 a0.dst, .int .i64 a0.dport, .int .i64 a0.ttl, .int .i64 a0.id, .int .i64 a0.flags, .int .i64 a0.seq, .int .i64 a0.ack, .int .i64 a0.win, .string a0.body] 23)) w.heap.size #[.int .i64 a0.proto, .int .i64 a0.src, .int .i64 a0.sport, .int .i64 a0.dst, .int .i64 a0.dport, .int .i64 a0.ttl, .int .i64 a0.id, .int .i64 a0.flags, .int .i64 a0.seq, .int .i64 a0.ack, .int .i64 a0.win, .string a0.body] := heap_alloc_new w _
  have hB : Below w.heap.size w (w.alloc (.cells #[.int .i64 a0.proto, .int .i64 a0.src, .int .i64 a0.sport, .int .i64 a0.dst, .int .i64 a0.dport, .int .i64 a0.ttl, .int .i64 a0.id, .int .i64 a0.flags, .int .i64 a0.seq, .int .i64 a0.ack, .int .i64 a0.win, .string a0.body] 23)) := (Below.refl _ _).alloc (Nat.le_refl _) _
  have c0 := T0.cell
  by_cases hg : good a0 = 0
  · have h64 := (good_zero a0 hg).2.2.1
    have hfl := size_lt a0 h64
    have hpl := part_least _ (good_zero a0 hg).1
    have hsz := frame_size a0 hg
    have hl := txt_size (frame a0)
    have hs1 : (txt (frame a0)).size ≤ 104 := by omega
    have hs2 : 28 ≤ (txt (frame a0)).size := by unfold flen at hsz; omega
    have CB : ∀ w, Calls Try.prog 9 #[pv a0] w fun e w' => e = .returned (.tuple #[.string (txt (frame a0)), .int .i64 0]) ∧ Below w.heap.size w w' := by
      intro w
      have := build_any a0 w w0
      rw [built_ok a0 hg, hg] at this; exact this
    have CT : ∀ w, Calls Try.prog 13 #[.string (txt (frame a0)), .int .i64 a1] w fun e w' => e = .returned (.tuple #[.string (refS (frame a0) a1), .int .i64 (refE (frame a0) a1)]) ∧ Below w.heap.size w w' := by
      intro w
      have := refuse_any (txt (frame a0)) a1 w (by omega)
      rw [txt_list] at this; exact this
    by_cases he : refE (frame a0) a1 = 0
    · have hS : refS (frame a0) a1 = txt (refusal a0.src a1 ((frame a0).take 28)) := by unfold refS; rw [if_pos he, show pktOf (frame a0) = a0 from frame_pkt a0 hg _ _]
      rw [hS, he] at CT
      have hx : ((frame a0).take 28).length = 28 := by rw [List.length_take]; omega
      have hbd := refusal_bad a0.src a1 _ hx
      have hrl : (refusal a0.src a1 ((frame a0).take 28)).length = 56 := by unfold refusal; rw [rfr_len]; omega
      have hts : (txt (refusal a0.src a1 ((frame a0).take 28))).size = 56 := by rw [txt_size]; exact hrl
      have CP : ∀ w, Calls Try.prog 12 #[.string (txt (refusal a0.src a1 ((frame a0).take 28)))] w fun e w' => e = .returned (.tuple #[pv p0, .int .i64 4]) ∧ Below w.heap.size w w' := by
        intro w
        have := parse_any (txt (refusal a0.src a1 ((frame a0).take 28))) w (by omega)
        rw [txt_list, hbd, parsed, hbd, if_neg (by omega)] at this; exact this
      have X1 : (txt (refusal a0.src a1 ((frame a0).take 28))).extract 28 56 = (txt (frame a0)).extract 0 28 := by
        rw [ext_txt, ext_txt, txt_list, txt_list]
        have e : (refusal a0.src a1 ((frame a0).take 28)).drop 28 = (frame a0).take 28 := rfl
        rw [e, List.take_of_length_le (by rw [hx]; omega)]
        rfl
      have X2 : sumT ((txt (refusal a0.src a1 ((frame a0).take 28))).extract 0 20) = 65535 := by
        unfold sumT; rw [ext_list, txt_list]; exact refusal_head a0.src a1
      have X3 : sumT ((txt (refusal a0.src a1 ((frame a0).take 28))).extract 20 56) = 65535 := by
        unfold sumT; rw [ext_list, txt_list, List.take_of_length_le (by rw [List.length_drop]; omega)]; exact refusal_part _
      have X4 : ∀ h, (((txt (refusal a0.src a1 ((frame a0).take 28)))[20]'h).toNat : Int) = 3 := fun h => rfl
      have X5 : ∀ h, (((txt (refusal a0.src a1 ((frame a0).take 28)))[21]'h).toNat : Int) = 13 := fun h => rfl
      have XS : ∀ a b, ((txt (refusal a0.src a1 ((frame a0).take 28))).extract a b).size ≤ 562949953421312 := by
        intro a b; rw [ByteArray.size_extract]; omega
      clear hS he hfl hsz h64 hpl hl hx hbd hrl
      generalize txt (frame a0) = t0 at *
      generalize txt (refusal a0.src a1 ((frame a0).take 28)) = t1 at *
      have z1 : (28 : Int) ≤ (t0.size : Int) := by omega
      have X6 : (56 : Nat) = t1.size := hts.symm
      clear X6
      unfold pv
      go_enter Try.func5, Try.ntmps5
      go_wp2_with (first
        | (go_at_call 9; go_fit (CB _); rintro e w' ⟨rfl, hb⟩; replace T0 := T0.below hb; have c0 := T0.cell; replace hB := hB.trans (hb.mono hB.size))
        | (go_at_call 13; go_fit (CT _); rintro e w' ⟨rfl, hb⟩; replace T0 := T0.below hb; have c0 := T0.cell; replace hB := hB.trans (hb.mono hB.size))
        | (go_at_call 11; refine (buildsKeep_any _).mono ?_; rintro e w' ⟨rfl, hb⟩; replace T0 := T0.below hb; have c0 := T0.cell; replace hB := hB.trans (hb.mono hB.size))
        | (go_at_call 12; go_fit (CP _); rintro e w3 ⟨rfl, hb⟩; replace T0 := T0.below hb; have c0 := T0.cell; replace hB := hB.trans (hb.mono hB.size); unfold pv p0))
      go_quiet ((go_at_call 14; exact Calls.quiet_of_same (ofsum_any _ _ (XS _ _))))
      go_wp2
      go_ret
      exact ⟨rfl, (hB.alloc hB.size _).trans ((below_drewN nq _).mono (hB.alloc hB.size _).size)⟩
    · have hS : refS (frame a0) a1 = ByteArray.empty := by unfold refS; rw [if_neg he]
      rw [hS] at CT
      generalize refE (frame a0) a1 = te at *
      have he' : (te == 0) = false := by simpa using he
      generalize txt (frame a0) = t0 at *
      unfold pv
      go_enter Try.func5, Try.ntmps5
      go_wp2_with (first
        | (go_at_call 9; go_fit (CB _); rintro e w' ⟨rfl, hb⟩; replace T0 := T0.below hb; have c0 := T0.cell; replace hB := hB.trans (hb.mono hB.size))
        | (go_at_call 13; go_fit (CT _); rintro e w' ⟨rfl, hb⟩; replace T0 := T0.below hb; have c0 := T0.cell; replace hB := hB.trans (hb.mono hB.size))
        | (go_at_call 11; refine (buildsKeep_any _).mono ?_; rintro e w' ⟨rfl, hb⟩; replace T0 := T0.below hb; have c0 := T0.cell; replace hB := hB.trans (hb.mono hB.size)))
      go_ret
      exact ⟨rfl, hB⟩
  · have hg' : (good a0 == 0) = false := by simpa using hg
    have CB : ∀ w, Calls Try.prog 9 #[pv a0] w fun e w' => e = .returned (.tuple #[.string ByteArray.empty, .int .i64 (good a0)]) ∧ Below w.heap.size w w' := by
      intro w
      have := build_any a0 w w0
      rw [built_no a0 hg] at this; exact this
    have CT : ∀ w, Calls Try.prog 13 #[.string ByteArray.empty, .int .i64 a1] w fun e w' => e = .returned (.tuple #[.string ByteArray.empty, .int .i64 1]) ∧ Below w.heap.size w w' := by
      intro w
      have := refuse_any ByteArray.empty a1 w (by decide)
      have e1 : bad (ByteArray.empty.data.toList) = 1 := by decide
      have e2 : refE (ByteArray.empty.data.toList) a1 = 1 := by unfold refE; rw [e1, if_pos (by omega)]
      have e3 : refS (ByteArray.empty.data.toList) a1 = ByteArray.empty := by unfold refS; rw [e2, if_neg (by omega)]
      rw [e2, e3] at this; exact this
    generalize good a0 = ge at *
    unfold pv
    go_enter Try.func5, Try.ntmps5
    go_wp2_with (first
      | (go_at_call 9; go_fit (CB _); rintro e w' ⟨rfl, hb⟩; replace T0 := T0.below hb; have c0 := T0.cell; replace hB := hB.trans (hb.mono hB.size))
      | (go_at_call 13; go_fit (CT _); rintro e w' ⟨rfl, hb⟩; replace T0 := T0.below hb; have c0 := T0.cell; replace hB := hB.trans (hb.mono hB.size))
      | (go_at_call 11; refine (buildsKeep_any _).mono ?_; rintro e w' ⟨rfl, hb⟩; replace T0 := T0.below hb; have c0 := T0.cell; replace hB := hB.trans (hb.mono hB.size)))
    go_ret
    exact ⟨rfl, hB⟩

set_option maxRecDepth 100000 in
theorem lifted (os : Os) (started : os.Started) (H : Type) (enc : TypeId × Value → H) :
    ReturnsInHanded {} Try.checked os 5 .any (Rows.wireRefusedSpec.pre6 enc Try.prog Try.f5 Rows.wireRefusedRow.domain false) (Rows.wireRefusedSpec.post enc Try.prog Try.f5 false true false false) := by
  refine returnsInHanded_of_change_sized (C := Try.checked) own started (by kernel_rfl) Try.func5
    (ChangeSpec.witness6 (enc := enc) (C := Try.checked) false ⟨#[], #[.agg #[.int .i64 0, .int .i64 0, .int .i64 0, .int .i64 0, .int .i64 0, .int .i64 0, .int .i64 0, .int .i64 0, .int .i64 0, .int .i64 0, .int .i64 0, .string ByteArray.empty], .int .i64 0], []⟩ 8 (by kernel_rfl) (by kernel_rfl) (by kernel_rfl) (by kernel_rfl)) ?_
  intro W base args ds gs before hval0 hW hcnd hsz0 _
  have hval : ∀ (j : Nat) t v, Try.f5.params[j]? = some t → args[j]? = some v → Value.okWide Try.prog W .any base t v := hval0
  have hW' := hW
  obtain ⟨p, q, hA0, hV, rfl, hfz, hnd⟩ := hW
  have hA : DataW.TrodAll enc Try.prog W 0 (fun _ => true) true Try.f5.params.toList args.toList ds p := hA0
  have hsz : (DataW.weightsEach Try.prog (Try.f5.params.toList ++ Rows.wireRefusedSpec.plain.varTypes Try.prog) (ds ++ gs)).all (· ≤ reachBytes) = true := hsz0
  rw [Try.params5] at hA hval hsz
  obtain ⟨v0, vs0, d0, ds0, p0, q0, hargs, rfl, rfl, h0, r0⟩ := trodAll_cons hA
  obtain ⟨v1, vs1, d1, ds1, p1, q1, rfl, rfl, rfl, h1, r1⟩ := trodAll_cons r0
  obtain ⟨rfl, rfl, rfl⟩ := trodAll_nil r1
  obtain rfl : args = #[v0, v1] := by cases args; simp_all
  obtain ⟨rfl, rfl⟩ := trodVars_none hV
  obtain ⟨a0, rfl, rfl, rfl, f0, m0⟩ := open_pkt (hval 0 23 v0 rfl rfl) h0
  obtain ⟨a1, rfl, rfl, rfl, w1⟩ := open_int Try.underlying3 (hval 1 3 v1 rfl rfl) h1
  have w0 : a0.body.size ≤ 140737488351232 := sized_pkt hsz (j := 0) rfl rfl
  clear hA0 hval0
  simp only [List.append_nil] at hW'
  refine (walk a0 a1 w0 w1 W).mono fun e W' ⟨he, bel⟩ => ?_
  subst he
  exact ⟨_, rfl, _, _, _, [], [], [], hW', trodAll_mk1 (shut_bool Try.underlying4 _), (trodAll_cons_mk (shut_pkt f0 m0) (trodAll_cons_mk (shut_int Try.underlying3 w1) trodAll_mk0)), rfl, bel.frame _, fun h => by cases h⟩

theorem over : Rows.wireRefusedRow.holds Try.pinned (OpenSpec.ofChange Rows.wireRefusedSpec) :=
  OpenClaim.holds_of_wide 5 Try.f5 rfl rfl rfl rfl rfl rfl rfl ⟨rfl, rfl, rfl, rfl, rfl⟩ rfl rfl rfl rfl rfl (by kernel_rfl) Try.func5 (by kernel_rfl)
    (of_decide_eq_true (by kernel_rfl)) (by unfold Func.isWrapper; first | (rw [if_pos (by decide +kernel)]; kernel_rfl) | (rw [if_neg (by decide +kernel)]; exact ⟨rfl, rfl⟩))
    (fun os started H enc _ => lifted os started H enc)

end Go.Proofs.Ytcfdbmcmemdafac.wireRefused
namespace Go.Proofs.Ytcfdbmcmemdafac
theorem wireRefused_holds : Rows.WireRefusedSaid := wireRefused.over
#print axioms wireRefused_holds
end Go.Proofs.Ytcfdbmcmemdafac
