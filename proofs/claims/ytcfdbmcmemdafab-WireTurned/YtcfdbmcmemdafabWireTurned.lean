/-
  For every packet, place and byte, rentrollkeep.WireTurned returns true: its frame with one byte changed, whichever, is refused; no condition but the form's own reach.
-/
import Derived.Test.YtcfdbmcmemdafabRows
import Derived.WalkKit
import Derived.ProofKit
import Derived.OpenShut
import Derived.ShutString
import Derived.SizedLaws
import Derived.Below
import Derived.Test.YtcfdbmcmemdafabFlipW
import Derived.Test.YtcfdbmcmemdafabPktIn
import Derived.Test.YtcfdbmcmemdafabPickW
import Derived.Deep.RegionHeld
import Derived.BigQuiet
namespace Go.Proofs.Ytcfdbmcmemdafab.wireTurned
open Go.ChangeShapes Go.WideShapes Go.ChangeAt Go.RowKit
open Go.ChangeMaps (open_string shut_string)
set_option linter.unusedVariables false

theorem own : ownKnob Try.prog.godebug = none := by kernel_rfl

set_option maxHeartbeats 4000000 in
theorem walk (a0 : Pkt) (a1 : Int) (a2 : Int) (w0 : a0.body.size ≤ 140737488351232) (w1 : (Lit.int .i64 a1).wf = true) (w2 : (Lit.int .u8 a2).wf = true) (w : World) :
    Calls Try.prog 8 #[pv a0, .int .i64 a1, .int .u8 a2] w fun e w' => e = .returned (.bool true) ∧ Below w.heap.size w w' := by
  have T0 : Twelve (w.alloc (.cells #[.int .i64 a0.proto, .int .i64 a0.src, .int .i64 a0.sport, .int .i64 a0.dst, .int .i64 a0.dport, .int .i64 a0.ttl, .int .i64 a0.id, .int .i64 a0.flags, .int .i64 a0.seq, .int .i64 a0.ack, .int .i64 a0.win, .string a0.body] 23)) w.heap.size #[.int .i64 a0.proto, .int .i64 a0.src, .int .i64 a0.sport, .int .i64 a0.dst, .int .i64 a0.dport, .int .i64 a0.ttl, .int .i64 a0.id, .int .i64 a0.flags, .int .i64 a0.seq, .int .i64 a0.ack, .int .i64 a0.win, .string a0.body] := heap_alloc_new w _
  have hB : Below w.heap.size w (w.alloc (.cells #[.int .i64 a0.proto, .int .i64 a0.src, .int .i64 a0.sport, .int .i64 a0.dst, .int .i64 a0.dport, .int .i64 a0.ttl, .int .i64 a0.id, .int .i64 a0.flags, .int .i64 a0.seq, .int .i64 a0.ack, .int .i64 a0.win, .string a0.body] 23)) := (Below.refl _ _).alloc (Nat.le_refl _) _
  have c0 := T0.cell
  by_cases hg : good a0 = 0
  · have h64 := (good_zero a0 hg).2.2.1
    have hfl := size_lt a0 h64
    have hsz := frame_size a0 hg
    have hs1 : (txt (frame a0)).size ≤ 104 := by omega
    have hs2 : 20 ≤ (txt (frame a0)).size := by omega
    have hw2 : 0 ≤ a2 ∧ a2 ≤ 255 := by simpa [Lit.wf, IntKind.min, IntKind.max, IntKind.bits, IntKind.signed] using w2
    have CB : ∀ w, Calls Try.prog 16 #[pv a0] w fun e w' => e = .returned (.tuple #[.string (txt (frame a0)), .int .i64 0]) ∧ Below w.heap.size w w' := by
      intro w
      have := build_any a0 w w0
      rw [built_ok a0 hg, hg] at this; exact this
    obtain ⟨m, hm, hm1⟩ : ∃ m : Nat, a1 % ((txt (frame a0)).size : Int) = (m : Int) ∧ m < (txt (frame a0)).size := by
      have hm0 := Int.emod_nonneg a1 (show ((txt (frame a0)).size : Int) ≠ 0 by omega)
      have hm1 := Int.emod_lt_of_pos a1 (show 0 < ((txt (frame a0)).size : Int) by omega)
      exact ⟨(a1 % ((txt (frame a0)).size : Int)).toNat, by omega, by omega⟩
    have CK : ∀ w, Calls Try.prog 19 #[.int .i64 a1, .int .i64 ((txt (frame a0)).size : Int)] w fun e w' => e = .returned (.int .i64 (m : Int)) ∧ w' = w := by
      intro w
      have := pick_any a1 (txt (frame a0)).size w (by omega) (by omega)
      rw [hm] at this; exact this
    by_cases hz : a2 = 0
    · subst hz
      obtain ⟨c, hx, hc⟩ := flip_byte (txt (frame a0))[m] 1 (by omega) (by omega)
      obtain ⟨eb, heb, CP⟩ : ∃ eb : Int, (eb != 0) = true ∧ ∀ w, Calls Try.prog 9 #[.string ((txt (frame a0)).extract 0 m ++ ⟨#[c]⟩ ++ (txt (frame a0)).extract (m + 1) (txt (frame a0)).size)] w fun e w' => e = .returned (.tuple #[pv p0, .int .i64 eb]) ∧ Below w.heap.size w w' := by
        have hl := txt_size (frame a0)
        have e1 := set_text (frame a0) m c (by omega)
        have hne := flip_bad a0 hg m (by omega) c (by rw [← txt_get (frame a0) m hm1]; exact hc)
        refine ⟨bad ((frame a0).set m c), by simpa using hne, fun w => ?_⟩
        have := parse_any ((txt (frame a0)).extract 0 m ++ ⟨#[c]⟩ ++ (txt (frame a0)).extract (m + 1) (txt (frame a0)).size) w (by rw [← len_list, e1]; simp; omega)
        rw [e1, parsed, if_neg hne] at this; exact this
      have HC := fun w => one_text w c
      clear hfl hsz h64 hm hc
      generalize txt (frame a0) = t0 at *
      have z1 : (0 : Int) ≤ (m : Int) := by omega
      have z2 : (m : Int) < (t0.size : Int) := by omega
      have z3 : (m : Int) ≤ (t0.size : Int) := by omega
      have z4 : (0 : Int) ≤ (m : Int) + 1 := by omega
      have z5 : (m : Int) + 1 ≤ (t0.size : Int) := by omega
      have z6 : IntKind.i64.wrap ((m : Int) + 1) = (m : Int) + 1 := wrap_i64 _ (by omega) (by omega)
      unfold pv
      go_enter Try.func8, Try.ntmps8
      go_wp2_with (first
        | (go_at_call 16; go_fit (CB _); rintro e w' ⟨rfl, hb⟩; replace T0 := T0.below hb; have c0 := T0.cell; replace hB := hB.trans (hb.mono hB.size))
        | (go_at_call 17; refine (buildsKeep_any _).mono ?_; rintro e w' ⟨rfl, hb⟩; replace T0 := T0.below hb; have c0 := T0.cell; replace hB := hB.trans (hb.mono hB.size); have HC' := HC w')
        | (go_at_call 19; go_fit (CK _); rintro e w' ⟨rfl, rfl⟩))
      go_region_held (fun _ => True) (trivial) (fail)
      go_wp2_with (first
        | (go_at_call 9; go_fit (CP _); rintro e w4 ⟨rfl, hb⟩; replace hB := below_drewn hB (hb.mono (by simp)); unfold pv p0))
      go_ret
      exact ⟨rfl, hB.alloc hB.size _⟩

    · have hz' : (a2 == 0) = false := by simpa using hz
      obtain ⟨c, hx, hc⟩ := flip_byte (txt (frame a0))[m] a2 (by omega) (by omega)
      obtain ⟨eb, heb, CP⟩ : ∃ eb : Int, (eb != 0) = true ∧ ∀ w, Calls Try.prog 9 #[.string ((txt (frame a0)).extract 0 m ++ ⟨#[c]⟩ ++ (txt (frame a0)).extract (m + 1) (txt (frame a0)).size)] w fun e w' => e = .returned (.tuple #[pv p0, .int .i64 eb]) ∧ Below w.heap.size w w' := by
        have hl := txt_size (frame a0)
        have e1 := set_text (frame a0) m c (by omega)
        have hne := flip_bad a0 hg m (by omega) c (by rw [← txt_get (frame a0) m hm1]; exact hc)
        refine ⟨bad ((frame a0).set m c), by simpa using hne, fun w => ?_⟩
        have := parse_any ((txt (frame a0)).extract 0 m ++ ⟨#[c]⟩ ++ (txt (frame a0)).extract (m + 1) (txt (frame a0)).size) w (by rw [← len_list, e1]; simp; omega)
        rw [e1, parsed, if_neg hne] at this; exact this
      have HC := fun w => one_text w c
      clear hfl hsz h64 hm hc
      generalize txt (frame a0) = t0 at *
      have z1 : (0 : Int) ≤ (m : Int) := by omega
      have z2 : (m : Int) < (t0.size : Int) := by omega
      have z3 : (m : Int) ≤ (t0.size : Int) := by omega
      have z4 : (0 : Int) ≤ (m : Int) + 1 := by omega
      have z5 : (m : Int) + 1 ≤ (t0.size : Int) := by omega
      have z6 : IntKind.i64.wrap ((m : Int) + 1) = (m : Int) + 1 := wrap_i64 _ (by omega) (by omega)
      unfold pv
      go_enter Try.func8, Try.ntmps8
      go_wp2_with (first
        | (go_at_call 16; go_fit (CB _); rintro e w' ⟨rfl, hb⟩; replace T0 := T0.below hb; have c0 := T0.cell; replace hB := hB.trans (hb.mono hB.size))
        | (go_at_call 17; refine (buildsKeep_any _).mono ?_; rintro e w' ⟨rfl, hb⟩; replace T0 := T0.below hb; have c0 := T0.cell; replace hB := hB.trans (hb.mono hB.size); have HC' := HC w')
        | (go_at_call 19; go_fit (CK _); rintro e w' ⟨rfl, rfl⟩))
      go_region_held (fun _ => True) (trivial) (fail)
      go_wp2_with (first
        | (go_at_call 9; go_fit (CP _); rintro e w4 ⟨rfl, hb⟩; replace hB := below_drewn hB (hb.mono (by simp)); unfold pv p0))
      go_ret
      exact ⟨rfl, hB.alloc hB.size _⟩

  · have hg' : (good a0 == 0) = false := by simpa using hg
    have CB : ∀ w, Calls Try.prog 16 #[pv a0] w fun e w' => e = .returned (.tuple #[.string ByteArray.empty, .int .i64 (good a0)]) ∧ Below w.heap.size w w' := by
      intro w
      have := build_any a0 w w0
      rw [built_no a0 hg] at this; exact this
    unfold pv
    go_enter Try.func8, Try.ntmps8
    go_wp2_with (first
      | (go_at_call 16; go_fit (CB _); rintro e w' ⟨rfl, hb⟩; replace T0 := T0.below hb; have c0 := T0.cell; replace hB := hB.trans (hb.mono hB.size))
      | (go_at_call 17; refine (buildsKeep_any _).mono ?_; rintro e w' ⟨rfl, hb⟩; replace T0 := T0.below hb; have c0 := T0.cell; replace hB := hB.trans (hb.mono hB.size)))
    go_ret
    exact ⟨rfl, hB⟩

set_option maxRecDepth 100000 in
theorem lifted (os : Os) (started : os.Started) (H : Type) (enc : TypeId × Value → H) :
    ReturnsInHanded {} Try.checked os 8 .any (Rows.wireTurnedSpec.pre6 enc Try.prog Try.f8 Rows.wireTurnedRow.domain false) (Rows.wireTurnedSpec.post enc Try.prog Try.f8 false true false false) := by
  refine returnsInHanded_of_change_sized (C := Try.checked) own started (by kernel_rfl) Try.func8
    (ChangeSpec.witness6 (enc := enc) (C := Try.checked) false ⟨#[], #[.agg #[.int .i64 0, .int .i64 0, .int .i64 0, .int .i64 0, .int .i64 0, .int .i64 0, .int .i64 0, .int .i64 0, .int .i64 0, .int .i64 0, .int .i64 0, .string ByteArray.empty], .int .i64 0, .int .u8 0], []⟩ 8 (by kernel_rfl) (by kernel_rfl) (by kernel_rfl) (by kernel_rfl)) ?_
  intro W base args ds gs before hval0 hW hcnd hsz0 _
  have hval : ∀ (j : Nat) t v, Try.f8.params[j]? = some t → args[j]? = some v → Value.okWide Try.prog W .any base t v := hval0
  have hW' := hW
  obtain ⟨p, q, hA0, hV, rfl, hfz, hnd⟩ := hW
  have hA : DataW.TrodAll enc Try.prog W 0 (fun _ => true) true Try.f8.params.toList args.toList ds p := hA0
  have hsz : (DataW.weightsEach Try.prog (Try.f8.params.toList ++ Rows.wireTurnedSpec.plain.varTypes Try.prog) (ds ++ gs)).all (· ≤ reachBytes) = true := hsz0
  rw [Try.params8] at hA hval hsz
  obtain ⟨v0, vs0, d0, ds0, p0, q0, hargs, rfl, rfl, h0, r0⟩ := trodAll_cons hA
  obtain ⟨v1, vs1, d1, ds1, p1, q1, rfl, rfl, rfl, h1, r1⟩ := trodAll_cons r0
  obtain ⟨v2, vs2, d2, ds2, p2, q2, rfl, rfl, rfl, h2, r2⟩ := trodAll_cons r1
  obtain ⟨rfl, rfl, rfl⟩ := trodAll_nil r2
  obtain rfl : args = #[v0, v1, v2] := by cases args; simp_all
  obtain ⟨rfl, rfl⟩ := trodVars_none hV
  obtain ⟨a0, rfl, rfl, rfl, f0, m0⟩ := open_pkt (hval 0 23 v0 rfl rfl) h0
  obtain ⟨a1, rfl, rfl, rfl, w1⟩ := open_int Try.underlying3 (hval 1 3 v1 rfl rfl) h1
  obtain ⟨a2, rfl, rfl, rfl, w2⟩ := open_int Try.underlying5 (hval 2 5 v2 rfl rfl) h2
  have w0 : a0.body.size ≤ 140737488351232 := sized_pkt hsz (j := 0) rfl rfl
  clear hA0 hval0
  simp only [List.append_nil] at hW'
  refine (walk a0 a1 a2 w0 w1 w2 W).mono fun e W' ⟨he, bel⟩ => ?_
  subst he
  exact ⟨_, rfl, _, _, _, [], [], [], hW', trodAll_mk1 (shut_bool Try.underlying4 _), (trodAll_cons_mk (shut_pkt f0 m0) (trodAll_cons_mk (shut_int Try.underlying3 w1) (trodAll_cons_mk (shut_int Try.underlying5 w2) trodAll_mk0))), rfl, bel.frame _, fun h => by cases h⟩

theorem over : Rows.wireTurnedRow.holds Try.pinned (OpenSpec.ofChange Rows.wireTurnedSpec) :=
  OpenClaim.holds_of_wide 8 Try.f8 rfl rfl rfl rfl rfl rfl rfl ⟨rfl, rfl, rfl, rfl, rfl⟩ rfl rfl rfl rfl rfl (by kernel_rfl) Try.func8 (by kernel_rfl)
    (of_decide_eq_true (by kernel_rfl)) (by unfold Func.isWrapper; first | (rw [if_pos (by decide +kernel)]; kernel_rfl) | (rw [if_neg (by decide +kernel)]; exact ⟨rfl, rfl⟩))
    (fun os started H enc _ => lifted os started H enc)

end Go.Proofs.Ytcfdbmcmemdafab.wireTurned
namespace Go.Proofs.Ytcfdbmcmemdafab
theorem wireTurned_holds : Rows.WireTurnedSaid := wireTurned.over
#print axioms wireTurned_holds
end Go.Proofs.Ytcfdbmcmemdafab
