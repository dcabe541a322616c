/-
  For every packet, side, address and port, rentrollkeep.WireRound returns true: a frame that is turned and turned back is as it was, but for its time to live; no condition but the form's own reach.
-/
import Derived.Test.YtcfdbmcmemdafacRows
import Derived.WalkKit
import Derived.ProofKit
import Derived.OpenShut
import Derived.ShutString
import Derived.SizedLaws
import Derived.Below
import Derived.Test.YtcfdbmcmemdafacRound
import Derived.Test.YtcfdbmcmemdafacPktIn
namespace Go.Proofs.Ytcfdbmcmemdafac.wireRound
open Go.ChangeShapes Go.WideShapes Go.ChangeAt Go.RowKit
open Go.ChangeMaps (open_string shut_string)
set_option linter.unusedVariables false

theorem own : ownKnob Try.prog.godebug = none := by kernel_rfl

set_option maxHeartbeats 4000000 in
theorem walk (a0 : Pkt) (a1 : Int) (a2 : Int) (a3 : Int) (w0 : a0.body.size ≤ 140737488351232) (w1 : (Lit.int .i64 a1).wf = true) (w2 : (Lit.int .i64 a2).wf = true) (w3 : (Lit.int .i64 a3).wf = true) (w : World) :
    Calls Try.prog 4 #[pv a0, .int .i64 a1, .int .i64 a2, .int .i64 a3] w fun e w' => e = .returned (.bool true) ∧ Below w.heap.size w w' := by
  have T0 : Twelve (w.alloc (.cells #[.int .i64 a0.proto, .int .i64 a0.src, .int .i64 a0.sport, .int .i64 a0.dst, .int .i64 a0.dport, .int .i64 a0.ttl, .int .i64 a0.id, .int .i64 a0.flags, .int .i64 a0.seq, .int .i64 a0.ack, .int .i64 a0.win, .string a0.body] 23)) w.heap.size #[.int .i64 a0.proto, .int .i64 a0.src, .int .i64 a0.sport, .int .i64 a0.dst, .int .i64 a0.dport, .int .i64 a0.ttl, .int .i64 a0.id, .int .i64 a0.flags, .int .i64 a0.seq, .int .i64 a0.ack, .int .i64 a0.win, .string a0.body] := heap_alloc_new w _
  have hB : Below w.heap.size w (w.alloc (.cells #[.int .i64 a0.proto, .int .i64 a0.src, .int .i64 a0.sport, .int .i64 a0.dst, .int .i64 a0.dport, .int .i64 a0.ttl, .int .i64 a0.id, .int .i64 a0.flags, .int .i64 a0.seq, .int .i64 a0.ack, .int .i64 a0.win, .string a0.body] 23)) := (Below.refl _ _).alloc (Nat.le_refl _) _
  have c0 := T0.cell
  by_cases hg : good a0 = 0
  · have h64 := (good_zero a0 hg).2.2.1
    have R := (range_iff a0).1 (good_zero a0 hg).2.1
    have hfl := size_lt a0 h64
    have hsz := frame_size a0 hg
    have hs1 : (txt (frame a0)).size ≤ 104 := by omega
    have CB : ∀ w, Calls Try.prog 9 #[pv a0] w fun e w' => e = .returned (.tuple #[.string (txt (frame a0)), .int .i64 0]) ∧ Below w.heap.size w w' := by
      intro w
      have := build_any a0 w w0
      rw [built_ok a0 hg, hg] at this; exact this
    have CT : ∀ w, Calls Try.prog 10 #[.string (txt (frame a0)), .int .i64 a1, .int .i64 a2, .int .i64 a3] w fun e w' => e = .returned (.tuple #[.string (turnS (frame a0) a1 a2 a3), .int .i64 (turnE (frame a0) a1 a2 a3)]) ∧ Below w.heap.size w w' := by
      intro w
      have := turn_any (txt (frame a0)) a1 a2 a3 w (by omega)
      rw [txt_list] at this; exact this
    by_cases he : turnE (frame a0) a1 a2 a3 = 0
    · obtain ⟨hS, hq, ht1, hsd⟩ := turn_frame a0 a1 a2 a3 hg he
      have AG := turn_again a0 a1 a2 a3 hg he
      rw [hS, he] at CT
      have hq64 := (good_zero _ hq).2.2.1
      have hqs := frame_size _ hq
      have hqf := size_lt _ hq64
      have CU0 : ∀ x y w, Calls Try.prog 10 #[.string (txt (frame (turned a0 a1 a2 a3))), .int .i64 a1, .int .i64 x, .int .i64 y] w fun e w' => e = .returned (.tuple #[.string (turnS (frame (turned a0 a1 a2 a3)) a1 x y), .int .i64 (turnE (frame (turned a0 a1 a2 a3)) a1 x y)]) ∧ Below w.heap.size w w' := by
        intro x y w
        have := turn_any (txt (frame (turned a0 a1 a2 a3))) a1 x y w (by omega)
        rw [txt_list] at this; exact this
      have r1 : 1 ≤ a0.ttl := by omega
      have r2 : a0.ttl ≤ 255 := by omega
      by_cases h2 : a0.ttl = 2
      · have AG' := AG.1 h2
        have h2' : (a0.ttl == 2) = true := by simpa using h2
        have CP : ∀ w, Calls Try.prog 12 #[.string ByteArray.empty] w fun e w' => e = .returned (.tuple #[pv p0, .int .i64 1]) ∧ Below w.heap.size w w' := by
          intro w
          have := parse_any ByteArray.empty w (by decide)
          have e1 : bad (ByteArray.empty.data.toList) = 1 := by decide
          rw [e1, parsed, e1, if_neg (by omega)] at this; exact this
        rcases hsd with rfl | rfl
        · have CU := CU0 a0.src a0.sport
          rw [turnS, show turnE (frame (turned a0 0 a2 a3)) 0 a0.src a0.sport = 12 from AG', if_neg (by omega)] at CU
          clear CU0 AG AG' hS hq he hfl hsz h64 hq64 hqs hqf R ht1 h2
          generalize txt (frame a0) = t0 at *
          generalize txt (frame (turned a0 0 a2 a3)) = t1 at *
          unfold pv
          go_enter Try.func4, Try.ntmps4
          go_wp2_with (first
            | (go_at_call 9; go_fit (CB _); rintro e w' ⟨rfl, hb⟩; replace T0 := T0.below hb; have c0 := T0.cell; replace hB := hB.trans (hb.mono hB.size))
            | (go_at_call 10; go_fit (CT _); rintro e w' ⟨rfl, hb⟩; replace T0 := T0.below hb; have c0 := T0.cell; replace hB := hB.trans (hb.mono hB.size))
            | (go_at_call 11; refine (buildsKeep_any _).mono ?_; rintro e w' ⟨rfl, hb⟩; replace T0 := T0.below hb; have c0 := T0.cell; replace hB := hB.trans (hb.mono hB.size)))
          go_quiet (fail)
          replace T0 := T0.drewN nq
          have c0 := T0.cell
          replace hB := hB.trans ((below_drewN nq _).mono hB.size)
          go_wp2_with (first
            | (go_at_call 10; go_fit (CU _); rintro e w' ⟨rfl, hb⟩; replace T0 := T0.below hb; have c0 := T0.cell; replace hB := hB.trans (hb.mono hB.size))
            | (go_at_call 12; go_fit (CP _); rintro e w' ⟨rfl, hb⟩; replace T0 := T0.below hb; have c0 := T0.cell; replace hB := hB.trans (hb.mono hB.size); unfold pv p0; have l0 := T0.lt))
          go_ret
          exact ⟨rfl, hB.alloc hB.size _⟩
        · have CU := CU0 a0.dst a0.dport
          rw [turnS, show turnE (frame (turned a0 1 a2 a3)) 1 a0.dst a0.dport = 12 from AG', if_neg (by omega)] at CU
          clear CU0 AG AG' hS hq he hfl hsz h64 hq64 hqs hqf R ht1 h2
          generalize txt (frame a0) = t0 at *
          generalize txt (frame (turned a0 1 a2 a3)) = t1 at *
          unfold pv
          go_enter Try.func4, Try.ntmps4
          go_wp2_with (first
            | (go_at_call 9; go_fit (CB _); rintro e w' ⟨rfl, hb⟩; replace T0 := T0.below hb; have c0 := T0.cell; replace hB := hB.trans (hb.mono hB.size))
            | (go_at_call 10; go_fit (CT _); rintro e w' ⟨rfl, hb⟩; replace T0 := T0.below hb; have c0 := T0.cell; replace hB := hB.trans (hb.mono hB.size))
            | (go_at_call 11; refine (buildsKeep_any _).mono ?_; rintro e w' ⟨rfl, hb⟩; replace T0 := T0.below hb; have c0 := T0.cell; replace hB := hB.trans (hb.mono hB.size)))
          go_quiet (fail)
          generalize nq = n1 at *
          have c1 := (T0.drewN n1).cell
          go_wp2
          go_quiet (fail)
          replace T0 := T0.drewN (n1 + nq)
          have c0 := T0.cell
          replace hB := hB.trans ((below_drewN (n1 + nq) _).mono hB.size)
          go_wp2_with (first
            | (go_at_call 10; go_fit (CU _); rintro e w' ⟨rfl, hb⟩; replace T0 := T0.below hb; have c0 := T0.cell; replace hB := hB.trans (hb.mono hB.size))
            | (go_at_call 12; go_fit (CP _); rintro e w' ⟨rfl, hb⟩; replace T0 := T0.below hb; have c0 := T0.cell; replace hB := hB.trans (hb.mono hB.size); unfold pv p0; have l0 := T0.lt))
          go_ret
          exact ⟨rfl, hB.alloc hB.size _⟩
      · obtain ⟨AE, AT⟩ := AG.2 h2
        have h2' : (a0.ttl == 2) = false := by simpa using h2
        obtain ⟨hS2, hr, _, _⟩ := turn_frame _ a1 _ _ hq AE
        rw [AT] at hS2 hr
        have hr64 := (good_zero _ hr).2.2.1
        have hrs := frame_size _ hr
        have hrf := size_lt _ hr64
        have CP : ∀ w, Calls Try.prog 12 #[.string (txt (frame { a0 with ttl := a0.ttl - 1 - 1 }))] w fun e w' => e = .returned (.tuple #[.agg #[.int .i64 a0.proto, .int .i64 a0.src, .int .i64 a0.sport, .int .i64 a0.dst, .int .i64 a0.dport, .int .i64 (a0.ttl - 1 - 1), .int .i64 a0.id, .int .i64 a0.flags, .int .i64 a0.seq, .int .i64 a0.ack, .int .i64 a0.win, .string a0.body], .int .i64 0]) ∧ Below w.heap.size w w' := by
          intro w
          have hbk := frame_back _ hr
          have := parse_any (txt (frame { a0 with ttl := a0.ttl - 1 - 1 })) w (by omega)
          rw [txt_list, hbk.1, hbk.2] at this; exact this
        rcases hsd with rfl | rfl
        · have CU := CU0 a0.src a0.sport
          rw [show turnE (frame (turned a0 0 a2 a3)) 0 a0.src a0.sport = 0 from AE, show turnS (frame (turned a0 0 a2 a3)) 0 a0.src a0.sport = _ from hS2] at CU
          clear CU0 AG AE AT hS hS2 hr hq he hfl hsz h64 hq64 hqs hqf R ht1 h2 hr64 hrs hrf
          generalize txt (frame a0) = t0 at *
          generalize txt (frame (turned a0 0 a2 a3)) = t1 at *
          generalize txt (frame { a0 with ttl := a0.ttl - 1 - 1 }) = t2 at *
          unfold pv
          go_enter Try.func4, Try.ntmps4
          go_wp2_with (first
            | (go_at_call 9; go_fit (CB _); rintro e w' ⟨rfl, hb⟩; replace T0 := T0.below hb; have c0 := T0.cell; replace hB := hB.trans (hb.mono hB.size))
            | (go_at_call 10; go_fit (CT _); rintro e w' ⟨rfl, hb⟩; replace T0 := T0.below hb; have c0 := T0.cell; replace hB := hB.trans (hb.mono hB.size))
            | (go_at_call 11; refine (buildsKeep_any _).mono ?_; rintro e w' ⟨rfl, hb⟩; replace T0 := T0.below hb; have c0 := T0.cell; replace hB := hB.trans (hb.mono hB.size)))
          go_quiet (fail)
          replace T0 := T0.drewN nq
          have c0 := T0.cell
          replace hB := hB.trans ((below_drewN nq _).mono hB.size)
          go_wp2_with (first
            | (go_at_call 10; go_fit (CU _); rintro e w' ⟨rfl, hb⟩; replace T0 := T0.below hb; have c0 := T0.cell; replace hB := hB.trans (hb.mono hB.size))
            | (go_at_call 12; go_fit (CP _); rintro e w' ⟨rfl, hb⟩; replace T0 := T0.below hb; have c0 := T0.cell; replace hB := hB.trans (hb.mono hB.size); have l0 := T0.lt))
          go_ret
          exact ⟨rfl, hB.alloc hB.size _⟩
        · have CU := CU0 a0.dst a0.dport
          rw [show turnE (frame (turned a0 1 a2 a3)) 1 a0.dst a0.dport = 0 from AE, show turnS (frame (turned a0 1 a2 a3)) 1 a0.dst a0.dport = _ from hS2] at CU
          clear CU0 AG AE AT hS hS2 hr hq he hfl hsz h64 hq64 hqs hqf R ht1 h2 hr64 hrs hrf
          generalize txt (frame a0) = t0 at *
          generalize txt (frame (turned a0 1 a2 a3)) = t1 at *
          generalize txt (frame { a0 with ttl := a0.ttl - 1 - 1 }) = t2 at *
          unfold pv
          go_enter Try.func4, Try.ntmps4
          go_wp2_with (first
            | (go_at_call 9; go_fit (CB _); rintro e w' ⟨rfl, hb⟩; replace T0 := T0.below hb; have c0 := T0.cell; replace hB := hB.trans (hb.mono hB.size))
            | (go_at_call 10; go_fit (CT _); rintro e w' ⟨rfl, hb⟩; replace T0 := T0.below hb; have c0 := T0.cell; replace hB := hB.trans (hb.mono hB.size))
            | (go_at_call 11; refine (buildsKeep_any _).mono ?_; rintro e w' ⟨rfl, hb⟩; replace T0 := T0.below hb; have c0 := T0.cell; replace hB := hB.trans (hb.mono hB.size)))
          go_quiet (fail)
          generalize nq = n1 at *
          have c1 := (T0.drewN n1).cell
          go_wp2
          go_quiet (fail)
          replace T0 := T0.drewN (n1 + nq)
          have c0 := T0.cell
          replace hB := hB.trans ((below_drewN (n1 + nq) _).mono hB.size)
          go_wp2_with (first
            | (go_at_call 10; go_fit (CU _); rintro e w' ⟨rfl, hb⟩; replace T0 := T0.below hb; have c0 := T0.cell; replace hB := hB.trans (hb.mono hB.size))
            | (go_at_call 12; go_fit (CP _); rintro e w' ⟨rfl, hb⟩; replace T0 := T0.below hb; have c0 := T0.cell; replace hB := hB.trans (hb.mono hB.size); have l0 := T0.lt))
          go_ret
          exact ⟨rfl, hB.alloc hB.size _⟩
    · have hS : turnS (frame a0) a1 a2 a3 = ByteArray.empty := by unfold turnS; rw [if_neg he]
      rw [hS] at CT
      generalize turnE (frame a0) a1 a2 a3 = te at *
      have he' : (te == 0) = false := by simpa using he
      generalize txt (frame a0) = t0 at *
      unfold pv
      go_enter Try.func4, Try.ntmps4
      go_wp2_with (first
        | (go_at_call 9; go_fit (CB _); rintro e w' ⟨rfl, hb⟩; replace T0 := T0.below hb; have c0 := T0.cell; replace hB := hB.trans (hb.mono hB.size))
        | (go_at_call 10; go_fit (CT _); rintro e w' ⟨rfl, hb⟩; replace T0 := T0.below hb; have c0 := T0.cell; replace hB := hB.trans (hb.mono hB.size))
        | (go_at_call 11; refine (buildsKeep_any _).mono ?_; rintro e w' ⟨rfl, hb⟩; replace T0 := T0.below hb; have c0 := T0.cell; replace hB := hB.trans (hb.mono hB.size)))
      go_ret
      exact ⟨rfl, hB⟩
  · have hg' : (good a0 == 0) = false := by simpa using hg
    have CB : ∀ w, Calls Try.prog 9 #[pv a0] w fun e w' => e = .returned (.tuple #[.string ByteArray.empty, .int .i64 (good a0)]) ∧ Below w.heap.size w w' := by
      intro w
      have := build_any a0 w w0
      rw [built_no a0 hg] at this; exact this
    have CT : ∀ w, Calls Try.prog 10 #[.string ByteArray.empty, .int .i64 a1, .int .i64 a2, .int .i64 a3] w fun e w' => e = .returned (.tuple #[.string ByteArray.empty, .int .i64 1]) ∧ Below w.heap.size w w' := by
      intro w
      have := turn_any ByteArray.empty a1 a2 a3 w (by decide)
      have e1 : bad (ByteArray.empty.data.toList) = 1 := by decide
      have e2 : turnE (ByteArray.empty.data.toList) a1 a2 a3 = 1 := by unfold turnE; rw [e1, if_pos (by omega)]
      have e3 : turnS (ByteArray.empty.data.toList) a1 a2 a3 = ByteArray.empty := by unfold turnS; rw [e2, if_neg (by omega)]
      rw [e2, e3] at this; exact this
    generalize good a0 = ge at *
    unfold pv
    go_enter Try.func4, Try.ntmps4
    go_wp2_with (first
      | (go_at_call 9; go_fit (CB _); rintro e w' ⟨rfl, hb⟩; replace T0 := T0.below hb; have c0 := T0.cell; replace hB := hB.trans (hb.mono hB.size))
      | (go_at_call 10; go_fit (CT _); rintro e w' ⟨rfl, hb⟩; replace T0 := T0.below hb; have c0 := T0.cell; replace hB := hB.trans (hb.mono hB.size))
      | (go_at_call 11; refine (buildsKeep_any _).mono ?_; rintro e w' ⟨rfl, hb⟩; replace T0 := T0.below hb; have c0 := T0.cell; replace hB := hB.trans (hb.mono hB.size)))
    go_ret
    exact ⟨rfl, hB⟩

set_option maxRecDepth 100000 in
theorem lifted (os : Os) (started : os.Started) (H : Type) (enc : TypeId × Value → H) :
    ReturnsInHanded {} Try.checked os 4 .any (Rows.wireRoundSpec.pre6 enc Try.prog Try.f4 Rows.wireRoundRow.domain false) (Rows.wireRoundSpec.post enc Try.prog Try.f4 false true false false) := by
  refine returnsInHanded_of_change_sized (C := Try.checked) own started (by kernel_rfl) Try.func4
    (ChangeSpec.witness6 (enc := enc) (C := Try.checked) false ⟨#[], #[.agg #[.int .i64 0, .int .i64 0, .int .i64 0, .int .i64 0, .int .i64 0, .int .i64 0, .int .i64 0, .int .i64 0, .int .i64 0, .int .i64 0, .int .i64 0, .string ByteArray.empty], .int .i64 0, .int .i64 0, .int .i64 0], []⟩ 8 (by kernel_rfl) (by kernel_rfl) (by kernel_rfl) (by kernel_rfl)) ?_
  intro W base args ds gs before hval0 hW hcnd hsz0 _
  have hval : ∀ (j : Nat) t v, Try.f4.params[j]? = some t → args[j]? = some v → Value.okWide Try.prog W .any base t v := hval0
  have hW' := hW
  obtain ⟨p, q, hA0, hV, rfl, hfz, hnd⟩ := hW
  have hA : DataW.TrodAll enc Try.prog W 0 (fun _ => true) true Try.f4.params.toList args.toList ds p := hA0
  have hsz : (DataW.weightsEach Try.prog (Try.f4.params.toList ++ Rows.wireRoundSpec.plain.varTypes Try.prog) (ds ++ gs)).all (· ≤ reachBytes) = true := hsz0
  rw [Try.params4] at hA hval hsz
  obtain ⟨v0, vs0, d0, ds0, p0, q0, hargs, rfl, rfl, h0, r0⟩ := trodAll_cons hA
  obtain ⟨v1, vs1, d1, ds1, p1, q1, rfl, rfl, rfl, h1, r1⟩ := trodAll_cons r0
  obtain ⟨v2, vs2, d2, ds2, p2, q2, rfl, rfl, rfl, h2, r2⟩ := trodAll_cons r1
  obtain ⟨v3, vs3, d3, ds3, p3, q3, rfl, rfl, rfl, h3, r3⟩ := trodAll_cons r2
  obtain ⟨rfl, rfl, rfl⟩ := trodAll_nil r3
  obtain rfl : args = #[v0, v1, v2, v3] := by cases args; simp_all
  obtain ⟨rfl, rfl⟩ := trodVars_none hV
  obtain ⟨a0, rfl, rfl, rfl, f0, m0⟩ := open_pkt (hval 0 23 v0 rfl rfl) h0
  obtain ⟨a1, rfl, rfl, rfl, w1⟩ := open_int Try.underlying3 (hval 1 3 v1 rfl rfl) h1
  obtain ⟨a2, rfl, rfl, rfl, w2⟩ := open_int Try.underlying3 (hval 2 3 v2 rfl rfl) h2
  obtain ⟨a3, rfl, rfl, rfl, w3⟩ := open_int Try.underlying3 (hval 3 3 v3 rfl rfl) h3
  have w0 : a0.body.size ≤ 140737488351232 := sized_pkt hsz (j := 0) rfl rfl
  clear hA0 hval0
  simp only [List.append_nil] at hW'
  refine (walk a0 a1 a2 a3 w0 w1 w2 w3 W).mono fun e W' ⟨he, bel⟩ => ?_
  subst he
  exact ⟨_, rfl, _, _, _, [], [], [], hW', trodAll_mk1 (shut_bool Try.underlying4 _), (trodAll_cons_mk (shut_pkt f0 m0) (trodAll_cons_mk (shut_int Try.underlying3 w1) (trodAll_cons_mk (shut_int Try.underlying3 w2) (trodAll_cons_mk (shut_int Try.underlying3 w3) trodAll_mk0)))), rfl, bel.frame _, fun h => by cases h⟩

theorem over : Rows.wireRoundRow.holds Try.pinned (OpenSpec.ofChange Rows.wireRoundSpec) :=
  OpenClaim.holds_of_wide 4 Try.f4 rfl rfl rfl rfl rfl rfl rfl ⟨rfl, rfl, rfl, rfl, rfl⟩ rfl rfl rfl rfl rfl (by kernel_rfl) Try.func4 (by kernel_rfl)
    (of_decide_eq_true (by kernel_rfl)) (by unfold Func.isWrapper; first | (rw [if_pos (by decide +kernel)]; kernel_rfl) | (rw [if_neg (by decide +kernel)]; exact ⟨rfl, rfl⟩))
    (fun os started H enc _ => lifted os started H enc)

end Go.Proofs.Ytcfdbmcmemdafac.wireRound
namespace Go.Proofs.Ytcfdbmcmemdafac
theorem wireRound_holds : Rows.WireRoundSaid := wireRound.over
#print axioms wireRound_holds
end Go.Proofs.Ytcfdbmcmemdafac
