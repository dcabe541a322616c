/-
  The walk of WheelOnce.
-/
import Derived.Test.YtphijplgnffoiaaWoA
namespace Go.Proofs.Ytphijplgnffoiaa
open Go.ChangeShapes Go.WideShapes Go.ChangeAt Go.RowKit Go.Maps
set_option linter.unusedSimpArgs false
set_option linter.unusedVariables false

theorem size_putNew {D : DataW Unit} {du : Int → Option Int} (h : Reads D du) (i d : Int) (hn : du i = none) : Maps.size (D.put (kI i) (.lit (.int .i64 d))) = Maps.size D + 1 := by
  rw [size_put h.tidy, h.has, hn]; rfl
set_option maxRecDepth 20000 in
set_option maxHeartbeats 16000000 in
theorem once_walk (at0 : Int) (a0 : Option Addr) (cap0 B0 O0 : Nat) (zs : List Int) (a1 : Option Addr) (cap1 B1 O1 : Nat) (ss : List Int) (w : World) (wa : (Lit.int .i64 at0).wf = true) (hZ : IntsAt w a0 cap0 B0 O0 zs) (hS : IntsAt w a1 cap1 B1 O1 ss) : Calls Try.prog 3 #[.int .i64 at0, .slice a0 zs.length cap0, .slice a1 ss.length cap1] w fun e w' => e = .returned (.bool true) ∧ Below w.heap.size w w' := by
  have P1 := fun w => pick_any at0 1048576 w (by omega) (by omega)
  have hn0 : 0 ≤ at0 % 1048576 := Int.emod_nonneg _ (by omega)
  have hn1 : at0 % 1048576 < 1048576 := Int.emod_lt_of_pos _ (by omega)
  generalize at0 % 1048576 = m at *
  have CA := new_any w m (by omega)
  have CT := turnsKeep_any (w.alloc (.cells (wcs m (.map none) nilL) 51))
  have H1 := fun (W : World) hb => one_new w m (by omega) (W := W) hb
  have HO : Hid (∀ W, Below (w.alloc (.cells (wcs m (.map none) nilL) 51)).heap.size (w.alloc (.cells (wcs m (.map none) nilL) 51)) W → One w (W.alloc (.map #[] 0)) w.heap.size W.heap.size m (fun _ => none) 0 (fun _ => none) (.map []) []) := H1
  clear H1
  generalize w.alloc (.cells (wcs m (.map none) nilL) 51) = wA at *
  have hmm := @run_makeMap Try.prog
  obtain ⟨N, hN⟩ : ∃ N, N = zs.length := ⟨_, rfl⟩
  obtain ⟨M, hM⟩ : ∃ M, M = ss.length := ⟨_, rfl⟩
  rw [← hN, ← hM]
  have HN : Hid (N = zs.length) := hN
  have HM' : Hid (M = ss.length) := hM
  have HNB : Hid (N ≤ 17592186044416) := by rw [hN]; exact hZ.len
  have HMB : Hid (M ≤ 17592186044416) := by rw [hM]; exact hS.len
  clear hN hM
  go_enter Try.func3, Try.ntmps3
  go_wp2_with (first
    | (go_at_call 6; go_fit (P1 _); rintro e w' ⟨rfl, hw⟩; rw [hw]; clear hw w')
    | (go_at_call 7; go_fit CA; rintro e w' ⟨rfl, hw⟩; rw [hw]; clear hw w')
    | (go_at_call 8; go_fit CT; rintro e w1 ⟨rfl, hb1⟩; have hO := HO.out _ hb1; clear hb1 HO))
  obtain ⟨bd, hbd⟩ : ∃ bd, bd = w1.heap.size := ⟨_, rfl⟩
  rw [← hbd] at hO ⊢
  clear hbd
  go_loopw [10] (fun i W => ∃ j : Nat, j ≤ N ∧ j ≤ 60 ∧ i = .int .i64 (j : Int) ∧ ∃ D, One w W w.heap.size bd m (duJ zs 262144 m j) j (duJ zs 262144 m j) D [] ∧ Maps.size D = j) (fun i _ => 60 - (intOf i).toNat)
  case atStart => exact ⟨0, Nat.zero_le _, by omega, rfl, _, by rw [duJ_zero]; exact hO, rfl⟩
  case round =>
    clear hO
    obtain ⟨j, hj, hj6, rfl, D, hO, hsz⟩ := hrel
    by_cases hc : j < N ∧ j < 60
    · obtain ⟨hjn, hj60⟩ := hc
      have hjl : j < zs.length := by have := HN.out; omega
      have hZW := hZ.below hO.base (fun h => hZ.lt h)
      have ha := hZ.at0 (by omega)
      subst ha
      have hcell := hZW.cell j hjl
      have hnx := duJ_next zs 262144 m j hjl
      have hnn := duJ_none zs 262144 m j
      have P3 := fun w => pick_any zs[j] 262144 w (by omega) (by omega)
      have hd0 : 0 ≤ zs[j] % 262144 := Int.emod_nonneg _ (by omega)
      have hd1 : zs[j] % 262144 < 262144 := Int.emod_lt_of_pos _ (by omega)
      generalize zs[j] % 262144 = d at *
      generalize zs[j] = x at *
      have hwj := wf_small (j := j) (by omega)
      have hkey := keyOf_int_mk (P := Try.prog) (q := .i64) (a := (j : Int)) Try.underlying3 hwj
      have hmx : max (m + d) m = m + d := by omega
      have hrd := hO.reads.put (j : Int) (m + d)
      have hsp := size_putNew hO.reads (j : Int) (m + d) hnn
      rw [hnx] at hrd
      have hm := hO.map
      have hwd : wrap64 (m + d) = m + d := by unfold wrap64; omega
      have hwv : (Lit.int .i64 (m + d)).wf = true := WalkArith.wf_i64 (by omega)
      have A1 := fun (W : World) (D' : DataW Unit) (h : One w W w.heap.size bd m (duJ zs 262144 m j) j (duJ zs 262144 m (j + 1)) D' []) => h.arm (j : Int) (m + d) hwj (by omega) (by omega) hnn (by omega)
      rw [hmx, hnx] at A1
      have hat : at' (D.put (kI (j : Int)) (.lit (.int .i64 (m + d)))) (j : Int) (m + d) := by
        have := hrd.time (j : Int)
        have e : dz (duJ zs 262144 m (j + 1)) (j : Int) = m + d := by rw [← hnx]; simp [dz, setD]
        rw [e] at this
        exact this
      have HSET : Hid (∀ W' n, MapI W' bd n (D.put (kI (j : Int)) (.lit (.int .i64 (m + d)))) → World.grownBy _ W' (some bd) → One w W' w.heap.size bd m (duJ zs 262144 m j) j (duJ zs 262144 m (j + 1)) (D.put (kI (j : Int)) (.lit (.int .i64 (m + d)))) []) := hid fun W' n h1 h2 => hO.set h1 hrd h2
      have hI := fun w => ixZ B0 O0 N cap0 j hjn w
      have hji : (j : Int) < (N : Int) := by omega
      have hj6i : (j : Int) < 60 := by omega
      have HM := meas_up hj60
      have HJ : Hid (j + 1 ≤ N ∧ j + 1 ≤ 60 ∧ Maps.size (D.put (kI (j : Int)) (.lit (.int .i64 (m + d)))) = j + 1) := hid (by omega)
      have HSD : Hid (Maps.size D < maxLen) := hid (by unfold maxLen; omega)
      have hjw := wrap_up (p := j) (by omega)
      clear hj hj6 hjn hj60 hnx hnn hmx hd0 hd1 hO hn0 hn1 hjl hsp hsz
      go_wp2_with (first
        | (go_at_call 6; go_fit (P3 _); rintro e w' ⟨rfl, hw⟩; rw [hw]; clear hw w')
        | (at_mapUpdate; refine wpList_mapUpdate_own _ rfl _ _ _ 29 rfl 3 3 lawI Try.underlying29 _ bd _ D rfl hm HSD.out _ (.int .i64 (m + d)) _ rfl (by first | exact congrArg (Value.int .i64) hwd | rfl) hkey _ [] (plainElem_int Try.underlying3 hwv) ?_; intro w2 hm2 hg2; have hO2 := HSET.out w2 _ hm2 hg2; replace A1 := A1 _ _ hO2)
        | (at_lookup; refine wpList_lookup_own_int _ rfl _ _ 29 rfl 3 3 .i64 lawI Try.underlying29 Try.underlying3 (zeroI _) bd _ _ rfl hm2 _ _ rfl hkey ?_; intro cv hatc hwc; obtain rfl := at_num hat hatc; clear hatc hwc)
        | (go_at_call 9; go_fit A1; rintro e w3 ⟨rfl, hO3⟩))
      go_roundw
      case rel => exact ⟨j + 1, HJ.out.1, HJ.out.2.1, by go_num, _, hO3, HJ.out.2.2⟩
      case measure => first | exact HM.out | (rw [hjw]; exact HM.out)
    · by_cases hjn : j < N
      · have hji : (j : Int) < (N : Int) := by omega
        have hj6i : ¬ (j : Int) < 60 := by omega
        clear P1 CA CT hmm
        go_wp2
        go_loopw [11, 12] (fun t i W => ∃ q : Nat, q ≤ M ∧ q ≤ 40 ∧ i = .int .i64 (q : Int) ∧ ∃ nw du cnt D, t = .int .i64 nw ∧ 0 ≤ nw ∧ nw ≤ 1048576 + 8192 * (q : Int) ∧ One w W w.heap.size bd nw du cnt du D [] ∧ Maps.size D = cnt) (fun _ i _ => 40 - (intOf i).toNat)
        case atStart => exact ⟨0, Nat.zero_le _, by omega, rfl, m, _, _, D, rfl, hn0, by omega, hO, hsz⟩
        case round =>
          clear hO hsz hj hj6 hn0 hn1 hc
          obtain ⟨q, hq, hq4, rfl, nw, du, cnt, Dq, rfl, hw0, hw1, hO, hsz⟩ := hrel
          by_cases hqq : q < M ∧ q < 40
          · obtain ⟨hqm, hq40⟩ := hqq
            have hql : q < ss.length := by have := HM'.out; omega
            have hSW := hS.below hO.base (fun h => hS.lt h)
            have ha := hS.at0 (by omega)
            subst ha
            have hcell := hSW.cell q hql
            have P4 := fun w => pick_any ss[q] 8192 w (by omega) (by omega)
            have hd0 : 0 ≤ ss[q] % 8192 := Int.emod_nonneg _ (by omega)
            have hd1 : ss[q] % 8192 < 8192 := Int.emod_lt_of_pos _ (by omega)
            generalize ss[q] % 8192 = st at *
            generalize ss[q] = x0 at *
            have hI := fun w => ixZ B1 O1 M cap1 q hqm w
            have hqi : (q : Int) < (M : Int) := by omega
            have hq4i : (q : Int) < 40 := by omega
            have HMS := meas_up hq40
            have HQ : Hid (q + 1 ≤ M ∧ q + 1 ≤ 40 ∧ 0 ≤ nw + st ∧ nw + st ≤ 1048576 + 8192 * ((q + 1 : Nat) : Int)) := hid (by omega)
            have HCC : Hid (cnt ≤ 400) := hO.cap
            have A1 := hO.adv (nw + st) (by omega) (by omega)
            have HDU : Hid (∀ i d, du i = some d → nw ≤ d ∧ (Lit.int .i64 i).wf = true) := hid fun i d hd => ⟨(hO.due hd).1, (hO.due hd).2.2⟩
            have hwd : wrap64 (nw + st) = nw + st := by unfold wrap64; omega
            have HWQ : Hid (wrap64 ((q : Int) + 1) = (q : Int) + 1) := wrap_up (p := q) (by omega)
            clear hq hq4 hqm hq40 hd0 hd1 hO hw0 hw1 hql
            go_wp2_with (first
              | (go_at_call 6; go_fit (P4 _); rintro e w' ⟨rfl, hw⟩; rw [hw]; clear hw w')
              | (go_at_call 10; go_fit A1; rintro e w2 ⟨v, rfl, off, cnt', g1, g2, g3, hO1⟩; obtain ⟨al, kp, hs1⟩ := own_slice (hO1.told List.mem_cons_self); subst hs1))
            generalize nw + st = tn at *
            clear hwd hqi hq4i
            have hrd := hO1.reads
            have hown := hO1.told (v := .slice al (sortZ (dz du) off).length kp) (l := sortZ (dz du) off) List.mem_cons_self
            have hsl := sortZ_length (dz du) off
            obtain ⟨srt, hsrt⟩ : ∃ srt, srt = sortZ (dz du) off := ⟨_, rfl⟩
            obtain ⟨l1, hl1⟩ : ∃ l1, l1 = srt.length := ⟨_, rfl⟩
            have LF := fun k hk => look2 (now := nw) hsrt g1 g2 k hk
            rw [← hsrt] at hown hO1 hsl ⊢
            rw [← hl1] at hown hO1 hsl ⊢
            have HSRT : Hid (srt = sortZ (dz du) off) := hsrt
            have HL1 : Hid (l1 = srt.length) := hl1
            have HG : Hid (off.Nodup ∧ (∀ i, i ∈ off ↔ ∃ d, du i = some d ∧ d ≤ tn) ∧ cnt' + off.length = cnt ∧ l1 = off.length) := hid ⟨g1, g2, g3, hsl⟩
            have HCN : Hid (l1 ≤ 400) := hid (by have := HCC.out; omega)
            clear hsrt hl1 g1 g2 g3 hsl A1
            have hm1 := hO1.map
            go_loop [16, 98] (fun ls i => ∃ k : Nat, k ≤ l1 ∧ i = .int .i64 (k : Int) ∧ ∃ lst : Int, ls = .int .i64 lst ∧ (k = 0 → lst = nw) ∧ ∀ h : 0 < k, ∃ hk : k - 1 < srt.length, lst = dz du srt[k - 1]) (fun _ i => l1 - (intOf i).toNat)
            case atStart => exact ⟨0, Nat.zero_le _, rfl, nw, rfl, fun _ => rfl, fun h => absurd h (by omega)⟩
            case round =>
              obtain ⟨k, hk, rfl, lst, rfl, hl0, hlk⟩ := hrel
              by_cases hk1 : k < l1
              · have hks : k < srt.length := by have := HL1.out; omega
                obtain ⟨g, rfl, r1⟩ := hown.read k hks
                have hI1 := fun w => ixI g l1 kp k hk1 w
                have hki : (k : Int) < (l1 : Int) := by omega
                have HMK := meas_up hk1
                have HJK : Hid (k + 1 ≤ l1) := hid hk1
                obtain ⟨⟨d, hdx, hdt⟩, hpv⟩ := LF k hks
                have hdz : dz du srt[k] = d := dz_some hdx
                obtain ⟨hnd, hwx⟩ := HDU.out _ _ hdx
                have hkey := keyOf_int_mk (P := Try.prog) (q := .i64) (a := srt[k]) Try.underlying3 hwx
                have hhas : Maps.has Dq (kI srt[k]) = true := by rw [hrd.has, hdx]; rfl
                have htime := hrd.time srt[k]
                rw [hdz] at htime hpv
                have HNX : Hid (∃ hk : k < srt.length, d = dz du srt[k]) := hid ⟨hks, hdz.symm⟩
                have hgt : ¬ tn < d := by omega
                have hb12 : k < 1000000000000 := by have := HCN.out; omega
                clear hdz
                by_cases hk0 : k = 0
                · subst hk0
                  have hlt2 : ¬ d < lst := by have := hl0 rfl; omega
                  generalize srt[0] = x at *
                  clear hpv hl0 hlk hdx hdt hnd hks
                  go_wp2_with (first
                    | (at_lookup; refine wpList_lookup_own_ok_int _ rfl _ _ 29 rfl 3 3 .i64 lawI Try.underlying29 Try.underlying3 (zeroI _) bd _ Dq rfl hm1 _ _ rfl hkey ?_; intro cv hatc hwc; obtain rfl := at_num htime hatc; clear hatc hwc))
                  go_round
                  case rel => exact ⟨1, HJK.out, rfl, _, rfl, fun h => by omega, fun _ => HNX.out⟩
                  case measure => exact HMK.out
                · obtain ⟨⟨dp, hdp, _⟩, hle, hpl⟩ := hpv (by omega)
                  clear hpv
                  obtain ⟨hk', rfl⟩ := hlk (by omega)
                  obtain ⟨g', hg', r2⟩ := hown.read (k - 1) hk'
                  obtain rfl : g = g' := by simpa using hg'
                  have hI2 : ∀ w, (Instr.indexAt 22 (.slice (some ⟨g, 0, none⟩) l1 kp) (.int .i64 ((k : Int) - 1))).run Try.prog w = .ok (.pointer (some ⟨g, k - 1, none⟩)) w := by
                    intro w
                    rw [show (k : Int) - 1 = ((k - 1 : Nat) : Int) by omega]
                    exact ixI g l1 kp (k - 1) (by omega) w
                  have hk0i : (0 : Int) < (k : Int) := by omega
                  have hlt2 : ¬ d < dz du srt[k - 1] := by omega
                  have HJ1 : Hid (((k : Int) + 1 = ((k + 1 : Nat) : Int)) ∧ (k + 1 = 0 → (d : Int) = nw)) := hid ⟨by omega, fun h => by omega⟩
                  by_cases hed : d = dz du srt[k - 1]
                  · have hbq : (d == dz du srt[k - 1]) = true := by simp [hed]
                    have hge : ¬ srt[k] ≤ srt[k - 1] := by have := hpl hed.symm; omega
                    have hkw : wrap64 ((k : Int) - 1) = (k : Int) - 1 := by unfold wrap64; omega
                    have hjw := wrap_up hb12
                    generalize srt[k - 1] = y at *
                    generalize srt[k] = x at *
                    generalize dz du y = dy at *
                    clear hpl hle hdp hl0 hdx hdt hnd hks hk' hg' hed hlk hk hk1 hk0 hb12
                    go_wp2_with (first
                      | (at_lookup; refine wpList_lookup_own_ok_int _ rfl _ _ 29 rfl 3 3 .i64 lawI Try.underlying29 Try.underlying3 (zeroI _) bd _ Dq rfl hm1 _ _ rfl hkey ?_; intro cv hatc hwc; obtain rfl := at_num htime hatc; clear hatc hwc))
                    go_round
                    case rel => exact ⟨k + 1, HJK.out, congrArg (Value.int IntKind.i64) (by first | exact (cast1 _).out | exact hjw.trans (cast1 _).out), _, rfl, HJ1.out.2, fun _ => HNX.out⟩
                    case measure => first | exact HMK.out | (rw [hjw]; exact HMK.out)
                  · have hbq : (d == dz du srt[k - 1]) = false := by simp [hed]
                    have hjw := wrap_up hb12
                    generalize srt[k - 1] = y at *
                    generalize srt[k] = x at *
                    generalize dz du y = dy at *
                    clear hpl hle hdp hl0 hdx hdt hnd hks hk' hg' hed hlk hk hk1 hk0 hb12
                    go_wp2_with (first
                      | (at_lookup; refine wpList_lookup_own_ok_int _ rfl _ _ 29 rfl 3 3 .i64 lawI Try.underlying29 Try.underlying3 (zeroI _) bd _ Dq rfl hm1 _ _ rfl hkey ?_; intro cv hatc hwc; obtain rfl := at_num htime hatc; clear hatc hwc))
                    go_round
                    case rel => exact ⟨k + 1, HJK.out, congrArg (Value.int IntKind.i64) (by first | exact (cast1 _).out | exact hjw.trans (cast1 _).out), _, rfl, HJ1.out.2, fun _ => HNX.out⟩
                    case measure => first | exact HMK.out | (rw [hjw]; exact HMK.out)
              · have hki : ¬ (k : Int) < (l1 : Int) := by omega
                have hwf' : ∀ j (hj : j < srt.length), (Lit.int .i64 srt[j]).wf = true := fun j hj => by
                  obtain ⟨⟨d, hdx, _⟩, _⟩ := LF j hj
                  exact (HDU.out _ _ hdx).2
                have HRD0 : Hid (Reads Dq du) := hrd
                clear hk hk1 hl0 hlk LF hm1 hown
                go_wp2
                go_loopw [154] (fun i W => ∃ k : Nat, k ≤ l1 ∧ i = .int .i64 (k : Int) ∧ One w W w.heap.size bd tn (leftD tn du) cnt' (delDs du (srt.take k)) (delF Dq (srt.take k)) [(.slice al l1 kp, srt)]) (fun i _ => l1 - (intOf i).toNat)
                case atStart =>
                  refine ⟨0, Nat.zero_le _, rfl, ?_⟩
                  have e : delDs du (srt.take 0) = du := by funext i; simp [delDs]
                  rw [e]
                  exact hO1
                case round =>
                  clear hO1 hrd
                  obtain ⟨k2, hk, rfl, hO1⟩ := hrel
                  by_cases hk1 : k2 < l1
                  · have hks : k2 < srt.length := by have := HL1.out; omega
                    have hown := hO1.told List.mem_cons_self
                    obtain ⟨g, rfl, r1⟩ := hown.read k2 hks
                    have hI1 := fun w => ixI g l1 kp k2 hk1 w
                    have hki2 : (k2 : Int) < (l1 : Int) := by omega
                    have HMK := meas_up hk1
                    have HJK : Hid (k2 + 1 ≤ l1) := hid hk1
                    have hkey := keyOf_int_mk (P := Try.prog) (q := .i64) (a := srt[k2]) Try.underlying3 (hwf' k2 hks)
                    have hm1 := hO1.map
                    have hrd := hO1.reads.del srt[k2]
                    have e1 : delD (delDs du (srt.take k2)) srt[k2] = delDs du (srt.take (k2 + 1)) := by
                      funext i
                      rw [List.take_succ_eq_append_getElem hks]
                      simp only [delD, delDs, List.mem_append, List.mem_singleton]
                      by_cases e1 : i = srt[k2] <;> by_cases e2 : i ∈ srt.take k2 <;> simp [e1, e2]
                    rw [e1, ← delF_snoc Dq srt k2 hks] at hrd
                    have HDF : Hid ((delF Dq (srt.take k2)).del (kI srt[k2]) = delF Dq (srt.take (k2 + 1))) := hid (delF_snoc Dq srt k2 hks).symm
                    have hjw := wrap_up (p := k2) (by have := HCN.out; omega)
                    have HRD : Hid (Reads (delF Dq (srt.take (k2 + 1))) (delDs du (srt.take (k2 + 1)))) := hrd
                    generalize srt[k2] = x at *
                    clear hk hk1 hks hown e1 hrd
                    go_wp2_with (first
                      | (at_delete; refine wpList_delete_own _ rfl _ _ 29 3 rfl 3 lawI Try.underlying29 _ bd _ _ rfl hm1 _ _ rfl hkey ?_; intro w4 hm4 ht4; simp only [Act.put, List.setIfInBounds_toArray, List.set_cons_succ, List.set_cons_zero]))
                    go_roundw
                    case rel =>
                      refine ⟨k2 + 1, HJK.out, congrArg (Value.int IntKind.i64) (by first | exact (cast1 _).out | exact hjw.trans (cast1 _).out), ?_⟩
                      rw [HDF.out] at hm4
                      exact hO1.set hm4 HRD.out ht4.grown
                    case measure => first | exact HMK.out | (rw [hjw]; exact HMK.out)
                  · have hki2 : ¬ (k2 : Int) < (l1 : Int) := by omega
                    obtain rfl : k2 = l1 := by omega
                    have e : srt.take k2 = srt := List.take_of_length_le (by have := HL1.out; omega)
                    rw [e] at hO1
                    have hmm2 : ∀ i, i ∈ srt ↔ ∃ d, du i = some d ∧ d ≤ tn := fun i => by rw [HSRT.out, sortZ_mem]; exact HG.out.2.1 i
                    rw [leftD_dels (t := tn) hmm2] at hO1
                    have HSZ : Hid (Maps.size (delF Dq srt) = cnt') := by
                      have q1 := size_delF srt HRD0.out (by rw [HSRT.out]; exact sortZ_nodup _ _ HG.out.1) (fun i hi => by obtain ⟨d, hd, _⟩ := (hmm2 i).1 hi; rw [hd]; rfl)
                      have q2 := HL1.out
                      have q3 := HG.out.2.2
                      exact hid (by omega)
                    replace hO1 := hO1.forget
                    clear e hmm2 hk hk1 hwf'
                    have hm1 := hO1.map
                    generalize delF Dq srt = D2 at *
                    go_wp2_with (first
                      | (at_range; refine wpList_range_own _ rfl _ 29 rfl 3 3 lawI Try.underlying29 _ bd _ D2 rfl hm1 ?_; intro w5 hrg5 hg5 hs5))
                    obtain ⟨r, hr⟩ : ∃ r, r = wr.heap.size := ⟨_, rfl⟩
                    have hgr5 := hg5.but (some r)
                    rw [← hr] at hrg5 ⊢
                    have HR : Hid (wr.heap.size ≤ r) := hid (by omega)
                    have HRD2 : Hid (Reads D2 (leftD tn du)) := hO1.reads
                    have HOX : Hid (∀ W, wr.grownBy W (some r) → One w W w.heap.size bd tn (leftD tn du) cnt' (leftD tn du) D2 []) := hid fun W hg => hO1.keep hg HR.out
                    clear hr hg5 hs5 hm1 hO1
                    go_loopw [24] (fun _ W => ∃ left c, W.ranges (H := Unit) Try.prog 3 (plainElem Try.prog 3) bd r (Maps.size D2) D2 left c ∧ wr.grownBy W (some r)) (fun _ W => W.rangeLeft bd r)
                    case atStart => exact ⟨_, _, hrg5, hgr5⟩
                    case round =>
                      clear hrg5 hgr5
                      obtain ⟨left, cl, hrg, hgw⟩ := hrel
                      go_wp2_with (first
                        | (at_next; refine wpList_next_ranges_ii _ rfl _ rfl 3 3 .i64 .i64 lawI Try.underlying3 Try.underlying3 bd r _ _ _ _ rfl hrg ?_ ?_))
                      · intro _ _
                        have hO6 := HOX.out _ hgw
                        have M1 := hO6.many
                        have M2 := hO6.nowC
                        have hlen := hO6.map.len Try.underlying29 3
                        have hnn : (((cnt' : Nat) : Int) != ((Maps.size D2 : Nat) : Int)) = false := by rw [HSZ.out]; simp
                        have hnt : (tn != tn) = false := by simp
                        have hjw := HWQ.out
                        go_wp2_with (first
                          | (go_at_call 11; go_fit M1; rintro e w' ⟨rfl, hw⟩; rw [hw]; clear hw w')
                          | (go_at_call 12; go_fit M2; rintro e w' ⟨rfl, hw⟩; rw [hw]; clear hw w'))
                        go_roundw
                        case rel => exact ⟨q + 1, HQ.out.1, HQ.out.2.1, congrArg (Value.int IntKind.i64) (by first | exact (cast1 _).out | exact hjw.trans (cast1 _).out), tn, _, _, D2, rfl, HQ.out.2.2.1, HQ.out.2.2.2, hO6, HSZ.out⟩
                        case measure => first | exact HMS.out | (rw [hjw]; exact HMS.out)
                      · intro x c w6 cl1 hwx hwc hlx hatx hrg1 hlt6 hg6 hs6 hen
                        have hgt : ¬ c ≤ tn := by
                          have h1 := HRD2.out.has x
                          have h2 := HRD2.out.time x
                          rw [has_true_of_atKey hatx] at h1
                          obtain ⟨d, hd⟩ := Option.isSome_iff_exists.1 h1.symm
                          have h3 := at_num h2 (hatx _)
                          rw [dz_some hd] at h3
                          have := (leftD_some.1 hd).2
                          omega
                        have HLT : Hid (cl1 < cl) := hlt6
                        clear hs6 hatx hlx hlt6
                        go_wp2
                        go_roundw
                        case rel => exact ⟨_, cl1, hrg1, hgw.trans hg6⟩
                        case measure => rw [hrg1.left_eq, hrg.left_eq]; exact HLT.out
          · by_cases hqm : q < M
            · have hqi : (q : Int) < (M : Int) := by omega
              have hq4i : ¬ (q : Int) < 40 := by omega
              have hb := hO.base
              clear hq hq4 hqq hqm hw0 hw1 hO hsz
              go_wp2
              go_ret
              exact ⟨rfl, hb⟩
            · have hqi : ¬ (q : Int) < (M : Int) := by omega
              have hb := hO.base
              clear hq hq4 hqq hqm hw0 hw1 hO hsz
              go_wp2
              go_ret
              exact ⟨rfl, hb⟩
      · have hji : ¬ (j : Int) < (N : Int) := by omega
        clear P1 CA CT hmm
        go_wp2
        go_loopw [11, 12] (fun t i W => ∃ q : Nat, q ≤ M ∧ q ≤ 40 ∧ i = .int .i64 (q : Int) ∧ ∃ nw du cnt D, t = .int .i64 nw ∧ 0 ≤ nw ∧ nw ≤ 1048576 + 8192 * (q : Int) ∧ One w W w.heap.size bd nw du cnt du D [] ∧ Maps.size D = cnt) (fun _ i _ => 40 - (intOf i).toNat)
        case atStart => exact ⟨0, Nat.zero_le _, by omega, rfl, m, _, _, D, rfl, hn0, by omega, hO, hsz⟩
        case round =>
          clear hO hsz hj hj6 hn0 hn1 hc
          obtain ⟨q, hq, hq4, rfl, nw, du, cnt, Dq, rfl, hw0, hw1, hO, hsz⟩ := hrel
          by_cases hqq : q < M ∧ q < 40
          · obtain ⟨hqm, hq40⟩ := hqq
            have hql : q < ss.length := by have := HM'.out; omega
            have hSW := hS.below hO.base (fun h => hS.lt h)
            have ha := hS.at0 (by omega)
            subst ha
            have hcell := hSW.cell q hql
            have P4 := fun w => pick_any ss[q] 8192 w (by omega) (by omega)
            have hd0 : 0 ≤ ss[q] % 8192 := Int.emod_nonneg _ (by omega)
            have hd1 : ss[q] % 8192 < 8192 := Int.emod_lt_of_pos _ (by omega)
            generalize ss[q] % 8192 = st at *
            generalize ss[q] = x0 at *
            have hI := fun w => ixZ B1 O1 M cap1 q hqm w
            have hqi : (q : Int) < (M : Int) := by omega
            have hq4i : (q : Int) < 40 := by omega
            have HMS := meas_up hq40
            have HQ : Hid (q + 1 ≤ M ∧ q + 1 ≤ 40 ∧ 0 ≤ nw + st ∧ nw + st ≤ 1048576 + 8192 * ((q + 1 : Nat) : Int)) := hid (by omega)
            have HCC : Hid (cnt ≤ 400) := hO.cap
            have A1 := hO.adv (nw + st) (by omega) (by omega)
            have HDU : Hid (∀ i d, du i = some d → nw ≤ d ∧ (Lit.int .i64 i).wf = true) := hid fun i d hd => ⟨(hO.due hd).1, (hO.due hd).2.2⟩
            have hwd : wrap64 (nw + st) = nw + st := by unfold wrap64; omega
            have HWQ : Hid (wrap64 ((q : Int) + 1) = (q : Int) + 1) := wrap_up (p := q) (by omega)
            clear hq hq4 hqm hq40 hd0 hd1 hO hw0 hw1 hql
            go_wp2_with (first
              | (go_at_call 6; go_fit (P4 _); rintro e w' ⟨rfl, hw⟩; rw [hw]; clear hw w')
              | (go_at_call 10; go_fit A1; rintro e w2 ⟨v, rfl, off, cnt', g1, g2, g3, hO1⟩; obtain ⟨al, kp, hs1⟩ := own_slice (hO1.told List.mem_cons_self); subst hs1))
            generalize nw + st = tn at *
            clear hwd hqi hq4i
            have hrd := hO1.reads
            have hown := hO1.told (v := .slice al (sortZ (dz du) off).length kp) (l := sortZ (dz du) off) List.mem_cons_self
            have hsl := sortZ_length (dz du) off
            obtain ⟨srt, hsrt⟩ : ∃ srt, srt = sortZ (dz du) off := ⟨_, rfl⟩
            obtain ⟨l1, hl1⟩ : ∃ l1, l1 = srt.length := ⟨_, rfl⟩
            have LF := fun k hk => look2 (now := nw) hsrt g1 g2 k hk
            rw [← hsrt] at hown hO1 hsl ⊢
            rw [← hl1] at hown hO1 hsl ⊢
            have HSRT : Hid (srt = sortZ (dz du) off) := hsrt
            have HL1 : Hid (l1 = srt.length) := hl1
            have HG : Hid (off.Nodup ∧ (∀ i, i ∈ off ↔ ∃ d, du i = some d ∧ d ≤ tn) ∧ cnt' + off.length = cnt ∧ l1 = off.length) := hid ⟨g1, g2, g3, hsl⟩
            have HCN : Hid (l1 ≤ 400) := hid (by have := HCC.out; omega)
            clear hsrt hl1 g1 g2 g3 hsl A1
            have hm1 := hO1.map
            go_loop [16, 98] (fun ls i => ∃ k : Nat, k ≤ l1 ∧ i = .int .i64 (k : Int) ∧ ∃ lst : Int, ls = .int .i64 lst ∧ (k = 0 → lst = nw) ∧ ∀ h : 0 < k, ∃ hk : k - 1 < srt.length, lst = dz du srt[k - 1]) (fun _ i => l1 - (intOf i).toNat)
            case atStart => exact ⟨0, Nat.zero_le _, rfl, nw, rfl, fun _ => rfl, fun h => absurd h (by omega)⟩
            case round =>
              obtain ⟨k, hk, rfl, lst, rfl, hl0, hlk⟩ := hrel
              by_cases hk1 : k < l1
              · have hks : k < srt.length := by have := HL1.out; omega
                obtain ⟨g, rfl, r1⟩ := hown.read k hks
                have hI1 := fun w => ixI g l1 kp k hk1 w
                have hki : (k : Int) < (l1 : Int) := by omega
                have HMK := meas_up hk1
                have HJK : Hid (k + 1 ≤ l1) := hid hk1
                obtain ⟨⟨d, hdx, hdt⟩, hpv⟩ := LF k hks
                have hdz : dz du srt[k] = d := dz_some hdx
                obtain ⟨hnd, hwx⟩ := HDU.out _ _ hdx
                have hkey := keyOf_int_mk (P := Try.prog) (q := .i64) (a := srt[k]) Try.underlying3 hwx
                have hhas : Maps.has Dq (kI srt[k]) = true := by rw [hrd.has, hdx]; rfl
                have htime := hrd.time srt[k]
                rw [hdz] at htime hpv
                have HNX : Hid (∃ hk : k < srt.length, d = dz du srt[k]) := hid ⟨hks, hdz.symm⟩
                have hgt : ¬ tn < d := by omega
                have hb12 : k < 1000000000000 := by have := HCN.out; omega
                clear hdz
                by_cases hk0 : k = 0
                · subst hk0
                  have hlt2 : ¬ d < lst := by have := hl0 rfl; omega
                  generalize srt[0] = x at *
                  clear hpv hl0 hlk hdx hdt hnd hks
                  go_wp2_with (first
                    | (at_lookup; refine wpList_lookup_own_ok_int _ rfl _ _ 29 rfl 3 3 .i64 lawI Try.underlying29 Try.underlying3 (zeroI _) bd _ Dq rfl hm1 _ _ rfl hkey ?_; intro cv hatc hwc; obtain rfl := at_num htime hatc; clear hatc hwc))
                  go_round
                  case rel => exact ⟨1, HJK.out, rfl, _, rfl, fun h => by omega, fun _ => HNX.out⟩
                  case measure => exact HMK.out
                · obtain ⟨⟨dp, hdp, _⟩, hle, hpl⟩ := hpv (by omega)
                  clear hpv
                  obtain ⟨hk', rfl⟩ := hlk (by omega)
                  obtain ⟨g', hg', r2⟩ := hown.read (k - 1) hk'
                  obtain rfl : g = g' := by simpa using hg'
                  have hI2 : ∀ w, (Instr.indexAt 22 (.slice (some ⟨g, 0, none⟩) l1 kp) (.int .i64 ((k : Int) - 1))).run Try.prog w = .ok (.pointer (some ⟨g, k - 1, none⟩)) w := by
                    intro w
                    rw [show (k : Int) - 1 = ((k - 1 : Nat) : Int) by omega]
                    exact ixI g l1 kp (k - 1) (by omega) w
                  have hk0i : (0 : Int) < (k : Int) := by omega
                  have hlt2 : ¬ d < dz du srt[k - 1] := by omega
                  have HJ1 : Hid (((k : Int) + 1 = ((k + 1 : Nat) : Int)) ∧ (k + 1 = 0 → (d : Int) = nw)) := hid ⟨by omega, fun h => by omega⟩
                  by_cases hed : d = dz du srt[k - 1]
                  · have hbq : (d == dz du srt[k - 1]) = true := by simp [hed]
                    have hge : ¬ srt[k] ≤ srt[k - 1] := by have := hpl hed.symm; omega
                    have hkw : wrap64 ((k : Int) - 1) = (k : Int) - 1 := by unfold wrap64; omega
                    have hjw := wrap_up hb12
                    generalize srt[k - 1] = y at *
                    generalize srt[k] = x at *
                    generalize dz du y = dy at *
                    clear hpl hle hdp hl0 hdx hdt hnd hks hk' hg' hed hlk hk hk1 hk0 hb12
                    go_wp2_with (first
                      | (at_lookup; refine wpList_lookup_own_ok_int _ rfl _ _ 29 rfl 3 3 .i64 lawI Try.underlying29 Try.underlying3 (zeroI _) bd _ Dq rfl hm1 _ _ rfl hkey ?_; intro cv hatc hwc; obtain rfl := at_num htime hatc; clear hatc hwc))
                    go_round
                    case rel => exact ⟨k + 1, HJK.out, congrArg (Value.int IntKind.i64) (by first | exact (cast1 _).out | exact hjw.trans (cast1 _).out), _, rfl, HJ1.out.2, fun _ => HNX.out⟩
                    case measure => first | exact HMK.out | (rw [hjw]; exact HMK.out)
                  · have hbq : (d == dz du srt[k - 1]) = false := by simp [hed]
                    have hjw := wrap_up hb12
                    generalize srt[k - 1] = y at *
                    generalize srt[k] = x at *
                    generalize dz du y = dy at *
                    clear hpl hle hdp hl0 hdx hdt hnd hks hk' hg' hed hlk hk hk1 hk0 hb12
                    go_wp2_with (first
                      | (at_lookup; refine wpList_lookup_own_ok_int _ rfl _ _ 29 rfl 3 3 .i64 lawI Try.underlying29 Try.underlying3 (zeroI _) bd _ Dq rfl hm1 _ _ rfl hkey ?_; intro cv hatc hwc; obtain rfl := at_num htime hatc; clear hatc hwc))
                    go_round
                    case rel => exact ⟨k + 1, HJK.out, congrArg (Value.int IntKind.i64) (by first | exact (cast1 _).out | exact hjw.trans (cast1 _).out), _, rfl, HJ1.out.2, fun _ => HNX.out⟩
                    case measure => first | exact HMK.out | (rw [hjw]; exact HMK.out)
              · have hki : ¬ (k : Int) < (l1 : Int) := by omega
                have hwf' : ∀ j (hj : j < srt.length), (Lit.int .i64 srt[j]).wf = true := fun j hj => by
                  obtain ⟨⟨d, hdx, _⟩, _⟩ := LF j hj
                  exact (HDU.out _ _ hdx).2
                have HRD0 : Hid (Reads Dq du) := hrd
                clear hk hk1 hl0 hlk LF hm1 hown
                go_wp2
                go_loopw [154] (fun i W => ∃ k : Nat, k ≤ l1 ∧ i = .int .i64 (k : Int) ∧ One w W w.heap.size bd tn (leftD tn du) cnt' (delDs du (srt.take k)) (delF Dq (srt.take k)) [(.slice al l1 kp, srt)]) (fun i _ => l1 - (intOf i).toNat)
                case atStart =>
                  refine ⟨0, Nat.zero_le _, rfl, ?_⟩
                  have e : delDs du (srt.take 0) = du := by funext i; simp [delDs]
                  rw [e]
                  exact hO1
                case round =>
                  clear hO1 hrd
                  obtain ⟨k2, hk, rfl, hO1⟩ := hrel
                  by_cases hk1 : k2 < l1
                  · have hks : k2 < srt.length := by have := HL1.out; omega
                    have hown := hO1.told List.mem_cons_self
                    obtain ⟨g, rfl, r1⟩ := hown.read k2 hks
                    have hI1 := fun w => ixI g l1 kp k2 hk1 w
                    have hki2 : (k2 : Int) < (l1 : Int) := by omega
                    have HMK := meas_up hk1
                    have HJK : Hid (k2 + 1 ≤ l1) := hid hk1
                    have hkey := keyOf_int_mk (P := Try.prog) (q := .i64) (a := srt[k2]) Try.underlying3 (hwf' k2 hks)
                    have hm1 := hO1.map
                    have hrd := hO1.reads.del srt[k2]
                    have e1 : delD (delDs du (srt.take k2)) srt[k2] = delDs du (srt.take (k2 + 1)) := by
                      funext i
                      rw [List.take_succ_eq_append_getElem hks]
                      simp only [delD, delDs, List.mem_append, List.mem_singleton]
                      by_cases e1 : i = srt[k2] <;> by_cases e2 : i ∈ srt.take k2 <;> simp [e1, e2]
                    rw [e1, ← delF_snoc Dq srt k2 hks] at hrd
                    have HDF : Hid ((delF Dq (srt.take k2)).del (kI srt[k2]) = delF Dq (srt.take (k2 + 1))) := hid (delF_snoc Dq srt k2 hks).symm
                    have hjw := wrap_up (p := k2) (by have := HCN.out; omega)
                    have HRD : Hid (Reads (delF Dq (srt.take (k2 + 1))) (delDs du (srt.take (k2 + 1)))) := hrd
                    generalize srt[k2] = x at *
                    clear hk hk1 hks hown e1 hrd
                    go_wp2_with (first
                      | (at_delete; refine wpList_delete_own _ rfl _ _ 29 3 rfl 3 lawI Try.underlying29 _ bd _ _ rfl hm1 _ _ rfl hkey ?_; intro w4 hm4 ht4; simp only [Act.put, List.setIfInBounds_toArray, List.set_cons_succ, List.set_cons_zero]))
                    go_roundw
                    case rel =>
                      refine ⟨k2 + 1, HJK.out, congrArg (Value.int IntKind.i64) (by first | exact (cast1 _).out | exact hjw.trans (cast1 _).out), ?_⟩
                      rw [HDF.out] at hm4
                      exact hO1.set hm4 HRD.out ht4.grown
                    case measure => first | exact HMK.out | (rw [hjw]; exact HMK.out)
                  · have hki2 : ¬ (k2 : Int) < (l1 : Int) := by omega
                    obtain rfl : k2 = l1 := by omega
                    have e : srt.take k2 = srt := List.take_of_length_le (by have := HL1.out; omega)
                    rw [e] at hO1
                    have hmm2 : ∀ i, i ∈ srt ↔ ∃ d, du i = some d ∧ d ≤ tn := fun i => by rw [HSRT.out, sortZ_mem]; exact HG.out.2.1 i
                    rw [leftD_dels (t := tn) hmm2] at hO1
                    have HSZ : Hid (Maps.size (delF Dq srt) = cnt') := by
                      have q1 := size_delF srt HRD0.out (by rw [HSRT.out]; exact sortZ_nodup _ _ HG.out.1) (fun i hi => by obtain ⟨d, hd, _⟩ := (hmm2 i).1 hi; rw [hd]; rfl)
                      have q2 := HL1.out
                      have q3 := HG.out.2.2
                      exact hid (by omega)
                    replace hO1 := hO1.forget
                    clear e hmm2 hk hk1 hwf'
                    have hm1 := hO1.map
                    generalize delF Dq srt = D2 at *
                    go_wp2_with (first
                      | (at_range; refine wpList_range_own _ rfl _ 29 rfl 3 3 lawI Try.underlying29 _ bd _ D2 rfl hm1 ?_; intro w5 hrg5 hg5 hs5))
                    obtain ⟨r, hr⟩ : ∃ r, r = wr.heap.size := ⟨_, rfl⟩
                    have hgr5 := hg5.but (some r)
                    rw [← hr] at hrg5 ⊢
                    have HR : Hid (wr.heap.size ≤ r) := hid (by omega)
                    have HRD2 : Hid (Reads D2 (leftD tn du)) := hO1.reads
                    have HOX : Hid (∀ W, wr.grownBy W (some r) → One w W w.heap.size bd tn (leftD tn du) cnt' (leftD tn du) D2 []) := hid fun W hg => hO1.keep hg HR.out
                    clear hr hg5 hs5 hm1 hO1
                    go_loopw [24] (fun _ W => ∃ left c, W.ranges (H := Unit) Try.prog 3 (plainElem Try.prog 3) bd r (Maps.size D2) D2 left c ∧ wr.grownBy W (some r)) (fun _ W => W.rangeLeft bd r)
                    case atStart => exact ⟨_, _, hrg5, hgr5⟩
                    case round =>
                      clear hrg5 hgr5
                      obtain ⟨left, cl, hrg, hgw⟩ := hrel
                      go_wp2_with (first
                        | (at_next; refine wpList_next_ranges_ii _ rfl _ rfl 3 3 .i64 .i64 lawI Try.underlying3 Try.underlying3 bd r _ _ _ _ rfl hrg ?_ ?_))
                      · intro _ _
                        have hO6 := HOX.out _ hgw
                        have M1 := hO6.many
                        have M2 := hO6.nowC
                        have hlen := hO6.map.len Try.underlying29 3
                        have hnn : (((cnt' : Nat) : Int) != ((Maps.size D2 : Nat) : Int)) = false := by rw [HSZ.out]; simp
                        have hnt : (tn != tn) = false := by simp
                        have hjw := HWQ.out
                        go_wp2_with (first
                          | (go_at_call 11; go_fit M1; rintro e w' ⟨rfl, hw⟩; rw [hw]; clear hw w')
                          | (go_at_call 12; go_fit M2; rintro e w' ⟨rfl, hw⟩; rw [hw]; clear hw w'))
                        go_roundw
                        case rel => exact ⟨q + 1, HQ.out.1, HQ.out.2.1, congrArg (Value.int IntKind.i64) (by first | exact (cast1 _).out | exact hjw.trans (cast1 _).out), tn, _, _, D2, rfl, HQ.out.2.2.1, HQ.out.2.2.2, hO6, HSZ.out⟩
                        case measure => first | exact HMS.out | (rw [hjw]; exact HMS.out)
                      · intro x c w6 cl1 hwx hwc hlx hatx hrg1 hlt6 hg6 hs6 hen
                        have hgt : ¬ c ≤ tn := by
                          have h1 := HRD2.out.has x
                          have h2 := HRD2.out.time x
                          rw [has_true_of_atKey hatx] at h1
                          obtain ⟨d, hd⟩ := Option.isSome_iff_exists.1 h1.symm
                          have h3 := at_num h2 (hatx _)
                          rw [dz_some hd] at h3
                          have := (leftD_some.1 hd).2
                          omega
                        have HLT : Hid (cl1 < cl) := hlt6
                        clear hs6 hatx hlx hlt6
                        go_wp2
                        go_roundw
                        case rel => exact ⟨_, cl1, hrg1, hgw.trans hg6⟩
                        case measure => rw [hrg1.left_eq, hrg.left_eq]; exact HLT.out
          · by_cases hqm : q < M
            · have hqi : (q : Int) < (M : Int) := by omega
              have hq4i : ¬ (q : Int) < 40 := by omega
              have hb := hO.base
              clear hq hq4 hqq hqm hw0 hw1 hO hsz
              go_wp2
              go_ret
              exact ⟨rfl, hb⟩
            · have hqi : ¬ (q : Int) < (M : Int) := by omega
              have hb := hO.base
              clear hq hq4 hqq hqm hw0 hw1 hO hsz
              go_wp2
              go_ret
              exact ⟨rfl, hb⟩
end Go.Proofs.Ytphijplgnffoiaa
