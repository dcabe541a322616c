/-
  The walk of WheelSteps.
-/
import Derived.Test.YtphijplgnffoiaaWsB
namespace Go.Proofs.Ytphijplgnffoiaa
open Go.ChangeShapes Go.WideShapes Go.ChangeAt Go.RowKit Go.Maps
set_option linter.unusedSimpArgs false
set_option linter.unusedVariables false

theorem Own.read {w : World} {a : Option Addr} {kp : Nat} {l : List Int} {n : Nat} (h : Own w (.slice a n kp) l) (k : Nat) (hk : k < l.length) : ∃ g, a = some ⟨g, 0, none⟩ ∧ w.cell? ⟨g, k, none⟩ = some (.int .i64 l[k]) := by
  obtain ⟨g, cap, cur, e, hg, _, _, _, ht⟩ := h.shape (by omega)
  obtain ⟨rfl, _, _⟩ : a = some ⟨g, 0, none⟩ ∧ n = l.length ∧ kp = cap := by simpa using e
  exact ⟨g, rfl, (row_cell hg k).trans (cur_at ht k hk)⟩
theorem wf_small {j : Nat} (h : j < 1000000) : (Lit.int .i64 (j : Int)).wf = true := WalkArith.wf_i64 (by omega)
theorem appSplit (x y : List Int) (j : Nat) (hj : j < (x ++ y).length) : (j < x.length → ∃ h : j < x.length, (x ++ y)[j] = x[j]) ∧ (¬ j < x.length → ∃ h : j - x.length < y.length, (x ++ y)[j] = y[j - x.length]) := by
  refine ⟨fun h => ⟨h, List.getElem_append_left h⟩, fun h => ⟨by simp at hj; omega, List.getElem_append_right (by omega)⟩⟩
theorem steps_facts {du : Int → Option Int} {c m : Int} (hcm : c ≤ m) {j : Nat} (hj : j ≤ 60) {o1 o2 o3 : List Int} {c1 c2 c3 : Nat} (n1 : o1.Nodup) (n2 : o2.Nodup) (n3 : o3.Nodup) (m1 : ∀ i, i ∈ o1 ↔ ∃ d, du i = some d ∧ d ≤ m) (m2 : ∀ i, i ∈ o2 ↔ ∃ d, du i = some d ∧ d ≤ c) (m3 : ∀ i, i ∈ o3 ↔ ∃ d, leftD c du i = some d ∧ d ≤ m) (k1 : c1 + o1.length = j) (k2 : c2 + o2.length = j) (k3 : c3 + o3.length = c2) :
    Hid (sortZ (dz du) o1 = sortZ (dz du) o2 ++ sortZ (dz (leftD c du)) o3) ∧ Hid ((sortZ (dz du) o1).length = (sortZ (dz du) o2).length + (sortZ (dz (leftD c du)) o3).length ∧ (sortZ (dz du) o1).length ≤ 60 ∧ c1 = c3) ∧ wrap64 (((sortZ (dz du) o2).length : Int) + ((sortZ (dz (leftD c du)) o3).length : Int)) = ((sortZ (dz du) o2).length : Int) + ((sortZ (dz (leftD c du)) o3).length : Int) ∧ ((((sortZ (dz du) o1).length : Int) != ((sortZ (dz du) o2).length : Int) + ((sortZ (dz (leftD c du)) o3).length : Int)) = false) := by
  have he := steps_eq (a := 0) hcm n1 n2 n3 m1 m2 m3
  have hl := congrArg List.length he
  rw [List.length_append] at hl
  have e1 := sortZ_length (dz du) o1
  have e2 := sortZ_length (dz du) o2
  have e3 := sortZ_length (dz (leftD c du)) o3
  refine ⟨he, hid ⟨hl, by omega, by omega⟩, by unfold wrap64; omega, ?_⟩
  simp
  omega
set_option maxRecDepth 20000 in
set_option maxHeartbeats 16000000 in
theorem steps_walk (a0 : Option Addr) (cap B O : Nat) (zs : List Int) (n cut : Int) (w : World) (hZ : IntsAt w a0 cap B O zs) (wn : (Lit.int .i64 n).wf = true) (wc : (Lit.int .i64 cut).wf = true) : Calls Try.prog 4 #[.slice a0 zs.length cap, .int .i64 n, .int .i64 cut] w fun e w' => e = .returned (.bool true) ∧ Below w.heap.size w w' := by
  have P1 := fun w => pick_any n 8192 w (by omega) (by omega)
  have hn0 : 0 ≤ n % 8192 := Int.emod_nonneg _ (by omega)
  have hn1 : n % 8192 < 8192 := Int.emod_lt_of_pos _ (by omega)
  have P2 := fun w => pick_any cut (n % 8192 + 1) w (by omega) (by omega)
  have hc0 : 0 ≤ cut % (n % 8192 + 1) := Int.emod_nonneg _ (by omega)
  have hc1 : cut % (n % 8192 + 1) < n % 8192 + 1 := Int.emod_lt_of_pos _ (by omega)
  have hnw : wrap64 (n % 8192 + 1) = n % 8192 + 1 := by unfold wrap64; omega
  generalize cut % (n % 8192 + 1) = c at *
  generalize n % 8192 = m at *
  have hT := two_new w 0 0 (by omega) (by omega)
  have CA := new_any w 0 (by omega)
  have CB := new_any (w.alloc (.cells (wcs 0 (.map none) nilL) 51)) 0 (by omega)
  rw [show (w.alloc (.cells (wcs 0 (.map none) nilL) 51)).heap.size = w.heap.size + 1 by simp] at CB
  generalize (w.alloc (.cells (wcs 0 (.map none) nilL) 51)).alloc (.cells (wcs 0 (.map none) nilL) 51) = wB at *
  generalize w.alloc (.cells (wcs 0 (.map none) nilL) 51) = wA at *
  have CT := turnsKeep_any wB
  obtain ⟨N, hN⟩ : ∃ N, N = zs.length := ⟨_, rfl⟩
  rw [← hN]
  have HN : Hid (N = zs.length) := hN
  have HLT : Hid (0 < N → B < w.heap.size) := hid fun h => hZ.lt (by omega)
  have hNb : N ≤ 17592186044416 := by rw [hN]; exact hZ.len
  have HNB : Hid (N ≤ 17592186044416) := hNb
  clear hN hNb
  go_enter Try.func4, Try.ntmps4
  go_wp2_with (first
    | (go_at_call 6; go_fit (P1 _); rintro e w' ⟨rfl, hw⟩; rw [hw]; clear hw w')
    | (go_at_call 6; go_fit (P2 _); rintro e w' ⟨rfl, hw⟩; rw [hw]; clear hw w')
    | (go_at_call 7; go_fit CA; rintro e w' ⟨rfl, hw⟩; rw [hw]; clear hw w')
    | (go_at_call 7; go_fit CB; rintro e w' ⟨rfl, hw⟩; rw [hw]; clear hw w')
    | (go_at_call 8; go_fit CT; rintro e w1 ⟨rfl, hb1⟩; replace hT := hT.below hb1))
  go_loopw [11] (fun i W => ∃ j : Nat, j ≤ N ∧ j ≤ 60 ∧ i = .int .i64 (j : Int) ∧ Two w W w.heap.size (w.heap.size + 1) 0 0 (duJ zs 8192 0 j) (duJ zs 8192 0 j) j j []) (fun i _ => 60 - (intOf i).toNat)
  case atStart => exact ⟨0, Nat.zero_le _, by omega, rfl, by rw [duJ_zero]; exact hT⟩
  case round =>
    clear hT hb1
    obtain ⟨j, hj, hj6, rfl, hT⟩ := hrel
    by_cases hc : j < N ∧ j < 60
    · obtain ⟨hjn, hj60⟩ := hc
      have hjl : j < zs.length := by have := HN.out; omega
      have hZW := hZ.below hT.base (fun h => hZ.lt h)
      have ha := hZ.at0 (by omega)
      subst ha
      have hcell := hZW.cell j hjl
      have hnx := duJ_next zs 8192 0 j hjl
      have hnn := duJ_none zs 8192 0 j
      have P3 := fun w => pick_any zs[j] 8192 w (by omega) (by omega)
      have hd0 : 0 ≤ zs[j] % 8192 := Int.emod_nonneg _ (by omega)
      have hd1 : zs[j] % 8192 < 8192 := Int.emod_lt_of_pos _ (by omega)
      have hmx : max (zs[j] % 8192) 0 = 0 + zs[j] % 8192 := by omega
      generalize zs[j] % 8192 = d at *
      generalize zs[j] = x at *
      have A1 := hT.arm (j : Int) d (wf_small (by omega)) hd0 (by omega) hnn (by omega)
      have A2 := fun (W : World) (h : Two w W w.heap.size (w.heap.size + 1) 0 0 (setD (duJ zs 8192 0 j) (j : Int) (max d 0)) (duJ zs 8192 0 j) (j + 1) j []) => h.swap.arm (j : Int) d (wf_small (by omega)) hd0 (by omega) hnn (by omega)
      rw [hmx, hnx] at A2
      rw [hmx, hnx] at A1
      have hI := fun w => ixZ B O N cap j hjn w
      have hji : (j : Int) < (N : Int) := by omega
      have hj6i : (j : Int) < 60 := by omega
      have HM := meas_up hj60
      have HJ : Hid (j + 1 ≤ N ∧ j + 1 ≤ 60) := hid (by omega)
      have hjw := wrap_up (p := j) (by omega)
      clear hj hj6 hjn hj60 hnx hnn hmx hd0 hd1 hT hc0 hc1 hn0 hn1 hjl
      go_wp2_with (first
        | (go_at_call 6; go_fit (P3 _); rintro e w' ⟨rfl, hw⟩; rw [hw]; clear hw w')
        | (go_at_call 9; go_fit A1; rintro e w2 ⟨rfl, hT2⟩; replace A2 := A2 _ hT2)
        | (go_at_call 9; go_fit A2; rintro e w3 ⟨rfl, hT3⟩))
      go_roundw
      case rel => exact ⟨j + 1, HJ.out.1, HJ.out.2, by go_num, hT3.swap⟩
      case measure => first | exact HM.out | (rw [hjw]; exact HM.out)
    · by_cases hjn : j < N
      · have hji : (j : Int) < (N : Int) := by omega
        have hj6i : ¬ (j : Int) < 60 := by omega
        have A1 := hT.adv m hn0 (by omega)
        have HC : Hid (c ≤ m ∧ 0 ≤ c ∧ m < 8192 ∧ j ≤ 60) := hid (by omega)
        have A2 := fun (W : World) (cA : Nat) (us : List (Value × List Int)) (h : Two w W w.heap.size (w.heap.size + 1) m 0 (leftD m (duJ zs 8192 0 j)) (duJ zs 8192 0 j) cA j us) => h.swap.adv c (by omega) (by omega)
        have A3 := fun (W : World) (cA cB : Nat) (us : List (Value × List Int)) (h : Two w W (w.heap.size + 1) w.heap.size c m (leftD c (duJ zs 8192 0 j)) (leftD m (duJ zs 8192 0 j)) cB cA us) => h.adv m (by omega) (by omega)
        clear hj hj6 hT hc0 hc1 hn0 hn1
        go_wp2_with (first
          | (go_at_call 10; go_fit A1; rintro e w2 ⟨v1, rfl, o1, c1, n1, m1, k1, hT1⟩; obtain ⟨al1, kp1, hs1⟩ := own_slice (hT1.told List.mem_cons_self); subst hs1; replace A2 := A2 _ _ _ hT1)
          | (go_at_call 10; go_fit A2; rintro e w3 ⟨v2, rfl, o2, c2, n2, m2, k2, hT2⟩; obtain ⟨al2, kp2, hs2⟩ := own_slice (hT2.told List.mem_cons_self); subst hs2; replace A3 := A3 _ _ _ _ hT2)
          | (go_at_call 10; go_fit A3; rintro e w4 ⟨v3, rfl, o3, c3, n3, m3, k3, hT3⟩; obtain ⟨al3, kp3, hs3⟩ := own_slice (hT3.told List.mem_cons_self); subst hs3; obtain ⟨HEQ, HLN, hwl, hle⟩ := steps_facts HC.out.1 HC.out.2.2.2 n1 n2 n3 m1 m2 m3 k1 k2 k3; clear n1 n2 n3 m1 m2 m3))
        have h1 := hT3.told (v := .slice al1 (sortZ (dz (duJ zs 8192 0 j)) o1).length kp1) (l := sortZ (dz (duJ zs 8192 0 j)) o1) (by simp)
        have h2 := hT3.told (v := .slice al2 (sortZ (dz (duJ zs 8192 0 j)) o2).length kp2) (l := sortZ (dz (duJ zs 8192 0 j)) o2) (by simp)
        have h3 := hT3.told (v := .slice al3 (sortZ (dz (leftD c (duJ zs 8192 0 j))) o3).length kp3) (l := sortZ (dz (leftD c (duJ zs 8192 0 j))) o3) (by simp)
        have M1 := hT3.manyA
        have M2 := hT3.swap.manyA
        have hbw := hT3.base
        have HK : Hid ((c1 : Int) = (c3 : Int)) := hid (by have := HLN.out; omega)
        clear hT1 hT2 hT3 hwl hle k1 k2 k3 A1 A2 A3
        generalize sortZ (dz (duJ zs 8192 0 j)) o1 = s1 at *
        generalize sortZ (dz (duJ zs 8192 0 j)) o2 = s2 at *
        generalize sortZ (dz (leftD c (duJ zs 8192 0 j))) o3 = s3 at *
        obtain ⟨l1, hl1⟩ : ∃ l, l = s1.length := ⟨_, rfl⟩
        obtain ⟨l2, hl2⟩ : ∃ l, l = s2.length := ⟨_, rfl⟩
        obtain ⟨l3, hl3⟩ : ∃ l, l = s3.length := ⟨_, rfl⟩
        rw [← hl1] at HLN h1 ⊢
        rw [← hl2] at HLN h2 ⊢
        rw [← hl3] at HLN h3 ⊢
        have HL1 : Hid (l1 = s1.length) := hl1
        have HL2 : Hid (l2 = s2.length) := hl2
        have HL3 : Hid (l3 = s3.length) := hl3
        clear hl1 hl2 hl3
        go_loop [108] (fun i => ∃ k : Nat, k ≤ l1 ∧ i = .int .i64 (k : Int)) (fun i => l1 - (intOf i).toNat)
        case atStart => exact ⟨0, Nat.zero_le _, rfl⟩
        case round =>
          obtain ⟨k, hk, rfl⟩ := hrel
          by_cases hk1 : k < l1
          · have hks : k < s1.length := by have := HL1.out; omega
            obtain ⟨g1, rfl, r1⟩ := h1.read k hks
            have hI1 := fun w => ixI g1 l1 kp1 k hk1 w
            have hki : (k : Int) < (l1 : Int) := by omega
            have HM := meas_up hk1
            have HJ : Hid (k + 1 ≤ l1) := hid hk1
            have hb60 : k < 1000000000000 := by have := HLN.out; omega
            by_cases hk2 : k < l2
            · have hk2s : k < s2.length := by have := HL2.out; omega
              obtain ⟨g2, rfl, r2⟩ := h2.read k hk2s
              have e12 : s1[k] = s2[k] := by
                have := HEQ.out
                subst this
                exact List.getElem_append_left hk2s
              rw [e12] at r1
              have hI2 := fun w => ixI g2 l2 kp2 k hk2 w
              have hki2 : (k : Int) < (l2 : Int) := by omega
              have hge : ¬ (l2 : Int) ≤ (k : Int) := by omega
              generalize s2[k] = x at *
              clear e12
              have hne : (x != x) = false := by simp
              have hjw := wrap_up hb60
              clear hk hk1 hk2 hks hk2s hb60
              go_wp2
              go_round
              case rel => exact ⟨k + 1, HJ.out, by go_num⟩
              case measure => first | exact HM.out | (rw [hjw]; exact HM.out)
            · have hk3s : k - s2.length < s3.length := by have := HL1.out; have := HL2.out; have := HL3.out; have := HLN.out; omega
              obtain ⟨g3, rfl, r3⟩ := h3.read (k - s2.length) hk3s
              have e13 : s1[k] = s3[k - s2.length] := by
                have := HEQ.out
                subst this
                exact List.getElem_append_right (by have := HL2.out; omega)
              rw [e13] at r1
              have hI3 : ∀ w, (Instr.indexAt 22 (.slice (some ⟨g3, 0, none⟩) l3 kp3) (.int .i64 ((k : Int) - (l2 : Int)))).run Try.prog w = .ok (.pointer (some ⟨g3, k - l2, none⟩)) w := by
                intro w
                rw [show (k : Int) - (l2 : Int) = ((k - l2 : Nat) : Int) by omega]
                exact ixI g3 l3 kp3 (k - l2) (by have := HL2.out; have := HL3.out; omega) w
              have hki2 : ¬ (k : Int) < (l2 : Int) := by omega
              have hge : (l2 : Int) ≤ (k : Int) := by omega
              generalize s3[k - s2.length] = x at *
              rw [← HL2.out] at r3
              clear e13
              have hne : (x != x) = false := by simp
              have hkw : wrap64 ((k : Int) - (l2 : Int)) = (k : Int) - (l2 : Int) := by unfold wrap64; omega
              have hjw := wrap_up hb60
              clear hk hk1 hk2 hks hk3s hb60
              go_wp2
              go_round
              case rel => exact ⟨k + 1, HJ.out, by go_num⟩
              case measure => first | exact HM.out | (rw [hjw]; exact HM.out)
          · have hki : ¬ (k : Int) < (l1 : Int) := by omega
            have hcc : ((c1 : Int) == (c3 : Int)) = true := by rw [HK.out]; simp
            clear hk hk1
            go_wp2_with (first
              | (go_at_call 11; go_fit M1; rintro e w' ⟨rfl, hw⟩; rw [hw]; clear hw w')
              | (go_at_call 11; go_fit M2; rintro e w' ⟨rfl, hw⟩; rw [hw]; clear hw w'))
            go_ret
            exact ⟨rfl, hbw⟩
      · have hji : ¬ (j : Int) < (N : Int) := by omega
        have A1 := hT.adv m hn0 (by omega)
        have HC : Hid (c ≤ m ∧ 0 ≤ c ∧ m < 8192 ∧ j ≤ 60) := hid (by omega)
        have A2 := fun (W : World) (cA : Nat) (us : List (Value × List Int)) (h : Two w W w.heap.size (w.heap.size + 1) m 0 (leftD m (duJ zs 8192 0 j)) (duJ zs 8192 0 j) cA j us) => h.swap.adv c (by omega) (by omega)
        have A3 := fun (W : World) (cA cB : Nat) (us : List (Value × List Int)) (h : Two w W (w.heap.size + 1) w.heap.size c m (leftD c (duJ zs 8192 0 j)) (leftD m (duJ zs 8192 0 j)) cB cA us) => h.adv m (by omega) (by omega)
        clear hj hj6 hT hc0 hc1 hn0 hn1
        go_wp2_with (first
          | (go_at_call 10; go_fit A1; rintro e w2 ⟨v1, rfl, o1, c1, n1, m1, k1, hT1⟩; obtain ⟨al1, kp1, hs1⟩ := own_slice (hT1.told List.mem_cons_self); subst hs1; replace A2 := A2 _ _ _ hT1)
          | (go_at_call 10; go_fit A2; rintro e w3 ⟨v2, rfl, o2, c2, n2, m2, k2, hT2⟩; obtain ⟨al2, kp2, hs2⟩ := own_slice (hT2.told List.mem_cons_self); subst hs2; replace A3 := A3 _ _ _ _ hT2)
          | (go_at_call 10; go_fit A3; rintro e w4 ⟨v3, rfl, o3, c3, n3, m3, k3, hT3⟩; obtain ⟨al3, kp3, hs3⟩ := own_slice (hT3.told List.mem_cons_self); subst hs3; obtain ⟨HEQ, HLN, hwl, hle⟩ := steps_facts HC.out.1 HC.out.2.2.2 n1 n2 n3 m1 m2 m3 k1 k2 k3; clear n1 n2 n3 m1 m2 m3))
        have h1 := hT3.told (v := .slice al1 (sortZ (dz (duJ zs 8192 0 j)) o1).length kp1) (l := sortZ (dz (duJ zs 8192 0 j)) o1) (by simp)
        have h2 := hT3.told (v := .slice al2 (sortZ (dz (duJ zs 8192 0 j)) o2).length kp2) (l := sortZ (dz (duJ zs 8192 0 j)) o2) (by simp)
        have h3 := hT3.told (v := .slice al3 (sortZ (dz (leftD c (duJ zs 8192 0 j))) o3).length kp3) (l := sortZ (dz (leftD c (duJ zs 8192 0 j))) o3) (by simp)
        have M1 := hT3.manyA
        have M2 := hT3.swap.manyA
        have hbw := hT3.base
        have HK : Hid ((c1 : Int) = (c3 : Int)) := hid (by have := HLN.out; omega)
        clear hT1 hT2 hT3 hwl hle k1 k2 k3 A1 A2 A3
        generalize sortZ (dz (duJ zs 8192 0 j)) o1 = s1 at *
        generalize sortZ (dz (duJ zs 8192 0 j)) o2 = s2 at *
        generalize sortZ (dz (leftD c (duJ zs 8192 0 j))) o3 = s3 at *
        obtain ⟨l1, hl1⟩ : ∃ l, l = s1.length := ⟨_, rfl⟩
        obtain ⟨l2, hl2⟩ : ∃ l, l = s2.length := ⟨_, rfl⟩
        obtain ⟨l3, hl3⟩ : ∃ l, l = s3.length := ⟨_, rfl⟩
        rw [← hl1] at HLN h1 ⊢
        rw [← hl2] at HLN h2 ⊢
        rw [← hl3] at HLN h3 ⊢
        have HL1 : Hid (l1 = s1.length) := hl1
        have HL2 : Hid (l2 = s2.length) := hl2
        have HL3 : Hid (l3 = s3.length) := hl3
        clear hl1 hl2 hl3
        go_loop [108] (fun i => ∃ k : Nat, k ≤ l1 ∧ i = .int .i64 (k : Int)) (fun i => l1 - (intOf i).toNat)
        case atStart => exact ⟨0, Nat.zero_le _, rfl⟩
        case round =>
          obtain ⟨k, hk, rfl⟩ := hrel
          by_cases hk1 : k < l1
          · have hks : k < s1.length := by have := HL1.out; omega
            obtain ⟨g1, rfl, r1⟩ := h1.read k hks
            have hI1 := fun w => ixI g1 l1 kp1 k hk1 w
            have hki : (k : Int) < (l1 : Int) := by omega
            have HM := meas_up hk1
            have HJ : Hid (k + 1 ≤ l1) := hid hk1
            have hb60 : k < 1000000000000 := by have := HLN.out; omega
            by_cases hk2 : k < l2
            · have hk2s : k < s2.length := by have := HL2.out; omega
              obtain ⟨g2, rfl, r2⟩ := h2.read k hk2s
              have e12 : s1[k] = s2[k] := by
                have := HEQ.out
                subst this
                exact List.getElem_append_left hk2s
              rw [e12] at r1
              have hI2 := fun w => ixI g2 l2 kp2 k hk2 w
              have hki2 : (k : Int) < (l2 : Int) := by omega
              have hge : ¬ (l2 : Int) ≤ (k : Int) := by omega
              generalize s2[k] = x at *
              clear e12
              have hne : (x != x) = false := by simp
              have hjw := wrap_up hb60
              clear hk hk1 hk2 hks hk2s hb60
              go_wp2
              go_round
              case rel => exact ⟨k + 1, HJ.out, by go_num⟩
              case measure => first | exact HM.out | (rw [hjw]; exact HM.out)
            · have hk3s : k - s2.length < s3.length := by have := HL1.out; have := HL2.out; have := HL3.out; have := HLN.out; omega
              obtain ⟨g3, rfl, r3⟩ := h3.read (k - s2.length) hk3s
              have e13 : s1[k] = s3[k - s2.length] := by
                have := HEQ.out
                subst this
                exact List.getElem_append_right (by have := HL2.out; omega)
              rw [e13] at r1
              have hI3 : ∀ w, (Instr.indexAt 22 (.slice (some ⟨g3, 0, none⟩) l3 kp3) (.int .i64 ((k : Int) - (l2 : Int)))).run Try.prog w = .ok (.pointer (some ⟨g3, k - l2, none⟩)) w := by
                intro w
                rw [show (k : Int) - (l2 : Int) = ((k - l2 : Nat) : Int) by omega]
                exact ixI g3 l3 kp3 (k - l2) (by have := HL2.out; have := HL3.out; omega) w
              have hki2 : ¬ (k : Int) < (l2 : Int) := by omega
              have hge : (l2 : Int) ≤ (k : Int) := by omega
              generalize s3[k - s2.length] = x at *
              rw [← HL2.out] at r3
              clear e13
              have hne : (x != x) = false := by simp
              have hkw : wrap64 ((k : Int) - (l2 : Int)) = (k : Int) - (l2 : Int) := by unfold wrap64; omega
              have hjw := wrap_up hb60
              clear hk hk1 hk2 hks hk3s hb60
              go_wp2
              go_round
              case rel => exact ⟨k + 1, HJ.out, by go_num⟩
              case measure => first | exact HM.out | (rw [hjw]; exact HM.out)
          · have hki : ¬ (k : Int) < (l1 : Int) := by omega
            have hcc : ((c1 : Int) == (c3 : Int)) = true := by rw [HK.out]; simp
            clear hk hk1
            go_wp2_with (first
              | (go_at_call 11; go_fit M1; rintro e w' ⟨rfl, hw⟩; rw [hw]; clear hw w')
              | (go_at_call 11; go_fit M2; rintro e w' ⟨rfl, hw⟩; rw [hw]; clear hw w'))
            go_ret
            exact ⟨rfl, hbw⟩
end Go.Proofs.Ytphijplgnffoiaa
