/-
  Of what BindCloses, BindOpens stands on: part 17.
-/
import Derived.Test.YtmdijjbkjcnbpaaBindCO13
import Derived.Test.YtmdijjbkjcnbpaaBindCO16
namespace Go.Proofs.Ytmdijjbkjcnbpaa
open Go.ChangeShapes Go.WideShapes Go.ChangeAt Go.RowKit
set_option linter.unusedSimpArgs false
set_option linter.unusedVariables false

theorem plc_keep {w w' : World} {base : Nat} {v : Value} {l : List Nat} (h : Plc w base v l) (hb : Below w.heap.size w w') : Plc w' base v l := own_below h hb
def pl2 (n : Nat) : List Value := [.int .i64 ((n / 6 : Nat) : Int), .int .i64 ((n % 6 : Nat) : Int)]
theorem plc_get (l : List Nat) (j i : Nat) (hj : j < l.length) (hi : i < 2) : (plc l)[2 * j + i]? = (pl2 l[j])[i]? := by
  induction l generalizing j with
  | nil => simp at hj
  | cons m r ih =>
    have e : plc (m :: r) = pl2 m ++ plc r := by unfold plc pl2; rw [List.flatMap_cons]
    rw [e]
    cases j with
    | zero => rw [List.getElem?_append_left (by simp [pl2]; omega)]; simp
    | succ j =>
      rw [List.getElem?_append_right (by simp [pl2]; omega)]
      have : 2 * (j + 1) + i - (pl2 m).length = 2 * j + i := by simp [pl2]; omega
      rw [this, ih j (by simpa using hj)]
      simp
theorem Plc.at {w : World} {base : Nat} {v : Value} {l : List Nat} (h : Plc w base v l) (j : Nat) (hj : j < l.length) {n : Nat} (hn : l[j] = n) : w.rangeAt (mb v) (2 * j) (pl2 n) := by
  rcases h.2 with ⟨e, n0⟩ | ⟨b, cap, cur, hv, hbb, hh, hnc, hcm, hcs, ht⟩
  · omega
  · have hc := World.ownsRow.cells h (g := b) (by rw [hv]; rfl)
    intro i u hu
    have hi : i < 2 := (List.getElem?_eq_some_iff.1 hu).1
    have hg := plc_get l j i hj hi
    rw [hn, hu] at hg
    have := hc _ _ hg
    rw [Addr.add_lit] at this
    rw [hv]
    simpa [mb] using this
theorem wpList_indexP {ops : Array Oper} {rest : List Oper} {o : Oper} {a : Act} {w : World} {Q : Exit → Act → World → Prop} (hgd : o.guard = none) (x y : Operand) (ho : o.op = .indexAddr 90 x y) (base : Nat) (v : Value) (l : List Nat) (hP : Plc w base v l) (hx : a.eval x = v) (j : Nat) (hy : a.eval y = .int .i64 (j : Int)) (hj : j < l.length)
    (hr : wpList Try.prog ops Q rest (a.put o.dst (.pointer (some ⟨mb v, 2 * j, none⟩))) w) : wpList Try.prog ops Q (o :: rest) a w :=
  wpList_plain hgd fun K hK => by
    rcases hP.2 with ⟨e, n0⟩ | ⟨b, cap, cur, hv, hbb, hh, hnc, hcm, hcs, ht⟩
    · omega
    · subst hv
      have hn : ((j : Int)).toNat < l.length := by simpa using hj
      have hjl : (j : Int) < (l.length : Int) := by omega
      have hs : (sizeOf 67).run Try.prog w = .ok 2 w := by kernel_rfl
      have hrun : (Instr.indexAt 90 (.slice (some ⟨b, 0, none⟩) l.length cap) (.int .i64 (j : Int))).run Try.prog w = .ok (.pointer (some ⟨b, 2 * j, none⟩)) w := by
        simp [go_sem, hj, hn, hjl, Try.underlying90, hs]
      unfold Oper.wp execOp
      simp only [ho, hx, hy, Sem.run_bind, hrun, Result.andThen_ok, Sem.run_pure]
      exact hK _ _ hr
def unS : Option (Nat × Nat) → Value
  | some x => .tuple #[.int .i64 (portQ x.1 x.2), .bool true]
  | none => .tuple #[.int .i64 0, .bool false]
theorem pl2_info (n : Nat) : (Try.prog.info? 67).map (·.size) = some (pl2 n).length := by kernel_rfl
theorem usedB_find (ms : List Mp) (p a q : Int) : usedB ms p a q = (ms.find? (outS p a q)).isSome := by
  unfold usedB; rw [List.isSome_find?]
theorem unused_hit {ms : List Mp} {p : Int} {n i : Nat} (hi : i < 8) (hb : ∀ i', i' < i → usedB ms p ((n / 6 : Nat) : Int) (portQ n i') = true) (hu : usedB ms p ((n / 6 : Nat) : Int) (portQ n i) = false) : unused1 ms p n = some i := by
  unfold unused1
  rw [List.find?_range_eq_some]
  exact ⟨by rw [hu]; rfl, List.mem_range.2 hi, fun j hj => by rw [hb j hj]; rfl⟩
theorem unused_none {ms : List Mp} {p : Int} {n : Nat} (hb : ∀ i', i' < 8 → usedB ms p ((n / 6 : Nat) : Int) (portQ n i') = true) : unused1 ms p n = none := by
  unfold unused1
  rw [List.find?_eq_none]
  intro i hi
  rw [hb i (List.mem_range.1 hi)]; simp
theorem unusedO_drop_hit {ms : List Mp} {p : Int} {l : List Nat} {j n i : Nat} (hlj : j < l.length) (hn : l[j] = n) (h : unused1 ms p n = some i) : unusedO ms p (l.drop j) = some (n, i) := by
  rw [List.drop_eq_getElem_cons hlj, hn]; unfold unusedO; rw [h]
theorem unusedO_drop_none {ms : List Mp} {p : Int} {l : List Nat} {j n : Nat} (hlj : j < l.length) (hn : l[j] = n) (h : unused1 ms p n = none) : unusedO ms p (l.drop j) = unusedO ms p (l.drop (j + 1)) := by
  rw [List.drop_eq_getElem_cons hlj, hn]
  conv => lhs; unfold unusedO
  rw [h]
set_option maxRecDepth 10000 in
set_option maxHeartbeats 8000000 in
theorem unused_any (f : Nat → Int) (g : Nat → Bool) (h : Nat → Int) (sl : Value) (ms : List Mp) (p : Int) (base : Nat) (v : Value) (l : List Nat) (w : World) (hM : MapsAt w sl ms) (hP : Plc w base v l) (hl18 : l.length ≤ 18) :
    Calls Try.prog 50 #[.agg (tc f g h sl), .int .i64 p, v] w fun e w' => e = .returned (unS (unusedO ms p l)) ∧ Below w.heap.size w w' := by
  have hB := Below.refl w.heap.size w
  have hM0 := hM
  obtain ⟨a0, cap, hsl, -⟩ := hM0
  obtain ⟨n, hn⟩ : ∃ n, n = ms.length := ⟨_, rfl⟩
  rw [← hn] at hsl
  subst hsl
  have HN : Hid (n = ms.length) := hn
  clear hn
  have hlt := hM.lt
  obtain ⟨a1, c1, hv⟩ := hP.slice
  obtain ⟨L, hL⟩ : ∃ L, L = l.length := ⟨_, rfl⟩
  rw [← hL] at hv
  subst hv
  have HL : Hid (L = l.length) := hL
  clear hL
  go_enter Try.func50, Try.ntmps50
  go_wp2_with (refine wpList_boxR 30 rfl _ rfl _ rfl ?_; intro bT w1 lT RT hb1; replace lT := Nat.le_trans hB.size lT; replace hB := hB.trans (hb1.mono hB.size))
  go_loopw [16] (fun i W => ∃ j : Nat, j ≤ l.length ∧ i = .int .i64 j ∧ unusedO ms p l = unusedO ms p (l.drop j) ∧ Below w.heap.size w W ∧ Row 30 W bT (tc f g h (.slice a0 n cap))) (fun i _ => L - (intOf i).toNat)
  case atStart => exact ⟨0, by omega, rfl, by rw [List.drop_zero], hB, RT⟩
  case round =>
    clear hB RT hb1
    obtain ⟨j, hj, rfl, hun, hB, RT⟩ := hrel
    by_cases hlj : j < l.length
    · have hjn : (j : Int) < (L : Int) := by have := HL.out; omega
      have hjw : wrap64 ((j : Int) + 1) = (j : Int) + 1 := by unfold wrap64; omega
      obtain ⟨N, hN⟩ : ∃ N, l[j] = N := ⟨_, rfl⟩
      have hPW : Plc _ base (.slice a1 L c1) l := plc_keep hP hB
      have hrg := hPW.at j hlj hN
      have HU : Hid (unusedO ms p l = unusedO ms p (l.drop j)) := hun
      clear hun
      have hN6 : (0 : Int) ≤ ((N % 6 : Nat) : Int) := by omega
      have hN6' : ((N % 6 : Nat) : Int) ≤ 6 := by omega
      obtain ⟨kA, hkA⟩ : ∃ kA : Int, Hid (kA = ((N / 6 : Nat) : Int)) := ⟨_, rfl⟩
      obtain ⟨kB, hkB⟩ : ∃ kB : Int, Hid (kB = ((N % 6 : Nat) : Int)) := ⟨_, rfl⟩
      rw [← hkB.out] at hN6 hN6'
      have C1 := fun w => firstPort_any kB hN6 hN6' w
      have hpi : (pl2 N).toArray = ic2 kA kB := by rw [hkA.out, hkB.out]; rfl
      go_wp2_with (first
        | (refine wpList_indexP rfl (.tmp 14) (.tmp 16) rfl base (.slice a1 L c1) l hPW rfl j rfl hlj ?_)
        | (refine wpList_load_mid rfl 67 _ rfl _ _ rfl (pl2 N) _ hrg Try.underlying67 rfl (pl2_info N) ?_; rw [hpi])
        | (refine wpList_allocR 67 rfl rfl _ place_zero ?_; intro b9 w3 l9 R9 hb3; have nT := RT.ne l9; replace l9 := Nat.le_trans hB.size l9; replace RT := RT.below hb3; replace hB := hB.trans (hb3.mono hB.size))
        | (refine wpList_storeR 67 rfl _ _ rfl b9 rfl (ic2 kA kB) rfl _ R9 rfl (by kernel_rfl) (by kernel_rfl) ?_; intro w4 R9 t4; replace RT := t4.row RT nT; replace hB := t4.below _ _ l9 hB))
      go_loopw [20] (fun i W => ∃ k : Nat, k ≤ 8 ∧ i = .int .i64 k ∧ (∀ i', i' < k → usedB ms p ((N / 6 : Nat) : Int) (portQ N i') = true) ∧ Below w.heap.size w W ∧ Row 30 W bT (tc f g h (.slice a0 n cap)) ∧ Row 67 W b9 (ic2 kA kB)) (fun i _ => 8 - (intOf i).toNat)
      case atStart => exact ⟨0, by omega, rfl, fun i' hi' => absurd hi' (by omega), hB, RT, R9⟩
      case round =>
        clear hB RT R9 hPW hrg
        obtain ⟨k, hk, rfl, hused, hB, RT, R9⟩ := hrel
        by_cases hk8 : k < 8
        · have d0 := p0B R9
          have d1 := p1 R9
          have hPQ : Hid (1024 + kB * 8 + (k : Int) = portQ N k) := by
            show _ = _
            have := hkB.out; unfold portQ; omega
          have CB := fun w hM => back_any f g h (.slice a0 n cap) ms p kA (1024 + kB * 8 + (k : Int)) w hM
          cases hfd : ms.find? (outS p kA (1024 + kB * 8 + (k : Int))) with
          | none =>
            have HF : Hid (unusedO ms p l = some (N, k)) := by
              show _ = _
              rw [HU.out]
              exact unusedO_drop_hit hlj hN (unused_hit hk8 hused (by rw [usedB_find, ← hPQ.out, ← hkA.out, hfd]; rfl))
            rw [hfd] at CB
            unfold foundS at CB
            clear hN hfd hused hpi
            go_wp2_with (first
              | (go_at_call 29; go_fit (C1 _); rintro e w' ⟨rfl, hw⟩; rw [hw]; clear hw w')
              | (refine wpList_loadR 30 _ rfl rfl _ rfl (tc f g h (.slice a0 n cap)) RT _ Try.underlying30 rfl (tc_info _ _ _ _) ?_)
              | (go_at_call 10; go_fit (CB _ (hM.keep hB hlt)); rintro e w5 ⟨rfl, hb5⟩; clear d0 d1; replace RT := RT.below hb5; replace R9 := R9.below hb5; replace hB := hB.trans (hb5.mono hB.size))
              | (refine wpList_allocR 32 rfl rfl _ map_zero ?_; intro b12 w6 l12 R12 hb6; have nT2 := RT.ne l12; have n92 := R9.ne l12; replace l12 := Nat.le_trans hB.size l12; replace RT := RT.below hb6; replace R9 := R9.below hb6; replace hB := hB.trans (hb6.mono hB.size))
              | (refine wpList_storeR 32 rfl _ _ rfl b12 rfl (mc noM) rfl _ R12 rfl (mc_info _) (mc_one _) ?_; intro w7 R12 t7; replace RT := t7.row RT nT2; replace R9 := t7.row R9 n92; replace hB := t7.below _ _ l12 hB))
            go_ret2
            exact ⟨by rw [HF.out]; show _ = Ending.returned (.tuple #[.int .i64 (portQ N k), .bool true]); rw [← hPQ.out]; rfl, hB⟩
          | some mm =>
            have HF : Hid (∀ i', i' < k + 1 → usedB ms p ((N / 6 : Nat) : Int) (portQ N i') = true) := by
              show ∀ i', _
              intro i' hi'
              by_cases e : i' = k
              · subst e; rw [usedB_find, ← hPQ.out, ← hkA.out, hfd]; rfl
              · exact hused i' (by omega)
            rw [hfd] at CB
            unfold foundS at CB
            clear hfd hused hpi
            go_wp2_with (first
              | (go_at_call 29; go_fit (C1 _); rintro e w' ⟨rfl, hw⟩; rw [hw]; clear hw w')
              | (refine wpList_loadR 30 _ rfl rfl _ rfl (tc f g h (.slice a0 n cap)) RT _ Try.underlying30 rfl (tc_info _ _ _ _) ?_)
              | (go_at_call 10; go_fit (CB _ (hM.keep hB hlt)); rintro e w5 ⟨rfl, hb5⟩; clear d0 d1; replace RT := RT.below hb5; replace R9 := R9.below hb5; replace hB := hB.trans (hb5.mono hB.size))
              | (refine wpList_allocR 32 rfl rfl _ map_zero ?_; intro b12 w6 l12 R12 hb6; have nT2 := RT.ne l12; have n92 := R9.ne l12; replace l12 := Nat.le_trans hB.size l12; replace RT := RT.below hb6; replace R9 := R9.below hb6; replace hB := hB.trans (hb6.mono hB.size))
              | (refine wpList_storeR 32 rfl _ _ rfl b12 rfl (mc mm) rfl _ R12 rfl (mc_info _) (mc_one _) ?_; intro w7 R12 t7; replace RT := t7.row RT nT2; replace R9 := t7.row R9 n92; replace hB := t7.below _ _ l12 hB))
            go_roundw
            case rel => exact ⟨k + 1, by omega, by go_num, HF.out, hB, RT, R9⟩
            case measure => simp [intOf]; omega
        · have e : k = 8 := by omega
          subst e
          have HF : Hid (unusedO ms p l = unusedO ms p (l.drop (j + 1))) := by
            show _ = _
            rw [HU.out]
            exact unusedO_drop_none hlj hN (unused_none hused)
          clear hused hpi
          go_wp2
          go_roundw
          case rel => exact ⟨j + 1, by omega, by go_num, HF.out, hB, RT⟩
          case measure => (first | rw [hjw] | skip); exact meas_next (HL.out.symm ▸ hlj)
    · have e : j = l.length := by omega
      have hjn : (L : Int) ≤ (j : Int) := by have := HL.out; omega
      have HF : Hid (unusedO ms p l = none) := by
        show _ = _
        rw [hun, e, List.drop_length]; rfl
      clear e hj hlj hun
      go_wp2
      go_ret2
      exact ⟨by rw [HF.out]; rfl, hB⟩
end Go.Proofs.Ytmdijjbkjcnbpaa

namespace Go.Proofs.Ytmdijjbkjcnbpaa
open Go.ChangeShapes Go.WideShapes Go.ChangeAt Go.RowKit
set_option linter.unusedSimpArgs false
set_option linter.unusedVariables false

set_option maxHeartbeats 4000000 in
theorem address_any (f : Nat → Int) (g : Nat → Bool) (h : Nat → Int) (sl : Value) (s d : Int) (hs0 : 0 ≤ s) (hs8 : s < 8) (hh0 : 0 ≤ h s.toNat) (hh3 : h s.toNat ≤ 3) (hd : (Lit.int .i64 d).wf = true) (w : World) :
    Calls Try.prog 51 #[.agg (tc f g h sl), .int .i64 s, .int .i64 d] w fun e w' => e = .returned (.tuple #[.int .i64 (addrA f g h s d), .int .i64 (addrE f g h s)]) ∧ Below w.heap.size w w' := by
  have hB := Below.refl w.heap.size w
  have C := fun w => pick_any f g d hd w
  unfold plv at C
  by_cases hz : h s.toNat = 0
  · have HA : Hid (addrA f g h s d = pickK f g d) := if_pos hz
    have HE : Hid (addrE f g h s = pickE f g) := if_pos hz
    have dz : (h s.toNat != 0) = false := by simp [hz]
    clear hz
    go_enter Try.func51, Try.ntmps51
    go_wp2_with (first
      | (refine wpList_boxR 30 rfl _ rfl _ rfl ?_; intro b3 w1 l3 R3 hb1; replace hB := hB.trans (hb1.mono hB.size); have cH : w1.cell? ⟨b3, 21 + s.toNat, none⟩ = some (.int .i64 (h s.toNat)) := (R3.cell _).trans (tc_home f g h sl s.toNat (by omega)); have hrp := R3.pool)
      | (refine wpList_load_mid rfl 26 _ rfl _ _ rfl _ _ hrp Try.underlying26 rfl (pcl_infoB f g) ?_; rw [Array.toArray_toList])
      | (go_at_call 58; go_fit (C _); rintro e w5 ⟨rfl, hb5⟩; replace hB := hB.trans (hb5.mono hB.size)))
    go_ret2
    exact ⟨by rw [HA.out, HE.out]; rfl, hB⟩
  · have HA : Hid (addrA f g h s d = h s.toNat - 1) := if_neg hz
    have HE : Hid (addrE f g h s = 0) := if_neg hz
    have dz : (h s.toNat != 0) = true := by simp [hz]
    have hw1 : wrap64 (h s.toNat - 1) = h s.toNat - 1 := by unfold wrap64; omega
    clear hz
    go_enter Try.func51, Try.ntmps51
    go_wp2_with (refine wpList_boxR 30 rfl _ rfl _ rfl ?_; intro b3 w1 l3 R3 hb1; replace hB := hB.trans (hb1.mono hB.size); have cH : w1.cell? ⟨b3, 21 + s.toNat, none⟩ = some (.int .i64 (h s.toNat)) := (R3.cell _).trans (tc_home f g h sl s.toNat (by omega)))
    go_ret2
    exact ⟨by rw [HA.out, HE.out]; rfl, hB⟩
end Go.Proofs.Ytmdijjbkjcnbpaa
