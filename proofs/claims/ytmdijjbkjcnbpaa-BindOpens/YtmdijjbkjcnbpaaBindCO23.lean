/-
  Of what BindCloses, BindOpens stands on: part 23.
-/
import Derived.Test.YtmdijjbkjcnbpaaBindCO22
namespace Go.Proofs.Ytmdijjbkjcnbpaa
open Go.ChangeShapes Go.WideShapes Go.ChangeAt Go.RowKit
set_option linter.unusedSimpArgs false
set_option linter.unusedVariables false

theorem ic2_info (a b : Int) : (Try.prog.info? 67).map (·.size) = some (ic2 a b).size := by kernel_rfl
theorem ic2_one (a b : Int) : (ic2 a b).all (·.oneCell') = true := by kernel_rfl
/-- is one of the maps in that block. -/
def anyInB (ms : List Mp) (a b : Int) : Bool := ms.any fun o => inP o && (plA o == a && plB o == b)
theorem anyInB_at {ms : List Mp} {j : Nat} {a b : Int} {o : Mp} (hlj : j < ms.length) (hm : ms[j] = o) (h1 : inP o = true) (h2 : (plA o == a && plB o == b) = true) : anyInB ms a b = true := by
  unfold anyInB; rw [List.any_eq_true]; exact ⟨o, hm ▸ List.getElem_mem hlj, by rw [h1, h2]; rfl⟩
theorem anyInB_step {ms : List Mp} {j : Nat} {a b : Int} {o : Mp} (hno : anyInB (ms.take j) a b = false) (hlj : j < ms.length) (hm : ms[j] = o) (h : (inP o && (plA o == a && plB o == b)) = false) : anyInB (ms.take (j + 1)) a b = false := by
  unfold anyInB at *; rw [take_next hlj hm, List.any_append, hno]; simp [h]
set_option maxRecDepth 10000 in
set_option maxHeartbeats 1000000 in
theorem anyIn_any (sl : Value) (ms : List Mp) (x y : Int) (w : World) (hM : MapsAt w sl ms) :
    Calls Try.prog 46 #[sl, .agg (ic2 x y)] w fun e w' => e = .returned (.bool (anyInB ms x y)) ∧ Below w.heap.size w w' := by
  have hB := Below.refl w.heap.size w
  have hM0 := hM
  obtain ⟨a0, cap, hsl, -⟩ := hM0
  obtain ⟨n, hn⟩ : ∃ n, n = ms.length := ⟨_, rfl⟩
  rw [← hn] at hsl
  subst hsl
  have HN : Hid (n = ms.length) := hn
  clear hn
  have hlt := hM.lt
  go_enter Try.func46, Try.ntmps46
  go_wp2_with ((with_reducible refine at_opB (.box 67 (.tmp 1)) rfl ?_); refine wpList_boxR 67 rfl _ rfl _ rfl ?_; intro b3 w1 l3 R3 hb1; replace hB := hB.trans (hb1.mono hB.size))
  go_loopw [11] (fun i W => ∃ j : Nat, j ≤ ms.length ∧ i = .int .i64 j ∧ anyInB (ms.take j) x y = false ∧ Below w.heap.size w W ∧ Row 67 W b3 (ic2 x y)) (fun i _ => n - (intOf i).toNat)
  case atStart => exact ⟨0, by omega, rfl, by simp [anyInB], hB, R3⟩
  case round =>
    clear hB R3 hb1
    obtain ⟨j, hj, rfl, hno, hB, R3⟩ := hrel
    by_cases hlj : j < ms.length
    · have hjn : (j : Int) < (n : Int) := by have := HN.out; omega
      have hjw := wrap_next hlj hM.len
      obtain ⟨o, hm⟩ : ∃ o, ms[j] = o := ⟨_, rfl⟩
      have hMW := hM.keep hB hlt
      have hrg := hMW.at j hlj hm
      have CPl := fun w => placeOf_any o w
      cases hin : inP o with
      | false =>
        simp only [hin] at CPl
        have HF : Hid (anyInB (ms.take (j + 1)) x y = false) := anyInB_step hno hlj hm (by rw [hin]; rfl)
        clear hno hm hin
        go_wp2_with (first | ((with_reducible refine at_opB (.indexAddr 28 (.tmp 9) (.tmp 11)) rfl ?_); refine wpList_indexM rfl (.tmp 9) (.tmp 11) rfl (.slice a0 n cap) ms hMW rfl j rfl hlj ?_) | ((with_reducible refine at_opB (.load 32 (.tmp 13)) rfl ?_); refine wpList_load_mid rfl 32 (.tmp 13) rfl _ _ rfl (mcl o) _ hrg Try.underlying32 rfl (mcl_info o) ?_; rw [mcl_mc]) | ((with_reducible refine at_opB (.alloc 32) rfl ?_); refine wpList_allocX 6 32 rfl rfl rfl _ map_zero ?_; intro b6 w3 l6 R6 hb3; have n36 := R3.ne l6; replace l6 := Nat.le_trans hB.size l6; replace R3 := R3.below hb3; replace hB := hB.trans (hb3.mono hB.size)) | ((with_reducible refine at_opB (.store 32 (.tmp 6) (.tmp 14)) rfl ?_); refine wpList_storeR 32 rfl (.tmp 6) _ rfl b6 rfl (mc o) rfl _ R6 rfl (mc_info _) (mc_one _) ?_; intro w4 R6 t4; replace R3 := t4.row R3 n36; replace hB := t4.below _ _ l6 hB) | ((with_reducible refine at_opB (.load 32 (.tmp 6)) rfl ?_); refine wpList_loadR 32 (.tmp 6) rfl rfl b6 rfl (mc o) R6 _ Try.underlying32 rfl (mc_info _) ?_) | (go_at_call 33; go_fit (CPl _); rintro e w5 ⟨rfl, hb5⟩; clear R6; replace R3 := R3.below hb5; replace hB := hB.trans (hb5.mono hB.size)) | ((with_reducible refine at_opB (.alloc 67) rfl ?_); refine wpList_allocX 7 67 rfl rfl rfl _ place_zero ?_; intro b7 w6 l7 R7 hb6; have n37 := R3.ne l7; replace l7 := Nat.le_trans hB.size l7; replace R3 := R3.below hb6; replace hB := hB.trans (hb6.mono hB.size)) | ((with_reducible refine at_opB (.store 67 (.tmp 7) (.tmp 18)) rfl ?_); refine wpList_storeR 67 rfl (.tmp 7) _ rfl b7 rfl (ic2 (plA o) (plB o)) rfl _ R7 rfl (ic2_info _ _) (ic2_one _ _) ?_; intro w8 R7 t8; replace R3 := t8.row R3 n37; replace hB := t8.below _ _ l7 hB))
        go_roundw
        case rel => first | exact ⟨j + 1, by omega, by go_num, HF.out, hB, R3⟩ | ((repeat apply Exists.intro); exact ⟨⟨j + 1, by omega, by go_num, HF.out, hB, R3⟩, rfl⟩)
        case measure => (first | rw [hjw] | skip); exact meas_next (HN.out.symm ▸ hlj)
      | true =>
        simp only [hin] at CPl
        cases dE : (plA o == x && plB o == y) with
        | true =>
          have HF : Hid (anyInB ms x y = true) := anyInB_at hlj hm hin dE
          clear hno hm hin
          go_wp2_with (first | ((with_reducible refine at_opB (.indexAddr 28 (.tmp 9) (.tmp 11)) rfl ?_); refine wpList_indexM rfl (.tmp 9) (.tmp 11) rfl (.slice a0 n cap) ms hMW rfl j rfl hlj ?_) | ((with_reducible refine at_opB (.load 32 (.tmp 13)) rfl ?_); refine wpList_load_mid rfl 32 (.tmp 13) rfl _ _ rfl (mcl o) _ hrg Try.underlying32 rfl (mcl_info o) ?_; rw [mcl_mc]) | ((with_reducible refine at_opB (.alloc 32) rfl ?_); refine wpList_allocX 6 32 rfl rfl rfl _ map_zero ?_; intro b6 w3 l6 R6 hb3; have n36 := R3.ne l6; replace l6 := Nat.le_trans hB.size l6; replace R3 := R3.below hb3; replace hB := hB.trans (hb3.mono hB.size)) | ((with_reducible refine at_opB (.store 32 (.tmp 6) (.tmp 14)) rfl ?_); refine wpList_storeR 32 rfl (.tmp 6) _ rfl b6 rfl (mc o) rfl _ R6 rfl (mc_info _) (mc_one _) ?_; intro w4 R6 t4; replace R3 := t4.row R3 n36; replace hB := t4.below _ _ l6 hB) | ((with_reducible refine at_opB (.load 32 (.tmp 6)) rfl ?_); refine wpList_loadR 32 (.tmp 6) rfl rfl b6 rfl (mc o) R6 _ Try.underlying32 rfl (mc_info _) ?_) | (go_at_call 33; go_fit (CPl _); rintro e w5 ⟨rfl, hb5⟩; clear R6; replace R3 := R3.below hb5; replace hB := hB.trans (hb5.mono hB.size)) | ((with_reducible refine at_opB (.alloc 67) rfl ?_); refine wpList_allocX 7 67 rfl rfl rfl _ place_zero ?_; intro b7 w6 l7 R7 hb6; have n37 := R3.ne l7; replace l7 := Nat.le_trans hB.size l7; replace R3 := R3.below hb6; replace hB := hB.trans (hb6.mono hB.size)) | ((with_reducible refine at_opB (.store 67 (.tmp 7) (.tmp 18)) rfl ?_); refine wpList_storeR 67 rfl (.tmp 7) _ rfl b7 rfl (ic2 (plA o) (plB o)) rfl _ R7 rfl (ic2_info _ _) (ic2_one _ _) ?_; intro w8 R7 t8; replace R3 := t8.row R3 n37; replace hB := t8.below _ _ l7 hB) | ((with_reducible refine at_opB (.load 67 (.tmp 7)) rfl ?_); refine wpList_loadR 67 (.tmp 7) rfl ?_ b7 rfl (ic2 (plA o) (plB o)) R7 _ Try.underlying67 rfl (ic2_info _ _) ?_; · kernel_rfl) | ((with_reducible refine at_opB (.load 67 (.tmp 3)) rfl ?_); refine wpList_loadR 67 (.tmp 3) rfl ?_ b3 rfl (ic2 x y) R3 _ Try.underlying67 rfl (ic2_info _ _) ?_; · kernel_rfl; (try dsimp only [Act.put]); (try simp only [List.setIfInBounds_toArray, List.set_cons_zero, List.set_cons_succ])) | ((with_reducible refine at_opB (.binOp .eql 67 (.tmp 22) (.tmp 23) 67) rfl ?_); refine wpList_eqS 67 (.tmp 22) (.tmp 23) rfl ?_ (ic2 (plA o) (plB o)) (ic2 x y) (by kernel_rfl) (by kernel_rfl) Try.eqGuardType67 _ _ (eq_place (plA o) (plB o) x y _) dE ?_; · kernel_rfl))
          go_ret
          exact ⟨by rw [HF.out]; rfl, hB⟩
        | false =>
          have HF : Hid (anyInB (ms.take (j + 1)) x y = false) := anyInB_step hno hlj hm (by rw [hin, dE]; rfl)
          clear hno hm hin
          go_wp2_with (first | ((with_reducible refine at_opB (.indexAddr 28 (.tmp 9) (.tmp 11)) rfl ?_); refine wpList_indexM rfl (.tmp 9) (.tmp 11) rfl (.slice a0 n cap) ms hMW rfl j rfl hlj ?_) | ((with_reducible refine at_opB (.load 32 (.tmp 13)) rfl ?_); refine wpList_load_mid rfl 32 (.tmp 13) rfl _ _ rfl (mcl o) _ hrg Try.underlying32 rfl (mcl_info o) ?_; rw [mcl_mc]) | ((with_reducible refine at_opB (.alloc 32) rfl ?_); refine wpList_allocX 6 32 rfl rfl rfl _ map_zero ?_; intro b6 w3 l6 R6 hb3; have n36 := R3.ne l6; replace l6 := Nat.le_trans hB.size l6; replace R3 := R3.below hb3; replace hB := hB.trans (hb3.mono hB.size)) | ((with_reducible refine at_opB (.store 32 (.tmp 6) (.tmp 14)) rfl ?_); refine wpList_storeR 32 rfl (.tmp 6) _ rfl b6 rfl (mc o) rfl _ R6 rfl (mc_info _) (mc_one _) ?_; intro w4 R6 t4; replace R3 := t4.row R3 n36; replace hB := t4.below _ _ l6 hB) | ((with_reducible refine at_opB (.load 32 (.tmp 6)) rfl ?_); refine wpList_loadR 32 (.tmp 6) rfl rfl b6 rfl (mc o) R6 _ Try.underlying32 rfl (mc_info _) ?_) | (go_at_call 33; go_fit (CPl _); rintro e w5 ⟨rfl, hb5⟩; clear R6; replace R3 := R3.below hb5; replace hB := hB.trans (hb5.mono hB.size)) | ((with_reducible refine at_opB (.alloc 67) rfl ?_); refine wpList_allocX 7 67 rfl rfl rfl _ place_zero ?_; intro b7 w6 l7 R7 hb6; have n37 := R3.ne l7; replace l7 := Nat.le_trans hB.size l7; replace R3 := R3.below hb6; replace hB := hB.trans (hb6.mono hB.size)) | ((with_reducible refine at_opB (.store 67 (.tmp 7) (.tmp 18)) rfl ?_); refine wpList_storeR 67 rfl (.tmp 7) _ rfl b7 rfl (ic2 (plA o) (plB o)) rfl _ R7 rfl (ic2_info _ _) (ic2_one _ _) ?_; intro w8 R7 t8; replace R3 := t8.row R3 n37; replace hB := t8.below _ _ l7 hB) | ((with_reducible refine at_opB (.load 67 (.tmp 7)) rfl ?_); refine wpList_loadR 67 (.tmp 7) rfl ?_ b7 rfl (ic2 (plA o) (plB o)) R7 _ Try.underlying67 rfl (ic2_info _ _) ?_; · kernel_rfl) | ((with_reducible refine at_opB (.load 67 (.tmp 3)) rfl ?_); refine wpList_loadR 67 (.tmp 3) rfl ?_ b3 rfl (ic2 x y) R3 _ Try.underlying67 rfl (ic2_info _ _) ?_; · kernel_rfl; (try dsimp only [Act.put]); (try simp only [List.setIfInBounds_toArray, List.set_cons_zero, List.set_cons_succ])) | ((with_reducible refine at_opB (.binOp .eql 67 (.tmp 22) (.tmp 23) 67) rfl ?_); refine wpList_eqS 67 (.tmp 22) (.tmp 23) rfl ?_ (ic2 (plA o) (plB o)) (ic2 x y) (by kernel_rfl) (by kernel_rfl) Try.eqGuardType67 _ _ (eq_place (plA o) (plB o) x y _) dE ?_; · kernel_rfl))
          go_roundw
          case rel => first | exact ⟨j + 1, by omega, by go_num, HF.out, hB, R3⟩ | ((repeat apply Exists.intro); exact ⟨⟨j + 1, by omega, by go_num, HF.out, hB, R3⟩, rfl⟩)
          case measure => (first | rw [hjw] | skip); exact meas_next (HN.out.symm ▸ hlj)
    · have e : j = ms.length := by omega
      have hjn : (n : Int) ≤ (j : Int) := by have := HN.out; omega
      rw [e, List.take_length] at hno
      have HF : Hid (anyInB ms x y = false) := hno
      clear e hj hlj hno
      go_wp2
      go_ret
      exact ⟨by rw [HF.out]; rfl, hB⟩
end Go.Proofs.Ytmdijjbkjcnbpaa

namespace Go.Proofs.Ytmdijjbkjcnbpaa
open Go.ChangeShapes Go.WideShapes Go.ChangeAt Go.RowKit
set_option linter.unusedSimpArgs false
set_option linter.unusedVariables false

set_option maxRecDepth 10000 in
set_option maxHeartbeats 1000000 in
theorem without_any (sl : Value) (ms : List Mp) (m : Mp) (w : World) (hM : MapsAt w sl ms) (hl : ms.length ≤ 1000) :
    Calls Try.prog 45 #[sl, .agg (mc m)] w fun e w' => ∃ v, e = .returned v ∧ MapsAt w' v (dropM ms m) ∧ NilOk v ∧ (0 < (dropM ms m).length → w.heap.size ≤ mb v) ∧ Below w.heap.size w w' := by
  have hB := Below.refl w.heap.size w
  have hM0 := hM
  obtain ⟨a0, cap, hsl, -⟩ := hM0
  obtain ⟨n, hn⟩ : ∃ n, n = ms.length := ⟨_, rfl⟩
  rw [← hn] at hsl
  subst hsl
  have HN : Hid (n = ms.length) := hn
  clear hn
  have hlt := hM.lt
  obtain ⟨i0, hi, hz0, hz1, hz2⟩ := info_parts info_map
  go_enter Try.func45, Try.ntmps45
  go_wp2_with (refine wpList_boxR 32 rfl _ rfl _ rfl ?_; intro b3 w1 l3 R3 hb1; replace l3 := Nat.le_trans hB.size l3; replace hB := hB.trans (hb1.mono hB.size))
  go_loopw [5, 10] (fun v i W => ∃ (j : Nat) (ao : Option Addr) (cv : Nat), j ≤ ms.length ∧ i = .int .i64 j ∧ v = .slice ao (dropM (ms.take j) m).length cv ∧ W.ownsRow w.heap.size 32 5 v (dropM (ms.take j) m).length (flat (dropM (ms.take j) m)) ∧ v.ownBlock ≠ some b3 ∧ Below w.heap.size w W ∧ Row 32 W b3 (mc m)) (fun _ i _ => n - (intOf i).toNat)
  case atStart => exact ⟨0, none, 0, by omega, rfl, by simp [dropM], by simpa [dropM, flat] using World.ownsRow_nil _ _ _ _, by simp [Value.ownBlock], hB, R3⟩
  case round =>
    clear hB R3 hb1
    obtain ⟨j, ao, cv, hj, rfl, hv, hown, hn3, hB, R3⟩ := hrel
    have hdl := dropM_le ms m j
    by_cases hlj : j < ms.length
    · have hjn : (j : Int) < (n : Int) := by have := HN.out; omega
      have hjw := wrap_next hlj hM.len
      obtain ⟨o, hm⟩ : ∃ o, ms[j] = o := ⟨_, rfl⟩
      have hMW := hM.keep hB hlt
      have hrg := hMW.at j hlj hm
      have hst := dropM_step (m := m) hlj hm
      obtain ⟨D, hD⟩ : ∃ D, D = dropM (ms.take j) m := ⟨_, rfl⟩
      rw [← hD] at hown hst hdl hv
      obtain ⟨dl, hdl0⟩ : ∃ dl, Hid (dl = D.length) := ⟨_, rfl⟩
      rw [← hdl0.out] at hown hdl hv
      subst hv
      by_cases hom : o = m
      · rw [if_pos hom, List.append_nil] at hst
        have HS : Hid (dropM (ms.take (j + 1)) m = D) := hst
        have dz : (!(o == m)) = false := by simp [hom]
        clear hst hom hD
        go_wp2_with (first | ((with_reducible refine at_opB (.indexAddr 28 (.tmp 8) (.tmp 10)) rfl ?_); refine wpList_indexM rfl (.tmp 8) (.tmp 10) rfl (.slice a0 n cap) ms hMW rfl j rfl hlj ?_) | ((with_reducible refine at_opB (.load 32 (.tmp 12)) rfl ?_); refine wpList_load_mid rfl 32 (.tmp 12) rfl _ _ rfl (mcl o) _ hrg Try.underlying32 rfl (mcl_info o) ?_; rw [mcl_mc]) | ((with_reducible refine at_opB (.alloc 32) rfl ?_); refine wpList_allocX 7 32 rfl rfl rfl _ map_zero ?_; intro b7 w3 l7 R7 hb3; have n37 := R3.ne l7; have n7 := ownG_away hown l7; replace l7 := Nat.le_trans hB.size l7; replace hown := ownG_below hown hb3; replace R3 := R3.below hb3; replace hB := hB.trans (hb3.mono hB.size)) | ((with_reducible refine at_opB (.store 32 (.tmp 7) (.tmp 13)) rfl ?_); refine wpList_storeR 32 rfl (.tmp 7) _ rfl b7 rfl (mc o) rfl _ R7 rfl (mc_info _) (mc_one _) ?_; intro w4 R7 t4; replace R3 := t4.row R3 n37; replace hown := ownG_turned hown t4 n7; replace hB := t4.below _ _ l7 hB) | ((with_reducible refine at_opB (.load 32 (.tmp 7)) rfl ?_); refine wpList_loadR 32 (.tmp 7) rfl rfl b7 rfl (mc o) R7 _ Try.underlying32 rfl (mc_info _) ?_) | ((with_reducible refine at_opB (.load 32 (.tmp 3)) rfl ?_); refine wpList_loadR 32 (.tmp 3) rfl rfl b3 rfl (mc m) R3 _ Try.underlying32 rfl (mc_info _) ?_) | ((with_reducible refine at_opB (.binOp .neq 32 (.tmp 14) (.tmp 15) 32) rfl ?_); refine wpList_neS 32 (.tmp 14) (.tmp 15) rfl rfl (mc o) (mc m) rfl rfl Try.eqGuardType32 _ _ (eq_map o m _) dz ?_))
        go_roundw
        case rel =>
          first
            | exact ⟨j + 1, ao, cv, by omega, by go_num, by rw [HS.out, ← hdl0.out], by rw [HS.out, ← hdl0.out]; exact hown, hn3, hB, R3⟩
            | ((repeat apply Exists.intro); exact ⟨⟨j + 1, ao, cv, by omega, by go_num, by rw [HS.out, ← hdl0.out], by rw [HS.out, ← hdl0.out]; exact hown, hn3, hB, R3⟩, rfl⟩)
        case measure => (first | rw [hjw] | skip); exact meas_next (HN.out.symm ▸ hlj)
      · rw [if_neg hom] at hst
        have HS : Hid (dropM (ms.take (j + 1)) m = D ++ [o]) := hst
        have dz : (!(o == m)) = true := by simp [hom]
        clear hst hom hD
        go_wp2_with (first | ((with_reducible refine at_opB (.indexAddr 28 (.tmp 8) (.tmp 10)) rfl ?_); refine wpList_indexM rfl (.tmp 8) (.tmp 10) rfl (.slice a0 n cap) ms hMW rfl j rfl hlj ?_) | ((with_reducible refine at_opB (.load 32 (.tmp 12)) rfl ?_); refine wpList_load_mid rfl 32 (.tmp 12) rfl _ _ rfl (mcl o) _ hrg Try.underlying32 rfl (mcl_info o) ?_; rw [mcl_mc]) | ((with_reducible refine at_opB (.alloc 32) rfl ?_); refine wpList_allocX 7 32 rfl rfl rfl _ map_zero ?_; intro b7 w3 l7 R7 hb3; have n37 := R3.ne l7; have n7 := ownG_away hown l7; replace l7 := Nat.le_trans hB.size l7; replace hown := ownG_below hown hb3; replace R3 := R3.below hb3; replace hB := hB.trans (hb3.mono hB.size)) | ((with_reducible refine at_opB (.store 32 (.tmp 7) (.tmp 13)) rfl ?_); refine wpList_storeR 32 rfl (.tmp 7) _ rfl b7 rfl (mc o) rfl _ R7 rfl (mc_info _) (mc_one _) ?_; intro w4 R7 t4; replace R3 := t4.row R3 n37; replace hown := ownG_turned hown t4 n7; replace hB := t4.below _ _ l7 hB) | ((with_reducible refine at_opB (.load 32 (.tmp 7)) rfl ?_); refine wpList_loadR 32 (.tmp 7) rfl rfl b7 rfl (mc o) R7 _ Try.underlying32 rfl (mc_info _) ?_) | ((with_reducible refine at_opB (.load 32 (.tmp 3)) rfl ?_); refine wpList_loadR 32 (.tmp 3) rfl rfl b3 rfl (mc m) R3 _ Try.underlying32 rfl (mc_info _) ?_) | ((with_reducible refine at_opB (.binOp .neq 32 (.tmp 14) (.tmp 15) 32) rfl ?_); refine wpList_neS 32 (.tmp 14) (.tmp 15) rfl rfl (mc o) (mc m) rfl rfl Try.eqGuardType32 _ _ (eq_map o m _) dz ?_) | ((with_reducible refine at_consB ?_); refine wpList_buildM rfl (.tmp 18) rfl o rfl ?_) | ((with_reducible refine at_opB (.call { callee := .builtin .append, args := #[.tmp 17, .tmp 19], argTypes := #[28, 28] }) rfl ?_); refine wpList_append_own_at _ rfl (.tmp 17) (.tmp 19) 28 rfl w.heap.size 32 i0 (.agg (mc noM)) 5 40 Try.underlying28 hi hz0 hz1 hz2 rfl (by decide) (.slice ao dl cv) dl (flat D) (by kernel_rfl) (hown.alloc _) ⟨_, 0, none⟩ 1 1 (mcl o) rfl rfl (five_new _ _ _) (mcl_oneCell o) (by unfold maxLen; omega) (by omega) (by have := hB.size; simp; omega) ?_; intro v4 w8 hown4 hg4 hn4 hloc; clear hn4; have hR3 := R3.alloc (.cells (mc o) 32); replace R3 := grown_row2 hR3 hn3 hg4; have hn4 : v4.ownBlock ≠ some b3 := (by rcases hloc with h | h; (rw [h]; exact hn3); (rw [h]; intro h2; have := hR3.lt; have := Option.some.inj h2; omega)); clear hloc; replace hB := grown_below (hown.alloc _) (hB.alloc hB.size _) (by have := hB.size; simp; omega) hg4; obtain ⟨a4, c4, rfl⟩ := row_slice2 hown4))
        go_roundw
        case rel =>
          have hf : flat (D ++ [o]) = flat D ++ mcl o := by rw [flat_app, flat_oneB]
          have hl2 : (D ++ [o]).length = dl + 1 := by rw [List.length_append, ← hdl0.out]; rfl
          first
            | exact ⟨j + 1, a4, c4, by omega, by go_num, by rw [HS.out, hl2], by rw [HS.out, hl2, hf]; exact hown4, hn4, hB, R3⟩
            | ((repeat apply Exists.intro); exact ⟨⟨j + 1, a4, c4, by omega, by go_num, by rw [HS.out, hl2], by rw [HS.out, hl2, hf]; exact hown4, hn4, hB, R3⟩, rfl⟩)
        case measure => (first | rw [hjw] | skip); exact meas_next (HN.out.symm ▸ hlj)
    · have e : j = ms.length := by omega
      have hjn : (n : Int) ≤ (j : Int) := by have := HN.out; omega
      rw [e, List.take_length] at hown hv
      have hf := own_maps hown (by have := hdl; rw [e, List.take_length] at this; omega)
      clear e hj hlj hown hdl
      subst hv
      go_wp2
      go_ret
      exact ⟨_, rfl, hf.1, hf.2.1, hf.2.2, hB⟩
end Go.Proofs.Ytmdijjbkjcnbpaa
