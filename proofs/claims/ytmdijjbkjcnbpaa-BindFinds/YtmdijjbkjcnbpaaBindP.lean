/-
  Is a map in a block.
-/
import Derived.Test.YtmdijjbkjcnbpaaBindAt
namespace Go.Proofs.Ytmdijjbkjcnbpaa
open Go.ChangeShapes Go.WideShapes Go.ChangeAt Go.RowKit
set_option linter.unusedSimpArgs false
set_option linter.unusedVariables false

theorem ic2_info (a b : Int) : (Try.prog.info? 67).map (·.size) = some (ic2 a b).size := by kernel_rfl
theorem ic2_one (a b : Int) : (ic2 a b).all (·.oneCell') = true := by kernel_rfl
/-- is one of the maps in that block. -/
def anyInB (ms : List Mp) (a b : Int) : Bool := ms.any fun o => inP o && (plA o == a && plB o == b)
theorem anyInB_at {ms : List Mp} {j : Nat} {a b : Int} {o : Mp} (hlj : j < ms.length) (hm : ms[j] = o) (h1 : inP o = true) (h2 : (plA o == a && plB o == b) = true) : anyInB ms a b = true := by
  unfold anyInB; rw [List.any_eq_true]; exact ⟨o, hm ▸ List.getElem_mem hlj, by rw [h1, h2]; rfl⟩
theorem anyInB_step {ms : List Mp} {j : Nat} {a b : Int} {o : Mp} (hno : anyInB (ms.take j) a b = false) (hlj : j < ms.length) (hm : ms[j] = o) (h : (inP o && (plA o == a && plB o == b)) = false) : anyInB (ms.take (j + 1)) a b = false := by
  unfold anyInB at *; rw [take_next hlj hm, List.any_append, hno]; simp [h]
set_option maxRecDepth 10000 in
set_option maxHeartbeats 1000000 in
theorem anyIn_any (sl : Value) (ms : List Mp) (x y : Int) (w : World) (hM : MapsAt w sl ms) :
    Calls Try.prog 46 #[sl, .agg (ic2 x y)] w fun e w' => e = .returned (.bool (anyInB ms x y)) ∧ Below w.heap.size w w' := by
  have hB := Below.refl w.heap.size w
  have hM0 := hM
  obtain ⟨a0, cap, hsl, -⟩ := hM0
  obtain ⟨n, hn⟩ : ∃ n, n = ms.length := ⟨_, rfl⟩
  rw [← hn] at hsl
  subst hsl
  have HN : Hid (n = ms.length) := hn
  clear hn
  have hlt := hM.lt
  go_enter Try.func46, Try.ntmps46
  go_wp2_with ((with_reducible refine at_opB (.box 67 (.tmp 1)) rfl ?_); refine wpList_boxR 67 rfl _ rfl _ rfl ?_; intro b3 w1 l3 R3 hb1; replace hB := hB.trans (hb1.mono hB.size))
  go_loopw [11] (fun i W => ∃ j : Nat, j ≤ ms.length ∧ i = .int .i64 j ∧ anyInB (ms.take j) x y = false ∧ Below w.heap.size w W ∧ Row 67 W b3 (ic2 x y)) (fun i _ => n - (intOf i).toNat)
  case atStart => exact ⟨0, by omega, rfl, by simp [anyInB], hB, R3⟩
  case round =>
    clear hB R3 hb1
    obtain ⟨j, hj, rfl, hno, hB, R3⟩ := hrel
    by_cases hlj : j < ms.length
    · have hjn : (j : Int) < (n : Int) := by have := HN.out; omega
      have hjw := wrap_next hlj hM.len
      obtain ⟨o, hm⟩ : ∃ o, ms[j] = o := ⟨_, rfl⟩
      have hMW := hM.keep hB hlt
      have hrg := hMW.at j hlj hm
      have CPl := fun w => placeOf_any o w
      cases hin : inP o with
      | false =>
        simp only [hin] at CPl
        have HF : Hid (anyInB (ms.take (j + 1)) x y = false) := anyInB_step hno hlj hm (by rw [hin]; rfl)
        clear hno hm hin
        go_wp2_with (first | ((with_reducible refine at_opB (.indexAddr 28 (.tmp 9) (.tmp 11)) rfl ?_); refine wpList_indexM rfl (.tmp 9) (.tmp 11) rfl (.slice a0 n cap) ms hMW rfl j rfl hlj ?_) | ((with_reducible refine at_opB (.load 32 (.tmp 13)) rfl ?_); refine wpList_load_mid rfl 32 (.tmp 13) rfl _ _ rfl (mcl o) _ hrg Try.underlying32 rfl (mcl_info o) ?_; rw [mcl_mc]) | ((with_reducible refine at_opB (.alloc 32) rfl ?_); refine wpList_allocX 6 32 rfl rfl rfl _ map_zero ?_; intro b6 w3 l6 R6 hb3; have n36 := R3.ne l6; replace l6 := Nat.le_trans hB.size l6; replace R3 := R3.below hb3; replace hB := hB.trans (hb3.mono hB.size)) | ((with_reducible refine at_opB (.store 32 (.tmp 6) (.tmp 14)) rfl ?_); refine wpList_storeR 32 rfl (.tmp 6) _ rfl b6 rfl (mc o) rfl _ R6 rfl (mc_info _) (mc_one _) ?_; intro w4 R6 t4; replace R3 := t4.row R3 n36; replace hB := t4.below _ _ l6 hB) | ((with_reducible refine at_opB (.load 32 (.tmp 6)) rfl ?_); refine wpList_loadR 32 (.tmp 6) rfl rfl b6 rfl (mc o) R6 _ Try.underlying32 rfl (mc_info _) ?_) | (go_at_call 33; go_fit (CPl _); rintro e w5 ⟨rfl, hb5⟩; clear R6; replace R3 := R3.below hb5; replace hB := hB.trans (hb5.mono hB.size)) | ((with_reducible refine at_opB (.alloc 67) rfl ?_); refine wpList_allocX 7 67 rfl rfl rfl _ place_zero ?_; intro b7 w6 l7 R7 hb6; have n37 := R3.ne l7; replace l7 := Nat.le_trans hB.size l7; replace R3 := R3.below hb6; replace hB := hB.trans (hb6.mono hB.size)) | ((with_reducible refine at_opB (.store 67 (.tmp 7) (.tmp 18)) rfl ?_); refine wpList_storeR 67 rfl (.tmp 7) _ rfl b7 rfl (ic2 (plA o) (plB o)) rfl _ R7 rfl (ic2_info _ _) (ic2_one _ _) ?_; intro w8 R7 t8; replace R3 := t8.row R3 n37; replace hB := t8.below _ _ l7 hB))
        go_roundw
        case rel => first | exact ⟨j + 1, by omega, by go_num, HF.out, hB, R3⟩ | ((repeat apply Exists.intro); exact ⟨⟨j + 1, by omega, by go_num, HF.out, hB, R3⟩, rfl⟩)
        case measure => (first | rw [hjw] | skip); exact meas_next (HN.out.symm ▸ hlj)
      | true =>
        simp only [hin] at CPl
        cases dE : (plA o == x && plB o == y) with
        | true =>
          have HF : Hid (anyInB ms x y = true) := anyInB_at hlj hm hin dE
          clear hno hm hin
          go_wp2_with (first | ((with_reducible refine at_opB (.indexAddr 28 (.tmp 9) (.tmp 11)) rfl ?_); refine wpList_indexM rfl (.tmp 9) (.tmp 11) rfl (.slice a0 n cap) ms hMW rfl j rfl hlj ?_) | ((with_reducible refine at_opB (.load 32 (.tmp 13)) rfl ?_); refine wpList_load_mid rfl 32 (.tmp 13) rfl _ _ rfl (mcl o) _ hrg Try.underlying32 rfl (mcl_info o) ?_; rw [mcl_mc]) | ((with_reducible refine at_opB (.alloc 32) rfl ?_); refine wpList_allocX 6 32 rfl rfl rfl _ map_zero ?_; intro b6 w3 l6 R6 hb3; have n36 := R3.ne l6; replace l6 := Nat.le_trans hB.size l6; replace R3 := R3.below hb3; replace hB := hB.trans (hb3.mono hB.size)) | ((with_reducible refine at_opB (.store 32 (.tmp 6) (.tmp 14)) rfl ?_); refine wpList_storeR 32 rfl (.tmp 6) _ rfl b6 rfl (mc o) rfl _ R6 rfl (mc_info _) (mc_one _) ?_; intro w4 R6 t4; replace R3 := t4.row R3 n36; replace hB := t4.below _ _ l6 hB) | ((with_reducible refine at_opB (.load 32 (.tmp 6)) rfl ?_); refine wpList_loadR 32 (.tmp 6) rfl rfl b6 rfl (mc o) R6 _ Try.underlying32 rfl (mc_info _) ?_) | (go_at_call 33; go_fit (CPl _); rintro e w5 ⟨rfl, hb5⟩; clear R6; replace R3 := R3.below hb5; replace hB := hB.trans (hb5.mono hB.size)) | ((with_reducible refine at_opB (.alloc 67) rfl ?_); refine wpList_allocX 7 67 rfl rfl rfl _ place_zero ?_; intro b7 w6 l7 R7 hb6; have n37 := R3.ne l7; replace l7 := Nat.le_trans hB.size l7; replace R3 := R3.below hb6; replace hB := hB.trans (hb6.mono hB.size)) | ((with_reducible refine at_opB (.store 67 (.tmp 7) (.tmp 18)) rfl ?_); refine wpList_storeR 67 rfl (.tmp 7) _ rfl b7 rfl (ic2 (plA o) (plB o)) rfl _ R7 rfl (ic2_info _ _) (ic2_one _ _) ?_; intro w8 R7 t8; replace R3 := t8.row R3 n37; replace hB := t8.below _ _ l7 hB) | ((with_reducible refine at_opB (.load 67 (.tmp 7)) rfl ?_); refine wpList_loadR 67 (.tmp 7) rfl ?_ b7 rfl (ic2 (plA o) (plB o)) R7 _ Try.underlying67 rfl (ic2_info _ _) ?_; · kernel_rfl) | ((with_reducible refine at_opB (.load 67 (.tmp 3)) rfl ?_); refine wpList_loadR 67 (.tmp 3) rfl ?_ b3 rfl (ic2 x y) R3 _ Try.underlying67 rfl (ic2_info _ _) ?_; · kernel_rfl; (try dsimp only [Act.put]); (try simp only [List.setIfInBounds_toArray, List.set_cons_zero, List.set_cons_succ])) | ((with_reducible refine at_opB (.binOp .eql 67 (.tmp 22) (.tmp 23) 67) rfl ?_); refine wpList_eqS 67 (.tmp 22) (.tmp 23) rfl ?_ (ic2 (plA o) (plB o)) (ic2 x y) (by kernel_rfl) (by kernel_rfl) Try.eqGuardType67 _ _ (eq_place (plA o) (plB o) x y _) dE ?_; · kernel_rfl))
          go_ret
          exact ⟨by rw [HF.out]; rfl, hB⟩
        | false =>
          have HF : Hid (anyInB (ms.take (j + 1)) x y = false) := anyInB_step hno hlj hm (by rw [hin, dE]; rfl)
          clear hno hm hin
          go_wp2_with (first | ((with_reducible refine at_opB (.indexAddr 28 (.tmp 9) (.tmp 11)) rfl ?_); refine wpList_indexM rfl (.tmp 9) (.tmp 11) rfl (.slice a0 n cap) ms hMW rfl j rfl hlj ?_) | ((with_reducible refine at_opB (.load 32 (.tmp 13)) rfl ?_); refine wpList_load_mid rfl 32 (.tmp 13) rfl _ _ rfl (mcl o) _ hrg Try.underlying32 rfl (mcl_info o) ?_; rw [mcl_mc]) | ((with_reducible refine at_opB (.alloc 32) rfl ?_); refine wpList_allocX 6 32 rfl rfl rfl _ map_zero ?_; intro b6 w3 l6 R6 hb3; have n36 := R3.ne l6; replace l6 := Nat.le_trans hB.size l6; replace R3 := R3.below hb3; replace hB := hB.trans (hb3.mono hB.size)) | ((with_reducible refine at_opB (.store 32 (.tmp 6) (.tmp 14)) rfl ?_); refine wpList_storeR 32 rfl (.tmp 6) _ rfl b6 rfl (mc o) rfl _ R6 rfl (mc_info _) (mc_one _) ?_; intro w4 R6 t4; replace R3 := t4.row R3 n36; replace hB := t4.below _ _ l6 hB) | ((with_reducible refine at_opB (.load 32 (.tmp 6)) rfl ?_); refine wpList_loadR 32 (.tmp 6) rfl rfl b6 rfl (mc o) R6 _ Try.underlying32 rfl (mc_info _) ?_) | (go_at_call 33; go_fit (CPl _); rintro e w5 ⟨rfl, hb5⟩; clear R6; replace R3 := R3.below hb5; replace hB := hB.trans (hb5.mono hB.size)) | ((with_reducible refine at_opB (.alloc 67) rfl ?_); refine wpList_allocX 7 67 rfl rfl rfl _ place_zero ?_; intro b7 w6 l7 R7 hb6; have n37 := R3.ne l7; replace l7 := Nat.le_trans hB.size l7; replace R3 := R3.below hb6; replace hB := hB.trans (hb6.mono hB.size)) | ((with_reducible refine at_opB (.store 67 (.tmp 7) (.tmp 18)) rfl ?_); refine wpList_storeR 67 rfl (.tmp 7) _ rfl b7 rfl (ic2 (plA o) (plB o)) rfl _ R7 rfl (ic2_info _ _) (ic2_one _ _) ?_; intro w8 R7 t8; replace R3 := t8.row R3 n37; replace hB := t8.below _ _ l7 hB) | ((with_reducible refine at_opB (.load 67 (.tmp 7)) rfl ?_); refine wpList_loadR 67 (.tmp 7) rfl ?_ b7 rfl (ic2 (plA o) (plB o)) R7 _ Try.underlying67 rfl (ic2_info _ _) ?_; · kernel_rfl) | ((with_reducible refine at_opB (.load 67 (.tmp 3)) rfl ?_); refine wpList_loadR 67 (.tmp 3) rfl ?_ b3 rfl (ic2 x y) R3 _ Try.underlying67 rfl (ic2_info _ _) ?_; · kernel_rfl; (try dsimp only [Act.put]); (try simp only [List.setIfInBounds_toArray, List.set_cons_zero, List.set_cons_succ])) | ((with_reducible refine at_opB (.binOp .eql 67 (.tmp 22) (.tmp 23) 67) rfl ?_); refine wpList_eqS 67 (.tmp 22) (.tmp 23) rfl ?_ (ic2 (plA o) (plB o)) (ic2 x y) (by kernel_rfl) (by kernel_rfl) Try.eqGuardType67 _ _ (eq_place (plA o) (plB o) x y _) dE ?_; · kernel_rfl))
          go_roundw
          case rel => first | exact ⟨j + 1, by omega, by go_num, HF.out, hB, R3⟩ | ((repeat apply Exists.intro); exact ⟨⟨j + 1, by omega, by go_num, HF.out, hB, R3⟩, rfl⟩)
          case measure => (first | rw [hjw] | skip); exact meas_next (HN.out.symm ▸ hlj)
    · have e : j = ms.length := by omega
      have hjn : (n : Int) ≤ (j : Int) := by have := HN.out; omega
      rw [e, List.take_length] at hno
      have HF : Hid (anyInB ms x y = false) := hno
      clear e hj hlj hno
      go_wp2
      go_ret
      exact ⟨by rw [HF.out]; rfl, hB⟩
end Go.Proofs.Ytmdijjbkjcnbpaa
