/-
  A message's head, read.
-/
import Derived.Test.YtnhafdkfjjplkaaDoorRecH1
namespace Go.Proofs.YtnhafdkfjjplkaaDoor
open Go.ChangeShapes Go.WideShapes Go.ChangeAt Go.RowKit
set_option linter.unusedSimpArgs false
set_option linter.unusedVariables false

set_option maxRecDepth 10000 in
set_option maxHeartbeats 8000000 in
theorem head_any (p : Nat) (l : List UInt8) (d : Bool) (v : Value) (w : World) (R : Rdr w p l d v) (hl : l.length ≤ 140737488351232) :
    Calls Tryd.prog 33 #[.pointer (some ⟨p, 0, none⟩)] w fun x w' => Moved p w w' ∧ ((headE l = 1 ∧ x = .returned (.tuple #[.agg (hdc 0 0 0 0), .int .i64 1]) ∧ ∃ l', Rdr w' p l' d v) ∨ (headE l = 0 ∧ x = .returned (.tuple #[.agg (hdc (nAt l 2 2) (nAt l 4 4) (nAt l 8 4) (nAt l 16 2)), .int .i64 0]) ∧ Rdr w' p (l.drop 20) d v)) := by
  have hM := Moved.refl p w
  have hsz : (txt l).size = l.length := txt_size l
  replace R : Rdr w p (l.drop 0) d v := R
  have HH : Hid (headE l = headE l) := rfl
  have q0 := nAt_bd l 0 2 (by omega)
  have q1 := nAt_bd l 2 2 (by omega)
  have q2 := nAt_bd l 18 2 (by omega)
  by_cases h16 : l.length < 16
  · have HB : Hid (headE l = 1) := by show _ = _; unfold headE; rw [if_pos h16]
    have g0 : (l.length : Int) < 16 := by omega
    go_enter Tryd.func33, Tryd.ntmps33
    go_wp2_with (first
      | ((with_reducible refine atOp (.alloc 71) rfl ?_); refine wpList_allocX 2 71 rfl rfl rfl _ head_zero ?_; intro b2 w2 g2 R2 hb2; have n2 : b2 ≠ p := (fun e => by have := R.lt; omega); replace R := Row.below R hb2; replace hM := hM.trans (Moved.ofBelow hb2))
      | ((with_reducible refine atOp (.alloc 71) rfl ?_); refine wpList_allocX 5 71 rfl rfl rfl _ head_zero ?_; intro b5 w2 g5 R5 hb2; have n5 : b5 ≠ p := (fun e => by have := R.lt; omega); have n25 := R2.ne g5; replace g5 := Nat.le_trans hM.size g5; replace R2 := R2.below hb2; replace R := Row.below R hb2; replace hM := hM.trans (Moved.ofBelow hb2))
      | ((with_reducible refine atOp (.load 9 (.tmp 11)) rfl ?_); refine wpList_loadS R _ rfl rfl 0 rfl (txt l) rfl ?_)
      | ((with_reducible refine atOp (.build 71 #[]) rfl ?_); refine wpList_buildZ 71 rfl rfl _ head_build ?_)
      | ((with_reducible refine atOp (.store 71 (.tmp 2) (.tmp 16)) rfl ?_); refine wpList_storeR 71 rfl (.tmp 2) (.tmp 16) rfl b2 rfl (hdc 0 0 0 0) rfl _ R2 rfl (hdc_info _ _ _ _) (hdc_one _ _ _ _) ?_; intro w6 R2 t6; replace R := t6.row R n2.symm; replace hM := hM.turned t6 g2))
    ((try simp only [Exit.inBlock, Exit.then]); refine bodyPost_ret (results_row2 (p := 2) (u := 3) rfl _ _ _ _ rfl R2 _ Tryd.underlying71 rfl (hdc_info _ _ _ _)) rfl ?_)
    exact ⟨hM, Or.inl ⟨HB.out, rfl, l.drop 0, R⟩⟩
  have g16 : ¬ (l.length : Int) < 16 := by omega
  by_cases c0 : nAt l 0 2 ≠ 10
  · have HB : Hid (headE l = 1) := by show _ = _; unfold headE; rw [if_neg h16, if_pos (by omega)]
    have t0 : (nAt l 0 2 != 10) = true := by simpa using c0
    clear c0
    go_enter Tryd.func33, Tryd.ntmps33
    go_wp2_with (first
      | ((with_reducible refine atOp (.alloc 71) rfl ?_); refine wpList_allocX 2 71 rfl rfl rfl _ head_zero ?_; intro b2 w2 g2 R2 hb2; have n2 : b2 ≠ p := (fun e => by have := R.lt; omega); replace R := Row.below R hb2; replace hM := hM.trans (Moved.ofBelow hb2))
      | ((with_reducible refine atOp (.alloc 71) rfl ?_); refine wpList_allocX 5 71 rfl rfl rfl _ head_zero ?_; intro b5 w2 g5 R5 hb2; have n5 : b5 ≠ p := (fun e => by have := R.lt; omega); have n25 := R2.ne g5; replace g5 := Nat.le_trans hM.size g5; replace R2 := R2.below hb2; replace R := Row.below R hb2; replace hM := hM.trans (Moved.ofBelow hb2))
      | ((with_reducible refine atOp (.load 9 (.tmp 11)) rfl ?_); refine wpList_loadS R _ rfl rfl 0 rfl (txt l) rfl ?_)
      | (go_at_call 36; go_fit (num2_any _ R (by omega) hl); rintro x w5 ⟨rfl, R', hM5⟩; replace R := R'; clear R'; replace hM := hM.trans hM5; replace R2 := hM5.row R2 n2; replace R5 := hM5.row R5 n5; clear hM5)
      | (go_at_call 36; go_fit (num4_any _ R (by omega) hl); rintro x w5 ⟨rfl, R', hM5⟩; replace R := R'; clear R'; replace hM := hM.trans hM5; replace R2 := hM5.row R2 n2; replace R5 := hM5.row R5 n5; clear hM5)
      | ((with_reducible refine atOp (.store 3 (.tmp 21) (.tmp 20)) rfl ?_); refine wpList_storeF R5 rfl _ _ rfl 0 rfl (nAt l 2 2) rfl _ rfl (hdc (nAt l 2 2) 0 0 0) rfl ?_; intro w6 R5 t6; replace R2 := t6.row R2 n25; replace R := t6.row R n5.symm; replace hM := hM.turned t6 g5)
      | ((with_reducible refine atOp (.store 3 (.tmp 24) (.tmp 23)) rfl ?_); refine wpList_storeF R5 rfl _ _ rfl 1 rfl (nAt l 4 4) rfl _ rfl (hdc (nAt l 2 2) (nAt l 4 4) 0 0) rfl ?_; intro w6 R5 t6; replace R2 := t6.row R2 n25; replace R := t6.row R n5.symm; replace hM := hM.turned t6 g5)
      | ((with_reducible refine atOp (.store 3 (.tmp 27) (.tmp 26)) rfl ?_); refine wpList_storeF R5 rfl _ _ rfl 2 rfl (nAt l 8 4) rfl _ rfl (hdc (nAt l 2 2) (nAt l 4 4) (nAt l 8 4) 0) rfl ?_; intro w6 R5 t6; replace R2 := t6.row R2 n25; replace R := t6.row R n5.symm; replace hM := hM.turned t6 g5)
      | ((with_reducible refine atOp (.load 3 (.tmp 33)) rfl ?_); refine wpList_loadF R5 _ rfl ?_ 0 rfl _ rfl ?_; · rfl)
      | ((with_reducible refine atOp (.load 3 (.tmp 38)) rfl ?_); refine wpList_loadF R5 _ rfl ?_ 0 rfl _ rfl ?_; · rfl)
      | ((with_reducible refine atOp (.build 71 #[]) rfl ?_); refine wpList_buildZ 71 rfl rfl _ head_build ?_)
      | ((with_reducible refine atOp (.store 71 (.tmp 2) (.tmp 47)) rfl ?_); refine wpList_storeR 71 rfl (.tmp 2) (.tmp 47) rfl b2 rfl (hdc 0 0 0 0) rfl _ R2 rfl (hdc_info _ _ _ _) (hdc_one _ _ _ _) ?_; intro w6 R2 t6; replace R := t6.row R n2.symm; replace hM := hM.turned t6 g2))
    ((try simp only [Exit.inBlock, Exit.then]); refine bodyPost_ret (results_row2 (p := 2) (u := 3) rfl _ _ _ _ rfl R2 _ Tryd.underlying71 rfl (hdc_info _ _ _ _)) rfl ⟨hM, .inl ⟨HB.out, rfl, _, R⟩⟩)
  have f0 : (nAt l 0 2 != 10) = false := by simpa using c0
  by_cases c1 : nAt l 2 2 < 20
  · have HB : Hid (headE l = 1) := by show _ = _; unfold headE; rw [if_neg h16, if_pos (by omega)]
    have t1 : decide (nAt l 2 2 < 20) = true := by simpa using c1
    clear c1
    go_enter Tryd.func33, Tryd.ntmps33
    go_wp2_with (first
      | ((with_reducible refine atOp (.alloc 71) rfl ?_); refine wpList_allocX 2 71 rfl rfl rfl _ head_zero ?_; intro b2 w2 g2 R2 hb2; have n2 : b2 ≠ p := (fun e => by have := R.lt; omega); replace R := Row.below R hb2; replace hM := hM.trans (Moved.ofBelow hb2))
      | ((with_reducible refine atOp (.alloc 71) rfl ?_); refine wpList_allocX 5 71 rfl rfl rfl _ head_zero ?_; intro b5 w2 g5 R5 hb2; have n5 : b5 ≠ p := (fun e => by have := R.lt; omega); have n25 := R2.ne g5; replace g5 := Nat.le_trans hM.size g5; replace R2 := R2.below hb2; replace R := Row.below R hb2; replace hM := hM.trans (Moved.ofBelow hb2))
      | ((with_reducible refine atOp (.load 9 (.tmp 11)) rfl ?_); refine wpList_loadS R _ rfl rfl 0 rfl (txt l) rfl ?_)
      | (go_at_call 36; go_fit (num2_any _ R (by omega) hl); rintro x w5 ⟨rfl, R', hM5⟩; replace R := R'; clear R'; replace hM := hM.trans hM5; replace R2 := hM5.row R2 n2; replace R5 := hM5.row R5 n5; clear hM5)
      | (go_at_call 36; go_fit (num4_any _ R (by omega) hl); rintro x w5 ⟨rfl, R', hM5⟩; replace R := R'; clear R'; replace hM := hM.trans hM5; replace R2 := hM5.row R2 n2; replace R5 := hM5.row R5 n5; clear hM5)
      | ((with_reducible refine atOp (.store 3 (.tmp 21) (.tmp 20)) rfl ?_); refine wpList_storeF R5 rfl _ _ rfl 0 rfl (nAt l 2 2) rfl _ rfl (hdc (nAt l 2 2) 0 0 0) rfl ?_; intro w6 R5 t6; replace R2 := t6.row R2 n25; replace R := t6.row R n5.symm; replace hM := hM.turned t6 g5)
      | ((with_reducible refine atOp (.store 3 (.tmp 24) (.tmp 23)) rfl ?_); refine wpList_storeF R5 rfl _ _ rfl 1 rfl (nAt l 4 4) rfl _ rfl (hdc (nAt l 2 2) (nAt l 4 4) 0 0) rfl ?_; intro w6 R5 t6; replace R2 := t6.row R2 n25; replace R := t6.row R n5.symm; replace hM := hM.turned t6 g5)
      | ((with_reducible refine atOp (.store 3 (.tmp 27) (.tmp 26)) rfl ?_); refine wpList_storeF R5 rfl _ _ rfl 2 rfl (nAt l 8 4) rfl _ rfl (hdc (nAt l 2 2) (nAt l 4 4) (nAt l 8 4) 0) rfl ?_; intro w6 R5 t6; replace R2 := t6.row R2 n25; replace R := t6.row R n5.symm; replace hM := hM.turned t6 g5)
      | ((with_reducible refine atOp (.load 3 (.tmp 33)) rfl ?_); refine wpList_loadF R5 _ rfl ?_ 0 rfl _ rfl ?_; · rfl)
      | ((with_reducible refine atOp (.load 3 (.tmp 38)) rfl ?_); refine wpList_loadF R5 _ rfl ?_ 0 rfl _ rfl ?_; · rfl)
      | ((with_reducible refine atOp (.build 71 #[]) rfl ?_); refine wpList_buildZ 71 rfl rfl _ head_build ?_)
      | ((with_reducible refine atOp (.store 71 (.tmp 2) (.tmp 47)) rfl ?_); refine wpList_storeR 71 rfl (.tmp 2) (.tmp 47) rfl b2 rfl (hdc 0 0 0 0) rfl _ R2 rfl (hdc_info _ _ _ _) (hdc_one _ _ _ _) ?_; intro w6 R2 t6; replace R := t6.row R n2.symm; replace hM := hM.turned t6 g2))
    ((try simp only [Exit.inBlock, Exit.then]); refine bodyPost_ret (results_row2 (p := 2) (u := 3) rfl _ _ _ _ rfl R2 _ Tryd.underlying71 rfl (hdc_info _ _ _ _)) rfl ⟨hM, .inl ⟨HB.out, rfl, _, R⟩⟩)
  have f1 : decide (nAt l 2 2 < 20) = false := by simpa using c1
  by_cases c2 : (l.length : Int) < nAt l 2 2
  · have HB : Hid (headE l = 1) := by show _ = _; unfold headE; rw [if_neg h16, if_pos (by omega)]
    have t2 : decide ((l.length : Int) < nAt l 2 2) = true := by simpa using c2
    clear c2
    go_enter Tryd.func33, Tryd.ntmps33
    go_wp2_with (first
      | ((with_reducible refine atOp (.alloc 71) rfl ?_); refine wpList_allocX 2 71 rfl rfl rfl _ head_zero ?_; intro b2 w2 g2 R2 hb2; have n2 : b2 ≠ p := (fun e => by have := R.lt; omega); replace R := Row.below R hb2; replace hM := hM.trans (Moved.ofBelow hb2))
      | ((with_reducible refine atOp (.alloc 71) rfl ?_); refine wpList_allocX 5 71 rfl rfl rfl _ head_zero ?_; intro b5 w2 g5 R5 hb2; have n5 : b5 ≠ p := (fun e => by have := R.lt; omega); have n25 := R2.ne g5; replace g5 := Nat.le_trans hM.size g5; replace R2 := R2.below hb2; replace R := Row.below R hb2; replace hM := hM.trans (Moved.ofBelow hb2))
      | ((with_reducible refine atOp (.load 9 (.tmp 11)) rfl ?_); refine wpList_loadS R _ rfl rfl 0 rfl (txt l) rfl ?_)
      | (go_at_call 36; go_fit (num2_any _ R (by omega) hl); rintro x w5 ⟨rfl, R', hM5⟩; replace R := R'; clear R'; replace hM := hM.trans hM5; replace R2 := hM5.row R2 n2; replace R5 := hM5.row R5 n5; clear hM5)
      | (go_at_call 36; go_fit (num4_any _ R (by omega) hl); rintro x w5 ⟨rfl, R', hM5⟩; replace R := R'; clear R'; replace hM := hM.trans hM5; replace R2 := hM5.row R2 n2; replace R5 := hM5.row R5 n5; clear hM5)
      | ((with_reducible refine atOp (.store 3 (.tmp 21) (.tmp 20)) rfl ?_); refine wpList_storeF R5 rfl _ _ rfl 0 rfl (nAt l 2 2) rfl _ rfl (hdc (nAt l 2 2) 0 0 0) rfl ?_; intro w6 R5 t6; replace R2 := t6.row R2 n25; replace R := t6.row R n5.symm; replace hM := hM.turned t6 g5)
      | ((with_reducible refine atOp (.store 3 (.tmp 24) (.tmp 23)) rfl ?_); refine wpList_storeF R5 rfl _ _ rfl 1 rfl (nAt l 4 4) rfl _ rfl (hdc (nAt l 2 2) (nAt l 4 4) 0 0) rfl ?_; intro w6 R5 t6; replace R2 := t6.row R2 n25; replace R := t6.row R n5.symm; replace hM := hM.turned t6 g5)
      | ((with_reducible refine atOp (.store 3 (.tmp 27) (.tmp 26)) rfl ?_); refine wpList_storeF R5 rfl _ _ rfl 2 rfl (nAt l 8 4) rfl _ rfl (hdc (nAt l 2 2) (nAt l 4 4) (nAt l 8 4) 0) rfl ?_; intro w6 R5 t6; replace R2 := t6.row R2 n25; replace R := t6.row R n5.symm; replace hM := hM.turned t6 g5)
      | ((with_reducible refine atOp (.load 3 (.tmp 33)) rfl ?_); refine wpList_loadF R5 _ rfl ?_ 0 rfl _ rfl ?_; · rfl)
      | ((with_reducible refine atOp (.load 3 (.tmp 38)) rfl ?_); refine wpList_loadF R5 _ rfl ?_ 0 rfl _ rfl ?_; · rfl)
      | ((with_reducible refine atOp (.build 71 #[]) rfl ?_); refine wpList_buildZ 71 rfl rfl _ head_build ?_)
      | ((with_reducible refine atOp (.store 71 (.tmp 2) (.tmp 47)) rfl ?_); refine wpList_storeR 71 rfl (.tmp 2) (.tmp 47) rfl b2 rfl (hdc 0 0 0 0) rfl _ R2 rfl (hdc_info _ _ _ _) (hdc_one _ _ _ _) ?_; intro w6 R2 t6; replace R := t6.row R n2.symm; replace hM := hM.turned t6 g2))
    ((try simp only [Exit.inBlock, Exit.then]); refine bodyPost_ret (results_row2 (p := 2) (u := 3) rfl _ _ _ _ rfl R2 _ Tryd.underlying71 rfl (hdc_info _ _ _ _)) rfl ⟨hM, .inl ⟨HB.out, rfl, _, R⟩⟩)
  have f2 : decide ((l.length : Int) < nAt l 2 2) = false := by simpa using c2
  by_cases c3 : nAt l 12 4 ≠ 1
  · have HB : Hid (headE l = 1) := by show _ = _; unfold headE; rw [if_neg h16, if_pos (by omega)]
    have t3 : (nAt l 12 4 != 1) = true := by simpa using c3
    clear c3
    go_enter Tryd.func33, Tryd.ntmps33
    go_wp2_with (first
      | ((with_reducible refine atOp (.alloc 71) rfl ?_); refine wpList_allocX 2 71 rfl rfl rfl _ head_zero ?_; intro b2 w2 g2 R2 hb2; have n2 : b2 ≠ p := (fun e => by have := R.lt; omega); replace R := Row.below R hb2; replace hM := hM.trans (Moved.ofBelow hb2))
      | ((with_reducible refine atOp (.alloc 71) rfl ?_); refine wpList_allocX 5 71 rfl rfl rfl _ head_zero ?_; intro b5 w2 g5 R5 hb2; have n5 : b5 ≠ p := (fun e => by have := R.lt; omega); have n25 := R2.ne g5; replace g5 := Nat.le_trans hM.size g5; replace R2 := R2.below hb2; replace R := Row.below R hb2; replace hM := hM.trans (Moved.ofBelow hb2))
      | ((with_reducible refine atOp (.load 9 (.tmp 11)) rfl ?_); refine wpList_loadS R _ rfl rfl 0 rfl (txt l) rfl ?_)
      | (go_at_call 36; go_fit (num2_any _ R (by omega) hl); rintro x w5 ⟨rfl, R', hM5⟩; replace R := R'; clear R'; replace hM := hM.trans hM5; replace R2 := hM5.row R2 n2; replace R5 := hM5.row R5 n5; clear hM5)
      | (go_at_call 36; go_fit (num4_any _ R (by omega) hl); rintro x w5 ⟨rfl, R', hM5⟩; replace R := R'; clear R'; replace hM := hM.trans hM5; replace R2 := hM5.row R2 n2; replace R5 := hM5.row R5 n5; clear hM5)
      | ((with_reducible refine atOp (.store 3 (.tmp 21) (.tmp 20)) rfl ?_); refine wpList_storeF R5 rfl _ _ rfl 0 rfl (nAt l 2 2) rfl _ rfl (hdc (nAt l 2 2) 0 0 0) rfl ?_; intro w6 R5 t6; replace R2 := t6.row R2 n25; replace R := t6.row R n5.symm; replace hM := hM.turned t6 g5)
      | ((with_reducible refine atOp (.store 3 (.tmp 24) (.tmp 23)) rfl ?_); refine wpList_storeF R5 rfl _ _ rfl 1 rfl (nAt l 4 4) rfl _ rfl (hdc (nAt l 2 2) (nAt l 4 4) 0 0) rfl ?_; intro w6 R5 t6; replace R2 := t6.row R2 n25; replace R := t6.row R n5.symm; replace hM := hM.turned t6 g5)
      | ((with_reducible refine atOp (.store 3 (.tmp 27) (.tmp 26)) rfl ?_); refine wpList_storeF R5 rfl _ _ rfl 2 rfl (nAt l 8 4) rfl _ rfl (hdc (nAt l 2 2) (nAt l 4 4) (nAt l 8 4) 0) rfl ?_; intro w6 R5 t6; replace R2 := t6.row R2 n25; replace R := t6.row R n5.symm; replace hM := hM.turned t6 g5)
      | ((with_reducible refine atOp (.load 3 (.tmp 33)) rfl ?_); refine wpList_loadF R5 _ rfl ?_ 0 rfl _ rfl ?_; · rfl)
      | ((with_reducible refine atOp (.load 3 (.tmp 38)) rfl ?_); refine wpList_loadF R5 _ rfl ?_ 0 rfl _ rfl ?_; · rfl)
      | ((with_reducible refine atOp (.build 71 #[]) rfl ?_); refine wpList_buildZ 71 rfl rfl _ head_build ?_)
      | ((with_reducible refine atOp (.store 71 (.tmp 2) (.tmp 47)) rfl ?_); refine wpList_storeR 71 rfl (.tmp 2) (.tmp 47) rfl b2 rfl (hdc 0 0 0 0) rfl _ R2 rfl (hdc_info _ _ _ _) (hdc_one _ _ _ _) ?_; intro w6 R2 t6; replace R := t6.row R n2.symm; replace hM := hM.turned t6 g2))
    ((try simp only [Exit.inBlock, Exit.then]); refine bodyPost_ret (results_row2 (p := 2) (u := 3) rfl _ _ _ _ rfl R2 _ Tryd.underlying71 rfl (hdc_info _ _ _ _)) rfl ⟨hM, .inl ⟨HB.out, rfl, _, R⟩⟩)
  have f3 : (nAt l 12 4 != 1) = false := by simpa using c3
  have hl20 : 20 ≤ l.length := by omega
  by_cases k0 : nAt l 16 2 = 2
  · have e0 : (nAt l 16 2 != 2) = false := by simpa using k0
    by_cases k1 : nAt l 18 2 = nAt l 2 2 - 16
    · have e1 : (nAt l 18 2 != nAt l 2 2 - 16) = false := by simpa using k1
      have HB : Hid (headE l = 0) := by show _ = _; unfold headE; rw [if_neg h16, if_neg (by omega), if_neg (by omega)]
      clear c0 c1 c2 c3 k0 k1
      go_enter Tryd.func33, Tryd.ntmps33
      go_wp2_with (first
        | ((with_reducible refine atOp (.alloc 71) rfl ?_); refine wpList_allocX 2 71 rfl rfl rfl _ head_zero ?_; intro b2 w2 g2 R2 hb2; have n2 : b2 ≠ p := (fun e => by have := R.lt; omega); replace R := Row.below R hb2; replace hM := hM.trans (Moved.ofBelow hb2))
        | ((with_reducible refine atOp (.alloc 71) rfl ?_); refine wpList_allocX 5 71 rfl rfl rfl _ head_zero ?_; intro b5 w2 g5 R5 hb2; have n5 : b5 ≠ p := (fun e => by have := R.lt; omega); have n25 := R2.ne g5; replace g5 := Nat.le_trans hM.size g5; replace R2 := R2.below hb2; replace R := Row.below R hb2; replace hM := hM.trans (Moved.ofBelow hb2))
        | ((with_reducible refine atOp (.load 9 (.tmp 11)) rfl ?_); refine wpList_loadS R _ rfl rfl 0 rfl (txt l) rfl ?_)
        | (go_at_call 36; go_fit (num2_any _ R (by omega) hl); rintro x w5 ⟨rfl, R', hM5⟩; replace R := R'; clear R'; replace hM := hM.trans hM5; replace R2 := hM5.row R2 n2; replace R5 := hM5.row R5 n5; clear hM5)
        | (go_at_call 36; go_fit (num4_any _ R (by omega) hl); rintro x w5 ⟨rfl, R', hM5⟩; replace R := R'; clear R'; replace hM := hM.trans hM5; replace R2 := hM5.row R2 n2; replace R5 := hM5.row R5 n5; clear hM5)
        | ((with_reducible refine atOp (.store 3 (.tmp 21) (.tmp 20)) rfl ?_); refine wpList_storeF R5 rfl _ _ rfl 0 rfl (nAt l 2 2) rfl _ rfl (hdc (nAt l 2 2) 0 0 0) rfl ?_; intro w6 R5 t6; replace R2 := t6.row R2 n25; replace R := t6.row R n5.symm; replace hM := hM.turned t6 g5)
        | ((with_reducible refine atOp (.store 3 (.tmp 24) (.tmp 23)) rfl ?_); refine wpList_storeF R5 rfl _ _ rfl 1 rfl (nAt l 4 4) rfl _ rfl (hdc (nAt l 2 2) (nAt l 4 4) 0 0) rfl ?_; intro w6 R5 t6; replace R2 := t6.row R2 n25; replace R := t6.row R n5.symm; replace hM := hM.turned t6 g5)
        | ((with_reducible refine atOp (.store 3 (.tmp 27) (.tmp 26)) rfl ?_); refine wpList_storeF R5 rfl _ _ rfl 2 rfl (nAt l 8 4) rfl _ rfl (hdc (nAt l 2 2) (nAt l 4 4) (nAt l 8 4) 0) rfl ?_; intro w6 R5 t6; replace R2 := t6.row R2 n25; replace R := t6.row R n5.symm; replace hM := hM.turned t6 g5)
        | ((with_reducible refine atOp (.load 3 (.tmp 33)) rfl ?_); refine wpList_loadF R5 _ rfl ?_ 0 rfl _ rfl ?_; · rfl)
        | ((with_reducible refine atOp (.load 3 (.tmp 38)) rfl ?_); refine wpList_loadF R5 _ rfl ?_ 0 rfl _ rfl ?_; · rfl)
        | ((with_reducible refine atOp (.store 3 (.tmp 50) (.tmp 49)) rfl ?_); refine wpList_storeF R5 rfl _ _ rfl 3 rfl (nAt l 16 2) rfl _ rfl (hdc (nAt l 2 2) (nAt l 4 4) (nAt l 8 4) (nAt l 16 2)) rfl ?_; intro w6 R5 t6; replace R2 := t6.row R2 n25; replace R := t6.row R n5.symm; replace hM := hM.turned t6 g5)
        | ((with_reducible refine atOp (.load 3 (.tmp 53)) rfl ?_); refine wpList_loadF R5 _ rfl rfl 3 rfl _ rfl ?_)
        | ((with_reducible refine atOp (.load 3 (.tmp 57)) rfl ?_); refine wpList_loadF R5 _ rfl ?_ 3 rfl _ rfl ?_; · rfl)
        | ((with_reducible refine atOp (.load 3 (.tmp 63)) rfl ?_); refine wpList_loadF R5 _ rfl ?_ 0 rfl _ rfl ?_; · rfl)
        | ((with_reducible refine atOp (.load 71 (.tmp 5)) rfl ?_); refine wpList_loadR 71 (.tmp 5) rfl rfl b5 rfl _ R5 _ Tryd.underlying71 rfl (hdc_info _ _ _ _) ?_)
        | ((with_reducible refine atOp (.store 71 (.tmp 2) (.tmp 69)) rfl ?_); refine wpList_storeR 71 rfl (.tmp 2) (.tmp 69) rfl b2 rfl (hdc (nAt l 2 2) (nAt l 4 4) (nAt l 8 4) (nAt l 16 2)) rfl _ R2 rfl (hdc_info _ _ _ _) (hdc_one _ _ _ _) ?_; intro w6 R2 t6; replace R := t6.row R n2.symm; replace hM := hM.turned t6 g2))
      ((try simp only [Exit.inBlock, Exit.then]); refine bodyPost_ret (results_row2 (p := 2) (u := 3) rfl _ _ _ _ rfl R2 _ Tryd.underlying71 rfl (hdc_info _ _ _ _)) rfl ⟨hM, .inr ⟨HB.out, rfl, R⟩⟩)
    · have e1 : (nAt l 18 2 != nAt l 2 2 - 16) = true := by simpa using k1
      have HB : Hid (headE l = 1) := by show _ = _; unfold headE; rw [if_neg h16, if_neg (by omega), if_pos (by omega)]
      clear c0 c1 c2 c3 k0 k1
      go_enter Tryd.func33, Tryd.ntmps33
      go_wp2_with (first
        | ((with_reducible refine atOp (.alloc 71) rfl ?_); refine wpList_allocX 2 71 rfl rfl rfl _ head_zero ?_; intro b2 w2 g2 R2 hb2; have n2 : b2 ≠ p := (fun e => by have := R.lt; omega); replace R := Row.below R hb2; replace hM := hM.trans (Moved.ofBelow hb2))
        | ((with_reducible refine atOp (.alloc 71) rfl ?_); refine wpList_allocX 5 71 rfl rfl rfl _ head_zero ?_; intro b5 w2 g5 R5 hb2; have n5 : b5 ≠ p := (fun e => by have := R.lt; omega); have n25 := R2.ne g5; replace g5 := Nat.le_trans hM.size g5; replace R2 := R2.below hb2; replace R := Row.below R hb2; replace hM := hM.trans (Moved.ofBelow hb2))
        | ((with_reducible refine atOp (.load 9 (.tmp 11)) rfl ?_); refine wpList_loadS R _ rfl rfl 0 rfl (txt l) rfl ?_)
        | (go_at_call 36; go_fit (num2_any _ R (by omega) hl); rintro x w5 ⟨rfl, R', hM5⟩; replace R := R'; clear R'; replace hM := hM.trans hM5; replace R2 := hM5.row R2 n2; replace R5 := hM5.row R5 n5; clear hM5)
        | (go_at_call 36; go_fit (num4_any _ R (by omega) hl); rintro x w5 ⟨rfl, R', hM5⟩; replace R := R'; clear R'; replace hM := hM.trans hM5; replace R2 := hM5.row R2 n2; replace R5 := hM5.row R5 n5; clear hM5)
        | ((with_reducible refine atOp (.store 3 (.tmp 21) (.tmp 20)) rfl ?_); refine wpList_storeF R5 rfl _ _ rfl 0 rfl (nAt l 2 2) rfl _ rfl (hdc (nAt l 2 2) 0 0 0) rfl ?_; intro w6 R5 t6; replace R2 := t6.row R2 n25; replace R := t6.row R n5.symm; replace hM := hM.turned t6 g5)
        | ((with_reducible refine atOp (.store 3 (.tmp 24) (.tmp 23)) rfl ?_); refine wpList_storeF R5 rfl _ _ rfl 1 rfl (nAt l 4 4) rfl _ rfl (hdc (nAt l 2 2) (nAt l 4 4) 0 0) rfl ?_; intro w6 R5 t6; replace R2 := t6.row R2 n25; replace R := t6.row R n5.symm; replace hM := hM.turned t6 g5)
        | ((with_reducible refine atOp (.store 3 (.tmp 27) (.tmp 26)) rfl ?_); refine wpList_storeF R5 rfl _ _ rfl 2 rfl (nAt l 8 4) rfl _ rfl (hdc (nAt l 2 2) (nAt l 4 4) (nAt l 8 4) 0) rfl ?_; intro w6 R5 t6; replace R2 := t6.row R2 n25; replace R := t6.row R n5.symm; replace hM := hM.turned t6 g5)
        | ((with_reducible refine atOp (.load 3 (.tmp 33)) rfl ?_); refine wpList_loadF R5 _ rfl ?_ 0 rfl _ rfl ?_; · rfl)
        | ((with_reducible refine atOp (.load 3 (.tmp 38)) rfl ?_); refine wpList_loadF R5 _ rfl ?_ 0 rfl _ rfl ?_; · rfl)
        | ((with_reducible refine atOp (.store 3 (.tmp 50) (.tmp 49)) rfl ?_); refine wpList_storeF R5 rfl _ _ rfl 3 rfl (nAt l 16 2) rfl _ rfl (hdc (nAt l 2 2) (nAt l 4 4) (nAt l 8 4) (nAt l 16 2)) rfl ?_; intro w6 R5 t6; replace R2 := t6.row R2 n25; replace R := t6.row R n5.symm; replace hM := hM.turned t6 g5)
        | ((with_reducible refine atOp (.load 3 (.tmp 53)) rfl ?_); refine wpList_loadF R5 _ rfl rfl 3 rfl _ rfl ?_)
        | ((with_reducible refine atOp (.load 3 (.tmp 57)) rfl ?_); refine wpList_loadF R5 _ rfl ?_ 3 rfl _ rfl ?_; · rfl)
        | ((with_reducible refine atOp (.load 3 (.tmp 63)) rfl ?_); refine wpList_loadF R5 _ rfl ?_ 0 rfl _ rfl ?_; · rfl)
        | ((with_reducible refine atOp (.build 71 #[]) rfl ?_); refine wpList_buildZ 71 rfl rfl _ head_build ?_)
        | ((with_reducible refine atOp (.store 71 (.tmp 2) (.tmp 68)) rfl ?_); refine wpList_storeR 71 rfl (.tmp 2) (.tmp 68) rfl b2 rfl (hdc 0 0 0 0) rfl _ R2 rfl (hdc_info _ _ _ _) (hdc_one _ _ _ _) ?_; intro w6 R2 t6; replace R := t6.row R n2.symm; replace hM := hM.turned t6 g2))
      ((try simp only [Exit.inBlock, Exit.then]); refine bodyPost_ret (results_row2 (p := 2) (u := 3) rfl _ _ _ _ rfl R2 _ Tryd.underlying71 rfl (hdc_info _ _ _ _)) rfl ⟨hM, .inl ⟨HB.out, rfl, _, R⟩⟩)
  · have e0 : (nAt l 16 2 != 2) = true := by simpa using k0
    by_cases k2 : nAt l 16 2 = 300
    · have e2 : (nAt l 16 2 != 300) = false := by simpa using k2
      by_cases k1 : nAt l 18 2 = nAt l 2 2 - 16
      · have e1 : (nAt l 18 2 != nAt l 2 2 - 16) = false := by simpa using k1
        have HB : Hid (headE l = 0) := by show _ = _; unfold headE; rw [if_neg h16, if_neg (by omega), if_neg (by omega)]
        clear c0 c1 c2 c3 k0 k1 k2
        go_enter Tryd.func33, Tryd.ntmps33
        go_wp2_with (first
          | ((with_reducible refine atOp (.alloc 71) rfl ?_); refine wpList_allocX 2 71 rfl rfl rfl _ head_zero ?_; intro b2 w2 g2 R2 hb2; have n2 : b2 ≠ p := (fun e => by have := R.lt; omega); replace R := Row.below R hb2; replace hM := hM.trans (Moved.ofBelow hb2))
          | ((with_reducible refine atOp (.alloc 71) rfl ?_); refine wpList_allocX 5 71 rfl rfl rfl _ head_zero ?_; intro b5 w2 g5 R5 hb2; have n5 : b5 ≠ p := (fun e => by have := R.lt; omega); have n25 := R2.ne g5; replace g5 := Nat.le_trans hM.size g5; replace R2 := R2.below hb2; replace R := Row.below R hb2; replace hM := hM.trans (Moved.ofBelow hb2))
          | ((with_reducible refine atOp (.load 9 (.tmp 11)) rfl ?_); refine wpList_loadS R _ rfl rfl 0 rfl (txt l) rfl ?_)
          | (go_at_call 36; go_fit (num2_any _ R (by omega) hl); rintro x w5 ⟨rfl, R', hM5⟩; replace R := R'; clear R'; replace hM := hM.trans hM5; replace R2 := hM5.row R2 n2; replace R5 := hM5.row R5 n5; clear hM5)
          | (go_at_call 36; go_fit (num4_any _ R (by omega) hl); rintro x w5 ⟨rfl, R', hM5⟩; replace R := R'; clear R'; replace hM := hM.trans hM5; replace R2 := hM5.row R2 n2; replace R5 := hM5.row R5 n5; clear hM5)
          | ((with_reducible refine atOp (.store 3 (.tmp 21) (.tmp 20)) rfl ?_); refine wpList_storeF R5 rfl _ _ rfl 0 rfl (nAt l 2 2) rfl _ rfl (hdc (nAt l 2 2) 0 0 0) rfl ?_; intro w6 R5 t6; replace R2 := t6.row R2 n25; replace R := t6.row R n5.symm; replace hM := hM.turned t6 g5)
          | ((with_reducible refine atOp (.store 3 (.tmp 24) (.tmp 23)) rfl ?_); refine wpList_storeF R5 rfl _ _ rfl 1 rfl (nAt l 4 4) rfl _ rfl (hdc (nAt l 2 2) (nAt l 4 4) 0 0) rfl ?_; intro w6 R5 t6; replace R2 := t6.row R2 n25; replace R := t6.row R n5.symm; replace hM := hM.turned t6 g5)
          | ((with_reducible refine atOp (.store 3 (.tmp 27) (.tmp 26)) rfl ?_); refine wpList_storeF R5 rfl _ _ rfl 2 rfl (nAt l 8 4) rfl _ rfl (hdc (nAt l 2 2) (nAt l 4 4) (nAt l 8 4) 0) rfl ?_; intro w6 R5 t6; replace R2 := t6.row R2 n25; replace R := t6.row R n5.symm; replace hM := hM.turned t6 g5)
          | ((with_reducible refine atOp (.load 3 (.tmp 33)) rfl ?_); refine wpList_loadF R5 _ rfl ?_ 0 rfl _ rfl ?_; · rfl)
          | ((with_reducible refine atOp (.load 3 (.tmp 38)) rfl ?_); refine wpList_loadF R5 _ rfl ?_ 0 rfl _ rfl ?_; · rfl)
          | ((with_reducible refine atOp (.store 3 (.tmp 50) (.tmp 49)) rfl ?_); refine wpList_storeF R5 rfl _ _ rfl 3 rfl (nAt l 16 2) rfl _ rfl (hdc (nAt l 2 2) (nAt l 4 4) (nAt l 8 4) (nAt l 16 2)) rfl ?_; intro w6 R5 t6; replace R2 := t6.row R2 n25; replace R := t6.row R n5.symm; replace hM := hM.turned t6 g5)
          | ((with_reducible refine atOp (.load 3 (.tmp 53)) rfl ?_); refine wpList_loadF R5 _ rfl rfl 3 rfl _ rfl ?_)
          | ((with_reducible refine atOp (.load 3 (.tmp 57)) rfl ?_); refine wpList_loadF R5 _ rfl ?_ 3 rfl _ rfl ?_; · rfl)
          | ((with_reducible refine atOp (.load 3 (.tmp 63)) rfl ?_); refine wpList_loadF R5 _ rfl ?_ 0 rfl _ rfl ?_; · rfl)
          | ((with_reducible refine atOp (.load 71 (.tmp 5)) rfl ?_); refine wpList_loadR 71 (.tmp 5) rfl rfl b5 rfl _ R5 _ Tryd.underlying71 rfl (hdc_info _ _ _ _) ?_)
          | ((with_reducible refine atOp (.store 71 (.tmp 2) (.tmp 69)) rfl ?_); refine wpList_storeR 71 rfl (.tmp 2) (.tmp 69) rfl b2 rfl (hdc (nAt l 2 2) (nAt l 4 4) (nAt l 8 4) (nAt l 16 2)) rfl _ R2 rfl (hdc_info _ _ _ _) (hdc_one _ _ _ _) ?_; intro w6 R2 t6; replace R := t6.row R n2.symm; replace hM := hM.turned t6 g2))
        ((try simp only [Exit.inBlock, Exit.then]); refine bodyPost_ret (results_row2 (p := 2) (u := 3) rfl _ _ _ _ rfl R2 _ Tryd.underlying71 rfl (hdc_info _ _ _ _)) rfl ⟨hM, .inr ⟨HB.out, rfl, R⟩⟩)
      · have e1 : (nAt l 18 2 != nAt l 2 2 - 16) = true := by simpa using k1
        have HB : Hid (headE l = 1) := by show _ = _; unfold headE; rw [if_neg h16, if_neg (by omega), if_pos (by omega)]
        clear c0 c1 c2 c3 k0 k1 k2
        go_enter Tryd.func33, Tryd.ntmps33
        go_wp2_with (first
          | ((with_reducible refine atOp (.alloc 71) rfl ?_); refine wpList_allocX 2 71 rfl rfl rfl _ head_zero ?_; intro b2 w2 g2 R2 hb2; have n2 : b2 ≠ p := (fun e => by have := R.lt; omega); replace R := Row.below R hb2; replace hM := hM.trans (Moved.ofBelow hb2))
          | ((with_reducible refine atOp (.alloc 71) rfl ?_); refine wpList_allocX 5 71 rfl rfl rfl _ head_zero ?_; intro b5 w2 g5 R5 hb2; have n5 : b5 ≠ p := (fun e => by have := R.lt; omega); have n25 := R2.ne g5; replace g5 := Nat.le_trans hM.size g5; replace R2 := R2.below hb2; replace R := Row.below R hb2; replace hM := hM.trans (Moved.ofBelow hb2))
          | ((with_reducible refine atOp (.load 9 (.tmp 11)) rfl ?_); refine wpList_loadS R _ rfl rfl 0 rfl (txt l) rfl ?_)
          | (go_at_call 36; go_fit (num2_any _ R (by omega) hl); rintro x w5 ⟨rfl, R', hM5⟩; replace R := R'; clear R'; replace hM := hM.trans hM5; replace R2 := hM5.row R2 n2; replace R5 := hM5.row R5 n5; clear hM5)
          | (go_at_call 36; go_fit (num4_any _ R (by omega) hl); rintro x w5 ⟨rfl, R', hM5⟩; replace R := R'; clear R'; replace hM := hM.trans hM5; replace R2 := hM5.row R2 n2; replace R5 := hM5.row R5 n5; clear hM5)
          | ((with_reducible refine atOp (.store 3 (.tmp 21) (.tmp 20)) rfl ?_); refine wpList_storeF R5 rfl _ _ rfl 0 rfl (nAt l 2 2) rfl _ rfl (hdc (nAt l 2 2) 0 0 0) rfl ?_; intro w6 R5 t6; replace R2 := t6.row R2 n25; replace R := t6.row R n5.symm; replace hM := hM.turned t6 g5)
          | ((with_reducible refine atOp (.store 3 (.tmp 24) (.tmp 23)) rfl ?_); refine wpList_storeF R5 rfl _ _ rfl 1 rfl (nAt l 4 4) rfl _ rfl (hdc (nAt l 2 2) (nAt l 4 4) 0 0) rfl ?_; intro w6 R5 t6; replace R2 := t6.row R2 n25; replace R := t6.row R n5.symm; replace hM := hM.turned t6 g5)
          | ((with_reducible refine atOp (.store 3 (.tmp 27) (.tmp 26)) rfl ?_); refine wpList_storeF R5 rfl _ _ rfl 2 rfl (nAt l 8 4) rfl _ rfl (hdc (nAt l 2 2) (nAt l 4 4) (nAt l 8 4) 0) rfl ?_; intro w6 R5 t6; replace R2 := t6.row R2 n25; replace R := t6.row R n5.symm; replace hM := hM.turned t6 g5)
          | ((with_reducible refine atOp (.load 3 (.tmp 33)) rfl ?_); refine wpList_loadF R5 _ rfl ?_ 0 rfl _ rfl ?_; · rfl)
          | ((with_reducible refine atOp (.load 3 (.tmp 38)) rfl ?_); refine wpList_loadF R5 _ rfl ?_ 0 rfl _ rfl ?_; · rfl)
          | ((with_reducible refine atOp (.store 3 (.tmp 50) (.tmp 49)) rfl ?_); refine wpList_storeF R5 rfl _ _ rfl 3 rfl (nAt l 16 2) rfl _ rfl (hdc (nAt l 2 2) (nAt l 4 4) (nAt l 8 4) (nAt l 16 2)) rfl ?_; intro w6 R5 t6; replace R2 := t6.row R2 n25; replace R := t6.row R n5.symm; replace hM := hM.turned t6 g5)
          | ((with_reducible refine atOp (.load 3 (.tmp 53)) rfl ?_); refine wpList_loadF R5 _ rfl rfl 3 rfl _ rfl ?_)
          | ((with_reducible refine atOp (.load 3 (.tmp 57)) rfl ?_); refine wpList_loadF R5 _ rfl ?_ 3 rfl _ rfl ?_; · rfl)
          | ((with_reducible refine atOp (.load 3 (.tmp 63)) rfl ?_); refine wpList_loadF R5 _ rfl ?_ 0 rfl _ rfl ?_; · rfl)
          | ((with_reducible refine atOp (.build 71 #[]) rfl ?_); refine wpList_buildZ 71 rfl rfl _ head_build ?_)
          | ((with_reducible refine atOp (.store 71 (.tmp 2) (.tmp 68)) rfl ?_); refine wpList_storeR 71 rfl (.tmp 2) (.tmp 68) rfl b2 rfl (hdc 0 0 0 0) rfl _ R2 rfl (hdc_info _ _ _ _) (hdc_one _ _ _ _) ?_; intro w6 R2 t6; replace R := t6.row R n2.symm; replace hM := hM.turned t6 g2))
        ((try simp only [Exit.inBlock, Exit.then]); refine bodyPost_ret (results_row2 (p := 2) (u := 3) rfl _ _ _ _ rfl R2 _ Tryd.underlying71 rfl (hdc_info _ _ _ _)) rfl ⟨hM, .inl ⟨HB.out, rfl, _, R⟩⟩)
    · have e2 : (nAt l 16 2 != 300) = true := by simpa using k2
      have HB : Hid (headE l = 1) := by show _ = _; unfold headE; rw [if_neg h16, if_neg (by omega), if_pos (by omega)]
      clear c0 c1 c2 c3 k0 k2
      go_enter Tryd.func33, Tryd.ntmps33
      go_wp2_with (first
        | ((with_reducible refine atOp (.alloc 71) rfl ?_); refine wpList_allocX 2 71 rfl rfl rfl _ head_zero ?_; intro b2 w2 g2 R2 hb2; have n2 : b2 ≠ p := (fun e => by have := R.lt; omega); replace R := Row.below R hb2; replace hM := hM.trans (Moved.ofBelow hb2))
        | ((with_reducible refine atOp (.alloc 71) rfl ?_); refine wpList_allocX 5 71 rfl rfl rfl _ head_zero ?_; intro b5 w2 g5 R5 hb2; have n5 : b5 ≠ p := (fun e => by have := R.lt; omega); have n25 := R2.ne g5; replace g5 := Nat.le_trans hM.size g5; replace R2 := R2.below hb2; replace R := Row.below R hb2; replace hM := hM.trans (Moved.ofBelow hb2))
        | ((with_reducible refine atOp (.load 9 (.tmp 11)) rfl ?_); refine wpList_loadS R _ rfl rfl 0 rfl (txt l) rfl ?_)
        | (go_at_call 36; go_fit (num2_any _ R (by omega) hl); rintro x w5 ⟨rfl, R', hM5⟩; replace R := R'; clear R'; replace hM := hM.trans hM5; replace R2 := hM5.row R2 n2; replace R5 := hM5.row R5 n5; clear hM5)
        | (go_at_call 36; go_fit (num4_any _ R (by omega) hl); rintro x w5 ⟨rfl, R', hM5⟩; replace R := R'; clear R'; replace hM := hM.trans hM5; replace R2 := hM5.row R2 n2; replace R5 := hM5.row R5 n5; clear hM5)
        | ((with_reducible refine atOp (.store 3 (.tmp 21) (.tmp 20)) rfl ?_); refine wpList_storeF R5 rfl _ _ rfl 0 rfl (nAt l 2 2) rfl _ rfl (hdc (nAt l 2 2) 0 0 0) rfl ?_; intro w6 R5 t6; replace R2 := t6.row R2 n25; replace R := t6.row R n5.symm; replace hM := hM.turned t6 g5)
        | ((with_reducible refine atOp (.store 3 (.tmp 24) (.tmp 23)) rfl ?_); refine wpList_storeF R5 rfl _ _ rfl 1 rfl (nAt l 4 4) rfl _ rfl (hdc (nAt l 2 2) (nAt l 4 4) 0 0) rfl ?_; intro w6 R5 t6; replace R2 := t6.row R2 n25; replace R := t6.row R n5.symm; replace hM := hM.turned t6 g5)
        | ((with_reducible refine atOp (.store 3 (.tmp 27) (.tmp 26)) rfl ?_); refine wpList_storeF R5 rfl _ _ rfl 2 rfl (nAt l 8 4) rfl _ rfl (hdc (nAt l 2 2) (nAt l 4 4) (nAt l 8 4) 0) rfl ?_; intro w6 R5 t6; replace R2 := t6.row R2 n25; replace R := t6.row R n5.symm; replace hM := hM.turned t6 g5)
        | ((with_reducible refine atOp (.load 3 (.tmp 33)) rfl ?_); refine wpList_loadF R5 _ rfl ?_ 0 rfl _ rfl ?_; · rfl)
        | ((with_reducible refine atOp (.load 3 (.tmp 38)) rfl ?_); refine wpList_loadF R5 _ rfl ?_ 0 rfl _ rfl ?_; · rfl)
        | ((with_reducible refine atOp (.store 3 (.tmp 50) (.tmp 49)) rfl ?_); refine wpList_storeF R5 rfl _ _ rfl 3 rfl (nAt l 16 2) rfl _ rfl (hdc (nAt l 2 2) (nAt l 4 4) (nAt l 8 4) (nAt l 16 2)) rfl ?_; intro w6 R5 t6; replace R2 := t6.row R2 n25; replace R := t6.row R n5.symm; replace hM := hM.turned t6 g5)
        | ((with_reducible refine atOp (.load 3 (.tmp 53)) rfl ?_); refine wpList_loadF R5 _ rfl rfl 3 rfl _ rfl ?_)
        | ((with_reducible refine atOp (.load 3 (.tmp 57)) rfl ?_); refine wpList_loadF R5 _ rfl ?_ 3 rfl _ rfl ?_; · rfl)
        | ((with_reducible refine atOp (.load 3 (.tmp 63)) rfl ?_); refine wpList_loadF R5 _ rfl ?_ 0 rfl _ rfl ?_; · rfl)
        | ((with_reducible refine atOp (.build 71 #[]) rfl ?_); refine wpList_buildZ 71 rfl rfl _ head_build ?_)
        | ((with_reducible refine atOp (.store 71 (.tmp 2) (.tmp 68)) rfl ?_); refine wpList_storeR 71 rfl (.tmp 2) (.tmp 68) rfl b2 rfl (hdc 0 0 0 0) rfl _ R2 rfl (hdc_info _ _ _ _) (hdc_one _ _ _ _) ?_; intro w6 R2 t6; replace R := t6.row R n2.symm; replace hM := hM.turned t6 g2))
      ((try simp only [Exit.inBlock, Exit.then]); refine bodyPost_ret (results_row2 (p := 2) (u := 3) rfl _ _ _ _ rfl R2 _ Tryd.underlying71 rfl (hdc_info _ _ _ _)) rfl ⟨hM, .inl ⟨HB.out, rfl, _, R⟩⟩)
end Go.Proofs.YtnhafdkfjjplkaaDoor
