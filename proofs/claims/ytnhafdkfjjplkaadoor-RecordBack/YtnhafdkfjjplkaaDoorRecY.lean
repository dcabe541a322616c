/-
  An event that is read.
-/
import Derived.Test.YtnhafdkfjjplkaaDoorRecK
import Derived.Test.YtnhafdkfjjplkaaDoorRecE
import Derived.Deep.RegionHeld3
namespace Go.Proofs.YtnhafdkfjjplkaaDoor
open Go.ChangeShapes Go.WideShapes Go.ChangeAt Go.RowKit
set_option linter.unusedSimpArgs false
set_option linter.unusedVariables false

theorem num1_any {p : Nat} {l : List UInt8} {d : Bool} {v : Value} {a : Nat} (w : World) (R : Rdr w p (l.drop a) d v) (hk : a + 1 ≤ l.length) (hl : l.length ≤ 140737488351232) :
    Calls Tryd.prog 36 #[.pointer (some ⟨p, 0, none⟩), .int .i64 1] w fun x w' => x = .returned (.int .i64 (nAt l a 1)) ∧ Rdr w' p (l.drop (a + 1)) d v ∧ Moved p w w' := by
  have h := number_any p (l.drop a) d v 1 w R (by rw [List.length_drop]; omega) (by rw [List.length_drop]; omega) (by omega)
  rw [List.drop_drop, show wrap64 (num ((l.drop a).take 1)) = nAt l a 1 from wrap_small (by have := nAt_bd l a 1 (by omega); unfold nAt at this; omega) (by have := nAt_bd l a 1 (by omega); unfold nAt at this; omega)] at h
  exact h
theorem num2_any {p : Nat} {l : List UInt8} {d : Bool} {v : Value} {a : Nat} (w : World) (R : Rdr w p (l.drop a) d v) (hk : a + 2 ≤ l.length) (hl : l.length ≤ 140737488351232) :
    Calls Tryd.prog 36 #[.pointer (some ⟨p, 0, none⟩), .int .i64 2] w fun x w' => x = .returned (.int .i64 (nAt l a 2)) ∧ Rdr w' p (l.drop (a + 2)) d v ∧ Moved p w w' := by
  have h := number_any p (l.drop a) d v 2 w R (by rw [List.length_drop]; omega) (by rw [List.length_drop]; omega) (by omega)
  rw [List.drop_drop, show wrap64 (num ((l.drop a).take 2)) = nAt l a 2 from wrap_small (by have := nAt_bd l a 2 (by omega); unfold nAt at this; omega) (by have := nAt_bd l a 2 (by omega); unfold nAt at this; omega)] at h
  exact h
theorem num4_any {p : Nat} {l : List UInt8} {d : Bool} {v : Value} {a : Nat} (w : World) (R : Rdr w p (l.drop a) d v) (hk : a + 4 ≤ l.length) (hl : l.length ≤ 140737488351232) :
    Calls Tryd.prog 36 #[.pointer (some ⟨p, 0, none⟩), .int .i64 4] w fun x w' => x = .returned (.int .i64 (nAt l a 4)) ∧ Rdr w' p (l.drop (a + 4)) d v ∧ Moved p w w' := by
  have h := number_any p (l.drop a) d v 4 w R (by rw [List.length_drop]; omega) (by rw [List.length_drop]; omega) (by omega)
  rw [List.drop_drop, show wrap64 (num ((l.drop a).take 4)) = nAt l a 4 from wrap_small (by have := nAt_bd l a 4 (by omega); unfold nAt at this; omega) (by have := nAt_bd l a 4 (by omega); unfold nAt at this; omega)] at h
  exact h
theorem num8_any {p : Nat} {l : List UInt8} {d : Bool} {v : Value} {a : Nat} (w : World) (R : Rdr w p (l.drop a) d v) (hk : a + 8 ≤ l.length) (hl : l.length ≤ 140737488351232) :
    Calls Tryd.prog 36 #[.pointer (some ⟨p, 0, none⟩), .int .i64 8] w fun x w' => x = .returned (.int .i64 (wrap64 (nAt l a 8))) ∧ Rdr w' p (l.drop (a + 8)) d v ∧ Moved p w w' := by
  have h := number_any p (l.drop a) d v 8 w R (by rw [List.length_drop]; omega) (by rw [List.length_drop]; omega) (by omega)
  rw [List.drop_drop] at h
  exact h
theorem takeA_any {p : Nat} {l : List UInt8} {d : Bool} {v : Value} {a : Nat} (k : Nat) (w : World) (R : Rdr w p (l.drop a) d v) (hk : a + k ≤ l.length) (hl : l.length ≤ 140737488351232) :
    Calls Tryd.prog 37 #[.pointer (some ⟨p, 0, none⟩), .int .i64 (k : Int)] w fun x w' => x = .returned (.string (txt ((l.drop a).take k))) ∧ Rdr w' p (l.drop (a + k)) d v ∧ Moved p w w' := by
  have h := take_any p (l.drop a) d v k w R (by rw [List.length_drop]; omega) (by rw [List.length_drop]; omega)
  rw [List.drop_drop] at h
  exact h
theorem wp_convB {o : Oper} {a : Act} {w : World} {K : Act → World → Prop} {Q : Exit → Act → World → Prop} (x : Operand) (ho : o.op = .convert 48 9 x) (v : Value) (hx : a.eval x = v) (t : ByteArray) (hrun : (convert 48 9 v).run Tryd.prog w = .ok (.string t) w)
    (hr : K (a.put o.dst (.string t)) w) : o.wp Tryd.prog a w K Q := by
  unfold Oper.wp execOp
  simp only [ho, hx, Sem.run_bind, hrun, Result.andThen_ok, Sem.run_pure]
  exact hr
theorem yields_eqTxt {ops : Array Oper} {S : World → Prop} {o : Oper} {a : Act} (x y : Operand) (ho : o.op = .binOp .eql 9 x y 9) (hw : Region.wanted o (yielded ops a.tmps) = true) (s t : List UInt8) (hx : a.eval x = .string (txt s)) (hy : a.eval y = .string (txt t)) (b : Bool) (hb : decide (s = t) = b) : YieldsIf Tryd.prog ops S o (.bool b) a :=
  .inl ⟨hw, fun w _ => by
    have e : ((txt s).toList == (txt t).toList) = b := by
      rw [ByteArray.toList_eq, ByteArray.toList_eq, txt_list, txt_list, ← hb]
      by_cases h : s = t
      · subst h; simp
      · simp [h]
    unfold execOp
    simp only [ho, hx, hy]
    simp [go_sem, eqGuard, e]⟩
theorem ev_build8 (w : World) : (Instr.build 29 #[]).run Tryd.prog w = .ok (.agg (ec noE)) w := by kernel_rfl
theorem grew_undrew {v v' : Value} {w w' : World} (h : Grew v v' w.drew w') : Grew v v' w w' := ⟨⟨h.by'.os, h.by'.tape, h.by'.output, h.by'.size, h.by'.block⟩, h.lies⟩
set_option maxRecDepth 10000 in
set_option maxHeartbeats 8000000 in
theorem event_yes (p : Nat) (l : List UInt8) (d : Bool) (v : Value) (w : World) (R : Rdr w p l d v) (hk : 21 ≤ l.length) (hl : l.length ≤ 140737488351232) (hr : okR l) :
    Calls Tryd.prog 38 #[.pointer (some ⟨p, 0, none⟩)] w fun x w' => x = .returned (.tuple #[.agg (ec (rdE l)), .bool true]) ∧ Rdr w' p (l.drop 21) d v ∧ Moved p w w' := by
  have hM := Moved.refl p w
  have hsz : (txt l).size = l.length := txt_size l
  have h1 := txt_left l 21
  have hk' : (21 : Int) ≤ (l.length : Int) := by omega
  have q1 := nAt_bd l 8 4 (by omega)
  have q2 := nAt_bd l 12 4 (by omega)
  have q3 := nAt_bd l 16 2 (by omega)
  obtain ⟨q10, q11⟩ := q1
  obtain ⟨q20, q21⟩ := q2
  obtain ⟨q30, q31⟩ := q3
  have hok := hr.1
  have heq : decide (evB (rdE l) = l.take 21) = true := by simpa using hr.2
  have CG : ∀ w, Calls Tryd.prog 12 #[.agg (ec (rdE l))] w fun x w' => x = .returned (.int .i64 0) ∧ Below w.heap.size w w' := fun w => by have := goodEv_any (rdE l) w; rw [goodE_yes hok] at this; exact this
  clear hr
  go_enter Tryd.func38, Tryd.ntmps38
  go_upto_region 11 with (first
    | ((with_reducible refine atOp (.alloc 29) rfl ?_); refine wpList_allocX 2 29 rfl rfl rfl _ ev_zero ?_; intro b2 w2 g2 R2 hb2; have n2 : b2 ≠ p := (fun e => by have := R.lt; omega); replace R := Row.below R hb2; replace hM := hM.trans (Moved.ofBelow hb2))
    | ((with_reducible refine atOp (.alloc 29) rfl ?_); refine wpList_allocX 5 29 rfl rfl rfl _ ev_zero ?_; intro b5 w2 g5 R5 hb2; have n5 : b5 ≠ p := (fun e => by have := R.lt; omega); have n25 := R2.ne g5; replace g5 := Nat.le_trans hM.size g5; replace R2 := R2.below hb2; replace R := Row.below R hb2; replace hM := hM.trans (Moved.ofBelow hb2))
    | ((with_reducible refine atOp (.load 9 (.tmp 8)) rfl ?_); refine wpList_loadS R _ rfl rfl 0 rfl _ rfl ?_)
    | (go_at_call 36; go_fit (num8_any _ (show Rdr _ p (l.drop 0) d v from R) (by omega) hl); rintro x w5 ⟨rfl, R', hM5⟩; replace R := R'; clear R'; replace hM := hM.trans hM5; replace R2 := hM5.row R2 n2; replace R5 := hM5.row R5 n5; clear hM5)
    | (go_at_call 36; go_fit (num4_any _ R (by omega) hl); rintro x w5 ⟨rfl, R', hM5⟩; replace R := R'; clear R'; replace hM := hM.trans hM5; replace R2 := hM5.row R2 n2; replace R5 := hM5.row R5 n5; clear hM5)
    | (go_at_call 36; go_fit (num2_any _ R (by omega) hl); rintro x w5 ⟨rfl, R', hM5⟩; replace R := R'; clear R'; replace hM := hM.trans hM5; replace R2 := hM5.row R2 n2; replace R5 := hM5.row R5 n5; clear hM5)
    | (go_at_call 36; go_fit (num1_any _ R (by omega) hl); rintro x w5 ⟨rfl, R', hM5⟩; replace R := R'; clear R'; replace hM := hM.trans hM5; replace R2 := hM5.row R2 n2; replace R5 := hM5.row R5 n5; clear hM5)
    | (go_at_call 37; refine (takeA_any 2 _ R (by omega) hl).mono ?_; rintro x w5 ⟨rfl, R', hM5⟩; replace R := R'; clear R'; replace hM := hM.trans hM5; replace R2 := hM5.row R2 n2; replace R5 := hM5.row R5 n5; clear hM5)
    | ((with_reducible refine atOp (.store 3 (.tmp 13) (.tmp 12)) rfl ?_); refine wpList_storeF R5 rfl _ _ rfl 0 rfl (wrap64 (nAt l 0 8)) rfl _ rfl (ec ⟨wrap64 (nAt l 0 8), 0, 0, 0, false⟩) rfl ?_; intro w6 R5 t6; replace R2 := t6.row R2 n25; replace R := t6.row R n5.symm; replace hM := hM.turned t6 g5)
    | ((with_reducible refine atOp (.store 3 (.tmp 18) (.tmp 17)) rfl ?_); refine wpList_storeF R5 rfl _ _ rfl 1 rfl (nAt l 8 4 - 167772160 - 1) rfl _ rfl (ec ⟨wrap64 (nAt l 0 8), nAt l 8 4 - 167772160 - 1, 0, 0, false⟩) rfl ?_; intro w6 R5 t6; replace R2 := t6.row R2 n25; replace R := t6.row R n5.symm; replace hM := hM.turned t6 g5)
    | ((with_reducible refine atOp (.store 3 (.tmp 23) (.tmp 22)) rfl ?_); refine wpList_storeF R5 rfl _ _ rfl 2 rfl (nAt l 12 4 - 3405803776 - 1) rfl _ rfl (ec ⟨wrap64 (nAt l 0 8), nAt l 8 4 - 167772160 - 1, nAt l 12 4 - 3405803776 - 1, 0, false⟩) rfl ?_; intro w6 R5 t6; replace R2 := t6.row R2 n25; replace R := t6.row R n5.symm; replace hM := hM.turned t6 g5)
    | ((with_reducible refine atOp (.store 3 (.tmp 28) (.tmp 27)) rfl ?_); refine wpList_storeF R5 rfl _ _ rfl 3 rfl ((nAt l 16 2 - 1024).tdiv 8) rfl _ rfl (ec ⟨wrap64 (nAt l 0 8), nAt l 8 4 - 167772160 - 1, nAt l 12 4 - 3405803776 - 1, (nAt l 16 2 - 1024).tdiv 8, false⟩) rfl ?_; intro w6 R5 t6; replace R2 := t6.row R2 n25; replace R := t6.row R n5.symm; replace hM := hM.turned t6 g5)
    | ((with_reducible refine atOp (.store 4 (.tmp 34) (.tmp 33)) rfl ?_); refine wpList_storeB R5 rfl _ _ rfl 4 rfl (nAt l 20 1 == 2) rfl _ rfl (ec (rdE l)) rfl ?_; intro w6 R5 t6; replace R2 := t6.row R2 n25; replace R := t6.row R n5.symm; replace hM := hM.turned t6 g5)
    | ((with_reducible refine atOp (.load 29 (.tmp 5)) rfl ?_); refine wpList_loadR 29 (.tmp 5) rfl rfl b5 rfl (ec (rdE l)) R5 _ Tryd.underlying29 rfl (ec_info _) ?_)
    | (go_at_call 12; go_fit (CG _); rintro x w5 ⟨rfl, hb5⟩; replace R := Row.below R hb5; replace R2 := R2.below hb5; replace R5 := R5.below hb5; replace hM := hM.trans (Moved.ofBelow hb5)))
  refine wp_region_noPanic ?_
  refine wp_region_held_drew (S := fun W => Row 29 W b5 (ec (rdE l))) (by kernel_rfl) R5 (fun _ => ?_)
  refine wpAnyH_take (i := 0) (v := .agg (ec (rdE l))) rfl (by kernel_rfl) (by kernel_rfl) (by kernel_rfl) (fun _ _ _ h => h) (yields_loadR 29 (.tmp 5) rfl (by kernel_rfl) b5 (by kernel_rfl) (ec (rdE l)) (fun w h => h) _ Tryd.underlying29 rfl (ec_info _)) R5 ?_
  simp only [Act.put, List.getElem_toArray, List.getElem_cons_succ, List.getElem_cons_zero, List.setIfInBounds_toArray, List.set_cons_zero, List.set_cons_succ]
  refine wpAnyH_take (i := 1) (v := .agg (ec (rdE l))) rfl (by kernel_rfl) (by kernel_rfl) (by kernel_rfl) (fun _ _ _ h => h) (yields_loadR 29 (.tmp 5) rfl (by kernel_rfl) b5 (by kernel_rfl) (ec (rdE l)) (fun w h => h) _ Tryd.underlying29 rfl (ec_info _)) R5 ?_
  simp only [Act.put, List.getElem_toArray, List.getElem_cons_succ, List.getElem_cons_zero, List.setIfInBounds_toArray, List.set_cons_zero, List.set_cons_succ]
  refine wpAnyH_take (i := 4) (v := .string (txt (l.take 21))) rfl (by kernel_rfl) (by kernel_rfl) (by kernel_rfl) (fun _ _ _ h => h) (Or.inl ⟨by kernel_rfl, by intro w hS; go_simp⟩) R5 ?_
  simp only [Act.put, List.getElem_toArray, List.getElem_cons_succ, List.getElem_cons_zero, List.setIfInBounds_toArray, List.set_cons_zero, List.set_cons_succ]
  refine wpAnyH_ready (rs := [2]) (by kernel_rfl) (by simp) ?_
  refine AllReadyH.cons rfl (fun K hK => ?_) ?_
  · go_simp
    go_at_call 21; refine (putEvent_any (base := 0) (rdE l) _ (Bys.nil _ 0) (Nat.zero_le _) (by simp) hok).mono ?_; rintro x w5 ⟨v5, rfl, hO, hG⟩; replace hG := grew_undrew hG; have hne := Grew.ne hG (by simp [Value.ownBlock]) R2.lt; have hb5 := Grew.below hG (Nat.le_refl _) (fun k hk => by simp [Value.ownBlock] at hk); replace R := Row.below R hb5; replace R2 := R2.below hb5; replace R5 := R5.below hb5; replace hM := hM.trans (Moved.ofBelow hb5)
    go_wp2_with fail
    refine hK.out _ _ R5 (fun _ => ?_)
    clear hK K
    try simp only [Act.put, List.getElem_toArray, List.getElem_cons_succ, List.getElem_cons_zero, List.setIfInBounds_toArray, List.set_cons_zero, List.set_cons_succ]
    refine wpAnyH_ready (rs := [3, 6]) (by kernel_rfl) (by simp) ?_
    refine AllReadyH.cons rfl (fun K hK => ?_) ?_
    · rw [if_pos (by kernel_rfl)]
      refine wp_convB (.tmp 41) rfl _ (by kernel_rfl) (txt (evB (rdE l))) (conv_bys hO (by rw [evB_len]; decide)) ?_
      refine hK.out _ _ R5 (fun _ => ?_)
      clear hK K
      try simp only [Act.put, List.getElem_toArray, List.getElem_cons_succ, List.getElem_cons_zero, List.setIfInBounds_toArray, List.set_cons_zero, List.set_cons_succ]
      refine wpAnyH_take (i := 5) (v := .bool true) rfl (by kernel_rfl) (by kernel_rfl) (by kernel_rfl) (fun _ _ _ h => h) (yields_eqTxt (.tmp 42) (.tmp 43) rfl (by kernel_rfl) (evB (rdE l)) (l.take 21) (by kernel_rfl) (by kernel_rfl) true heq) R5 ?_
      simp only [Act.put, List.getElem_toArray, List.getElem_cons_succ, List.getElem_cons_zero, List.setIfInBounds_toArray, List.set_cons_zero, List.set_cons_succ]
      refine wpAnyH_ready (rs := [6]) (by kernel_rfl) (by simp) ?_
      refine AllReadyH.cons rfl (fun K hK => ?_) ?_
      · rw [if_pos (by kernel_rfl)]
        refine wp_storeR 29 (.tmp 2) (.tmp 39) rfl b2 (by kernel_rfl) (ec (rdE l)) (by kernel_rfl) _ R2 rfl (ec_info _) (ec_one _) ?_; intro w7 R2 t7; replace hO := bys_turned hO hne t7; replace R5 := t7.row R5 n25.symm; replace R := t7.row R n2.symm; replace hM := hM.turned t7 g2
        refine hK.out _ _ R5 (fun _ => ?_)
        clear hK K
        try simp only [Act.put, List.getElem_toArray, List.getElem_cons_succ, List.getElem_cons_zero, List.setIfInBounds_toArray, List.set_cons_zero, List.set_cons_succ]
        refine wpAnyH_take (i := 7) (v := .bool true) rfl (by kernel_rfl) (by kernel_rfl) (by kernel_rfl) (fun _ _ _ h => h) (Or.inl ⟨by kernel_rfl, by intro w hS; go_simp⟩) R5 ?_
        simp only [Act.put, List.getElem_toArray, List.getElem_cons_succ, List.getElem_cons_zero, List.setIfInBounds_toArray, List.set_cons_zero, List.set_cons_succ]
        refine wpAnyH_done (by kernel_rfl) ?_ _
        refine NoPanic.normal ?_
        go_wp2
        ((try simp only [Exit.inBlock, Exit.then]); refine bodyPost_ret (results_row2 (p := 2) (u := 3) rfl _ _ _ _ rfl R2 _ Tryd.underlying29 rfl (ec_info _)) rfl ⟨rfl, R, hM⟩)
      exact AllReadyH.nil
    refine AllReadyH.cons rfl (fun K hK => ?_) ?_
    · rw [if_pos (by kernel_rfl)]
      refine wp_storeR 29 (.tmp 2) (.tmp 39) rfl b2 (by kernel_rfl) (ec (rdE l)) (by kernel_rfl) _ R2 rfl (ec_info _) (ec_one _) ?_; intro w7 R2 t7; replace hO := bys_turned hO hne t7; replace R5 := t7.row R5 n25.symm; replace R := t7.row R n2.symm; replace hM := hM.turned t7 g2
      refine hK.out _ _ R5 (fun _ => ?_)
      clear hK K
      try simp only [Act.put, List.getElem_toArray, List.getElem_cons_succ, List.getElem_cons_zero, List.setIfInBounds_toArray, List.set_cons_zero, List.set_cons_succ]
      refine wpAnyH_ready (rs := [3]) (by kernel_rfl) (by simp) ?_
      refine AllReadyH.cons rfl (fun K hK => ?_) ?_
      · rw [if_pos (by kernel_rfl)]
        refine wp_convB (.tmp 41) rfl _ (by kernel_rfl) (txt (evB (rdE l))) (conv_bys hO (by rw [evB_len]; decide)) ?_
        refine hK.out _ _ R5 (fun _ => ?_)
        clear hK K
        try simp only [Act.put, List.getElem_toArray, List.getElem_cons_succ, List.getElem_cons_zero, List.setIfInBounds_toArray, List.set_cons_zero, List.set_cons_succ]
        refine wpAnyH_take (i := 5) (v := .bool true) rfl (by kernel_rfl) (by kernel_rfl) (by kernel_rfl) (fun _ _ _ h => h) (yields_eqTxt (.tmp 42) (.tmp 43) rfl (by kernel_rfl) (evB (rdE l)) (l.take 21) (by kernel_rfl) (by kernel_rfl) true heq) R5 ?_
        simp only [Act.put, List.getElem_toArray, List.getElem_cons_succ, List.getElem_cons_zero, List.setIfInBounds_toArray, List.set_cons_zero, List.set_cons_succ]
        refine wpAnyH_take (i := 7) (v := .bool true) rfl (by kernel_rfl) (by kernel_rfl) (by kernel_rfl) (fun _ _ _ h => h) (Or.inl ⟨by kernel_rfl, by intro w hS; go_simp⟩) R5 ?_
        simp only [Act.put, List.getElem_toArray, List.getElem_cons_succ, List.getElem_cons_zero, List.setIfInBounds_toArray, List.set_cons_zero, List.set_cons_succ]
        refine wpAnyH_done (by kernel_rfl) ?_ _
        refine NoPanic.normal ?_
        go_wp2
        ((try simp only [Exit.inBlock, Exit.then]); refine bodyPost_ret (results_row2 (p := 2) (u := 3) rfl _ _ _ _ rfl R2 _ Tryd.underlying29 rfl (ec_info _)) rfl ⟨rfl, R, hM⟩)
      exact AllReadyH.nil
    exact AllReadyH.nil
  exact AllReadyH.nil
set_option maxRecDepth 10000 in
set_option maxHeartbeats 8000000 in
theorem event_no (p : Nat) (l : List UInt8) (d : Bool) (v : Value) (w : World) (R : Rdr w p l d v) (hk : 21 ≤ l.length) (hl : l.length ≤ 140737488351232) (hr : ¬ okR l) :
    Calls Tryd.prog 38 #[.pointer (some ⟨p, 0, none⟩)] w fun x w' => (∃ E : Ev, x = .returned (.tuple #[.agg (ec E), .bool false])) ∧ Rdr w' p (l.drop 21) d v ∧ Moved p w w' := by
  have hM := Moved.refl p w
  have hsz : (txt l).size = l.length := txt_size l
  have h1 := txt_left l 21
  have hk' : (21 : Int) ≤ (l.length : Int) := by omega
  have q1 := nAt_bd l 8 4 (by omega)
  have q2 := nAt_bd l 12 4 (by omega)
  have q3 := nAt_bd l 16 2 (by omega)
  obtain ⟨q10, q11⟩ := q1
  obtain ⟨q20, q21⟩ := q2
  obtain ⟨q30, q31⟩ := q3
  by_cases hok : okE (rdE l)
  · have heq : decide (evB (rdE l) = l.take 21) = false := by simp; exact fun h => hr ⟨hok, h⟩
    have CG : ∀ w, Calls Tryd.prog 12 #[.agg (ec (rdE l))] w fun x w' => x = .returned (.int .i64 0) ∧ Below w.heap.size w w' := fun w => by have := goodEv_any (rdE l) w; rw [goodE_yes hok] at this; exact this
    clear hr
    go_enter Tryd.func38, Tryd.ntmps38
    go_upto_region 11 with (first
      | ((with_reducible refine atOp (.alloc 29) rfl ?_); refine wpList_allocX 2 29 rfl rfl rfl _ ev_zero ?_; intro b2 w2 g2 R2 hb2; have n2 : b2 ≠ p := (fun e => by have := R.lt; omega); replace R := Row.below R hb2; replace hM := hM.trans (Moved.ofBelow hb2))
      | ((with_reducible refine atOp (.alloc 29) rfl ?_); refine wpList_allocX 5 29 rfl rfl rfl _ ev_zero ?_; intro b5 w2 g5 R5 hb2; have n5 : b5 ≠ p := (fun e => by have := R.lt; omega); have n25 := R2.ne g5; replace g5 := Nat.le_trans hM.size g5; replace R2 := R2.below hb2; replace R := Row.below R hb2; replace hM := hM.trans (Moved.ofBelow hb2))
      | ((with_reducible refine atOp (.load 9 (.tmp 8)) rfl ?_); refine wpList_loadS R _ rfl rfl 0 rfl _ rfl ?_)
      | (go_at_call 36; go_fit (num8_any _ (show Rdr _ p (l.drop 0) d v from R) (by omega) hl); rintro x w5 ⟨rfl, R', hM5⟩; replace R := R'; clear R'; replace hM := hM.trans hM5; replace R2 := hM5.row R2 n2; replace R5 := hM5.row R5 n5; clear hM5)
      | (go_at_call 36; go_fit (num4_any _ R (by omega) hl); rintro x w5 ⟨rfl, R', hM5⟩; replace R := R'; clear R'; replace hM := hM.trans hM5; replace R2 := hM5.row R2 n2; replace R5 := hM5.row R5 n5; clear hM5)
      | (go_at_call 36; go_fit (num2_any _ R (by omega) hl); rintro x w5 ⟨rfl, R', hM5⟩; replace R := R'; clear R'; replace hM := hM.trans hM5; replace R2 := hM5.row R2 n2; replace R5 := hM5.row R5 n5; clear hM5)
      | (go_at_call 36; go_fit (num1_any _ R (by omega) hl); rintro x w5 ⟨rfl, R', hM5⟩; replace R := R'; clear R'; replace hM := hM.trans hM5; replace R2 := hM5.row R2 n2; replace R5 := hM5.row R5 n5; clear hM5)
      | (go_at_call 37; refine (takeA_any 2 _ R (by omega) hl).mono ?_; rintro x w5 ⟨rfl, R', hM5⟩; replace R := R'; clear R'; replace hM := hM.trans hM5; replace R2 := hM5.row R2 n2; replace R5 := hM5.row R5 n5; clear hM5)
      | ((with_reducible refine atOp (.store 3 (.tmp 13) (.tmp 12)) rfl ?_); refine wpList_storeF R5 rfl _ _ rfl 0 rfl (wrap64 (nAt l 0 8)) rfl _ rfl (ec ⟨wrap64 (nAt l 0 8), 0, 0, 0, false⟩) rfl ?_; intro w6 R5 t6; replace R2 := t6.row R2 n25; replace R := t6.row R n5.symm; replace hM := hM.turned t6 g5)
      | ((with_reducible refine atOp (.store 3 (.tmp 18) (.tmp 17)) rfl ?_); refine wpList_storeF R5 rfl _ _ rfl 1 rfl (nAt l 8 4 - 167772160 - 1) rfl _ rfl (ec ⟨wrap64 (nAt l 0 8), nAt l 8 4 - 167772160 - 1, 0, 0, false⟩) rfl ?_; intro w6 R5 t6; replace R2 := t6.row R2 n25; replace R := t6.row R n5.symm; replace hM := hM.turned t6 g5)
      | ((with_reducible refine atOp (.store 3 (.tmp 23) (.tmp 22)) rfl ?_); refine wpList_storeF R5 rfl _ _ rfl 2 rfl (nAt l 12 4 - 3405803776 - 1) rfl _ rfl (ec ⟨wrap64 (nAt l 0 8), nAt l 8 4 - 167772160 - 1, nAt l 12 4 - 3405803776 - 1, 0, false⟩) rfl ?_; intro w6 R5 t6; replace R2 := t6.row R2 n25; replace R := t6.row R n5.symm; replace hM := hM.turned t6 g5)
      | ((with_reducible refine atOp (.store 3 (.tmp 28) (.tmp 27)) rfl ?_); refine wpList_storeF R5 rfl _ _ rfl 3 rfl ((nAt l 16 2 - 1024).tdiv 8) rfl _ rfl (ec ⟨wrap64 (nAt l 0 8), nAt l 8 4 - 167772160 - 1, nAt l 12 4 - 3405803776 - 1, (nAt l 16 2 - 1024).tdiv 8, false⟩) rfl ?_; intro w6 R5 t6; replace R2 := t6.row R2 n25; replace R := t6.row R n5.symm; replace hM := hM.turned t6 g5)
      | ((with_reducible refine atOp (.store 4 (.tmp 34) (.tmp 33)) rfl ?_); refine wpList_storeB R5 rfl _ _ rfl 4 rfl (nAt l 20 1 == 2) rfl _ rfl (ec (rdE l)) rfl ?_; intro w6 R5 t6; replace R2 := t6.row R2 n25; replace R := t6.row R n5.symm; replace hM := hM.turned t6 g5)
      | ((with_reducible refine atOp (.load 29 (.tmp 5)) rfl ?_); refine wpList_loadR 29 (.tmp 5) rfl rfl b5 rfl (ec (rdE l)) R5 _ Tryd.underlying29 rfl (ec_info _) ?_)
      | (go_at_call 12; go_fit (CG _); rintro x w5 ⟨rfl, hb5⟩; replace R := Row.below R hb5; replace R2 := R2.below hb5; replace R5 := R5.below hb5; replace hM := hM.trans (Moved.ofBelow hb5)))
    refine wp_region_noPanic ?_
    refine wp_region_held_drew (S := fun W => Row 29 W b5 (ec (rdE l))) (by kernel_rfl) R5 (fun _ => ?_)
    refine wpAnyH_take (i := 0) (v := .agg (ec (rdE l))) rfl (by kernel_rfl) (by kernel_rfl) (by kernel_rfl) (fun _ _ _ h => h) (yields_loadR 29 (.tmp 5) rfl (by kernel_rfl) b5 (by kernel_rfl) (ec (rdE l)) (fun w h => h) _ Tryd.underlying29 rfl (ec_info _)) R5 ?_
    simp only [Act.put, List.getElem_toArray, List.getElem_cons_succ, List.getElem_cons_zero, List.setIfInBounds_toArray, List.set_cons_zero, List.set_cons_succ]
    refine wpAnyH_take (i := 1) (v := .agg (ec (rdE l))) rfl (by kernel_rfl) (by kernel_rfl) (by kernel_rfl) (fun _ _ _ h => h) (yields_loadR 29 (.tmp 5) rfl (by kernel_rfl) b5 (by kernel_rfl) (ec (rdE l)) (fun w h => h) _ Tryd.underlying29 rfl (ec_info _)) R5 ?_
    simp only [Act.put, List.getElem_toArray, List.getElem_cons_succ, List.getElem_cons_zero, List.setIfInBounds_toArray, List.set_cons_zero, List.set_cons_succ]
    refine wpAnyH_take (i := 4) (v := .string (txt (l.take 21))) rfl (by kernel_rfl) (by kernel_rfl) (by kernel_rfl) (fun _ _ _ h => h) (Or.inl ⟨by kernel_rfl, by intro w hS; go_simp⟩) R5 ?_
    simp only [Act.put, List.getElem_toArray, List.getElem_cons_succ, List.getElem_cons_zero, List.setIfInBounds_toArray, List.set_cons_zero, List.set_cons_succ]
    refine wpAnyH_ready (rs := [2]) (by kernel_rfl) (by simp) ?_
    refine AllReadyH.cons rfl (fun K hK => ?_) ?_
    · go_simp
      go_at_call 21; refine (putEvent_any (base := 0) (rdE l) _ (Bys.nil _ 0) (Nat.zero_le _) (by simp) hok).mono ?_; rintro x w5 ⟨v5, rfl, hO, hG⟩; replace hG := grew_undrew hG; have hne := Grew.ne hG (by simp [Value.ownBlock]) R2.lt; have hb5 := Grew.below hG (Nat.le_refl _) (fun k hk => by simp [Value.ownBlock] at hk); replace R := Row.below R hb5; replace R2 := R2.below hb5; replace R5 := R5.below hb5; replace hM := hM.trans (Moved.ofBelow hb5)
      go_wp2_with fail
      refine hK.out _ _ R5 (fun _ => ?_)
      clear hK K
      try simp only [Act.put, List.getElem_toArray, List.getElem_cons_succ, List.getElem_cons_zero, List.setIfInBounds_toArray, List.set_cons_zero, List.set_cons_succ]
      refine wpAnyH_ready (rs := [3, 6]) (by kernel_rfl) (by simp) ?_
      refine AllReadyH.cons rfl (fun K hK => ?_) ?_
      · rw [if_pos (by kernel_rfl)]
        refine wp_convB (.tmp 41) rfl _ (by kernel_rfl) (txt (evB (rdE l))) (conv_bys hO (by rw [evB_len]; decide)) ?_
        refine hK.out _ _ R5 (fun _ => ?_)
        clear hK K
        try simp only [Act.put, List.getElem_toArray, List.getElem_cons_succ, List.getElem_cons_zero, List.setIfInBounds_toArray, List.set_cons_zero, List.set_cons_succ]
        refine wpAnyH_take (i := 5) (v := .bool false) rfl (by kernel_rfl) (by kernel_rfl) (by kernel_rfl) (fun _ _ _ h => h) (yields_eqTxt (.tmp 42) (.tmp 43) rfl (by kernel_rfl) (evB (rdE l)) (l.take 21) (by kernel_rfl) (by kernel_rfl) false heq) R5 ?_
        simp only [Act.put, List.getElem_toArray, List.getElem_cons_succ, List.getElem_cons_zero, List.setIfInBounds_toArray, List.set_cons_zero, List.set_cons_succ]
        refine wpAnyH_ready (rs := [6]) (by kernel_rfl) (by simp) ?_
        refine AllReadyH.cons rfl (fun K hK => ?_) ?_
        · rw [if_pos (by kernel_rfl)]
          refine wp_storeR 29 (.tmp 2) (.tmp 39) rfl b2 (by kernel_rfl) (ec (rdE l)) (by kernel_rfl) _ R2 rfl (ec_info _) (ec_one _) ?_; intro w7 R2 t7; replace hO := bys_turned hO hne t7; replace R5 := t7.row R5 n25.symm; replace R := t7.row R n2.symm; replace hM := hM.turned t7 g2
          refine hK.out _ _ R5 (fun _ => ?_)
          clear hK K
          try simp only [Act.put, List.getElem_toArray, List.getElem_cons_succ, List.getElem_cons_zero, List.setIfInBounds_toArray, List.set_cons_zero, List.set_cons_succ]
          refine wpAnyH_take (i := 7) (v := .bool false) rfl (by kernel_rfl) (by kernel_rfl) (by kernel_rfl) (fun _ _ _ h => h) (Or.inl ⟨by kernel_rfl, by intro w hS; go_simp⟩) R5 ?_
          simp only [Act.put, List.getElem_toArray, List.getElem_cons_succ, List.getElem_cons_zero, List.setIfInBounds_toArray, List.set_cons_zero, List.set_cons_succ]
          refine wpAnyH_done (by kernel_rfl) ?_ _
          refine NoPanic.normal ?_
          go_wp2
          ((try simp only [Exit.inBlock, Exit.then]); refine bodyPost_ret (results_row2 (p := 2) (u := 3) rfl _ _ _ _ rfl R2 _ Tryd.underlying29 rfl (ec_info _)) rfl ⟨⟨_, rfl⟩, R, hM⟩)
        exact AllReadyH.nil
      refine AllReadyH.cons rfl (fun K hK => ?_) ?_
      · rw [if_pos (by kernel_rfl)]
        refine wp_storeR 29 (.tmp 2) (.tmp 39) rfl b2 (by kernel_rfl) (ec (rdE l)) (by kernel_rfl) _ R2 rfl (ec_info _) (ec_one _) ?_; intro w7 R2 t7; replace hO := bys_turned hO hne t7; replace R5 := t7.row R5 n25.symm; replace R := t7.row R n2.symm; replace hM := hM.turned t7 g2
        refine hK.out _ _ R5 (fun _ => ?_)
        clear hK K
        try simp only [Act.put, List.getElem_toArray, List.getElem_cons_succ, List.getElem_cons_zero, List.setIfInBounds_toArray, List.set_cons_zero, List.set_cons_succ]
        refine wpAnyH_ready (rs := [3]) (by kernel_rfl) (by simp) ?_
        refine AllReadyH.cons rfl (fun K hK => ?_) ?_
        · rw [if_pos (by kernel_rfl)]
          refine wp_convB (.tmp 41) rfl _ (by kernel_rfl) (txt (evB (rdE l))) (conv_bys hO (by rw [evB_len]; decide)) ?_
          refine hK.out _ _ R5 (fun _ => ?_)
          clear hK K
          try simp only [Act.put, List.getElem_toArray, List.getElem_cons_succ, List.getElem_cons_zero, List.setIfInBounds_toArray, List.set_cons_zero, List.set_cons_succ]
          refine wpAnyH_take (i := 5) (v := .bool false) rfl (by kernel_rfl) (by kernel_rfl) (by kernel_rfl) (fun _ _ _ h => h) (yields_eqTxt (.tmp 42) (.tmp 43) rfl (by kernel_rfl) (evB (rdE l)) (l.take 21) (by kernel_rfl) (by kernel_rfl) false heq) R5 ?_
          simp only [Act.put, List.getElem_toArray, List.getElem_cons_succ, List.getElem_cons_zero, List.setIfInBounds_toArray, List.set_cons_zero, List.set_cons_succ]
          refine wpAnyH_take (i := 7) (v := .bool false) rfl (by kernel_rfl) (by kernel_rfl) (by kernel_rfl) (fun _ _ _ h => h) (Or.inl ⟨by kernel_rfl, by intro w hS; go_simp⟩) R5 ?_
          simp only [Act.put, List.getElem_toArray, List.getElem_cons_succ, List.getElem_cons_zero, List.setIfInBounds_toArray, List.set_cons_zero, List.set_cons_succ]
          refine wpAnyH_done (by kernel_rfl) ?_ _
          refine NoPanic.normal ?_
          go_wp2
          ((try simp only [Exit.inBlock, Exit.then]); refine bodyPost_ret (results_row2 (p := 2) (u := 3) rfl _ _ _ _ rfl R2 _ Tryd.underlying29 rfl (ec_info _)) rfl ⟨⟨_, rfl⟩, R, hM⟩)
        exact AllReadyH.nil
      exact AllReadyH.nil
    exact AllReadyH.nil
  · have CG : ∀ w, Calls Tryd.prog 12 #[.agg (ec (rdE l))] w fun x w' => x = .returned (.int .i64 2) ∧ Below w.heap.size w w' := fun w => by have := goodEv_any (rdE l) w; rw [goodE_no hok] at this; exact this
    clear hr
    go_enter Tryd.func38, Tryd.ntmps38
    go_wp2_with (first
      | ((with_reducible refine atOp (.alloc 29) rfl ?_); refine wpList_allocX 2 29 rfl rfl rfl _ ev_zero ?_; intro b2 w2 g2 R2 hb2; have n2 : b2 ≠ p := (fun e => by have := R.lt; omega); replace R := Row.below R hb2; replace hM := hM.trans (Moved.ofBelow hb2))
      | ((with_reducible refine atOp (.alloc 29) rfl ?_); refine wpList_allocX 5 29 rfl rfl rfl _ ev_zero ?_; intro b5 w2 g5 R5 hb2; have n5 : b5 ≠ p := (fun e => by have := R.lt; omega); have n25 := R2.ne g5; replace g5 := Nat.le_trans hM.size g5; replace R2 := R2.below hb2; replace R := Row.below R hb2; replace hM := hM.trans (Moved.ofBelow hb2))
      | ((with_reducible refine atOp (.load 9 (.tmp 8)) rfl ?_); refine wpList_loadS R _ rfl rfl 0 rfl _ rfl ?_)
      | (go_at_call 36; go_fit (num8_any _ (show Rdr _ p (l.drop 0) d v from R) (by omega) hl); rintro x w5 ⟨rfl, R', hM5⟩; replace R := R'; clear R'; replace hM := hM.trans hM5; replace R2 := hM5.row R2 n2; replace R5 := hM5.row R5 n5; clear hM5)
      | (go_at_call 36; go_fit (num4_any _ R (by omega) hl); rintro x w5 ⟨rfl, R', hM5⟩; replace R := R'; clear R'; replace hM := hM.trans hM5; replace R2 := hM5.row R2 n2; replace R5 := hM5.row R5 n5; clear hM5)
      | (go_at_call 36; go_fit (num2_any _ R (by omega) hl); rintro x w5 ⟨rfl, R', hM5⟩; replace R := R'; clear R'; replace hM := hM.trans hM5; replace R2 := hM5.row R2 n2; replace R5 := hM5.row R5 n5; clear hM5)
      | (go_at_call 36; go_fit (num1_any _ R (by omega) hl); rintro x w5 ⟨rfl, R', hM5⟩; replace R := R'; clear R'; replace hM := hM.trans hM5; replace R2 := hM5.row R2 n2; replace R5 := hM5.row R5 n5; clear hM5)
      | (go_at_call 37; refine (takeA_any 2 _ R (by omega) hl).mono ?_; rintro x w5 ⟨rfl, R', hM5⟩; replace R := R'; clear R'; replace hM := hM.trans hM5; replace R2 := hM5.row R2 n2; replace R5 := hM5.row R5 n5; clear hM5)
      | ((with_reducible refine atOp (.store 3 (.tmp 13) (.tmp 12)) rfl ?_); refine wpList_storeF R5 rfl _ _ rfl 0 rfl (wrap64 (nAt l 0 8)) rfl _ rfl (ec ⟨wrap64 (nAt l 0 8), 0, 0, 0, false⟩) rfl ?_; intro w6 R5 t6; replace R2 := t6.row R2 n25; replace R := t6.row R n5.symm; replace hM := hM.turned t6 g5)
      | ((with_reducible refine atOp (.store 3 (.tmp 18) (.tmp 17)) rfl ?_); refine wpList_storeF R5 rfl _ _ rfl 1 rfl (nAt l 8 4 - 167772160 - 1) rfl _ rfl (ec ⟨wrap64 (nAt l 0 8), nAt l 8 4 - 167772160 - 1, 0, 0, false⟩) rfl ?_; intro w6 R5 t6; replace R2 := t6.row R2 n25; replace R := t6.row R n5.symm; replace hM := hM.turned t6 g5)
      | ((with_reducible refine atOp (.store 3 (.tmp 23) (.tmp 22)) rfl ?_); refine wpList_storeF R5 rfl _ _ rfl 2 rfl (nAt l 12 4 - 3405803776 - 1) rfl _ rfl (ec ⟨wrap64 (nAt l 0 8), nAt l 8 4 - 167772160 - 1, nAt l 12 4 - 3405803776 - 1, 0, false⟩) rfl ?_; intro w6 R5 t6; replace R2 := t6.row R2 n25; replace R := t6.row R n5.symm; replace hM := hM.turned t6 g5)
      | ((with_reducible refine atOp (.store 3 (.tmp 28) (.tmp 27)) rfl ?_); refine wpList_storeF R5 rfl _ _ rfl 3 rfl ((nAt l 16 2 - 1024).tdiv 8) rfl _ rfl (ec ⟨wrap64 (nAt l 0 8), nAt l 8 4 - 167772160 - 1, nAt l 12 4 - 3405803776 - 1, (nAt l 16 2 - 1024).tdiv 8, false⟩) rfl ?_; intro w6 R5 t6; replace R2 := t6.row R2 n25; replace R := t6.row R n5.symm; replace hM := hM.turned t6 g5)
      | ((with_reducible refine atOp (.store 4 (.tmp 34) (.tmp 33)) rfl ?_); refine wpList_storeB R5 rfl _ _ rfl 4 rfl (nAt l 20 1 == 2) rfl _ rfl (ec (rdE l)) rfl ?_; intro w6 R5 t6; replace R2 := t6.row R2 n25; replace R := t6.row R n5.symm; replace hM := hM.turned t6 g5)
      | ((with_reducible refine atOp (.load 29 (.tmp 5)) rfl ?_); refine wpList_loadR 29 (.tmp 5) rfl rfl b5 rfl (ec (rdE l)) R5 _ Tryd.underlying29 rfl (ec_info _) ?_)
      | (go_at_call 12; go_fit (CG _); rintro x w5 ⟨rfl, hb5⟩; replace R := Row.below R hb5; replace R2 := R2.below hb5; replace R5 := R5.below hb5; replace hM := hM.trans (Moved.ofBelow hb5))
      | ((with_reducible refine atOp (.build 29 #[]) rfl ?_); refine wpList_buildZ 29 rfl rfl _ ev_build8 ?_)
      | ((with_reducible refine atOp (.store 29 (.tmp 2) (.tmp 38)) rfl ?_); refine wpList_storeR 29 rfl (.tmp 2) (.tmp 38) rfl b2 rfl (ec noE) rfl _ R2 rfl (ec_info _) (ec_one _) ?_; intro w6 R2 t6; replace R := t6.row R n2.symm; replace hM := hM.turned t6 g2))
    ((try simp only [Exit.inBlock, Exit.then]); refine bodyPost_ret (results_row2 (p := 2) (u := 3) rfl _ _ _ _ rfl R2 _ Tryd.underlying29 rfl (ec_info _)) rfl ⟨⟨_, rfl⟩, R, hM⟩)
end Go.Proofs.YtnhafdkfjjplkaaDoor
