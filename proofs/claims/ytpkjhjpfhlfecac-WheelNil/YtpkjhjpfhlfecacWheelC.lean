/-
  The first timer of a wheel that New has made; does the wheel answer at all.
-/
import Derived.Test.YtpkjhjpfhlfecacWheelB
namespace Go.Proofs.Ytpkjhjpfhlfecac
open Go.ChangeShapes Go.WideShapes Go.ChangeAt Go.RowKit Go.Maps
set_option linter.unusedSimpArgs false
set_option linter.unusedVariables false

theorem below_grown2 {B bm : Nat} {w0 w w' : World} (h : Below B w0 w) (hle : B < w.heap.size) (hg : w.drew.grownBy w' (some bm)) (hlt : B < bm) : Below B w0 w' :=
  ⟨hg.os.trans h.os, hg.tape.trans h.tape, hg.output.trans h.output, Nat.le_trans h.size hg.size, fun k hk => (hg.block k (Nat.lt_trans hk hle) (by simp; omega)).trans (h.block k hk)⟩
theorem WRow.grown2 {w w' : World} {b bm : Nat} {cs : Array Value} (h : WRow w b cs) (hg : w.drew.grownBy w' (some bm)) (hne : b ≠ bm) : WRow w' b cs := (hg.block b h.lt (by simp; exact hne)).trans h
set_option maxRecDepth 10000 in
set_option maxHeartbeats 4000000 in
theorem arm_new (b : Nat) (w : World) (hW : WRow w b (wcs 3 (.map none) nilL)) :
    Calls Try.prog 17 #[.pointer (some ⟨b, 0, none⟩), .int .i64 1, .int .i64 9] w fun e w' => e = .returned (.int .i64 0) ∧ ∃ L bm, WRow w' b (wcs 3 (.map (some bm)) L) ∧ w'.ownsMap Try.prog 3 (plainElem Try.prog 3) bm 1 (DataW.put (H := Unit) (.map []) (.int .i64 1) (.lit (.int .i64 9))) ∧ Below b w w' := by
  have hkey := keyOf_int_mk (P := Try.prog) (q := .i64) (a := 1) Try.underlying3 (by decide)
  have hlook := look_nil (w := w) true lawI Try.underlying48 (zeroI _) hkey
  have hlen := len_nil (P := Try.prog) (w := w) Try.underlying48 3
  have hmm := @run_makeMap Try.prog
  have hnn : ∀ w : World, (binOp .eql 48 (.map none) (.map none)).run Try.prog w = .ok (.bool true) w := fun _ => by kernel_rfl
  have c1 : w.cell? ⟨b, 1, none⟩ = some (.map none) := (hW.cell 1).trans (wcs_due _ _ _)
  have f1 := hW.free 1
  have hlt0 := hW.lt
  have hD : (DataW.put (H := Unit) (.map []) (.int .i64 1) (.lit (.int .i64 9))).atKey (.int .i64 1) (.lit (.int .i64 0)) = .lit (.int .i64 9) := by rfl
  have CT := fun w => isTime_any 9 w
  have c1' : (w.alloc (.map #[] 0)).cell? ⟨b, 1, none⟩ = some (.map none) := ((hW.alloc (.map #[] 0)).cell 1).trans (wcs_due _ _ _)
  have f1' : (w.alloc (.map #[] 0)).frozen? ⟨b, 1, none⟩ = false := (hW.alloc (.map #[] 0)).free 1
  have hown : ((w.setCell ⟨b, 1, none⟩ (.map (some w.heap.size))).alloc (.map #[] 0)).ownsMap (H := Unit) Try.prog 3 (plainElem Try.prog 3) w.heap.size 0 (.map []) := by
    have h := World.ownsMap_made (H := Unit) (w.setCell ⟨b, 1, none⟩ (.map (some w.heap.size))) Try.prog 3 (plainElem Try.prog 3)
    have e : (w.setCell ⟨b, 1, none⟩ (.map (some w.heap.size))).heap.size = w.heap.size := by simp
    rw [e] at h
    exact h
  have hB : Below b w ((w.setCell ⟨b, 1, none⟩ (.map (some w.heap.size))).alloc (.map #[] 0)) := ((Below.refl b w).setCell (p := ⟨b, 1, none⟩) (Nat.le_refl _) (.map (some w.heap.size))).alloc (by simp; exact Nat.le_of_lt hlt0) _
  have hne : b ≠ w.heap.size := by omega
  replace hW := (hW.set (o := 1) (v := .map (some w.heap.size))).alloc (.map #[] 0)
  rw [wcs_setDue] at hW
  have hlt := hW.lt
  go_enter Try.func17, Try.ntmps17
  go_wp2_with (go_at_call 46; go_fit (CT _); rintro e w' ⟨rfl, hw⟩; rw [hw]; clear hw w')
  refine wp_region_noPanic ?_
  refine wp_region_held_drew (S := fun W => WRow W b (wcs 3 (.map (some w.heap.size)) nilL)) (by kernel_rfl) hW (fun _ => ?_)
  refine wpAnyH_take (i := 0) (v := (.pointer (some ⟨b, 0, none⟩))) rfl (by kernel_rfl) (by kernel_rfl) (by kernel_rfl) (fun _ _ _ h => h) (Or.inl ⟨by kernel_rfl, by intro w hS; go_simp⟩) hW ?_
  simp only [Act.put, List.getElem_toArray, List.getElem_cons_succ, List.getElem_cons_zero, List.setIfInBounds_toArray, List.set_cons_zero, List.set_cons_succ]
  refine wpAnyH_take (i := 1) (v := (.pointer (some ⟨b, 0, none⟩))) rfl (by kernel_rfl) (by kernel_rfl) (by kernel_rfl) (fun _ _ _ h => h) (Or.inl ⟨by kernel_rfl, by intro w hS; go_simp⟩) hW ?_
  simp only [Act.put, List.getElem_toArray, List.getElem_cons_succ, List.getElem_cons_zero, List.setIfInBounds_toArray, List.set_cons_zero, List.set_cons_succ]
  refine wpAnyH_take (i := 2) (v := (.pointer (some ⟨b, 1, none⟩))) rfl (by kernel_rfl) (by kernel_rfl) (by kernel_rfl) (fun _ _ _ h => h) (Or.inl ⟨by kernel_rfl, by intro w hS; go_simp⟩) hW ?_
  simp only [Act.put, List.getElem_toArray, List.getElem_cons_succ, List.getElem_cons_zero, List.setIfInBounds_toArray, List.set_cons_zero, List.set_cons_succ]
  refine wpAnyH_take (i := 3) (v := .map (some w.heap.size)) rfl (by kernel_rfl) (by kernel_rfl) (by kernel_rfl) (fun _ _ _ h => h) (Or.inl ⟨by kernel_rfl, by intro w0 hS; have hc : w0.cell? ⟨b, 1, none⟩ = some (.map (some w.heap.size)) := (hS.cell 1).trans (wcs_due _ _ _); go_simp⟩) hW ?_
  simp only [Act.put, List.getElem_toArray, List.getElem_cons_succ, List.getElem_cons_zero, List.setIfInBounds_toArray, List.set_cons_zero, List.set_cons_succ]
  refine wpAnyH_take (i := 4) (v := .int .i64 1) rfl (by kernel_rfl) (by kernel_rfl) (by kernel_rfl) (fun _ _ _ h => h) (Or.inl ⟨by kernel_rfl, by intro w hS; go_simp⟩) hW ?_
  simp only [Act.put, List.getElem_toArray, List.getElem_cons_succ, List.getElem_cons_zero, List.setIfInBounds_toArray, List.set_cons_zero, List.set_cons_succ]
  refine wpAnyH_take (i := 5) (v := .int .i64 9) rfl (by kernel_rfl) (by kernel_rfl) (by kernel_rfl) (fun _ _ _ h => h) (Or.inl ⟨by kernel_rfl, by intro w hS; go_simp⟩) hW ?_
  simp only [Act.put, List.getElem_toArray, List.getElem_cons_succ, List.getElem_cons_zero, List.setIfInBounds_toArray, List.set_cons_zero, List.set_cons_succ]
  refine wpAnyH_take (i := 6) (v := (.pointer (some ⟨b, 0, none⟩))) rfl (by kernel_rfl) (by kernel_rfl) (by kernel_rfl) (fun _ _ _ h => h) (Or.inl ⟨by kernel_rfl, by intro w hS; go_simp⟩) hW ?_
  simp only [Act.put, List.getElem_toArray, List.getElem_cons_succ, List.getElem_cons_zero, List.setIfInBounds_toArray, List.set_cons_zero, List.set_cons_succ]
  refine wpAnyH_take (i := 7) (v := (.pointer (some ⟨b, 0, none⟩))) rfl (by kernel_rfl) (by kernel_rfl) (by kernel_rfl) (fun _ _ _ h => h) (Or.inl ⟨by kernel_rfl, by intro w hS; go_simp⟩) hW ?_
  simp only [Act.put, List.getElem_toArray, List.getElem_cons_succ, List.getElem_cons_zero, List.setIfInBounds_toArray, List.set_cons_zero, List.set_cons_succ]
  refine wpAnyH_take (i := 8) (v := (.pointer (some ⟨b, 0, none⟩))) rfl (by kernel_rfl) (by kernel_rfl) (by kernel_rfl) (fun _ _ _ h => h) (Or.inl ⟨by kernel_rfl, by intro w hS; go_simp⟩) hW ?_
  simp only [Act.put, List.getElem_toArray, List.getElem_cons_succ, List.getElem_cons_zero, List.setIfInBounds_toArray, List.set_cons_zero, List.set_cons_succ]
  refine wpAnyH_take (i := 9) (v := .int .i64 3) rfl (by kernel_rfl) (by kernel_rfl) (by kernel_rfl) (fun _ _ _ h => h) (Or.inl ⟨by kernel_rfl, by intro w hS; have hc : w.cell? ⟨b, 0, none⟩ = some (.int .i64 3) := (hS.cell 0).trans (wcs_now _ _ _); go_simp⟩) hW ?_
  simp only [Act.put, List.getElem_toArray, List.getElem_cons_succ, List.getElem_cons_zero, List.setIfInBounds_toArray, List.set_cons_zero, List.set_cons_succ]
  refine wpAnyH_take (i := 10) (v := .int .i64 9) rfl (by kernel_rfl) (by kernel_rfl) (by kernel_rfl) (fun _ _ _ h => h) (Or.inl ⟨by kernel_rfl, by intro w hS; go_simp⟩) hW ?_
  simp only [Act.put, List.getElem_toArray, List.getElem_cons_succ, List.getElem_cons_zero, List.setIfInBounds_toArray, List.set_cons_zero, List.set_cons_succ]
  refine wpAnyH_ready (rs := [11]) (by kernel_rfl) (by simp) ?_
  refine AllReadyH.cons rfl (fun K hK => ?_) ?_
  · rw [if_pos (by kernel_rfl)]
    refine wp_mapUpdate_own _ _ _ _ 48 rfl 3 3 lawI Try.underlying48 (plainElem Try.prog 3) w.heap.size 0 (.map []) rfl hown.drew (by unfold maxLen; omega) _ _ _ rfl rfl hkey _ [] (plainElem_int Try.underlying3 (by decide)) ?_; intro w1 hown1 hg1; replace hB := below_grown2 hB hlt hg1 hlt0; replace hW := hW.grown2 hg1 hne
    refine hK.out _ _ hW (fun _ => ?_)
    clear hK K
    try simp only [Act.put, List.getElem_toArray, List.getElem_cons_succ, List.getElem_cons_zero, List.setIfInBounds_toArray, List.set_cons_zero, List.set_cons_succ]
    refine wpAnyH_done (by kernel_rfl) ?_ _
    refine NoPanic.normal ?_
    go_wp2_with (go_at_call 53; refine (putIn_new b w.heap.size _ hW hown1 hD).mono ?_; rintro e w2 ⟨rfl, ⟨L2, hW2⟩, hown2, hB2⟩)
    go_ret
    exact ⟨rfl, _, _, hW2, hown2, hB.trans hB2⟩
  exact AllReadyH.nil
theorem wpList_build_wheel {ops : Array Oper} {rest : List Oper} {o : Oper} {a : Act} {w : World} {Q : Exit → Act → World → Prop} (hgd : o.guard = none) (x : Operand) (ho : o.op = .build 76 #[(0, x)]) (n : Int) (hx : a.eval x = .int .i64 n)
    (hr : wpList Try.prog ops Q rest (a.put o.dst (.agg (wcs n (.map none) nilL))) w) : wpList Try.prog ops Q (o :: rest) a w :=
  wpList_plain hgd fun K hK => by
    have hb := run_build (P := Try.prog) w 76 #[(0, .int .i64 n)] _ (wheel_built n)
    unfold Oper.wp execOp
    simp only [ho, List.map_toArray, List.map_cons, List.map_nil, hx, Sem.run_bind, hb, Result.andThen_ok, Sem.run_pure]
    exact hK _ _ hr
theorem wpList_box_wheel {ops : Array Oper} {rest : List Oper} {o : Oper} {a : Act} {w : World} {Q : Exit → Act → World → Prop} (hgd : o.guard = none) (x : Operand) (ho : o.op = .box 76 x) (cs : Array Value) (hx : a.eval x = .agg cs)
    (hr : wpList Try.prog ops Q rest (a.put o.dst (.pointer (some ⟨w.heap.size, 0, none⟩))) (w.alloc (.cells cs 76))) : wpList Try.prog ops Q (o :: rest) a w :=
  wpList_plain hgd fun K hK => by
    unfold Oper.wp execOp
    simp only [ho, hx, Instr.box, newVar, Value.cells]
    simp [go_sem]
    exact hK _ _ hr
theorem new_3 (w : World) : Calls Try.prog 23 #[.int .i64 3] w fun e w' => e = .returned (.tuple #[.pointer (some ⟨w.heap.size, 0, none⟩), .int .i64 0]) ∧ w' = w.alloc (.cells (wcs 3 (.map none) nilL) 76) := by
  have CT := fun w => isTime_any 3 w
  go_enter Try.func23, Try.ntmps23
  go_wp2_with (first
    | (go_at_call 46; go_fit (CT _); rintro e w' ⟨rfl, hw⟩; rw [hw]; clear hw w')
    | (refine wpList_build_wheel rfl _ rfl 3 rfl ?_)
    | (refine wpList_box_wheel rfl _ rfl _ rfl ?_))
  go_ret2
  exact ⟨rfl, rfl⟩
theorem now_at (b : Nat) (n : Int) (w : World) (c0 : w.cell? ⟨b, 0, none⟩ = some (.int .i64 n)) : Calls Try.prog 19 #[.pointer (some ⟨b, 0, none⟩)] w fun e w' => e = .returned (.int .i64 n) ∧ w' = w := by
  go_enter Try.func19, Try.ntmps19
  go_wp2
  go_ret
  exact ⟨rfl, rfl⟩
theorem many_at {D : DataW Unit} {n : Nat} (b bm : Nat) (w : World) (c1 : w.cell? ⟨b, 1, none⟩ = some (.map (some bm))) (hown : w.ownsMap Try.prog 3 (plainElem Try.prog 3) bm n D) : Calls Try.prog 20 #[.pointer (some ⟨b, 0, none⟩)] w fun e w' => e = .returned (.int .i64 (Maps.size D)) ∧ w' = w := by
  have hl := hown.len (t := 48) (e := 3) Try.underlying48 3
  go_enter Try.func20, Try.ntmps20
  go_wp2
  go_ret
  exact ⟨rfl, rfl⟩
set_option maxRecDepth 10000 in
set_option maxHeartbeats 4000000 in
theorem turnsLaw_any (w : World) : Calls Try.prog 21 #[] w fun e w' => e = .returned (.bool true) ∧ Below w.heap.size w w' := by
  have C1 := fun w => new_3 w
  have hW := WRow.new w (wcs 3 (.map none) nilL)
  have hB : Below w.heap.size w (w.alloc (.cells (wcs 3 (.map none) nilL) 76)) := (Below.refl _ _).alloc (Nat.le_refl _) _
  have c0 : (w.alloc (.cells (wcs 3 (.map none) nilL) 76)).cell? ⟨w.heap.size, 0, none⟩ = some (.int .i64 3) := (hW.cell 0).trans (wcs_now _ _ _)
  have hsz : Maps.size (DataW.put (H := Unit) (.map []) (.int .i64 1) (.lit (.int .i64 9))) = 1 := rfl
  go_enter Try.func21, Try.ntmps21
  go_wp2_with (first
    | (go_at_call 23; go_fit (C1 _); rintro e w' ⟨rfl, hw⟩; rw [hw]; clear hw w')
    | (go_at_call 19; refine (now_at _ 3 _ c0).mono ?_; rintro e w' ⟨rfl, hw⟩; rw [hw]; clear hw w')
    | (go_at_call 17; refine (arm_new _ _ hW).mono ?_; rintro e w1 ⟨rfl, L, bm, hW1, hown1, hB1⟩; replace hB := hB.trans hB1; have c1 : w1.cell? ⟨_, 1, none⟩ = some (.map (some bm)) := (hW1.cell 1).trans (wcs_due _ _ _))
    | (go_at_call 20; refine (many_at _ _ _ c1 hown1).mono ?_; rintro e w' ⟨rfl, hw⟩; rw [hw, hsz]; clear hw w'))
  go_ret
  exact ⟨rfl, hB⟩
set_option maxRecDepth 10000 in
set_option maxHeartbeats 4000000 in
theorem turnsKeep_any (w : World) : Calls Try.prog 24 #[] w fun e w' => e = .returned (.bool true) ∧ Below w.heap.size w w' := by
  have C1 := fun w => new_3 w
  have hW := WRow.new w (wcs 3 (.map none) nilL)
  have hB : Below w.heap.size w (w.alloc (.cells (wcs 3 (.map none) nilL) 76)) := (Below.refl _ _).alloc (Nat.le_refl _) _
  have c0 : (w.alloc (.cells (wcs 3 (.map none) nilL) 76)).cell? ⟨w.heap.size, 0, none⟩ = some (.int .i64 3) := (hW.cell 0).trans (wcs_now _ _ _)
  have hsz : Maps.size (DataW.put (H := Unit) (.map []) (.int .i64 1) (.lit (.int .i64 9))) = 1 := rfl
  go_enter Try.func24, Try.ntmps24
  go_wp2_with (first
    | (go_at_call 23; go_fit (C1 _); rintro e w' ⟨rfl, hw⟩; rw [hw]; clear hw w')
    | (go_at_call 19; refine (now_at _ 3 _ c0).mono ?_; rintro e w' ⟨rfl, hw⟩; rw [hw]; clear hw w')
    | (go_at_call 17; refine (arm_new _ _ hW).mono ?_; rintro e w1 ⟨rfl, L, bm, hW1, hown1, hB1⟩; replace hB := hB.trans hB1; have c1 : w1.cell? ⟨_, 1, none⟩ = some (.map (some bm)) := (hW1.cell 1).trans (wcs_due _ _ _))
    | (go_at_call 20; refine (many_at _ _ _ c1 hown1).mono ?_; rintro e w' ⟨rfl, hw⟩; rw [hw, hsz]; clear hw w'))
  go_ret
  exact ⟨rfl, hB⟩

end Go.Proofs.Ytpkjhjpfhlfecac
