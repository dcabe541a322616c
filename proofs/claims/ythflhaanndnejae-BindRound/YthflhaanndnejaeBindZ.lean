/-
  Two tables that are the same.
-/
import Derived.Test.YthflhaanndnejaeBindAt
import Derived.Test.YthflhaanndnejaePoolE
import Derived.Test.YthflhaanndnejaeBindH
import Derived.Test.YthflhaanndnejaeYieldP
namespace Go.Proofs.Ythflhaanndnejae
open Go.ChangeShapes Go.WideShapes Go.ChangeAt Go.RowKit
set_option linter.unusedSimpArgs false
set_option linter.unusedVariables false

theorem index_runM {w : World} {sl : Value} {ms : List Mp} (hM : MapsAt w sl ms) (j : Nat) (hj : j < ms.length) (w2 : World) : (Instr.indexAt 28 sl (.int .i64 (j : Int))).run Try.prog w2 = .ok (.pointer (some ⟨mb sl, mo sl + 5 * j, none⟩)) w2 := by
  obtain ⟨a0, cap, e, h1, h2, h3⟩ := hM
  have e1 := h1 (by omega)
  generalize mb sl = B at *
  generalize mo sl = O at *
  subst e1
  subst e
  have hn : ((j : Int)).toNat < ms.length := by simpa using hj
  have hjl : (j : Int) < (ms.length : Int) := by omega
  have hs : (sizeOf 33).run Try.prog w2 = .ok 5 w2 := by kernel_rfl
  simp [go_sem, hj, hn, hjl, Try.underlying28, hs]
theorem yields_indexR {ops : Array Oper} {S : World → Prop} {o : Oper} {a : Act} (x y : Operand) (ho : o.op = .indexAddr 28 x y) (hw : Region.wanted o (yielded ops a.tmps) = true) (p i q : Value) (hx : a.eval x = p) (hy : a.eval y = i) (hrun : ∀ w : World, (Instr.indexAt 28 p i).run Try.prog w = .ok q w) : YieldsIf Try.prog ops S o q a :=
  .inl ⟨hw, fun w _ => by unfold execOp; simp only [ho, hx, hy, Sem.run_bind, hrun w, Result.andThen_ok, Sem.run_pure]⟩
theorem yields_neS {ops : Array Oper} {S : World → Prop} {o : Oper} {a : Act} (t : TypeId) (x y : Operand) (ho : o.op = .binOp .neq t x y t) (hw : Region.wanted o (yielded ops a.tmps) = true)
    (xs ys : Array Value) (hx : a.eval x = .agg xs) (hy : a.eval y = .agg ys) (hg : Try.prog.eqGuardType Try.prog.depth t = false) (r q : Bool) (he : ∀ w : World, (Op.equalIn 10000 t (.agg xs) (.agg ys)).run Try.prog w = .ok r w) (hq : (!r) = q) : YieldsIf Try.prog ops S o (.bool q) a :=
  .inl ⟨hw, fun w _ => by
    subst hq
    unfold execOp
    simp only [ho, hx, hy, Sem.run_bind, run_eqGuard_agg w .neq t x y xs ys hg, run_neq_struct, he w, Result.andThen_ok, Sem.run_pure]⟩
theorem yields_loadQ {ops : Array Oper} {S : World → Prop} {o : Oper} {a : Act} (t : TypeId) (x : Operand) (ho : o.op = .load t x) (hw : Region.wanted o (yielded ops a.tmps) = true) (b k : Nat) (hx : a.eval x = .pointer (some ⟨b, k, none⟩)) (l : List Value) (hS : ∀ w, S w → w.rangeAt b k l)
    (d : TypeDesc) (hu : Try.prog.underlying t = some d) (hd : d.isRow = true) (hi : (Try.prog.info? t).map (·.size) = some l.length) : YieldsIf Try.prog ops S o (.agg l.toArray) a :=
  yieldsIf_load_mid (P := Try.prog) (S := S) hw t x ho b k hx l d hS hu hd hi
theorem wpList_loadW {ops : Array Oper} {rest : List Oper} {o : Oper} {a : Act} {w : World} {Q : Exit → Act → World → Prop} (t : TypeId) (x : Operand) (ho : o.op = .load t x) (hw : Region.wanted o (yielded ops a.tmps) = true) (b k : Nat) (hx : a.eval x = .pointer (some ⟨b, k, none⟩)) (l : List Value) (hc : w.rangeAt b k l)
    (d : TypeDesc) (hu : Try.prog.underlying t = some d) (hd : d.isRow = true) (hi : (Try.prog.info? t).map (·.size) = some l.length) (hr : wpList Try.prog ops Q rest (a.put o.dst (.agg l.toArray)) w) : wpList Try.prog ops Q (o :: rest) a w :=
  wpList_step fun K hK => by
    rw [if_pos hw]
    exact wp_load_mid t x ho b k hx l d hc hu hd hi (hK _ _ hr)
theorem eqTo_self (f : Nat → Int) (n : Nat) : eqTo f f n = true := (eqTo_iff f f n).2 fun _ _ => rfl
theorem below_drewB {B : Nat} {w0 w : World} (h : Below B w0 w) : Below B w0 w.drew := ⟨h.os, h.tape, h.output, h.size, h.block⟩
attribute [local irreducible] tc pc hc8 mb mo
set_option maxRecDepth 20000 in
set_option maxHeartbeats 2000000 in
theorem same_any (f : Nat → Int) (g : Nat → Bool) (h : Nat → Int) (sl sl2 : Value) (ms : List Mp) (hwF : wfF f) (hwH : wfH h) (w : World) (hM : MapsAt w sl ms) (hM2 : MapsAt w sl2 ms) :
    Calls Try.prog 18 #[.agg (tc f g h sl), .agg (tc f g h sl2)] w fun e w' => e = .returned (.bool true) ∧ Below w.heap.size w w' := by
  have hB := Below.refl w.heap.size w
  have hM0 := hM
  obtain ⟨a0, cap, hsl, -⟩ := hM0
  obtain ⟨n, hn⟩ : ∃ n, n = ms.length := ⟨_, rfl⟩
  rw [← hn] at hsl
  subst hsl
  have HN : Hid (n = ms.length) := hn
  clear hn
  have hlt := hM.lt
  have hlt2 := hM2.lt
  obtain ⟨a1, c1, hsl2, -⟩ := id hM2
  rw [← HN.out] at hsl2
  subst hsl2
  have hnn : ((n : Int) != (n : Int)) = false := by simp
  go_enter Try.func18, Try.ntmps18
  go_wp2_with (first | ((with_reducible refine at_opB (.box 30 (.tmp 0)) rfl ?_); refine wpList_boxR 30 rfl (.tmp 0) rfl _ rfl ?_; intro b2 w1 l2 R2 hb1; replace hB := hB.trans (hb1.mono hB.size)) | ((with_reducible refine at_opB (.box 30 (.tmp 1)) rfl ?_); refine wpList_boxR 30 rfl (.tmp 1) rfl (tc f g h (.slice a1 n c1)) rfl ?_; intro b3 w1 l3 R3 hb1; replace R2 := R2.below hb1; replace hB := hB.trans (hb1.mono hB.size); have hp2 := R2.pool; have hp3 := R3.pool; have hh2 := R2.homes; have hh3 := R3.homes; have k2 : World.cell? _ ⟨b2, 29, none⟩ = some (.slice a0 n cap) := (R2.cell 29).trans (tc_maps _ _ _ _); have k3 : World.cell? _ ⟨b3, 29, none⟩ = some (.slice a1 n c1) := (R3.cell 29).trans (tc_maps _ _ _ _)) | ((with_reducible refine at_opB (.load 26 (.tmp 6)) rfl ?_); refine wpList_loadW 26 (.tmp 6) rfl rfl b2 0 rfl (pc f g).toList hp2 _ Try.underlying26 rfl (by simpa using pc_info f g) ?_; (try simp only [Array.toArray_toList])) | ((with_reducible refine at_opB (.load 26 (.tmp 8)) rfl ?_); refine wpList_loadW 26 (.tmp 8) rfl rfl b3 0 rfl (pc f g).toList hp3 _ Try.underlying26 rfl (by simpa using pc_info f g) ?_; (try simp only [Array.toArray_toList])) | ((with_reducible refine at_opB (.binOp .neq 26 (.tmp 7) (.tmp 9) 26) rfl ?_); refine wpList_neS 26 (.tmp 7) (.tmp 9) rfl rfl (pc f g) (pc f g) (by kernel_rfl) (by kernel_rfl) Try.eqGuardType26 _ false (run_eqp f g hwF _) rfl ?_) | ((with_reducible refine at_opB (.load 27 (.tmp 12)) rfl ?_); refine wpList_loadW 27 (.tmp 12) rfl ?_ b2 21 rfl (hcl h) hh2 _ Try.underlying27 rfl (home_info _) ?_; · kernel_rfl) | ((with_reducible refine at_opB (.load 27 (.tmp 14)) rfl ?_); refine wpList_loadW 27 (.tmp 14) rfl ?_ b3 21 rfl (hcl h) hh3 _ Try.underlying27 rfl (home_info _) ?_; · kernel_rfl) | ((with_reducible refine at_opB (.binOp .neq 27 (.tmp 13) (.tmp 15) 27) rfl ?_); refine wpList_neS 27 (.tmp 13) (.tmp 15) rfl ?_ (hc8 h) (hc8 h) (by kernel_rfl) (by kernel_rfl) Try.eqGuardType27 _ false (eq_home h h hwH hwH _) (by rw [eqTo_self]; rfl) ?_; · kernel_rfl))
  clear hp2 hp3 hh2 hh3 k2 k3
  go_loopw [5] (fun i W => ∃ j : Nat, j ≤ ms.length ∧ i = .int .i64 j ∧ Below w.heap.size w W ∧ Row 30 W b2 (tc f g h (.slice a0 n cap)) ∧ Row 30 W b3 (tc f g h (.slice a1 n c1))) (fun i _ => n - (intOf i).toNat)
  case atStart => exact ⟨0, by omega, rfl, hB, R2, R3⟩
  case round =>
    clear hB R2 R3
    obtain ⟨j, hj, rfl, hB, R2, R3⟩ := hrel
    have k2 : World.cell? _ ⟨b2, 29, none⟩ = some (.slice a0 n cap) := (R2.cell 29).trans (tc_maps _ _ _ _)
    by_cases hlj : j < ms.length
    · have hjn : (j : Int) < (n : Int) := by have := HN.out; omega
      have hjw := wrap_next hlj hM.len
      obtain ⟨o, hm⟩ : ∃ o, ms[j] = o := ⟨_, rfl⟩
      have r2 := (hM.keep hB hlt).at j hlj hm
      have r3 := (hM2.keep hB hlt2).at j hlj hm
      have I2 := fun w2 => index_runM hM j hlj w2
      have I3 := fun w2 => index_runM hM2 j hlj w2
      clear hm
      go_upto_region 6 with fail
      clear k2
      refine wp_region_noPanic ?_
      refine wp_region_held_drew (S := fun W => Row 30 W b2 (tc f g h (.slice a0 n cap)) ∧ Row 30 W b3 (tc f g h (.slice a1 n c1)) ∧ W.rangeAt (mb (.slice a0 n cap)) (mo (.slice a0 n cap) + 5 * j) (mcl o) ∧ W.rangeAt (mb (.slice a1 n c1)) (mo (.slice a1 n c1) + 5 * j) (mcl o)) (by kernel_rfl) ⟨R2, R3, r2, r3⟩ (fun _ => ?_)
      refine wpAnyH_take (i := 0) (v := .pointer (some ⟨b2, 29, none⟩)) rfl (by kernel_rfl) (by kernel_rfl) (by kernel_rfl) (fun _ _ _ h => h) (Or.inl ⟨by kernel_rfl, by intro w hS; go_simp⟩) ⟨R2, R3, r2, r3⟩ ?_
      simp only [Act.put, List.getElem_toArray, List.getElem_cons_succ, List.getElem_cons_zero, List.setIfInBounds_toArray, List.set_cons_zero, List.set_cons_succ]
      refine wpAnyH_take (i := 1) (v := .slice a0 n cap) rfl (by kernel_rfl) (by kernel_rfl) (by kernel_rfl) (fun _ _ _ h => h) (Or.inl ⟨by kernel_rfl, by intro w hS; have hc := (hS.1.cell 29).trans (tc_maps _ _ _ _); go_simp⟩) ⟨R2, R3, r2, r3⟩ ?_
      simp only [Act.put, List.getElem_toArray, List.getElem_cons_succ, List.getElem_cons_zero, List.setIfInBounds_toArray, List.set_cons_zero, List.set_cons_succ]
      refine wpAnyH_take (i := 2) (v := .int .i64 (j : Int)) rfl (by kernel_rfl) (by kernel_rfl) (by kernel_rfl) (fun _ _ _ h => h) (Or.inl ⟨by kernel_rfl, by intro w hS; go_simp⟩) ⟨R2, R3, r2, r3⟩ ?_
      simp only [Act.put, List.getElem_toArray, List.getElem_cons_succ, List.getElem_cons_zero, List.setIfInBounds_toArray, List.set_cons_zero, List.set_cons_succ]
      refine wpAnyH_take (i := 3) (v := .pointer (some ⟨mb (.slice a0 n cap), mo (.slice a0 n cap) + 5 * j, none⟩)) rfl (by kernel_rfl) (by kernel_rfl) (by kernel_rfl) (fun _ _ _ h => h) (yields_indexR (.tmp 35) (.tmp 36) rfl (by kernel_rfl) _ _ _ (by kernel_rfl) (by kernel_rfl) I2) ⟨R2, R3, r2, r3⟩ ?_
      simp only [Act.put, List.getElem_toArray, List.getElem_cons_succ, List.getElem_cons_zero, List.setIfInBounds_toArray, List.set_cons_zero, List.set_cons_succ]
      refine wpAnyH_take (i := 4) (v := .agg (mcl o).toArray) rfl (by kernel_rfl) (by kernel_rfl) (by kernel_rfl) (fun _ _ _ h => h) (yields_loadQ 33 (.tmp 37) rfl (by kernel_rfl) _ _ (by kernel_rfl) (mcl o) (fun _ h => h.2.2.1) _ Try.underlying33 rfl (mcl_info o)) ⟨R2, R3, r2, r3⟩ ?_
      simp only [Act.put, List.getElem_toArray, List.getElem_cons_succ, List.getElem_cons_zero, List.setIfInBounds_toArray, List.set_cons_zero, List.set_cons_succ]
      refine wpAnyH_take (i := 5) (v := .pointer (some ⟨b3, 29, none⟩)) rfl (by kernel_rfl) (by kernel_rfl) (by kernel_rfl) (fun _ _ _ h => h) (Or.inl ⟨by kernel_rfl, by intro w hS; go_simp⟩) ⟨R2, R3, r2, r3⟩ ?_
      simp only [Act.put, List.getElem_toArray, List.getElem_cons_succ, List.getElem_cons_zero, List.setIfInBounds_toArray, List.set_cons_zero, List.set_cons_succ]
      refine wpAnyH_take (i := 6) (v := .slice a1 n c1) rfl (by kernel_rfl) (by kernel_rfl) (by kernel_rfl) (fun _ _ _ h => h) (Or.inl ⟨by kernel_rfl, by intro w hS; have hc := (hS.2.1.cell 29).trans (tc_maps _ _ _ _); go_simp⟩) ⟨R2, R3, r2, r3⟩ ?_
      simp only [Act.put, List.getElem_toArray, List.getElem_cons_succ, List.getElem_cons_zero, List.setIfInBounds_toArray, List.set_cons_zero, List.set_cons_succ]
      refine wpAnyH_take (i := 7) (v := .int .i64 (j : Int)) rfl (by kernel_rfl) (by kernel_rfl) (by kernel_rfl) (fun _ _ _ h => h) (Or.inl ⟨by kernel_rfl, by intro w hS; go_simp⟩) ⟨R2, R3, r2, r3⟩ ?_
      simp only [Act.put, List.getElem_toArray, List.getElem_cons_succ, List.getElem_cons_zero, List.setIfInBounds_toArray, List.set_cons_zero, List.set_cons_succ]
      refine wpAnyH_take (i := 8) (v := .pointer (some ⟨mb (.slice a1 n c1), mo (.slice a1 n c1) + 5 * j, none⟩)) rfl (by kernel_rfl) (by kernel_rfl) (by kernel_rfl) (fun _ _ _ h => h) (yields_indexR (.tmp 40) (.tmp 41) rfl (by kernel_rfl) _ _ _ (by kernel_rfl) (by kernel_rfl) I3) ⟨R2, R3, r2, r3⟩ ?_
      simp only [Act.put, List.getElem_toArray, List.getElem_cons_succ, List.getElem_cons_zero, List.setIfInBounds_toArray, List.set_cons_zero, List.set_cons_succ]
      refine wpAnyH_take (i := 9) (v := .agg (mcl o).toArray) rfl (by kernel_rfl) (by kernel_rfl) (by kernel_rfl) (fun _ _ _ h => h) (yields_loadQ 33 (.tmp 42) rfl (by kernel_rfl) _ _ (by kernel_rfl) (mcl o) (fun _ h => h.2.2.2) _ Try.underlying33 rfl (mcl_info o)) ⟨R2, R3, r2, r3⟩ ?_
      simp only [Act.put, List.getElem_toArray, List.getElem_cons_succ, List.getElem_cons_zero, List.setIfInBounds_toArray, List.set_cons_zero, List.set_cons_succ]
      refine wpAnyH_take (i := 10) (v := .bool false) rfl (by kernel_rfl) (by kernel_rfl) (by kernel_rfl) (fun _ _ _ h => h) (yields_neS 33 (.tmp 38) (.tmp 43) rfl (by kernel_rfl) (mc o) (mc o) (by kernel_rfl) (by kernel_rfl) Try.eqGuardType33 _ _ (fun w => eq_map o o w) (by simp)) ⟨R2, R3, r2, r3⟩ ?_
      simp only [Act.put, List.getElem_toArray, List.getElem_cons_succ, List.getElem_cons_zero, List.setIfInBounds_toArray, List.set_cons_zero, List.set_cons_succ]
      refine wpAnyH_done (by kernel_rfl) ?_ _
      refine NoPanic.normal ?_
      replace R2 : Row 30 (World.drew _) b2 _ := R2; replace R3 : Row 30 (World.drew _) b3 _ := R3; replace hB := below_drewB hB
      go_wp2
      go_roundw
      case rel => first | exact ⟨j + 1, by omega, by go_num, hB, R2, R3⟩ | ((repeat apply Exists.intro); exact ⟨⟨j + 1, by omega, by go_num, hB, R2, R3⟩, rfl⟩)
      case measure => (first | rw [hjw] | skip); exact meas_next (HN.out.symm ▸ hlj)
    · have hjn : (n : Int) ≤ (j : Int) := by have := HN.out; omega
      clear hj hlj
      go_wp2
      go_ret
      exact ⟨rfl, hB⟩
end Go.Proofs.Ythflhaanndnejae
