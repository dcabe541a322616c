/-
  One message, read.
-/
import Derived.Test.YtnhafdkfjjplkaaDoorRecH2
import Derived.Test.YtnhafdkfjjplkaaDoorRecH3
namespace Go.Proofs.YtnhafdkfjjplkaaDoor
open Go.ChangeShapes Go.WideShapes Go.ChangeAt Go.RowKit
set_option linter.unusedSimpArgs false
set_option linter.unusedVariables false

theorem yields_left {ops : Array Oper} {S : World → Prop} {o : Oper} {a : Act} (x y : Operand) (ho : o.op = .slice 9 x none (some y) none) (hw : Region.wanted o (yielded ops a.tmps) = true) (l : List UInt8) (n : Nat) (hx : a.eval x = .string (txt l)) (hy : a.eval y = .int .i64 (n : Int)) (hn : n ≤ l.length) : YieldsIf Tryd.prog ops S o (.string (txt (l.take n))) a :=
  .inl ⟨hw, fun w _ => by
    have hsz : (txt l).size = l.length := txt_size l
    have h1 := txt_left l n
    have h2 : (n : Int) ≤ (l.length : Int) := by omega
    unfold execOp
    simp only [ho, Option.map_some, Option.map_none, hx, hy]
    simp [go_sem, hsz, h1, h2, hn]⟩
theorem headBad_any (p : Nat) (l : List UInt8) (d : Bool) (v : Value) (w : World) (R : Rdr w p l d v) (hl : l.length ≤ 140737488351232) (hh : headE l = 1) :
    Calls Tryd.prog 33 #[.pointer (some ⟨p, 0, none⟩)] w fun x w' => x = .returned (.tuple #[.agg (hdc 0 0 0 0), .int .i64 1]) ∧ Moved p w w' := by
  refine (head_any p l d v w R hl).mono ?_
  rintro x w' ⟨hM, ⟨_, h, _⟩ | ⟨h, _⟩⟩
  · exact ⟨h, hM⟩
  · rw [hh] at h; simp at h
theorem headOk_any (p : Nat) (l : List UInt8) (d : Bool) (v : Value) (w : World) (R : Rdr w p l d v) (hl : l.length ≤ 140737488351232) (hh : headE l = 0) :
    Calls Tryd.prog 33 #[.pointer (some ⟨p, 0, none⟩)] w fun x w' => x = .returned (.tuple #[.agg (hdc (nAt l 2 2) (nAt l 4 4) (nAt l 8 4) (nAt l 16 2)), .int .i64 0]) ∧ Rdr w' p (l.drop 20) d v ∧ Moved p w w' := by
  refine (head_any p l d v w R hl).mono ?_
  rintro x w' ⟨hM, ⟨h, _, _⟩ | ⟨_, h, R'⟩⟩
  · rw [hh] at h; simp at h
  · exact ⟨h, R', hM⟩
theorem Row_drew {t : TypeId} {w : World} {b : Nat} {cs : Array Value} (h : Row t w b cs) : Row t w.drew b cs := h
theorem Tab_drew {w : World} (h : Tab w) : Tab w.drew := h
theorem EvO_drew {w : World} {base : Nat} {v : Value} {es : List Ev} (h : EvO w base v es) : EvO w.drew base v es := h
theorem moved_undrew {p : Nat} {w w' : World} (h : Moved p w.drew w') : Moved p w w' := ⟨h.os, h.tape, h.output, h.size, h.block⟩
/-- what one message leaves. -/
def Left' (p : Nat) (l : List UInt8) (d : Bool) (es : List Ev) (w : World) (x : Ending) (w' : World) : Prop :=
  Below p w w' ∧ ((x = .returned (.int .i64 (stepM l d es).1) ∧ (stepM l d es).1 ≠ 0) ∨ (x = .returned (.int .i64 0) ∧ ∃ l' d' v' es', stepM l d es = (0, l', d', es') ∧ Rdr w' p l' d' v' ∧ EvO w' (p + 1) v' es' ∧ l'.length < l.length ∧ es'.length ≤ 4294970500))
theorem left_err {p : Nat} {l : List UInt8} {d : Bool} {es : List Ev} {w w' : World} {E : Int} {r : List UInt8 × Bool × List Ev} (h : stepM l d es = (E, r)) (h0 : E ≠ 0) (hB : Below p w w') : Left' p l d es w (.returned (.int .i64 E)) w' :=
  ⟨hB, .inl ⟨by rw [h], by rw [h]; exact h0⟩⟩
theorem tab_turned {w w' : World} {b : Nat} (h : Tab w) (t : Turned b w w') (hb : b ≠ 0) : Tab w' := fun j v hv => by
  have := h j v hv
  unfold World.cell? at *
  rw [t.other 0 (fun e => hb e.symm)]
  exact this
set_option maxRecDepth 10000 in
set_option maxHeartbeats 16000000 in
theorem messageM_any (p : Nat) (l : List UInt8) (d : Bool) (v : Value) (es : List Ev) (w : World) (R : Rdr w p l d v) (hE : EvO w (p + 1) v es) (hT : Tab w) (hp : p ≠ 0) (hl : l.length ≤ 140737488351232) (hes : es.length ≤ 4294970500) :
    Calls Tryd.prog 27 #[.pointer (some ⟨p, 0, none⟩)] w (Left' p l d es w) := by
  have hB := Below.refl p w
  have hpl : p ≤ w.heap.size := Nat.le_of_lt R.lt
  have hp0 : 0 < p := by omega
  obtain ⟨sa, sc, hsl⟩ := hE.slice
  rcases headE_bd l with hh | hh
  case inr =>
    have HS : Hid (stepM l d es = (1, [], false, [])) := by show _ = _; unfold stepM; rw [if_pos (by rw [hh]; decide), hh]
    go_enter Tryd.func27, Tryd.ntmps27
    go_wp2_with (first
      | ((with_reducible refine atOp (.load 9 (.tmp 8)) rfl ?_); refine wpList_loadS R _ rfl rfl 0 rfl (txt l) rfl ?_)
      | (go_at_call 33; refine (headBad_any p l _ _ _ R hl hh).mono ?_; rintro x w5 ⟨rfl, hM5⟩; have hRl := Nat.lt_of_lt_of_le R.lt hM5.size; replace hE := hE.moved hM5 (by omega); replace hT := hM5.tab hT hp; replace hB := hB.trans (hM5.below (Nat.le_trans hpl hB.size) (Nat.le_refl _)); clear hM5)
      | ((with_reducible refine atOp (.alloc 71) rfl ?_); refine wpList_allocX 4 71 rfl rfl rfl _ head_zero ?_; intro b4 w2 g4 R4 hb2; have n4 : b4 ≠ p := (fun e => by have := hRl; omega); have gp4 : p ≤ b4 := (by omega); have hne4 := hE.new g4;  replace hE := hE.below hb2; replace hT := hT.below hb2; replace hB := hB.trans (hb2.mono (Nat.le_trans hpl hB.size)))
      | ((with_reducible refine atOp (.store 71 (.tmp 4) (.tmp 13)) rfl ?_); refine wpList_storeR 71 rfl (.tmp 4) (.tmp 13) rfl b4 rfl (hdc 0 0 0 0) rfl _ R4 rfl (hdc_info _ _ _ _) (hdc_one _ _ _ _) ?_; intro w4 R4 t4;  replace hE := hE.turned t4 hne4; replace hT := tab_turned hT t4 (by omega); replace hB := t4.below _ _ gp4 hB))
    go_ret
    exact left_err HS.out (by decide) hB
  case inl =>
    obtain ⟨h16, n10, n20, nle, n1, nk, n18⟩ := headE_ok hh
    have n65 := nAt_bd2 l 2
    have nseq := nAt_bd l 8 4 (by omega)
    obtain ⟨N, hN⟩ : ∃ N : Nat, nAt l 2 2 = (N : Int) := ⟨(nAt l 2 2).toNat, by omega⟩
    have hNl : N ≤ l.length := by omega
    have HN : Hid ((nAt l 2 2).toNat = N) := by show _ = _; omega
    have hN20 : 20 ≤ N := by omega
    have HNN : Hid (nAt l 2 2 = (N : Int)) := hN
    clear hN
    subst hsl
    by_cases hq : nAt l 8 4 = (es.length : Int)
    · have hsq : (nAt l 8 4 != (es.length : Int)) = false := by simpa using hq
      have hlong : longBR (nAt l 8 4) = true := by simp [longBR]; omega
      have hes1 : es.length ≤ 4294967295 := by omega
      by_cases hk2 : nAt l 16 2 = 2
      · have gk : (nAt l 16 2 == 2) = true := by simpa using hk2
        by_cases hm : l.take N = msgB 0 (es.length : Int) 2 (tplB 6)
        · have HS : Hid (stepM l d es = (0, l.drop N, true, es)) := by show _ = _; unfold stepM; rw [if_neg (by rw [hh]; decide), if_neg (by simpa using hq), if_pos hk2, HN.out, if_pos hm]
          have CY := fun (w : World) (R : Rdr w p (l.drop 20) d (.slice sa es.length sc)) (hT : Tab w) => template_yes p l (l.take N) d (.slice sa es.length sc) (nAt l 2 2) (nAt l 4 4) (nAt l 8 4) (nAt l 16 2) w R hT hp n20 nle hl hlong (by rw [hm, hq])
          rw [HN.out] at CY
          clear hq hk2 hm n10 n1 n18 nk
          go_enter Tryd.func27, Tryd.ntmps27
          go_upto_region 5 with (first
                  | ((with_reducible refine atOp (.load 9 (.tmp 8)) rfl ?_); refine wpList_loadS R _ rfl rfl 0 rfl (txt l) rfl ?_)
                  | (go_at_call 33; refine (headOk_any p l _ _ _ R hl hh).mono ?_; rintro x w5 ⟨rfl, R', hM5⟩; replace R := R'; clear R'; have hRl : p < _ := R.lt; replace hE := hE.moved hM5 (by omega); replace hT := hM5.tab hT hp; replace hB := hB.trans (hM5.below (Nat.le_trans hpl hB.size) (Nat.le_refl _)); clear hM5)
                  | ((with_reducible refine atOp (.alloc 71) rfl ?_); refine wpList_allocX 4 71 rfl rfl rfl _ head_zero ?_; intro b4 w2 g4 R4 hb2; have n4 : b4 ≠ p := (fun e => by have := hRl; omega); have gp4 : p ≤ b4 := (by omega); have hne4 := hE.new g4; replace R := Row.below R hb2; replace hE := hE.below hb2; replace hT := hT.below hb2; replace hB := hB.trans (hb2.mono (Nat.le_trans hpl hB.size)))
                  | ((with_reducible refine atOp (.store 71 (.tmp 4) (.tmp 13)) rfl ?_); refine wpList_storeR 71 rfl (.tmp 4) (.tmp 13) rfl b4 rfl (hdc (nAt l 2 2) (nAt l 4 4) (nAt l 8 4) (nAt l 16 2)) rfl _ R4 rfl (hdc_info _ _ _ _) (hdc_one _ _ _ _) ?_; intro w4 R4 t4; replace R := t4.row R n4.symm; replace hE := hE.turned t4 hne4; replace hT := tab_turned hT t4 (by omega); replace hB := t4.below _ _ gp4 hB))
          refine wp_region_noPanic ?_
          refine wp_region_held_drew (S := fun W => Row 71 W b4 (hdc (nAt l 2 2) (nAt l 4 4) (nAt l 8 4) (nAt l 16 2)) ∧ Row 61 W p (rc (l.drop 20) d (.slice sa es.length sc))) (by kernel_rfl) ⟨R4, R⟩ (fun _ => ?_)
          refine wpAnyH_take (i := 0) (v := .pointer (some ⟨b4, 2, none⟩)) rfl (by kernel_rfl) (by kernel_rfl) (by kernel_rfl) (fun _ _ _ h => h) (Or.inl ⟨by kernel_rfl, by intro w hS; go_simp⟩) ⟨R4, R⟩ ?_
          simp only [Act.put, List.getElem_toArray, List.getElem_cons_succ, List.getElem_cons_zero, List.setIfInBounds_toArray, List.set_cons_zero, List.set_cons_succ]
          refine wpAnyH_take (i := 1) (v := .int .i64 (nAt l 8 4)) rfl (by kernel_rfl) (by kernel_rfl) (by kernel_rfl) (fun _ _ _ h => h) (yields_loadI (.tmp 20) rfl (by kernel_rfl) b4 2 (by kernel_rfl) (nAt l 8 4) (fun w h => (h.1.cell 2).trans rfl)) ⟨R4, R⟩ ?_
          simp only [Act.put, List.getElem_toArray, List.getElem_cons_succ, List.getElem_cons_zero, List.setIfInBounds_toArray, List.set_cons_zero, List.set_cons_succ]
          refine wpAnyH_take (i := 2) (v := .pointer (some ⟨p, 0, none⟩)) rfl (by kernel_rfl) (by kernel_rfl) (by kernel_rfl) (fun _ _ _ h => h) (Or.inl ⟨by kernel_rfl, by intro w hS; go_simp⟩) ⟨R4, R⟩ ?_
          simp only [Act.put, List.getElem_toArray, List.getElem_cons_succ, List.getElem_cons_zero, List.setIfInBounds_toArray, List.set_cons_zero, List.set_cons_succ]
          refine wpAnyH_take (i := 3) (v := .pointer (some ⟨p, 0, none⟩)) rfl (by kernel_rfl) (by kernel_rfl) (by kernel_rfl) (fun _ _ _ h => h) (Or.inl ⟨by kernel_rfl, by intro w hS; go_simp⟩) ⟨R4, R⟩ ?_
          simp only [Act.put, List.getElem_toArray, List.getElem_cons_succ, List.getElem_cons_zero, List.setIfInBounds_toArray, List.set_cons_zero, List.set_cons_succ]
          refine wpAnyH_take (i := 4) (v := .pointer (some ⟨p, 2, none⟩)) rfl (by kernel_rfl) (by kernel_rfl) (by kernel_rfl) (fun _ _ _ h => h) (Or.inl ⟨by kernel_rfl, by intro w hS; go_simp⟩) ⟨R4, R⟩ ?_
          simp only [Act.put, List.getElem_toArray, List.getElem_cons_succ, List.getElem_cons_zero, List.setIfInBounds_toArray, List.set_cons_zero, List.set_cons_succ]
          refine wpAnyH_take (i := 5) (v := .slice sa es.length sc) rfl (by kernel_rfl) (by kernel_rfl) (by kernel_rfl) (fun _ _ _ h => h) (yields_loadL (.tmp 24) rfl (by kernel_rfl) p 2 (by kernel_rfl) (.slice sa es.length sc) (fun w h => (h.2.cell 2).trans rfl)) ⟨R4, R⟩ ?_
          simp only [Act.put, List.getElem_toArray, List.getElem_cons_succ, List.getElem_cons_zero, List.setIfInBounds_toArray, List.set_cons_zero, List.set_cons_succ]
          refine wpAnyH_take (i := 6) (v := .int .i64 (es.length : Int)) rfl (by kernel_rfl) (by kernel_rfl) (by kernel_rfl) (fun _ _ _ h => h) (Or.inl ⟨by kernel_rfl, by intro w hS; go_simp⟩) ⟨R4, R⟩ ?_
          simp only [Act.put, List.getElem_toArray, List.getElem_cons_succ, List.getElem_cons_zero, List.setIfInBounds_toArray, List.set_cons_zero, List.set_cons_succ]
          refine wpAnyH_take (i := 7) (v := .bool false) rfl (by kernel_rfl) (by kernel_rfl) (by kernel_rfl) (fun _ _ _ h => h) (yields_nei 3 (.tmp 21) (.tmp 26) (nAt l 8 4) (es.length : Int) false rfl (by kernel_rfl) (by kernel_rfl) (by kernel_rfl) hsq) ⟨R4, R⟩ ?_
          simp only [Act.put, List.getElem_toArray, List.getElem_cons_succ, List.getElem_cons_zero, List.setIfInBounds_toArray, List.set_cons_zero, List.set_cons_succ]
          refine wpAnyH_take (i := 8) (v := .bool false) rfl (by kernel_rfl) (by kernel_rfl) (by kernel_rfl) (fun _ _ _ h => h) (Or.inl ⟨by kernel_rfl, by intro w hS; go_simp⟩) ⟨R4, R⟩ ?_
          simp only [Act.put, List.getElem_toArray, List.getElem_cons_succ, List.getElem_cons_zero, List.setIfInBounds_toArray, List.set_cons_zero, List.set_cons_succ]
          refine wpAnyH_done (by kernel_rfl) ?_ _
          refine NoPanic.normal ?_
          replace R4 : Row 71 (World.drew _) b4 _ := R4; replace R : Row 61 (World.drew _) p _ := R; replace hB := below_drewE hB; replace hE := EvO_drew hE; replace hT := Tab_drew hT
          go_upto_region 8 with (first
              | ((with_reducible refine atOp (.load 3 (.tmp 29)) rfl ?_); refine wpList_loadF R4 _ rfl rfl 3 rfl _ rfl ?_))
          refine wp_region_noPanic ?_
          refine wp_region_held_drew (S := fun W => Row 71 W b4 (hdc (nAt l 2 2) (nAt l 4 4) (nAt l 8 4) (nAt l 16 2))) (by kernel_rfl) R4 (fun _ => ?_)
          refine wpAnyH_take (i := 0) (v := .pointer (some ⟨p, 0, none⟩)) rfl (by kernel_rfl) (by kernel_rfl) (by kernel_rfl) (fun _ _ _ h => h) (Or.inl ⟨by kernel_rfl, by intro w hS; go_simp⟩) R4 ?_
          simp only [Act.put, List.getElem_toArray, List.getElem_cons_succ, List.getElem_cons_zero, List.setIfInBounds_toArray, List.set_cons_zero, List.set_cons_succ]
          refine wpAnyH_take (i := 1) (v := .string (txt l)) rfl (by kernel_rfl) (by kernel_rfl) (by kernel_rfl) (fun _ _ _ h => h) (Or.inl ⟨by kernel_rfl, by intro w hS; go_simp⟩) R4 ?_
          simp only [Act.put, List.getElem_toArray, List.getElem_cons_succ, List.getElem_cons_zero, List.setIfInBounds_toArray, List.set_cons_zero, List.set_cons_succ]
          refine wpAnyH_take (i := 2) (v := .pointer (some ⟨b4, 0, none⟩)) rfl (by kernel_rfl) (by kernel_rfl) (by kernel_rfl) (fun _ _ _ h => h) (Or.inl ⟨by kernel_rfl, by intro w hS; go_simp⟩) R4 ?_
          simp only [Act.put, List.getElem_toArray, List.getElem_cons_succ, List.getElem_cons_zero, List.setIfInBounds_toArray, List.set_cons_zero, List.set_cons_succ]
          refine wpAnyH_take (i := 3) (v := .int .i64 (nAt l 2 2)) rfl (by kernel_rfl) (by kernel_rfl) (by kernel_rfl) (fun _ _ _ h => h) (yields_loadI (.tmp 34) rfl (by kernel_rfl) b4 0 (by kernel_rfl) (nAt l 2 2) (fun w h => (h.cell 0).trans rfl)) R4 ?_
          simp only [Act.put, List.getElem_toArray, List.getElem_cons_succ, List.getElem_cons_zero, List.setIfInBounds_toArray, List.set_cons_zero, List.set_cons_succ]
          refine wpAnyH_take (i := 4) (v := .string (txt (l.take N))) rfl (by kernel_rfl) (by kernel_rfl) (by kernel_rfl) (fun _ _ _ h => h) (yields_left (.tmp 33) (.tmp 35) rfl (by kernel_rfl) l N (by kernel_rfl) (by rw [← HNN.out]; kernel_rfl) hNl) R4 ?_
          simp only [Act.put, List.getElem_toArray, List.getElem_cons_succ, List.getElem_cons_zero, List.setIfInBounds_toArray, List.set_cons_zero, List.set_cons_succ]
          refine wpAnyH_take (i := 5) (v := .agg (hdc (nAt l 2 2) (nAt l 4 4) (nAt l 8 4) (nAt l 16 2))) rfl (by kernel_rfl) (by kernel_rfl) (by kernel_rfl) (fun _ _ _ h => h) (yields_loadR 71 (.tmp 4) rfl (by kernel_rfl) b4 (by kernel_rfl) _ (fun w h => h) _ Tryd.underlying71 rfl (hdc_info _ _ _ _)) R4 ?_
          simp only [Act.put, List.getElem_toArray, List.getElem_cons_succ, List.getElem_cons_zero, List.setIfInBounds_toArray, List.set_cons_zero, List.set_cons_succ]
          refine wpAnyH_ready (rs := [6]) (by kernel_rfl) (by simp) ?_
          refine AllReadyH.cons rfl (fun K hK => ?_) ?_
          · go_simp
            go_at_call 34; refine (CY _ (Row_drew R) (Tab_drew hT)).mono ?_; rintro x w5 ⟨⟨rfl, R⟩, hM5⟩; replace hM5 := moved_undrew hM5; replace R4 := hM5.row R4 n4; replace hE := hE.moved hM5 (by omega); replace hB := hB.trans (hM5.below (Nat.le_trans hpl hB.size) (Nat.le_refl _))
            go_wp2_with fail
            refine hK.out _ _ R4 (fun _ => ?_)
            clear hK K
            try simp only [Act.put, List.getElem_toArray, List.getElem_cons_succ, List.getElem_cons_zero, List.setIfInBounds_toArray, List.set_cons_zero, List.set_cons_succ]
            refine wpAnyH_take (i := 7) (v := .int .i64 0) rfl (by kernel_rfl) (by kernel_rfl) (by kernel_rfl) (fun _ _ _ h => h) (Or.inl ⟨by kernel_rfl, by intro w hS; go_simp⟩) R4 ?_
            simp only [Act.put, List.getElem_toArray, List.getElem_cons_succ, List.getElem_cons_zero, List.setIfInBounds_toArray, List.set_cons_zero, List.set_cons_succ]
            refine wpAnyH_done (by kernel_rfl) ?_ _
            refine NoPanic.normal ?_
            go_wp2
            go_ret
            exact ⟨hB, .inr ⟨rfl, _, _, _, _, HS.out, R, hE, by rw [List.length_drop]; omega, by omega⟩⟩
          exact AllReadyH.nil

        · have HS : Hid (stepM l d es = (4, [], false, [])) := by show _ = _; unfold stepM; rw [if_neg (by rw [hh]; decide), if_neg (by simpa using hq), if_pos hk2, HN.out, if_neg hm]
          have CN := fun (w : World) (R : Rdr w p (l.drop 20) d (.slice sa es.length sc)) (hT : Tab w) => template_no p l (l.take N) d (.slice sa es.length sc) (nAt l 2 2) (nAt l 4 4) (nAt l 8 4) (nAt l 16 2) w R hT hp n20 nle hl hlong (by rw [hq]; exact hm)
          clear hq hk2 hm n10 n1 n18 nk
          go_enter Tryd.func27, Tryd.ntmps27
          go_upto_region 5 with (first
                  | ((with_reducible refine atOp (.load 9 (.tmp 8)) rfl ?_); refine wpList_loadS R _ rfl rfl 0 rfl (txt l) rfl ?_)
                  | (go_at_call 33; refine (headOk_any p l _ _ _ R hl hh).mono ?_; rintro x w5 ⟨rfl, R', hM5⟩; replace R := R'; clear R'; have hRl : p < _ := R.lt; replace hE := hE.moved hM5 (by omega); replace hT := hM5.tab hT hp; replace hB := hB.trans (hM5.below (Nat.le_trans hpl hB.size) (Nat.le_refl _)); clear hM5)
                  | ((with_reducible refine atOp (.alloc 71) rfl ?_); refine wpList_allocX 4 71 rfl rfl rfl _ head_zero ?_; intro b4 w2 g4 R4 hb2; have n4 : b4 ≠ p := (fun e => by have := hRl; omega); have gp4 : p ≤ b4 := (by omega); have hne4 := hE.new g4; replace R := Row.below R hb2; replace hE := hE.below hb2; replace hT := hT.below hb2; replace hB := hB.trans (hb2.mono (Nat.le_trans hpl hB.size)))
                  | ((with_reducible refine atOp (.store 71 (.tmp 4) (.tmp 13)) rfl ?_); refine wpList_storeR 71 rfl (.tmp 4) (.tmp 13) rfl b4 rfl (hdc (nAt l 2 2) (nAt l 4 4) (nAt l 8 4) (nAt l 16 2)) rfl _ R4 rfl (hdc_info _ _ _ _) (hdc_one _ _ _ _) ?_; intro w4 R4 t4; replace R := t4.row R n4.symm; replace hE := hE.turned t4 hne4; replace hT := tab_turned hT t4 (by omega); replace hB := t4.below _ _ gp4 hB))
          refine wp_region_noPanic ?_
          refine wp_region_held_drew (S := fun W => Row 71 W b4 (hdc (nAt l 2 2) (nAt l 4 4) (nAt l 8 4) (nAt l 16 2)) ∧ Row 61 W p (rc (l.drop 20) d (.slice sa es.length sc))) (by kernel_rfl) ⟨R4, R⟩ (fun _ => ?_)
          refine wpAnyH_take (i := 0) (v := .pointer (some ⟨b4, 2, none⟩)) rfl (by kernel_rfl) (by kernel_rfl) (by kernel_rfl) (fun _ _ _ h => h) (Or.inl ⟨by kernel_rfl, by intro w hS; go_simp⟩) ⟨R4, R⟩ ?_
          simp only [Act.put, List.getElem_toArray, List.getElem_cons_succ, List.getElem_cons_zero, List.setIfInBounds_toArray, List.set_cons_zero, List.set_cons_succ]
          refine wpAnyH_take (i := 1) (v := .int .i64 (nAt l 8 4)) rfl (by kernel_rfl) (by kernel_rfl) (by kernel_rfl) (fun _ _ _ h => h) (yields_loadI (.tmp 20) rfl (by kernel_rfl) b4 2 (by kernel_rfl) (nAt l 8 4) (fun w h => (h.1.cell 2).trans rfl)) ⟨R4, R⟩ ?_
          simp only [Act.put, List.getElem_toArray, List.getElem_cons_succ, List.getElem_cons_zero, List.setIfInBounds_toArray, List.set_cons_zero, List.set_cons_succ]
          refine wpAnyH_take (i := 2) (v := .pointer (some ⟨p, 0, none⟩)) rfl (by kernel_rfl) (by kernel_rfl) (by kernel_rfl) (fun _ _ _ h => h) (Or.inl ⟨by kernel_rfl, by intro w hS; go_simp⟩) ⟨R4, R⟩ ?_
          simp only [Act.put, List.getElem_toArray, List.getElem_cons_succ, List.getElem_cons_zero, List.setIfInBounds_toArray, List.set_cons_zero, List.set_cons_succ]
          refine wpAnyH_take (i := 3) (v := .pointer (some ⟨p, 0, none⟩)) rfl (by kernel_rfl) (by kernel_rfl) (by kernel_rfl) (fun _ _ _ h => h) (Or.inl ⟨by kernel_rfl, by intro w hS; go_simp⟩) ⟨R4, R⟩ ?_
          simp only [Act.put, List.getElem_toArray, List.getElem_cons_succ, List.getElem_cons_zero, List.setIfInBounds_toArray, List.set_cons_zero, List.set_cons_succ]
          refine wpAnyH_take (i := 4) (v := .pointer (some ⟨p, 2, none⟩)) rfl (by kernel_rfl) (by kernel_rfl) (by kernel_rfl) (fun _ _ _ h => h) (Or.inl ⟨by kernel_rfl, by intro w hS; go_simp⟩) ⟨R4, R⟩ ?_
          simp only [Act.put, List.getElem_toArray, List.getElem_cons_succ, List.getElem_cons_zero, List.setIfInBounds_toArray, List.set_cons_zero, List.set_cons_succ]
          refine wpAnyH_take (i := 5) (v := .slice sa es.length sc) rfl (by kernel_rfl) (by kernel_rfl) (by kernel_rfl) (fun _ _ _ h => h) (yields_loadL (.tmp 24) rfl (by kernel_rfl) p 2 (by kernel_rfl) (.slice sa es.length sc) (fun w h => (h.2.cell 2).trans rfl)) ⟨R4, R⟩ ?_
          simp only [Act.put, List.getElem_toArray, List.getElem_cons_succ, List.getElem_cons_zero, List.setIfInBounds_toArray, List.set_cons_zero, List.set_cons_succ]
          refine wpAnyH_take (i := 6) (v := .int .i64 (es.length : Int)) rfl (by kernel_rfl) (by kernel_rfl) (by kernel_rfl) (fun _ _ _ h => h) (Or.inl ⟨by kernel_rfl, by intro w hS; go_simp⟩) ⟨R4, R⟩ ?_
          simp only [Act.put, List.getElem_toArray, List.getElem_cons_succ, List.getElem_cons_zero, List.setIfInBounds_toArray, List.set_cons_zero, List.set_cons_succ]
          refine wpAnyH_take (i := 7) (v := .bool false) rfl (by kernel_rfl) (by kernel_rfl) (by kernel_rfl) (fun _ _ _ h => h) (yields_nei 3 (.tmp 21) (.tmp 26) (nAt l 8 4) (es.length : Int) false rfl (by kernel_rfl) (by kernel_rfl) (by kernel_rfl) hsq) ⟨R4, R⟩ ?_
          simp only [Act.put, List.getElem_toArray, List.getElem_cons_succ, List.getElem_cons_zero, List.setIfInBounds_toArray, List.set_cons_zero, List.set_cons_succ]
          refine wpAnyH_take (i := 8) (v := .bool false) rfl (by kernel_rfl) (by kernel_rfl) (by kernel_rfl) (fun _ _ _ h => h) (Or.inl ⟨by kernel_rfl, by intro w hS; go_simp⟩) ⟨R4, R⟩ ?_
          simp only [Act.put, List.getElem_toArray, List.getElem_cons_succ, List.getElem_cons_zero, List.setIfInBounds_toArray, List.set_cons_zero, List.set_cons_succ]
          refine wpAnyH_done (by kernel_rfl) ?_ _
          refine NoPanic.normal ?_
          replace R4 : Row 71 (World.drew _) b4 _ := R4; replace R : Row 61 (World.drew _) p _ := R; replace hB := below_drewE hB; replace hE := EvO_drew hE; replace hT := Tab_drew hT
          go_upto_region 8 with (first
              | ((with_reducible refine atOp (.load 3 (.tmp 29)) rfl ?_); refine wpList_loadF R4 _ rfl rfl 3 rfl _ rfl ?_))
          refine wp_region_noPanic ?_
          refine wp_region_held_drew (S := fun W => Row 71 W b4 (hdc (nAt l 2 2) (nAt l 4 4) (nAt l 8 4) (nAt l 16 2))) (by kernel_rfl) R4 (fun _ => ?_)
          refine wpAnyH_take (i := 0) (v := .pointer (some ⟨p, 0, none⟩)) rfl (by kernel_rfl) (by kernel_rfl) (by kernel_rfl) (fun _ _ _ h => h) (Or.inl ⟨by kernel_rfl, by intro w hS; go_simp⟩) R4 ?_
          simp only [Act.put, List.getElem_toArray, List.getElem_cons_succ, List.getElem_cons_zero, List.setIfInBounds_toArray, List.set_cons_zero, List.set_cons_succ]
          refine wpAnyH_take (i := 1) (v := .string (txt l)) rfl (by kernel_rfl) (by kernel_rfl) (by kernel_rfl) (fun _ _ _ h => h) (Or.inl ⟨by kernel_rfl, by intro w hS; go_simp⟩) R4 ?_
          simp only [Act.put, List.getElem_toArray, List.getElem_cons_succ, List.getElem_cons_zero, List.setIfInBounds_toArray, List.set_cons_zero, List.set_cons_succ]
          refine wpAnyH_take (i := 2) (v := .pointer (some ⟨b4, 0, none⟩)) rfl (by kernel_rfl) (by kernel_rfl) (by kernel_rfl) (fun _ _ _ h => h) (Or.inl ⟨by kernel_rfl, by intro w hS; go_simp⟩) R4 ?_
          simp only [Act.put, List.getElem_toArray, List.getElem_cons_succ, List.getElem_cons_zero, List.setIfInBounds_toArray, List.set_cons_zero, List.set_cons_succ]
          refine wpAnyH_take (i := 3) (v := .int .i64 (nAt l 2 2)) rfl (by kernel_rfl) (by kernel_rfl) (by kernel_rfl) (fun _ _ _ h => h) (yields_loadI (.tmp 34) rfl (by kernel_rfl) b4 0 (by kernel_rfl) (nAt l 2 2) (fun w h => (h.cell 0).trans rfl)) R4 ?_
          simp only [Act.put, List.getElem_toArray, List.getElem_cons_succ, List.getElem_cons_zero, List.setIfInBounds_toArray, List.set_cons_zero, List.set_cons_succ]
          refine wpAnyH_take (i := 4) (v := .string (txt (l.take N))) rfl (by kernel_rfl) (by kernel_rfl) (by kernel_rfl) (fun _ _ _ h => h) (yields_left (.tmp 33) (.tmp 35) rfl (by kernel_rfl) l N (by kernel_rfl) (by rw [← HNN.out]; kernel_rfl) hNl) R4 ?_
          simp only [Act.put, List.getElem_toArray, List.getElem_cons_succ, List.getElem_cons_zero, List.setIfInBounds_toArray, List.set_cons_zero, List.set_cons_succ]
          refine wpAnyH_take (i := 5) (v := .agg (hdc (nAt l 2 2) (nAt l 4 4) (nAt l 8 4) (nAt l 16 2))) rfl (by kernel_rfl) (by kernel_rfl) (by kernel_rfl) (fun _ _ _ h => h) (yields_loadR 71 (.tmp 4) rfl (by kernel_rfl) b4 (by kernel_rfl) _ (fun w h => h) _ Tryd.underlying71 rfl (hdc_info _ _ _ _)) R4 ?_
          simp only [Act.put, List.getElem_toArray, List.getElem_cons_succ, List.getElem_cons_zero, List.setIfInBounds_toArray, List.set_cons_zero, List.set_cons_succ]
          refine wpAnyH_ready (rs := [6]) (by kernel_rfl) (by simp) ?_
          refine AllReadyH.cons rfl (fun K hK => ?_) ?_
          · go_simp
            go_at_call 34; refine (CN _ (Row_drew R) (Tab_drew hT)).mono ?_; rintro x w5 ⟨rfl, hM5⟩; replace hM5 := moved_undrew hM5; replace R4 := hM5.row R4 n4; replace hE := hE.moved hM5 (by omega); replace hB := hB.trans (hM5.below (Nat.le_trans hpl hB.size) (Nat.le_refl _))
            go_wp2_with fail
            refine hK.out _ _ R4 (fun _ => ?_)
            clear hK K
            try simp only [Act.put, List.getElem_toArray, List.getElem_cons_succ, List.getElem_cons_zero, List.setIfInBounds_toArray, List.set_cons_zero, List.set_cons_succ]
            refine wpAnyH_take (i := 7) (v := .int .i64 4) rfl (by kernel_rfl) (by kernel_rfl) (by kernel_rfl) (fun _ _ _ h => h) (Or.inl ⟨by kernel_rfl, by intro w hS; go_simp⟩) R4 ?_
            simp only [Act.put, List.getElem_toArray, List.getElem_cons_succ, List.getElem_cons_zero, List.setIfInBounds_toArray, List.set_cons_zero, List.set_cons_succ]
            refine wpAnyH_done (by kernel_rfl) ?_ _
            refine NoPanic.normal ?_
            go_wp2
            go_ret
            exact left_err HS.out (by decide) hB
          exact AllReadyH.nil

      · have gk : (nAt l 16 2 == 2) = false := by simpa using hk2
        cases d with
        | false =>
          have HS : Hid (stepM l false es = (7, [], false, [])) := by show _ = _; unfold stepM; rw [if_neg (by rw [hh]; decide), if_neg (by simpa using hq), if_neg hk2, if_pos rfl]
          clear hq hk2 n10 n1 n18 nk
          go_enter Tryd.func27, Tryd.ntmps27
          go_upto_region 5 with (first
                  | ((with_reducible refine atOp (.load 9 (.tmp 8)) rfl ?_); refine wpList_loadS R _ rfl rfl 0 rfl (txt l) rfl ?_)
                  | (go_at_call 33; refine (headOk_any p l _ _ _ R hl hh).mono ?_; rintro x w5 ⟨rfl, R', hM5⟩; replace R := R'; clear R'; have hRl : p < _ := R.lt; replace hE := hE.moved hM5 (by omega); replace hT := hM5.tab hT hp; replace hB := hB.trans (hM5.below (Nat.le_trans hpl hB.size) (Nat.le_refl _)); clear hM5)
                  | ((with_reducible refine atOp (.alloc 71) rfl ?_); refine wpList_allocX 4 71 rfl rfl rfl _ head_zero ?_; intro b4 w2 g4 R4 hb2; have n4 : b4 ≠ p := (fun e => by have := hRl; omega); have gp4 : p ≤ b4 := (by omega); have hne4 := hE.new g4; replace R := Row.below R hb2; replace hE := hE.below hb2; replace hT := hT.below hb2; replace hB := hB.trans (hb2.mono (Nat.le_trans hpl hB.size)))
                  | ((with_reducible refine atOp (.store 71 (.tmp 4) (.tmp 13)) rfl ?_); refine wpList_storeR 71 rfl (.tmp 4) (.tmp 13) rfl b4 rfl (hdc (nAt l 2 2) (nAt l 4 4) (nAt l 8 4) (nAt l 16 2)) rfl _ R4 rfl (hdc_info _ _ _ _) (hdc_one _ _ _ _) ?_; intro w4 R4 t4; replace R := t4.row R n4.symm; replace hE := hE.turned t4 hne4; replace hT := tab_turned hT t4 (by omega); replace hB := t4.below _ _ gp4 hB))
          refine wp_region_noPanic ?_
          refine wp_region_held_drew (S := fun W => Row 71 W b4 (hdc (nAt l 2 2) (nAt l 4 4) (nAt l 8 4) (nAt l 16 2)) ∧ Row 61 W p (rc (l.drop 20) false (.slice sa es.length sc))) (by kernel_rfl) ⟨R4, R⟩ (fun _ => ?_)
          refine wpAnyH_take (i := 0) (v := .pointer (some ⟨b4, 2, none⟩)) rfl (by kernel_rfl) (by kernel_rfl) (by kernel_rfl) (fun _ _ _ h => h) (Or.inl ⟨by kernel_rfl, by intro w hS; go_simp⟩) ⟨R4, R⟩ ?_
          simp only [Act.put, List.getElem_toArray, List.getElem_cons_succ, List.getElem_cons_zero, List.setIfInBounds_toArray, List.set_cons_zero, List.set_cons_succ]
          refine wpAnyH_take (i := 1) (v := .int .i64 (nAt l 8 4)) rfl (by kernel_rfl) (by kernel_rfl) (by kernel_rfl) (fun _ _ _ h => h) (yields_loadI (.tmp 20) rfl (by kernel_rfl) b4 2 (by kernel_rfl) (nAt l 8 4) (fun w h => (h.1.cell 2).trans rfl)) ⟨R4, R⟩ ?_
          simp only [Act.put, List.getElem_toArray, List.getElem_cons_succ, List.getElem_cons_zero, List.setIfInBounds_toArray, List.set_cons_zero, List.set_cons_succ]
          refine wpAnyH_take (i := 2) (v := .pointer (some ⟨p, 0, none⟩)) rfl (by kernel_rfl) (by kernel_rfl) (by kernel_rfl) (fun _ _ _ h => h) (Or.inl ⟨by kernel_rfl, by intro w hS; go_simp⟩) ⟨R4, R⟩ ?_
          simp only [Act.put, List.getElem_toArray, List.getElem_cons_succ, List.getElem_cons_zero, List.setIfInBounds_toArray, List.set_cons_zero, List.set_cons_succ]
          refine wpAnyH_take (i := 3) (v := .pointer (some ⟨p, 0, none⟩)) rfl (by kernel_rfl) (by kernel_rfl) (by kernel_rfl) (fun _ _ _ h => h) (Or.inl ⟨by kernel_rfl, by intro w hS; go_simp⟩) ⟨R4, R⟩ ?_
          simp only [Act.put, List.getElem_toArray, List.getElem_cons_succ, List.getElem_cons_zero, List.setIfInBounds_toArray, List.set_cons_zero, List.set_cons_succ]
          refine wpAnyH_take (i := 4) (v := .pointer (some ⟨p, 2, none⟩)) rfl (by kernel_rfl) (by kernel_rfl) (by kernel_rfl) (fun _ _ _ h => h) (Or.inl ⟨by kernel_rfl, by intro w hS; go_simp⟩) ⟨R4, R⟩ ?_
          simp only [Act.put, List.getElem_toArray, List.getElem_cons_succ, List.getElem_cons_zero, List.setIfInBounds_toArray, List.set_cons_zero, List.set_cons_succ]
          refine wpAnyH_take (i := 5) (v := .slice sa es.length sc) rfl (by kernel_rfl) (by kernel_rfl) (by kernel_rfl) (fun _ _ _ h => h) (yields_loadL (.tmp 24) rfl (by kernel_rfl) p 2 (by kernel_rfl) (.slice sa es.length sc) (fun w h => (h.2.cell 2).trans rfl)) ⟨R4, R⟩ ?_
          simp only [Act.put, List.getElem_toArray, List.getElem_cons_succ, List.getElem_cons_zero, List.setIfInBounds_toArray, List.set_cons_zero, List.set_cons_succ]
          refine wpAnyH_take (i := 6) (v := .int .i64 (es.length : Int)) rfl (by kernel_rfl) (by kernel_rfl) (by kernel_rfl) (fun _ _ _ h => h) (Or.inl ⟨by kernel_rfl, by intro w hS; go_simp⟩) ⟨R4, R⟩ ?_
          simp only [Act.put, List.getElem_toArray, List.getElem_cons_succ, List.getElem_cons_zero, List.setIfInBounds_toArray, List.set_cons_zero, List.set_cons_succ]
          refine wpAnyH_take (i := 7) (v := .bool false) rfl (by kernel_rfl) (by kernel_rfl) (by kernel_rfl) (fun _ _ _ h => h) (yields_nei 3 (.tmp 21) (.tmp 26) (nAt l 8 4) (es.length : Int) false rfl (by kernel_rfl) (by kernel_rfl) (by kernel_rfl) hsq) ⟨R4, R⟩ ?_
          simp only [Act.put, List.getElem_toArray, List.getElem_cons_succ, List.getElem_cons_zero, List.setIfInBounds_toArray, List.set_cons_zero, List.set_cons_succ]
          refine wpAnyH_take (i := 8) (v := .bool false) rfl (by kernel_rfl) (by kernel_rfl) (by kernel_rfl) (fun _ _ _ h => h) (Or.inl ⟨by kernel_rfl, by intro w hS; go_simp⟩) ⟨R4, R⟩ ?_
          simp only [Act.put, List.getElem_toArray, List.getElem_cons_succ, List.getElem_cons_zero, List.setIfInBounds_toArray, List.set_cons_zero, List.set_cons_succ]
          refine wpAnyH_done (by kernel_rfl) ?_ _
          refine NoPanic.normal ?_
          replace R4 : Row 71 (World.drew _) b4 _ := R4; replace R : Row 61 (World.drew _) p _ := R; replace hB := below_drewE hB; replace hE := EvO_drew hE; replace hT := Tab_drew hT
          go_wp2_with (first
              | ((with_reducible refine atOp (.load 3 (.tmp 29)) rfl ?_); refine wpList_loadF R4 _ rfl rfl 3 rfl _ rfl ?_)
              | ((with_reducible refine atOp (.load 4 (.tmp 42)) rfl ?_); refine wpList_loadB R _ rfl rfl 1 rfl _ rfl ?_))
          go_ret
          exact left_err HS.out (by decide) hB
        | true =>
          by_cases hf : nAt l 2 2 = 20 ∨ (nAt l 2 2 - 20) % 21 ≠ 0
          · have HS : Hid (stepM l true es = (1, [], false, [])) := by show _ = _; unfold stepM; rw [if_neg (by rw [hh]; decide), if_neg (by simpa using hq), if_neg hk2, if_neg (by simp), if_pos hf]
            have CF := fun (w : World) (R : Rdr w p (l.drop 20) true (.slice sa es.length sc)) (hE : EvO w (p + 1) (.slice sa es.length sc) es) => list_form p l true (.slice sa es.length sc) es (nAt l 2 2) (nAt l 4 4) (nAt l 8 4) (nAt l 16 2) w R hE n20 nle n65 hl hes1 hf
            clear hq hk2 n10 n1 n18 nk hf
            go_enter Tryd.func27, Tryd.ntmps27
            go_upto_region 5 with (first
                  | ((with_reducible refine atOp (.load 9 (.tmp 8)) rfl ?_); refine wpList_loadS R _ rfl rfl 0 rfl (txt l) rfl ?_)
                  | (go_at_call 33; refine (headOk_any p l _ _ _ R hl hh).mono ?_; rintro x w5 ⟨rfl, R', hM5⟩; replace R := R'; clear R'; have hRl : p < _ := R.lt; replace hE := hE.moved hM5 (by omega); replace hT := hM5.tab hT hp; replace hB := hB.trans (hM5.below (Nat.le_trans hpl hB.size) (Nat.le_refl _)); clear hM5)
                  | ((with_reducible refine atOp (.alloc 71) rfl ?_); refine wpList_allocX 4 71 rfl rfl rfl _ head_zero ?_; intro b4 w2 g4 R4 hb2; have n4 : b4 ≠ p := (fun e => by have := hRl; omega); have gp4 : p ≤ b4 := (by omega); have hne4 := hE.new g4; replace R := Row.below R hb2; replace hE := hE.below hb2; replace hT := hT.below hb2; replace hB := hB.trans (hb2.mono (Nat.le_trans hpl hB.size)))
                  | ((with_reducible refine atOp (.store 71 (.tmp 4) (.tmp 13)) rfl ?_); refine wpList_storeR 71 rfl (.tmp 4) (.tmp 13) rfl b4 rfl (hdc (nAt l 2 2) (nAt l 4 4) (nAt l 8 4) (nAt l 16 2)) rfl _ R4 rfl (hdc_info _ _ _ _) (hdc_one _ _ _ _) ?_; intro w4 R4 t4; replace R := t4.row R n4.symm; replace hE := hE.turned t4 hne4; replace hT := tab_turned hT t4 (by omega); replace hB := t4.below _ _ gp4 hB))
            refine wp_region_noPanic ?_
            refine wp_region_held_drew (S := fun W => Row 71 W b4 (hdc (nAt l 2 2) (nAt l 4 4) (nAt l 8 4) (nAt l 16 2)) ∧ Row 61 W p (rc (l.drop 20) true (.slice sa es.length sc))) (by kernel_rfl) ⟨R4, R⟩ (fun _ => ?_)
            refine wpAnyH_take (i := 0) (v := .pointer (some ⟨b4, 2, none⟩)) rfl (by kernel_rfl) (by kernel_rfl) (by kernel_rfl) (fun _ _ _ h => h) (Or.inl ⟨by kernel_rfl, by intro w hS; go_simp⟩) ⟨R4, R⟩ ?_
            simp only [Act.put, List.getElem_toArray, List.getElem_cons_succ, List.getElem_cons_zero, List.setIfInBounds_toArray, List.set_cons_zero, List.set_cons_succ]
            refine wpAnyH_take (i := 1) (v := .int .i64 (nAt l 8 4)) rfl (by kernel_rfl) (by kernel_rfl) (by kernel_rfl) (fun _ _ _ h => h) (yields_loadI (.tmp 20) rfl (by kernel_rfl) b4 2 (by kernel_rfl) (nAt l 8 4) (fun w h => (h.1.cell 2).trans rfl)) ⟨R4, R⟩ ?_
            simp only [Act.put, List.getElem_toArray, List.getElem_cons_succ, List.getElem_cons_zero, List.setIfInBounds_toArray, List.set_cons_zero, List.set_cons_succ]
            refine wpAnyH_take (i := 2) (v := .pointer (some ⟨p, 0, none⟩)) rfl (by kernel_rfl) (by kernel_rfl) (by kernel_rfl) (fun _ _ _ h => h) (Or.inl ⟨by kernel_rfl, by intro w hS; go_simp⟩) ⟨R4, R⟩ ?_
            simp only [Act.put, List.getElem_toArray, List.getElem_cons_succ, List.getElem_cons_zero, List.setIfInBounds_toArray, List.set_cons_zero, List.set_cons_succ]
            refine wpAnyH_take (i := 3) (v := .pointer (some ⟨p, 0, none⟩)) rfl (by kernel_rfl) (by kernel_rfl) (by kernel_rfl) (fun _ _ _ h => h) (Or.inl ⟨by kernel_rfl, by intro w hS; go_simp⟩) ⟨R4, R⟩ ?_
            simp only [Act.put, List.getElem_toArray, List.getElem_cons_succ, List.getElem_cons_zero, List.setIfInBounds_toArray, List.set_cons_zero, List.set_cons_succ]
            refine wpAnyH_take (i := 4) (v := .pointer (some ⟨p, 2, none⟩)) rfl (by kernel_rfl) (by kernel_rfl) (by kernel_rfl) (fun _ _ _ h => h) (Or.inl ⟨by kernel_rfl, by intro w hS; go_simp⟩) ⟨R4, R⟩ ?_
            simp only [Act.put, List.getElem_toArray, List.getElem_cons_succ, List.getElem_cons_zero, List.setIfInBounds_toArray, List.set_cons_zero, List.set_cons_succ]
            refine wpAnyH_take (i := 5) (v := .slice sa es.length sc) rfl (by kernel_rfl) (by kernel_rfl) (by kernel_rfl) (fun _ _ _ h => h) (yields_loadL (.tmp 24) rfl (by kernel_rfl) p 2 (by kernel_rfl) (.slice sa es.length sc) (fun w h => (h.2.cell 2).trans rfl)) ⟨R4, R⟩ ?_
            simp only [Act.put, List.getElem_toArray, List.getElem_cons_succ, List.getElem_cons_zero, List.setIfInBounds_toArray, List.set_cons_zero, List.set_cons_succ]
            refine wpAnyH_take (i := 6) (v := .int .i64 (es.length : Int)) rfl (by kernel_rfl) (by kernel_rfl) (by kernel_rfl) (fun _ _ _ h => h) (Or.inl ⟨by kernel_rfl, by intro w hS; go_simp⟩) ⟨R4, R⟩ ?_
            simp only [Act.put, List.getElem_toArray, List.getElem_cons_succ, List.getElem_cons_zero, List.setIfInBounds_toArray, List.set_cons_zero, List.set_cons_succ]
            refine wpAnyH_take (i := 7) (v := .bool false) rfl (by kernel_rfl) (by kernel_rfl) (by kernel_rfl) (fun _ _ _ h => h) (yields_nei 3 (.tmp 21) (.tmp 26) (nAt l 8 4) (es.length : Int) false rfl (by kernel_rfl) (by kernel_rfl) (by kernel_rfl) hsq) ⟨R4, R⟩ ?_
            simp only [Act.put, List.getElem_toArray, List.getElem_cons_succ, List.getElem_cons_zero, List.setIfInBounds_toArray, List.set_cons_zero, List.set_cons_succ]
            refine wpAnyH_take (i := 8) (v := .bool false) rfl (by kernel_rfl) (by kernel_rfl) (by kernel_rfl) (fun _ _ _ h => h) (Or.inl ⟨by kernel_rfl, by intro w hS; go_simp⟩) ⟨R4, R⟩ ?_
            simp only [Act.put, List.getElem_toArray, List.getElem_cons_succ, List.getElem_cons_zero, List.setIfInBounds_toArray, List.set_cons_zero, List.set_cons_succ]
            refine wpAnyH_done (by kernel_rfl) ?_ _
            refine NoPanic.normal ?_
            replace R4 : Row 71 (World.drew _) b4 _ := R4; replace R : Row 61 (World.drew _) p _ := R; replace hB := below_drewE hB; replace hE := EvO_drew hE; replace hT := Tab_drew hT
            go_wp2_with (first
                | ((with_reducible refine atOp (.load 3 (.tmp 29)) rfl ?_); refine wpList_loadF R4 _ rfl rfl 3 rfl _ rfl ?_)
                | ((with_reducible refine atOp (.load 4 (.tmp 42)) rfl ?_); refine wpList_loadB R _ rfl rfl 1 rfl _ rfl ?_)
                | ((with_reducible refine atOp (.load 71 (.tmp 4)) rfl ?_); refine wpList_loadR 71 (.tmp 4) rfl rfl b4 rfl _ R4 _ Tryd.underlying71 rfl (hdc_info _ _ _ _) ?_)
                | (go_at_call 35; refine (CF _ R hE).mono ?_; rintro x w5 ⟨rfl, hb5⟩; replace hB := hB.trans (hb5.mono (Nat.le_refl _))))
            go_ret
            exact left_err HS.out (by decide) hB
          · have hdum : True := trivial
            have CL := fun (w : World) (R : Rdr w p (l.drop 20) true (.slice sa es.length sc)) (hE : EvO w (p + 1) (.slice sa es.length sc) es) => list_any p l true (.slice sa es.length sc) es (nAt l 2 2) (nAt l 4 4) (nAt l 8 4) (nAt l 16 2) w R hE n20 nle n65 hl hes1 hf
            rw [HN.out] at CL
            have hcnt : ((nAt l 2 2 - 20) / 21).toNat ≤ 3200 := by omega
            rcases hev : evs (nAt l 4 4) ((nAt l 2 2 - 20) / 21).toNat (l.drop 20) es with _ | es'
            · have HS : Hid (stepM l true es = (2, [], false, [])) := by show _ = _; unfold stepM; rw [if_neg (by rw [hh]; decide), if_neg (by simpa using hq), if_neg hk2, if_neg (by simp), if_neg hf, hev]
              have CL2 : ∀ w, Rdr w p (l.drop 20) true (.slice sa es.length sc) → EvO w (p + 1) (.slice sa es.length sc) es → Calls Tryd.prog 35 #[.pointer (some ⟨p, 0, none⟩), .agg (hdc (nAt l 2 2) (nAt l 4 4) (nAt l 8 4) (nAt l 16 2))] w fun x w' => x = .returned (.int .i64 2) ∧ Below p w w' := fun w R hE => (CL w R hE).mono (by
                rintro x w' ⟨⟨h, _⟩ | ⟨_, _, _, h, _⟩, hB⟩
                · exact ⟨h, hB⟩
                · rw [hev] at h; simp at h)
              clear hq hk2 n10 n1 n18 nk hf CL hev
              go_enter Tryd.func27, Tryd.ntmps27
              go_upto_region 5 with (first
                  | ((with_reducible refine atOp (.load 9 (.tmp 8)) rfl ?_); refine wpList_loadS R _ rfl rfl 0 rfl (txt l) rfl ?_)
                  | (go_at_call 33; refine (headOk_any p l _ _ _ R hl hh).mono ?_; rintro x w5 ⟨rfl, R', hM5⟩; replace R := R'; clear R'; have hRl : p < _ := R.lt; replace hE := hE.moved hM5 (by omega); replace hT := hM5.tab hT hp; replace hB := hB.trans (hM5.below (Nat.le_trans hpl hB.size) (Nat.le_refl _)); clear hM5)
                  | ((with_reducible refine atOp (.alloc 71) rfl ?_); refine wpList_allocX 4 71 rfl rfl rfl _ head_zero ?_; intro b4 w2 g4 R4 hb2; have n4 : b4 ≠ p := (fun e => by have := hRl; omega); have gp4 : p ≤ b4 := (by omega); have hne4 := hE.new g4; replace R := Row.below R hb2; replace hE := hE.below hb2; replace hT := hT.below hb2; replace hB := hB.trans (hb2.mono (Nat.le_trans hpl hB.size)))
                  | ((with_reducible refine atOp (.store 71 (.tmp 4) (.tmp 13)) rfl ?_); refine wpList_storeR 71 rfl (.tmp 4) (.tmp 13) rfl b4 rfl (hdc (nAt l 2 2) (nAt l 4 4) (nAt l 8 4) (nAt l 16 2)) rfl _ R4 rfl (hdc_info _ _ _ _) (hdc_one _ _ _ _) ?_; intro w4 R4 t4; replace R := t4.row R n4.symm; replace hE := hE.turned t4 hne4; replace hT := tab_turned hT t4 (by omega); replace hB := t4.below _ _ gp4 hB))
              refine wp_region_noPanic ?_
              refine wp_region_held_drew (S := fun W => Row 71 W b4 (hdc (nAt l 2 2) (nAt l 4 4) (nAt l 8 4) (nAt l 16 2)) ∧ Row 61 W p (rc (l.drop 20) true (.slice sa es.length sc))) (by kernel_rfl) ⟨R4, R⟩ (fun _ => ?_)
              refine wpAnyH_take (i := 0) (v := .pointer (some ⟨b4, 2, none⟩)) rfl (by kernel_rfl) (by kernel_rfl) (by kernel_rfl) (fun _ _ _ h => h) (Or.inl ⟨by kernel_rfl, by intro w hS; go_simp⟩) ⟨R4, R⟩ ?_
              simp only [Act.put, List.getElem_toArray, List.getElem_cons_succ, List.getElem_cons_zero, List.setIfInBounds_toArray, List.set_cons_zero, List.set_cons_succ]
              refine wpAnyH_take (i := 1) (v := .int .i64 (nAt l 8 4)) rfl (by kernel_rfl) (by kernel_rfl) (by kernel_rfl) (fun _ _ _ h => h) (yields_loadI (.tmp 20) rfl (by kernel_rfl) b4 2 (by kernel_rfl) (nAt l 8 4) (fun w h => (h.1.cell 2).trans rfl)) ⟨R4, R⟩ ?_
              simp only [Act.put, List.getElem_toArray, List.getElem_cons_succ, List.getElem_cons_zero, List.setIfInBounds_toArray, List.set_cons_zero, List.set_cons_succ]
              refine wpAnyH_take (i := 2) (v := .pointer (some ⟨p, 0, none⟩)) rfl (by kernel_rfl) (by kernel_rfl) (by kernel_rfl) (fun _ _ _ h => h) (Or.inl ⟨by kernel_rfl, by intro w hS; go_simp⟩) ⟨R4, R⟩ ?_
              simp only [Act.put, List.getElem_toArray, List.getElem_cons_succ, List.getElem_cons_zero, List.setIfInBounds_toArray, List.set_cons_zero, List.set_cons_succ]
              refine wpAnyH_take (i := 3) (v := .pointer (some ⟨p, 0, none⟩)) rfl (by kernel_rfl) (by kernel_rfl) (by kernel_rfl) (fun _ _ _ h => h) (Or.inl ⟨by kernel_rfl, by intro w hS; go_simp⟩) ⟨R4, R⟩ ?_
              simp only [Act.put, List.getElem_toArray, List.getElem_cons_succ, List.getElem_cons_zero, List.setIfInBounds_toArray, List.set_cons_zero, List.set_cons_succ]
              refine wpAnyH_take (i := 4) (v := .pointer (some ⟨p, 2, none⟩)) rfl (by kernel_rfl) (by kernel_rfl) (by kernel_rfl) (fun _ _ _ h => h) (Or.inl ⟨by kernel_rfl, by intro w hS; go_simp⟩) ⟨R4, R⟩ ?_
              simp only [Act.put, List.getElem_toArray, List.getElem_cons_succ, List.getElem_cons_zero, List.setIfInBounds_toArray, List.set_cons_zero, List.set_cons_succ]
              refine wpAnyH_take (i := 5) (v := .slice sa es.length sc) rfl (by kernel_rfl) (by kernel_rfl) (by kernel_rfl) (fun _ _ _ h => h) (yields_loadL (.tmp 24) rfl (by kernel_rfl) p 2 (by kernel_rfl) (.slice sa es.length sc) (fun w h => (h.2.cell 2).trans rfl)) ⟨R4, R⟩ ?_
              simp only [Act.put, List.getElem_toArray, List.getElem_cons_succ, List.getElem_cons_zero, List.setIfInBounds_toArray, List.set_cons_zero, List.set_cons_succ]
              refine wpAnyH_take (i := 6) (v := .int .i64 (es.length : Int)) rfl (by kernel_rfl) (by kernel_rfl) (by kernel_rfl) (fun _ _ _ h => h) (Or.inl ⟨by kernel_rfl, by intro w hS; go_simp⟩) ⟨R4, R⟩ ?_
              simp only [Act.put, List.getElem_toArray, List.getElem_cons_succ, List.getElem_cons_zero, List.setIfInBounds_toArray, List.set_cons_zero, List.set_cons_succ]
              refine wpAnyH_take (i := 7) (v := .bool false) rfl (by kernel_rfl) (by kernel_rfl) (by kernel_rfl) (fun _ _ _ h => h) (yields_nei 3 (.tmp 21) (.tmp 26) (nAt l 8 4) (es.length : Int) false rfl (by kernel_rfl) (by kernel_rfl) (by kernel_rfl) hsq) ⟨R4, R⟩ ?_
              simp only [Act.put, List.getElem_toArray, List.getElem_cons_succ, List.getElem_cons_zero, List.setIfInBounds_toArray, List.set_cons_zero, List.set_cons_succ]
              refine wpAnyH_take (i := 8) (v := .bool false) rfl (by kernel_rfl) (by kernel_rfl) (by kernel_rfl) (fun _ _ _ h => h) (Or.inl ⟨by kernel_rfl, by intro w hS; go_simp⟩) ⟨R4, R⟩ ?_
              simp only [Act.put, List.getElem_toArray, List.getElem_cons_succ, List.getElem_cons_zero, List.setIfInBounds_toArray, List.set_cons_zero, List.set_cons_succ]
              refine wpAnyH_done (by kernel_rfl) ?_ _
              refine NoPanic.normal ?_
              replace R4 : Row 71 (World.drew _) b4 _ := R4; replace R : Row 61 (World.drew _) p _ := R; replace hB := below_drewE hB; replace hE := EvO_drew hE; replace hT := Tab_drew hT
              go_wp2_with (first
                  | ((with_reducible refine atOp (.load 3 (.tmp 29)) rfl ?_); refine wpList_loadF R4 _ rfl rfl 3 rfl _ rfl ?_)
                  | ((with_reducible refine atOp (.load 4 (.tmp 42)) rfl ?_); refine wpList_loadB R _ rfl rfl 1 rfl _ rfl ?_)
                  | ((with_reducible refine atOp (.load 71 (.tmp 4)) rfl ?_); refine wpList_loadR 71 (.tmp 4) rfl rfl b4 rfl _ R4 _ Tryd.underlying71 rfl (hdc_info _ _ _ _) ?_)
                  | (go_at_call 35; refine (CL2 _ R hE).mono ?_; rintro x w5 ⟨rfl, hb5⟩; replace hB := hB.trans (hb5.mono (Nat.le_refl _))))
              go_ret
              exact left_err HS.out (by decide) hB
            · have HS : Hid (stepM l true es = (0, l.drop N, true, es')) := by show _ = _; unfold stepM; rw [if_neg (by rw [hh]; decide), if_neg (by simpa using hq), if_neg hk2, if_neg (by simp), if_neg hf, hev, HN.out]
              have hlen' := evs_len hev
              have CL3 : ∀ w, Rdr w p (l.drop 20) true (.slice sa es.length sc) → EvO w (p + 1) (.slice sa es.length sc) es → Calls Tryd.prog 35 #[.pointer (some ⟨p, 0, none⟩), .agg (hdc (nAt l 2 2) (nAt l 4 4) (nAt l 8 4) (nAt l 16 2))] w fun x w' => x = .returned (.int .i64 0) ∧ (∃ v', Rdr w' p (l.drop N) true v' ∧ EvO w' (p + 1) v' es') ∧ Below p w w' := fun w R hE => (CL w R hE).mono (by
                rintro x w' ⟨⟨_, h⟩ | ⟨h, v', e2, h2, R', E'⟩, hB⟩
                · rw [hev] at h; simp at h
                · rw [hev] at h2
                  obtain rfl : es' = e2 := by simpa using h2
                  exact ⟨h, ⟨v', R', E'⟩, hB⟩)
              clear hq hk2 n10 n1 n18 nk hf CL hev
              go_enter Tryd.func27, Tryd.ntmps27
              go_upto_region 5 with (first
                  | ((with_reducible refine atOp (.load 9 (.tmp 8)) rfl ?_); refine wpList_loadS R _ rfl rfl 0 rfl (txt l) rfl ?_)
                  | (go_at_call 33; refine (headOk_any p l _ _ _ R hl hh).mono ?_; rintro x w5 ⟨rfl, R', hM5⟩; replace R := R'; clear R'; have hRl : p < _ := R.lt; replace hE := hE.moved hM5 (by omega); replace hT := hM5.tab hT hp; replace hB := hB.trans (hM5.below (Nat.le_trans hpl hB.size) (Nat.le_refl _)); clear hM5)
                  | ((with_reducible refine atOp (.alloc 71) rfl ?_); refine wpList_allocX 4 71 rfl rfl rfl _ head_zero ?_; intro b4 w2 g4 R4 hb2; have n4 : b4 ≠ p := (fun e => by have := hRl; omega); have gp4 : p ≤ b4 := (by omega); have hne4 := hE.new g4; replace R := Row.below R hb2; replace hE := hE.below hb2; replace hT := hT.below hb2; replace hB := hB.trans (hb2.mono (Nat.le_trans hpl hB.size)))
                  | ((with_reducible refine atOp (.store 71 (.tmp 4) (.tmp 13)) rfl ?_); refine wpList_storeR 71 rfl (.tmp 4) (.tmp 13) rfl b4 rfl (hdc (nAt l 2 2) (nAt l 4 4) (nAt l 8 4) (nAt l 16 2)) rfl _ R4 rfl (hdc_info _ _ _ _) (hdc_one _ _ _ _) ?_; intro w4 R4 t4; replace R := t4.row R n4.symm; replace hE := hE.turned t4 hne4; replace hT := tab_turned hT t4 (by omega); replace hB := t4.below _ _ gp4 hB))
              refine wp_region_noPanic ?_
              refine wp_region_held_drew (S := fun W => Row 71 W b4 (hdc (nAt l 2 2) (nAt l 4 4) (nAt l 8 4) (nAt l 16 2)) ∧ Row 61 W p (rc (l.drop 20) true (.slice sa es.length sc))) (by kernel_rfl) ⟨R4, R⟩ (fun _ => ?_)
              refine wpAnyH_take (i := 0) (v := .pointer (some ⟨b4, 2, none⟩)) rfl (by kernel_rfl) (by kernel_rfl) (by kernel_rfl) (fun _ _ _ h => h) (Or.inl ⟨by kernel_rfl, by intro w hS; go_simp⟩) ⟨R4, R⟩ ?_
              simp only [Act.put, List.getElem_toArray, List.getElem_cons_succ, List.getElem_cons_zero, List.setIfInBounds_toArray, List.set_cons_zero, List.set_cons_succ]
              refine wpAnyH_take (i := 1) (v := .int .i64 (nAt l 8 4)) rfl (by kernel_rfl) (by kernel_rfl) (by kernel_rfl) (fun _ _ _ h => h) (yields_loadI (.tmp 20) rfl (by kernel_rfl) b4 2 (by kernel_rfl) (nAt l 8 4) (fun w h => (h.1.cell 2).trans rfl)) ⟨R4, R⟩ ?_
              simp only [Act.put, List.getElem_toArray, List.getElem_cons_succ, List.getElem_cons_zero, List.setIfInBounds_toArray, List.set_cons_zero, List.set_cons_succ]
              refine wpAnyH_take (i := 2) (v := .pointer (some ⟨p, 0, none⟩)) rfl (by kernel_rfl) (by kernel_rfl) (by kernel_rfl) (fun _ _ _ h => h) (Or.inl ⟨by kernel_rfl, by intro w hS; go_simp⟩) ⟨R4, R⟩ ?_
              simp only [Act.put, List.getElem_toArray, List.getElem_cons_succ, List.getElem_cons_zero, List.setIfInBounds_toArray, List.set_cons_zero, List.set_cons_succ]
              refine wpAnyH_take (i := 3) (v := .pointer (some ⟨p, 0, none⟩)) rfl (by kernel_rfl) (by kernel_rfl) (by kernel_rfl) (fun _ _ _ h => h) (Or.inl ⟨by kernel_rfl, by intro w hS; go_simp⟩) ⟨R4, R⟩ ?_
              simp only [Act.put, List.getElem_toArray, List.getElem_cons_succ, List.getElem_cons_zero, List.setIfInBounds_toArray, List.set_cons_zero, List.set_cons_succ]
              refine wpAnyH_take (i := 4) (v := .pointer (some ⟨p, 2, none⟩)) rfl (by kernel_rfl) (by kernel_rfl) (by kernel_rfl) (fun _ _ _ h => h) (Or.inl ⟨by kernel_rfl, by intro w hS; go_simp⟩) ⟨R4, R⟩ ?_
              simp only [Act.put, List.getElem_toArray, List.getElem_cons_succ, List.getElem_cons_zero, List.setIfInBounds_toArray, List.set_cons_zero, List.set_cons_succ]
              refine wpAnyH_take (i := 5) (v := .slice sa es.length sc) rfl (by kernel_rfl) (by kernel_rfl) (by kernel_rfl) (fun _ _ _ h => h) (yields_loadL (.tmp 24) rfl (by kernel_rfl) p 2 (by kernel_rfl) (.slice sa es.length sc) (fun w h => (h.2.cell 2).trans rfl)) ⟨R4, R⟩ ?_
              simp only [Act.put, List.getElem_toArray, List.getElem_cons_succ, List.getElem_cons_zero, List.setIfInBounds_toArray, List.set_cons_zero, List.set_cons_succ]
              refine wpAnyH_take (i := 6) (v := .int .i64 (es.length : Int)) rfl (by kernel_rfl) (by kernel_rfl) (by kernel_rfl) (fun _ _ _ h => h) (Or.inl ⟨by kernel_rfl, by intro w hS; go_simp⟩) ⟨R4, R⟩ ?_
              simp only [Act.put, List.getElem_toArray, List.getElem_cons_succ, List.getElem_cons_zero, List.setIfInBounds_toArray, List.set_cons_zero, List.set_cons_succ]
              refine wpAnyH_take (i := 7) (v := .bool false) rfl (by kernel_rfl) (by kernel_rfl) (by kernel_rfl) (fun _ _ _ h => h) (yields_nei 3 (.tmp 21) (.tmp 26) (nAt l 8 4) (es.length : Int) false rfl (by kernel_rfl) (by kernel_rfl) (by kernel_rfl) hsq) ⟨R4, R⟩ ?_
              simp only [Act.put, List.getElem_toArray, List.getElem_cons_succ, List.getElem_cons_zero, List.setIfInBounds_toArray, List.set_cons_zero, List.set_cons_succ]
              refine wpAnyH_take (i := 8) (v := .bool false) rfl (by kernel_rfl) (by kernel_rfl) (by kernel_rfl) (fun _ _ _ h => h) (Or.inl ⟨by kernel_rfl, by intro w hS; go_simp⟩) ⟨R4, R⟩ ?_
              simp only [Act.put, List.getElem_toArray, List.getElem_cons_succ, List.getElem_cons_zero, List.setIfInBounds_toArray, List.set_cons_zero, List.set_cons_succ]
              refine wpAnyH_done (by kernel_rfl) ?_ _
              refine NoPanic.normal ?_
              replace R4 : Row 71 (World.drew _) b4 _ := R4; replace R : Row 61 (World.drew _) p _ := R; replace hB := below_drewE hB; replace hE := EvO_drew hE; replace hT := Tab_drew hT
              go_wp2_with (first
                  | ((with_reducible refine atOp (.load 3 (.tmp 29)) rfl ?_); refine wpList_loadF R4 _ rfl rfl 3 rfl _ rfl ?_)
                  | ((with_reducible refine atOp (.load 4 (.tmp 42)) rfl ?_); refine wpList_loadB R _ rfl rfl 1 rfl _ rfl ?_)
                  | ((with_reducible refine atOp (.load 71 (.tmp 4)) rfl ?_); refine wpList_loadR 71 (.tmp 4) rfl rfl b4 rfl _ R4 _ Tryd.underlying71 rfl (hdc_info _ _ _ _) ?_)
                  | (go_at_call 35; refine (CL3 _ R hE).mono ?_; rintro x w5 ⟨rfl, ⟨v', R', hE'⟩, hb5⟩; replace hB := hB.trans (hb5.mono (Nat.le_refl _))))
              go_ret
              exact ⟨hB, .inr ⟨rfl, _, _, _, _, HS.out, R', hE', by rw [List.length_drop]; omega, by omega⟩⟩
    · have hsq : (nAt l 8 4 != (es.length : Int)) = true := by simpa using hq
      have HS : Hid (stepM l d es = (3, [], false, [])) := by show _ = _; unfold stepM; rw [if_neg (by rw [hh]; decide), if_pos hq]
      clear hq n10 n1 n18 nk
      go_enter Tryd.func27, Tryd.ntmps27
      go_upto_region 5 with (first
                  | ((with_reducible refine atOp (.load 9 (.tmp 8)) rfl ?_); refine wpList_loadS R _ rfl rfl 0 rfl (txt l) rfl ?_)
                  | (go_at_call 33; refine (headOk_any p l _ _ _ R hl hh).mono ?_; rintro x w5 ⟨rfl, R', hM5⟩; replace R := R'; clear R'; have hRl : p < _ := R.lt; replace hE := hE.moved hM5 (by omega); replace hT := hM5.tab hT hp; replace hB := hB.trans (hM5.below (Nat.le_trans hpl hB.size) (Nat.le_refl _)); clear hM5)
                  | ((with_reducible refine atOp (.alloc 71) rfl ?_); refine wpList_allocX 4 71 rfl rfl rfl _ head_zero ?_; intro b4 w2 g4 R4 hb2; have n4 : b4 ≠ p := (fun e => by have := hRl; omega); have gp4 : p ≤ b4 := (by omega); have hne4 := hE.new g4; replace R := Row.below R hb2; replace hE := hE.below hb2; replace hT := hT.below hb2; replace hB := hB.trans (hb2.mono (Nat.le_trans hpl hB.size)))
                  | ((with_reducible refine atOp (.store 71 (.tmp 4) (.tmp 13)) rfl ?_); refine wpList_storeR 71 rfl (.tmp 4) (.tmp 13) rfl b4 rfl (hdc (nAt l 2 2) (nAt l 4 4) (nAt l 8 4) (nAt l 16 2)) rfl _ R4 rfl (hdc_info _ _ _ _) (hdc_one _ _ _ _) ?_; intro w4 R4 t4; replace R := t4.row R n4.symm; replace hE := hE.turned t4 hne4; replace hT := tab_turned hT t4 (by omega); replace hB := t4.below _ _ gp4 hB))
      refine wp_region_noPanic ?_
      refine wp_region_held_drew (S := fun W => Row 71 W b4 (hdc (nAt l 2 2) (nAt l 4 4) (nAt l 8 4) (nAt l 16 2)) ∧ Row 61 W p (rc (l.drop 20) d (.slice sa es.length sc))) (by kernel_rfl) ⟨R4, R⟩ (fun _ => ?_)
      refine wpAnyH_take (i := 0) (v := .pointer (some ⟨b4, 2, none⟩)) rfl (by kernel_rfl) (by kernel_rfl) (by kernel_rfl) (fun _ _ _ h => h) (Or.inl ⟨by kernel_rfl, by intro w hS; go_simp⟩) ⟨R4, R⟩ ?_
      simp only [Act.put, List.getElem_toArray, List.getElem_cons_succ, List.getElem_cons_zero, List.setIfInBounds_toArray, List.set_cons_zero, List.set_cons_succ]
      refine wpAnyH_take (i := 1) (v := .int .i64 (nAt l 8 4)) rfl (by kernel_rfl) (by kernel_rfl) (by kernel_rfl) (fun _ _ _ h => h) (yields_loadI (.tmp 20) rfl (by kernel_rfl) b4 2 (by kernel_rfl) (nAt l 8 4) (fun w h => (h.1.cell 2).trans rfl)) ⟨R4, R⟩ ?_
      simp only [Act.put, List.getElem_toArray, List.getElem_cons_succ, List.getElem_cons_zero, List.setIfInBounds_toArray, List.set_cons_zero, List.set_cons_succ]
      refine wpAnyH_take (i := 2) (v := .pointer (some ⟨p, 0, none⟩)) rfl (by kernel_rfl) (by kernel_rfl) (by kernel_rfl) (fun _ _ _ h => h) (Or.inl ⟨by kernel_rfl, by intro w hS; go_simp⟩) ⟨R4, R⟩ ?_
      simp only [Act.put, List.getElem_toArray, List.getElem_cons_succ, List.getElem_cons_zero, List.setIfInBounds_toArray, List.set_cons_zero, List.set_cons_succ]
      refine wpAnyH_take (i := 3) (v := .pointer (some ⟨p, 0, none⟩)) rfl (by kernel_rfl) (by kernel_rfl) (by kernel_rfl) (fun _ _ _ h => h) (Or.inl ⟨by kernel_rfl, by intro w hS; go_simp⟩) ⟨R4, R⟩ ?_
      simp only [Act.put, List.getElem_toArray, List.getElem_cons_succ, List.getElem_cons_zero, List.setIfInBounds_toArray, List.set_cons_zero, List.set_cons_succ]
      refine wpAnyH_take (i := 4) (v := .pointer (some ⟨p, 2, none⟩)) rfl (by kernel_rfl) (by kernel_rfl) (by kernel_rfl) (fun _ _ _ h => h) (Or.inl ⟨by kernel_rfl, by intro w hS; go_simp⟩) ⟨R4, R⟩ ?_
      simp only [Act.put, List.getElem_toArray, List.getElem_cons_succ, List.getElem_cons_zero, List.setIfInBounds_toArray, List.set_cons_zero, List.set_cons_succ]
      refine wpAnyH_take (i := 5) (v := .slice sa es.length sc) rfl (by kernel_rfl) (by kernel_rfl) (by kernel_rfl) (fun _ _ _ h => h) (yields_loadL (.tmp 24) rfl (by kernel_rfl) p 2 (by kernel_rfl) (.slice sa es.length sc) (fun w h => (h.2.cell 2).trans rfl)) ⟨R4, R⟩ ?_
      simp only [Act.put, List.getElem_toArray, List.getElem_cons_succ, List.getElem_cons_zero, List.setIfInBounds_toArray, List.set_cons_zero, List.set_cons_succ]
      refine wpAnyH_take (i := 6) (v := .int .i64 (es.length : Int)) rfl (by kernel_rfl) (by kernel_rfl) (by kernel_rfl) (fun _ _ _ h => h) (Or.inl ⟨by kernel_rfl, by intro w hS; go_simp⟩) ⟨R4, R⟩ ?_
      simp only [Act.put, List.getElem_toArray, List.getElem_cons_succ, List.getElem_cons_zero, List.setIfInBounds_toArray, List.set_cons_zero, List.set_cons_succ]
      refine wpAnyH_take (i := 7) (v := .bool true) rfl (by kernel_rfl) (by kernel_rfl) (by kernel_rfl) (fun _ _ _ h => h) (yields_nei 3 (.tmp 21) (.tmp 26) (nAt l 8 4) (es.length : Int) true rfl (by kernel_rfl) (by kernel_rfl) (by kernel_rfl) hsq) ⟨R4, R⟩ ?_
      simp only [Act.put, List.getElem_toArray, List.getElem_cons_succ, List.getElem_cons_zero, List.setIfInBounds_toArray, List.set_cons_zero, List.set_cons_succ]
      refine wpAnyH_take (i := 8) (v := .bool true) rfl (by kernel_rfl) (by kernel_rfl) (by kernel_rfl) (fun _ _ _ h => h) (Or.inl ⟨by kernel_rfl, by intro w hS; go_simp⟩) ⟨R4, R⟩ ?_
      simp only [Act.put, List.getElem_toArray, List.getElem_cons_succ, List.getElem_cons_zero, List.setIfInBounds_toArray, List.set_cons_zero, List.set_cons_succ]
      refine wpAnyH_done (by kernel_rfl) ?_ _
      refine NoPanic.normal ?_
      replace R4 : Row 71 (World.drew _) b4 _ := R4; replace R : Row 61 (World.drew _) p _ := R; replace hB := below_drewE hB; replace hE := EvO_drew hE; replace hT := Tab_drew hT
      go_wp2
      go_ret
      exact left_err HS.out (by decide) hB
end Go.Proofs.YtnhafdkfjjplkaaDoor
