/-
  The document's events as bytes, its messages, its template.
-/
import Derived.Test.YtnhafdkfjjplkaaDoorBeW
import Derived.Test.YtnhafdkfjjplkaaDoorRecT
import Derived.Test.YtnhafdkfjjplkaaDoorRecO
namespace Go.Proofs.YtnhafdkfjjplkaaDoor
open Go.ChangeShapes Go.WideShapes Go.ChangeAt Go.RowKit
set_option linter.unusedSimpArgs false
set_option linter.unusedVariables false

theorem ref1_any (v : Int) (w : World) (h0 : 0 ≤ v) (h1 : v ≤ 9223372036854775807) : Calls Tryd.prog 26 #[.int .i64 v, .int .i64 1] w fun e w' => e = .returned (.string (txt (be v 1))) ∧ Below w.heap.size w w' := bytesOf_any v 1 w h0 h1 (by omega)
theorem ref2_any (v : Int) (w : World) (h0 : 0 ≤ v) (h1 : v ≤ 9223372036854775807) : Calls Tryd.prog 26 #[.int .i64 v, .int .i64 2] w fun e w' => e = .returned (.string (txt (be v 2))) ∧ Below w.heap.size w w' := bytesOf_any v 2 w h0 h1 (by omega)
theorem ref4_any (v : Int) (w : World) (h0 : 0 ≤ v) (h1 : v ≤ 9223372036854775807) : Calls Tryd.prog 26 #[.int .i64 v, .int .i64 4] w fun e w' => e = .returned (.string (txt (be v 4))) ∧ Below w.heap.size w w' := bytesOf_any v 4 w h0 h1 (by omega)
theorem ref8_any (v : Int) (w : World) (h0 : 0 ≤ v) (h1 : v ≤ 9223372036854775807) : Calls Tryd.prog 26 #[.int .i64 v, .int .i64 8] w fun e w' => e = .returned (.string (txt (be v 8))) ∧ Below w.heap.size w w' := bytesOf_any v 8 w h0 h1 (by omega)
@[simp] theorem txt_be (v : Int) (n : Nat) : (txt (be v n)).size = n := by rw [txt_size, be_len]
theorem yields_cat {ops : Array Oper} {S : World → Prop} {o : Oper} {a : Act} (x y : Operand) (ho : o.op = .binOp .add 9 x y 9) (hw : Region.wanted o (yielded ops a.tmps) = true) (s t u : List UInt8) (hx : a.eval x = .string (txt s)) (hy : a.eval y = .string (txt t)) (hu : s ++ t = u) (hs : s.length ≤ 1000000) (ht : t.length ≤ 1000000) : YieldsIf Tryd.prog ops S o (.string (txt u)) a :=
  .inl ⟨hw, fun w _ => by
    subst hu
    have h1 : (txt s).size ≤ 1000000 := by rw [txt_size]; exact hs
    have h2 : (txt t).size ≤ 1000000 := by rw [txt_size]; exact ht
    unfold execOp
    simp only [ho, hx, hy]
    rw [← txt_app]
    generalize txt s = A at *
    generalize txt t = B at *
    simp [go_sem, eqGuard]
    try omega⟩
theorem yields_addI {ops : Array Oper} {S : World → Prop} {o : Oper} {a : Act} (x y : Operand) (ho : o.op = .binOp .add 3 x y 3) (hw : Region.wanted o (yielded ops a.tmps) = true) (m n r : Int) (hx : a.eval x = .int .i64 m) (hy : a.eval y = .int .i64 n) (hr : m + n = r) (h0 : -9223372036854775808 ≤ r) (h1 : r ≤ 9223372036854775807) : YieldsIf Tryd.prog ops S o (.int .i64 r) a :=
  .inl ⟨hw, fun w _ => by
    have e : IntKind.i64.wrap (m + n) = r := by rw [hr]; simp [IntKind.wrap, IntKind.bits, IntKind.signed]; omega
    unfold execOp
    simp only [ho, hx, hy]
    simp [go_sem, e]⟩
theorem yields_mulI {ops : Array Oper} {S : World → Prop} {o : Oper} {a : Act} (x y : Operand) (ho : o.op = .binOp .mul 3 x y 3) (hw : Region.wanted o (yielded ops a.tmps) = true) (m n r : Int) (hx : a.eval x = .int .i64 m) (hy : a.eval y = .int .i64 n) (hr : m * n = r) (h0 : -9223372036854775808 ≤ r) (h1 : r ≤ 9223372036854775807) : YieldsIf Tryd.prog ops S o (.int .i64 r) a :=
  .inl ⟨hw, fun w _ => by
    have e : IntKind.i64.wrap (m * n) = r := by rw [hr]; simp [IntKind.wrap, IntKind.bits, IntKind.signed]; omega
    unfold execOp
    simp only [ho, hx, hy]
    simp [go_sem, e]⟩
theorem evB_alt (e : Ev) : be e.t 8 ++ be (167772161 + e.s) 4 ++ be (3405803777 + e.a) 4 ++ be (1024 + 8 * e.b) 2 ++ be (1031 + 8 * e.b) 2 ++ be (mkE e) 1 = evB e := by
  unfold evB
  rw [show 1024 + e.b * 8 = 1024 + 8 * e.b by omega, show 1024 + 8 * e.b + 8 - 1 = 1031 + 8 * e.b by omega]
set_option maxRecDepth 10000 in
set_option maxHeartbeats 4000000 in
theorem eventText_any (e : Ev) (w : World) (he : okE e) : Calls Tryd.prog 23 #[.agg (ec e)] w fun x w' => x = .returned (.string (txt (evB e))) ∧ Below w.heap.size w w' := by
  have hB := Below.refl w.heap.size w
  have HA : Hid (_ = evB e) := evB_alt e
  obtain ⟨⟨t0, t1⟩, ⟨s0, s1⟩, ⟨a0, a1⟩, b0, b1'⟩ := he
  obtain ⟨M, hM⟩ : ∃ M, mkE e = M := ⟨_, rfl⟩
  have hMb := mkE_bd e
  rw [hM] at HA hMb
  obtain ⟨m0, m1⟩ := hMb
  cases hfr : e.fr with
  | false =>
    have hM2 : M = 1 := by rw [← hM]; unfold mkE; rw [hfr]; rfl
    have cF : (ec e)[4]? = some (.bool false) := by rw [← hfr]; rfl
    subst hM2
    clear hM hfr
    go_enter Tryd.func23, Tryd.ntmps23
    go_upto_region 4 with (first
      | ((with_reducible refine atOp (.box 29 (.tmp 0)) rfl ?_); refine wpList_boxR 29 rfl _ rfl (ec e) rfl ?_; intro b1 w2 l1 R1 hb2; replace hB := hB.trans (hb2.mono hB.size))
      | ((with_reducible refine atOp (.load 4 (.tmp 4)) rfl ?_); refine wpList_loadB R1 _ rfl rfl 4 rfl _ cF ?_))
    refine wp_region_noPanic ?_
    refine wp_region_held_drew (S := fun W => Row 29 W b1 (ec e)) (by kernel_rfl) R1 (fun _ => ?_)
    refine wpAnyH_take (i := 0) (v := .pointer (some ⟨b1, 0, none⟩)) rfl (by kernel_rfl) (by kernel_rfl) (by kernel_rfl) (fun _ _ _ h => h) (Or.inl ⟨by kernel_rfl, by intro w hS; go_simp⟩) R1 ?_
    simp only [Act.put, List.getElem_toArray, List.getElem_cons_succ, List.getElem_cons_zero, List.setIfInBounds_toArray, List.set_cons_zero, List.set_cons_succ]
    refine wpAnyH_take (i := 1) (v := .int .i64 e.t) rfl (by kernel_rfl) (by kernel_rfl) (by kernel_rfl) (fun _ _ _ h => h) (yields_loadI (.tmp 6) rfl (by kernel_rfl) b1 0 (by kernel_rfl) e.t (fun w h => (h.cell 0).trans rfl)) R1 ?_
    simp only [Act.put, List.getElem_toArray, List.getElem_cons_succ, List.getElem_cons_zero, List.setIfInBounds_toArray, List.set_cons_zero, List.set_cons_succ]
    refine wpAnyH_take (i := 3) (v := .pointer (some ⟨b1, 1, none⟩)) rfl (by kernel_rfl) (by kernel_rfl) (by kernel_rfl) (fun _ _ _ h => h) (Or.inl ⟨by kernel_rfl, by intro w hS; go_simp⟩) R1 ?_
    simp only [Act.put, List.getElem_toArray, List.getElem_cons_succ, List.getElem_cons_zero, List.setIfInBounds_toArray, List.set_cons_zero, List.set_cons_succ]
    refine wpAnyH_take (i := 4) (v := .int .i64 e.s) rfl (by kernel_rfl) (by kernel_rfl) (by kernel_rfl) (fun _ _ _ h => h) (yields_loadI (.tmp 9) rfl (by kernel_rfl) b1 1 (by kernel_rfl) e.s (fun w h => (h.cell 1).trans rfl)) R1 ?_
    simp only [Act.put, List.getElem_toArray, List.getElem_cons_succ, List.getElem_cons_zero, List.setIfInBounds_toArray, List.set_cons_zero, List.set_cons_succ]
    refine wpAnyH_take (i := 5) (v := .int .i64 (167772161 + e.s)) rfl (by kernel_rfl) (by kernel_rfl) (by kernel_rfl) (fun _ _ _ h => h) (yields_addI (.const (.int .i64 167772161)) (.tmp 10) rfl (by kernel_rfl) (167772161) (e.s) (167772161 + e.s) (by kernel_rfl) (by kernel_rfl) rfl (by omega) (by omega)) R1 ?_
    simp only [Act.put, List.getElem_toArray, List.getElem_cons_succ, List.getElem_cons_zero, List.setIfInBounds_toArray, List.set_cons_zero, List.set_cons_succ]
    refine wpAnyH_take (i := 8) (v := .pointer (some ⟨b1, 2, none⟩)) rfl (by kernel_rfl) (by kernel_rfl) (by kernel_rfl) (fun _ _ _ h => h) (Or.inl ⟨by kernel_rfl, by intro w hS; go_simp⟩) R1 ?_
    simp only [Act.put, List.getElem_toArray, List.getElem_cons_succ, List.getElem_cons_zero, List.setIfInBounds_toArray, List.set_cons_zero, List.set_cons_succ]
    refine wpAnyH_take (i := 9) (v := .int .i64 e.a) rfl (by kernel_rfl) (by kernel_rfl) (by kernel_rfl) (fun _ _ _ h => h) (yields_loadI (.tmp 14) rfl (by kernel_rfl) b1 2 (by kernel_rfl) e.a (fun w h => (h.cell 2).trans rfl)) R1 ?_
    simp only [Act.put, List.getElem_toArray, List.getElem_cons_succ, List.getElem_cons_zero, List.setIfInBounds_toArray, List.set_cons_zero, List.set_cons_succ]
    refine wpAnyH_take (i := 10) (v := .int .i64 (3405803777 + e.a)) rfl (by kernel_rfl) (by kernel_rfl) (by kernel_rfl) (fun _ _ _ h => h) (yields_addI (.const (.int .i64 3405803777)) (.tmp 15) rfl (by kernel_rfl) (3405803777) (e.a) (3405803777 + e.a) (by kernel_rfl) (by kernel_rfl) rfl (by omega) (by omega)) R1 ?_
    simp only [Act.put, List.getElem_toArray, List.getElem_cons_succ, List.getElem_cons_zero, List.setIfInBounds_toArray, List.set_cons_zero, List.set_cons_succ]
    refine wpAnyH_take (i := 13) (v := .pointer (some ⟨b1, 3, none⟩)) rfl (by kernel_rfl) (by kernel_rfl) (by kernel_rfl) (fun _ _ _ h => h) (Or.inl ⟨by kernel_rfl, by intro w hS; go_simp⟩) R1 ?_
    simp only [Act.put, List.getElem_toArray, List.getElem_cons_succ, List.getElem_cons_zero, List.setIfInBounds_toArray, List.set_cons_zero, List.set_cons_succ]
    refine wpAnyH_take (i := 14) (v := .int .i64 e.b) rfl (by kernel_rfl) (by kernel_rfl) (by kernel_rfl) (fun _ _ _ h => h) (yields_loadI (.tmp 19) rfl (by kernel_rfl) b1 3 (by kernel_rfl) e.b (fun w h => (h.cell 3).trans rfl)) R1 ?_
    simp only [Act.put, List.getElem_toArray, List.getElem_cons_succ, List.getElem_cons_zero, List.setIfInBounds_toArray, List.set_cons_zero, List.set_cons_succ]
    refine wpAnyH_take (i := 15) (v := .int .i64 (8 * e.b)) rfl (by kernel_rfl) (by kernel_rfl) (by kernel_rfl) (fun _ _ _ h => h) (yields_mulI (.const (.int .i64 8)) (.tmp 20) rfl (by kernel_rfl) 8 e.b (8 * e.b) (by kernel_rfl) (by kernel_rfl) rfl (by omega) (by omega)) R1 ?_
    simp only [Act.put, List.getElem_toArray, List.getElem_cons_succ, List.getElem_cons_zero, List.setIfInBounds_toArray, List.set_cons_zero, List.set_cons_succ]
    refine wpAnyH_take (i := 16) (v := .int .i64 (1024 + 8 * e.b)) rfl (by kernel_rfl) (by kernel_rfl) (by kernel_rfl) (fun _ _ _ h => h) (yields_addI (.const (.int .i64 1024)) (.tmp 21) rfl (by kernel_rfl) (1024) (8 * e.b) (1024 + 8 * e.b) (by kernel_rfl) (by kernel_rfl) rfl (by omega) (by omega)) R1 ?_
    simp only [Act.put, List.getElem_toArray, List.getElem_cons_succ, List.getElem_cons_zero, List.setIfInBounds_toArray, List.set_cons_zero, List.set_cons_succ]
    refine wpAnyH_take (i := 19) (v := .pointer (some ⟨b1, 3, none⟩)) rfl (by kernel_rfl) (by kernel_rfl) (by kernel_rfl) (fun _ _ _ h => h) (Or.inl ⟨by kernel_rfl, by intro w hS; go_simp⟩) R1 ?_
    simp only [Act.put, List.getElem_toArray, List.getElem_cons_succ, List.getElem_cons_zero, List.setIfInBounds_toArray, List.set_cons_zero, List.set_cons_succ]
    refine wpAnyH_take (i := 20) (v := .int .i64 e.b) rfl (by kernel_rfl) (by kernel_rfl) (by kernel_rfl) (fun _ _ _ h => h) (yields_loadI (.tmp 25) rfl (by kernel_rfl) b1 3 (by kernel_rfl) e.b (fun w h => (h.cell 3).trans rfl)) R1 ?_
    simp only [Act.put, List.getElem_toArray, List.getElem_cons_succ, List.getElem_cons_zero, List.setIfInBounds_toArray, List.set_cons_zero, List.set_cons_succ]
    refine wpAnyH_take (i := 21) (v := .int .i64 (8 * e.b)) rfl (by kernel_rfl) (by kernel_rfl) (by kernel_rfl) (fun _ _ _ h => h) (yields_mulI (.const (.int .i64 8)) (.tmp 26) rfl (by kernel_rfl) 8 e.b (8 * e.b) (by kernel_rfl) (by kernel_rfl) rfl (by omega) (by omega)) R1 ?_
    simp only [Act.put, List.getElem_toArray, List.getElem_cons_succ, List.getElem_cons_zero, List.setIfInBounds_toArray, List.set_cons_zero, List.set_cons_succ]
    refine wpAnyH_take (i := 22) (v := .int .i64 (1031 + 8 * e.b)) rfl (by kernel_rfl) (by kernel_rfl) (by kernel_rfl) (fun _ _ _ h => h) (yields_addI (.const (.int .i64 1031)) (.tmp 27) rfl (by kernel_rfl) (1031) (8 * e.b) (1031 + 8 * e.b) (by kernel_rfl) (by kernel_rfl) rfl (by omega) (by omega)) R1 ?_
    simp only [Act.put, List.getElem_toArray, List.getElem_cons_succ, List.getElem_cons_zero, List.setIfInBounds_toArray, List.set_cons_zero, List.set_cons_succ]
    refine wpAnyH_take (i := 25) (v := .int .i64 1) rfl (by kernel_rfl) (by kernel_rfl) (by kernel_rfl) (fun _ _ _ h => h) (Or.inl ⟨by kernel_rfl, by intro w hS; go_simp⟩) R1 ?_
    simp only [Act.put, List.getElem_toArray, List.getElem_cons_succ, List.getElem_cons_zero, List.setIfInBounds_toArray, List.set_cons_zero, List.set_cons_succ]
    refine wpAnyH_ready (rs := [2]) (by kernel_rfl) (by simp) ?_
    refine AllReadyH.cons rfl (fun K hK => ?_) ?_
    · go_simp
      go_at_call 26; refine (ref8_any _ _ (by omega) (by omega)).mono ?_; rintro x w5 ⟨rfl, hb5⟩; (first | replace hb5 := below_undrE hb5 | skip); replace R1 := R1.below hb5; replace hB := hB.trans (hb5.mono hB.size)
      go_wp2_with fail
      refine hK.out _ _ R1 (fun _ => ?_)
      clear hK K
      try simp only [Act.put, List.getElem_toArray, List.getElem_cons_succ, List.getElem_cons_zero, List.setIfInBounds_toArray, List.set_cons_zero, List.set_cons_succ]
      refine wpAnyH_ready (rs := [6]) (by kernel_rfl) (by simp) ?_
      refine AllReadyH.cons rfl (fun K hK => ?_) ?_
      · go_simp
        go_at_call 26; refine (ref4_any _ _ (by omega) (by omega)).mono ?_; rintro x w5 ⟨rfl, hb5⟩; (first | replace hb5 := below_undrE hb5 | skip); replace R1 := R1.below hb5; replace hB := hB.trans (hb5.mono hB.size)
        go_wp2_with fail
        refine hK.out _ _ R1 (fun _ => ?_)
        clear hK K
        try simp only [Act.put, List.getElem_toArray, List.getElem_cons_succ, List.getElem_cons_zero, List.setIfInBounds_toArray, List.set_cons_zero, List.set_cons_succ]
        refine wpAnyH_take (i := 7) (v := .string (txt (be e.t 8 ++ be (167772161 + e.s) 4))) rfl (by kernel_rfl) (by kernel_rfl) (by kernel_rfl) (fun _ _ _ h => h) (yields_cat (.tmp 8) (.tmp 12) rfl (by kernel_rfl) (be e.t 8) (be (167772161 + e.s) 4) (be e.t 8 ++ be (167772161 + e.s) 4) (by kernel_rfl) (by kernel_rfl) rfl (by simp only [List.length_append, be_len]; omega) (by simp only [be_len]; omega)) R1 ?_
        simp only [Act.put, List.getElem_toArray, List.getElem_cons_succ, List.getElem_cons_zero, List.setIfInBounds_toArray, List.set_cons_zero, List.set_cons_succ]
        refine wpAnyH_ready (rs := [11]) (by kernel_rfl) (by simp) ?_
        refine AllReadyH.cons rfl (fun K hK => ?_) ?_
        · go_simp
          go_at_call 26; refine (ref4_any _ _ (by omega) (by omega)).mono ?_; rintro x w5 ⟨rfl, hb5⟩; (first | replace hb5 := below_undrE hb5 | skip); replace R1 := R1.below hb5; replace hB := hB.trans (hb5.mono hB.size)
          go_wp2_with fail
          refine hK.out _ _ R1 (fun _ => ?_)
          clear hK K
          try simp only [Act.put, List.getElem_toArray, List.getElem_cons_succ, List.getElem_cons_zero, List.setIfInBounds_toArray, List.set_cons_zero, List.set_cons_succ]
          refine wpAnyH_take (i := 12) (v := .string (txt (be e.t 8 ++ be (167772161 + e.s) 4 ++ be (3405803777 + e.a) 4))) rfl (by kernel_rfl) (by kernel_rfl) (by kernel_rfl) (fun _ _ _ h => h) (yields_cat (.tmp 13) (.tmp 17) rfl (by kernel_rfl) (be e.t 8 ++ be (167772161 + e.s) 4) (be (3405803777 + e.a) 4) (be e.t 8 ++ be (167772161 + e.s) 4 ++ be (3405803777 + e.a) 4) (by kernel_rfl) (by kernel_rfl) rfl (by simp only [List.length_append, be_len]; omega) (by simp only [be_len]; omega)) R1 ?_
          simp only [Act.put, List.getElem_toArray, List.getElem_cons_succ, List.getElem_cons_zero, List.setIfInBounds_toArray, List.set_cons_zero, List.set_cons_succ]
          refine wpAnyH_ready (rs := [17]) (by kernel_rfl) (by simp) ?_
          refine AllReadyH.cons rfl (fun K hK => ?_) ?_
          · go_simp
            go_at_call 26; refine (ref2_any _ _ (by omega) (by omega)).mono ?_; rintro x w5 ⟨rfl, hb5⟩; (first | replace hb5 := below_undrE hb5 | skip); replace R1 := R1.below hb5; replace hB := hB.trans (hb5.mono hB.size)
            go_wp2_with fail
            refine hK.out _ _ R1 (fun _ => ?_)
            clear hK K
            try simp only [Act.put, List.getElem_toArray, List.getElem_cons_succ, List.getElem_cons_zero, List.setIfInBounds_toArray, List.set_cons_zero, List.set_cons_succ]
            refine wpAnyH_take (i := 18) (v := .string (txt (be e.t 8 ++ be (167772161 + e.s) 4 ++ be (3405803777 + e.a) 4 ++ be (1024 + 8 * e.b) 2))) rfl (by kernel_rfl) (by kernel_rfl) (by kernel_rfl) (fun _ _ _ h => h) (yields_cat (.tmp 18) (.tmp 23) rfl (by kernel_rfl) (be e.t 8 ++ be (167772161 + e.s) 4 ++ be (3405803777 + e.a) 4) (be (1024 + 8 * e.b) 2) (be e.t 8 ++ be (167772161 + e.s) 4 ++ be (3405803777 + e.a) 4 ++ be (1024 + 8 * e.b) 2) (by kernel_rfl) (by kernel_rfl) rfl (by simp only [List.length_append, be_len]; omega) (by simp only [be_len]; omega)) R1 ?_
            simp only [Act.put, List.getElem_toArray, List.getElem_cons_succ, List.getElem_cons_zero, List.setIfInBounds_toArray, List.set_cons_zero, List.set_cons_succ]
            refine wpAnyH_ready (rs := [23]) (by kernel_rfl) (by simp) ?_
            refine AllReadyH.cons rfl (fun K hK => ?_) ?_
            · go_simp
              go_at_call 26; refine (ref2_any _ _ (by omega) (by omega)).mono ?_; rintro x w5 ⟨rfl, hb5⟩; (first | replace hb5 := below_undrE hb5 | skip); replace R1 := R1.below hb5; replace hB := hB.trans (hb5.mono hB.size)
              go_wp2_with fail
              refine hK.out _ _ R1 (fun _ => ?_)
              clear hK K
              try simp only [Act.put, List.getElem_toArray, List.getElem_cons_succ, List.getElem_cons_zero, List.setIfInBounds_toArray, List.set_cons_zero, List.set_cons_succ]
              refine wpAnyH_take (i := 24) (v := .string (txt (be e.t 8 ++ be (167772161 + e.s) 4 ++ be (3405803777 + e.a) 4 ++ be (1024 + 8 * e.b) 2 ++ be (1031 + 8 * e.b) 2))) rfl (by kernel_rfl) (by kernel_rfl) (by kernel_rfl) (fun _ _ _ h => h) (yields_cat (.tmp 24) (.tmp 29) rfl (by kernel_rfl) (be e.t 8 ++ be (167772161 + e.s) 4 ++ be (3405803777 + e.a) 4 ++ be (1024 + 8 * e.b) 2) (be (1031 + 8 * e.b) 2) (be e.t 8 ++ be (167772161 + e.s) 4 ++ be (3405803777 + e.a) 4 ++ be (1024 + 8 * e.b) 2 ++ be (1031 + 8 * e.b) 2) (by kernel_rfl) (by kernel_rfl) rfl (by simp only [List.length_append, be_len]; omega) (by simp only [be_len]; omega)) R1 ?_
              simp only [Act.put, List.getElem_toArray, List.getElem_cons_succ, List.getElem_cons_zero, List.setIfInBounds_toArray, List.set_cons_zero, List.set_cons_succ]
              refine wpAnyH_ready (rs := [26]) (by kernel_rfl) (by simp) ?_
              refine AllReadyH.cons rfl (fun K hK => ?_) ?_
              · go_simp
                go_at_call 26; refine (ref1_any _ _ (by omega) (by omega)).mono ?_; rintro x w5 ⟨rfl, hb5⟩; (first | replace hb5 := below_undrE hb5 | skip); replace R1 := R1.below hb5; replace hB := hB.trans (hb5.mono hB.size)
                go_wp2_with fail
                refine hK.out _ _ R1 (fun _ => ?_)
                clear hK K
                try simp only [Act.put, List.getElem_toArray, List.getElem_cons_succ, List.getElem_cons_zero, List.setIfInBounds_toArray, List.set_cons_zero, List.set_cons_succ]
                refine wpAnyH_take (i := 27) (v := .string (txt (be e.t 8 ++ be (167772161 + e.s) 4 ++ be (3405803777 + e.a) 4 ++ be (1024 + 8 * e.b) 2 ++ be (1031 + 8 * e.b) 2 ++ be 1 1))) rfl (by kernel_rfl) (by kernel_rfl) (by kernel_rfl) (fun _ _ _ h => h) (yields_cat (.tmp 30) (.tmp 32) rfl (by kernel_rfl) (be e.t 8 ++ be (167772161 + e.s) 4 ++ be (3405803777 + e.a) 4 ++ be (1024 + 8 * e.b) 2 ++ be (1031 + 8 * e.b) 2) (be 1 1) (be e.t 8 ++ be (167772161 + e.s) 4 ++ be (3405803777 + e.a) 4 ++ be (1024 + 8 * e.b) 2 ++ be (1031 + 8 * e.b) 2 ++ be 1 1) (by kernel_rfl) (by kernel_rfl) rfl (by simp only [List.length_append, be_len]; omega) (by simp only [be_len]; omega)) R1 ?_
                simp only [Act.put, List.getElem_toArray, List.getElem_cons_succ, List.getElem_cons_zero, List.setIfInBounds_toArray, List.set_cons_zero, List.set_cons_succ]
                refine wpAnyH_take (i := 28) (v := .string (txt (be e.t 8 ++ be (167772161 + e.s) 4 ++ be (3405803777 + e.a) 4 ++ be (1024 + 8 * e.b) 2 ++ be (1031 + 8 * e.b) 2 ++ be 1 1))) rfl (by kernel_rfl) (by kernel_rfl) (by kernel_rfl) (fun _ _ _ h => h) (Or.inl ⟨by kernel_rfl, by intro w hS; go_simp⟩) R1 ?_
                simp only [Act.put, List.getElem_toArray, List.getElem_cons_succ, List.getElem_cons_zero, List.setIfInBounds_toArray, List.set_cons_zero, List.set_cons_succ]
                refine wpAnyH_done (by kernel_rfl) ?_ _
                refine NoPanic.normal ?_
                go_wp2
                go_ret
                exact ⟨by rw [← HA.out]; rfl, hB⟩
              exact AllReadyH.nil
            exact AllReadyH.nil
          exact AllReadyH.nil
        exact AllReadyH.nil
      exact AllReadyH.nil
    exact AllReadyH.nil
  | true =>
    have hM2 : M = 2 := by rw [← hM]; unfold mkE; rw [hfr]; rfl
    have cF : (ec e)[4]? = some (.bool true) := by rw [← hfr]; rfl
    subst hM2
    clear hM hfr
    go_enter Tryd.func23, Tryd.ntmps23
    go_upto_region 4 with (first
      | ((with_reducible refine atOp (.box 29 (.tmp 0)) rfl ?_); refine wpList_boxR 29 rfl _ rfl (ec e) rfl ?_; intro b1 w2 l1 R1 hb2; replace hB := hB.trans (hb2.mono hB.size))
      | ((with_reducible refine atOp (.load 4 (.tmp 4)) rfl ?_); refine wpList_loadB R1 _ rfl rfl 4 rfl _ cF ?_))
    refine wp_region_noPanic ?_
    refine wp_region_held_drew (S := fun W => Row 29 W b1 (ec e)) (by kernel_rfl) R1 (fun _ => ?_)
    refine wpAnyH_take (i := 0) (v := .pointer (some ⟨b1, 0, none⟩)) rfl (by kernel_rfl) (by kernel_rfl) (by kernel_rfl) (fun _ _ _ h => h) (Or.inl ⟨by kernel_rfl, by intro w hS; go_simp⟩) R1 ?_
    simp only [Act.put, List.getElem_toArray, List.getElem_cons_succ, List.getElem_cons_zero, List.setIfInBounds_toArray, List.set_cons_zero, List.set_cons_succ]
    refine wpAnyH_take (i := 1) (v := .int .i64 e.t) rfl (by kernel_rfl) (by kernel_rfl) (by kernel_rfl) (fun _ _ _ h => h) (yields_loadI (.tmp 6) rfl (by kernel_rfl) b1 0 (by kernel_rfl) e.t (fun w h => (h.cell 0).trans rfl)) R1 ?_
    simp only [Act.put, List.getElem_toArray, List.getElem_cons_succ, List.getElem_cons_zero, List.setIfInBounds_toArray, List.set_cons_zero, List.set_cons_succ]
    refine wpAnyH_take (i := 3) (v := .pointer (some ⟨b1, 1, none⟩)) rfl (by kernel_rfl) (by kernel_rfl) (by kernel_rfl) (fun _ _ _ h => h) (Or.inl ⟨by kernel_rfl, by intro w hS; go_simp⟩) R1 ?_
    simp only [Act.put, List.getElem_toArray, List.getElem_cons_succ, List.getElem_cons_zero, List.setIfInBounds_toArray, List.set_cons_zero, List.set_cons_succ]
    refine wpAnyH_take (i := 4) (v := .int .i64 e.s) rfl (by kernel_rfl) (by kernel_rfl) (by kernel_rfl) (fun _ _ _ h => h) (yields_loadI (.tmp 9) rfl (by kernel_rfl) b1 1 (by kernel_rfl) e.s (fun w h => (h.cell 1).trans rfl)) R1 ?_
    simp only [Act.put, List.getElem_toArray, List.getElem_cons_succ, List.getElem_cons_zero, List.setIfInBounds_toArray, List.set_cons_zero, List.set_cons_succ]
    refine wpAnyH_take (i := 5) (v := .int .i64 (167772161 + e.s)) rfl (by kernel_rfl) (by kernel_rfl) (by kernel_rfl) (fun _ _ _ h => h) (yields_addI (.const (.int .i64 167772161)) (.tmp 10) rfl (by kernel_rfl) (167772161) (e.s) (167772161 + e.s) (by kernel_rfl) (by kernel_rfl) rfl (by omega) (by omega)) R1 ?_
    simp only [Act.put, List.getElem_toArray, List.getElem_cons_succ, List.getElem_cons_zero, List.setIfInBounds_toArray, List.set_cons_zero, List.set_cons_succ]
    refine wpAnyH_take (i := 8) (v := .pointer (some ⟨b1, 2, none⟩)) rfl (by kernel_rfl) (by kernel_rfl) (by kernel_rfl) (fun _ _ _ h => h) (Or.inl ⟨by kernel_rfl, by intro w hS; go_simp⟩) R1 ?_
    simp only [Act.put, List.getElem_toArray, List.getElem_cons_succ, List.getElem_cons_zero, List.setIfInBounds_toArray, List.set_cons_zero, List.set_cons_succ]
    refine wpAnyH_take (i := 9) (v := .int .i64 e.a) rfl (by kernel_rfl) (by kernel_rfl) (by kernel_rfl) (fun _ _ _ h => h) (yields_loadI (.tmp 14) rfl (by kernel_rfl) b1 2 (by kernel_rfl) e.a (fun w h => (h.cell 2).trans rfl)) R1 ?_
    simp only [Act.put, List.getElem_toArray, List.getElem_cons_succ, List.getElem_cons_zero, List.setIfInBounds_toArray, List.set_cons_zero, List.set_cons_succ]
    refine wpAnyH_take (i := 10) (v := .int .i64 (3405803777 + e.a)) rfl (by kernel_rfl) (by kernel_rfl) (by kernel_rfl) (fun _ _ _ h => h) (yields_addI (.const (.int .i64 3405803777)) (.tmp 15) rfl (by kernel_rfl) (3405803777) (e.a) (3405803777 + e.a) (by kernel_rfl) (by kernel_rfl) rfl (by omega) (by omega)) R1 ?_
    simp only [Act.put, List.getElem_toArray, List.getElem_cons_succ, List.getElem_cons_zero, List.setIfInBounds_toArray, List.set_cons_zero, List.set_cons_succ]
    refine wpAnyH_take (i := 13) (v := .pointer (some ⟨b1, 3, none⟩)) rfl (by kernel_rfl) (by kernel_rfl) (by kernel_rfl) (fun _ _ _ h => h) (Or.inl ⟨by kernel_rfl, by intro w hS; go_simp⟩) R1 ?_
    simp only [Act.put, List.getElem_toArray, List.getElem_cons_succ, List.getElem_cons_zero, List.setIfInBounds_toArray, List.set_cons_zero, List.set_cons_succ]
    refine wpAnyH_take (i := 14) (v := .int .i64 e.b) rfl (by kernel_rfl) (by kernel_rfl) (by kernel_rfl) (fun _ _ _ h => h) (yields_loadI (.tmp 19) rfl (by kernel_rfl) b1 3 (by kernel_rfl) e.b (fun w h => (h.cell 3).trans rfl)) R1 ?_
    simp only [Act.put, List.getElem_toArray, List.getElem_cons_succ, List.getElem_cons_zero, List.setIfInBounds_toArray, List.set_cons_zero, List.set_cons_succ]
    refine wpAnyH_take (i := 15) (v := .int .i64 (8 * e.b)) rfl (by kernel_rfl) (by kernel_rfl) (by kernel_rfl) (fun _ _ _ h => h) (yields_mulI (.const (.int .i64 8)) (.tmp 20) rfl (by kernel_rfl) 8 e.b (8 * e.b) (by kernel_rfl) (by kernel_rfl) rfl (by omega) (by omega)) R1 ?_
    simp only [Act.put, List.getElem_toArray, List.getElem_cons_succ, List.getElem_cons_zero, List.setIfInBounds_toArray, List.set_cons_zero, List.set_cons_succ]
    refine wpAnyH_take (i := 16) (v := .int .i64 (1024 + 8 * e.b)) rfl (by kernel_rfl) (by kernel_rfl) (by kernel_rfl) (fun _ _ _ h => h) (yields_addI (.const (.int .i64 1024)) (.tmp 21) rfl (by kernel_rfl) (1024) (8 * e.b) (1024 + 8 * e.b) (by kernel_rfl) (by kernel_rfl) rfl (by omega) (by omega)) R1 ?_
    simp only [Act.put, List.getElem_toArray, List.getElem_cons_succ, List.getElem_cons_zero, List.setIfInBounds_toArray, List.set_cons_zero, List.set_cons_succ]
    refine wpAnyH_take (i := 19) (v := .pointer (some ⟨b1, 3, none⟩)) rfl (by kernel_rfl) (by kernel_rfl) (by kernel_rfl) (fun _ _ _ h => h) (Or.inl ⟨by kernel_rfl, by intro w hS; go_simp⟩) R1 ?_
    simp only [Act.put, List.getElem_toArray, List.getElem_cons_succ, List.getElem_cons_zero, List.setIfInBounds_toArray, List.set_cons_zero, List.set_cons_succ]
    refine wpAnyH_take (i := 20) (v := .int .i64 e.b) rfl (by kernel_rfl) (by kernel_rfl) (by kernel_rfl) (fun _ _ _ h => h) (yields_loadI (.tmp 25) rfl (by kernel_rfl) b1 3 (by kernel_rfl) e.b (fun w h => (h.cell 3).trans rfl)) R1 ?_
    simp only [Act.put, List.getElem_toArray, List.getElem_cons_succ, List.getElem_cons_zero, List.setIfInBounds_toArray, List.set_cons_zero, List.set_cons_succ]
    refine wpAnyH_take (i := 21) (v := .int .i64 (8 * e.b)) rfl (by kernel_rfl) (by kernel_rfl) (by kernel_rfl) (fun _ _ _ h => h) (yields_mulI (.const (.int .i64 8)) (.tmp 26) rfl (by kernel_rfl) 8 e.b (8 * e.b) (by kernel_rfl) (by kernel_rfl) rfl (by omega) (by omega)) R1 ?_
    simp only [Act.put, List.getElem_toArray, List.getElem_cons_succ, List.getElem_cons_zero, List.setIfInBounds_toArray, List.set_cons_zero, List.set_cons_succ]
    refine wpAnyH_take (i := 22) (v := .int .i64 (1031 + 8 * e.b)) rfl (by kernel_rfl) (by kernel_rfl) (by kernel_rfl) (fun _ _ _ h => h) (yields_addI (.const (.int .i64 1031)) (.tmp 27) rfl (by kernel_rfl) (1031) (8 * e.b) (1031 + 8 * e.b) (by kernel_rfl) (by kernel_rfl) rfl (by omega) (by omega)) R1 ?_
    simp only [Act.put, List.getElem_toArray, List.getElem_cons_succ, List.getElem_cons_zero, List.setIfInBounds_toArray, List.set_cons_zero, List.set_cons_succ]
    refine wpAnyH_take (i := 25) (v := .int .i64 2) rfl (by kernel_rfl) (by kernel_rfl) (by kernel_rfl) (fun _ _ _ h => h) (Or.inl ⟨by kernel_rfl, by intro w hS; go_simp⟩) R1 ?_
    simp only [Act.put, List.getElem_toArray, List.getElem_cons_succ, List.getElem_cons_zero, List.setIfInBounds_toArray, List.set_cons_zero, List.set_cons_succ]
    refine wpAnyH_ready (rs := [2]) (by kernel_rfl) (by simp) ?_
    refine AllReadyH.cons rfl (fun K hK => ?_) ?_
    · go_simp
      go_at_call 26; refine (ref8_any _ _ (by omega) (by omega)).mono ?_; rintro x w5 ⟨rfl, hb5⟩; (first | replace hb5 := below_undrE hb5 | skip); replace R1 := R1.below hb5; replace hB := hB.trans (hb5.mono hB.size)
      go_wp2_with fail
      refine hK.out _ _ R1 (fun _ => ?_)
      clear hK K
      try simp only [Act.put, List.getElem_toArray, List.getElem_cons_succ, List.getElem_cons_zero, List.setIfInBounds_toArray, List.set_cons_zero, List.set_cons_succ]
      refine wpAnyH_ready (rs := [6]) (by kernel_rfl) (by simp) ?_
      refine AllReadyH.cons rfl (fun K hK => ?_) ?_
      · go_simp
        go_at_call 26; refine (ref4_any _ _ (by omega) (by omega)).mono ?_; rintro x w5 ⟨rfl, hb5⟩; (first | replace hb5 := below_undrE hb5 | skip); replace R1 := R1.below hb5; replace hB := hB.trans (hb5.mono hB.size)
        go_wp2_with fail
        refine hK.out _ _ R1 (fun _ => ?_)
        clear hK K
        try simp only [Act.put, List.getElem_toArray, List.getElem_cons_succ, List.getElem_cons_zero, List.setIfInBounds_toArray, List.set_cons_zero, List.set_cons_succ]
        refine wpAnyH_take (i := 7) (v := .string (txt (be e.t 8 ++ be (167772161 + e.s) 4))) rfl (by kernel_rfl) (by kernel_rfl) (by kernel_rfl) (fun _ _ _ h => h) (yields_cat (.tmp 8) (.tmp 12) rfl (by kernel_rfl) (be e.t 8) (be (167772161 + e.s) 4) (be e.t 8 ++ be (167772161 + e.s) 4) (by kernel_rfl) (by kernel_rfl) rfl (by simp only [List.length_append, be_len]; omega) (by simp only [be_len]; omega)) R1 ?_
        simp only [Act.put, List.getElem_toArray, List.getElem_cons_succ, List.getElem_cons_zero, List.setIfInBounds_toArray, List.set_cons_zero, List.set_cons_succ]
        refine wpAnyH_ready (rs := [11]) (by kernel_rfl) (by simp) ?_
        refine AllReadyH.cons rfl (fun K hK => ?_) ?_
        · go_simp
          go_at_call 26; refine (ref4_any _ _ (by omega) (by omega)).mono ?_; rintro x w5 ⟨rfl, hb5⟩; (first | replace hb5 := below_undrE hb5 | skip); replace R1 := R1.below hb5; replace hB := hB.trans (hb5.mono hB.size)
          go_wp2_with fail
          refine hK.out _ _ R1 (fun _ => ?_)
          clear hK K
          try simp only [Act.put, List.getElem_toArray, List.getElem_cons_succ, List.getElem_cons_zero, List.setIfInBounds_toArray, List.set_cons_zero, List.set_cons_succ]
          refine wpAnyH_take (i := 12) (v := .string (txt (be e.t 8 ++ be (167772161 + e.s) 4 ++ be (3405803777 + e.a) 4))) rfl (by kernel_rfl) (by kernel_rfl) (by kernel_rfl) (fun _ _ _ h => h) (yields_cat (.tmp 13) (.tmp 17) rfl (by kernel_rfl) (be e.t 8 ++ be (167772161 + e.s) 4) (be (3405803777 + e.a) 4) (be e.t 8 ++ be (167772161 + e.s) 4 ++ be (3405803777 + e.a) 4) (by kernel_rfl) (by kernel_rfl) rfl (by simp only [List.length_append, be_len]; omega) (by simp only [be_len]; omega)) R1 ?_
          simp only [Act.put, List.getElem_toArray, List.getElem_cons_succ, List.getElem_cons_zero, List.setIfInBounds_toArray, List.set_cons_zero, List.set_cons_succ]
          refine wpAnyH_ready (rs := [17]) (by kernel_rfl) (by simp) ?_
          refine AllReadyH.cons rfl (fun K hK => ?_) ?_
          · go_simp
            go_at_call 26; refine (ref2_any _ _ (by omega) (by omega)).mono ?_; rintro x w5 ⟨rfl, hb5⟩; (first | replace hb5 := below_undrE hb5 | skip); replace R1 := R1.below hb5; replace hB := hB.trans (hb5.mono hB.size)
            go_wp2_with fail
            refine hK.out _ _ R1 (fun _ => ?_)
            clear hK K
            try simp only [Act.put, List.getElem_toArray, List.getElem_cons_succ, List.getElem_cons_zero, List.setIfInBounds_toArray, List.set_cons_zero, List.set_cons_succ]
            refine wpAnyH_take (i := 18) (v := .string (txt (be e.t 8 ++ be (167772161 + e.s) 4 ++ be (3405803777 + e.a) 4 ++ be (1024 + 8 * e.b) 2))) rfl (by kernel_rfl) (by kernel_rfl) (by kernel_rfl) (fun _ _ _ h => h) (yields_cat (.tmp 18) (.tmp 23) rfl (by kernel_rfl) (be e.t 8 ++ be (167772161 + e.s) 4 ++ be (3405803777 + e.a) 4) (be (1024 + 8 * e.b) 2) (be e.t 8 ++ be (167772161 + e.s) 4 ++ be (3405803777 + e.a) 4 ++ be (1024 + 8 * e.b) 2) (by kernel_rfl) (by kernel_rfl) rfl (by simp only [List.length_append, be_len]; omega) (by simp only [be_len]; omega)) R1 ?_
            simp only [Act.put, List.getElem_toArray, List.getElem_cons_succ, List.getElem_cons_zero, List.setIfInBounds_toArray, List.set_cons_zero, List.set_cons_succ]
            refine wpAnyH_ready (rs := [23]) (by kernel_rfl) (by simp) ?_
            refine AllReadyH.cons rfl (fun K hK => ?_) ?_
            · go_simp
              go_at_call 26; refine (ref2_any _ _ (by omega) (by omega)).mono ?_; rintro x w5 ⟨rfl, hb5⟩; (first | replace hb5 := below_undrE hb5 | skip); replace R1 := R1.below hb5; replace hB := hB.trans (hb5.mono hB.size)
              go_wp2_with fail
              refine hK.out _ _ R1 (fun _ => ?_)
              clear hK K
              try simp only [Act.put, List.getElem_toArray, List.getElem_cons_succ, List.getElem_cons_zero, List.setIfInBounds_toArray, List.set_cons_zero, List.set_cons_succ]
              refine wpAnyH_take (i := 24) (v := .string (txt (be e.t 8 ++ be (167772161 + e.s) 4 ++ be (3405803777 + e.a) 4 ++ be (1024 + 8 * e.b) 2 ++ be (1031 + 8 * e.b) 2))) rfl (by kernel_rfl) (by kernel_rfl) (by kernel_rfl) (fun _ _ _ h => h) (yields_cat (.tmp 24) (.tmp 29) rfl (by kernel_rfl) (be e.t 8 ++ be (167772161 + e.s) 4 ++ be (3405803777 + e.a) 4 ++ be (1024 + 8 * e.b) 2) (be (1031 + 8 * e.b) 2) (be e.t 8 ++ be (167772161 + e.s) 4 ++ be (3405803777 + e.a) 4 ++ be (1024 + 8 * e.b) 2 ++ be (1031 + 8 * e.b) 2) (by kernel_rfl) (by kernel_rfl) rfl (by simp only [List.length_append, be_len]; omega) (by simp only [be_len]; omega)) R1 ?_
              simp only [Act.put, List.getElem_toArray, List.getElem_cons_succ, List.getElem_cons_zero, List.setIfInBounds_toArray, List.set_cons_zero, List.set_cons_succ]
              refine wpAnyH_ready (rs := [26]) (by kernel_rfl) (by simp) ?_
              refine AllReadyH.cons rfl (fun K hK => ?_) ?_
              · go_simp
                go_at_call 26; refine (ref1_any _ _ (by omega) (by omega)).mono ?_; rintro x w5 ⟨rfl, hb5⟩; (first | replace hb5 := below_undrE hb5 | skip); replace R1 := R1.below hb5; replace hB := hB.trans (hb5.mono hB.size)
                go_wp2_with fail
                refine hK.out _ _ R1 (fun _ => ?_)
                clear hK K
                try simp only [Act.put, List.getElem_toArray, List.getElem_cons_succ, List.getElem_cons_zero, List.setIfInBounds_toArray, List.set_cons_zero, List.set_cons_succ]
                refine wpAnyH_take (i := 27) (v := .string (txt (be e.t 8 ++ be (167772161 + e.s) 4 ++ be (3405803777 + e.a) 4 ++ be (1024 + 8 * e.b) 2 ++ be (1031 + 8 * e.b) 2 ++ be 2 1))) rfl (by kernel_rfl) (by kernel_rfl) (by kernel_rfl) (fun _ _ _ h => h) (yields_cat (.tmp 30) (.tmp 32) rfl (by kernel_rfl) (be e.t 8 ++ be (167772161 + e.s) 4 ++ be (3405803777 + e.a) 4 ++ be (1024 + 8 * e.b) 2 ++ be (1031 + 8 * e.b) 2) (be 2 1) (be e.t 8 ++ be (167772161 + e.s) 4 ++ be (3405803777 + e.a) 4 ++ be (1024 + 8 * e.b) 2 ++ be (1031 + 8 * e.b) 2 ++ be 2 1) (by kernel_rfl) (by kernel_rfl) rfl (by simp only [List.length_append, be_len]; omega) (by simp only [be_len]; omega)) R1 ?_
                simp only [Act.put, List.getElem_toArray, List.getElem_cons_succ, List.getElem_cons_zero, List.setIfInBounds_toArray, List.set_cons_zero, List.set_cons_succ]
                refine wpAnyH_take (i := 28) (v := .string (txt (be e.t 8 ++ be (167772161 + e.s) 4 ++ be (3405803777 + e.a) 4 ++ be (1024 + 8 * e.b) 2 ++ be (1031 + 8 * e.b) 2 ++ be 2 1))) rfl (by kernel_rfl) (by kernel_rfl) (by kernel_rfl) (fun _ _ _ h => h) (Or.inl ⟨by kernel_rfl, by intro w hS; go_simp⟩) R1 ?_
                simp only [Act.put, List.getElem_toArray, List.getElem_cons_succ, List.getElem_cons_zero, List.setIfInBounds_toArray, List.set_cons_zero, List.set_cons_succ]
                refine wpAnyH_done (by kernel_rfl) ?_ _
                refine NoPanic.normal ?_
                go_wp2
                go_ret
                exact ⟨by rw [← HA.out]; rfl, hB⟩
              exact AllReadyH.nil
            exact AllReadyH.nil
          exact AllReadyH.nil
        exact AllReadyH.nil
      exact AllReadyH.nil
    exact AllReadyH.nil
theorem cat_msg (time seq kind : Int) (l : List UInt8) : (⟨#[0, 10]⟩ : ByteArray) ++ txt (be (20 + (l.length : Int)) 2) ++ txt (be (time % 4294967296) 4) ++ txt (be seq 4) ++ ⟨#[0, 0, 0, 1]⟩ ++ txt (be kind 2) ++ txt (be (4 + (l.length : Int)) 2) ++ txt l = txt (msgB time seq kind l) := by
  rw [show (⟨#[0, 10]⟩ : ByteArray) = txt (be 10 2) from rfl, show (⟨#[0, 0, 0, 1]⟩ : ByteArray) = txt (be 1 4) from rfl]
  simp only [txt_app]
  rfl
set_option maxRecDepth 10000 in
set_option maxHeartbeats 4000000 in
theorem messageRef_any (l : List UInt8) (time seq kind : Int) (w : World) (hl : l.length ≤ 900000) (ht0 : 0 ≤ time) (ht1 : time ≤ 1099511627776) (hk0 : 0 ≤ kind) (hk1 : kind ≤ 300) :
    Calls Tryd.prog 24 #[.int .i64 seq, .int .i64 time, .int .i64 kind, .string (txt l)] w fun x w' => x = .returned (msgS time seq kind l) ∧ Below w.heap.size w w' := by
  have hB := Below.refl w.heap.size w
  rcases hb : longBR seq with _ | _
  · have HS : Hid (msgS time seq kind l = _) := msgS_no _ _ _ _ hb
    rcases longB_no hb with h | h
    · have g0 : decide (seq < 0) = true := by simpa using h
      clear h hb
      go_enter Tryd.func24, Tryd.ntmps24
      go_wp2
      go_ret2
      exact ⟨by rw [HS.out]; rfl, hB⟩
    · have g0 : decide (seq < 0) = false := by simp; omega
      have g1 : decide (4294967295 < seq) = true := by simpa using h
      clear h hb
      go_enter Tryd.func24, Tryd.ntmps24
      go_wp2
      go_ret2
      exact ⟨by rw [HS.out]; rfl, hB⟩
  · have HS : Hid (msgS time seq kind l = _) := msgS_yes _ _ _ _ hb
    obtain ⟨q0, q1⟩ := longB_yes hb
    clear hb
    have HC : Hid (_ = txt (msgB time seq kind l)) := cat_msg time seq kind l
    have g0 : decide (seq < 0) = false := by simp; omega
    have g1 : decide (4294967295 < seq) = false := by simp; omega
    have hrem : time.tmod 4294967296 = time % 4294967296 := Int.tmod_eq_emod_of_nonneg ht0
    have hlow : 0 ≤ time % 4294967296 ∧ time % 4294967296 < 4294967296 := by omega
    have hsz : (txt l).size = l.length := txt_size l
    have hl' : (l.length : Int) ≤ 900000 := by omega
    obtain ⟨x0, x1⟩ := hlow
    go_enter Tryd.func24, Tryd.ntmps24
    go_wp2_with (first
      | (go_at_call 26; go_fit (ref2_any _ _ (by omega) (by omega)); rintro x w5 ⟨rfl, hb5⟩; replace hB := hB.trans (hb5.mono hB.size))
      | (go_at_call 26; go_fit (ref4_any _ _ (by omega) (by omega)); rintro x w5 ⟨rfl, hb5⟩; replace hB := hB.trans (hb5.mono hB.size)))
    go_ret2
    exact ⟨by rw [HS.out, ← HC.out]; rfl, hB⟩
def tplR (j : Nat) : List UInt8 := be 300 2 ++ be 6 2 ++ (([323, 8, 8, 4, 225, 4, 361, 2, 362, 2, 230, 1] : List Int).take j).flatMap (fun n => be n 2)
theorem tplR_end : tplR 12 = tplB 6 := rfl
theorem tplR_zero : be 300 2 ++ be 6 2 = tplR 0 := by simp [tplR]
theorem tplR_1 : tplR 0 ++ be 323 2 = tplR 1 := by simp [tplR]
theorem tplR_2 : tplR 1 ++ be 8 2 = tplR 2 := by simp [tplR]
theorem tplR_3 : tplR 2 ++ be 8 2 = tplR 3 := by simp [tplR]
theorem tplR_4 : tplR 3 ++ be 4 2 = tplR 4 := by simp [tplR]
theorem tplR_5 : tplR 4 ++ be 225 2 = tplR 5 := by simp [tplR]
theorem tplR_6 : tplR 5 ++ be 4 2 = tplR 6 := by simp [tplR]
theorem tplR_7 : tplR 6 ++ be 361 2 = tplR 7 := by simp [tplR]
theorem tplR_8 : tplR 7 ++ be 2 2 = tplR 8 := by simp [tplR]
theorem tplR_9 : tplR 8 ++ be 362 2 = tplR 9 := by simp [tplR]
theorem tplR_10 : tplR 9 ++ be 2 2 = tplR 10 := by simp [tplR]
theorem tplR_11 : tplR 10 ++ be 230 2 = tplR 11 := by simp [tplR]
theorem tplR_12 : tplR 11 ++ be 1 2 = tplR 12 := by simp [tplR]
theorem tplR_len (j : Nat) (h : j ≤ 12) : (tplR j).length ≤ 28 := by
  rcases (show j = 0 ∨ j = 1 ∨ j = 2 ∨ j = 3 ∨ j = 4 ∨ j = 5 ∨ j = 6 ∨ j = 7 ∨ j = 8 ∨ j = 9 ∨ j = 10 ∨ j = 11 ∨ j = 12 by omega) with rfl | rfl | rfl | rfl | rfl | rfl | rfl | rfl | rfl | rfl | rfl | rfl | rfl
  all_goals simp [tplR, be_len]
set_option maxRecDepth 10000 in
set_option maxHeartbeats 4000000 in
theorem templateRef_any (seq : Int) (w : World) : Calls Tryd.prog 11 #[.int .i64 seq] w fun x w' => x = .returned (msgS 0 seq 2 (tplB 6)) ∧ Below w.heap.size w w' := by
  have hB := Below.refl w.heap.size w
  have H0 : Hid (txt (be 300 2) ++ txt (be 6 2) = txt (tplR 0)) := by show _ = _; rw [txt_app, tplR_zero]
  go_enter Tryd.func11, Tryd.ntmps11
  go_wp2_with (first
    | (go_at_call 26; go_fit (ref2_any _ _ (by omega) (by omega)); rintro x w5 ⟨rfl, hb5⟩; replace hB := hB.trans (hb5.mono hB.size)))
  have R10 := Row.new 3 w5 #[.int .i64 323, .int .i64 8, .int .i64 8, .int .i64 4, .int .i64 225, .int .i64 4, .int .i64 361, .int .i64 2, .int .i64 362, .int .i64 2, .int .i64 230, .int .i64 1]
  replace hB := hB.alloc hB.size (.cells #[.int .i64 323, .int .i64 8, .int .i64 8, .int .i64 4, .int .i64 225, .int .i64 4, .int .i64 361, .int .i64 2, .int .i64 362, .int .i64 2, .int .i64 230, .int .i64 1] 3)
  rw [H0.out]
  generalize w5.heap.size = B at *
  go_loopw [4, 12] (fun t i W => ∃ j : Nat, j ≤ 12 ∧ i = .int .i64 (j : Int) ∧ t = .string (txt (tplR j)) ∧ Below w.heap.size w W ∧ Row 3 W B #[.int .i64 323, .int .i64 8, .int .i64 8, .int .i64 4, .int .i64 225, .int .i64 4, .int .i64 361, .int .i64 2, .int .i64 362, .int .i64 2, .int .i64 230, .int .i64 1]) (fun _ i _ => 12 - (intOf i).toNat)
  case atStart => exact ⟨0, by omega, rfl, rfl, hB, R10⟩
  case round =>
    clear hB R10
    obtain ⟨j, hj, rfl, rfl, hB, R10⟩ := hrel
    by_cases hlt : j < 12
    · rcases (show j = 0 ∨ j = 1 ∨ j = 2 ∨ j = 3 ∨ j = 4 ∨ j = 5 ∨ j = 6 ∨ j = 7 ∨ j = 8 ∨ j = 9 ∨ j = 10 ∨ j = 11 by omega) with rfl | rfl | rfl | rfl | rfl | rfl | rfl | rfl | rfl | rfl | rfl | rfl
      · have HN : Hid (txt (tplR 0) ++ txt (be 323 2) = txt (tplR 1)) := by show _ = _; rw [txt_app, tplR_1]
        have hlen : (txt (tplR 0)).size ≤ 28 := by rw [txt_size]; exact tplR_len 0 (by omega)
        go_wp2_with (first
          | ((with_reducible refine atOp (.load 3 (.tmp 14)) rfl ?_); refine wpList_loadF R10 _ rfl rfl 0 rfl _ rfl ?_)
          | (go_at_call 26; go_fit (ref2_any _ _ (by omega) (by omega)); rintro x w5 ⟨rfl, hb5⟩; replace R10 := R10.below hb5; replace hB := hB.trans (hb5.mono hB.size)))
        go_roundw
        case rel => exact ⟨1, by omega, rfl, by rw [HN.out], hB, R10⟩
        case measure => simp [intOf]
      · have HN : Hid (txt (tplR 1) ++ txt (be 8 2) = txt (tplR 2)) := by show _ = _; rw [txt_app, tplR_2]
        have hlen : (txt (tplR 1)).size ≤ 28 := by rw [txt_size]; exact tplR_len 1 (by omega)
        go_wp2_with (first
          | ((with_reducible refine atOp (.load 3 (.tmp 14)) rfl ?_); refine wpList_loadF R10 _ rfl rfl 1 rfl _ rfl ?_)
          | (go_at_call 26; go_fit (ref2_any _ _ (by omega) (by omega)); rintro x w5 ⟨rfl, hb5⟩; replace R10 := R10.below hb5; replace hB := hB.trans (hb5.mono hB.size)))
        go_roundw
        case rel => exact ⟨2, by omega, rfl, by rw [HN.out], hB, R10⟩
        case measure => simp [intOf]
      · have HN : Hid (txt (tplR 2) ++ txt (be 8 2) = txt (tplR 3)) := by show _ = _; rw [txt_app, tplR_3]
        have hlen : (txt (tplR 2)).size ≤ 28 := by rw [txt_size]; exact tplR_len 2 (by omega)
        go_wp2_with (first
          | ((with_reducible refine atOp (.load 3 (.tmp 14)) rfl ?_); refine wpList_loadF R10 _ rfl rfl 2 rfl _ rfl ?_)
          | (go_at_call 26; go_fit (ref2_any _ _ (by omega) (by omega)); rintro x w5 ⟨rfl, hb5⟩; replace R10 := R10.below hb5; replace hB := hB.trans (hb5.mono hB.size)))
        go_roundw
        case rel => exact ⟨3, by omega, rfl, by rw [HN.out], hB, R10⟩
        case measure => simp [intOf]
      · have HN : Hid (txt (tplR 3) ++ txt (be 4 2) = txt (tplR 4)) := by show _ = _; rw [txt_app, tplR_4]
        have hlen : (txt (tplR 3)).size ≤ 28 := by rw [txt_size]; exact tplR_len 3 (by omega)
        go_wp2_with (first
          | ((with_reducible refine atOp (.load 3 (.tmp 14)) rfl ?_); refine wpList_loadF R10 _ rfl rfl 3 rfl _ rfl ?_)
          | (go_at_call 26; go_fit (ref2_any _ _ (by omega) (by omega)); rintro x w5 ⟨rfl, hb5⟩; replace R10 := R10.below hb5; replace hB := hB.trans (hb5.mono hB.size)))
        go_roundw
        case rel => exact ⟨4, by omega, rfl, by rw [HN.out], hB, R10⟩
        case measure => simp [intOf]
      · have HN : Hid (txt (tplR 4) ++ txt (be 225 2) = txt (tplR 5)) := by show _ = _; rw [txt_app, tplR_5]
        have hlen : (txt (tplR 4)).size ≤ 28 := by rw [txt_size]; exact tplR_len 4 (by omega)
        go_wp2_with (first
          | ((with_reducible refine atOp (.load 3 (.tmp 14)) rfl ?_); refine wpList_loadF R10 _ rfl rfl 4 rfl _ rfl ?_)
          | (go_at_call 26; go_fit (ref2_any _ _ (by omega) (by omega)); rintro x w5 ⟨rfl, hb5⟩; replace R10 := R10.below hb5; replace hB := hB.trans (hb5.mono hB.size)))
        go_roundw
        case rel => exact ⟨5, by omega, rfl, by rw [HN.out], hB, R10⟩
        case measure => simp [intOf]
      · have HN : Hid (txt (tplR 5) ++ txt (be 4 2) = txt (tplR 6)) := by show _ = _; rw [txt_app, tplR_6]
        have hlen : (txt (tplR 5)).size ≤ 28 := by rw [txt_size]; exact tplR_len 5 (by omega)
        go_wp2_with (first
          | ((with_reducible refine atOp (.load 3 (.tmp 14)) rfl ?_); refine wpList_loadF R10 _ rfl rfl 5 rfl _ rfl ?_)
          | (go_at_call 26; go_fit (ref2_any _ _ (by omega) (by omega)); rintro x w5 ⟨rfl, hb5⟩; replace R10 := R10.below hb5; replace hB := hB.trans (hb5.mono hB.size)))
        go_roundw
        case rel => exact ⟨6, by omega, rfl, by rw [HN.out], hB, R10⟩
        case measure => simp [intOf]
      · have HN : Hid (txt (tplR 6) ++ txt (be 361 2) = txt (tplR 7)) := by show _ = _; rw [txt_app, tplR_7]
        have hlen : (txt (tplR 6)).size ≤ 28 := by rw [txt_size]; exact tplR_len 6 (by omega)
        go_wp2_with (first
          | ((with_reducible refine atOp (.load 3 (.tmp 14)) rfl ?_); refine wpList_loadF R10 _ rfl rfl 6 rfl _ rfl ?_)
          | (go_at_call 26; go_fit (ref2_any _ _ (by omega) (by omega)); rintro x w5 ⟨rfl, hb5⟩; replace R10 := R10.below hb5; replace hB := hB.trans (hb5.mono hB.size)))
        go_roundw
        case rel => exact ⟨7, by omega, rfl, by rw [HN.out], hB, R10⟩
        case measure => simp [intOf]
      · have HN : Hid (txt (tplR 7) ++ txt (be 2 2) = txt (tplR 8)) := by show _ = _; rw [txt_app, tplR_8]
        have hlen : (txt (tplR 7)).size ≤ 28 := by rw [txt_size]; exact tplR_len 7 (by omega)
        go_wp2_with (first
          | ((with_reducible refine atOp (.load 3 (.tmp 14)) rfl ?_); refine wpList_loadF R10 _ rfl rfl 7 rfl _ rfl ?_)
          | (go_at_call 26; go_fit (ref2_any _ _ (by omega) (by omega)); rintro x w5 ⟨rfl, hb5⟩; replace R10 := R10.below hb5; replace hB := hB.trans (hb5.mono hB.size)))
        go_roundw
        case rel => exact ⟨8, by omega, rfl, by rw [HN.out], hB, R10⟩
        case measure => simp [intOf]
      · have HN : Hid (txt (tplR 8) ++ txt (be 362 2) = txt (tplR 9)) := by show _ = _; rw [txt_app, tplR_9]
        have hlen : (txt (tplR 8)).size ≤ 28 := by rw [txt_size]; exact tplR_len 8 (by omega)
        go_wp2_with (first
          | ((with_reducible refine atOp (.load 3 (.tmp 14)) rfl ?_); refine wpList_loadF R10 _ rfl rfl 8 rfl _ rfl ?_)
          | (go_at_call 26; go_fit (ref2_any _ _ (by omega) (by omega)); rintro x w5 ⟨rfl, hb5⟩; replace R10 := R10.below hb5; replace hB := hB.trans (hb5.mono hB.size)))
        go_roundw
        case rel => exact ⟨9, by omega, rfl, by rw [HN.out], hB, R10⟩
        case measure => simp [intOf]
      · have HN : Hid (txt (tplR 9) ++ txt (be 2 2) = txt (tplR 10)) := by show _ = _; rw [txt_app, tplR_10]
        have hlen : (txt (tplR 9)).size ≤ 28 := by rw [txt_size]; exact tplR_len 9 (by omega)
        go_wp2_with (first
          | ((with_reducible refine atOp (.load 3 (.tmp 14)) rfl ?_); refine wpList_loadF R10 _ rfl rfl 9 rfl _ rfl ?_)
          | (go_at_call 26; go_fit (ref2_any _ _ (by omega) (by omega)); rintro x w5 ⟨rfl, hb5⟩; replace R10 := R10.below hb5; replace hB := hB.trans (hb5.mono hB.size)))
        go_roundw
        case rel => exact ⟨10, by omega, rfl, by rw [HN.out], hB, R10⟩
        case measure => simp [intOf]
      · have HN : Hid (txt (tplR 10) ++ txt (be 230 2) = txt (tplR 11)) := by show _ = _; rw [txt_app, tplR_11]
        have hlen : (txt (tplR 10)).size ≤ 28 := by rw [txt_size]; exact tplR_len 10 (by omega)
        go_wp2_with (first
          | ((with_reducible refine atOp (.load 3 (.tmp 14)) rfl ?_); refine wpList_loadF R10 _ rfl rfl 10 rfl _ rfl ?_)
          | (go_at_call 26; go_fit (ref2_any _ _ (by omega) (by omega)); rintro x w5 ⟨rfl, hb5⟩; replace R10 := R10.below hb5; replace hB := hB.trans (hb5.mono hB.size)))
        go_roundw
        case rel => exact ⟨11, by omega, rfl, by rw [HN.out], hB, R10⟩
        case measure => simp [intOf]
      · have HN : Hid (txt (tplR 11) ++ txt (be 1 2) = txt (tplR 12)) := by show _ = _; rw [txt_app, tplR_12]
        have hlen : (txt (tplR 11)).size ≤ 28 := by rw [txt_size]; exact tplR_len 11 (by omega)
        go_wp2_with (first
          | ((with_reducible refine atOp (.load 3 (.tmp 14)) rfl ?_); refine wpList_loadF R10 _ rfl rfl 11 rfl _ rfl ?_)
          | (go_at_call 26; go_fit (ref2_any _ _ (by omega) (by omega)); rintro x w5 ⟨rfl, hb5⟩; replace R10 := R10.below hb5; replace hB := hB.trans (hb5.mono hB.size)))
        go_roundw
        case rel => exact ⟨12, by omega, rfl, by rw [HN.out], hB, R10⟩
        case measure => simp [intOf]
    · obtain rfl : j = 12 := by omega
      have hl6 := tplB_six
      rw [tplR_end]
      go_wp2_with (go_at_call 24; go_fit (messageRef_any (tplB 6) 0 seq 2 _ (by omega) (by omega) (by omega) (by omega) (by omega)); rintro x w5 ⟨rfl, hb5⟩; unfold msgS)
      go_ret2
      exact ⟨rfl, hB.trans (hb5.mono hB.size)⟩
end Go.Proofs.YtnhafdkfjjplkaaDoor
