/-
  The events of a message, read.
-/
import Derived.Test.YtnhafdkfjjplkaaDoorRecH1
import Derived.Test.YtnhafdkfjjplkaaDoorYieldP
namespace Go.Proofs.YtnhafdkfjjplkaaDoor
open Go.ChangeShapes Go.WideShapes Go.ChangeAt Go.RowKit
set_option linter.unusedSimpArgs false
set_option linter.unusedVariables false

theorem drop_len (l : List UInt8) (a b : Nat) (h : a + b ≤ l.length) : b ≤ (l.drop a).length := by rw [List.length_drop]; omega
theorem below_of_drew {w w' : World} (h : w' = w.drew) : Below w.heap.size w w' := by subst h; exact (Below.refl _ _).drew
theorem meas_c {i c : Nat} (h : i < c) : c - ((i : Int) + 1).toNat < c - ((i : Int)).toNat := by omega
set_option maxRecDepth 10000 in
set_option maxHeartbeats 16000000 in
theorem list_form (p : Nat) (l : List UInt8) (d : Bool) (v : Value) (es : List Ev) (len time seq kind : Int) (w : World) (R : Rdr w p (l.drop 20) d v) (hE : EvO w (p + 1) v es) (hk0 : 20 ≤ len) (hk1 : len ≤ (l.length : Int)) (hk2 : len ≤ 65535) (hl : l.length ≤ 140737488351232) (hes : es.length ≤ 4294967295) (hf : len = 20 ∨ (len - 20) % 21 ≠ 0) :
    Calls Tryd.prog 35 #[.pointer (some ⟨p, 0, none⟩), .agg (hdc len time seq kind)] w fun x w' => x = .returned (.int .i64 1) ∧ Below p w w' := by
  have hB := Below.refl p w
  have hpl : p ≤ w.heap.size := Nat.le_of_lt R.lt
  have hne : v.ownBlock ≠ some w.heap.size := hE.new (Nat.le_refl _)
  have hrem : (len - 20).tmod 21 = (len - 20) % 21 := Int.tmod_eq_emod_of_nonneg (by omega)
  by_cases h20 : len = 20
  · have g0 : (len - 20 == 0) = true := by simp; omega
    clear hf h20 hrem
    go_enter Tryd.func35, Tryd.ntmps35
    go_wp2_with (first
      | ((with_reducible refine atOp (.box 71 (.tmp 1)) rfl ?_); refine wpList_boxR 71 rfl _ rfl (hdc len time seq kind) rfl ?_; intro b3 w2 g3 R3 hb2; have n3 : b3 ≠ p := (fun e => by have := R.lt; omega); replace hne := hE.new g3; replace R := Row.below R hb2; replace hE := hE.below hb2; replace hB := hB.trans (hb2.mono (Nat.le_trans hpl hB.size)))
      | ((with_reducible refine atOp (.load 3 (.tmp 8)) rfl ?_); refine wpList_loadF R3 _ rfl rfl 0 rfl _ rfl ?_))
    go_ret
    exact ⟨rfl, hB⟩
  · have g0 : (len - 20 == 0) = false := by simp; omega
    have g1 : ((len - 20) % 21 != 0) = true := by simp; omega
    clear hf h20
    go_enter Tryd.func35, Tryd.ntmps35
    go_wp2_with (first
      | ((with_reducible refine atOp (.box 71 (.tmp 1)) rfl ?_); refine wpList_boxR 71 rfl _ rfl (hdc len time seq kind) rfl ?_; intro b3 w2 g3 R3 hb2; have n3 : b3 ≠ p := (fun e => by have := R.lt; omega); replace hne := hE.new g3; replace R := Row.below R hb2; replace hE := hE.below hb2; replace hB := hB.trans (hb2.mono (Nat.le_trans hpl hB.size)))
      | ((with_reducible refine atOp (.load 3 (.tmp 8)) rfl ?_); refine wpList_loadF R3 _ rfl rfl 0 rfl _ rfl ?_))
    go_ret
    exact ⟨rfl, hB⟩
set_option maxRecDepth 10000 in
set_option maxHeartbeats 16000000 in
theorem list_any (p : Nat) (l : List UInt8) (d : Bool) (v : Value) (es : List Ev) (len time seq kind : Int) (w : World) (R : Rdr w p (l.drop 20) d v) (hE : EvO w (p + 1) v es) (hk0 : 20 ≤ len) (hk1 : len ≤ (l.length : Int)) (hk2 : len ≤ 65535) (hl : l.length ≤ 140737488351232) (hes : es.length ≤ 4294967295) (hf : ¬ (len = 20 ∨ (len - 20) % 21 ≠ 0)) :
    Calls Tryd.prog 35 #[.pointer (some ⟨p, 0, none⟩), .agg (hdc len time seq kind)] w fun x w' => ((x = .returned (.int .i64 2) ∧ evs time ((len - 20) / 21).toNat (l.drop 20) es = none) ∨ (x = .returned (.int .i64 0) ∧ ∃ v' es', evs time ((len - 20) / 21).toNat (l.drop 20) es = some es' ∧ Rdr w' p (l.drop len.toNat) d v' ∧ EvO w' (p + 1) v' es')) ∧ Below p w w' := by
  have hB := Below.refl p w
  have hpl : p ≤ w.heap.size := Nat.le_of_lt R.lt
  have hne : v.ownBlock ≠ some w.heap.size := hE.new (Nat.le_refl _)
  have hrem : (len - 20).tmod 21 = (len - 20) % 21 := Int.tmod_eq_emod_of_nonneg (by omega)
  have hquo : (len - 20).tdiv 21 = (len - 20) / 21 := Int.tdiv_eq_ediv_of_nonneg (by omega)
  obtain ⟨c, hc⟩ : ∃ c : Nat, (len - 20) / 21 = (c : Int) := ⟨((len - 20) / 21).toNat, by omega⟩
  have hlc : len = 20 + 21 * (c : Int) := by omega
  have hc2 : c ≤ 3120 := by omega
  have hcl : 20 + 21 * c ≤ l.length := by omega
  have HT : Hid (((len - 20) / 21).toNat = c) := by show _ = _; omega
  have HL : Hid (len.toNat = 20 + 21 * c) := by show _ = _; omega
  rw [hc] at hquo
  have g0 : (len - 20 == 0) = false := by simp; omega
  have g1 : ((len - 20) % 21 != 0) = false := by simp; omega
  rw [HT.out, HL.out]
  clear hf hc hlc
  go_enter Tryd.func35, Tryd.ntmps35
  go_wp2_with (first
    | ((with_reducible refine atOp (.box 71 (.tmp 1)) rfl ?_); refine wpList_boxR 71 rfl _ rfl (hdc len time seq kind) rfl ?_; intro b3 w2 g3 R3 hb2; have n3 : b3 ≠ p := (fun e => by have := R.lt; omega); replace hne := hE.new g3; replace R := Row.below R hb2; replace hE := hE.below hb2; replace hB := hB.trans (hb2.mono (Nat.le_trans hpl hB.size)))
    | ((with_reducible refine atOp (.load 3 (.tmp 8)) rfl ?_); refine wpList_loadF R3 _ rfl rfl 0 rfl _ rfl ?_))
  go_loopw [20] (fun i W => ∃ k : Nat, k ≤ c ∧ i = .int .i64 (k : Int) ∧ ∃ v2 es2, Rdr W p (l.drop (20 + 21 * k)) d v2 ∧ EvO W (p + 1) v2 es2 ∧ Hid (evs time c (l.drop 20) es = evs time (c - k) (l.drop (20 + 21 * k)) es2) ∧ Hid (es2.length = es.length + k) ∧ Below p w W ∧ Row 71 W b3 (hdc len time seq kind) ∧ v2.ownBlock ≠ some b3) (fun i _ => c - (intOf i).toNat)
  case atStart => exact ⟨0, by omega, rfl, v, es, R, hE, rfl, rfl, hB, R3, hne⟩
  case round =>
    clear hB R R3 hE hne hquo hrem g0 g1 hk0 hk1 hk2
    obtain ⟨k, hk, rfl, v2, es2, R, hE, HV, HS, hB, R3, hne⟩ := hrel
    by_cases hlt : k < c
    · have hkc : (k : Int) < (c : Int) := by omega
      have hkw : wrap64 ((k : Int) + 1) = (k : Int) + 1 := by unfold wrap64; omega
      have hl21 : 21 ≤ (l.drop (20 + 21 * k)).length := drop_len l _ _ (by omega)
      have hll : (l.drop (20 + 21 * k)).length ≤ 140737488351232 := by rw [List.length_drop]; omega
      have hs2 : es2.length ≤ 4294970500 := by have := HS.out; omega
      obtain ⟨m, hm⟩ : ∃ m, c - k = m + 1 := ⟨c - k - 1, by omega⟩
      have HV2 : Hid (evs time c (l.drop 20) es = evs time (m + 1) (l.drop (20 + 21 * k)) es2) := by show _ = _; rw [← hm]; exact HV.out
      have HDR : Hid ((l.drop (20 + 21 * k)).drop 21 = l.drop (20 + 21 * (k + 1))) := by show _ = _; rw [List.drop_drop]; congr 1
      have HMM : Hid (c - (k + 1) = m) := by show _ = _; omega
      clear HV hm
      obtain ⟨q, hq⟩ : ∃ q, l.drop (20 + 21 * k) = q := ⟨_, rfl⟩
      rw [hq] at R HV2 hl21 hll HDR
      have hep : es2.length ≤ 3518437208780 := by omega
      have EV := fun (w : World) (R : Rdr w p q d v2) => event_yes p q d v2 w R hl21 hll
      have EN := fun (w : World) (R : Rdr w p q d v2) => event_no p q d v2 w R hl21 hll
      clear hq
      by_cases hok : okR q
      · have CY := fun (w : World) (R : Rdr w p q d v2) => EV w R hok
        have ht0 := hok.1.1.1
        have ht1 := hok.1.1.2
        clear EV EN
        by_cases htm' : (rdE q).t % 4294967296 = time
        · have htm : ((rdE q).t % 4294967296 != time) = false := by simpa using htm'
          rcases hla : laterE es2 (rdE q).t with _ | _
          · have HV3 : Hid (evs time c (l.drop 20) es = evs time m (l.drop (20 + 21 * (k + 1))) (es2 ++ [rdE q])) := by show _ = _; rw [HV2.out, evs_yes ⟨hok, htm', hla⟩, HDR.out]
            clear HV2 hok htm'
            go_upto_region 7 with (first
              | (go_at_call 38; refine (CY _ R).mono ?_; rintro x w5 ⟨rfl, R', hM5⟩; replace R := R'; clear R'; replace R3 := hM5.row R3 n3; replace hE := hE.moved hM5 (by omega); replace hB := hB.trans (hM5.below (Nat.le_trans hpl hB.size) (Nat.le_refl _)); clear hM5)
              | ((with_reducible refine atOp (.alloc 29) rfl ?_); refine wpList_allocX 6 29 rfl rfl rfl _ ev_zero ?_; intro b6 w3 g6 R6 hb3; have n6 : b6 ≠ p := (fun e => by have := R.lt; omega); have n36 := R3.ne g6; have hne6 := hE.new g6; have gp6 : p ≤ b6 := Nat.le_trans (Nat.le_of_lt R.lt) g6; replace R := Row.below R hb3; replace R3 := R3.below hb3; replace hE := hE.below hb3; replace hB := hB.trans (hb3.mono (Nat.le_trans hpl hB.size)))
              | ((with_reducible refine atOp (.store 29 (.tmp 6) (.tmp 25)) rfl ?_); refine wpList_storeR 29 rfl (.tmp 6) (.tmp 25) rfl b6 rfl (ec (rdE q)) rfl _ R6 rfl (ec_info _) (ec_one _) ?_; intro w4 R6 t4; replace R := t4.row R n6.symm; replace R3 := t4.row R3 n36; replace hE := hE.turned t4 hne6; replace hB := t4.below _ _ gp6 hB))
            refine wp_region_noPanic ?_
            refine wp_region_held_drew (S := fun W => Row 29 W b6 (ec (rdE q)) ∧ Row 71 W b3 (hdc len time seq kind)) (by kernel_rfl) ⟨R6, R3⟩ (fun _ => ?_)
            refine wpAnyH_take (i := 0) (v := .bool true) rfl (by kernel_rfl) (by kernel_rfl) (by kernel_rfl) (fun _ _ _ h => h) (Or.inl ⟨by kernel_rfl, by intro w hS; go_simp⟩) ⟨R6, R3⟩ ?_
            simp only [Act.put, List.getElem_toArray, List.getElem_cons_succ, List.getElem_cons_zero, List.setIfInBounds_toArray, List.set_cons_zero, List.set_cons_succ]
            refine wpAnyH_take (i := 1) (v := .bool false) rfl (by kernel_rfl) (by kernel_rfl) (by kernel_rfl) (fun _ _ _ h => h) (Or.inl ⟨by kernel_rfl, by intro w hS; go_simp⟩) ⟨R6, R3⟩ ?_
            simp only [Act.put, List.getElem_toArray, List.getElem_cons_succ, List.getElem_cons_zero, List.setIfInBounds_toArray, List.set_cons_zero, List.set_cons_succ]
            refine wpAnyH_take (i := 2) (v := .bool false) rfl (by kernel_rfl) (by kernel_rfl) (by kernel_rfl) (fun _ _ _ h => h) (Or.inl ⟨by kernel_rfl, by intro w hS; go_simp⟩) ⟨R6, R3⟩ ?_
            simp only [Act.put, List.getElem_toArray, List.getElem_cons_succ, List.getElem_cons_zero, List.setIfInBounds_toArray, List.set_cons_zero, List.set_cons_succ]
            refine wpAnyH_take (i := 3) (v := .pointer (some ⟨b6, 0, none⟩)) rfl (by kernel_rfl) (by kernel_rfl) (by kernel_rfl) (fun _ _ _ h => h) (Or.inl ⟨by kernel_rfl, by intro w hS; go_simp⟩) ⟨R6, R3⟩ ?_
            simp only [Act.put, List.getElem_toArray, List.getElem_cons_succ, List.getElem_cons_zero, List.setIfInBounds_toArray, List.set_cons_zero, List.set_cons_succ]
            refine wpAnyH_take (i := 4) (v := .int .i64 (rdE q).t) rfl (by kernel_rfl) (by kernel_rfl) (by kernel_rfl) (fun _ _ _ h => h) (yields_loadI (.tmp 30) rfl (by kernel_rfl) b6 0 (by kernel_rfl) (rdE q).t (fun w h => (h.1.cell 0).trans rfl)) ⟨R6, R3⟩ ?_
            simp only [Act.put, List.getElem_toArray, List.getElem_cons_succ, List.getElem_cons_zero, List.setIfInBounds_toArray, List.set_cons_zero, List.set_cons_succ]
            refine wpAnyH_take (i := 6) (v := .pointer (some ⟨b3, 1, none⟩)) rfl (by kernel_rfl) (by kernel_rfl) (by kernel_rfl) (fun _ _ _ h => h) (Or.inl ⟨by kernel_rfl, by intro w hS; go_simp⟩) ⟨R6, R3⟩ ?_
            simp only [Act.put, List.getElem_toArray, List.getElem_cons_succ, List.getElem_cons_zero, List.setIfInBounds_toArray, List.set_cons_zero, List.set_cons_succ]
            refine wpAnyH_take (i := 7) (v := .int .i64 time) rfl (by kernel_rfl) (by kernel_rfl) (by kernel_rfl) (fun _ _ _ h => h) (yields_loadI (.tmp 33) rfl (by kernel_rfl) b3 1 (by kernel_rfl) time (fun w h => (h.2.cell 1).trans rfl)) ⟨R6, R3⟩ ?_
            simp only [Act.put, List.getElem_toArray, List.getElem_cons_succ, List.getElem_cons_zero, List.setIfInBounds_toArray, List.set_cons_zero, List.set_cons_succ]
            refine wpAnyH_ready (rs := [5]) (by kernel_rfl) (by simp) ?_
            refine AllReadyH.cons rfl (fun K hK => ?_) ?_
            · go_simp
              go_at_call 32; refine (lowest_any _ _ ht0 ht1).mono ?_; rintro x w5 ⟨rfl, hw5⟩; have hb5 := below_of_drew hw5; replace R := Row.below R hb5; replace R3 := R3.below hb5; replace R6 := R6.below hb5; replace hE := hE.below hb5; replace hB := hB.trans (hb5.mono (Nat.le_trans hpl hB.size)); clear hw5
              go_wp2_with fail
              refine hK.out _ _ ⟨R6, R3⟩ (fun _ => ?_)
              clear hK K
              try simp only [Act.put, List.getElem_toArray, List.getElem_cons_succ, List.getElem_cons_zero, List.setIfInBounds_toArray, List.set_cons_zero, List.set_cons_succ]
              refine wpAnyH_take (i := 8) (v := .bool false) rfl (by kernel_rfl) (by kernel_rfl) (by kernel_rfl) (fun _ _ _ h => h) (yields_nei 3 (.tmp 32) (.tmp 34) ((rdE q).t % 4294967296) time false rfl (by kernel_rfl) (by kernel_rfl) (by kernel_rfl) htm) ⟨R6, R3⟩ ?_
              simp only [Act.put, List.getElem_toArray, List.getElem_cons_succ, List.getElem_cons_zero, List.setIfInBounds_toArray, List.set_cons_zero, List.set_cons_succ]
              refine wpAnyH_take (i := 9) (v := .bool false) rfl (by kernel_rfl) (by kernel_rfl) (by kernel_rfl) (fun _ _ _ h => h) (Or.inl ⟨by kernel_rfl, by intro w hS; go_simp⟩) ⟨R6, R3⟩ ?_
              simp only [Act.put, List.getElem_toArray, List.getElem_cons_succ, List.getElem_cons_zero, List.setIfInBounds_toArray, List.set_cons_zero, List.set_cons_succ]
              refine wpAnyH_take (i := 10) (v := .bool false) rfl (by kernel_rfl) (by kernel_rfl) (by kernel_rfl) (fun _ _ _ h => h) (Or.inl ⟨by kernel_rfl, by intro w hS; go_simp⟩) ⟨R6, R3⟩ ?_
              simp only [Act.put, List.getElem_toArray, List.getElem_cons_succ, List.getElem_cons_zero, List.setIfInBounds_toArray, List.set_cons_zero, List.set_cons_succ]
              refine wpAnyH_take (i := 11) (v := .pointer (some ⟨p, 0, none⟩)) rfl (by kernel_rfl) (by kernel_rfl) (by kernel_rfl) (fun _ _ _ h => h) (Or.inl ⟨by kernel_rfl, by intro w hS; go_simp⟩) ⟨R6, R3⟩ ?_
              simp only [Act.put, List.getElem_toArray, List.getElem_cons_succ, List.getElem_cons_zero, List.setIfInBounds_toArray, List.set_cons_zero, List.set_cons_succ]
              refine wpAnyH_take (i := 12) (v := .pointer (some ⟨b6, 0, none⟩)) rfl (by kernel_rfl) (by kernel_rfl) (by kernel_rfl) (fun _ _ _ h => h) (Or.inl ⟨by kernel_rfl, by intro w hS; go_simp⟩) ⟨R6, R3⟩ ?_
              simp only [Act.put, List.getElem_toArray, List.getElem_cons_succ, List.getElem_cons_zero, List.setIfInBounds_toArray, List.set_cons_zero, List.set_cons_succ]
              refine wpAnyH_take (i := 13) (v := .int .i64 (rdE q).t) rfl (by kernel_rfl) (by kernel_rfl) (by kernel_rfl) (fun _ _ _ h => h) (yields_loadI (.tmp 39) rfl (by kernel_rfl) b6 0 (by kernel_rfl) (rdE q).t (fun w h => (h.1.cell 0).trans rfl)) ⟨R6, R3⟩ ?_
              simp only [Act.put, List.getElem_toArray, List.getElem_cons_succ, List.getElem_cons_zero, List.setIfInBounds_toArray, List.set_cons_zero, List.set_cons_succ]
              refine wpAnyH_ready (rs := [14]) (by kernel_rfl) (by simp) ?_
              refine AllReadyH.cons rfl (fun K hK => ?_) ?_
              · go_simp
                go_at_call 39; refine (isLater_any p _ d v2 es2 _ _ R (hE.at hep)).mono ?_; rintro x w6 ⟨rfl, hw6⟩; subst hw6; rw [hla]
                go_wp2_with fail
                refine hK.out _ _ ⟨R6, R3⟩ (fun _ => ?_)
                clear hK K
                try simp only [Act.put, List.getElem_toArray, List.getElem_cons_succ, List.getElem_cons_zero, List.setIfInBounds_toArray, List.set_cons_zero, List.set_cons_succ]
                refine wpAnyH_take (i := 15) (v := .bool false) rfl (by kernel_rfl) (by kernel_rfl) (by kernel_rfl) (fun _ _ _ h => h) (Or.inl ⟨by kernel_rfl, by intro w hS; go_simp⟩) ⟨R6, R3⟩ ?_
                simp only [Act.put, List.getElem_toArray, List.getElem_cons_succ, List.getElem_cons_zero, List.setIfInBounds_toArray, List.set_cons_zero, List.set_cons_succ]
                refine wpAnyH_done (by kernel_rfl) ?_ _
                refine NoPanic.normal ?_
                go_upto_region 9 with fail
                refine wp_region_noPanic ?_
                refine wp_region_held_drew (S := fun W => Row 29 W b6 (ec (rdE q))) (by kernel_rfl) R6 (fun _ => ?_)
                refine wpAnyH_take (i := 0) (v := .pointer (some ⟨p, 0, none⟩)) rfl (by kernel_rfl) (by kernel_rfl) (by kernel_rfl) (fun _ _ _ h => h) (Or.inl ⟨by kernel_rfl, by intro w hS; go_simp⟩) R6 ?_
                simp only [Act.put, List.getElem_toArray, List.getElem_cons_succ, List.getElem_cons_zero, List.setIfInBounds_toArray, List.set_cons_zero, List.set_cons_succ]
                refine wpAnyH_take (i := 1) (v := .pointer (some ⟨p, 0, none⟩)) rfl (by kernel_rfl) (by kernel_rfl) (by kernel_rfl) (fun _ _ _ h => h) (Or.inl ⟨by kernel_rfl, by intro w hS; go_simp⟩) R6 ?_
                simp only [Act.put, List.getElem_toArray, List.getElem_cons_succ, List.getElem_cons_zero, List.setIfInBounds_toArray, List.set_cons_zero, List.set_cons_succ]
                refine wpAnyH_take (i := 2) (v := .pointer (some ⟨p, 0, none⟩)) rfl (by kernel_rfl) (by kernel_rfl) (by kernel_rfl) (fun _ _ _ h => h) (Or.inl ⟨by kernel_rfl, by intro w hS; go_simp⟩) R6 ?_
                simp only [Act.put, List.getElem_toArray, List.getElem_cons_succ, List.getElem_cons_zero, List.setIfInBounds_toArray, List.set_cons_zero, List.set_cons_succ]
                refine wpAnyH_take (i := 3) (v := .pointer (some ⟨p, 2, none⟩)) rfl (by kernel_rfl) (by kernel_rfl) (by kernel_rfl) (fun _ _ _ h => h) (Or.inl ⟨by kernel_rfl, by intro w hS; go_simp⟩) R6 ?_
                simp only [Act.put, List.getElem_toArray, List.getElem_cons_succ, List.getElem_cons_zero, List.setIfInBounds_toArray, List.set_cons_zero, List.set_cons_succ]
                refine wpAnyH_take (i := 5) (v := .agg (ec (rdE q))) rfl (by kernel_rfl) (by kernel_rfl) (by kernel_rfl) (fun _ _ _ h => h) (yields_loadR 29 (.tmp 6) rfl (by kernel_rfl) b6 (by kernel_rfl) (ec (rdE q)) (fun w h => h) _ Tryd.underlying29 rfl (ec_info _)) R6 ?_
                simp only [Act.put, List.getElem_toArray, List.getElem_cons_succ, List.getElem_cons_zero, List.setIfInBounds_toArray, List.set_cons_zero, List.set_cons_succ]
                refine wpAnyH_ready (rs := [4, 6]) (by kernel_rfl) (by simp) ?_
                refine AllReadyH.cons rfl (fun K hK => ?_) ?_
                · rw [if_pos (by kernel_rfl)]
                  refine wp_loadL R (.tmp 46) rfl 2 (by kernel_rfl) v2 rfl ?_
                  refine hK.out _ _ R6 (fun _ => ?_)
                  clear hK K
                  try simp only [Act.put, List.getElem_toArray, List.getElem_cons_succ, List.getElem_cons_zero, List.setIfInBounds_toArray, List.set_cons_zero, List.set_cons_succ]
                  refine wpAnyH_ready (rs := [6]) (by kernel_rfl) (by simp) ?_
                  refine AllReadyH.cons rfl (fun K hK => ?_) ?_
                  · rw [if_pos (by kernel_rfl)]
                    refine wp_buildE (.tmp 48) rfl (rdE q) (by kernel_rfl) ?_; intro b9 w7 g9 R9 hb7; (first | replace hb7 := below_undrE hb7 | skip); replace R := Row.below R hb7; replace R3 := R3.below hb7; replace R6 := R6.below hb7; replace hE := hE.below hb7; replace hB := hB.trans (hb7.mono (Nat.le_trans hpl hB.size))
                    refine hK.out _ _ R6 (fun _ => ?_)
                    clear hK K
                    try simp only [Act.put, List.getElem_toArray, List.getElem_cons_succ, List.getElem_cons_zero, List.setIfInBounds_toArray, List.set_cons_zero, List.set_cons_succ]
                    refine wpAnyH_ready (rs := [7]) (by kernel_rfl) (by simp) ?_
                    refine AllReadyH.cons rfl (fun K hK => ?_) ?_
                    · rw [if_pos (by kernel_rfl)]
                      refine wp_pushE (.tmp 47) (.tmp 49) rfl hE R9 (by kernel_rfl) (by kernel_rfl) (by omega) (by have := R.lt; omega) ?_; intro v8 w8 hE8 hG8; have hne8 := Grew.ne hG8 hne R3.lt; have hp8 : v2.ownBlock ≠ some p := (fun e => by have := (hE.ge p e).1; omega); replace R3 := hG8.row R3 hne; replace R6 := hG8.row R6 hne6; replace R := hG8.row R hp8; replace hB := hB.trans (hG8.below (Nat.le_trans hpl hB.size) (fun g hg => by have := (hE.ge g hg).1; omega)); replace hE := hE8; obtain ⟨sa, sc, rfl⟩ := hE.slice
                      refine hK.out _ _ R6 (fun _ => ?_)
                      clear hK K
                      try simp only [Act.put, List.getElem_toArray, List.getElem_cons_succ, List.getElem_cons_zero, List.setIfInBounds_toArray, List.set_cons_zero, List.set_cons_succ]
                      refine wpAnyH_take (i := 8) (v := .pointer (some ⟨p, 0, none⟩)) rfl (by kernel_rfl) (by kernel_rfl) (by kernel_rfl) (fun _ _ _ h => h) (Or.inl ⟨by kernel_rfl, by intro w hS; go_simp⟩) R6 ?_
                      simp only [Act.put, List.getElem_toArray, List.getElem_cons_succ, List.getElem_cons_zero, List.setIfInBounds_toArray, List.set_cons_zero, List.set_cons_succ]
                      refine wpAnyH_take (i := 9) (v := .pointer (some ⟨p, 2, none⟩)) rfl (by kernel_rfl) (by kernel_rfl) (by kernel_rfl) (fun _ _ _ h => h) (Or.inl ⟨by kernel_rfl, by intro w hS; go_simp⟩) R6 ?_
                      simp only [Act.put, List.getElem_toArray, List.getElem_cons_succ, List.getElem_cons_zero, List.setIfInBounds_toArray, List.set_cons_zero, List.set_cons_succ]
                      refine wpAnyH_ready (rs := [10]) (by kernel_rfl) (by simp) ?_
                      refine AllReadyH.cons rfl (fun K hK => ?_) ?_
                      · rw [if_pos (by kernel_rfl)]
                        refine wp_storeL R (.tmp 52) (.tmp 50) rfl 2 (by kernel_rfl) sa (es2 ++ [rdE q]).length sc (by kernel_rfl) v2 rfl (rc (q.drop 21) d (.slice sa (es2 ++ [rdE q]).length sc)) (rc_setv _ _ _ _) ?_; intro w9 R t9; replace R3 := t9.row R3 n3; replace R6 := t9.row R6 n6; replace hE := hE.turned t9 (fun e => by have := (hE.ge p e).1; omega); replace hB := t9.below _ _ (Nat.le_refl _) hB
                        refine hK.out _ _ R6 (fun _ => ?_)
                        clear hK K
                        try simp only [Act.put, List.getElem_toArray, List.getElem_cons_succ, List.getElem_cons_zero, List.setIfInBounds_toArray, List.set_cons_zero, List.set_cons_succ]
                        refine wpAnyH_done (by kernel_rfl) ?_ _
                        refine NoPanic.normal ?_
                        go_wp2
                        go_roundw
                        case rel => first | exact ⟨k + 1, by omega, by go_num, _, _, HDR.out ▸ R, hE, by rw [HMM.out]; exact HV3, (by show _ = _; rw [List.length_append, HS.out]; rfl), hB, R3, hne8⟩ | ((repeat apply Exists.intro); exact ⟨⟨k + 1, by omega, by go_num, _, _, HDR.out ▸ R, hE, by rw [HMM.out]; exact HV3, (by show _ = _; rw [List.length_append, HS.out]; rfl), hB, R3, hne8⟩, rfl⟩)
                        case measure => (first | rw [hkw] | skip); exact meas_c hlt
                      exact AllReadyH.nil
                    exact AllReadyH.nil
                  exact AllReadyH.nil
                refine AllReadyH.cons rfl (fun K hK => ?_) ?_
                · rw [if_pos (by kernel_rfl)]
                  refine wp_buildE (.tmp 48) rfl (rdE q) (by kernel_rfl) ?_; intro b9 w7 g9 R9 hb7; (first | replace hb7 := below_undrE hb7 | skip); replace R := Row.below R hb7; replace R3 := R3.below hb7; replace R6 := R6.below hb7; replace hE := hE.below hb7; replace hB := hB.trans (hb7.mono (Nat.le_trans hpl hB.size))
                  refine hK.out _ _ R6 (fun _ => ?_)
                  clear hK K
                  try simp only [Act.put, List.getElem_toArray, List.getElem_cons_succ, List.getElem_cons_zero, List.setIfInBounds_toArray, List.set_cons_zero, List.set_cons_succ]
                  refine wpAnyH_ready (rs := [4]) (by kernel_rfl) (by simp) ?_
                  refine AllReadyH.cons rfl (fun K hK => ?_) ?_
                  · rw [if_pos (by kernel_rfl)]
                    refine wp_loadL R (.tmp 46) rfl 2 (by kernel_rfl) v2 rfl ?_
                    refine hK.out _ _ R6 (fun _ => ?_)
                    clear hK K
                    try simp only [Act.put, List.getElem_toArray, List.getElem_cons_succ, List.getElem_cons_zero, List.setIfInBounds_toArray, List.set_cons_zero, List.set_cons_succ]
                    refine wpAnyH_ready (rs := [7]) (by kernel_rfl) (by simp) ?_
                    refine AllReadyH.cons rfl (fun K hK => ?_) ?_
                    · rw [if_pos (by kernel_rfl)]
                      refine wp_pushE (.tmp 47) (.tmp 49) rfl hE R9 (by kernel_rfl) (by kernel_rfl) (by omega) (by have := R.lt; omega) ?_; intro v8 w8 hE8 hG8; have hne8 := Grew.ne hG8 hne R3.lt; have hp8 : v2.ownBlock ≠ some p := (fun e => by have := (hE.ge p e).1; omega); replace R3 := hG8.row R3 hne; replace R6 := hG8.row R6 hne6; replace R := hG8.row R hp8; replace hB := hB.trans (hG8.below (Nat.le_trans hpl hB.size) (fun g hg => by have := (hE.ge g hg).1; omega)); replace hE := hE8; obtain ⟨sa, sc, rfl⟩ := hE.slice
                      refine hK.out _ _ R6 (fun _ => ?_)
                      clear hK K
                      try simp only [Act.put, List.getElem_toArray, List.getElem_cons_succ, List.getElem_cons_zero, List.setIfInBounds_toArray, List.set_cons_zero, List.set_cons_succ]
                      refine wpAnyH_take (i := 8) (v := .pointer (some ⟨p, 0, none⟩)) rfl (by kernel_rfl) (by kernel_rfl) (by kernel_rfl) (fun _ _ _ h => h) (Or.inl ⟨by kernel_rfl, by intro w hS; go_simp⟩) R6 ?_
                      simp only [Act.put, List.getElem_toArray, List.getElem_cons_succ, List.getElem_cons_zero, List.setIfInBounds_toArray, List.set_cons_zero, List.set_cons_succ]
                      refine wpAnyH_take (i := 9) (v := .pointer (some ⟨p, 2, none⟩)) rfl (by kernel_rfl) (by kernel_rfl) (by kernel_rfl) (fun _ _ _ h => h) (Or.inl ⟨by kernel_rfl, by intro w hS; go_simp⟩) R6 ?_
                      simp only [Act.put, List.getElem_toArray, List.getElem_cons_succ, List.getElem_cons_zero, List.setIfInBounds_toArray, List.set_cons_zero, List.set_cons_succ]
                      refine wpAnyH_ready (rs := [10]) (by kernel_rfl) (by simp) ?_
                      refine AllReadyH.cons rfl (fun K hK => ?_) ?_
                      · rw [if_pos (by kernel_rfl)]
                        refine wp_storeL R (.tmp 52) (.tmp 50) rfl 2 (by kernel_rfl) sa (es2 ++ [rdE q]).length sc (by kernel_rfl) v2 rfl (rc (q.drop 21) d (.slice sa (es2 ++ [rdE q]).length sc)) (rc_setv _ _ _ _) ?_; intro w9 R t9; replace R3 := t9.row R3 n3; replace R6 := t9.row R6 n6; replace hE := hE.turned t9 (fun e => by have := (hE.ge p e).1; omega); replace hB := t9.below _ _ (Nat.le_refl _) hB
                        refine hK.out _ _ R6 (fun _ => ?_)
                        clear hK K
                        try simp only [Act.put, List.getElem_toArray, List.getElem_cons_succ, List.getElem_cons_zero, List.setIfInBounds_toArray, List.set_cons_zero, List.set_cons_succ]
                        refine wpAnyH_done (by kernel_rfl) ?_ _
                        refine NoPanic.normal ?_
                        go_wp2
                        go_roundw
                        case rel => first | exact ⟨k + 1, by omega, by go_num, _, _, HDR.out ▸ R, hE, by rw [HMM.out]; exact HV3, (by show _ = _; rw [List.length_append, HS.out]; rfl), hB, R3, hne8⟩ | ((repeat apply Exists.intro); exact ⟨⟨k + 1, by omega, by go_num, _, _, HDR.out ▸ R, hE, by rw [HMM.out]; exact HV3, (by show _ = _; rw [List.length_append, HS.out]; rfl), hB, R3, hne8⟩, rfl⟩)
                        case measure => (first | rw [hkw] | skip); exact meas_c hlt
                      exact AllReadyH.nil
                    exact AllReadyH.nil
                  exact AllReadyH.nil
                exact AllReadyH.nil
              exact AllReadyH.nil
            exact AllReadyH.nil
          · have hbad : ¬ (okR q ∧ (rdE q).t % 4294967296 = time ∧ laterE es2 (rdE q).t = false) := fun h => by rw [hla] at h; simp at h
            clear hok htm'
            go_upto_region 7 with (first
              | (go_at_call 38; refine (CY _ R).mono ?_; rintro x w5 ⟨rfl, R', hM5⟩; replace R := R'; clear R'; replace R3 := hM5.row R3 n3; replace hE := hE.moved hM5 (by omega); replace hB := hB.trans (hM5.below (Nat.le_trans hpl hB.size) (Nat.le_refl _)); clear hM5)
              | ((with_reducible refine atOp (.alloc 29) rfl ?_); refine wpList_allocX 6 29 rfl rfl rfl _ ev_zero ?_; intro b6 w3 g6 R6 hb3; have n6 : b6 ≠ p := (fun e => by have := R.lt; omega); have n36 := R3.ne g6; have hne6 := hE.new g6; have gp6 : p ≤ b6 := Nat.le_trans (Nat.le_of_lt R.lt) g6; replace R := Row.below R hb3; replace R3 := R3.below hb3; replace hE := hE.below hb3; replace hB := hB.trans (hb3.mono (Nat.le_trans hpl hB.size)))
              | ((with_reducible refine atOp (.store 29 (.tmp 6) (.tmp 25)) rfl ?_); refine wpList_storeR 29 rfl (.tmp 6) (.tmp 25) rfl b6 rfl (ec (rdE q)) rfl _ R6 rfl (ec_info _) (ec_one _) ?_; intro w4 R6 t4; replace R := t4.row R n6.symm; replace R3 := t4.row R3 n36; replace hE := hE.turned t4 hne6; replace hB := t4.below _ _ gp6 hB))
            refine wp_region_noPanic ?_
            refine wp_region_held_drew (S := fun W => Row 29 W b6 (ec (rdE q)) ∧ Row 71 W b3 (hdc len time seq kind)) (by kernel_rfl) ⟨R6, R3⟩ (fun _ => ?_)
            refine wpAnyH_take (i := 0) (v := .bool true) rfl (by kernel_rfl) (by kernel_rfl) (by kernel_rfl) (fun _ _ _ h => h) (Or.inl ⟨by kernel_rfl, by intro w hS; go_simp⟩) ⟨R6, R3⟩ ?_
            simp only [Act.put, List.getElem_toArray, List.getElem_cons_succ, List.getElem_cons_zero, List.setIfInBounds_toArray, List.set_cons_zero, List.set_cons_succ]
            refine wpAnyH_take (i := 1) (v := .bool false) rfl (by kernel_rfl) (by kernel_rfl) (by kernel_rfl) (fun _ _ _ h => h) (Or.inl ⟨by kernel_rfl, by intro w hS; go_simp⟩) ⟨R6, R3⟩ ?_
            simp only [Act.put, List.getElem_toArray, List.getElem_cons_succ, List.getElem_cons_zero, List.setIfInBounds_toArray, List.set_cons_zero, List.set_cons_succ]
            refine wpAnyH_take (i := 2) (v := .bool false) rfl (by kernel_rfl) (by kernel_rfl) (by kernel_rfl) (fun _ _ _ h => h) (Or.inl ⟨by kernel_rfl, by intro w hS; go_simp⟩) ⟨R6, R3⟩ ?_
            simp only [Act.put, List.getElem_toArray, List.getElem_cons_succ, List.getElem_cons_zero, List.setIfInBounds_toArray, List.set_cons_zero, List.set_cons_succ]
            refine wpAnyH_take (i := 3) (v := .pointer (some ⟨b6, 0, none⟩)) rfl (by kernel_rfl) (by kernel_rfl) (by kernel_rfl) (fun _ _ _ h => h) (Or.inl ⟨by kernel_rfl, by intro w hS; go_simp⟩) ⟨R6, R3⟩ ?_
            simp only [Act.put, List.getElem_toArray, List.getElem_cons_succ, List.getElem_cons_zero, List.setIfInBounds_toArray, List.set_cons_zero, List.set_cons_succ]
            refine wpAnyH_take (i := 4) (v := .int .i64 (rdE q).t) rfl (by kernel_rfl) (by kernel_rfl) (by kernel_rfl) (fun _ _ _ h => h) (yields_loadI (.tmp 30) rfl (by kernel_rfl) b6 0 (by kernel_rfl) (rdE q).t (fun w h => (h.1.cell 0).trans rfl)) ⟨R6, R3⟩ ?_
            simp only [Act.put, List.getElem_toArray, List.getElem_cons_succ, List.getElem_cons_zero, List.setIfInBounds_toArray, List.set_cons_zero, List.set_cons_succ]
            refine wpAnyH_take (i := 6) (v := .pointer (some ⟨b3, 1, none⟩)) rfl (by kernel_rfl) (by kernel_rfl) (by kernel_rfl) (fun _ _ _ h => h) (Or.inl ⟨by kernel_rfl, by intro w hS; go_simp⟩) ⟨R6, R3⟩ ?_
            simp only [Act.put, List.getElem_toArray, List.getElem_cons_succ, List.getElem_cons_zero, List.setIfInBounds_toArray, List.set_cons_zero, List.set_cons_succ]
            refine wpAnyH_take (i := 7) (v := .int .i64 time) rfl (by kernel_rfl) (by kernel_rfl) (by kernel_rfl) (fun _ _ _ h => h) (yields_loadI (.tmp 33) rfl (by kernel_rfl) b3 1 (by kernel_rfl) time (fun w h => (h.2.cell 1).trans rfl)) ⟨R6, R3⟩ ?_
            simp only [Act.put, List.getElem_toArray, List.getElem_cons_succ, List.getElem_cons_zero, List.setIfInBounds_toArray, List.set_cons_zero, List.set_cons_succ]
            refine wpAnyH_ready (rs := [5]) (by kernel_rfl) (by simp) ?_
            refine AllReadyH.cons rfl (fun K hK => ?_) ?_
            · go_simp
              go_at_call 32; refine (lowest_any _ _ ht0 ht1).mono ?_; rintro x w5 ⟨rfl, hw5⟩; have hb5 := below_of_drew hw5; replace R := Row.below R hb5; replace R3 := R3.below hb5; replace R6 := R6.below hb5; replace hE := hE.below hb5; replace hB := hB.trans (hb5.mono (Nat.le_trans hpl hB.size)); clear hw5
              go_wp2_with fail
              refine hK.out _ _ ⟨R6, R3⟩ (fun _ => ?_)
              clear hK K
              try simp only [Act.put, List.getElem_toArray, List.getElem_cons_succ, List.getElem_cons_zero, List.setIfInBounds_toArray, List.set_cons_zero, List.set_cons_succ]
              refine wpAnyH_take (i := 8) (v := .bool false) rfl (by kernel_rfl) (by kernel_rfl) (by kernel_rfl) (fun _ _ _ h => h) (yields_nei 3 (.tmp 32) (.tmp 34) ((rdE q).t % 4294967296) time false rfl (by kernel_rfl) (by kernel_rfl) (by kernel_rfl) htm) ⟨R6, R3⟩ ?_
              simp only [Act.put, List.getElem_toArray, List.getElem_cons_succ, List.getElem_cons_zero, List.setIfInBounds_toArray, List.set_cons_zero, List.set_cons_succ]
              refine wpAnyH_take (i := 9) (v := .bool false) rfl (by kernel_rfl) (by kernel_rfl) (by kernel_rfl) (fun _ _ _ h => h) (Or.inl ⟨by kernel_rfl, by intro w hS; go_simp⟩) ⟨R6, R3⟩ ?_
              simp only [Act.put, List.getElem_toArray, List.getElem_cons_succ, List.getElem_cons_zero, List.setIfInBounds_toArray, List.set_cons_zero, List.set_cons_succ]
              refine wpAnyH_take (i := 10) (v := .bool false) rfl (by kernel_rfl) (by kernel_rfl) (by kernel_rfl) (fun _ _ _ h => h) (Or.inl ⟨by kernel_rfl, by intro w hS; go_simp⟩) ⟨R6, R3⟩ ?_
              simp only [Act.put, List.getElem_toArray, List.getElem_cons_succ, List.getElem_cons_zero, List.setIfInBounds_toArray, List.set_cons_zero, List.set_cons_succ]
              refine wpAnyH_take (i := 11) (v := .pointer (some ⟨p, 0, none⟩)) rfl (by kernel_rfl) (by kernel_rfl) (by kernel_rfl) (fun _ _ _ h => h) (Or.inl ⟨by kernel_rfl, by intro w hS; go_simp⟩) ⟨R6, R3⟩ ?_
              simp only [Act.put, List.getElem_toArray, List.getElem_cons_succ, List.getElem_cons_zero, List.setIfInBounds_toArray, List.set_cons_zero, List.set_cons_succ]
              refine wpAnyH_take (i := 12) (v := .pointer (some ⟨b6, 0, none⟩)) rfl (by kernel_rfl) (by kernel_rfl) (by kernel_rfl) (fun _ _ _ h => h) (Or.inl ⟨by kernel_rfl, by intro w hS; go_simp⟩) ⟨R6, R3⟩ ?_
              simp only [Act.put, List.getElem_toArray, List.getElem_cons_succ, List.getElem_cons_zero, List.setIfInBounds_toArray, List.set_cons_zero, List.set_cons_succ]
              refine wpAnyH_take (i := 13) (v := .int .i64 (rdE q).t) rfl (by kernel_rfl) (by kernel_rfl) (by kernel_rfl) (fun _ _ _ h => h) (yields_loadI (.tmp 39) rfl (by kernel_rfl) b6 0 (by kernel_rfl) (rdE q).t (fun w h => (h.1.cell 0).trans rfl)) ⟨R6, R3⟩ ?_
              simp only [Act.put, List.getElem_toArray, List.getElem_cons_succ, List.getElem_cons_zero, List.setIfInBounds_toArray, List.set_cons_zero, List.set_cons_succ]
              refine wpAnyH_ready (rs := [14]) (by kernel_rfl) (by simp) ?_
              refine AllReadyH.cons rfl (fun K hK => ?_) ?_
              · go_simp
                go_at_call 39; refine (isLater_any p _ d v2 es2 _ _ R (hE.at hep)).mono ?_; rintro x w6 ⟨rfl, hw6⟩; subst hw6; rw [hla]
                go_wp2_with fail
                refine hK.out _ _ ⟨R6, R3⟩ (fun _ => ?_)
                clear hK K
                try simp only [Act.put, List.getElem_toArray, List.getElem_cons_succ, List.getElem_cons_zero, List.setIfInBounds_toArray, List.set_cons_zero, List.set_cons_succ]
                refine wpAnyH_take (i := 15) (v := .bool true) rfl (by kernel_rfl) (by kernel_rfl) (by kernel_rfl) (fun _ _ _ h => h) (Or.inl ⟨by kernel_rfl, by intro w hS; go_simp⟩) ⟨R6, R3⟩ ?_
                simp only [Act.put, List.getElem_toArray, List.getElem_cons_succ, List.getElem_cons_zero, List.setIfInBounds_toArray, List.set_cons_zero, List.set_cons_succ]
                refine wpAnyH_done (by kernel_rfl) ?_ _
                refine NoPanic.normal ?_
                go_wp2
                go_ret
                exact ⟨Or.inl ⟨rfl, HV2.out.trans (evs_no hbad)⟩, by first | exact hB | exact below_drewE hB⟩
              exact AllReadyH.nil
            exact AllReadyH.nil
        · have htm : ((rdE q).t % 4294967296 != time) = true := by simpa using htm'
          have hbad : ¬ (okR q ∧ (rdE q).t % 4294967296 = time ∧ laterE es2 (rdE q).t = false) := fun h => htm' h.2.1
          clear hok htm'
          go_upto_region 7 with (first
              | (go_at_call 38; refine (CY _ R).mono ?_; rintro x w5 ⟨rfl, R', hM5⟩; replace R := R'; clear R'; replace R3 := hM5.row R3 n3; replace hE := hE.moved hM5 (by omega); replace hB := hB.trans (hM5.below (Nat.le_trans hpl hB.size) (Nat.le_refl _)); clear hM5)
              | ((with_reducible refine atOp (.alloc 29) rfl ?_); refine wpList_allocX 6 29 rfl rfl rfl _ ev_zero ?_; intro b6 w3 g6 R6 hb3; have n6 : b6 ≠ p := (fun e => by have := R.lt; omega); have n36 := R3.ne g6; have hne6 := hE.new g6; have gp6 : p ≤ b6 := Nat.le_trans (Nat.le_of_lt R.lt) g6; replace R := Row.below R hb3; replace R3 := R3.below hb3; replace hE := hE.below hb3; replace hB := hB.trans (hb3.mono (Nat.le_trans hpl hB.size)))
              | ((with_reducible refine atOp (.store 29 (.tmp 6) (.tmp 25)) rfl ?_); refine wpList_storeR 29 rfl (.tmp 6) (.tmp 25) rfl b6 rfl (ec (rdE q)) rfl _ R6 rfl (ec_info _) (ec_one _) ?_; intro w4 R6 t4; replace R := t4.row R n6.symm; replace R3 := t4.row R3 n36; replace hE := hE.turned t4 hne6; replace hB := t4.below _ _ gp6 hB))
          refine wp_region_noPanic ?_
          refine wp_region_held_drew (S := fun W => Row 29 W b6 (ec (rdE q)) ∧ Row 71 W b3 (hdc len time seq kind)) (by kernel_rfl) ⟨R6, R3⟩ (fun _ => ?_)
          refine wpAnyH_take (i := 0) (v := .bool true) rfl (by kernel_rfl) (by kernel_rfl) (by kernel_rfl) (fun _ _ _ h => h) (Or.inl ⟨by kernel_rfl, by intro w hS; go_simp⟩) ⟨R6, R3⟩ ?_
          simp only [Act.put, List.getElem_toArray, List.getElem_cons_succ, List.getElem_cons_zero, List.setIfInBounds_toArray, List.set_cons_zero, List.set_cons_succ]
          refine wpAnyH_take (i := 1) (v := .bool false) rfl (by kernel_rfl) (by kernel_rfl) (by kernel_rfl) (fun _ _ _ h => h) (Or.inl ⟨by kernel_rfl, by intro w hS; go_simp⟩) ⟨R6, R3⟩ ?_
          simp only [Act.put, List.getElem_toArray, List.getElem_cons_succ, List.getElem_cons_zero, List.setIfInBounds_toArray, List.set_cons_zero, List.set_cons_succ]
          refine wpAnyH_take (i := 2) (v := .bool false) rfl (by kernel_rfl) (by kernel_rfl) (by kernel_rfl) (fun _ _ _ h => h) (Or.inl ⟨by kernel_rfl, by intro w hS; go_simp⟩) ⟨R6, R3⟩ ?_
          simp only [Act.put, List.getElem_toArray, List.getElem_cons_succ, List.getElem_cons_zero, List.setIfInBounds_toArray, List.set_cons_zero, List.set_cons_succ]
          refine wpAnyH_take (i := 3) (v := .pointer (some ⟨b6, 0, none⟩)) rfl (by kernel_rfl) (by kernel_rfl) (by kernel_rfl) (fun _ _ _ h => h) (Or.inl ⟨by kernel_rfl, by intro w hS; go_simp⟩) ⟨R6, R3⟩ ?_
          simp only [Act.put, List.getElem_toArray, List.getElem_cons_succ, List.getElem_cons_zero, List.setIfInBounds_toArray, List.set_cons_zero, List.set_cons_succ]
          refine wpAnyH_take (i := 4) (v := .int .i64 (rdE q).t) rfl (by kernel_rfl) (by kernel_rfl) (by kernel_rfl) (fun _ _ _ h => h) (yields_loadI (.tmp 30) rfl (by kernel_rfl) b6 0 (by kernel_rfl) (rdE q).t (fun w h => (h.1.cell 0).trans rfl)) ⟨R6, R3⟩ ?_
          simp only [Act.put, List.getElem_toArray, List.getElem_cons_succ, List.getElem_cons_zero, List.setIfInBounds_toArray, List.set_cons_zero, List.set_cons_succ]
          refine wpAnyH_take (i := 6) (v := .pointer (some ⟨b3, 1, none⟩)) rfl (by kernel_rfl) (by kernel_rfl) (by kernel_rfl) (fun _ _ _ h => h) (Or.inl ⟨by kernel_rfl, by intro w hS; go_simp⟩) ⟨R6, R3⟩ ?_
          simp only [Act.put, List.getElem_toArray, List.getElem_cons_succ, List.getElem_cons_zero, List.setIfInBounds_toArray, List.set_cons_zero, List.set_cons_succ]
          refine wpAnyH_take (i := 7) (v := .int .i64 time) rfl (by kernel_rfl) (by kernel_rfl) (by kernel_rfl) (fun _ _ _ h => h) (yields_loadI (.tmp 33) rfl (by kernel_rfl) b3 1 (by kernel_rfl) time (fun w h => (h.2.cell 1).trans rfl)) ⟨R6, R3⟩ ?_
          simp only [Act.put, List.getElem_toArray, List.getElem_cons_succ, List.getElem_cons_zero, List.setIfInBounds_toArray, List.set_cons_zero, List.set_cons_succ]
          refine wpAnyH_ready (rs := [5]) (by kernel_rfl) (by simp) ?_
          refine AllReadyH.cons rfl (fun K hK => ?_) ?_
          · go_simp
            go_at_call 32; refine (lowest_any _ _ ht0 ht1).mono ?_; rintro x w5 ⟨rfl, hw5⟩; have hb5 := below_of_drew hw5; replace R := Row.below R hb5; replace R3 := R3.below hb5; replace R6 := R6.below hb5; replace hE := hE.below hb5; replace hB := hB.trans (hb5.mono (Nat.le_trans hpl hB.size)); clear hw5
            go_wp2_with fail
            refine hK.out _ _ ⟨R6, R3⟩ (fun _ => ?_)
            clear hK K
            try simp only [Act.put, List.getElem_toArray, List.getElem_cons_succ, List.getElem_cons_zero, List.setIfInBounds_toArray, List.set_cons_zero, List.set_cons_succ]
            refine wpAnyH_take (i := 8) (v := .bool true) rfl (by kernel_rfl) (by kernel_rfl) (by kernel_rfl) (fun _ _ _ h => h) (yields_nei 3 (.tmp 32) (.tmp 34) ((rdE q).t % 4294967296) time true rfl (by kernel_rfl) (by kernel_rfl) (by kernel_rfl) htm) ⟨R6, R3⟩ ?_
            simp only [Act.put, List.getElem_toArray, List.getElem_cons_succ, List.getElem_cons_zero, List.setIfInBounds_toArray, List.set_cons_zero, List.set_cons_succ]
            refine wpAnyH_take (i := 9) (v := .bool true) rfl (by kernel_rfl) (by kernel_rfl) (by kernel_rfl) (fun _ _ _ h => h) (Or.inl ⟨by kernel_rfl, by intro w hS; go_simp⟩) ⟨R6, R3⟩ ?_
            simp only [Act.put, List.getElem_toArray, List.getElem_cons_succ, List.getElem_cons_zero, List.setIfInBounds_toArray, List.set_cons_zero, List.set_cons_succ]
            refine wpAnyH_take (i := 10) (v := .bool true) rfl (by kernel_rfl) (by kernel_rfl) (by kernel_rfl) (fun _ _ _ h => h) (Or.inl ⟨by kernel_rfl, by intro w hS; go_simp⟩) ⟨R6, R3⟩ ?_
            simp only [Act.put, List.getElem_toArray, List.getElem_cons_succ, List.getElem_cons_zero, List.setIfInBounds_toArray, List.set_cons_zero, List.set_cons_succ]
            refine wpAnyH_take (i := 11) (v := undef) rfl (by kernel_rfl) (by kernel_rfl) (by kernel_rfl) (fun _ _ _ h => h) (Or.inr ⟨by kernel_rfl, rfl⟩) ⟨R6, R3⟩ ?_
            simp only [Act.put, List.getElem_toArray, List.getElem_cons_succ, List.getElem_cons_zero, List.setIfInBounds_toArray, List.set_cons_zero, List.set_cons_succ]
            refine wpAnyH_take (i := 12) (v := undef) rfl (by kernel_rfl) (by kernel_rfl) (by kernel_rfl) (fun _ _ _ h => h) (Or.inr ⟨by kernel_rfl, rfl⟩) ⟨R6, R3⟩ ?_
            simp only [Act.put, List.getElem_toArray, List.getElem_cons_succ, List.getElem_cons_zero, List.setIfInBounds_toArray, List.set_cons_zero, List.set_cons_succ]
            refine wpAnyH_take (i := 13) (v := undef) rfl (by kernel_rfl) (by kernel_rfl) (by kernel_rfl) (fun _ _ _ h => h) (Or.inr ⟨by kernel_rfl, rfl⟩) ⟨R6, R3⟩ ?_
            simp only [Act.put, List.getElem_toArray, List.getElem_cons_succ, List.getElem_cons_zero, List.setIfInBounds_toArray, List.set_cons_zero, List.set_cons_succ]
            refine wpAnyH_ready (rs := [14]) (by kernel_rfl) (by simp) ?_
            refine AllReadyH.cons rfl (fun K hK => ?_) ?_
            · rw [if_neg (ne_true_of_eq_false (by kernel_rfl))]
              refine hK.out _ _ ⟨R6, R3⟩ (fun _ => ?_)
              clear hK K
              try simp only [Act.put, List.getElem_toArray, List.getElem_cons_succ, List.getElem_cons_zero, List.setIfInBounds_toArray, List.set_cons_zero, List.set_cons_succ]
              refine wpAnyH_take (i := 15) (v := .bool true) rfl (by kernel_rfl) (by kernel_rfl) (by kernel_rfl) (fun _ _ _ h => h) (Or.inl ⟨by kernel_rfl, by intro w hS; go_simp⟩) ⟨R6, R3⟩ ?_
              simp only [Act.put, List.getElem_toArray, List.getElem_cons_succ, List.getElem_cons_zero, List.setIfInBounds_toArray, List.set_cons_zero, List.set_cons_succ]
              refine wpAnyH_done (by kernel_rfl) ?_ _
              refine NoPanic.normal ?_
              go_wp2
              go_ret
              exact ⟨Or.inl ⟨rfl, HV2.out.trans (evs_no hbad)⟩, by first | exact hB | exact below_drewE hB⟩
            exact AllReadyH.nil
          exact AllReadyH.nil
      · have CN := fun (w : World) (R : Rdr w p q d v2) => EN w R hok
        have hbad : ¬ (okR q ∧ (rdE q).t % 4294967296 = time ∧ laterE es2 (rdE q).t = false) := fun h => hok h.1
        clear EV EN hok
        go_upto_region 7 with (first
              | (go_at_call 38; refine (CN _ R).mono ?_; rintro x w5 ⟨⟨E, rfl⟩, R', hM5⟩; replace R := R'; clear R'; replace R3 := hM5.row R3 n3; replace hE := hE.moved hM5 (by omega); replace hB := hB.trans (hM5.below (Nat.le_trans hpl hB.size) (Nat.le_refl _)); clear hM5)
              | ((with_reducible refine atOp (.alloc 29) rfl ?_); refine wpList_allocX 6 29 rfl rfl rfl _ ev_zero ?_; intro b6 w3 g6 R6 hb3; have n6 : b6 ≠ p := (fun e => by have := R.lt; omega); have n36 := R3.ne g6; have hne6 := hE.new g6; have gp6 : p ≤ b6 := Nat.le_trans (Nat.le_of_lt R.lt) g6; replace R := Row.below R hb3; replace R3 := R3.below hb3; replace hE := hE.below hb3; replace hB := hB.trans (hb3.mono (Nat.le_trans hpl hB.size)))
              | ((with_reducible refine atOp (.store 29 (.tmp 6) (.tmp 25)) rfl ?_); refine wpList_storeR 29 rfl (.tmp 6) (.tmp 25) rfl b6 rfl (ec E) rfl _ R6 rfl (ec_info _) (ec_one _) ?_; intro w4 R6 t4; replace R := t4.row R n6.symm; replace R3 := t4.row R3 n36; replace hE := hE.turned t4 hne6; replace hB := t4.below _ _ gp6 hB))
        refine wp_region_noPanic ?_
        refine wp_region_held_drew (S := fun W => Row 29 W b6 (ec E) ∧ Row 71 W b3 (hdc len time seq kind)) (by kernel_rfl) ⟨R6, R3⟩ (fun _ => ?_)
        refine wpAnyH_take (i := 0) (v := .bool false) rfl (by kernel_rfl) (by kernel_rfl) (by kernel_rfl) (fun _ _ _ h => h) (Or.inl ⟨by kernel_rfl, by intro w hS; go_simp⟩) ⟨R6, R3⟩ ?_
        simp only [Act.put, List.getElem_toArray, List.getElem_cons_succ, List.getElem_cons_zero, List.setIfInBounds_toArray, List.set_cons_zero, List.set_cons_succ]
        refine wpAnyH_take (i := 1) (v := .bool true) rfl (by kernel_rfl) (by kernel_rfl) (by kernel_rfl) (fun _ _ _ h => h) (Or.inl ⟨by kernel_rfl, by intro w hS; go_simp⟩) ⟨R6, R3⟩ ?_
        simp only [Act.put, List.getElem_toArray, List.getElem_cons_succ, List.getElem_cons_zero, List.setIfInBounds_toArray, List.set_cons_zero, List.set_cons_succ]
        refine wpAnyH_take (i := 2) (v := .bool true) rfl (by kernel_rfl) (by kernel_rfl) (by kernel_rfl) (fun _ _ _ h => h) (Or.inl ⟨by kernel_rfl, by intro w hS; go_simp⟩) ⟨R6, R3⟩ ?_
        simp only [Act.put, List.getElem_toArray, List.getElem_cons_succ, List.getElem_cons_zero, List.setIfInBounds_toArray, List.set_cons_zero, List.set_cons_succ]
        refine wpAnyH_take (i := 3) (v := undef) rfl (by kernel_rfl) (by kernel_rfl) (by kernel_rfl) (fun _ _ _ h => h) (Or.inr ⟨by kernel_rfl, rfl⟩) ⟨R6, R3⟩ ?_
        simp only [Act.put, List.getElem_toArray, List.getElem_cons_succ, List.getElem_cons_zero, List.setIfInBounds_toArray, List.set_cons_zero, List.set_cons_succ]
        refine wpAnyH_take (i := 4) (v := undef) rfl (by kernel_rfl) (by kernel_rfl) (by kernel_rfl) (fun _ _ _ h => h) (Or.inr ⟨by kernel_rfl, rfl⟩) ⟨R6, R3⟩ ?_
        simp only [Act.put, List.getElem_toArray, List.getElem_cons_succ, List.getElem_cons_zero, List.setIfInBounds_toArray, List.set_cons_zero, List.set_cons_succ]
        refine wpAnyH_take (i := 6) (v := undef) rfl (by kernel_rfl) (by kernel_rfl) (by kernel_rfl) (fun _ _ _ h => h) (Or.inr ⟨by kernel_rfl, rfl⟩) ⟨R6, R3⟩ ?_
        simp only [Act.put, List.getElem_toArray, List.getElem_cons_succ, List.getElem_cons_zero, List.setIfInBounds_toArray, List.set_cons_zero, List.set_cons_succ]
        refine wpAnyH_take (i := 7) (v := undef) rfl (by kernel_rfl) (by kernel_rfl) (by kernel_rfl) (fun _ _ _ h => h) (Or.inr ⟨by kernel_rfl, rfl⟩) ⟨R6, R3⟩ ?_
        simp only [Act.put, List.getElem_toArray, List.getElem_cons_succ, List.getElem_cons_zero, List.setIfInBounds_toArray, List.set_cons_zero, List.set_cons_succ]
        refine wpAnyH_ready (rs := [5]) (by kernel_rfl) (by simp) ?_
        refine AllReadyH.cons rfl (fun K hK => ?_) ?_
        · rw [if_neg (ne_true_of_eq_false (by kernel_rfl))]
          refine hK.out _ _ ⟨R6, R3⟩ (fun _ => ?_)
          clear hK K
          try simp only [Act.put, List.getElem_toArray, List.getElem_cons_succ, List.getElem_cons_zero, List.setIfInBounds_toArray, List.set_cons_zero, List.set_cons_succ]
          refine wpAnyH_take (i := 8) (v := undef) rfl (by kernel_rfl) (by kernel_rfl) (by kernel_rfl) (fun _ _ _ h => h) (Or.inr ⟨by kernel_rfl, rfl⟩) ⟨R6, R3⟩ ?_
          simp only [Act.put, List.getElem_toArray, List.getElem_cons_succ, List.getElem_cons_zero, List.setIfInBounds_toArray, List.set_cons_zero, List.set_cons_succ]
          refine wpAnyH_take (i := 9) (v := .bool true) rfl (by kernel_rfl) (by kernel_rfl) (by kernel_rfl) (fun _ _ _ h => h) (Or.inl ⟨by kernel_rfl, by intro w hS; go_simp⟩) ⟨R6, R3⟩ ?_
          simp only [Act.put, List.getElem_toArray, List.getElem_cons_succ, List.getElem_cons_zero, List.setIfInBounds_toArray, List.set_cons_zero, List.set_cons_succ]
          refine wpAnyH_take (i := 10) (v := .bool true) rfl (by kernel_rfl) (by kernel_rfl) (by kernel_rfl) (fun _ _ _ h => h) (Or.inl ⟨by kernel_rfl, by intro w hS; go_simp⟩) ⟨R6, R3⟩ ?_
          simp only [Act.put, List.getElem_toArray, List.getElem_cons_succ, List.getElem_cons_zero, List.setIfInBounds_toArray, List.set_cons_zero, List.set_cons_succ]
          refine wpAnyH_take (i := 11) (v := undef) rfl (by kernel_rfl) (by kernel_rfl) (by kernel_rfl) (fun _ _ _ h => h) (Or.inr ⟨by kernel_rfl, rfl⟩) ⟨R6, R3⟩ ?_
          simp only [Act.put, List.getElem_toArray, List.getElem_cons_succ, List.getElem_cons_zero, List.setIfInBounds_toArray, List.set_cons_zero, List.set_cons_succ]
          refine wpAnyH_take (i := 12) (v := undef) rfl (by kernel_rfl) (by kernel_rfl) (by kernel_rfl) (fun _ _ _ h => h) (Or.inr ⟨by kernel_rfl, rfl⟩) ⟨R6, R3⟩ ?_
          simp only [Act.put, List.getElem_toArray, List.getElem_cons_succ, List.getElem_cons_zero, List.setIfInBounds_toArray, List.set_cons_zero, List.set_cons_succ]
          refine wpAnyH_take (i := 13) (v := undef) rfl (by kernel_rfl) (by kernel_rfl) (by kernel_rfl) (fun _ _ _ h => h) (Or.inr ⟨by kernel_rfl, rfl⟩) ⟨R6, R3⟩ ?_
          simp only [Act.put, List.getElem_toArray, List.getElem_cons_succ, List.getElem_cons_zero, List.setIfInBounds_toArray, List.set_cons_zero, List.set_cons_succ]
          refine wpAnyH_ready (rs := [14]) (by kernel_rfl) (by simp) ?_
          refine AllReadyH.cons rfl (fun K hK => ?_) ?_
          · rw [if_neg (ne_true_of_eq_false (by kernel_rfl))]
            refine hK.out _ _ ⟨R6, R3⟩ (fun _ => ?_)
            clear hK K
            try simp only [Act.put, List.getElem_toArray, List.getElem_cons_succ, List.getElem_cons_zero, List.setIfInBounds_toArray, List.set_cons_zero, List.set_cons_succ]
            refine wpAnyH_take (i := 15) (v := .bool true) rfl (by kernel_rfl) (by kernel_rfl) (by kernel_rfl) (fun _ _ _ h => h) (Or.inl ⟨by kernel_rfl, by intro w hS; go_simp⟩) ⟨R6, R3⟩ ?_
            simp only [Act.put, List.getElem_toArray, List.getElem_cons_succ, List.getElem_cons_zero, List.setIfInBounds_toArray, List.set_cons_zero, List.set_cons_succ]
            refine wpAnyH_done (by kernel_rfl) ?_ _
            refine NoPanic.normal ?_
            go_wp2
            go_ret
            exact ⟨Or.inl ⟨rfl, HV2.out.trans (evs_no hbad)⟩, by first | exact hB | exact below_drewE hB⟩
          exact AllReadyH.nil
        exact AllReadyH.nil
    · obtain rfl : k = c := by omega
      have HV4 : Hid (evs time k (l.drop 20) es = some es2) := by show _ = _; rw [HV.out, Nat.sub_self]; rfl
      clear HV
      go_wp2
      go_ret
      exact ⟨Or.inr ⟨rfl, _, _, HV4.out, R, hE⟩, hB⟩
end Go.Proofs.YtnhafdkfjjplkaaDoor
