/-
  Message: the document's.
-/
import Derived.Test.YtnhafdkfjjplkaaDoorRecM0
import Derived.Test.YtnhafdkfjjplkaaDoorRecF
import Derived.Test.YtnhafdkfjjplkaaDoorYieldP
namespace Go.Proofs.YtnhafdkfjjplkaaDoor
open Go.ChangeShapes Go.WideShapes Go.ChangeAt Go.RowKit
set_option linter.unusedSimpArgs false
set_option linter.unusedVariables false

set_option maxRecDepth 10000 in
set_option maxHeartbeats 8000000 in
theorem messageR_any (seq : Int) (sl : Value) (es : List Ev) (w : World) (hM : EvAt w sl es) : Calls Tryd.prog 9 #[.int .i64 seq, sl] w fun x w' => x = .returned (mesS seq es) ∧ Below w.heap.size w w' := by
  have hB := Below.refl w.heap.size w
  obtain ⟨a0, cap, hsl⟩ := hM.slice
  obtain ⟨n, hn⟩ : ∃ n, n = es.length := ⟨_, rfl⟩
  rw [← hn] at hsl
  subst hsl
  have HN : Hid (n = es.length) := hn
  have hlt := hM.lt
  by_cases h0 : n = 0
  · have HS : Hid (mesS seq es = _) := mesS_none (by omega)
    subst h0
    clear hn
    go_enter Tryd.func9, Tryd.ntmps9
    go_wp2
    go_ret2
    exact ⟨by rw [HS.out]; rfl, hB⟩
  have h0' : ((n : Int) == 0) = false := by simp; omega
  by_cases h64 : 64 < n
  · have HS : Hid (mesS seq es = _) := mesS_full (by omega)
    have h64' : decide ((64 : Int) < (n : Int)) = true := by simp; omega
    clear hn h0 h64
    go_enter Tryd.func9, Tryd.ntmps9
    go_wp2
    go_ret2
    exact ⟨by rw [HS.out]; rfl, hB⟩
  have h64' : decide ((64 : Int) < (n : Int)) = false := by simp; omega
  have hl0 : 0 < es.length := by omega
  have hl64 : es.length ≤ 64 := by omega
  have hT0 := hM.time0 hl0
  have I0 := fun w2 => hM.index0 hl0 w2
  clear hn h0 h64
  go_enter Tryd.func9, Tryd.ntmps9
  go_wp2
  go_loopw [6, 17] (fun v i W => ∃ j : Nat, j ≤ es.length ∧ i = .int .i64 (j : Int) ∧ v = .string (txt (setB (es.take j))) ∧ Below w.heap.size w W ∧ okTo es j) (fun _ i _ => n - (intOf i).toNat)
  case atStart => exact ⟨0, by omega, rfl, rfl, hB, okTo_zero es⟩
  case round =>
    clear hB
    obtain ⟨j, hj, rfl, rfl, hB, hok⟩ := hrel
    have c0 : World.cell? _ ⟨eb (.slice a0 n cap), eo (.slice a0 n cap), none⟩ = some (.int .i64 (tmE es)) := (hM.keep hB hlt).time0 hl0
    have hBl := hlt hl0
    by_cases hlj : j < es.length
    · have hjn : (j : Int) < (n : Int) := by have := HN.out; omega
      have hjw := ev_next hlj hM.len
      obtain ⟨e, he⟩ : ∃ e, es[j] = e := ⟨_, rfl⟩
      have hMW := hM.keep hB hlt
      have hrg := hMW.at j hlj he
      have IR := fun w2 => hM.index j hlj w2
      by_cases hk : okE e
      · have CG : ∀ w, Calls Tryd.prog 13 #[.agg (ec e)] w fun x w' => x = .returned (.int .i64 0) ∧ Below w.heap.size w w' := fun w => by have := goodRef_any e w; rw [goodE_yes hk] at this; exact this
        by_cases ht : e.t = tmE es
        · have hte : (e.t != tmE es) = false := by simpa using ht
          have HK : Hid (okTo es (j + 1)) := okTo_step hok hlj he hk ht
          have HB : Hid (setB (es.take (j + 1)) = setB (es.take j) ++ evB e) := setB_step hlj he
          have hlb : (setB (es.take j)).length ≤ 2000 := by rw [setB_len, List.length_take]; omega
          clear ht he
          go_upto_region 9 with (first
            | ((with_reducible refine atOp (.indexAddr 22 (.tmp 15) (.tmp 17)) rfl ?_); refine wpList_indexG 22 (.tmp 15) (.tmp 17) rfl rfl _ _ _ rfl rfl (IR _) ?_)
            | ((with_reducible refine atOp (.load 29 (.tmp 19)) rfl ?_); refine wpList_loadE (.tmp 19) rfl rfl _ _ rfl e hrg ?_)
            | ((with_reducible refine atOp (.alloc 29) rfl ?_); refine wpList_allocX 8 29 rfl rfl rfl _ ev_zero ?_; intro b8 w3 l8 R8 hb3; replace l8 := Nat.le_trans hB.size l8; replace c0 := cell_keepE c0 hb3; replace hB := hB.trans (hb3.mono hB.size); clear hrg hMW)
            | ((with_reducible refine atOp (.store 29 (.tmp 8) (.tmp 20)) rfl ?_); refine wpList_storeR 29 rfl (.tmp 8) (.tmp 20) rfl b8 rfl (ec e) rfl _ R8 rfl (ec_info e) (ec_one e) ?_; intro w4 R8 t4; replace c0 := cell_turnE c0 t4 (Nat.lt_of_lt_of_le hBl l8); replace hB := t4.below _ _ l8 hB))
          refine wp_region_noPanic ?_
          refine wp_region_held_drew (S := fun W => Row 29 W b8 (ec e) ∧ W.cell? ⟨eb (.slice a0 n cap), eo (.slice a0 n cap), none⟩ = some (.int .i64 (tmE es))) (by kernel_rfl) ⟨R8, c0⟩ (fun _ => ?_)
          refine wpAnyH_take (i := 0) (v := .agg (ec e)) rfl (by kernel_rfl) (by kernel_rfl) (by kernel_rfl) (fun _ _ _ h => h) (yields_loadR 29 (.tmp 8) rfl (by kernel_rfl) b8 (by kernel_rfl) (ec e) (fun w h => h.1) _ Tryd.underlying29 rfl (ec_info e)) ⟨R8, c0⟩ ?_
          simp only [Act.put, List.getElem_toArray, List.getElem_cons_succ, List.getElem_cons_zero, List.setIfInBounds_toArray, List.set_cons_zero, List.set_cons_succ]
          refine wpAnyH_ready (rs := [1]) (by kernel_rfl) (by simp) ?_
          refine AllReadyH.cons rfl (fun K hK => ?_) ?_
          · go_simp
            go_at_call 13; refine (CG _).mono ?_; rintro x w5 ⟨rfl, hb5⟩; replace hb5 := below_undrE hb5; replace R8 := R8.below hb5; replace c0 := cell_keepE c0 hb5; replace hB := hB.trans (hb5.mono hB.size)
            go_wp2_with fail
            refine hK.out _ _ ⟨R8, c0⟩ (fun _ => ?_)
            clear hK K
            try simp only [Act.put, List.getElem_toArray, List.getElem_cons_succ, List.getElem_cons_zero, List.setIfInBounds_toArray, List.set_cons_zero, List.set_cons_succ]
            refine wpAnyH_take (i := 2) (v := .bool false) rfl (by kernel_rfl) (by kernel_rfl) (by kernel_rfl) (fun _ _ _ h => h) (Or.inl ⟨by kernel_rfl, by intro w hS; go_simp⟩) ⟨R8, c0⟩ ?_
            simp only [Act.put, List.getElem_toArray, List.getElem_cons_succ, List.getElem_cons_zero, List.setIfInBounds_toArray, List.set_cons_zero, List.set_cons_succ]
            refine wpAnyH_take (i := 3) (v := .bool false) rfl (by kernel_rfl) (by kernel_rfl) (by kernel_rfl) (fun _ _ _ h => h) (Or.inl ⟨by kernel_rfl, by intro w hS; go_simp⟩) ⟨R8, c0⟩ ?_
            simp only [Act.put, List.getElem_toArray, List.getElem_cons_succ, List.getElem_cons_zero, List.setIfInBounds_toArray, List.set_cons_zero, List.set_cons_succ]
            refine wpAnyH_take (i := 4) (v := .pointer (some ⟨b8, 0, none⟩)) rfl (by kernel_rfl) (by kernel_rfl) (by kernel_rfl) (fun _ _ _ h => h) (Or.inl ⟨by kernel_rfl, by intro w hS; go_simp⟩) ⟨R8, c0⟩ ?_
            simp only [Act.put, List.getElem_toArray, List.getElem_cons_succ, List.getElem_cons_zero, List.setIfInBounds_toArray, List.set_cons_zero, List.set_cons_succ]
            refine wpAnyH_take (i := 5) (v := .int .i64 e.t) rfl (by kernel_rfl) (by kernel_rfl) (by kernel_rfl) (fun _ _ _ h => h) (yields_loadI (.tmp 25) rfl (by kernel_rfl) b8 0 (by kernel_rfl) e.t (fun w h => (h.1.cell 0).trans rfl)) ⟨R8, c0⟩ ?_
            simp only [Act.put, List.getElem_toArray, List.getElem_cons_succ, List.getElem_cons_zero, List.setIfInBounds_toArray, List.set_cons_zero, List.set_cons_succ]
            refine wpAnyH_take (i := 6) (v := .slice a0 n cap) rfl (by kernel_rfl) (by kernel_rfl) (by kernel_rfl) (fun _ _ _ h => h) (Or.inl ⟨by kernel_rfl, by intro w hS; go_simp⟩) ⟨R8, c0⟩ ?_
            simp only [Act.put, List.getElem_toArray, List.getElem_cons_succ, List.getElem_cons_zero, List.setIfInBounds_toArray, List.set_cons_zero, List.set_cons_succ]
            refine wpAnyH_take (i := 7) (v := .pointer (some ⟨eb (.slice a0 n cap), eo (.slice a0 n cap), none⟩)) rfl (by kernel_rfl) (by kernel_rfl) (by kernel_rfl) (fun _ _ _ h => h) (yields_indexG 22 (.tmp 27) (.const (.int .i64 0)) rfl (by kernel_rfl) _ _ _ (by kernel_rfl) (by kernel_rfl) I0) ⟨R8, c0⟩ ?_
            simp only [Act.put, List.getElem_toArray, List.getElem_cons_succ, List.getElem_cons_zero, List.setIfInBounds_toArray, List.set_cons_zero, List.set_cons_succ]
            refine wpAnyH_take (i := 8) (v := .pointer (some ⟨eb (.slice a0 n cap), eo (.slice a0 n cap), none⟩)) rfl (by kernel_rfl) (by kernel_rfl) (by kernel_rfl) (fun _ _ _ h => h) (Or.inl ⟨by kernel_rfl, by intro w hS; go_simp⟩) ⟨R8, c0⟩ ?_
            simp only [Act.put, List.getElem_toArray, List.getElem_cons_succ, List.getElem_cons_zero, List.setIfInBounds_toArray, List.set_cons_zero, List.set_cons_succ]
            refine wpAnyH_take (i := 9) (v := .int .i64 (tmE es)) rfl (by kernel_rfl) (by kernel_rfl) (by kernel_rfl) (fun _ _ _ h => h) (yields_loadI (.tmp 29) rfl (by kernel_rfl) (eb (.slice a0 n cap)) (eo (.slice a0 n cap)) (by kernel_rfl) (tmE es) (fun w h => h.2)) ⟨R8, c0⟩ ?_
            simp only [Act.put, List.getElem_toArray, List.getElem_cons_succ, List.getElem_cons_zero, List.setIfInBounds_toArray, List.set_cons_zero, List.set_cons_succ]
            refine wpAnyH_take (i := 10) (v := .bool false) rfl (by kernel_rfl) (by kernel_rfl) (by kernel_rfl) (fun _ _ _ h => h) (yields_nei 3 (.tmp 26) (.tmp 30) e.t (tmE es) false rfl (by kernel_rfl) (by kernel_rfl) (by kernel_rfl) hte) ⟨R8, c0⟩ ?_
            simp only [Act.put, List.getElem_toArray, List.getElem_cons_succ, List.getElem_cons_zero, List.setIfInBounds_toArray, List.set_cons_zero, List.set_cons_succ]
            refine wpAnyH_take (i := 11) (v := .bool false) rfl (by kernel_rfl) (by kernel_rfl) (by kernel_rfl) (fun _ _ _ h => h) (Or.inl ⟨by kernel_rfl, by intro w hS; go_simp⟩) ⟨R8, c0⟩ ?_
            simp only [Act.put, List.getElem_toArray, List.getElem_cons_succ, List.getElem_cons_zero, List.setIfInBounds_toArray, List.set_cons_zero, List.set_cons_succ]
            refine wpAnyH_done (by kernel_rfl) ?_ _
            refine NoPanic.normal ?_
            have hs1 : (txt (setB (es.take j))).size ≤ 2000 := by rw [txt_size]; exact hlb
            have hs2 : (txt (evB e)).size = 21 := by rw [txt_size, evB_len]
            go_wp2_with (first
              | ((with_reducible refine atOp (.load 29 (.tmp 8)) rfl ?_); refine wpList_loadR 29 (.tmp 8) rfl rfl b8 rfl (ec e) R8 _ Tryd.underlying29 rfl (ec_info e) ?_)
              | (go_at_call 23; go_fit (eventText_any e _ hk); rintro x w5 ⟨rfl, hb5⟩; replace hB := hB.trans (hb5.mono hB.size)))
            go_roundw
            case rel => first | exact ⟨j + 1, by omega, by go_num, by rw [HB.out, ← txt_app], hB, HK.out⟩ | ((repeat apply Exists.intro); exact ⟨⟨j + 1, by omega, by go_num, by rw [HB.out, ← txt_app], hB, HK.out⟩, rfl⟩)
            case measure => (first | rw [hjw] | skip); exact ev_meas (HN.out.symm ▸ hlj)
          exact AllReadyH.nil
        · have hte : (e.t != tmE es) = true := by simpa using ht
          have HS : Hid (mesS seq es = _) := mesS_bad hl0 hl64 (okM_not hlj he (fun h => ht h.2))
          clear ht he
          go_upto_region 9 with (first
            | ((with_reducible refine atOp (.indexAddr 22 (.tmp 15) (.tmp 17)) rfl ?_); refine wpList_indexG 22 (.tmp 15) (.tmp 17) rfl rfl _ _ _ rfl rfl (IR _) ?_)
            | ((with_reducible refine atOp (.load 29 (.tmp 19)) rfl ?_); refine wpList_loadE (.tmp 19) rfl rfl _ _ rfl e hrg ?_)
            | ((with_reducible refine atOp (.alloc 29) rfl ?_); refine wpList_allocX 8 29 rfl rfl rfl _ ev_zero ?_; intro b8 w3 l8 R8 hb3; replace l8 := Nat.le_trans hB.size l8; replace c0 := cell_keepE c0 hb3; replace hB := hB.trans (hb3.mono hB.size); clear hrg hMW)
            | ((with_reducible refine atOp (.store 29 (.tmp 8) (.tmp 20)) rfl ?_); refine wpList_storeR 29 rfl (.tmp 8) (.tmp 20) rfl b8 rfl (ec e) rfl _ R8 rfl (ec_info e) (ec_one e) ?_; intro w4 R8 t4; replace c0 := cell_turnE c0 t4 (Nat.lt_of_lt_of_le hBl l8); replace hB := t4.below _ _ l8 hB))
          refine wp_region_noPanic ?_
          refine wp_region_held_drew (S := fun W => Row 29 W b8 (ec e) ∧ W.cell? ⟨eb (.slice a0 n cap), eo (.slice a0 n cap), none⟩ = some (.int .i64 (tmE es))) (by kernel_rfl) ⟨R8, c0⟩ (fun _ => ?_)
          refine wpAnyH_take (i := 0) (v := .agg (ec e)) rfl (by kernel_rfl) (by kernel_rfl) (by kernel_rfl) (fun _ _ _ h => h) (yields_loadR 29 (.tmp 8) rfl (by kernel_rfl) b8 (by kernel_rfl) (ec e) (fun w h => h.1) _ Tryd.underlying29 rfl (ec_info e)) ⟨R8, c0⟩ ?_
          simp only [Act.put, List.getElem_toArray, List.getElem_cons_succ, List.getElem_cons_zero, List.setIfInBounds_toArray, List.set_cons_zero, List.set_cons_succ]
          refine wpAnyH_ready (rs := [1]) (by kernel_rfl) (by simp) ?_
          refine AllReadyH.cons rfl (fun K hK => ?_) ?_
          · go_simp
            go_at_call 13; refine (CG _).mono ?_; rintro x w5 ⟨rfl, hb5⟩; replace hb5 := below_undrE hb5; replace R8 := R8.below hb5; replace c0 := cell_keepE c0 hb5; replace hB := hB.trans (hb5.mono hB.size)
            go_wp2_with fail
            refine hK.out _ _ ⟨R8, c0⟩ (fun _ => ?_)
            clear hK K
            try simp only [Act.put, List.getElem_toArray, List.getElem_cons_succ, List.getElem_cons_zero, List.setIfInBounds_toArray, List.set_cons_zero, List.set_cons_succ]
            refine wpAnyH_take (i := 2) (v := .bool false) rfl (by kernel_rfl) (by kernel_rfl) (by kernel_rfl) (fun _ _ _ h => h) (Or.inl ⟨by kernel_rfl, by intro w hS; go_simp⟩) ⟨R8, c0⟩ ?_
            simp only [Act.put, List.getElem_toArray, List.getElem_cons_succ, List.getElem_cons_zero, List.setIfInBounds_toArray, List.set_cons_zero, List.set_cons_succ]
            refine wpAnyH_take (i := 3) (v := .bool false) rfl (by kernel_rfl) (by kernel_rfl) (by kernel_rfl) (fun _ _ _ h => h) (Or.inl ⟨by kernel_rfl, by intro w hS; go_simp⟩) ⟨R8, c0⟩ ?_
            simp only [Act.put, List.getElem_toArray, List.getElem_cons_succ, List.getElem_cons_zero, List.setIfInBounds_toArray, List.set_cons_zero, List.set_cons_succ]
            refine wpAnyH_take (i := 4) (v := .pointer (some ⟨b8, 0, none⟩)) rfl (by kernel_rfl) (by kernel_rfl) (by kernel_rfl) (fun _ _ _ h => h) (Or.inl ⟨by kernel_rfl, by intro w hS; go_simp⟩) ⟨R8, c0⟩ ?_
            simp only [Act.put, List.getElem_toArray, List.getElem_cons_succ, List.getElem_cons_zero, List.setIfInBounds_toArray, List.set_cons_zero, List.set_cons_succ]
            refine wpAnyH_take (i := 5) (v := .int .i64 e.t) rfl (by kernel_rfl) (by kernel_rfl) (by kernel_rfl) (fun _ _ _ h => h) (yields_loadI (.tmp 25) rfl (by kernel_rfl) b8 0 (by kernel_rfl) e.t (fun w h => (h.1.cell 0).trans rfl)) ⟨R8, c0⟩ ?_
            simp only [Act.put, List.getElem_toArray, List.getElem_cons_succ, List.getElem_cons_zero, List.setIfInBounds_toArray, List.set_cons_zero, List.set_cons_succ]
            refine wpAnyH_take (i := 6) (v := .slice a0 n cap) rfl (by kernel_rfl) (by kernel_rfl) (by kernel_rfl) (fun _ _ _ h => h) (Or.inl ⟨by kernel_rfl, by intro w hS; go_simp⟩) ⟨R8, c0⟩ ?_
            simp only [Act.put, List.getElem_toArray, List.getElem_cons_succ, List.getElem_cons_zero, List.setIfInBounds_toArray, List.set_cons_zero, List.set_cons_succ]
            refine wpAnyH_take (i := 7) (v := .pointer (some ⟨eb (.slice a0 n cap), eo (.slice a0 n cap), none⟩)) rfl (by kernel_rfl) (by kernel_rfl) (by kernel_rfl) (fun _ _ _ h => h) (yields_indexG 22 (.tmp 27) (.const (.int .i64 0)) rfl (by kernel_rfl) _ _ _ (by kernel_rfl) (by kernel_rfl) I0) ⟨R8, c0⟩ ?_
            simp only [Act.put, List.getElem_toArray, List.getElem_cons_succ, List.getElem_cons_zero, List.setIfInBounds_toArray, List.set_cons_zero, List.set_cons_succ]
            refine wpAnyH_take (i := 8) (v := .pointer (some ⟨eb (.slice a0 n cap), eo (.slice a0 n cap), none⟩)) rfl (by kernel_rfl) (by kernel_rfl) (by kernel_rfl) (fun _ _ _ h => h) (Or.inl ⟨by kernel_rfl, by intro w hS; go_simp⟩) ⟨R8, c0⟩ ?_
            simp only [Act.put, List.getElem_toArray, List.getElem_cons_succ, List.getElem_cons_zero, List.setIfInBounds_toArray, List.set_cons_zero, List.set_cons_succ]
            refine wpAnyH_take (i := 9) (v := .int .i64 (tmE es)) rfl (by kernel_rfl) (by kernel_rfl) (by kernel_rfl) (fun _ _ _ h => h) (yields_loadI (.tmp 29) rfl (by kernel_rfl) (eb (.slice a0 n cap)) (eo (.slice a0 n cap)) (by kernel_rfl) (tmE es) (fun w h => h.2)) ⟨R8, c0⟩ ?_
            simp only [Act.put, List.getElem_toArray, List.getElem_cons_succ, List.getElem_cons_zero, List.setIfInBounds_toArray, List.set_cons_zero, List.set_cons_succ]
            refine wpAnyH_take (i := 10) (v := .bool true) rfl (by kernel_rfl) (by kernel_rfl) (by kernel_rfl) (fun _ _ _ h => h) (yields_nei 3 (.tmp 26) (.tmp 30) e.t (tmE es) true rfl (by kernel_rfl) (by kernel_rfl) (by kernel_rfl) hte) ⟨R8, c0⟩ ?_
            simp only [Act.put, List.getElem_toArray, List.getElem_cons_succ, List.getElem_cons_zero, List.setIfInBounds_toArray, List.set_cons_zero, List.set_cons_succ]
            refine wpAnyH_take (i := 11) (v := .bool true) rfl (by kernel_rfl) (by kernel_rfl) (by kernel_rfl) (fun _ _ _ h => h) (Or.inl ⟨by kernel_rfl, by intro w hS; go_simp⟩) ⟨R8, c0⟩ ?_
            simp only [Act.put, List.getElem_toArray, List.getElem_cons_succ, List.getElem_cons_zero, List.setIfInBounds_toArray, List.set_cons_zero, List.set_cons_succ]
            refine wpAnyH_done (by kernel_rfl) ?_ _
            refine NoPanic.normal ?_
            go_wp2
            go_ret2
            exact ⟨by rw [HS.out]; rfl, hB⟩
          exact AllReadyH.nil
      · have CG : ∀ w, Calls Tryd.prog 13 #[.agg (ec e)] w fun x w' => x = .returned (.int .i64 2) ∧ Below w.heap.size w w' := fun w => by have := goodRef_any e w; rw [goodE_no hk] at this; exact this
        have HS : Hid (mesS seq es = _) := mesS_bad hl0 hl64 (okM_not hlj he (fun h => hk h.1))
        clear hk he
        go_upto_region 9 with (first
            | ((with_reducible refine atOp (.indexAddr 22 (.tmp 15) (.tmp 17)) rfl ?_); refine wpList_indexG 22 (.tmp 15) (.tmp 17) rfl rfl _ _ _ rfl rfl (IR _) ?_)
            | ((with_reducible refine atOp (.load 29 (.tmp 19)) rfl ?_); refine wpList_loadE (.tmp 19) rfl rfl _ _ rfl e hrg ?_)
            | ((with_reducible refine atOp (.alloc 29) rfl ?_); refine wpList_allocX 8 29 rfl rfl rfl _ ev_zero ?_; intro b8 w3 l8 R8 hb3; replace l8 := Nat.le_trans hB.size l8; replace c0 := cell_keepE c0 hb3; replace hB := hB.trans (hb3.mono hB.size); clear hrg hMW)
            | ((with_reducible refine atOp (.store 29 (.tmp 8) (.tmp 20)) rfl ?_); refine wpList_storeR 29 rfl (.tmp 8) (.tmp 20) rfl b8 rfl (ec e) rfl _ R8 rfl (ec_info e) (ec_one e) ?_; intro w4 R8 t4; replace c0 := cell_turnE c0 t4 (Nat.lt_of_lt_of_le hBl l8); replace hB := t4.below _ _ l8 hB))
        refine wp_region_noPanic ?_
        refine wp_region_held_drew (S := fun W => Row 29 W b8 (ec e) ∧ W.cell? ⟨eb (.slice a0 n cap), eo (.slice a0 n cap), none⟩ = some (.int .i64 (tmE es))) (by kernel_rfl) ⟨R8, c0⟩ (fun _ => ?_)
        refine wpAnyH_take (i := 0) (v := .agg (ec e)) rfl (by kernel_rfl) (by kernel_rfl) (by kernel_rfl) (fun _ _ _ h => h) (yields_loadR 29 (.tmp 8) rfl (by kernel_rfl) b8 (by kernel_rfl) (ec e) (fun w h => h.1) _ Tryd.underlying29 rfl (ec_info e)) ⟨R8, c0⟩ ?_
        simp only [Act.put, List.getElem_toArray, List.getElem_cons_succ, List.getElem_cons_zero, List.setIfInBounds_toArray, List.set_cons_zero, List.set_cons_succ]
        refine wpAnyH_ready (rs := [1]) (by kernel_rfl) (by simp) ?_
        refine AllReadyH.cons rfl (fun K hK => ?_) ?_
        · go_simp
          go_at_call 13; refine (CG _).mono ?_; rintro x w5 ⟨rfl, hb5⟩; replace hb5 := below_undrE hb5; replace R8 := R8.below hb5; replace c0 := cell_keepE c0 hb5; replace hB := hB.trans (hb5.mono hB.size)
          go_wp2_with fail
          refine hK.out _ _ ⟨R8, c0⟩ (fun _ => ?_)
          clear hK K
          try simp only [Act.put, List.getElem_toArray, List.getElem_cons_succ, List.getElem_cons_zero, List.setIfInBounds_toArray, List.set_cons_zero, List.set_cons_succ]
          refine wpAnyH_take (i := 2) (v := .bool true) rfl (by kernel_rfl) (by kernel_rfl) (by kernel_rfl) (fun _ _ _ h => h) (Or.inl ⟨by kernel_rfl, by intro w hS; go_simp⟩) ⟨R8, c0⟩ ?_
          simp only [Act.put, List.getElem_toArray, List.getElem_cons_succ, List.getElem_cons_zero, List.setIfInBounds_toArray, List.set_cons_zero, List.set_cons_succ]
          refine wpAnyH_take (i := 3) (v := .bool true) rfl (by kernel_rfl) (by kernel_rfl) (by kernel_rfl) (fun _ _ _ h => h) (Or.inl ⟨by kernel_rfl, by intro w hS; go_simp⟩) ⟨R8, c0⟩ ?_
          simp only [Act.put, List.getElem_toArray, List.getElem_cons_succ, List.getElem_cons_zero, List.setIfInBounds_toArray, List.set_cons_zero, List.set_cons_succ]
          refine wpAnyH_take (i := 4) (v := undef) rfl (by kernel_rfl) (by kernel_rfl) (by kernel_rfl) (fun _ _ _ h => h) (Or.inr ⟨by kernel_rfl, rfl⟩) ⟨R8, c0⟩ ?_
          simp only [Act.put, List.getElem_toArray, List.getElem_cons_succ, List.getElem_cons_zero, List.setIfInBounds_toArray, List.set_cons_zero, List.set_cons_succ]
          refine wpAnyH_take (i := 5) (v := undef) rfl (by kernel_rfl) (by kernel_rfl) (by kernel_rfl) (fun _ _ _ h => h) (Or.inr ⟨by kernel_rfl, rfl⟩) ⟨R8, c0⟩ ?_
          simp only [Act.put, List.getElem_toArray, List.getElem_cons_succ, List.getElem_cons_zero, List.setIfInBounds_toArray, List.set_cons_zero, List.set_cons_succ]
          refine wpAnyH_take (i := 6) (v := undef) rfl (by kernel_rfl) (by kernel_rfl) (by kernel_rfl) (fun _ _ _ h => h) (Or.inr ⟨by kernel_rfl, rfl⟩) ⟨R8, c0⟩ ?_
          simp only [Act.put, List.getElem_toArray, List.getElem_cons_succ, List.getElem_cons_zero, List.setIfInBounds_toArray, List.set_cons_zero, List.set_cons_succ]
          refine wpAnyH_take (i := 7) (v := undef) rfl (by kernel_rfl) (by kernel_rfl) (by kernel_rfl) (fun _ _ _ h => h) (Or.inr ⟨by kernel_rfl, rfl⟩) ⟨R8, c0⟩ ?_
          simp only [Act.put, List.getElem_toArray, List.getElem_cons_succ, List.getElem_cons_zero, List.setIfInBounds_toArray, List.set_cons_zero, List.set_cons_succ]
          refine wpAnyH_take (i := 8) (v := undef) rfl (by kernel_rfl) (by kernel_rfl) (by kernel_rfl) (fun _ _ _ h => h) (Or.inr ⟨by kernel_rfl, rfl⟩) ⟨R8, c0⟩ ?_
          simp only [Act.put, List.getElem_toArray, List.getElem_cons_succ, List.getElem_cons_zero, List.setIfInBounds_toArray, List.set_cons_zero, List.set_cons_succ]
          refine wpAnyH_take (i := 9) (v := undef) rfl (by kernel_rfl) (by kernel_rfl) (by kernel_rfl) (fun _ _ _ h => h) (Or.inr ⟨by kernel_rfl, rfl⟩) ⟨R8, c0⟩ ?_
          simp only [Act.put, List.getElem_toArray, List.getElem_cons_succ, List.getElem_cons_zero, List.setIfInBounds_toArray, List.set_cons_zero, List.set_cons_succ]
          refine wpAnyH_take (i := 10) (v := undef) rfl (by kernel_rfl) (by kernel_rfl) (by kernel_rfl) (fun _ _ _ h => h) (Or.inr ⟨by kernel_rfl, rfl⟩) ⟨R8, c0⟩ ?_
          simp only [Act.put, List.getElem_toArray, List.getElem_cons_succ, List.getElem_cons_zero, List.setIfInBounds_toArray, List.set_cons_zero, List.set_cons_succ]
          refine wpAnyH_take (i := 11) (v := .bool true) rfl (by kernel_rfl) (by kernel_rfl) (by kernel_rfl) (fun _ _ _ h => h) (Or.inl ⟨by kernel_rfl, by intro w hS; go_simp⟩) ⟨R8, c0⟩ ?_
          simp only [Act.put, List.getElem_toArray, List.getElem_cons_succ, List.getElem_cons_zero, List.setIfInBounds_toArray, List.set_cons_zero, List.set_cons_succ]
          refine wpAnyH_done (by kernel_rfl) ?_ _
          refine NoPanic.normal ?_
          go_wp2
          go_ret2
          exact ⟨by rw [HS.out]; rfl, hB⟩
        exact AllReadyH.nil
    · have hjn : ¬ (j : Int) < (n : Int) := by have := HN.out; omega
      have hall := okTo_all hok (by omega)
      have HS : Hid (mesS seq es = _) := mesS_ok hl0 hl64 hall
      have hta : okE es[0] ∧ es[0].t = tmE es := hall _ (List.getElem_mem hl0)
      obtain ⟨hk0, hk1⟩ := hta
      have ht0 := hk0.1.1
      have ht1 := hk0.1.2
      rw [hk1] at ht0 ht1
      have ej : es.take j = es := List.take_of_length_le (by omega)
      have hlb : (setB es).length = 21 * es.length := setB_len es
      rw [ej]
      clear hall hk0 hk1 ej
      go_wp2_with (first
        | ((with_reducible refine atOp (.indexAddr 22 (.tmp 39) (.const (.int .i64 0))) rfl ?_); refine wpList_indexG 22 (.tmp 39) (.const (.int .i64 0)) rfl rfl _ _ _ rfl rfl (I0 _) ?_)
        | ((with_reducible refine atOp (.load 3 (.tmp 41)) rfl ?_); refine wpList_loadC (.tmp 41) rfl rfl _ _ rfl _ c0 ?_)
        | (go_at_call 24; go_fit (messageRef_any (setB es) (tmE es) seq 300 _ (by omega) ht0 ht1 (by omega) (by omega)); rintro x w5 ⟨rfl, hb5⟩; unfold msgS))
      go_ret2
      exact ⟨by rw [HS.out]; rfl, hB.trans (hb5.mono hB.size)⟩
end Go.Proofs.YtnhafdkfjjplkaaDoor
