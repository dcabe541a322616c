/-
  Of what BindCloses, BindOpens stands on: part 20.
-/
import Derived.Test.YtmdijjbkjcnbpaaBindCO13
import Derived.Test.YtmdijjbkjcnbpaaBindCO16
import Derived.Test.YtmdijjbkjcnbpaaBindCO19
namespace Go.Proofs.Ytmdijjbkjcnbpaa
open Go.ChangeShapes Go.WideShapes Go.ChangeAt Go.RowKit
set_option linter.unusedSimpArgs false
set_option linter.unusedVariables false

theorem wpList_loadG {ops : Array Oper} {rest : List Oper} {o : Oper} {a : Act} {w : World} {Q : Exit → Act → World → Prop} (t : TypeId) (x : Operand) (ho : o.op = .load t x) (hw : Region.wanted o (yielded ops a.tmps) = true)
    (b off : Nat) (hx : a.eval x = .pointer (some ⟨b, off, none⟩)) (cs : List Value) (d : TypeDesc) (h : w.rangeAt b off cs) (hu : Try.prog.underlying t = some d) (hd : d.isRow = true) (hi : (Try.prog.info? t).map (·.size) = some cs.length)
    (hr : wpList Try.prog ops Q rest (a.put o.dst (.agg cs.toArray)) w) : wpList Try.prog ops Q (o :: rest) a w :=
  wpList_step fun K hK => by
    rw [if_pos hw]
    exact wp_load_mid t x ho b off hx cs d h hu hd hi (hK _ _ hr)
set_option maxRecDepth 20000 in
set_option maxHeartbeats 16000000 in
theorem goodt_any (f : Nat → Int) (g : Nat → Bool) (h : Nat → Int) (sl : Value) (ms : List Mp) (hwH : wfH h) (w : World) (hM : MapsAt w sl ms) :
    Calls Try.prog 14 #[.agg (tc f g h sl)] w fun e w' => ∃ r : Bool, (r = true ↔ GoodT f h ms) ∧ e = .returned (.bool r) ∧ Below w.heap.size w w' := by
  have hB := Below.refl w.heap.size w
  have hM0 := hM
  obtain ⟨a0, cap, hsl, -⟩ := hM0
  obtain ⟨n, hn⟩ : ∃ n, n = ms.length := ⟨_, rfl⟩
  rw [← hn] at hsl
  subst hsl
  have HN : Hid (n = ms.length) := hn
  clear hn
  have hlt := hM.lt
  have C0 := fun w => good_any f g w
  unfold plv at C0
  cases hgp : goodP f with
  | false =>
    rw [hgp] at C0
    have HF : Hid ((false = true) ↔ GoodT f h ms) := by
      show _ ↔ _
      exact ⟨fun h => by simp at h, fun h => by have := h.pool; rw [hgp] at this; exact this⟩
    clear hgp
    go_enter Try.func14, Try.ntmps14
    go_wp2_with (first
      | (refine wpList_boxR 30 rfl _ rfl _ rfl ?_; intro bT w1 lT RT hb1; replace lT := Nat.le_trans hB.size lT; replace hB := hB.trans (hb1.mono hB.size); have hrp := RT.pool)
      | (refine wpList_load_mid rfl 26 _ rfl _ _ rfl _ _ hrp Try.underlying26 rfl (pcl_infoB f g) ?_; rw [Array.toArray_toList])
      | (go_at_call 30; go_fit (C0 _); rintro e w5 ⟨rfl, hb5⟩; replace hB := hB.trans (hb5.mono hB.size)))
    go_ret
    first | exact ⟨_, by first | exact HF.out | simpa using HF.out, rfl, hB⟩ | exact Or.inr ⟨by simpa using HF.out, rfl, hB⟩ | exact Or.inl ⟨by simpa using HF.out, rfl, hB⟩
  | true =>
    rw [hgp] at C0
    have HG : Hid (goodP f = true) := hgp
    have hwF := good_wf hgp
    clear hgp
    go_enter Try.func14, Try.ntmps14
    go_wp2_with (first
      | (refine wpList_boxR 30 rfl _ rfl _ rfl ?_; intro bT w1 lT RT hb1; replace lT := Nat.le_trans hB.size lT; replace hB := hB.trans (hb1.mono hB.size); have hrp := RT.pool)
      | (refine wpList_load_mid rfl 26 _ rfl _ _ rfl _ _ hrp Try.underlying26 rfl (pcl_infoB f g) ?_; rw [Array.toArray_toList])
      | (go_at_call 30; go_fit (C0 _); rintro e w5 ⟨rfl, hb5⟩; clear hrp; replace RT := RT.below hb5; replace hB := hB.trans (hb5.mono hB.size))
      | (refine wpList_allocR 30 rfl rfl _ table_zero ?_; intro bN w2 lN RN hb2; have nTN := RT.ne lN; replace lN := Nat.le_trans hB.size lN; replace RT := RT.below hb2; replace hB := hB.trans (hb2.mono hB.size); have cM : w2.cell? ⟨bT, 29, none⟩ = some (.slice a0 n cap) := RT.cell 29))
    go_loopw [15] (fun i W => ∃ j : Nat, j ≤ ms.length ∧ i = .int .i64 j ∧ MsOk f h (ms.take j) ∧ Below w.heap.size w W ∧ Row 30 W bT (tc f g h (.slice a0 n cap)) ∧ Row 30 W bN (tc (needF f (ms.take j)) (fun _ => false) (needH h (ms.take j)) (.slice none 0 0))) (fun i _ => n - (intOf i).toNat)
    case atStart => exact ⟨0, by omega, rfl, msOk_nil f h, hB, RT, by rw [List.take_zero, needF_nil, needH_nil]; exact RN⟩
    case round =>
      clear hB RT RN cM hb1
      obtain ⟨j, hj, rfl, hok, hB, RT, RN⟩ := hrel
      by_cases hlj : j < ms.length
      · have hjn : (j : Int) < (n : Int) := by have := HN.out; omega
        have hjc : (j : Int) ≤ (cap : Int) := by have := hM.cap; omega
        have hj0 : (0 : Int) ≤ (j : Int) := by omega
        have hjw := wrap_next hlj hM.len
        obtain ⟨⟨p, s, i, a, q⟩, hm⟩ : ∃ m, ms[j] = m := ⟨_, rfl⟩
        have hMW := hM.keep hB hlt
        have hrg := hMW.at j hlj hm
        have hmem : (p, s, i, a, q) ∈ ms := hm ▸ List.getElem_mem hlj
        have htk := take_next hlj hm
        by_cases hst0 : Stands f h (p, s, i, a, q)
        rotate_left
        · have hst : Hid (¬ Stands f h (p, s, i, a, q)) := hst0
          have HF : Hid ((false = true) ↔ GoodT f h ms) := by
            show _ ↔ _
            exact ⟨fun h => by simp at h, fun h => absurd (h.maps.1 _ hmem) hst0⟩
          clear hst0 hmem htk hm hok
          go_wp2_with (first
            | (refine wpList_indexM rfl (.tmp 13) (.tmp 15) rfl (.slice a0 n cap) ms hMW rfl j rfl hlj ?_)
            | (refine wpList_load_mid rfl 32 _ rfl _ _ rfl (mcl (p, s, i, a, q)) _ hrg Try.underlying32 rfl (mcl_info _) ?_; rw [mcl_mc])
            | (refine wpList_allocR 32 rfl rfl _ map_zero ?_; intro b5 w3 l5 R5 hb3; have nT := RT.ne l5; have nN := RN.ne l5; replace l5 := Nat.le_trans hB.size l5; replace RT := RT.below hb3; replace RN := RN.below hb3; replace hB := hB.trans (hb3.mono hB.size))
            | (refine wpList_storeR 32 rfl _ _ rfl b5 rfl (mc (p, s, i, a, q)) rfl _ R5 rfl (mc_info _) (mc_one _) ?_; intro w4 R5 t4; replace RT := t4.row RT nT; replace RN := t4.row RN nN; replace hB := t4.below _ _ l5 hB))
          refine wp_region_noPanic ?_
          refine wp_region_held_drew (S := fun W => Row 30 W bT (tc f g h (.slice a0 n cap)) ∧ Row 32 W b5 (mc (p, s, i, a, q))) (by kernel_rfl) ⟨RT, R5⟩ (fun _ => ?_)
          refine wpAnyH_take (i := 0) (v := .agg (tc f g h (.slice a0 n cap))) rfl (by kernel_rfl) (by kernel_rfl) (by kernel_rfl) (fun _ _ _ h => h) (yields_loadR 30 (.tmp 1) rfl (by kernel_rfl) bT (by kernel_rfl) (tc f g h (.slice a0 n cap)) (fun _ h => h.1) _ Try.underlying30 rfl (tc_info _ _ _ _)) ⟨RT, R5⟩ ?_
          simp only [Act.put, List.getElem_toArray, List.getElem_cons_succ, List.getElem_cons_zero, List.setIfInBounds_toArray, List.set_cons_zero, List.set_cons_succ]
          refine wpAnyH_take (i := 1) (v := .agg (mc (p, s, i, a, q))) rfl (by kernel_rfl) (by kernel_rfl) (by kernel_rfl) (fun _ _ _ h => h) (yields_loadR 32 (.tmp 5) rfl (by kernel_rfl) b5 (by kernel_rfl) (mc (p, s, i, a, q)) (fun _ h => h.2) _ Try.underlying32 rfl (mc_info (p, s, i, a, q))) ⟨RT, R5⟩ ?_
          simp only [Act.put, List.getElem_toArray, List.getElem_cons_succ, List.getElem_cons_zero, List.setIfInBounds_toArray, List.set_cons_zero, List.set_cons_succ]
          refine wpAnyH_ready (rs := [2]) (by kernel_rfl) (by simp) ?_
          refine AllReadyH.cons rfl (fun K hK => ?_) ?_
          · go_simp
            go_at_call 31; refine (stands_any f g h (.slice a0 n cap) p s i a q _).mono ?_; rintro e w5 ⟨r, hr, rfl, hb5⟩; (try replace hb5 := below_undr' hb5); obtain rfl : r = false := (by cases r with | false => rfl | true => exact absurd (hr.1 rfl) hst.out); replace RT := RT.below hb5; replace RN := RN.below hb5; replace R5 := R5.below hb5; replace hB := hB.trans (hb5.mono hB.size); clear hr
            go_wp2_with fail
            refine hK.out _ _ ⟨RT, R5⟩ (fun _ => ?_)
            clear hK K
            try simp only [Act.put, List.getElem_toArray, List.getElem_cons_succ, List.getElem_cons_zero, List.setIfInBounds_toArray, List.set_cons_zero, List.set_cons_succ]
            refine wpAnyH_take (i := 3) (v := .bool true) rfl (by kernel_rfl) (by kernel_rfl) (by kernel_rfl) (fun _ _ _ h => h) (Or.inl ⟨by kernel_rfl, by intro w hS; go_simp⟩) ⟨RT, R5⟩ ?_
            simp only [Act.put, List.getElem_toArray, List.getElem_cons_succ, List.getElem_cons_zero, List.setIfInBounds_toArray, List.set_cons_zero, List.set_cons_succ]
            refine wpAnyH_take (i := 4) (v := .bool true) rfl (by kernel_rfl) (by kernel_rfl) (by kernel_rfl) (fun _ _ _ h => h) (Or.inl ⟨by kernel_rfl, by intro w hS; go_simp⟩) ⟨RT, R5⟩ ?_
            simp only [Act.put, List.getElem_toArray, List.getElem_cons_succ, List.getElem_cons_zero, List.setIfInBounds_toArray, List.set_cons_zero, List.set_cons_succ]
            refine wpAnyH_take (i := 5) (v := undef) rfl (by kernel_rfl) (by kernel_rfl) (by kernel_rfl) (fun _ _ _ h => h) (Or.inr ⟨by kernel_rfl, rfl⟩) ⟨RT, R5⟩ ?_
            simp only [Act.put, List.getElem_toArray, List.getElem_cons_succ, List.getElem_cons_zero, List.setIfInBounds_toArray, List.set_cons_zero, List.set_cons_succ]
            refine wpAnyH_take (i := 6) (v := undef) rfl (by kernel_rfl) (by kernel_rfl) (by kernel_rfl) (fun _ _ _ h => h) (Or.inr ⟨by kernel_rfl, rfl⟩) ⟨RT, R5⟩ ?_
            simp only [Act.put, List.getElem_toArray, List.getElem_cons_succ, List.getElem_cons_zero, List.setIfInBounds_toArray, List.set_cons_zero, List.set_cons_succ]
            refine wpAnyH_take (i := 7) (v := undef) rfl (by kernel_rfl) (by kernel_rfl) (by kernel_rfl) (fun _ _ _ h => h) (Or.inr ⟨by kernel_rfl, rfl⟩) ⟨RT, R5⟩ ?_
            simp only [Act.put, List.getElem_toArray, List.getElem_cons_succ, List.getElem_cons_zero, List.setIfInBounds_toArray, List.set_cons_zero, List.set_cons_succ]
            refine wpAnyH_take (i := 8) (v := undef) rfl (by kernel_rfl) (by kernel_rfl) (by kernel_rfl) (fun _ _ _ h => h) (Or.inr ⟨by kernel_rfl, rfl⟩) ⟨RT, R5⟩ ?_
            simp only [Act.put, List.getElem_toArray, List.getElem_cons_succ, List.getElem_cons_zero, List.setIfInBounds_toArray, List.set_cons_zero, List.set_cons_succ]
            refine wpAnyH_take (i := 9) (v := undef) rfl (by kernel_rfl) (by kernel_rfl) (by kernel_rfl) (fun _ _ _ h => h) (Or.inr ⟨by kernel_rfl, rfl⟩) ⟨RT, R5⟩ ?_
            simp only [Act.put, List.getElem_toArray, List.getElem_cons_succ, List.getElem_cons_zero, List.setIfInBounds_toArray, List.set_cons_zero, List.set_cons_succ]
            refine wpAnyH_ready (rs := [10]) (by kernel_rfl) (by simp) ?_
            refine AllReadyH.cons rfl (fun K hK => ?_) ?_
            · rw [if_neg (ne_true_of_eq_false (by kernel_rfl))]
              refine hK.out _ _ ⟨RT, R5⟩ (fun _ => ?_)
              clear hK K
              try simp only [Act.put, List.getElem_toArray, List.getElem_cons_succ, List.getElem_cons_zero, List.setIfInBounds_toArray, List.set_cons_zero, List.set_cons_succ]
              refine wpAnyH_take (i := 11) (v := .bool true) rfl (by kernel_rfl) (by kernel_rfl) (by kernel_rfl) (fun _ _ _ h => h) (Or.inl ⟨by kernel_rfl, by intro w hS; go_simp⟩) ⟨RT, R5⟩ ?_
              simp only [Act.put, List.getElem_toArray, List.getElem_cons_succ, List.getElem_cons_zero, List.setIfInBounds_toArray, List.set_cons_zero, List.set_cons_succ]
              refine wpAnyH_done (by kernel_rfl) ?_ _
              refine NoPanic.normal ?_
              go_wp2
              go_ret
              first | exact ⟨_, by first | exact HF.out | simpa using HF.out, rfl, hB⟩ | exact Or.inr ⟨by simpa using HF.out, rfl, hB⟩ | exact Or.inl ⟨by simpa using HF.out, rfl, hB⟩
            exact AllReadyH.nil
          exact AllReadyH.nil
        have hst : Hid (Stands f h (p, s, i, a, q)) := hst0
        cases hmt : meetsB (ms.take j) (p, s, i, a, q) with
        | true =>
          have hmeet : Hid (meetsB (ms.take j) (p, s, i, a, q) = true) := hmt
          have HF : Hid ((false = true) ↔ GoodT f h ms) := by
            show _ ↔ _
            refine ⟨fun h => by simp at h, fun h => ?_⟩
            have h1 := h.maps.2.sublist (List.take_sublist (j + 1) ms)
            rw [htk, List.pairwise_append] at h1
            have h2 : meetsB (ms.take j) (p, s, i, a, q) = false := meetsB_false.2 (fun o ho => h1.2.2 o ho (p, s, i, a, q) (by simp))
            rw [hmt] at h2
            exact absurd h2 (by simp)
          clear hst0 hmem htk hm hok hmt
          go_wp2_with (first
            | (refine wpList_indexM rfl (.tmp 13) (.tmp 15) rfl (.slice a0 n cap) ms hMW rfl j rfl hlj ?_)
            | (refine wpList_load_mid rfl 32 _ rfl _ _ rfl (mcl (p, s, i, a, q)) _ hrg Try.underlying32 rfl (mcl_info _) ?_; rw [mcl_mc])
            | (refine wpList_allocR 32 rfl rfl _ map_zero ?_; intro b5 w3 l5 R5 hb3; have nT := RT.ne l5; have nN := RN.ne l5; replace l5 := Nat.le_trans hB.size l5; replace RT := RT.below hb3; replace RN := RN.below hb3; replace hB := hB.trans (hb3.mono hB.size))
            | (refine wpList_storeR 32 rfl _ _ rfl b5 rfl (mc (p, s, i, a, q)) rfl _ R5 rfl (mc_info _) (mc_one _) ?_; intro w4 R5 t4; replace RT := t4.row RT nT; replace RN := t4.row RN nN; replace hB := t4.below _ _ l5 hB))
          refine wp_region_noPanic ?_
          refine wp_region_held_drew (S := fun W => Row 30 W bT (tc f g h (.slice a0 n cap)) ∧ Row 32 W b5 (mc (p, s, i, a, q))) (by kernel_rfl) ⟨RT, R5⟩ (fun _ => ?_)
          refine wpAnyH_take (i := 0) (v := .agg (tc f g h (.slice a0 n cap))) rfl (by kernel_rfl) (by kernel_rfl) (by kernel_rfl) (fun _ _ _ h => h) (yields_loadR 30 (.tmp 1) rfl (by kernel_rfl) bT (by kernel_rfl) (tc f g h (.slice a0 n cap)) (fun _ h => h.1) _ Try.underlying30 rfl (tc_info _ _ _ _)) ⟨RT, R5⟩ ?_
          simp only [Act.put, List.getElem_toArray, List.getElem_cons_succ, List.getElem_cons_zero, List.setIfInBounds_toArray, List.set_cons_zero, List.set_cons_succ]
          refine wpAnyH_take (i := 1) (v := .agg (mc (p, s, i, a, q))) rfl (by kernel_rfl) (by kernel_rfl) (by kernel_rfl) (fun _ _ _ h => h) (yields_loadR 32 (.tmp 5) rfl (by kernel_rfl) b5 (by kernel_rfl) (mc (p, s, i, a, q)) (fun _ h => h.2) _ Try.underlying32 rfl (mc_info (p, s, i, a, q))) ⟨RT, R5⟩ ?_
          simp only [Act.put, List.getElem_toArray, List.getElem_cons_succ, List.getElem_cons_zero, List.setIfInBounds_toArray, List.set_cons_zero, List.set_cons_succ]
          refine wpAnyH_ready (rs := [2]) (by kernel_rfl) (by simp) ?_
          refine AllReadyH.cons rfl (fun K hK => ?_) ?_
          · go_simp
            go_at_call 31; refine (stands_any f g h (.slice a0 n cap) p s i a q _).mono ?_; rintro e w5 ⟨r, hr, rfl, hb5⟩; (try replace hb5 := below_undr' hb5); obtain rfl : r = true := hr.2 hst.out; replace RT := RT.below hb5; replace RN := RN.below hb5; replace R5 := R5.below hb5; replace hB := hB.trans (hb5.mono hB.size); clear hr
            go_wp2_with fail
            refine hK.out _ _ ⟨RT, R5⟩ (fun _ => ?_)
            clear hK K
            try simp only [Act.put, List.getElem_toArray, List.getElem_cons_succ, List.getElem_cons_zero, List.setIfInBounds_toArray, List.set_cons_zero, List.set_cons_succ]
            refine wpAnyH_take (i := 3) (v := .bool false) rfl (by kernel_rfl) (by kernel_rfl) (by kernel_rfl) (fun _ _ _ h => h) (Or.inl ⟨by kernel_rfl, by intro w hS; go_simp⟩) ⟨RT, R5⟩ ?_
            simp only [Act.put, List.getElem_toArray, List.getElem_cons_succ, List.getElem_cons_zero, List.setIfInBounds_toArray, List.set_cons_zero, List.set_cons_succ]
            refine wpAnyH_take (i := 4) (v := .bool false) rfl (by kernel_rfl) (by kernel_rfl) (by kernel_rfl) (fun _ _ _ h => h) (Or.inl ⟨by kernel_rfl, by intro w hS; go_simp⟩) ⟨RT, R5⟩ ?_
            simp only [Act.put, List.getElem_toArray, List.getElem_cons_succ, List.getElem_cons_zero, List.setIfInBounds_toArray, List.set_cons_zero, List.set_cons_succ]
            refine wpAnyH_take (i := 5) (v := (.pointer (some ⟨bT, 29, none⟩))) rfl (by kernel_rfl) (by kernel_rfl) (by kernel_rfl) (fun _ _ _ h => h) (Or.inl ⟨by kernel_rfl, by intro w hS; go_simp⟩) ⟨RT, R5⟩ ?_
            simp only [Act.put, List.getElem_toArray, List.getElem_cons_succ, List.getElem_cons_zero, List.setIfInBounds_toArray, List.set_cons_zero, List.set_cons_succ]
            refine wpAnyH_take (i := 6) (v := .slice a0 n cap) rfl (by kernel_rfl) (by kernel_rfl) (by kernel_rfl) (fun _ _ _ h => h) (Or.inl ⟨by kernel_rfl, by intro w hS; have hc : w.cell? ⟨bT, 29, none⟩ = some (.slice a0 n cap) := hS.1.cell 29; go_simp⟩) ⟨RT, R5⟩ ?_
            simp only [Act.put, List.getElem_toArray, List.getElem_cons_succ, List.getElem_cons_zero, List.setIfInBounds_toArray, List.set_cons_zero, List.set_cons_succ]
            refine wpAnyH_take (i := 7) (v := .int .i64 (j : Int)) rfl (by kernel_rfl) (by kernel_rfl) (by kernel_rfl) (fun _ _ _ h => h) (Or.inl ⟨by kernel_rfl, by intro w hS; go_simp⟩) ⟨RT, R5⟩ ?_
            simp only [Act.put, List.getElem_toArray, List.getElem_cons_succ, List.getElem_cons_zero, List.setIfInBounds_toArray, List.set_cons_zero, List.set_cons_succ]
            refine wpAnyH_take (i := 8) (v := .slice a0 j cap) rfl (by kernel_rfl) (by kernel_rfl) (by kernel_rfl) (fun _ _ _ h => h) (Or.inl ⟨by kernel_rfl, by intro w hS; go_simp⟩) ⟨RT, R5⟩ ?_
            simp only [Act.put, List.getElem_toArray, List.getElem_cons_succ, List.getElem_cons_zero, List.setIfInBounds_toArray, List.set_cons_zero, List.set_cons_succ]
            refine wpAnyH_take (i := 9) (v := .agg (mc (p, s, i, a, q))) rfl (by kernel_rfl) (by kernel_rfl) (by kernel_rfl) (fun _ _ _ h => h) (yields_loadR 32 (.tmp 5) rfl (by kernel_rfl) b5 (by kernel_rfl) (mc (p, s, i, a, q)) (fun _ h => h.2) _ Try.underlying32 rfl (mc_info (p, s, i, a, q))) ⟨RT, R5⟩ ?_
            simp only [Act.put, List.getElem_toArray, List.getElem_cons_succ, List.getElem_cons_zero, List.setIfInBounds_toArray, List.set_cons_zero, List.set_cons_succ]
            refine wpAnyH_ready (rs := [10]) (by kernel_rfl) (by simp) ?_
            refine AllReadyH.cons rfl (fun K hK => ?_) ?_
            · go_simp
              go_at_call 32; refine (meets_any (.slice a0 j cap) (ms.take j) (p, s, i, a, q) _ ((hM.keep hB hlt).take j hj)).mono ?_; rintro e w5 ⟨rfl, hb5⟩; (try replace hb5 := below_undr' hb5); rw [hmeet.out]; replace RT := RT.below hb5; replace RN := RN.below hb5; replace R5 := R5.below hb5; replace hB := hB.trans (hb5.mono hB.size)
              go_wp2_with fail
              refine hK.out _ _ ⟨RT, R5⟩ (fun _ => ?_)
              clear hK K
              try simp only [Act.put, List.getElem_toArray, List.getElem_cons_succ, List.getElem_cons_zero, List.setIfInBounds_toArray, List.set_cons_zero, List.set_cons_succ]
              refine wpAnyH_take (i := 11) (v := .bool true) rfl (by kernel_rfl) (by kernel_rfl) (by kernel_rfl) (fun _ _ _ h => h) (Or.inl ⟨by kernel_rfl, by intro w hS; go_simp⟩) ⟨RT, R5⟩ ?_
              simp only [Act.put, List.getElem_toArray, List.getElem_cons_succ, List.getElem_cons_zero, List.setIfInBounds_toArray, List.set_cons_zero, List.set_cons_succ]
              refine wpAnyH_done (by kernel_rfl) ?_ _
              refine NoPanic.normal ?_
              go_wp2
              go_ret
              first | exact ⟨_, by first | exact HF.out | simpa using HF.out, rfl, hB⟩ | exact Or.inr ⟨by simpa using HF.out, rfl, hB⟩ | exact Or.inl ⟨by simpa using HF.out, rfl, hB⟩
            exact AllReadyH.nil
          exact AllReadyH.nil
        | false =>
          have hmeet : Hid (meetsB (ms.take j) (p, s, i, a, q) = false) := hmt
          have HF : Hid (MsOk f h (ms.take (j + 1))) := by
            show MsOk _ _ _
            rw [htk]; exact (msOk_snoc f h _ _).2 ⟨hok, hst0, hmt⟩
          have C4 := fun w => placeOf_any (p, s, i, a, q) w
          have hsb : 0 ≤ s ∧ s < 8 := hst0.2.1
          have hin : (1024 ≤ q ∧ q < 1072) ∧ 0 ≤ a ∧ a < 3 := ⟨hst0.2.2.2.1, hst0.2.2.2.2.1⟩
          have hI : inP (p, s, i, a, q) = true := decide_eq_true hin
          have hA : plA (p, s, i, a, q) = a := if_pos hI
          have hQ : plB (p, s, i, a, q) = (q - 1024) / 8 := if_pos hI
          rw [hI, hA, hQ] at C4
          obtain ⟨kk, hK⟩ : ∃ kk, kk = (q - 1024) / 8 := ⟨_, rfl⟩
          rw [← hK] at C4
          have hpl : placeN a q = a.toNat * 6 + kk.toNat := by unfold placeN; rw [hK]; omega
          have hK0 : 0 ≤ kk := by omega
          have hK6 : kk < 6 := by omega
          have ha0 : 0 ≤ a := hin.2.1
          have ha3 : a < 3 := hin.2.2
          have hs0 : 0 ≤ s := hsb.1
          have hs8 : s < 8 := hsb.2
          have hoff : a.toNat * 6 + kk.toNat < 18 := by omega
          have hs8n : s.toNat < 8 := by omega
          have hsw : wrap64 (s + 1) = s + 1 := by unfold wrap64; omega
          have haw : wrap64 (a + 1) = a + 1 := by unfold wrap64; omega
          have hsw2 : IntKind.i64.wrap (s + 1) = s + 1 := by rw [IntKind.wrap_i64]; omega
          have haw2 : IntKind.i64.wrap (a + 1) = a + 1 := by rw [IntKind.wrap_i64]; omega
          have hup : Hid (upd (needF f (ms.take j)) (a.toNat * 6 + kk.toNat) (s + 1) = needF f (ms.take (j + 1))) := by
            show _ = _
            have := needF_snoc (ms := ms.take j) hst0
            rw [← htk] at this
            rw [← hpl]; exact this
          have hupH : Hid (upd (needH h (ms.take j)) s.toNat (a + 1) = needH h (ms.take (j + 1))) := by
            show _ = _
            have := needH_snoc (ms := ms.take j) hst0
            rw [← htk] at this
            exact this
          clear hst0 hmem htk hm hok hmt hI hA hQ hK hpl hin hsb
          go_wp2_with (first
            | (refine wpList_indexM rfl (.tmp 13) (.tmp 15) rfl (.slice a0 n cap) ms hMW rfl j rfl hlj ?_)
            | (refine wpList_load_mid rfl 32 _ rfl _ _ rfl (mcl (p, s, i, a, q)) _ hrg Try.underlying32 rfl (mcl_info _) ?_; rw [mcl_mc])
            | (refine wpList_allocR 32 rfl rfl _ map_zero ?_; intro b5 w3 l5 R5 hb3; have nT := RT.ne l5; have nN := RN.ne l5; replace l5 := Nat.le_trans hB.size l5; replace RT := RT.below hb3; replace RN := RN.below hb3; replace hB := hB.trans (hb3.mono hB.size))
            | (refine wpList_storeR 32 rfl _ _ rfl b5 rfl (mc (p, s, i, a, q)) rfl _ R5 rfl (mc_info _) (mc_one _) ?_; intro w4 R5 t4; replace RT := t4.row RT nT; replace RN := t4.row RN nN; replace hB := t4.below _ _ l5 hB))
          refine wp_region_noPanic ?_
          refine wp_region_held_drew (S := fun W => Row 30 W bT (tc f g h (.slice a0 n cap)) ∧ Row 32 W b5 (mc (p, s, i, a, q))) (by kernel_rfl) ⟨RT, R5⟩ (fun _ => ?_)
          refine wpAnyH_take (i := 0) (v := .agg (tc f g h (.slice a0 n cap))) rfl (by kernel_rfl) (by kernel_rfl) (by kernel_rfl) (fun _ _ _ h => h) (yields_loadR 30 (.tmp 1) rfl (by kernel_rfl) bT (by kernel_rfl) (tc f g h (.slice a0 n cap)) (fun _ h => h.1) _ Try.underlying30 rfl (tc_info _ _ _ _)) ⟨RT, R5⟩ ?_
          simp only [Act.put, List.getElem_toArray, List.getElem_cons_succ, List.getElem_cons_zero, List.setIfInBounds_toArray, List.set_cons_zero, List.set_cons_succ]
          refine wpAnyH_take (i := 1) (v := .agg (mc (p, s, i, a, q))) rfl (by kernel_rfl) (by kernel_rfl) (by kernel_rfl) (fun _ _ _ h => h) (yields_loadR 32 (.tmp 5) rfl (by kernel_rfl) b5 (by kernel_rfl) (mc (p, s, i, a, q)) (fun _ h => h.2) _ Try.underlying32 rfl (mc_info (p, s, i, a, q))) ⟨RT, R5⟩ ?_
          simp only [Act.put, List.getElem_toArray, List.getElem_cons_succ, List.getElem_cons_zero, List.setIfInBounds_toArray, List.set_cons_zero, List.set_cons_succ]
          refine wpAnyH_ready (rs := [2]) (by kernel_rfl) (by simp) ?_
          refine AllReadyH.cons rfl (fun K hK => ?_) ?_
          · go_simp
            go_at_call 31; refine (stands_any f g h (.slice a0 n cap) p s i a q _).mono ?_; rintro e w5 ⟨r, hr, rfl, hb5⟩; (try replace hb5 := below_undr' hb5); obtain rfl : r = true := hr.2 hst.out; replace RT := RT.below hb5; replace RN := RN.below hb5; replace R5 := R5.below hb5; replace hB := hB.trans (hb5.mono hB.size); clear hr
            go_wp2_with fail
            refine hK.out _ _ ⟨RT, R5⟩ (fun _ => ?_)
            clear hK K
            try simp only [Act.put, List.getElem_toArray, List.getElem_cons_succ, List.getElem_cons_zero, List.setIfInBounds_toArray, List.set_cons_zero, List.set_cons_succ]
            refine wpAnyH_take (i := 3) (v := .bool false) rfl (by kernel_rfl) (by kernel_rfl) (by kernel_rfl) (fun _ _ _ h => h) (Or.inl ⟨by kernel_rfl, by intro w hS; go_simp⟩) ⟨RT, R5⟩ ?_
            simp only [Act.put, List.getElem_toArray, List.getElem_cons_succ, List.getElem_cons_zero, List.setIfInBounds_toArray, List.set_cons_zero, List.set_cons_succ]
            refine wpAnyH_take (i := 4) (v := .bool false) rfl (by kernel_rfl) (by kernel_rfl) (by kernel_rfl) (fun _ _ _ h => h) (Or.inl ⟨by kernel_rfl, by intro w hS; go_simp⟩) ⟨RT, R5⟩ ?_
            simp only [Act.put, List.getElem_toArray, List.getElem_cons_succ, List.getElem_cons_zero, List.setIfInBounds_toArray, List.set_cons_zero, List.set_cons_succ]
            refine wpAnyH_take (i := 5) (v := (.pointer (some ⟨bT, 29, none⟩))) rfl (by kernel_rfl) (by kernel_rfl) (by kernel_rfl) (fun _ _ _ h => h) (Or.inl ⟨by kernel_rfl, by intro w hS; go_simp⟩) ⟨RT, R5⟩ ?_
            simp only [Act.put, List.getElem_toArray, List.getElem_cons_succ, List.getElem_cons_zero, List.setIfInBounds_toArray, List.set_cons_zero, List.set_cons_succ]
            refine wpAnyH_take (i := 6) (v := .slice a0 n cap) rfl (by kernel_rfl) (by kernel_rfl) (by kernel_rfl) (fun _ _ _ h => h) (Or.inl ⟨by kernel_rfl, by intro w hS; have hc : w.cell? ⟨bT, 29, none⟩ = some (.slice a0 n cap) := hS.1.cell 29; go_simp⟩) ⟨RT, R5⟩ ?_
            simp only [Act.put, List.getElem_toArray, List.getElem_cons_succ, List.getElem_cons_zero, List.setIfInBounds_toArray, List.set_cons_zero, List.set_cons_succ]
            refine wpAnyH_take (i := 7) (v := .int .i64 (j : Int)) rfl (by kernel_rfl) (by kernel_rfl) (by kernel_rfl) (fun _ _ _ h => h) (Or.inl ⟨by kernel_rfl, by intro w hS; go_simp⟩) ⟨RT, R5⟩ ?_
            simp only [Act.put, List.getElem_toArray, List.getElem_cons_succ, List.getElem_cons_zero, List.setIfInBounds_toArray, List.set_cons_zero, List.set_cons_succ]
            refine wpAnyH_take (i := 8) (v := .slice a0 j cap) rfl (by kernel_rfl) (by kernel_rfl) (by kernel_rfl) (fun _ _ _ h => h) (Or.inl ⟨by kernel_rfl, by intro w hS; go_simp⟩) ⟨RT, R5⟩ ?_
            simp only [Act.put, List.getElem_toArray, List.getElem_cons_succ, List.getElem_cons_zero, List.setIfInBounds_toArray, List.set_cons_zero, List.set_cons_succ]
            refine wpAnyH_take (i := 9) (v := .agg (mc (p, s, i, a, q))) rfl (by kernel_rfl) (by kernel_rfl) (by kernel_rfl) (fun _ _ _ h => h) (yields_loadR 32 (.tmp 5) rfl (by kernel_rfl) b5 (by kernel_rfl) (mc (p, s, i, a, q)) (fun _ h => h.2) _ Try.underlying32 rfl (mc_info (p, s, i, a, q))) ⟨RT, R5⟩ ?_
            simp only [Act.put, List.getElem_toArray, List.getElem_cons_succ, List.getElem_cons_zero, List.setIfInBounds_toArray, List.set_cons_zero, List.set_cons_succ]
            refine wpAnyH_ready (rs := [10]) (by kernel_rfl) (by simp) ?_
            refine AllReadyH.cons rfl (fun K hK => ?_) ?_
            · go_simp
              go_at_call 32; refine (meets_any (.slice a0 j cap) (ms.take j) (p, s, i, a, q) _ ((hM.keep hB hlt).take j hj)).mono ?_; rintro e w5 ⟨rfl, hb5⟩; (try replace hb5 := below_undr' hb5); rw [hmeet.out]; replace RT := RT.below hb5; replace RN := RN.below hb5; replace R5 := R5.below hb5; replace hB := hB.trans (hb5.mono hB.size)
              go_wp2_with fail
              refine hK.out _ _ ⟨RT, R5⟩ (fun _ => ?_)
              clear hK K
              try simp only [Act.put, List.getElem_toArray, List.getElem_cons_succ, List.getElem_cons_zero, List.setIfInBounds_toArray, List.set_cons_zero, List.set_cons_succ]
              refine wpAnyH_take (i := 11) (v := .bool false) rfl (by kernel_rfl) (by kernel_rfl) (by kernel_rfl) (fun _ _ _ h => h) (Or.inl ⟨by kernel_rfl, by intro w hS; go_simp⟩) ⟨RT, R5⟩ ?_
              simp only [Act.put, List.getElem_toArray, List.getElem_cons_succ, List.getElem_cons_zero, List.setIfInBounds_toArray, List.set_cons_zero, List.set_cons_succ]
              refine wpAnyH_done (by kernel_rfl) ?_ _
              refine NoPanic.normal ?_
              go_wp2_with (first
                | (refine wpList_loadR 32 _ rfl rfl _ rfl (mc (p, s, i, a, q)) R5 _ Try.underlying32 rfl (mc_info _) ?_)
                | (go_at_call 33; go_fit (C4 _); rintro e w5 ⟨rfl, hb5⟩; (try replace hb5 := below_undr' hb5); replace RT := RT.below hb5; replace RN := RN.below hb5; replace R5 := R5.below hb5; replace hB := hB.trans (hb5.mono hB.size))
                | (refine wpList_allocR 67 rfl rfl _ place_zero ?_; intro b6 w6 l6 R6 hb6; have m5 := R5.ne l6; have n6 := RN.ne l6; have mT := RT.ne l6; replace l6 := Nat.le_trans hB.size l6; replace R5 := R5.below hb6; replace RT := RT.below hb6; replace RN := RN.below hb6; replace hB := hB.trans (hb6.mono hB.size))
                | (refine wpList_storeR 67 rfl _ _ rfl b6 rfl (ic2 a kk) rfl _ R6 rfl (by kernel_rfl) (by kernel_rfl) ?_; intro w7 R6 t7; replace R5 := t7.row R5 m5; replace RT := t7.row RT mT; replace RN := t7.row RN n6; replace hB := t7.below _ _ l6 hB))
              refine wp_region_noPanic ?_
              refine wp_region_held_drew (S := fun W => Row 32 W b5 (mc (p, s, i, a, q)) ∧ Row 67 W b6 (ic2 a kk)) (by kernel_rfl) ⟨R5, R6⟩ (fun _ => ?_)
              refine wpAnyH_take (i := 0) (v := (.pointer (some ⟨b6, 0, none⟩))) rfl (by kernel_rfl) (by kernel_rfl) (by kernel_rfl) (fun _ _ _ h => h) (Or.inl ⟨by kernel_rfl, by intro w hS; go_simp⟩) ⟨R5, R6⟩ ?_
              simp only [Act.put, List.getElem_toArray, List.getElem_cons_succ, List.getElem_cons_zero, List.setIfInBounds_toArray, List.set_cons_zero, List.set_cons_succ]
              refine wpAnyH_take (i := 1) (v := .int .i64 a) rfl (by kernel_rfl) (by kernel_rfl) (by kernel_rfl) (fun _ _ _ h => h) (Or.inl ⟨by kernel_rfl, by intro w hS; have hc := p0B hS.2; go_simp⟩) ⟨R5, R6⟩ ?_
              simp only [Act.put, List.getElem_toArray, List.getElem_cons_succ, List.getElem_cons_zero, List.setIfInBounds_toArray, List.set_cons_zero, List.set_cons_succ]
              refine wpAnyH_take (i := 2) (v := (.pointer (some ⟨b6, 1, none⟩))) rfl (by kernel_rfl) (by kernel_rfl) (by kernel_rfl) (fun _ _ _ h => h) (Or.inl ⟨by kernel_rfl, by intro w hS; go_simp⟩) ⟨R5, R6⟩ ?_
              simp only [Act.put, List.getElem_toArray, List.getElem_cons_succ, List.getElem_cons_zero, List.setIfInBounds_toArray, List.set_cons_zero, List.set_cons_succ]
              refine wpAnyH_take (i := 3) (v := .int .i64 kk) rfl (by kernel_rfl) (by kernel_rfl) (by kernel_rfl) (fun _ _ _ h => h) (Or.inl ⟨by kernel_rfl, by intro w hS; have hc := p1 hS.2; go_simp⟩) ⟨R5, R6⟩ ?_
              simp only [Act.put, List.getElem_toArray, List.getElem_cons_succ, List.getElem_cons_zero, List.setIfInBounds_toArray, List.set_cons_zero, List.set_cons_succ]
              refine wpAnyH_take (i := 4) (v := (.pointer (some ⟨b5, 1, none⟩))) rfl (by kernel_rfl) (by kernel_rfl) (by kernel_rfl) (fun _ _ _ h => h) (Or.inl ⟨by kernel_rfl, by intro w hS; go_simp⟩) ⟨R5, R6⟩ ?_
              simp only [Act.put, List.getElem_toArray, List.getElem_cons_succ, List.getElem_cons_zero, List.setIfInBounds_toArray, List.set_cons_zero, List.set_cons_succ]
              refine wpAnyH_take (i := 5) (v := .int .i64 s) rfl (by kernel_rfl) (by kernel_rfl) (by kernel_rfl) (fun _ _ _ h => h) (Or.inl ⟨by kernel_rfl, by intro w hS; have hc := m1 hS.1; go_simp⟩) ⟨R5, R6⟩ ?_
              simp only [Act.put, List.getElem_toArray, List.getElem_cons_succ, List.getElem_cons_zero, List.setIfInBounds_toArray, List.set_cons_zero, List.set_cons_succ]
              refine wpAnyH_take (i := 6) (v := .int .i64 (s + 1)) rfl (by kernel_rfl) (by kernel_rfl) (by kernel_rfl) (fun _ _ _ h => h) (Or.inl ⟨by kernel_rfl, by intro w hS; go_simp⟩) ⟨R5, R6⟩ ?_
              simp only [Act.put, List.getElem_toArray, List.getElem_cons_succ, List.getElem_cons_zero, List.setIfInBounds_toArray, List.set_cons_zero, List.set_cons_succ]
              refine wpAnyH_take (i := 7) (v := (.pointer (some ⟨bN, 0, none⟩))) rfl (by kernel_rfl) (by kernel_rfl) (by kernel_rfl) (fun _ _ _ h => h) (Or.inl ⟨by kernel_rfl, by intro w hS; go_simp⟩) ⟨R5, R6⟩ ?_
              simp only [Act.put, List.getElem_toArray, List.getElem_cons_succ, List.getElem_cons_zero, List.setIfInBounds_toArray, List.set_cons_zero, List.set_cons_succ]
              refine wpAnyH_take (i := 8) (v := (.pointer (some ⟨bN, 0, none⟩))) rfl (by kernel_rfl) (by kernel_rfl) (by kernel_rfl) (fun _ _ _ h => h) (Or.inl ⟨by kernel_rfl, by intro w hS; go_simp⟩) ⟨R5, R6⟩ ?_
              simp only [Act.put, List.getElem_toArray, List.getElem_cons_succ, List.getElem_cons_zero, List.setIfInBounds_toArray, List.set_cons_zero, List.set_cons_succ]
              refine wpAnyH_take (i := 9) (v := (.pointer (some ⟨bN, a.toNat * 6, none⟩))) rfl (by kernel_rfl) (by kernel_rfl) (by kernel_rfl) (fun _ _ _ h => h) (Or.inl ⟨by kernel_rfl, by intro w hS; go_simp⟩) ⟨R5, R6⟩ ?_
              simp only [Act.put, List.getElem_toArray, List.getElem_cons_succ, List.getElem_cons_zero, List.setIfInBounds_toArray, List.set_cons_zero, List.set_cons_succ]
              refine wpAnyH_take (i := 10) (v := (.pointer (some ⟨bN, a.toNat * 6 + kk.toNat, none⟩))) rfl (by kernel_rfl) (by kernel_rfl) (by kernel_rfl) (fun _ _ _ h => h) (Or.inl ⟨by kernel_rfl, by intro w hS; go_simp⟩) ⟨R5, R6⟩ ?_
              simp only [Act.put, List.getElem_toArray, List.getElem_cons_succ, List.getElem_cons_zero, List.setIfInBounds_toArray, List.set_cons_zero, List.set_cons_succ]
              refine wpAnyH_ready (rs := [11]) (by kernel_rfl) (by simp) ?_
              refine AllReadyH.cons rfl (fun K hK => ?_) ?_
              · rw [if_pos (by kernel_rfl)]
                have fz := RN.free (a.toNat * 6 + kk.toNat); have hc : World.cell? _ ⟨bN, a.toNat * 6 + kk.toNat, none⟩ = some (.int .i64 (needF f (ms.take j) (a.toNat * 6 + kk.toNat))) := (RN.cell _).trans (tc_own _ _ _ _ _ hoff); (unfold Oper.wp execOp; go_simp); replace R5 := R5.other (b := bN) (o := a.toNat * 6 + kk.toNat) (v := .int .i64 (s + 1)) nN.symm; replace R6 := R6.other (b := bN) (o := a.toNat * 6 + kk.toNat) (v := .int .i64 (s + 1)) n6.symm; replace RT := RT.other (b := bN) (o := a.toNat * 6 + kk.toNat) (v := .int .i64 (s + 1)) nTN; replace RN := RN.set (o := a.toNat * 6 + kk.toNat) (v := .int .i64 (s + 1)); rw [tc_set _ _ _ _ _ _ hoff] at RN; replace hB := hB.setCell (p := ⟨bN, a.toNat * 6 + kk.toNat, none⟩) lN (.int .i64 (s + 1)); clear fz hc
                refine hK.out _ _ ⟨R5, R6⟩ (fun _ => ?_)
                clear hK K
                try simp only [Act.put, List.getElem_toArray, List.getElem_cons_succ, List.getElem_cons_zero, List.setIfInBounds_toArray, List.set_cons_zero, List.set_cons_succ]
                refine wpAnyH_done (by kernel_rfl) ?_ _
                refine NoPanic.normal ?_
                have d1 := m1 R5
                have d3 := m3 R5
                have fN := RN.free (21 + s.toNat)
                have cN : World.cell? _ ⟨bN, 21 + s.toNat, none⟩ = some (.int .i64 (needH h (ms.take j) s.toNat)) := (RN.cell _).trans (tc_home _ _ _ _ _ hs8n)
                go_wp2
                replace RT := RT.other (b := bN) (o := 21 + s.toNat) (v := .int .i64 (a + 1)) nTN
                replace RN := RN.set (o := 21 + s.toNat) (v := .int .i64 (a + 1))
                rw [tc_setH _ _ _ _ _ _ hs8n, hup.out, hupH.out] at RN
                replace hB := hB.setCell (p := ⟨bN, 21 + s.toNat, none⟩) lN (.int .i64 (a + 1))
                go_roundw
                case rel => exact ⟨j + 1, by omega, by go_num, HF.out, by first | exact hB | exact below_drew hB | exact below_drew (below_drew hB), RT, RN⟩
                case measure => rw [hjw]; exact meas_next (HN.out.symm ▸ hlj)
              exact AllReadyH.nil
            exact AllReadyH.nil
          exact AllReadyH.nil
      · have e : j = ms.length := by omega
        have hjn : (n : Int) ≤ (j : Int) := by have := HN.out; omega
        rw [e, List.take_length] at hok RN
        have hwN := needF_wf ms HG.out
        have hwM := needH_wf ms hwH
        have hokH : Hid (MsOk f h ms) := hok
        clear e hj hlj hok
        cases hEO0 : eqTo (needF f ms) f 18 with
        | false =>
          have hEO : Hid (eqTo (needF f ms) f 18 = false) := hEO0
          have hEH : Hid (eqTo (needH h ms) h 8 = eqTo (needH h ms) h 8) := (rfl : _ = _)
          have HF : Hid ((false = true) ↔ GoodT f h ms) := by
            show _ ↔ _
            refine ⟨fun h => by simp at h, fun G => ?_⟩
            have := (eqTo_iff _ _ _).2 (goodT_iff.1 G).2.2.1
            rw [hEO0] at this
            exact this
          clear hEO0
          go_wp2_with (first
            | (refine wpList_load_mid ?_ 23 _ rfl bN 0 rfl (ocl (needF f ms)) _ RN.owners Try.underlying23 rfl (oc_info _) ?_; (· rfl); rw [ocl_oc])
            | (refine wpList_load_mid ?_ 23 _ rfl bT 0 rfl (ocl f) _ RT.owners Try.underlying23 rfl (oc_info _) ?_; (· rfl); rw [ocl_oc])
            | (refine wpList_eqS 23 _ _ rfl rfl (oc (needF f ms)) (oc f) rfl rfl Try.eqGuardType23 _ _ (eq_own _ _ hwN hwF _) hEO.out ?_)
            | (refine wpList_loadG 27 _ rfl ?_ bN 21 rfl (hcl (needH h ms)) _ RN.homes Try.underlying27 rfl (home_info _) ?_; (· rfl); rw [hcl_hc])
            | (refine wpList_loadG 27 _ rfl ?_ bT 21 rfl (hcl h) _ RT.homes Try.underlying27 rfl (home_info _) ?_; (· rfl); rw [hcl_hc])
            | (refine wpList_eqS 27 _ _ rfl ?_ (hc8 (needH h ms)) (hc8 h) rfl rfl Try.eqGuardType27 _ _ (eq_home _ _ hwM hwH _) hEH.out ?_; · rfl)
            | (refine wpList_loadR 30 _ rfl ?_ _ rfl (tc f g h (.slice a0 n cap)) RT _ Try.underlying30 rfl (tc_info _ _ _ _) ?_; · rfl)
            | (go_at_call 34; refine (within_any f g h (.slice a0 n cap) ms _ (hM.keep hB hlt)).mono ?_; rintro e w5 ⟨r, hr, rfl, hb5⟩; obtain rfl : r = true := (by simp); clear hr; replace hB := hB.trans (hb5.mono hB.size)))
          go_ret
          first | exact ⟨_, by first | exact HF.out | simpa using HF.out, rfl, hB⟩ | exact Or.inr ⟨by simpa using HF.out, rfl, hB⟩ | exact Or.inl ⟨by simpa using HF.out, rfl, hB⟩
        | true =>
          have hEO : Hid (eqTo (needF f ms) f 18 = true) := hEO0
          cases hEH0 : eqTo (needH h ms) h 8 with
          | false =>
            have hEH : Hid (eqTo (needH h ms) h 8 = false) := hEH0
            have HF : Hid ((false = true) ↔ GoodT f h ms) := by
              show _ ↔ _
              refine ⟨fun h => by simp at h, fun G => ?_⟩
              have := (eqTo_iff _ _ _).2 (goodT_iff.1 G).2.2.2.1
              rw [hEH0] at this
              exact this
            clear hEO0 hEH0
            go_wp2_with (first
              | (refine wpList_load_mid ?_ 23 _ rfl bN 0 rfl (ocl (needF f ms)) _ RN.owners Try.underlying23 rfl (oc_info _) ?_; (· rfl); rw [ocl_oc])
              | (refine wpList_load_mid ?_ 23 _ rfl bT 0 rfl (ocl f) _ RT.owners Try.underlying23 rfl (oc_info _) ?_; (· rfl); rw [ocl_oc])
              | (refine wpList_eqS 23 _ _ rfl rfl (oc (needF f ms)) (oc f) rfl rfl Try.eqGuardType23 _ _ (eq_own _ _ hwN hwF _) hEO.out ?_)
              | (refine wpList_loadG 27 _ rfl ?_ bN 21 rfl (hcl (needH h ms)) _ RN.homes Try.underlying27 rfl (home_info _) ?_; (· rfl); rw [hcl_hc])
              | (refine wpList_loadG 27 _ rfl ?_ bT 21 rfl (hcl h) _ RT.homes Try.underlying27 rfl (home_info _) ?_; (· rfl); rw [hcl_hc])
              | (refine wpList_eqS 27 _ _ rfl ?_ (hc8 (needH h ms)) (hc8 h) rfl rfl Try.eqGuardType27 _ _ (eq_home _ _ hwM hwH _) hEH.out ?_; · rfl)
              | (refine wpList_loadR 30 _ rfl ?_ _ rfl (tc f g h (.slice a0 n cap)) RT _ Try.underlying30 rfl (tc_info _ _ _ _) ?_; · rfl)
              | (go_at_call 34; refine (within_any f g h (.slice a0 n cap) ms _ (hM.keep hB hlt)).mono ?_; rintro e w5 ⟨r, hr, rfl, hb5⟩; obtain rfl : r = true := (by simp); clear hr; replace hB := hB.trans (hb5.mono hB.size)))
            go_ret
            first | exact ⟨_, by first | exact HF.out | simpa using HF.out, rfl, hB⟩ | exact Or.inr ⟨by simpa using HF.out, rfl, hB⟩ | exact Or.inl ⟨by simpa using HF.out, rfl, hB⟩
          | true =>
            have hEH : Hid (eqTo (needH h ms) h 8 = true) := hEH0
            by_cases hfew : fewTo f ms 8
            · have HF : Hid ((true = true) ↔ GoodT f h ms) := by
                show _ ↔ _
                exact ⟨fun _ => goodT_iff.2 ⟨HG.out, hokH.out, (eqTo_iff _ _ _).1 hEO0, (eqTo_iff _ _ _).1 hEH0, hfew⟩, fun _ => rfl⟩
              have hfw : Hid (fewTo f ms 8) := hfew
              clear hEO0 hEH0 hfew
              go_wp2_with (first
                | (refine wpList_load_mid ?_ 23 _ rfl bN 0 rfl (ocl (needF f ms)) _ RN.owners Try.underlying23 rfl (oc_info _) ?_; (· rfl); rw [ocl_oc])
                | (refine wpList_load_mid ?_ 23 _ rfl bT 0 rfl (ocl f) _ RT.owners Try.underlying23 rfl (oc_info _) ?_; (· rfl); rw [ocl_oc])
                | (refine wpList_eqS 23 _ _ rfl rfl (oc (needF f ms)) (oc f) rfl rfl Try.eqGuardType23 _ _ (eq_own _ _ hwN hwF _) hEO.out ?_)
                | (refine wpList_loadG 27 _ rfl ?_ bN 21 rfl (hcl (needH h ms)) _ RN.homes Try.underlying27 rfl (home_info _) ?_; (· rfl); rw [hcl_hc])
                | (refine wpList_loadG 27 _ rfl ?_ bT 21 rfl (hcl h) _ RT.homes Try.underlying27 rfl (home_info _) ?_; (· rfl); rw [hcl_hc])
                | (refine wpList_eqS 27 _ _ rfl ?_ (hc8 (needH h ms)) (hc8 h) rfl rfl Try.eqGuardType27 _ _ (eq_home _ _ hwM hwH _) hEH.out ?_; · rfl)
                | (refine wpList_loadR 30 _ rfl ?_ _ rfl (tc f g h (.slice a0 n cap)) RT _ Try.underlying30 rfl (tc_info _ _ _ _) ?_; · rfl)
                | (go_at_call 34; refine (within_any f g h (.slice a0 n cap) ms _ (hM.keep hB hlt)).mono ?_; rintro e w5 ⟨r, hr, rfl, hb5⟩; obtain rfl : r = true := (hr.2 hfw.out); clear hr; replace hB := hB.trans (hb5.mono hB.size)))
              go_ret
              first | exact ⟨_, by first | exact HF.out | simpa using HF.out, rfl, hB⟩ | exact Or.inr ⟨by simpa using HF.out, rfl, hB⟩ | exact Or.inl ⟨by simpa using HF.out, rfl, hB⟩
            · have HF : Hid ((false = true) ↔ GoodT f h ms) := by
                show _ ↔ _
                exact ⟨fun h => by simp at h, fun G => absurd (goodT_iff.1 G).2.2.2.2 hfew⟩
              have hfw : Hid (¬ fewTo f ms 8) := hfew
              clear hEO0 hEH0 hfew
              go_wp2_with (first
                | (refine wpList_load_mid ?_ 23 _ rfl bN 0 rfl (ocl (needF f ms)) _ RN.owners Try.underlying23 rfl (oc_info _) ?_; (· rfl); rw [ocl_oc])
                | (refine wpList_load_mid ?_ 23 _ rfl bT 0 rfl (ocl f) _ RT.owners Try.underlying23 rfl (oc_info _) ?_; (· rfl); rw [ocl_oc])
                | (refine wpList_eqS 23 _ _ rfl rfl (oc (needF f ms)) (oc f) rfl rfl Try.eqGuardType23 _ _ (eq_own _ _ hwN hwF _) hEO.out ?_)
                | (refine wpList_loadG 27 _ rfl ?_ bN 21 rfl (hcl (needH h ms)) _ RN.homes Try.underlying27 rfl (home_info _) ?_; (· rfl); rw [hcl_hc])
                | (refine wpList_loadG 27 _ rfl ?_ bT 21 rfl (hcl h) _ RT.homes Try.underlying27 rfl (home_info _) ?_; (· rfl); rw [hcl_hc])
                | (refine wpList_eqS 27 _ _ rfl ?_ (hc8 (needH h ms)) (hc8 h) rfl rfl Try.eqGuardType27 _ _ (eq_home _ _ hwM hwH _) hEH.out ?_; · rfl)
                | (refine wpList_loadR 30 _ rfl ?_ _ rfl (tc f g h (.slice a0 n cap)) RT _ Try.underlying30 rfl (tc_info _ _ _ _) ?_; · rfl)
                | (go_at_call 34; refine (within_any f g h (.slice a0 n cap) ms _ (hM.keep hB hlt)).mono ?_; rintro e w5 ⟨r, hr, rfl, hb5⟩; obtain rfl : r = false := (by cases r with | false => rfl | true => exact absurd (hr.1 rfl) hfw.out); clear hr; replace hB := hB.trans (hb5.mono hB.size)))
              go_ret
              first | exact ⟨_, by first | exact HF.out | simpa using HF.out, rfl, hB⟩ | exact Or.inr ⟨by simpa using HF.out, rfl, hB⟩ | exact Or.inl ⟨by simpa using HF.out, rfl, hB⟩
end Go.Proofs.Ytmdijjbkjcnbpaa
