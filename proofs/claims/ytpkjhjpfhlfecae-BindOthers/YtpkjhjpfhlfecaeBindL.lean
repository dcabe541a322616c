/-
  The walk of BindOthers.
-/
import Derived.Test.YtpkjhjpfhlfecaeBindJ
namespace Go.Proofs.Ytpkjhjpfhlfecae
open Go.ChangeShapes Go.WideShapes Go.ChangeAt Go.RowKit
set_option linter.unusedSimpArgs false
set_option linter.unusedVariables false

theorem maps_turned2 {w w' : World} {b : Nat} {v : Value} {ms : List Mp} (h : MapsAt w v ms) (hne : 0 < ms.length → mb v ≠ b) (t : Turned b w w') : MapsAt w' v ms := by
  obtain ⟨a, cap, e, h1, h2, h3⟩ := h
  refine ⟨a, cap, e, h1, fun j hj i u hu => ?_, h3⟩
  have := h2 j hj i u hu
  unfold World.cell? at *
  rw [t.other _ (hne (by omega))]
  exact this
theorem MapsAt.away2 {w : World} {v : Value} {ms : List Mp} {b : Nat} (h : MapsAt w v ms) (hb : w.heap.size ≤ b) : 0 < ms.length → mb v ≠ b := fun hl => Nat.ne_of_lt (Nat.lt_of_lt_of_le (h.lt hl) hb)
theorem index_hc (h : Nat → Int) (u : Nat) (hu : u < 8) (w : World) : (Instr.index 27 (.agg (hc8 h)) (.int .i64 (u : Int))).run Try.prog w = .ok (.int .i64 (h u)) w := by
  rcases (show u = 0 ∨ u = 1 ∨ u = 2 ∨ u = 3 ∨ u = 4 ∨ u = 5 ∨ u = 6 ∨ u = 7 by omega) with rfl | rfl | rfl | rfl | rfl | rfl | rfl | rfl <;> kernel_rfl
attribute [local irreducible] tc pc hc8
set_option maxRecDepth 20000 in
set_option maxHeartbeats 16000000 in
theorem others_any (f : Nat → Int) (g : Nat → Bool) (h : Nat → Int) (sl : Value) (ms : List Mp) (p s i d : Int) (hwH : wfH h) (hno : NilOk sl) (hd : (Lit.int .i64 d).wf = true) (w : World) (hM : MapsAt w sl ms) :
    Calls Try.prog 6 #[.agg (tc f g h sl), .int .i64 p, .int .i64 s, .int .i64 i, .int .i64 d] w fun e w' => e = .returned (.bool true) ∧ Below w.heap.size w w' := by
  have hB := Below.refl w.heap.size w
  have hM0 := hM
  obtain ⟨a0, cap, hsl, -⟩ := hM0
  obtain ⟨n, hn⟩ : ∃ n, n = ms.length := ⟨_, rfl⟩
  rw [← hn] at hsl
  subst hsl
  have HN : Hid (n = ms.length) := hn
  clear hn
  have hlt := hM.lt
  have CB := fun w => bindsKeep_any w
  rcases open_cases f g h (.slice a0 n cap) ms p s i d hwH hno hd with ⟨E, hE, CO⟩ | ⟨hs, f', h', ms', m', took, hO, CO⟩
  · have dE : (E != 0) = true := by simp [hE]
    unfold openS at CO
    clear hE
    go_enter Try.func6, Try.ntmps6
    go_wp2_with (first
      | (refine wpList_boxR 30 rfl _ rfl _ rfl ?_; intro b5 w1 l5 R5 hb1; replace l5 := Nat.le_trans hB.size l5; replace hB := hB.trans (hb1.mono hB.size))
      | (refine wpList_loadR 30 (.tmp 5) rfl rfl b5 rfl (tc f g h (.slice a0 n cap)) R5 _ Try.underlying30 rfl (tc_info _ _ _ _) ?_)
      | (go_at_call 9; go_fit (CO _ (hM.keep hB hlt)); rintro e w5 ⟨rfl, hb5⟩; replace hB := hB.trans (hb5.mono hB.size))
      | (refine wpList_allocX 11 30 rfl rfl rfl _ table_zero ?_; intro b11 w2 l11 R11 hb2; replace l11 := Nat.le_trans hB.size l11; replace hB := hB.trans (hb2.mono hB.size))
      | (refine wpList_allocX 12 33 rfl rfl rfl _ map_zero ?_; intro b12 w3 l12 R12 hb3; have n12 := R11.ne l12; replace l12 := Nat.le_trans hB.size l12; replace R11 := R11.below hb3; replace hB := hB.trans (hb3.mono hB.size))
      | (refine wpList_storeR 30 rfl (.tmp 11) _ rfl b11 rfl (tc f g h (.slice a0 n cap)) rfl _ R11 (tc_sz _ _ _ _ _ _ _ _) (tc_info _ _ _ _) (tc_one _ _ _ _ _ _) ?_; intro w6 R11 t6; replace R12 := t6.row R12 n12.symm; replace hB := t6.below _ _ l11 hB)
      | (refine wpList_storeR 33 rfl (.tmp 12) _ rfl b12 rfl (mc noM) rfl _ R12 rfl (mc_info _) (mc_one _) ?_; intro w7 R12 t7; replace hB := t7.below _ _ l12 hB)
      | (go_at_call 16; go_fit (CB _); rintro e w8 ⟨rfl, hb8⟩; replace hB := hB.trans (hb8.mono hB.size)))
    go_ret
    exact ⟨rfl, hB⟩
  · have hs0 : 0 ≤ s := hs.1
    have hs8 : s < 8 := hs.2
    obtain ⟨hGd, hWf, hHere, hHome, hLen⟩ := hO
    unfold openS at CO
    clear hGd hs
    go_enter Try.func6, Try.ntmps6
    go_wp2_with (first
      | (refine wpList_boxR 30 rfl _ rfl _ rfl ?_; intro b5 w1 l5 R5 hb1; replace l5 := Nat.le_trans hB.size l5; replace hB := hB.trans (hb1.mono hB.size))
      | (refine wpList_loadR 30 (.tmp 5) rfl rfl b5 rfl (tc f g h (.slice a0 n cap)) R5 _ Try.underlying30 rfl (tc_info _ _ _ _) ?_)
      | (go_at_call 9; go_fit (CO _ (hM.keep hB hlt)); rintro e w5 ⟨v, rfl, hMv, hNv, hb5⟩; clear hNv; replace R5 := R5.below hb5; replace hB := hB.trans (hb5.mono hB.size); (obtain ⟨av, cv, hv, -⟩ := id hMv); (obtain ⟨ln, hln⟩ : ∃ ln, Hid (ln = ms'.length) := ⟨_, rfl⟩); rw [← hln.out] at hv; subst hv)
      | (refine wpList_allocX 11 30 rfl rfl rfl _ table_zero ?_; intro b11 w2 l11 R11 hb2; have n5 := R5.ne l11; have x11 := hMv.away2 l11; replace hMv := hMv.below hb2; replace R5 := R5.below hb2; replace l11 := Nat.le_trans hB.size l11; replace hB := hB.trans (hb2.mono hB.size))
      | (refine wpList_allocX 12 33 rfl rfl rfl _ map_zero ?_; intro b12 w3 l12 R12 hb3; have n12 := R11.ne l12; have n52 := R5.ne l12; have x12 := hMv.away2 l12; replace hMv := hMv.below hb3; replace l12 := Nat.le_trans hB.size l12; replace R11 := R11.below hb3; replace R5 := R5.below hb3; replace hB := hB.trans (hb3.mono hB.size))
      | (refine wpList_storeR 30 rfl (.tmp 11) _ rfl b11 rfl (tc f' g h' (.slice av ln cv)) rfl _ R11 (tc_sz _ _ _ _ _ _ _ _) (tc_info _ _ _ _) (tc_one _ _ _ _ _ _) ?_; intro w6 R11 t6; replace R12 := t6.row R12 n12.symm; replace R5 := t6.row R5 n5; replace hMv := maps_turned2 hMv x11 t6; replace hB := t6.below _ _ l11 hB)
      | (refine wpList_storeR 33 rfl (.tmp 12) _ rfl b12 rfl (mc m') rfl _ R12 rfl (mc_info _) (mc_one _) ?_; intro w7 R12 t7; replace R11 := t7.row R11 n12; replace R5 := t7.row R5 n52; replace hMv := maps_turned2 hMv x12 t7; replace hB := t7.below _ _ l12 hB; clear R12)
      | (go_at_call 16; go_fit (CB _); rintro e w8 ⟨rfl, hb8⟩; replace hMv := hMv.below hb8; replace R11 := R11.below hb8; replace R5 := R5.below hb8; replace hB := hB.trans (hb8.mono hB.size); have cM : World.cell? _ ⟨b5, 29, none⟩ = some (.slice a0 n cap) := (R5.cell 29).trans (tc_maps _ _ _ _)))
    go_loopw [42] (fun i W => ∃ j : Nat, j ≤ ms.length ∧ i = .int .i64 j ∧ Below w.heap.size w W ∧ Row 30 W b5 (tc f g h (.slice a0 n cap)) ∧ Row 30 W b11 (tc f' g h' (.slice av ln cv)) ∧ MapsAt W (.slice av ln cv) ms') (fun i _ => n - (intOf i).toNat)
    case atStart => exact ⟨0, by omega, rfl, hB, R5, R11, hMv⟩
    case round =>
      clear hB R5 R11 hMv cM
      obtain ⟨j, hj, rfl, hB, R5, R11, hMv⟩ := hrel
      by_cases hlj : j < ms.length
      · have hjn : (j : Int) < (n : Int) := by have := HN.out; omega
        have hjw := wrap_next hlj hM.len
        obtain ⟨m, hm⟩ : ∃ m, ms[j] = m := ⟨_, rfl⟩
        have hMW := hM.keep hB hlt
        have hrg := hMW.at j hlj hm
        have hfd := hHere m (hm ▸ List.getElem_mem hlj)
        have CF := fun w hM => find_any f' g h' (.slice av ln cv) ms' m.1 m.2.1 m.2.2.1 w hM
        rw [hfd] at CF
        unfold foundS at CF
        clear hfd hm
        go_wp2_with (first
          | (refine wpList_indexM rfl (.tmp 40) (.tmp 42) rfl (.slice a0 n cap) ms hMW rfl j rfl hlj ?_)
          | (refine wpList_load_mid rfl 33 (.tmp 44) rfl _ _ rfl (mcl m) _ hrg Try.underlying33 rfl (mcl_info m) ?_; rw [mcl_mc])
          | (refine wpList_allocX 16 33 rfl rfl rfl _ map_zero ?_; intro b16 w3 l16 R16 hb3; have y5 := R5.ne l16; have y11 := R11.ne l16; have yv := hMv.away2 l16; replace l16 := Nat.le_trans hB.size l16; replace hMv := hMv.below hb3; replace R5 := R5.below hb3; replace R11 := R11.below hb3; replace hB := hB.trans (hb3.mono hB.size))
          | (refine wpList_storeR 33 rfl (.tmp 16) _ rfl b16 rfl (mc m) rfl _ R16 rfl (mc_info _) (mc_one _) ?_; intro w4 R16 t4; replace R5 := t4.row R5 y5; replace R11 := t4.row R11 y11; replace hMv := maps_turned2 hMv yv t4; replace hB := t4.below _ _ l16 hB; have c0 := m0 R16; have c1 := m1 R16; have c2 := m2 R16)
          | (refine wpList_loadR 30 (.tmp 11) rfl rfl b11 rfl (tc f' g h' (.slice av ln cv)) R11 _ Try.underlying30 rfl (tc_info _ _ _ _) ?_)
          | (go_at_call 15; go_fit (CF _ hMv); rintro e w5 ⟨rfl, hb5⟩; clear c0 c1 c2; replace hMv := hMv.below hb5; replace R5 := R5.below hb5; replace R11 := R11.below hb5; replace R16 := R16.below hb5; replace hB := hB.trans (hb5.mono hB.size))
          | (refine wpList_allocX 17 33 rfl rfl rfl _ map_zero ?_; intro b17 w6 l17 R17 hb6; have z5 := R5.ne l17; have z11 := R11.ne l17; have z16 := R16.ne l17; have zv := hMv.away2 l17; replace l17 := Nat.le_trans hB.size l17; replace hMv := hMv.below hb6; replace R5 := R5.below hb6; replace R11 := R11.below hb6; replace R16 := R16.below hb6; replace hB := hB.trans (hb6.mono hB.size))
          | (refine wpList_storeR 33 rfl (.tmp 17) _ rfl b17 rfl (mc m) rfl _ R17 rfl (mc_info _) (mc_one _) ?_; intro w7 R17 t7; replace R5 := t7.row R5 z5; replace R11 := t7.row R11 z11; replace R16 := t7.row R16 z16; replace hMv := maps_turned2 hMv zv t7; replace hB := t7.below _ _ l17 hB)
          | (refine wpList_loadR 33 (.tmp 17) rfl ?_ b17 rfl (mc m) R17 _ Try.underlying33 rfl (mc_info _) ?_; · rfl)
          | (refine wpList_loadR 33 (.tmp 16) rfl ?_ b16 rfl (mc m) R16 _ Try.underlying33 rfl (mc_info _) ?_; · rfl)
          | (refine wpList_neS 33 (.tmp 60) (.tmp 61) rfl ?_ (mc m) (mc m) rfl rfl Try.eqGuardType33 _ false (eq_map m m _) (by simp) ?_; · rfl))
        go_roundw
        case rel => exact ⟨j + 1, by omega, by go_num, hB, R5, R11, hMv⟩
        case measure => (first | rw [hjw] | skip); exact meas_next (HN.out.symm ▸ hlj)
      · have hjn : (n : Int) ≤ (j : Int) := by have := HN.out; omega
        clear hj hlj
        go_wp2_with (first
          | (refine wpList_load_mid rfl 27 (.tmp 65) rfl b5 21 rfl (hcl h) _ R5.homes Try.underlying27 rfl (home_info _) ?_; rw [hcl_hc]))
        go_loopw [67] (fun i W => ∃ u : Nat, u ≤ 8 ∧ i = .int .i64 u ∧ Below w.heap.size w W ∧ Row 30 W b5 (tc f g h (.slice a0 n cap)) ∧ Row 30 W b11 (tc f' g h' (.slice av ln cv))) (fun i _ => 8 - (intOf i).toNat)
        case atStart => exact ⟨0, by omega, rfl, hB, R5, R11⟩
        case round =>
          clear hB R5 R11 hMv
          obtain ⟨u, hu, rfl, hB, R5, R11⟩ := hrel
          by_cases hu8 : u < 8
          · have iu := index_hc h u hu8
            have hhu := hHome u hu8
            have hu0 : (0 : Int) ≤ (u : Int) := by omega
            have hu8' : (u : Int) < 8 := by omega
            have cH : World.cell? _ ⟨b11, 21 + u, none⟩ = some (.int .i64 (h' u)) := (R11.cell _).trans (tc_home _ _ _ _ _ hu8)
            by_cases hus : (u : Int) = s
            · have d1 : ((u : Int) != s) = false := by simp [hus]
              have d2 : ((u : Int) == s) = true := by simp [hus]
              by_cases hz : h u = 0
              · have d3 : (h u != 0) = false := by simp [hz]
                clear hhu hus hz
                go_wp2
                go_roundw
                case rel => exact ⟨u + 1, by omega, by go_num, hB, R5, R11⟩
                case measure => simp [intOf]; omega
              · have d3 : (h u != 0) = true := by simp [hz]
                have d4 : (h' u != h u) = false := by rw [hhu.2 hz]; simp
                clear hhu hus hz
                go_wp2
                go_roundw
                case rel => exact ⟨u + 1, by omega, by go_num, hB, R5, R11⟩
                case measure => simp [intOf]; omega
            · have d1 : ((u : Int) != s) = true := by simp [hus]
              have d2 : ((u : Int) == s) = false := by simp [hus]
              have d4 : (h' u != h u) = false := by rw [hhu.1 (by omega)]; simp
              clear hhu hus
              go_wp2
              go_roundw
              case rel => exact ⟨u + 1, by omega, by go_num, hB, R5, R11⟩
              case measure => simp [intOf]; omega
          · have e : u = 8 := by omega
            subst e
            have cA : World.cell? _ ⟨b11, 29, none⟩ = some (.slice av ln cv) := (R11.cell 29).trans (tc_maps _ _ _ _)
            have cB : World.cell? _ ⟨b5, 29, none⟩ = some (.slice a0 n cap) := (R5.cell 29).trans (tc_maps _ _ _ _)
            have hl1 : (ln : Int) - (n : Int) ≤ 1 := by have := HN.out; have := hln.out; omega
            have hlw : wrap64 ((ln : Int) - (n : Int)) = (ln : Int) - (n : Int) := by have := HN.out; have := hln.out; have := hM.len; unfold wrap64; omega
            go_wp2
            go_ret
            exact ⟨rfl, hB⟩
end Go.Proofs.Ytpkjhjpfhlfecae
