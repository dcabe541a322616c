/-
  Of what BindCloses, BindOpens stands on: part 5.
-/
import Derived.Test.YtmdijjbkjcnbpaaBindCO3
import Derived.Test.YtmdijjbkjcnbpaaBindCO4
namespace Go.Proofs.Ytmdijjbkjcnbpaa
open Go.ChangeShapes Go.WideShapes Go.ChangeAt Go.RowKit
set_option linter.unusedSimpArgs false
set_option linter.unusedVariables false

/-- which address is picked, and the error. -/
def pickE (f : Nat → Int) (g : Nat → Bool) : Int := if goodP f = true then (if (openL f g).length = 0 then 10 else 0) else 2
def pickK (f : Nat → Int) (g : Nat → Bool) (d : Int) : Int := if goodP f = true then (if (openL f g).length = 0 then 0 else ((drawnL (openL f g) d : Nat) : Int)) else 0
theorem openL_len (f : Nat → Int) (g : Nat → Bool) : (openL f g).length ≤ 3 := openTo_len f g 3
set_option maxRecDepth 10000 in
set_option maxHeartbeats 2000000 in
theorem pick_any (f : Nat → Int) (g : Nat → Bool) (d : Int) (hd : (Lit.int .i64 d).wf = true) (w : World) :
    Calls Try.prog 58 #[plv f g, .int .i64 d] w fun e w' => e = .returned (.tuple #[.int .i64 (pickK f g d), .int .i64 (pickE f g)]) ∧ Below w.heap.size w w' := by
  have hB : Below w.heap.size w (w.alloc (.cells (pc f g) 26)) := (Below.refl _ _).alloc (Nat.le_refl _) _
  have T0 : PRow (w.alloc (.cells (pc f g) 26)) w.heap.size (pc f g) := PRow.new _ _
  have CG := fun w => good_any f g w
  have CL := fun w => lettable_any f g w
  have hl := openL_len f g
  unfold plv at *
  cases hg : goodP f with
  | false =>
    have H1 : Hid (pickK f g d = 0) := by show _ = _; unfold pickK; rw [if_neg (by simp [hg])]
    have H2 : Hid (pickE f g = 2) := by show _ = _; unfold pickE; rw [if_neg (by simp [hg])]
    rw [hg] at CG
    go_enter Try.func58, Try.ntmps58
    go_wp2_with (first | (refine wpList_load_pool _ rfl ?_ _ rfl f g T0 ?_; · rfl) | (go_at_call 30; go_fit (CG _); rintro e w' ⟨rfl, hb⟩; (try replace hb := below_undr' hb); replace T0 := T0.below hb; replace hB := hB.trans (hb.mono hB.size)))
    go_ret2
    exact ⟨by rw [H1.out, H2.out]; rfl, hB⟩
  | true =>
    rw [hg] at CG
    by_cases hz : (openL f g).length = 0
    · have H1 : Hid (pickK f g d = 0) := by show _ = _; unfold pickK; rw [if_pos hg, if_pos hz]
      have H2 : Hid (pickE f g = 10) := by show _ = _; unfold pickE; rw [if_pos hg, if_pos hz]
      have hz' : ((openL f g).length : Int) = 0 := by omega
      clear hz
      go_enter Try.func58, Try.ntmps58
      go_wp2_with (first
        | (refine wpList_load_pool _ rfl ?_ _ rfl f g T0 ?_; · rfl)
        | (go_at_call 30; go_fit (CG _); rintro e w' ⟨rfl, hb⟩; (try replace hb := below_undr' hb); replace T0 := T0.below hb; replace hB := hB.trans (hb.mono hB.size))
        | (go_at_call 61; go_fit (CL _); rintro e w' ⟨v, rfl, ⟨a1, c1, rfl⟩, hI, hb⟩; (try replace hb := below_undr' hb); replace T0 := T0.below hb; replace hB := hB.trans (hb.mono hB.size)))
      go_ret2
      exact ⟨by rw [H1.out, H2.out]; rfl, hB⟩
    · have H1 : Hid (pickK f g d = ((drawnL (openL f g) d : Nat) : Int)) := by show _ = _; unfold pickK; rw [if_pos hg, if_neg hz]
      have H2 : Hid (pickE f g = 0) := by show _ = _; unfold pickE; rw [if_pos hg, if_neg hz]
      have hz' : (((openL f g).length : Int) == 0) = false := by simp; intro h; exact hz (by rw [h]; rfl)
      have hpos : 0 < (openL f g).length := by omega
      clear hz
      go_enter Try.func58, Try.ntmps58
      go_wp2_with (first
        | (refine wpList_load_pool _ rfl ?_ _ rfl f g T0 ?_; · rfl)
        | (go_at_call 30; go_fit (CG _); rintro e w' ⟨rfl, hb⟩; (try replace hb := below_undr' hb); replace T0 := T0.below hb; replace hB := hB.trans (hb.mono hB.size))
        | (go_at_call 61; go_fit (CL _); rintro e w' ⟨v, rfl, ⟨a1, c1, rfl⟩, hI, hb⟩; (try replace hb := below_undr' hb); replace T0 := T0.below hb; replace hB := hB.trans (hb.mono hB.size))
        | (go_at_call 60; refine (drawn_any _ _ _ d _ hI hpos hd (by omega)).mono ?_; rintro e w' ⟨rfl, rfl⟩))
      go_ret2
      exact ⟨by rw [H1.out, H2.out]; rfl, hB⟩
set_option maxRecDepth 10000 in
set_option maxHeartbeats 4000000 in
theorem pickr_any (f : Nat → Int) (g : Nat → Bool) (d : Int) (hd : (Lit.int .i64 d).wf = true) (w : World) :
    Calls Try.prog 43 #[plv f g, .int .i64 d] w fun e w' => e = .returned (.tuple #[.int .i64 (pickK f g d), .int .i64 (pickE f g)]) ∧ Below w.heap.size w w' := by
  obtain ⟨i0, hi, hz0, hz1, hz2⟩ := info_parts info_int
  have hB : Below w.heap.size w (w.alloc (.cells (pc f g) 26)) := (Below.refl _ _).alloc (Nat.le_refl _) _
  have T0 : PRow (w.alloc (.cells (pc f g) 26)) w.heap.size (pc f g) := PRow.new _ _
  have CG := fun w => goodr_any f g w
  have C0 := fun w => freer_any f g 0 (by omega) w
  have C1 := fun w => freer_any f g 1 (by omega) w
  have C2 := fun w => freer_any f g 2 (by omega) w
  have hl := openL_len f g
  unfold plv at *
  cases hgp : goodP f with
  | false =>
    have H1 : Hid (pickK f g d = 0) := by show _ = _; unfold pickK; rw [if_neg (by simp [hgp])]
    have H2 : Hid (pickE f g = 2) := by show _ = _; unfold pickE; rw [if_neg (by simp [hgp])]
    rw [hgp] at CG
    go_enter Try.func43, Try.ntmps43
    go_wp2_with (first | (refine wpList_load_pool _ rfl ?_ _ rfl f g T0 ?_; · rfl) | (go_at_call 35; go_fit (CG _); rintro e w' ⟨rfl, hb⟩; (try replace hb := below_undr' hb); replace T0 := T0.below hb; replace hB := hB.trans (hb.mono hB.size)))
    go_ret2
    exact ⟨by rw [H1.out, H2.out]; rfl, hB⟩
  | true =>
    rw [hgp] at CG
    have HGP : Hid (goodP f = true) := hgp
    clear hgp
    go_enter Try.func43, Try.ntmps43
    go_wp2_with (first | (refine wpList_load_pool _ rfl ?_ _ rfl f g T0 ?_; · rfl) | (go_at_call 35; go_fit (CG _); rintro e w' ⟨rfl, hb⟩; (try replace hb := below_undr' hb); replace T0 := T0.below hb; replace hB := hB.trans (hb.mono hB.size)))
    go_loopw [6, 11] (fun v i wr => ∃ (k : Nat) (ao : Option Addr) (cv : Nat), k ≤ 3 ∧ i = .int .i64 k ∧ v = .slice ao (openTo f g k).length cv ∧ Ints wr (w.heap.size + 1) v (openTo f g k) ∧ PRow wr w.heap.size (pc f g) ∧ Below w.heap.size w wr) (fun _ i _ => 3 - (intOf i).toNat)
    case atStart => exact ⟨0, none, 0, by omega, rfl, rfl, Ints.nil _ _, T0, hB⟩
    case round =>
      clear T0 hB
      obtain ⟨k, ao, cv, hk, rfl, rfl, hown, T0, hB⟩ := hrel
      have hsize := hB.size
      have hlt := T0.lt
      rcases (show k = 0 ∨ k = 1 ∨ k = 2 ∨ k = 3 by omega) with rfl | rfl | rfl | rfl
      · have hol := openTo_len f g 0
        have d0 := T0.dr 0 (by omega)
        by_cases hz : 0 < (freeL (rowF f 0)).length
        · cases hg : g 0 with
          | true =>
            have HS : Hid (openTo f g 1 = openTo f g 0) := by show _ = _; rw [openTo_step, if_neg (by simp [hg])]; simp
            have hx : (0 : Int) < ((freeL (rowF f 0)).length : Int) := by omega
            clear hz
            rw [hg] at d0
            go_wp2_with (first | (refine wpList_load_pool _ rfl ?_ _ rfl f g T0 ?_; · rfl) | (go_at_call 53; go_fit (C0 _); rintro e w' ⟨v, rfl, ⟨a1, c1, rfl⟩, _, hb⟩; (try replace hb := below_undr' hb); replace hown := Ints.kept hown hb; replace T0 := T0.below hb; replace hB := hB.trans (hb.mono hB.size); replace hsize := hB.size; replace hlt := T0.lt; replace d0 := T0.dr 0 (by omega); rw [hg] at d0))
            go_roundw
            case rel =>
              first
                | exact ⟨1, ao, cv, by omega, rfl, by rw [HS.out], by rw [HS.out]; exact hown, T0, hB⟩
                | ((repeat apply Exists.intro); exact ⟨⟨1, ao, cv, by omega, rfl, by rw [HS.out], by rw [HS.out]; exact hown, T0, hB⟩, rfl⟩)
                | ((repeat apply Exists.intro); exact ⟨⟨1, ao, cv, by omega, rfl, by rw [HS.out], by rw [HS.out]; exact hown, T0, hB⟩, rfl, rfl⟩)
                | ((repeat apply Exists.intro); exact ⟨⟨1, ao, cv, by omega, rfl, by rw [HS.out], by rw [HS.out]; exact hown, T0, hB⟩, rfl, rfl, rfl⟩)
            case measure => simp [intOf]
          | false =>
            have HS : Hid (openTo f g 1 = openTo f g 0 ++ [0]) := by show _ = _; rw [openTo_step, if_pos (by simp [hg, hz])]
            have hx : (0 : Int) < ((freeL (rowF f 0)).length : Int) := by omega
            clear hz
            rw [hg] at d0
            go_wp2_with (first
              | (refine wpList_load_pool _ rfl ?_ _ rfl f g T0 ?_; · rfl)
              | (go_at_call 53; go_fit (C0 _); rintro e w' ⟨v, rfl, ⟨a1, c1, rfl⟩, _, hb⟩; (try replace hb := below_undr' hb); replace hown := Ints.kept hown hb; replace T0 := T0.below hb; replace hB := hB.trans (hb.mono hB.size); replace hsize := hB.size; replace hlt := T0.lt; replace d0 := T0.dr 0 (by omega); rw [hg] at d0)
              | (at_builtin; refine wpList_append_own _ rfl _ _ 96 rfl (w.heap.size + 1) 3 i0 (.int .i64 0) 1 8 Try.underlying96 hi hz0 hz1 hz2 rfl (by decide) _ _ _ rfl (hown.alloc _) _ 1 1 [.int .i64 0] rfl rfl (one_new _ _ _) (fun x hx => by simp at hx; subst hx; rfl) (by unfold maxLen; omega) (by omega) (by simp; omega) ?_; intro v' w3 hown' hgrow3 hnil3))
            go_roundw
            case rel =>
              have hi' : Ints w3 (w.heap.size + 1) v' (openTo f g 1) := by
                unfold Ints ic at *
                rw [HS.out, List.length_append, List.map_append]
                exact hown'
              obtain ⟨a3, c3, e3⟩ := hi'.len
              have hb4 := Ints.grown (l := openTo f g 0) (hown.alloc _) ((Below.refl _ _).alloc (by omega) _) (by simp; omega) hgrow3
              have hT := T0.keep hb4 (by omega)
              have hb3 := hB.trans (hb4.mono (by omega))
              first
                | exact ⟨1, a3, c3, by omega, rfl, e3, hi', hT, hb3⟩
                | ((repeat apply Exists.intro); exact ⟨⟨1, a3, c3, by omega, rfl, e3, hi', hT, hb3⟩, rfl⟩)
                | ((repeat apply Exists.intro); exact ⟨⟨1, a3, c3, by omega, rfl, e3, hi', hT, hb3⟩, rfl, rfl⟩)
                | ((repeat apply Exists.intro); exact ⟨⟨1, a3, c3, by omega, rfl, e3, hi', hT, hb3⟩, rfl, rfl, rfl⟩)
            case measure => simp [intOf]
        · have HS : Hid (openTo f g 1 = openTo f g 0) := by show _ = _; rw [openTo_step, if_neg (by rw [Bool.and_eq_true]; rintro ⟨_, h⟩; exact hz (of_decide_eq_true h))]; simp
          have hx : ((freeL (rowF f 0)).length : Int) = 0 := by omega
          clear hz
          cases hg : g 0 <;>
          · rw [hg] at d0
            go_wp2_with (first | (refine wpList_load_pool _ rfl ?_ _ rfl f g T0 ?_; · rfl) | (go_at_call 53; go_fit (C0 _); rintro e w' ⟨v, rfl, ⟨a1, c1, rfl⟩, _, hb⟩; (try replace hb := below_undr' hb); replace hown := Ints.kept hown hb; replace T0 := T0.below hb; replace hB := hB.trans (hb.mono hB.size); replace hsize := hB.size; replace hlt := T0.lt; replace d0 := T0.dr 0 (by omega); rw [hg] at d0))
            go_roundw
            case rel =>
              first
                | exact ⟨1, ao, cv, by omega, rfl, by rw [HS.out], by rw [HS.out]; exact hown, T0, hB⟩
                | ((repeat apply Exists.intro); exact ⟨⟨1, ao, cv, by omega, rfl, by rw [HS.out], by rw [HS.out]; exact hown, T0, hB⟩, rfl⟩)
                | ((repeat apply Exists.intro); exact ⟨⟨1, ao, cv, by omega, rfl, by rw [HS.out], by rw [HS.out]; exact hown, T0, hB⟩, rfl, rfl⟩)
                | ((repeat apply Exists.intro); exact ⟨⟨1, ao, cv, by omega, rfl, by rw [HS.out], by rw [HS.out]; exact hown, T0, hB⟩, rfl, rfl, rfl⟩)
            case measure => simp [intOf]
      · have hol := openTo_len f g 1
        have d0 := T0.dr 1 (by omega)
        by_cases hz : 0 < (freeL (rowF f 1)).length
        · cases hg : g 1 with
          | true =>
            have HS : Hid (openTo f g 2 = openTo f g 1) := by show _ = _; rw [openTo_step, if_neg (by simp [hg])]; simp
            have hx : (0 : Int) < ((freeL (rowF f 1)).length : Int) := by omega
            clear hz
            rw [hg] at d0
            go_wp2_with (first | (refine wpList_load_pool _ rfl ?_ _ rfl f g T0 ?_; · rfl) | (go_at_call 53; go_fit (C1 _); rintro e w' ⟨v, rfl, ⟨a1, c1, rfl⟩, _, hb⟩; (try replace hb := below_undr' hb); replace hown := Ints.kept hown hb; replace T0 := T0.below hb; replace hB := hB.trans (hb.mono hB.size); replace hsize := hB.size; replace hlt := T0.lt; replace d0 := T0.dr 1 (by omega); rw [hg] at d0))
            go_roundw
            case rel =>
              first
                | exact ⟨2, ao, cv, by omega, rfl, by rw [HS.out], by rw [HS.out]; exact hown, T0, hB⟩
                | ((repeat apply Exists.intro); exact ⟨⟨2, ao, cv, by omega, rfl, by rw [HS.out], by rw [HS.out]; exact hown, T0, hB⟩, rfl⟩)
                | ((repeat apply Exists.intro); exact ⟨⟨2, ao, cv, by omega, rfl, by rw [HS.out], by rw [HS.out]; exact hown, T0, hB⟩, rfl, rfl⟩)
                | ((repeat apply Exists.intro); exact ⟨⟨2, ao, cv, by omega, rfl, by rw [HS.out], by rw [HS.out]; exact hown, T0, hB⟩, rfl, rfl, rfl⟩)
            case measure => simp [intOf]
          | false =>
            have HS : Hid (openTo f g 2 = openTo f g 1 ++ [1]) := by show _ = _; rw [openTo_step, if_pos (by simp [hg, hz])]
            have hx : (0 : Int) < ((freeL (rowF f 1)).length : Int) := by omega
            clear hz
            rw [hg] at d0
            go_wp2_with (first
              | (refine wpList_load_pool _ rfl ?_ _ rfl f g T0 ?_; · rfl)
              | (go_at_call 53; go_fit (C1 _); rintro e w' ⟨v, rfl, ⟨a1, c1, rfl⟩, _, hb⟩; (try replace hb := below_undr' hb); replace hown := Ints.kept hown hb; replace T0 := T0.below hb; replace hB := hB.trans (hb.mono hB.size); replace hsize := hB.size; replace hlt := T0.lt; replace d0 := T0.dr 1 (by omega); rw [hg] at d0)
              | (at_builtin; refine wpList_append_own _ rfl _ _ 96 rfl (w.heap.size + 1) 3 i0 (.int .i64 0) 1 8 Try.underlying96 hi hz0 hz1 hz2 rfl (by decide) _ _ _ rfl (hown.alloc _) _ 1 1 [.int .i64 1] rfl rfl (one_new _ _ _) (fun x hx => by simp at hx; subst hx; rfl) (by unfold maxLen; omega) (by omega) (by simp; omega) ?_; intro v' w3 hown' hgrow3 hnil3))
            go_roundw
            case rel =>
              have hi' : Ints w3 (w.heap.size + 1) v' (openTo f g 2) := by
                unfold Ints ic at *
                rw [HS.out, List.length_append, List.map_append]
                exact hown'
              obtain ⟨a3, c3, e3⟩ := hi'.len
              have hb4 := Ints.grown (l := openTo f g 1) (hown.alloc _) ((Below.refl _ _).alloc (by omega) _) (by simp; omega) hgrow3
              have hT := T0.keep hb4 (by omega)
              have hb3 := hB.trans (hb4.mono (by omega))
              first
                | exact ⟨2, a3, c3, by omega, rfl, e3, hi', hT, hb3⟩
                | ((repeat apply Exists.intro); exact ⟨⟨2, a3, c3, by omega, rfl, e3, hi', hT, hb3⟩, rfl⟩)
                | ((repeat apply Exists.intro); exact ⟨⟨2, a3, c3, by omega, rfl, e3, hi', hT, hb3⟩, rfl, rfl⟩)
                | ((repeat apply Exists.intro); exact ⟨⟨2, a3, c3, by omega, rfl, e3, hi', hT, hb3⟩, rfl, rfl, rfl⟩)
            case measure => simp [intOf]
        · have HS : Hid (openTo f g 2 = openTo f g 1) := by show _ = _; rw [openTo_step, if_neg (by rw [Bool.and_eq_true]; rintro ⟨_, h⟩; exact hz (of_decide_eq_true h))]; simp
          have hx : ((freeL (rowF f 1)).length : Int) = 0 := by omega
          clear hz
          cases hg : g 1 <;>
          · rw [hg] at d0
            go_wp2_with (first | (refine wpList_load_pool _ rfl ?_ _ rfl f g T0 ?_; · rfl) | (go_at_call 53; go_fit (C1 _); rintro e w' ⟨v, rfl, ⟨a1, c1, rfl⟩, _, hb⟩; (try replace hb := below_undr' hb); replace hown := Ints.kept hown hb; replace T0 := T0.below hb; replace hB := hB.trans (hb.mono hB.size); replace hsize := hB.size; replace hlt := T0.lt; replace d0 := T0.dr 1 (by omega); rw [hg] at d0))
            go_roundw
            case rel =>
              first
                | exact ⟨2, ao, cv, by omega, rfl, by rw [HS.out], by rw [HS.out]; exact hown, T0, hB⟩
                | ((repeat apply Exists.intro); exact ⟨⟨2, ao, cv, by omega, rfl, by rw [HS.out], by rw [HS.out]; exact hown, T0, hB⟩, rfl⟩)
                | ((repeat apply Exists.intro); exact ⟨⟨2, ao, cv, by omega, rfl, by rw [HS.out], by rw [HS.out]; exact hown, T0, hB⟩, rfl, rfl⟩)
                | ((repeat apply Exists.intro); exact ⟨⟨2, ao, cv, by omega, rfl, by rw [HS.out], by rw [HS.out]; exact hown, T0, hB⟩, rfl, rfl, rfl⟩)
            case measure => simp [intOf]
      · have hol := openTo_len f g 2
        have d0 := T0.dr 2 (by omega)
        by_cases hz : 0 < (freeL (rowF f 2)).length
        · cases hg : g 2 with
          | true =>
            have HS : Hid (openTo f g 3 = openTo f g 2) := by show _ = _; rw [openTo_step, if_neg (by simp [hg])]; simp
            have hx : (0 : Int) < ((freeL (rowF f 2)).length : Int) := by omega
            clear hz
            rw [hg] at d0
            go_wp2_with (first | (refine wpList_load_pool _ rfl ?_ _ rfl f g T0 ?_; · rfl) | (go_at_call 53; go_fit (C2 _); rintro e w' ⟨v, rfl, ⟨a1, c1, rfl⟩, _, hb⟩; (try replace hb := below_undr' hb); replace hown := Ints.kept hown hb; replace T0 := T0.below hb; replace hB := hB.trans (hb.mono hB.size); replace hsize := hB.size; replace hlt := T0.lt; replace d0 := T0.dr 2 (by omega); rw [hg] at d0))
            go_roundw
            case rel =>
              first
                | exact ⟨3, ao, cv, by omega, rfl, by rw [HS.out], by rw [HS.out]; exact hown, T0, hB⟩
                | ((repeat apply Exists.intro); exact ⟨⟨3, ao, cv, by omega, rfl, by rw [HS.out], by rw [HS.out]; exact hown, T0, hB⟩, rfl⟩)
                | ((repeat apply Exists.intro); exact ⟨⟨3, ao, cv, by omega, rfl, by rw [HS.out], by rw [HS.out]; exact hown, T0, hB⟩, rfl, rfl⟩)
                | ((repeat apply Exists.intro); exact ⟨⟨3, ao, cv, by omega, rfl, by rw [HS.out], by rw [HS.out]; exact hown, T0, hB⟩, rfl, rfl, rfl⟩)
            case measure => simp [intOf]
          | false =>
            have HS : Hid (openTo f g 3 = openTo f g 2 ++ [2]) := by show _ = _; rw [openTo_step, if_pos (by simp [hg, hz])]
            have hx : (0 : Int) < ((freeL (rowF f 2)).length : Int) := by omega
            clear hz
            rw [hg] at d0
            go_wp2_with (first
              | (refine wpList_load_pool _ rfl ?_ _ rfl f g T0 ?_; · rfl)
              | (go_at_call 53; go_fit (C2 _); rintro e w' ⟨v, rfl, ⟨a1, c1, rfl⟩, _, hb⟩; (try replace hb := below_undr' hb); replace hown := Ints.kept hown hb; replace T0 := T0.below hb; replace hB := hB.trans (hb.mono hB.size); replace hsize := hB.size; replace hlt := T0.lt; replace d0 := T0.dr 2 (by omega); rw [hg] at d0)
              | (at_builtin; refine wpList_append_own _ rfl _ _ 96 rfl (w.heap.size + 1) 3 i0 (.int .i64 0) 1 8 Try.underlying96 hi hz0 hz1 hz2 rfl (by decide) _ _ _ rfl (hown.alloc _) _ 1 1 [.int .i64 2] rfl rfl (one_new _ _ _) (fun x hx => by simp at hx; subst hx; rfl) (by unfold maxLen; omega) (by omega) (by simp; omega) ?_; intro v' w3 hown' hgrow3 hnil3))
            go_roundw
            case rel =>
              have hi' : Ints w3 (w.heap.size + 1) v' (openTo f g 3) := by
                unfold Ints ic at *
                rw [HS.out, List.length_append, List.map_append]
                exact hown'
              obtain ⟨a3, c3, e3⟩ := hi'.len
              have hb4 := Ints.grown (l := openTo f g 2) (hown.alloc _) ((Below.refl _ _).alloc (by omega) _) (by simp; omega) hgrow3
              have hT := T0.keep hb4 (by omega)
              have hb3 := hB.trans (hb4.mono (by omega))
              first
                | exact ⟨3, a3, c3, by omega, rfl, e3, hi', hT, hb3⟩
                | ((repeat apply Exists.intro); exact ⟨⟨3, a3, c3, by omega, rfl, e3, hi', hT, hb3⟩, rfl⟩)
                | ((repeat apply Exists.intro); exact ⟨⟨3, a3, c3, by omega, rfl, e3, hi', hT, hb3⟩, rfl, rfl⟩)
                | ((repeat apply Exists.intro); exact ⟨⟨3, a3, c3, by omega, rfl, e3, hi', hT, hb3⟩, rfl, rfl, rfl⟩)
            case measure => simp [intOf]
        · have HS : Hid (openTo f g 3 = openTo f g 2) := by show _ = _; rw [openTo_step, if_neg (by rw [Bool.and_eq_true]; rintro ⟨_, h⟩; exact hz (of_decide_eq_true h))]; simp
          have hx : ((freeL (rowF f 2)).length : Int) = 0 := by omega
          clear hz
          cases hg : g 2 <;>
          · rw [hg] at d0
            go_wp2_with (first | (refine wpList_load_pool _ rfl ?_ _ rfl f g T0 ?_; · rfl) | (go_at_call 53; go_fit (C2 _); rintro e w' ⟨v, rfl, ⟨a1, c1, rfl⟩, _, hb⟩; (try replace hb := below_undr' hb); replace hown := Ints.kept hown hb; replace T0 := T0.below hb; replace hB := hB.trans (hb.mono hB.size); replace hsize := hB.size; replace hlt := T0.lt; replace d0 := T0.dr 2 (by omega); rw [hg] at d0))
            go_roundw
            case rel =>
              first
                | exact ⟨3, ao, cv, by omega, rfl, by rw [HS.out], by rw [HS.out]; exact hown, T0, hB⟩
                | ((repeat apply Exists.intro); exact ⟨⟨3, ao, cv, by omega, rfl, by rw [HS.out], by rw [HS.out]; exact hown, T0, hB⟩, rfl⟩)
                | ((repeat apply Exists.intro); exact ⟨⟨3, ao, cv, by omega, rfl, by rw [HS.out], by rw [HS.out]; exact hown, T0, hB⟩, rfl, rfl⟩)
                | ((repeat apply Exists.intro); exact ⟨⟨3, ao, cv, by omega, rfl, by rw [HS.out], by rw [HS.out]; exact hown, T0, hB⟩, rfl, rfl, rfl⟩)
            case measure => simp [intOf]
      · by_cases hz : (openL f g).length = 0
        · have H1 : Hid (pickK f g d = 0) := by show _ = _; unfold pickK; rw [if_pos HGP.out, if_pos hz]
          have H2 : Hid (pickE f g = 10) := by show _ = _; unfold pickE; rw [if_pos HGP.out, if_pos hz]
          have hz' : ((openTo f g 3).length : Int) = 0 := by unfold openL at hz; omega
          clear hz
          go_wp2
          go_ret2
          exact ⟨by rw [H1.out, H2.out]; rfl, hB⟩
        · have H1 : Hid (pickK f g d = ((drawnL (openL f g) d : Nat) : Int)) := by show _ = _; unfold pickK; rw [if_pos HGP.out, if_neg hz]
          have H2 : Hid (pickE f g = 0) := by show _ = _; unfold pickE; rw [if_pos HGP.out, if_neg hz]
          have hpos : 0 < (openTo f g 3).length := by unfold openL at hz; omega
          have hz' : (((openTo f g 3).length : Int) == 0) = false := by simp; intro h; rw [h] at hpos; simp at hpos
          clear hz
          obtain ⟨b1, cap1, e1, hc⟩ := hown.at hpos
          have e2 : ao = some ⟨b1, 0, none⟩ := by injection e1
          subst e2
          obtain ⟨q0, q1⟩ := at_bd d (openTo f g 3).length hpos
          have hq : (d % ((openTo f g 3).length : Int)).toNat < (openTo f g 3).length := by omega
          have hcell := hc _ hq
          have HD : Hid (drawnL (openL f g) d = (openTo f g 3)[(d % ((openTo f g 3).length : Int)).toNat]) := by
            show drawnL (openTo f g 3) d = _
            unfold drawnL
            rw [List.getD_eq_getElem?_getD, List.getElem?_eq_getElem hq]; rfl
          generalize (openTo f g 3)[(d % ((openTo f g 3).length : Int)).toNat] = x at *
          have CC := fun w => chosen_any d (openTo f g 3).length w hpos (by have := openL_len f g; unfold openL at this; omega)
          clear hc
          go_wp2_with (go_at_call 54; go_fit (CC _); rintro e w' ⟨rfl, rfl⟩)
          go_ret2
          exact ⟨by rw [H1.out, H2.out, HD.out]; rfl, hB⟩

end Go.Proofs.Ytmdijjbkjcnbpaa
