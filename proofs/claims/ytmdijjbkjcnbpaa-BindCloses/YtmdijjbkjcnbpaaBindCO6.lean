/-
  Of what BindCloses, BindOpens stands on: part 6.
-/
import Derived.Test.YtmdijjbkjcnbpaaBindCO5
namespace Go.Proofs.Ytmdijjbkjcnbpaa
open Go.ChangeShapes Go.WideShapes Go.ChangeAt Go.RowKit
set_option linter.unusedSimpArgs false
set_option linter.unusedVariables false

theorem PRow.row0 {w : World} {b : Nat} {f : Nat → Int} {g : Nat → Bool} (h : PRow w b (pc f g)) : w.rangeAt b 0 [.int .i64 (rowF f 0 0), .int .i64 (rowF f 0 1), .int .i64 (rowF f 0 2), .int .i64 (rowF f 0 3), .int .i64 (rowF f 0 4), .int .i64 (rowF f 0 5)] := by
  intro j v hv
  match j, hv with
  | 0, hv => obtain rfl := Option.some.inj hv; exact h.own 0 (by omega)
  | 1, hv => obtain rfl := Option.some.inj hv; exact h.own 1 (by omega)
  | 2, hv => obtain rfl := Option.some.inj hv; exact h.own 2 (by omega)
  | 3, hv => obtain rfl := Option.some.inj hv; exact h.own 3 (by omega)
  | 4, hv => obtain rfl := Option.some.inj hv; exact h.own 4 (by omega)
  | 5, hv => obtain rfl := Option.some.inj hv; exact h.own 5 (by omega)
theorem PRow.row1 {w : World} {b : Nat} {f : Nat → Int} {g : Nat → Bool} (h : PRow w b (pc f g)) : w.rangeAt b 6 [.int .i64 (rowF f 1 0), .int .i64 (rowF f 1 1), .int .i64 (rowF f 1 2), .int .i64 (rowF f 1 3), .int .i64 (rowF f 1 4), .int .i64 (rowF f 1 5)] := by
  intro j v hv
  match j, hv with
  | 0, hv => obtain rfl := Option.some.inj hv; exact h.own 6 (by omega)
  | 1, hv => obtain rfl := Option.some.inj hv; exact h.own 7 (by omega)
  | 2, hv => obtain rfl := Option.some.inj hv; exact h.own 8 (by omega)
  | 3, hv => obtain rfl := Option.some.inj hv; exact h.own 9 (by omega)
  | 4, hv => obtain rfl := Option.some.inj hv; exact h.own 10 (by omega)
  | 5, hv => obtain rfl := Option.some.inj hv; exact h.own 11 (by omega)
theorem PRow.row2 {w : World} {b : Nat} {f : Nat → Int} {g : Nat → Bool} (h : PRow w b (pc f g)) : w.rangeAt b 12 [.int .i64 (rowF f 2 0), .int .i64 (rowF f 2 1), .int .i64 (rowF f 2 2), .int .i64 (rowF f 2 3), .int .i64 (rowF f 2 4), .int .i64 (rowF f 2 5)] := by
  intro j v hv
  match j, hv with
  | 0, hv => obtain rfl := Option.some.inj hv; exact h.own 12 (by omega)
  | 1, hv => obtain rfl := Option.some.inj hv; exact h.own 13 (by omega)
  | 2, hv => obtain rfl := Option.some.inj hv; exact h.own 14 (by omega)
  | 3, hv => obtain rfl := Option.some.inj hv; exact h.own 15 (by omega)
  | 4, hv => obtain rfl := Option.some.inj hv; exact h.own 16 (by omega)
  | 5, hv => obtain rfl := Option.some.inj hv; exact h.own 17 (by omega)

/-- Take: the error, which block, and the owners behind it. -/
def takeE (f : Nat → Int) (g : Nat → Bool) (s a : Int) : Int := if goodP f = true then (if inR a 3 = true ∧ inR s 8 = true then (if g a.toNat = true then 9 else if (freeL (rowF f a.toNat)).length = 0 then 10 else 0) else 7) else 2
def takeK (f : Nat → Int) (g : Nat → Bool) (s a d : Int) : Nat := if takeE f g s a = 0 then drawnL (freeL (rowF f a.toNat)) d else 0
def takeF (f : Nat → Int) (g : Nat → Bool) (s a d : Int) : Nat → Int := if takeE f g s a = 0 then upd f (6 * a.toNat + takeK f g s a d) (s + 1) else f
theorem take_no (f : Nat → Int) (g : Nat → Bool) (s a d e : Int) (h : takeE f g s a = e) (he : e ≠ 0) : takeK f g s a d = 0 ∧ takeF f g s a d = f := by
  unfold takeF takeK; rw [if_neg (by omega), if_neg (by omega)]; exact ⟨rfl, rfl⟩
theorem take_yes (f : Nat → Int) (g : Nat → Bool) (s d : Int) (a : Nat) (h : takeE f g s a = 0) : takeK f g s a d = drawnL (freeL (rowF f a)) d ∧ takeF f g s a d = upd f (6 * a + drawnL (freeL (rowF f a)) d) (s + 1) := by
  have e : takeK f g s a d = drawnL (freeL (rowF f a)) d := by unfold takeK; rw [if_pos h, Int.toNat_natCast]
  refine ⟨e, ?_⟩
  unfold takeF; rw [if_pos h, e, Int.toNat_natCast]
theorem takeE_bad {f : Nat → Int} {g : Nat → Bool} {s a : Int} (h : goodP f = false) : takeE f g s a = 2 := by unfold takeE; rw [if_neg (by simp [h])]
theorem takeE_none {f : Nat → Int} {g : Nat → Bool} {s a : Int} (h : goodP f = true) (h1 : ¬ (inR a 3 = true ∧ inR s 8 = true)) : takeE f g s a = 7 := by unfold takeE; rw [if_pos h, if_neg h1]
theorem takeE_dr {f : Nat → Int} {g : Nat → Bool} {s : Int} {a : Nat} (h : goodP f = true) (h1 : a < 3) (h2 : inR s 8 = true) (h3 : g a = true) : takeE f g s a = 9 := by
  unfold takeE; rw [if_pos h, if_pos ⟨inR_true (by omega) (by omega), h2⟩, Int.toNat_natCast, if_pos h3]
theorem takeE_down {f : Nat → Int} {g : Nat → Bool} {s : Int} {a : Nat} (h : goodP f = true) (h1 : a < 3) (h2 : inR s 8 = true) (h3 : g a = false) (h4 : (freeL (rowF f a)).length = 0) : takeE f g s a = 10 := by
  unfold takeE; rw [if_pos h, if_pos ⟨inR_true (by omega) (by omega), h2⟩, Int.toNat_natCast, if_neg (by simp [h3]), if_pos h4]
theorem takeE_ok {f : Nat → Int} {g : Nat → Bool} {s : Int} {a : Nat} (h : goodP f = true) (h1 : a < 3) (h2 : inR s 8 = true) (h3 : g a = false) (h4 : (freeL (rowF f a)).length ≠ 0) : takeE f g s a = 0 := by
  unfold takeE; rw [if_pos h, if_pos ⟨inR_true (by omega) (by omega), h2⟩, Int.toNat_natCast, if_neg (by simp [h3]), if_neg h4]
/-- what Take hands back. -/
def takeS (f : Nat → Int) (g : Nat → Bool) (s a d : Int) : Value := .tuple #[plv (takeF f g s a d) g, .int .i64 ((takeK f g s a d : Nat) : Int), .int .i64 (takeE f g s a)]
theorem takeS_no {f : Nat → Int} {g : Nat → Bool} {s a d e : Int} (h : takeE f g s a = e) (he : e ≠ 0) : takeS f g s a d = .tuple #[plv f g, .int .i64 0, .int .i64 e] := by
  obtain ⟨h1, h2⟩ := take_no f g s a d e h he
  unfold takeS; rw [h1, h2, h]; rfl
theorem takeS_yes {f : Nat → Int} {g : Nat → Bool} {s d : Int} {a : Nat} (h : takeE f g s a = 0) : takeS f g s a d = .tuple #[plv (upd f (6 * a + drawnL (freeL (rowF f a)) d) (s + 1)) g, .int .i64 ((drawnL (freeL (rowF f a)) d : Nat) : Int), .int .i64 0] := by
  obtain ⟨h1, h2⟩ := take_yes f g s d a h
  unfold takeS; rw [h1, h2, h]
set_option maxRecDepth 10000 in
set_option maxHeartbeats 4000000 in
theorem take_anyP (f : Nat → Int) (g : Nat → Bool) (s a d : Int) (hd : (Lit.int .i64 d).wf = true) (w : World) :
    Calls Try.prog 52 #[plv f g, .int .i64 s, .int .i64 a, .int .i64 d] w fun e w' => e = .returned (takeS f g s a d) ∧ Below w.heap.size w w' := by
  have T0 : PRow ((w.alloc (.cells (pc f g) 26)).alloc (.cells #[.int .i64 0, .int .i64 0, .int .i64 0, .int .i64 0, .int .i64 0, .int .i64 0, .int .i64 0, .int .i64 0, .int .i64 0, .int .i64 0, .int .i64 0, .int .i64 0, .int .i64 0, .int .i64 0, .int .i64 0, .int .i64 0, .int .i64 0, .int .i64 0, .bool false, .bool false, .bool false] 26)) w.heap.size (pc f g) := (PRow.new _ _).alloc _
  have T8 : PRow ((w.alloc (.cells (pc f g) 26)).alloc (.cells #[.int .i64 0, .int .i64 0, .int .i64 0, .int .i64 0, .int .i64 0, .int .i64 0, .int .i64 0, .int .i64 0, .int .i64 0, .int .i64 0, .int .i64 0, .int .i64 0, .int .i64 0, .int .i64 0, .int .i64 0, .int .i64 0, .int .i64 0, .int .i64 0, .bool false, .bool false, .bool false] 26)) (w.heap.size + 1) (pc (fun _ => 0) (fun _ => false)) := by
    have h8 : PRow ((w.alloc (.cells (pc f g) 26)).alloc (.cells #[.int .i64 0, .int .i64 0, .int .i64 0, .int .i64 0, .int .i64 0, .int .i64 0, .int .i64 0, .int .i64 0, .int .i64 0, .int .i64 0, .int .i64 0, .int .i64 0, .int .i64 0, .int .i64 0, .int .i64 0, .int .i64 0, .int .i64 0, .int .i64 0, .bool false, .bool false, .bool false] 26)) (w.alloc (.cells (pc f g) 26)).heap.size #[.int .i64 0, .int .i64 0, .int .i64 0, .int .i64 0, .int .i64 0, .int .i64 0, .int .i64 0, .int .i64 0, .int .i64 0, .int .i64 0, .int .i64 0, .int .i64 0, .int .i64 0, .int .i64 0, .int .i64 0, .int .i64 0, .int .i64 0, .int .i64 0, .bool false, .bool false, .bool false] := PRow.new _ _
    have e8 : (w.alloc (.cells (pc f g) 26)).heap.size = w.heap.size + 1 := by simp
    rw [e8] at h8
    exact h8
  have hB : Below w.heap.size w ((w.alloc (.cells (pc f g) 26)).alloc (.cells #[.int .i64 0, .int .i64 0, .int .i64 0, .int .i64 0, .int .i64 0, .int .i64 0, .int .i64 0, .int .i64 0, .int .i64 0, .int .i64 0, .int .i64 0, .int .i64 0, .int .i64 0, .int .i64 0, .int .i64 0, .int .i64 0, .int .i64 0, .int .i64 0, .bool false, .bool false, .bool false] 26)) := ((Below.refl _ _).alloc (Nat.le_refl _) _).alloc (by simp) _
  have CG := fun w => good_any f g w
  have CA := fun w => isAddress_any a w
  have CS := fun w => isSubscriber_any s w
  unfold plv at CG
  unfold plv
  cases hgp : goodP f with
  | false =>
    have HS : Hid (takeS f g s a d = _) := takeS_no (takeE_bad hgp) (by omega)
    rw [hgp] at CG
    go_enter Try.func52, Try.ntmps52
    go_wp2_with (first
          | (refine wpList_load_pool _ rfl ?_ _ rfl f g T0 ?_; · rfl)
          | (refine wpList_store_pool rfl _ _ rfl _ rfl f g rfl _ T8 rfl ?_; intro w8 T8 hs8 hk8 hb8; replace T0 := hk8 _ _ (by omega) T0; replace hB := hb8 _ _ (by omega) hB)
          | (go_at_call 30; go_fit (CG _); rintro e w' ⟨rfl, hb⟩; (try replace hb := below_undr' hb); replace T0 := T0.below hb; replace T8 := T8.below hb; replace hB := hB.trans (hb.mono hB.size)))
    ((try simp only [Exit.inBlock, Exit.then]); refine bodyPost_ret (results_pool3 rfl _ _ _ _ _ rfl T8) rfl ⟨?_, hB⟩)
    rw [HS.out]; rfl
  | true =>
    rw [hgp] at CG
    by_cases hin : inR a 3 = true ∧ inR s 8 = true
    rotate_left
    · have HS : Hid (takeS f g s a d = _) := takeS_no (takeE_none hgp hin) (by omega)
      clear hgp
      cases ha : inR a 3 with
      | false =>
        rw [ha] at CA
        go_enter Try.func52, Try.ntmps52
        go_wp2_with (first
          | (refine wpList_load_pool _ rfl ?_ _ rfl f g T0 ?_; · rfl)
          | (refine wpList_store_pool rfl _ _ rfl _ rfl f g rfl _ T8 rfl ?_; intro w8 T8 hs8 hk8 hb8; replace T0 := hk8 _ _ (by omega) T0; replace hB := hb8 _ _ (by omega) hB)
          | (go_at_call 30; go_fit (CG _); rintro e w' ⟨rfl, hb⟩; (try replace hb := below_undr' hb); replace T0 := T0.below hb; replace T8 := T8.below hb; replace hB := hB.trans (hb.mono hB.size))
          | (go_at_call 55; go_fit (CA _); rintro e w' ⟨rfl, rfl⟩))
        ((try simp only [Exit.inBlock, Exit.then]); refine bodyPost_ret (results_pool3 rfl _ _ _ _ _ rfl T8) rfl ⟨?_, hB⟩)
        rw [HS.out]; rfl
      | true =>
        have hs : inR s 8 = false := by
          cases h : inR s 8 with
          | false => rfl
          | true => exact absurd ⟨ha, h⟩ hin
        rw [ha] at CA
        rw [hs] at CS
        go_enter Try.func52, Try.ntmps52
        go_wp2_with (first
          | (refine wpList_load_pool _ rfl ?_ _ rfl f g T0 ?_; · rfl)
          | (refine wpList_store_pool rfl _ _ rfl _ rfl f g rfl _ T8 rfl ?_; intro w8 T8 hs8 hk8 hb8; replace T0 := hk8 _ _ (by omega) T0; replace hB := hb8 _ _ (by omega) hB)
          | (go_at_call 30; go_fit (CG _); rintro e w' ⟨rfl, hb⟩; (try replace hb := below_undr' hb); replace T0 := T0.below hb; replace T8 := T8.below hb; replace hB := hB.trans (hb.mono hB.size))
          | (go_at_call 55; go_fit (CA _); rintro e w' ⟨rfl, rfl⟩)
          | (go_at_call 57; go_fit (CS _); rintro e w' ⟨rfl, rfl⟩))
        ((try simp only [Exit.inBlock, Exit.then]); refine bodyPost_ret (results_pool3 rfl _ _ _ _ _ rfl T8) rfl ⟨?_, hB⟩)
        rw [HS.out]; rfl
    obtain ⟨hia, his⟩ := hin
    have hba : 0 ≤ a ∧ a < 3 := of_decide_eq_true hia
    have hbs : 0 ≤ s ∧ s < 8 := of_decide_eq_true his
    rw [hia] at CA
    rw [his] at CS
    obtain ⟨n, rfl⟩ : ∃ n : Nat, a = n := ⟨a.toNat, by omega⟩
    have hn : n < 3 := by omega
    have hs0 : 0 ≤ s := hbs.1
    have hs7 : s ≤ 7 := by omega
    rcases (show n = 0 ∨ n = 1 ∨ n = 2 by omega) with rfl | rfl | rfl
    · have CF := fun w => free_any (rowF f 0) w
      skip
      have dr := T0.dr 0 (by omega)
      have hfl := freeTo_len (rowF f 0) 6
      have hfl' : (freeL (rowF f 0)).length ≤ 6 := hfl
      clear hfl
      cases hg : g 0 with
      | true =>
        have HS : Hid (takeS f g s ((0 : Nat) : Int) d = _) := takeS_no (takeE_dr hgp hn his hg) (by omega)
        rw [hg] at dr
        clear hgp hia his
        go_enter Try.func52, Try.ntmps52
        go_wp2_with (first
          | (refine wpList_load_pool _ rfl ?_ _ rfl f g T0 ?_; · rfl)
          | (refine wpList_store_pool rfl _ _ rfl _ rfl f g rfl _ T8 rfl ?_; intro w8 T8 hs8 hk8 hb8; replace T0 := hk8 _ _ (by omega) T0; replace hB := hb8 _ _ (by omega) hB)
          | (go_at_call 30; go_fit (CG _); rintro e w' ⟨rfl, hb⟩; (try replace hb := below_undr' hb); replace T0 := T0.below hb; replace T8 := T8.below hb; replace hB := hB.trans (hb.mono hB.size); replace dr := T0.dr 0 (by omega); rw [hg] at dr)
          | (go_at_call 55; go_fit (CA _); rintro e w' ⟨rfl, rfl⟩)
          | (go_at_call 57; go_fit (CS _); rintro e w' ⟨rfl, rfl⟩))
        ((try simp only [Exit.inBlock, Exit.then]); refine bodyPost_ret (results_pool3 rfl _ _ _ _ _ rfl T8) rfl ⟨?_, hB⟩)
        rw [HS.out]; rfl
      | false =>
        rw [hg] at dr
        by_cases hz : (freeL (rowF f 0)).length = 0
        · have HS : Hid (takeS f g s ((0 : Nat) : Int) d = _) := takeS_no (takeE_down hgp hn his hg hz) (by omega)
          have hz' : ((freeL (rowF f 0)).length : Int) = 0 := by omega
          clear hgp hia his hz
          go_enter Try.func52, Try.ntmps52
          go_wp2_with (first
          | (refine wpList_load_pool _ rfl ?_ _ rfl f g T0 ?_; · rfl)
          | (refine wpList_store_pool rfl _ _ rfl _ rfl f g rfl _ T8 rfl ?_; intro w8 T8 hs8 hk8 hb8; replace T0 := hk8 _ _ (by omega) T0; replace hB := hb8 _ _ (by omega) hB)
          | (refine wpList_load_mid rfl 22 _ rfl _ 0 rfl [.int .i64 (rowF f 0 0), .int .i64 (rowF f 0 1), .int .i64 (rowF f 0 2), .int .i64 (rowF f 0 3), .int .i64 (rowF f 0 4), .int .i64 (rowF f 0 5)] _ (T0.row0) Try.underlying22 rfl (by kernel_rfl) ?_)
          | (go_at_call 30; go_fit (CG _); rintro e w' ⟨rfl, hb⟩; (try replace hb := below_undr' hb); replace T0 := T0.below hb; replace T8 := T8.below hb; replace hB := hB.trans (hb.mono hB.size); replace dr := T0.dr 0 (by omega); rw [hg] at dr)
          | (go_at_call 55; go_fit (CA _); rintro e w' ⟨rfl, rfl⟩)
          | (go_at_call 57; go_fit (CS _); rintro e w' ⟨rfl, rfl⟩)
          | (go_at_call 59; go_fit (CF _); rintro e w' ⟨v, rfl, ⟨a1, c1, rfl⟩, hI, hb⟩; (try replace hb := below_undr' hb); replace T0 := T0.below hb; replace T8 := T8.below hb; replace hB := hB.trans (hb.mono hB.size)))
          ((try simp only [Exit.inBlock, Exit.then]); refine bodyPost_ret (results_pool3 rfl _ _ _ _ _ rfl T8) rfl ⟨?_, hB⟩)
          rw [HS.out]; rfl
        · have HS : Hid (takeS f g s ((0 : Nat) : Int) d = _) := takeS_yes (takeE_ok hgp hn his hg hz)
          have hpos : 0 < (freeL (rowF f 0)).length := by omega
          have hz' : (((freeL (rowF f 0)).length : Int) == 0) = false := by simp; intro h; rw [h] at hpos; simp at hpos
          obtain ⟨K, hK⟩ : ∃ K, drawnL (freeL (rowF f 0)) d = K := ⟨_, rfl⟩
          have hm := freeL_mem _ _ (drawnL_mem (freeL (rowF f 0)) d hpos)
          rw [hK] at hm
          have hK6 : (K : Int) < 6 := by omega
          have hK0 : (0 : Int) ≤ (K : Int) := by omega
          have hs1 : wrap64 (s + 1) = s + 1 := by unfold wrap64; omega
          replace HS : Hid (takeS f g s ((0 : Nat) : Int) d = .tuple #[plv (upd f (K) (s + 1)) g, .int .i64 (K : Int), .int .i64 0]) := by
            show _ = _
            rw [HS.out, hK]; simp
          have hm6 : K < 6 := hm.1
          clear hgp hia his hz hm
          go_enter Try.func52, Try.ntmps52
          go_wp2_with (first
          | (refine wpList_load_pool _ rfl ?_ _ rfl f g T0 ?_; · rfl)
          | (refine wpList_store_pool rfl _ _ rfl _ rfl f g rfl _ T8 rfl ?_; intro w8 T8 hs8 hk8 hb8; replace T0 := hk8 _ _ (by omega) T0; replace hB := hb8 _ _ (by omega) hB)
          | (replace T0 := T0.upd (K) (s + 1) (by omega); replace T8 := T8.other (o := K) (v := .int .i64 (s + 1)) (show w.heap.size + 1 ≠ w.heap.size by omega); replace hB := hB.setCell (p := ⟨w.heap.size, K, none⟩) (Nat.le_refl _) (.int .i64 (s + 1)); refine wpList_load_pool _ rfl ?_ _ rfl (upd f (K) (s + 1)) g T0 ?_; · rfl)
          | (refine wpList_store_pool rfl _ _ rfl _ rfl (upd f (K) (s + 1)) g rfl _ T8 rfl ?_; intro w8 T8 hs8 hk8 hb8; replace hB := hb8 _ _ (by omega) hB)
          | (refine wpList_load_mid rfl 22 _ rfl _ 0 rfl [.int .i64 (rowF f 0 0), .int .i64 (rowF f 0 1), .int .i64 (rowF f 0 2), .int .i64 (rowF f 0 3), .int .i64 (rowF f 0 4), .int .i64 (rowF f 0 5)] _ (T0.row0) Try.underlying22 rfl (by kernel_rfl) ?_)
          | (go_at_call 30; go_fit (CG _); rintro e w' ⟨rfl, hb⟩; (try replace hb := below_undr' hb); replace T0 := T0.below hb; replace T8 := T8.below hb; replace hB := hB.trans (hb.mono hB.size); replace dr := T0.dr 0 (by omega); rw [hg] at dr)
          | (go_at_call 55; go_fit (CA _); rintro e w' ⟨rfl, rfl⟩)
          | (go_at_call 57; go_fit (CS _); rintro e w' ⟨rfl, rfl⟩)
          | (go_at_call 59; go_fit (CF _); rintro e w' ⟨v, rfl, ⟨a1, c1, rfl⟩, hI, hb⟩; (try replace hb := below_undr' hb); replace T0 := T0.below hb; replace T8 := T8.below hb; replace hB := hB.trans (hb.mono hB.size); have cw := T0.own (K) (by omega); have fw := T0.free (K))
          | (go_at_call 60; refine (drawn_any _ _ _ d _ hI hpos hd (by omega)).mono ?_; rintro e w' ⟨rfl, rfl⟩; rw [hK]))
          ((try simp only [Exit.inBlock, Exit.then]); refine bodyPost_ret (results_pool3 rfl _ _ _ _ _ rfl T8) rfl ⟨?_, hB⟩)
          rw [HS.out]; rfl
    · have CF := fun w => free_any (rowF f 1) w
      skip
      have dr := T0.dr 1 (by omega)
      have hfl := freeTo_len (rowF f 1) 6
      have hfl' : (freeL (rowF f 1)).length ≤ 6 := hfl
      clear hfl
      cases hg : g 1 with
      | true =>
        have HS : Hid (takeS f g s ((1 : Nat) : Int) d = _) := takeS_no (takeE_dr hgp hn his hg) (by omega)
        rw [hg] at dr
        clear hgp hia his
        go_enter Try.func52, Try.ntmps52
        go_wp2_with (first
          | (refine wpList_load_pool _ rfl ?_ _ rfl f g T0 ?_; · rfl)
          | (refine wpList_store_pool rfl _ _ rfl _ rfl f g rfl _ T8 rfl ?_; intro w8 T8 hs8 hk8 hb8; replace T0 := hk8 _ _ (by omega) T0; replace hB := hb8 _ _ (by omega) hB)
          | (go_at_call 30; go_fit (CG _); rintro e w' ⟨rfl, hb⟩; (try replace hb := below_undr' hb); replace T0 := T0.below hb; replace T8 := T8.below hb; replace hB := hB.trans (hb.mono hB.size); replace dr := T0.dr 1 (by omega); rw [hg] at dr)
          | (go_at_call 55; go_fit (CA _); rintro e w' ⟨rfl, rfl⟩)
          | (go_at_call 57; go_fit (CS _); rintro e w' ⟨rfl, rfl⟩))
        ((try simp only [Exit.inBlock, Exit.then]); refine bodyPost_ret (results_pool3 rfl _ _ _ _ _ rfl T8) rfl ⟨?_, hB⟩)
        rw [HS.out]; rfl
      | false =>
        rw [hg] at dr
        by_cases hz : (freeL (rowF f 1)).length = 0
        · have HS : Hid (takeS f g s ((1 : Nat) : Int) d = _) := takeS_no (takeE_down hgp hn his hg hz) (by omega)
          have hz' : ((freeL (rowF f 1)).length : Int) = 0 := by omega
          clear hgp hia his hz
          go_enter Try.func52, Try.ntmps52
          go_wp2_with (first
          | (refine wpList_load_pool _ rfl ?_ _ rfl f g T0 ?_; · rfl)
          | (refine wpList_store_pool rfl _ _ rfl _ rfl f g rfl _ T8 rfl ?_; intro w8 T8 hs8 hk8 hb8; replace T0 := hk8 _ _ (by omega) T0; replace hB := hb8 _ _ (by omega) hB)
          | (refine wpList_load_mid rfl 22 _ rfl _ 6 rfl [.int .i64 (rowF f 1 0), .int .i64 (rowF f 1 1), .int .i64 (rowF f 1 2), .int .i64 (rowF f 1 3), .int .i64 (rowF f 1 4), .int .i64 (rowF f 1 5)] _ (T0.row1) Try.underlying22 rfl (by kernel_rfl) ?_)
          | (go_at_call 30; go_fit (CG _); rintro e w' ⟨rfl, hb⟩; (try replace hb := below_undr' hb); replace T0 := T0.below hb; replace T8 := T8.below hb; replace hB := hB.trans (hb.mono hB.size); replace dr := T0.dr 1 (by omega); rw [hg] at dr)
          | (go_at_call 55; go_fit (CA _); rintro e w' ⟨rfl, rfl⟩)
          | (go_at_call 57; go_fit (CS _); rintro e w' ⟨rfl, rfl⟩)
          | (go_at_call 59; go_fit (CF _); rintro e w' ⟨v, rfl, ⟨a1, c1, rfl⟩, hI, hb⟩; (try replace hb := below_undr' hb); replace T0 := T0.below hb; replace T8 := T8.below hb; replace hB := hB.trans (hb.mono hB.size)))
          ((try simp only [Exit.inBlock, Exit.then]); refine bodyPost_ret (results_pool3 rfl _ _ _ _ _ rfl T8) rfl ⟨?_, hB⟩)
          rw [HS.out]; rfl
        · have HS : Hid (takeS f g s ((1 : Nat) : Int) d = _) := takeS_yes (takeE_ok hgp hn his hg hz)
          have hpos : 0 < (freeL (rowF f 1)).length := by omega
          have hz' : (((freeL (rowF f 1)).length : Int) == 0) = false := by simp; intro h; rw [h] at hpos; simp at hpos
          obtain ⟨K, hK⟩ : ∃ K, drawnL (freeL (rowF f 1)) d = K := ⟨_, rfl⟩
          have hm := freeL_mem _ _ (drawnL_mem (freeL (rowF f 1)) d hpos)
          rw [hK] at hm
          have hK6 : (K : Int) < 6 := by omega
          have hK0 : (0 : Int) ≤ (K : Int) := by omega
          have hs1 : wrap64 (s + 1) = s + 1 := by unfold wrap64; omega
          replace HS : Hid (takeS f g s ((1 : Nat) : Int) d = .tuple #[plv (upd f (6 + K) (s + 1)) g, .int .i64 (K : Int), .int .i64 0]) := by
            show _ = _
            rw [HS.out, hK]
          have hm6 : K < 6 := hm.1
          clear hgp hia his hz hm
          go_enter Try.func52, Try.ntmps52
          go_wp2_with (first
          | (refine wpList_load_pool _ rfl ?_ _ rfl f g T0 ?_; · rfl)
          | (refine wpList_store_pool rfl _ _ rfl _ rfl f g rfl _ T8 rfl ?_; intro w8 T8 hs8 hk8 hb8; replace T0 := hk8 _ _ (by omega) T0; replace hB := hb8 _ _ (by omega) hB)
          | (replace T0 := T0.upd (6 + K) (s + 1) (by omega); replace T8 := T8.other (o := 6 + K) (v := .int .i64 (s + 1)) (show w.heap.size + 1 ≠ w.heap.size by omega); replace hB := hB.setCell (p := ⟨w.heap.size, 6 + K, none⟩) (Nat.le_refl _) (.int .i64 (s + 1)); refine wpList_load_pool _ rfl ?_ _ rfl (upd f (6 + K) (s + 1)) g T0 ?_; · rfl)
          | (refine wpList_store_pool rfl _ _ rfl _ rfl (upd f (6 + K) (s + 1)) g rfl _ T8 rfl ?_; intro w8 T8 hs8 hk8 hb8; replace hB := hb8 _ _ (by omega) hB)
          | (refine wpList_load_mid rfl 22 _ rfl _ 6 rfl [.int .i64 (rowF f 1 0), .int .i64 (rowF f 1 1), .int .i64 (rowF f 1 2), .int .i64 (rowF f 1 3), .int .i64 (rowF f 1 4), .int .i64 (rowF f 1 5)] _ (T0.row1) Try.underlying22 rfl (by kernel_rfl) ?_)
          | (go_at_call 30; go_fit (CG _); rintro e w' ⟨rfl, hb⟩; (try replace hb := below_undr' hb); replace T0 := T0.below hb; replace T8 := T8.below hb; replace hB := hB.trans (hb.mono hB.size); replace dr := T0.dr 1 (by omega); rw [hg] at dr)
          | (go_at_call 55; go_fit (CA _); rintro e w' ⟨rfl, rfl⟩)
          | (go_at_call 57; go_fit (CS _); rintro e w' ⟨rfl, rfl⟩)
          | (go_at_call 59; go_fit (CF _); rintro e w' ⟨v, rfl, ⟨a1, c1, rfl⟩, hI, hb⟩; (try replace hb := below_undr' hb); replace T0 := T0.below hb; replace T8 := T8.below hb; replace hB := hB.trans (hb.mono hB.size); have cw := T0.own (6 + K) (by omega); have fw := T0.free (6 + K))
          | (go_at_call 60; refine (drawn_any _ _ _ d _ hI hpos hd (by omega)).mono ?_; rintro e w' ⟨rfl, rfl⟩; rw [hK]))
          ((try simp only [Exit.inBlock, Exit.then]); refine bodyPost_ret (results_pool3 rfl _ _ _ _ _ rfl T8) rfl ⟨?_, hB⟩)
          rw [HS.out]; rfl
    · have CF := fun w => free_any (rowF f 2) w
      skip
      have dr := T0.dr 2 (by omega)
      have hfl := freeTo_len (rowF f 2) 6
      have hfl' : (freeL (rowF f 2)).length ≤ 6 := hfl
      clear hfl
      cases hg : g 2 with
      | true =>
        have HS : Hid (takeS f g s ((2 : Nat) : Int) d = _) := takeS_no (takeE_dr hgp hn his hg) (by omega)
        rw [hg] at dr
        clear hgp hia his
        go_enter Try.func52, Try.ntmps52
        go_wp2_with (first
          | (refine wpList_load_pool _ rfl ?_ _ rfl f g T0 ?_; · rfl)
          | (refine wpList_store_pool rfl _ _ rfl _ rfl f g rfl _ T8 rfl ?_; intro w8 T8 hs8 hk8 hb8; replace T0 := hk8 _ _ (by omega) T0; replace hB := hb8 _ _ (by omega) hB)
          | (go_at_call 30; go_fit (CG _); rintro e w' ⟨rfl, hb⟩; (try replace hb := below_undr' hb); replace T0 := T0.below hb; replace T8 := T8.below hb; replace hB := hB.trans (hb.mono hB.size); replace dr := T0.dr 2 (by omega); rw [hg] at dr)
          | (go_at_call 55; go_fit (CA _); rintro e w' ⟨rfl, rfl⟩)
          | (go_at_call 57; go_fit (CS _); rintro e w' ⟨rfl, rfl⟩))
        ((try simp only [Exit.inBlock, Exit.then]); refine bodyPost_ret (results_pool3 rfl _ _ _ _ _ rfl T8) rfl ⟨?_, hB⟩)
        rw [HS.out]; rfl
      | false =>
        rw [hg] at dr
        by_cases hz : (freeL (rowF f 2)).length = 0
        · have HS : Hid (takeS f g s ((2 : Nat) : Int) d = _) := takeS_no (takeE_down hgp hn his hg hz) (by omega)
          have hz' : ((freeL (rowF f 2)).length : Int) = 0 := by omega
          clear hgp hia his hz
          go_enter Try.func52, Try.ntmps52
          go_wp2_with (first
          | (refine wpList_load_pool _ rfl ?_ _ rfl f g T0 ?_; · rfl)
          | (refine wpList_store_pool rfl _ _ rfl _ rfl f g rfl _ T8 rfl ?_; intro w8 T8 hs8 hk8 hb8; replace T0 := hk8 _ _ (by omega) T0; replace hB := hb8 _ _ (by omega) hB)
          | (refine wpList_load_mid rfl 22 _ rfl _ 12 rfl [.int .i64 (rowF f 2 0), .int .i64 (rowF f 2 1), .int .i64 (rowF f 2 2), .int .i64 (rowF f 2 3), .int .i64 (rowF f 2 4), .int .i64 (rowF f 2 5)] _ (T0.row2) Try.underlying22 rfl (by kernel_rfl) ?_)
          | (go_at_call 30; go_fit (CG _); rintro e w' ⟨rfl, hb⟩; (try replace hb := below_undr' hb); replace T0 := T0.below hb; replace T8 := T8.below hb; replace hB := hB.trans (hb.mono hB.size); replace dr := T0.dr 2 (by omega); rw [hg] at dr)
          | (go_at_call 55; go_fit (CA _); rintro e w' ⟨rfl, rfl⟩)
          | (go_at_call 57; go_fit (CS _); rintro e w' ⟨rfl, rfl⟩)
          | (go_at_call 59; go_fit (CF _); rintro e w' ⟨v, rfl, ⟨a1, c1, rfl⟩, hI, hb⟩; (try replace hb := below_undr' hb); replace T0 := T0.below hb; replace T8 := T8.below hb; replace hB := hB.trans (hb.mono hB.size)))
          ((try simp only [Exit.inBlock, Exit.then]); refine bodyPost_ret (results_pool3 rfl _ _ _ _ _ rfl T8) rfl ⟨?_, hB⟩)
          rw [HS.out]; rfl
        · have HS : Hid (takeS f g s ((2 : Nat) : Int) d = _) := takeS_yes (takeE_ok hgp hn his hg hz)
          have hpos : 0 < (freeL (rowF f 2)).length := by omega
          have hz' : (((freeL (rowF f 2)).length : Int) == 0) = false := by simp; intro h; rw [h] at hpos; simp at hpos
          obtain ⟨K, hK⟩ : ∃ K, drawnL (freeL (rowF f 2)) d = K := ⟨_, rfl⟩
          have hm := freeL_mem _ _ (drawnL_mem (freeL (rowF f 2)) d hpos)
          rw [hK] at hm
          have hK6 : (K : Int) < 6 := by omega
          have hK0 : (0 : Int) ≤ (K : Int) := by omega
          have hs1 : wrap64 (s + 1) = s + 1 := by unfold wrap64; omega
          replace HS : Hid (takeS f g s ((2 : Nat) : Int) d = .tuple #[plv (upd f (12 + K) (s + 1)) g, .int .i64 (K : Int), .int .i64 0]) := by
            show _ = _
            rw [HS.out, hK]
          have hm6 : K < 6 := hm.1
          clear hgp hia his hz hm
          go_enter Try.func52, Try.ntmps52
          go_wp2_with (first
          | (refine wpList_load_pool _ rfl ?_ _ rfl f g T0 ?_; · rfl)
          | (refine wpList_store_pool rfl _ _ rfl _ rfl f g rfl _ T8 rfl ?_; intro w8 T8 hs8 hk8 hb8; replace T0 := hk8 _ _ (by omega) T0; replace hB := hb8 _ _ (by omega) hB)
          | (replace T0 := T0.upd (12 + K) (s + 1) (by omega); replace T8 := T8.other (o := 12 + K) (v := .int .i64 (s + 1)) (show w.heap.size + 1 ≠ w.heap.size by omega); replace hB := hB.setCell (p := ⟨w.heap.size, 12 + K, none⟩) (Nat.le_refl _) (.int .i64 (s + 1)); refine wpList_load_pool _ rfl ?_ _ rfl (upd f (12 + K) (s + 1)) g T0 ?_; · rfl)
          | (refine wpList_store_pool rfl _ _ rfl _ rfl (upd f (12 + K) (s + 1)) g rfl _ T8 rfl ?_; intro w8 T8 hs8 hk8 hb8; replace hB := hb8 _ _ (by omega) hB)
          | (refine wpList_load_mid rfl 22 _ rfl _ 12 rfl [.int .i64 (rowF f 2 0), .int .i64 (rowF f 2 1), .int .i64 (rowF f 2 2), .int .i64 (rowF f 2 3), .int .i64 (rowF f 2 4), .int .i64 (rowF f 2 5)] _ (T0.row2) Try.underlying22 rfl (by kernel_rfl) ?_)
          | (go_at_call 30; go_fit (CG _); rintro e w' ⟨rfl, hb⟩; (try replace hb := below_undr' hb); replace T0 := T0.below hb; replace T8 := T8.below hb; replace hB := hB.trans (hb.mono hB.size); replace dr := T0.dr 2 (by omega); rw [hg] at dr)
          | (go_at_call 55; go_fit (CA _); rintro e w' ⟨rfl, rfl⟩)
          | (go_at_call 57; go_fit (CS _); rintro e w' ⟨rfl, rfl⟩)
          | (go_at_call 59; go_fit (CF _); rintro e w' ⟨v, rfl, ⟨a1, c1, rfl⟩, hI, hb⟩; (try replace hb := below_undr' hb); replace T0 := T0.below hb; replace T8 := T8.below hb; replace hB := hB.trans (hb.mono hB.size); have cw := T0.own (12 + K) (by omega); have fw := T0.free (12 + K))
          | (go_at_call 60; refine (drawn_any _ _ _ d _ hI hpos hd (by omega)).mono ?_; rintro e w' ⟨rfl, rfl⟩; rw [hK]))
          ((try simp only [Exit.inBlock, Exit.then]); refine bodyPost_ret (results_pool3 rfl _ _ _ _ _ rfl T8) rfl ⟨?_, hB⟩)
          rw [HS.out]; rfl
end Go.Proofs.Ytmdijjbkjcnbpaa
