/-
  Of what BindCloses, BindOpens stands on: part 8.
-/
import Derived.DeepKeys
import Derived.SizedLaws
import Derived.Deep.RegionHeld3
import Derived.Test.YtmdijjbkjcnbpaaBindCO2
import Derived.Test.YtmdijjbkjcnbpaaBindCO7
namespace Go.Proofs.Ytmdijjbkjcnbpaa
open Go.ChangeShapes Go.WideShapes Go.ChangeAt Go.RowKit
set_option linter.unusedSimpArgs false
set_option linter.unusedVariables false

/-- each owner is a number of 64 bits. -/
def wfF (f : Nat → Int) : Prop := ∀ i, i < 18 → (Lit.int .i64 (f i)).wf = true
set_option maxRecDepth 10000 in
theorem pool_lits (f : Nat → Int) (g : Nat → Bool) (hf : wfF f) : Try.prog.keyLits 4 26 (Value.agg (pc f g)).cells.toList = some [.int .i64 (f 0), .int .i64 (f 1), .int .i64 (f 2), .int .i64 (f 3), .int .i64 (f 4), .int .i64 (f 5), .int .i64 (f 6), .int .i64 (f 7), .int .i64 (f 8), .int .i64 (f 9), .int .i64 (f 10), .int .i64 (f 11), .int .i64 (f 12), .int .i64 (f 13), .int .i64 (f 14), .int .i64 (f 15), .int .i64 (f 16), .int .i64 (f 17), .bool (g 0), .bool (g 1), .bool (g 2)] := by
  have c47 : Try.prog.cellsOf 26 = 21 := by kernel_rfl
  have c44 : Try.prog.cellsOf 23 = 18 := by kernel_rfl
  have c43 : Try.prog.cellsOf 22 = 6 := by kernel_rfl
  have c45 : Try.prog.cellsOf 24 = 3 := by kernel_rfl
  have c3 : Try.prog.cellsOf 3 = 1 := by kernel_rfl
  have c4 : Try.prog.cellsOf 4 = 1 := by kernel_rfl
  have h0 := hf 0 (by omega)
  have h1 := hf 1 (by omega)
  have h2 := hf 2 (by omega)
  have h3 := hf 3 (by omega)
  have h4 := hf 4 (by omega)
  have h5 := hf 5 (by omega)
  have h6 := hf 6 (by omega)
  have h7 := hf 7 (by omega)
  have h8 := hf 8 (by omega)
  have h9 := hf 9 (by omega)
  have h10 := hf 10 (by omega)
  have h11 := hf 11 (by omega)
  have h12 := hf 12 (by omega)
  have h13 := hf 13 (by omega)
  have h14 := hf 14 (by omega)
  have h15 := hf 15 (by omega)
  have h16 := hf 16 (by omega)
  have h17 := hf 17 (by omega)
  simp [Program.keyLits, Value.cells, pc, Try.underlying26, Try.underlying23, Try.underlying22, Try.underlying24, Try.underlying3, Try.underlying4, c47, c44, c43, c45, c3, c4, List.range, List.range.loop, h0, h1, h2, h3, h4, h5, h6, h7, h8, h9, h10, h11, h12, h13, h14, h15, h16, h17]
theorem run_eqp (f : Nat → Int) (g : Nat → Bool) (hf : wfF f) (w : World) : (Op.equalIn 10000 26 (.agg (pc f g)) (.agg (pc f g))).run Try.prog w = .ok true w := by
  obtain ⟨r, h1, h2⟩ := run_equalIn_deep (P := Try.prog) 9996 4 26 (by kernel_rfl) w 4 4 (.agg (pc f g)) (.agg (pc f g)) _ _ (by kernel_rfl) (by kernel_rfl) (pool_lits f g hf) (pool_lits f g hf)
  rw [h2.2 rfl] at h1
  exact h1
end Go.Proofs.Ytmdijjbkjcnbpaa

namespace Go.Proofs.Ytmdijjbkjcnbpaa
open Go.ChangeShapes Go.WideShapes Go.ChangeAt Go.RowKit
set_option linter.unusedSimpArgs false
set_option linter.unusedVariables false

/-- a pool: its owners, and what is drained. -/
structure PoolV where
  f : Nat → Int
  g : Nat → Bool
end Go.Proofs.Ytmdijjbkjcnbpaa

namespace Go.Proofs.Ytmdijjbkjcnbpaa
open Go.ChangeShapes Go.WideShapes Go.ChangeAt Go.RowKit
set_option linter.unusedSimpArgs false
set_option linter.unusedVariables false

/-- Give: the error, and the owners behind it. -/
def giveE (f : Nat → Int) (s a k : Int) : Int := if goodP f = true then (if (inR a 3 = true ∧ inR k 6 = true) ∧ inR s 8 = true ∧ f (6 * a.toNat + k.toNat) = s + 1 then 0 else 7) else 2
def giveF (f : Nat → Int) (s a k : Int) : Nat → Int := if giveE f s a k = 0 then upd f (6 * a.toNat + k.toNat) 0 else f
def giveS (f : Nat → Int) (g : Nat → Bool) (s a k : Int) : Value := .tuple #[plv (giveF f s a k) g, .int .i64 (giveE f s a k)]
theorem giveE_bad {f : Nat → Int} {s a k : Int} (h : goodP f = false) : giveE f s a k = 2 := by unfold giveE; rw [if_neg (by simp [h])]
theorem giveE_none {f : Nat → Int} {s a k : Int} (h : goodP f = true) (h1 : ¬ ((inR a 3 = true ∧ inR k 6 = true) ∧ inR s 8 = true ∧ f (6 * a.toNat + k.toNat) = s + 1)) : giveE f s a k = 7 := by unfold giveE; rw [if_pos h, if_neg h1]
theorem giveE_ok {f : Nat → Int} {s : Int} {a k : Nat} (h : goodP f = true) (h1 : a < 3) (h2 : k < 6) (h3 : inR s 8 = true) (h4 : f (6 * a + k) = s + 1) : giveE f s a k = 0 := by
  unfold giveE; rw [if_pos h, if_pos ⟨⟨inR_true (by omega) (by omega), inR_true (by omega) (by omega)⟩, h3, by rw [Int.toNat_natCast, Int.toNat_natCast]; exact h4⟩]
theorem giveS_no {f : Nat → Int} {g : Nat → Bool} {s a k e : Int} (h : giveE f s a k = e) (he : e ≠ 0) : giveS f g s a k = .tuple #[plv f g, .int .i64 e] := by
  unfold giveS giveF; rw [if_neg (by omega), h]
theorem giveS_yes {f : Nat → Int} {g : Nat → Bool} {s : Int} {a k : Nat} (h : giveE f s a k = 0) : giveS f g s a k = .tuple #[plv (upd f (6 * a + k) 0) g, .int .i64 0] := by
  unfold giveS giveF; rw [if_pos h, h, Int.toNat_natCast, Int.toNat_natCast]
set_option maxRecDepth 10000 in
set_option maxHeartbeats 4000000 in
theorem give_any (f : Nat → Int) (g : Nat → Bool) (s a k : Int) (w : World) :
    Calls Try.prog 47 #[plv f g, .int .i64 s, .int .i64 a, .int .i64 k] w fun e w' => e = .returned (giveS f g s a k) ∧ Below w.heap.size w w' := by
  have T0 : PRow ((w.alloc (.cells (pc f g) 26)).alloc (.cells #[.int .i64 0, .int .i64 0, .int .i64 0, .int .i64 0, .int .i64 0, .int .i64 0, .int .i64 0, .int .i64 0, .int .i64 0, .int .i64 0, .int .i64 0, .int .i64 0, .int .i64 0, .int .i64 0, .int .i64 0, .int .i64 0, .int .i64 0, .int .i64 0, .bool false, .bool false, .bool false] 26)) w.heap.size (pc f g) := (PRow.new _ _).alloc _
  have T8 : PRow ((w.alloc (.cells (pc f g) 26)).alloc (.cells #[.int .i64 0, .int .i64 0, .int .i64 0, .int .i64 0, .int .i64 0, .int .i64 0, .int .i64 0, .int .i64 0, .int .i64 0, .int .i64 0, .int .i64 0, .int .i64 0, .int .i64 0, .int .i64 0, .int .i64 0, .int .i64 0, .int .i64 0, .int .i64 0, .bool false, .bool false, .bool false] 26)) (w.heap.size + 1) (pc (fun _ => 0) (fun _ => false)) := by
    have h8 : PRow ((w.alloc (.cells (pc f g) 26)).alloc (.cells #[.int .i64 0, .int .i64 0, .int .i64 0, .int .i64 0, .int .i64 0, .int .i64 0, .int .i64 0, .int .i64 0, .int .i64 0, .int .i64 0, .int .i64 0, .int .i64 0, .int .i64 0, .int .i64 0, .int .i64 0, .int .i64 0, .int .i64 0, .int .i64 0, .bool false, .bool false, .bool false] 26)) (w.alloc (.cells (pc f g) 26)).heap.size #[.int .i64 0, .int .i64 0, .int .i64 0, .int .i64 0, .int .i64 0, .int .i64 0, .int .i64 0, .int .i64 0, .int .i64 0, .int .i64 0, .int .i64 0, .int .i64 0, .int .i64 0, .int .i64 0, .int .i64 0, .int .i64 0, .int .i64 0, .int .i64 0, .bool false, .bool false, .bool false] := PRow.new _ _
    have e8 : (w.alloc (.cells (pc f g) 26)).heap.size = w.heap.size + 1 := by simp
    rw [e8] at h8
    exact h8
  have hB : Below w.heap.size w ((w.alloc (.cells (pc f g) 26)).alloc (.cells #[.int .i64 0, .int .i64 0, .int .i64 0, .int .i64 0, .int .i64 0, .int .i64 0, .int .i64 0, .int .i64 0, .int .i64 0, .int .i64 0, .int .i64 0, .int .i64 0, .int .i64 0, .int .i64 0, .int .i64 0, .int .i64 0, .int .i64 0, .int .i64 0, .bool false, .bool false, .bool false] 26)) := ((Below.refl _ _).alloc (Nat.le_refl _) _).alloc (by simp) _
  have CG := fun w => good_any f g w
  have CA := fun w => isAddress_any a w
  have CK := fun w => isBlock_any k w
  have CS := fun w => isSubscriber_any s w
  unfold plv at CG
  unfold plv
  cases hgp : goodP f with
  | false =>
    have HS : Hid (giveS f g s a k = _) := giveS_no (giveE_bad hgp) (by omega)
    rw [hgp] at CG
    go_enter Try.func47, Try.ntmps47
    go_wp2_with (first
          | (refine wpList_load_pool _ rfl ?_ _ rfl f g T0 ?_; · rfl)
          | (refine wpList_store_pool rfl _ _ rfl _ rfl f g rfl _ T8 rfl ?_; intro w8 T8 hs8 hk8 hb8; replace T0 := hk8 _ _ (by omega) T0; replace hB := hb8 _ _ (by omega) hB)
          | (go_at_call 30; go_fit (CG _); rintro e w' ⟨rfl, hb⟩; (try replace hb := below_undr' hb); replace T0 := T0.below hb; replace T8 := T8.below hb; replace hB := hB.trans (hb.mono hB.size))
          | (go_at_call 55; go_fit (CA _); rintro e w' ⟨rfl, rfl⟩)
          | (go_at_call 56; go_fit (CK _); rintro e w' ⟨rfl, rfl⟩)
          | (go_at_call 57; go_fit (CS _); rintro e w' ⟨rfl, rfl⟩))
    ((try simp only [Exit.inBlock, Exit.then]); refine bodyPost_ret (results_pool2 rfl _ _ _ _ _ rfl T8) rfl ⟨?_, hB⟩)
    rw [HS.out]; rfl
  | true =>
    rw [hgp] at CG
    by_cases hin : (inR a 3 = true ∧ inR k 6 = true) ∧ inR s 8 = true
    rotate_left
    · have HS : Hid (giveS f g s a k = _) := giveS_no (giveE_none hgp (fun h => hin ⟨h.1, h.2.1⟩)) (by omega)
      clear hgp
      cases ha : inR a 3 with
      | false =>
        rw [ha] at CA
        go_enter Try.func47, Try.ntmps47
        go_wp2_with (first
          | (refine wpList_load_pool _ rfl ?_ _ rfl f g T0 ?_; · rfl)
          | (refine wpList_store_pool rfl _ _ rfl _ rfl f g rfl _ T8 rfl ?_; intro w8 T8 hs8 hk8 hb8; replace T0 := hk8 _ _ (by omega) T0; replace hB := hb8 _ _ (by omega) hB)
          | (go_at_call 30; go_fit (CG _); rintro e w' ⟨rfl, hb⟩; (try replace hb := below_undr' hb); replace T0 := T0.below hb; replace T8 := T8.below hb; replace hB := hB.trans (hb.mono hB.size))
          | (go_at_call 55; go_fit (CA _); rintro e w' ⟨rfl, rfl⟩)
          | (go_at_call 56; go_fit (CK _); rintro e w' ⟨rfl, rfl⟩)
          | (go_at_call 57; go_fit (CS _); rintro e w' ⟨rfl, rfl⟩))
        ((try simp only [Exit.inBlock, Exit.then]); refine bodyPost_ret (results_pool2 rfl _ _ _ _ _ rfl T8) rfl ⟨?_, hB⟩)
        rw [HS.out]; rfl
      | true =>
        rw [ha] at CA
        cases hk : inR k 6 with
        | false =>
          rw [hk] at CK
          go_enter Try.func47, Try.ntmps47
          go_wp2_with (first
          | (refine wpList_load_pool _ rfl ?_ _ rfl f g T0 ?_; · rfl)
          | (refine wpList_store_pool rfl _ _ rfl _ rfl f g rfl _ T8 rfl ?_; intro w8 T8 hs8 hk8 hb8; replace T0 := hk8 _ _ (by omega) T0; replace hB := hb8 _ _ (by omega) hB)
          | (go_at_call 30; go_fit (CG _); rintro e w' ⟨rfl, hb⟩; (try replace hb := below_undr' hb); replace T0 := T0.below hb; replace T8 := T8.below hb; replace hB := hB.trans (hb.mono hB.size))
          | (go_at_call 55; go_fit (CA _); rintro e w' ⟨rfl, rfl⟩)
          | (go_at_call 56; go_fit (CK _); rintro e w' ⟨rfl, rfl⟩)
          | (go_at_call 57; go_fit (CS _); rintro e w' ⟨rfl, rfl⟩))
          ((try simp only [Exit.inBlock, Exit.then]); refine bodyPost_ret (results_pool2 rfl _ _ _ _ _ rfl T8) rfl ⟨?_, hB⟩)
          rw [HS.out]; rfl
        | true =>
          rw [hk] at CK
          have hs : inR s 8 = false := by
            cases h : inR s 8 with
            | false => rfl
            | true => exact absurd ⟨⟨ha, hk⟩, h⟩ hin
          rw [hs] at CS
          go_enter Try.func47, Try.ntmps47
          go_wp2_with (first
          | (refine wpList_load_pool _ rfl ?_ _ rfl f g T0 ?_; · rfl)
          | (refine wpList_store_pool rfl _ _ rfl _ rfl f g rfl _ T8 rfl ?_; intro w8 T8 hs8 hk8 hb8; replace T0 := hk8 _ _ (by omega) T0; replace hB := hb8 _ _ (by omega) hB)
          | (go_at_call 30; go_fit (CG _); rintro e w' ⟨rfl, hb⟩; (try replace hb := below_undr' hb); replace T0 := T0.below hb; replace T8 := T8.below hb; replace hB := hB.trans (hb.mono hB.size))
          | (go_at_call 55; go_fit (CA _); rintro e w' ⟨rfl, rfl⟩)
          | (go_at_call 56; go_fit (CK _); rintro e w' ⟨rfl, rfl⟩)
          | (go_at_call 57; go_fit (CS _); rintro e w' ⟨rfl, rfl⟩))
          ((try simp only [Exit.inBlock, Exit.then]); refine bodyPost_ret (results_pool2 rfl _ _ _ _ _ rfl T8) rfl ⟨?_, hB⟩)
          rw [HS.out]; rfl
    obtain ⟨⟨hia, hik⟩, his⟩ := hin
    have hba : 0 ≤ a ∧ a < 3 := of_decide_eq_true hia
    have hbk : 0 ≤ k ∧ k < 6 := of_decide_eq_true hik
    have hbs : 0 ≤ s ∧ s < 8 := of_decide_eq_true his
    rw [hia] at CA
    rw [hik] at CK
    rw [his] at CS
    obtain ⟨n, rfl⟩ : ∃ n : Nat, a = n := ⟨a.toNat, by omega⟩
    obtain ⟨K, rfl⟩ : ∃ K : Nat, k = K := ⟨k.toNat, by omega⟩
    have hn : n < 3 := by omega
    have hK : K < 6 := by omega
    have hK6 : (K : Int) < 6 := by omega
    have hK5 : (K : Int) ≤ 5 := by omega
    have hK0 : (0 : Int) ≤ (K : Int) := by omega
    have hs0 : 0 ≤ s := hbs.1
    have hs7 : s ≤ 7 := by omega
    have hs1 : wrap64 (s + 1) = s + 1 := by unfold wrap64; omega
    rcases (show n = 0 ∨ n = 1 ∨ n = 2 by omega) with rfl | rfl | rfl
    · have cw := T0.own (K) (by omega)
      have fw := T0.free (K)
      by_cases ho : f (K) = s + 1
      rotate_left
      · have HS : Hid (giveS f g s ((0 : Nat) : Int) (K : Int) = _) := giveS_no (giveE_none hgp (fun h => ho (by have := h.2.2; rw [Int.toNat_natCast, Int.toNat_natCast] at this; simpa using this))) (by omega)
        have hne : (f (K) != s + 1) = true := by simpa using ho
        clear ho hgp hia hik his
        go_enter Try.func47, Try.ntmps47
        go_wp2_with (first
          | (refine wpList_load_pool _ rfl ?_ _ rfl f g T0 ?_; · rfl)
          | (refine wpList_store_pool rfl _ _ rfl _ rfl f g rfl _ T8 rfl ?_; intro w8 T8 hs8 hk8 hb8; replace T0 := hk8 _ _ (by omega) T0; replace hB := hb8 _ _ (by omega) hB)
          | (go_at_call 30; go_fit (CG _); rintro e w' ⟨rfl, hb⟩; (try replace hb := below_undr' hb); replace T0 := T0.below hb; replace T8 := T8.below hb; replace hB := hB.trans (hb.mono hB.size); replace cw := T0.own (K) (by omega); replace fw := T0.free (K))
          | (go_at_call 55; go_fit (CA _); rintro e w' ⟨rfl, rfl⟩)
          | (go_at_call 56; go_fit (CK _); rintro e w' ⟨rfl, rfl⟩)
          | (go_at_call 57; go_fit (CS _); rintro e w' ⟨rfl, rfl⟩))
        ((try simp only [Exit.inBlock, Exit.then]); refine bodyPost_ret (results_pool2 rfl _ _ _ _ _ rfl T8) rfl ⟨?_, hB⟩)
        rw [HS.out]; rfl
      · have HS : Hid (giveS f g s ((0 : Nat) : Int) (K : Int) = .tuple #[plv (upd f (K) 0) g, .int .i64 0]) := by
          show _ = _
          rw [giveS_yes (giveE_ok hgp hn hK his (by simpa using ho))]; simp
        have hne : (f (K) != s + 1) = false := by simpa using ho
        clear ho hgp hia hik his
        go_enter Try.func47, Try.ntmps47
        go_wp2_with (first
          | (refine wpList_load_pool _ rfl ?_ _ rfl f g T0 ?_; · rfl)
          | (refine wpList_store_pool rfl _ _ rfl _ rfl f g rfl _ T8 rfl ?_; intro w8 T8 hs8 hk8 hb8; replace T0 := hk8 _ _ (by omega) T0; replace hB := hb8 _ _ (by omega) hB)
          | (replace T0 := T0.upd (K) (0) (by omega); replace T8 := T8.other (o := K) (v := .int .i64 (0)) (show w.heap.size + 1 ≠ w.heap.size by omega); replace hB := hB.setCell (p := ⟨w.heap.size, K, none⟩) (Nat.le_refl _) (.int .i64 (0)); refine wpList_load_pool _ rfl ?_ _ rfl (upd f (K) (0)) g T0 ?_; · rfl)
          | (refine wpList_store_pool rfl _ _ rfl _ rfl (upd f (K) (0)) g rfl _ T8 rfl ?_; intro w8 T8 hs8 hk8 hb8; replace hB := hb8 _ _ (by omega) hB)
          | (go_at_call 30; go_fit (CG _); rintro e w' ⟨rfl, hb⟩; (try replace hb := below_undr' hb); replace T0 := T0.below hb; replace T8 := T8.below hb; replace hB := hB.trans (hb.mono hB.size); replace cw := T0.own (K) (by omega); replace fw := T0.free (K))
          | (go_at_call 55; go_fit (CA _); rintro e w' ⟨rfl, rfl⟩)
          | (go_at_call 56; go_fit (CK _); rintro e w' ⟨rfl, rfl⟩)
          | (go_at_call 57; go_fit (CS _); rintro e w' ⟨rfl, rfl⟩))
        ((try simp only [Exit.inBlock, Exit.then]); refine bodyPost_ret (results_pool2 rfl _ _ _ _ _ rfl T8) rfl ⟨?_, hB⟩)
        rw [HS.out]; rfl
    · have cw := T0.own (6 + K) (by omega)
      have fw := T0.free (6 + K)
      by_cases ho : f (6 + K) = s + 1
      rotate_left
      · have HS : Hid (giveS f g s ((1 : Nat) : Int) (K : Int) = _) := giveS_no (giveE_none hgp (fun h => ho (by have := h.2.2; rw [Int.toNat_natCast, Int.toNat_natCast] at this; simpa using this))) (by omega)
        have hne : (f (6 + K) != s + 1) = true := by simpa using ho
        clear ho hgp hia hik his
        go_enter Try.func47, Try.ntmps47
        go_wp2_with (first
          | (refine wpList_load_pool _ rfl ?_ _ rfl f g T0 ?_; · rfl)
          | (refine wpList_store_pool rfl _ _ rfl _ rfl f g rfl _ T8 rfl ?_; intro w8 T8 hs8 hk8 hb8; replace T0 := hk8 _ _ (by omega) T0; replace hB := hb8 _ _ (by omega) hB)
          | (go_at_call 30; go_fit (CG _); rintro e w' ⟨rfl, hb⟩; (try replace hb := below_undr' hb); replace T0 := T0.below hb; replace T8 := T8.below hb; replace hB := hB.trans (hb.mono hB.size); replace cw := T0.own (6 + K) (by omega); replace fw := T0.free (6 + K))
          | (go_at_call 55; go_fit (CA _); rintro e w' ⟨rfl, rfl⟩)
          | (go_at_call 56; go_fit (CK _); rintro e w' ⟨rfl, rfl⟩)
          | (go_at_call 57; go_fit (CS _); rintro e w' ⟨rfl, rfl⟩))
        ((try simp only [Exit.inBlock, Exit.then]); refine bodyPost_ret (results_pool2 rfl _ _ _ _ _ rfl T8) rfl ⟨?_, hB⟩)
        rw [HS.out]; rfl
      · have HS : Hid (giveS f g s ((1 : Nat) : Int) (K : Int) = .tuple #[plv (upd f (6 + K) 0) g, .int .i64 0]) := by
          show _ = _
          rw [giveS_yes (giveE_ok hgp hn hK his (by simpa using ho))]
        have hne : (f (6 + K) != s + 1) = false := by simpa using ho
        clear ho hgp hia hik his
        go_enter Try.func47, Try.ntmps47
        go_wp2_with (first
          | (refine wpList_load_pool _ rfl ?_ _ rfl f g T0 ?_; · rfl)
          | (refine wpList_store_pool rfl _ _ rfl _ rfl f g rfl _ T8 rfl ?_; intro w8 T8 hs8 hk8 hb8; replace T0 := hk8 _ _ (by omega) T0; replace hB := hb8 _ _ (by omega) hB)
          | (replace T0 := T0.upd (6 + K) (0) (by omega); replace T8 := T8.other (o := 6 + K) (v := .int .i64 (0)) (show w.heap.size + 1 ≠ w.heap.size by omega); replace hB := hB.setCell (p := ⟨w.heap.size, 6 + K, none⟩) (Nat.le_refl _) (.int .i64 (0)); refine wpList_load_pool _ rfl ?_ _ rfl (upd f (6 + K) (0)) g T0 ?_; · rfl)
          | (refine wpList_store_pool rfl _ _ rfl _ rfl (upd f (6 + K) (0)) g rfl _ T8 rfl ?_; intro w8 T8 hs8 hk8 hb8; replace hB := hb8 _ _ (by omega) hB)
          | (go_at_call 30; go_fit (CG _); rintro e w' ⟨rfl, hb⟩; (try replace hb := below_undr' hb); replace T0 := T0.below hb; replace T8 := T8.below hb; replace hB := hB.trans (hb.mono hB.size); replace cw := T0.own (6 + K) (by omega); replace fw := T0.free (6 + K))
          | (go_at_call 55; go_fit (CA _); rintro e w' ⟨rfl, rfl⟩)
          | (go_at_call 56; go_fit (CK _); rintro e w' ⟨rfl, rfl⟩)
          | (go_at_call 57; go_fit (CS _); rintro e w' ⟨rfl, rfl⟩))
        ((try simp only [Exit.inBlock, Exit.then]); refine bodyPost_ret (results_pool2 rfl _ _ _ _ _ rfl T8) rfl ⟨?_, hB⟩)
        rw [HS.out]; rfl
    · have cw := T0.own (12 + K) (by omega)
      have fw := T0.free (12 + K)
      by_cases ho : f (12 + K) = s + 1
      rotate_left
      · have HS : Hid (giveS f g s ((2 : Nat) : Int) (K : Int) = _) := giveS_no (giveE_none hgp (fun h => ho (by have := h.2.2; rw [Int.toNat_natCast, Int.toNat_natCast] at this; simpa using this))) (by omega)
        have hne : (f (12 + K) != s + 1) = true := by simpa using ho
        clear ho hgp hia hik his
        go_enter Try.func47, Try.ntmps47
        go_wp2_with (first
          | (refine wpList_load_pool _ rfl ?_ _ rfl f g T0 ?_; · rfl)
          | (refine wpList_store_pool rfl _ _ rfl _ rfl f g rfl _ T8 rfl ?_; intro w8 T8 hs8 hk8 hb8; replace T0 := hk8 _ _ (by omega) T0; replace hB := hb8 _ _ (by omega) hB)
          | (go_at_call 30; go_fit (CG _); rintro e w' ⟨rfl, hb⟩; (try replace hb := below_undr' hb); replace T0 := T0.below hb; replace T8 := T8.below hb; replace hB := hB.trans (hb.mono hB.size); replace cw := T0.own (12 + K) (by omega); replace fw := T0.free (12 + K))
          | (go_at_call 55; go_fit (CA _); rintro e w' ⟨rfl, rfl⟩)
          | (go_at_call 56; go_fit (CK _); rintro e w' ⟨rfl, rfl⟩)
          | (go_at_call 57; go_fit (CS _); rintro e w' ⟨rfl, rfl⟩))
        ((try simp only [Exit.inBlock, Exit.then]); refine bodyPost_ret (results_pool2 rfl _ _ _ _ _ rfl T8) rfl ⟨?_, hB⟩)
        rw [HS.out]; rfl
      · have HS : Hid (giveS f g s ((2 : Nat) : Int) (K : Int) = .tuple #[plv (upd f (12 + K) 0) g, .int .i64 0]) := by
          show _ = _
          rw [giveS_yes (giveE_ok hgp hn hK his (by simpa using ho))]
        have hne : (f (12 + K) != s + 1) = false := by simpa using ho
        clear ho hgp hia hik his
        go_enter Try.func47, Try.ntmps47
        go_wp2_with (first
          | (refine wpList_load_pool _ rfl ?_ _ rfl f g T0 ?_; · rfl)
          | (refine wpList_store_pool rfl _ _ rfl _ rfl f g rfl _ T8 rfl ?_; intro w8 T8 hs8 hk8 hb8; replace T0 := hk8 _ _ (by omega) T0; replace hB := hb8 _ _ (by omega) hB)
          | (replace T0 := T0.upd (12 + K) (0) (by omega); replace T8 := T8.other (o := 12 + K) (v := .int .i64 (0)) (show w.heap.size + 1 ≠ w.heap.size by omega); replace hB := hB.setCell (p := ⟨w.heap.size, 12 + K, none⟩) (Nat.le_refl _) (.int .i64 (0)); refine wpList_load_pool _ rfl ?_ _ rfl (upd f (12 + K) (0)) g T0 ?_; · rfl)
          | (refine wpList_store_pool rfl _ _ rfl _ rfl (upd f (12 + K) (0)) g rfl _ T8 rfl ?_; intro w8 T8 hs8 hk8 hb8; replace hB := hb8 _ _ (by omega) hB)
          | (go_at_call 30; go_fit (CG _); rintro e w' ⟨rfl, hb⟩; (try replace hb := below_undr' hb); replace T0 := T0.below hb; replace T8 := T8.below hb; replace hB := hB.trans (hb.mono hB.size); replace cw := T0.own (12 + K) (by omega); replace fw := T0.free (12 + K))
          | (go_at_call 55; go_fit (CA _); rintro e w' ⟨rfl, rfl⟩)
          | (go_at_call 56; go_fit (CK _); rintro e w' ⟨rfl, rfl⟩)
          | (go_at_call 57; go_fit (CS _); rintro e w' ⟨rfl, rfl⟩))
        ((try simp only [Exit.inBlock, Exit.then]); refine bodyPost_ret (results_pool2 rfl _ _ _ _ _ rfl T8) rfl ⟨?_, hB⟩)
        rw [HS.out]; rfl
end Go.Proofs.Ytmdijjbkjcnbpaa

namespace Go.Proofs.Ytmdijjbkjcnbpaa
open Go.ChangeShapes Go.WideShapes Go.ChangeAt Go.RowKit
set_option linter.unusedSimpArgs false
set_option linter.unusedVariables false

theorem below_drew {B : Nat} {w0 w : World} (h : Below B w0 w) : Below B w0 w.drew := ⟨h.os, h.tape, h.output, h.size, h.block⟩
theorem takeE_inv {f : Nat → Int} {g : Nat → Bool} {s a : Int} (h : takeE f g s a = 0) : goodP f = true ∧ (0 ≤ a ∧ a < 3) ∧ (0 ≤ s ∧ s < 8) ∧ g a.toNat = false ∧ 0 < (freeL (rowF f a.toNat)).length := by
  unfold takeE at h
  by_cases h1 : goodP f = true
  · rw [if_pos h1] at h
    by_cases h2 : inR a 3 = true ∧ inR s 8 = true
    · rw [if_pos h2] at h
      by_cases h3 : g a.toNat = true
      · rw [if_pos h3] at h; omega
      · rw [if_neg h3] at h
        by_cases h4 : (freeL (rowF f a.toNat)).length = 0
        · rw [if_pos h4] at h; omega
        · exact ⟨h1, of_decide_eq_true h2.1, of_decide_eq_true h2.2, by simpa using h3, by omega⟩
    · rw [if_neg h2] at h; omega
  · rw [if_neg h1] at h; omega
end Go.Proofs.Ytmdijjbkjcnbpaa
