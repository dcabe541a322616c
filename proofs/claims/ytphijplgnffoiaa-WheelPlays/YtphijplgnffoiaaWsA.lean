/-
  A list of numbers that comes in; timers sorted, all at once or in two steps.
-/
import Derived.Test.YtphijplgnffoiaaWhR
import Derived.SizedLaws
import Derived.ChangeSlices
namespace Go.Proofs.Ytphijplgnffoiaa
open Go.ChangeShapes Go.WideShapes Go.ChangeAt Go.RowKit Go.Maps
set_option linter.unusedSimpArgs false
set_option linter.unusedVariables false

theorem tmod_bd (k n : Int) (hn : 0 < n) : -n < k.tmod n ∧ k.tmod n < n ∧ (k.tmod n < 0 → k.tmod n + n = k % n) ∧ (0 ≤ k.tmod n → k.tmod n = k % n) := by
  have h1 := Int.tmod_eq_emod (a := k) (b := n)
  have h2 := Int.emod_nonneg k (show n ≠ 0 by omega)
  have h3 := Int.emod_lt_of_pos k hn
  have h4 : (n.natAbs : Int) = n := by omega
  split at h1
  · simp at h1; omega
  · rename_i hd
    have h5 : k % n ≠ 0 := fun e => hd (.inr (Int.dvd_of_emod_eq_zero e))
    omega
theorem pick_any (k n : Int) (w : World) (hn : 0 < n) (hm : n ≤ 4611686018427387904) :
    Calls Try.prog 6 #[.int .i64 k, .int .i64 n] w fun e w' => e = .returned (.int .i64 (k % n)) ∧ w' = w := by
  obtain ⟨h1, h2, h3, h4⟩ := tmod_bd k n hn
  have hz : (n == 0) = false := by simp; omega
  have hw : wrap64 (k.tmod n) = k.tmod n := by unfold wrap64; omega
  by_cases hneg : k.tmod n < 0
  · have H : Hid (k.tmod n + n = k % n) := h3 hneg
    clear h3 h4
    go_enter Try.func6, Try.ntmps6
    go_wp2
    go_ret
    exact ⟨ret_int H.out, rfl⟩
  · have H : Hid (k.tmod n = k % n) := h4 (by omega)
    clear h3 h4
    go_enter Try.func6, Try.ntmps6
    go_wp2
    go_ret
    exact ⟨ret_int H.out, rfl⟩
/-- a list of numbers in memory. -/
structure IntsAt (w : World) (a : Option Addr) (cap B O : Nat) (zs : List Int) : Prop where
  at0 : 0 < zs.length → a = some ⟨B, O, none⟩
  cell : ∀ j (hj : j < zs.length), w.cell? ⟨B, O + j, none⟩ = some (.int .i64 zs[j])
  len : zs.length ≤ 17592186044416
  wf : ∀ z ∈ zs, (Lit.int .i64 z).wf = true
theorem IntsAt.below {w w' : World} {a : Option Addr} {cap B O : Nat} {zs : List Int} {n : Nat} (h : IntsAt w a cap B O zs) (hb : Below n w w') (hlt : 0 < zs.length → B < n) : IntsAt w' a cap B O zs :=
  ⟨h.at0, fun j hj => (World.cell?_of_block (hb.block B (hlt (by omega)))).trans (h.cell j hj), h.len, h.wf⟩
theorem IntsAt.lt {w : World} {a : Option Addr} {cap B O : Nat} {zs : List Int} (h : IntsAt w a cap B O zs) (hl : 0 < zs.length) : B < w.heap.size := World.block_lt_of_cell? w _ (h.cell 0 hl)
theorem ixZ (B O n cap j : Nat) (hj : j < n) (w : World) : (Instr.indexAt 22 (.slice (some ⟨B, O, none⟩) n cap) (.int .i64 (j : Int))).run Try.prog w = .ok (.pointer (some ⟨B, O + j, none⟩)) w := by
  have hs : (sizeOf 3).run Try.prog w = .ok 1 w := by kernel_rfl
  have h1 : (j : Int) < (n : Int) := by omega
  simp [go_sem, Try.underlying22, h1, hj, hs]
theorem open_zs {H : Type} {enc : TypeId × Value → H} {w : World} {sp : Nat → Bool} {held : Bool} {fuel : Nat} {l : List Value} {x : DataW H × List MemPlace} (hf0 : DataW.trod enc Try.prog w 0 sp held fuel 22 l = some x) (hw : ∀ y ∈ x.1.weights Try.prog 22, y ≤ reachBytes) : ∃ a cap B O, ∃ zs : List Int, l = [.slice a zs.length cap] ∧ IntsAt w a cap B O zs := by
  have c1 : Try.prog.cellsOf 3 = 1 := by kernel_rfl
  have hby : Try.prog.bytesOf 3 = 8 := by kernel_rfl
  rcases open_ints Try.underlying22 Try.underlying3 c1 hf0 with ⟨rfl, rfl⟩ | ⟨a, len, cap, zs, rfl, hb, hl, hm, hlen, rfl, hc, hwf⟩
  · exact ⟨none, 0, 0, 0, [], rfl, fun h => absurd h (by simp), fun j hj => absurd hj (by simp), by simp, by simp⟩
  · have hlz : len ≤ zs.length := by rw [hlen]; split <;> omega
    have hbd : len ≤ 17592186044416 := by
      have h1 := hw _ (by simp only [DataW.weights, Try.underlying22]; exact List.mem_cons_self)
      rw [hby] at h1
      simp [reachBytes, lits] at h1
      omega
    have htl : (zs.take len).length = len := by simp; omega
    have hsp : 0 < len → a = ⟨a.block, a.off, none⟩ := by
      intro h0
      have := hc 0 (by omega)
      obtain ⟨b, off, spot⟩ := a
      have hspot : spot = none := by simpa [Addr.add] using World.cell?_spot this
      subst hspot
      rfl
    refine ⟨some a, cap, a.block, a.off, zs.take len, by rw [htl], fun h0 => ?_, fun j hj => ?_, by rw [htl]; exact hbd, fun z hz => hwf z (List.mem_of_mem_take hz)⟩
    · rw [htl] at h0; rw [← hsp h0]
    · rw [htl] at hj
      have := hc j (by omega)
      rw [hsp (by omega), Addr.add_lit] at this
      rw [this, List.getElem_take]
      simp [List.getD, show j < zs.length by omega]
/-- two rows that rise by an order, of the same numbers, are one. -/
theorem sorted_ext (R : Int → Int → Prop) (irr : ∀ x, ¬ R x x) (tr : ∀ x y z, R x y → R y z → R x z) (l l' : List Int) (h : l.Pairwise R) (h' : l'.Pairwise R) (hm : ∀ x, x ∈ l ↔ x ∈ l') : l = l' := by
  induction l generalizing l' with
  | nil =>
    rcases l' with _ | ⟨y, r⟩
    · rfl
    · exact absurd ((hm y).2 (by simp)) (by simp)
  | cons x r ih =>
    rcases l' with _ | ⟨y, s⟩
    · exact absurd ((hm x).1 (by simp)) (by simp)
    · have hx := List.pairwise_cons.1 h
      have hy := List.pairwise_cons.1 h'
      have e : x = y := by
        rcases List.mem_cons.1 ((hm x).1 (by simp)) with e | e
        · exact e
        · rcases List.mem_cons.1 ((hm y).2 (by simp)) with e2 | e2
          · exact e2.symm
          · exact absurd (tr _ _ _ (hx.1 y e2) (hy.1 x e)) (irr x)
      subst e
      congr 1
      apply ih s hx.2 hy.2
      intro z
      have hz := hm z
      simp only [List.mem_cons] at hz
      constructor
      · intro h1
        rcases hz.1 (.inr h1) with e | e
        · subst e; exact absurd (hx.1 z h1) (irr z)
        · exact e
      · intro h1
        rcases hz.2 (.inr h1) with e | e
        · subst e; exact absurd (hy.1 z h1) (irr z)
        · exact e
def LtZ (z : Int → Int) (x y : Int) : Prop := z x < z y ∨ z x = z y ∧ x < y
theorem LtZ.irr (z : Int → Int) (x : Int) : ¬ LtZ z x x := by unfold LtZ; omega
theorem LtZ.tr (z : Int → Int) (x y u : Int) : LtZ z x y → LtZ z y u → LtZ z x u := by unfold LtZ; omega
theorem sortZ_pair (z : Int → Int) (l : List Int) (h : l.Nodup) : (sortZ z l).Pairwise (LtZ z) := by
  have h1 := List.pairwise_mergeSort (le := leZ z) (fun a b c h1 h2 => by unfold leZ at *; simp only [decide_eq_true_eq] at *; omega) (fun a b => by unfold leZ; simp only [Bool.or_eq_true, decide_eq_true_eq]; omega) l
  have h2 := sortZ_nodup z l h
  rw [List.nodup_iff_pairwise_ne] at h2
  refine (h1.and h2).imp ?_
  rintro a b ⟨h3, h4⟩
  unfold leZ at h3
  simp only [decide_eq_true_eq] at h3
  unfold LtZ
  omega
/-- in two steps as in one. -/
theorem steps_eq {du : Int → Option Int} {a c n : Int} (hcn : c ≤ n) {all x y : List Int} (h1 : all.Nodup) (h2 : x.Nodup) (h3 : y.Nodup) (m1 : ∀ i, i ∈ all ↔ ∃ d, du i = some d ∧ d ≤ n) (m2 : ∀ i, i ∈ x ↔ ∃ d, du i = some d ∧ d ≤ c) (m3 : ∀ i, i ∈ y ↔ ∃ d, leftD c du i = some d ∧ d ≤ n) :
    sortZ (dz du) all = sortZ (dz du) x ++ sortZ (dz (leftD c du)) y := by
  have hz : ∀ i ∈ sortZ (dz (leftD c du)) y, dz (leftD c du) i = dz du i ∧ c < dz du i := by
    intro i hi
    obtain ⟨d, h4, _⟩ := (m3 i).1 ((sortZ_mem _ _ i).1 hi)
    obtain ⟨h5, h6⟩ := leftD_some.1 h4
    rw [dz_some h4, dz_some h5]
    exact ⟨rfl, h6⟩
  apply sorted_ext (LtZ (dz du)) (LtZ.irr _) (LtZ.tr _) _ _ (sortZ_pair _ _ h1)
  · rw [List.pairwise_append]
    refine ⟨sortZ_pair _ _ h2, ?_, ?_⟩
    · refine List.Pairwise.imp_of_mem ?_ (sortZ_pair _ _ h3)
      intro p q hp hq hl
      unfold LtZ at *
      rw [(hz p hp).1, (hz q hq).1] at hl
      exact hl
    · intro p hp q hq
      obtain ⟨d, h4, h5⟩ := (m2 p).1 ((sortZ_mem _ _ p).1 hp)
      left
      rw [dz_some h4]
      have := (hz q hq).2
      omega
  · intro i
    rw [List.mem_append, sortZ_mem, sortZ_mem, sortZ_mem, m1, m2, m3]
    constructor
    · rintro ⟨d, h4, h5⟩
      by_cases hc : d ≤ c
      · exact .inl ⟨d, h4, hc⟩
      · exact .inr ⟨d, leftD_some.2 ⟨h4, by omega⟩, h5⟩
    · rintro (⟨d, h4, h5⟩ | ⟨d, h4, h5⟩)
      · exact ⟨d, h4, by omega⟩
      · exact ⟨d, (leftD_some.1 h4).1, h5⟩
/-- the timers 0 to j - 1. -/
def duJ (zs : List Int) (M a : Int) (j : Nat) : Int → Option Int := fun i => if 0 ≤ i ∧ i < j then some (a + (zs.getD i.toNat 0) % M) else none
theorem duJ_zero (zs : List Int) (M a : Int) : duJ zs M a 0 = fun _ => none := by funext i; unfold duJ; rw [if_neg (by omega)]
theorem duJ_next (zs : List Int) (M a : Int) (j : Nat) (hj : j < zs.length) : setD (duJ zs M a j) (j : Int) (a + zs[j] % M) = duJ zs M a (j + 1) := by
  funext i
  unfold setD duJ
  by_cases e : i = (j : Int)
  · subst e
    rw [if_pos rfl, if_pos (by omega)]
    simp [List.getD, hj]
  · rw [if_neg e]
    by_cases h : 0 ≤ i ∧ i < (j : Int)
    · rw [if_pos h, if_pos (by omega)]
    · rw [if_neg h, if_neg (by omega)]
theorem duJ_none (zs : List Int) (M a : Int) (j : Nat) : duJ zs M a j (j : Int) = none := by unfold duJ; rw [if_neg (by omega)]
end Go.Proofs.Ytphijplgnffoiaa
