/-
  Advance upon a wheel; a timer more, a timer less (the mathematics).
-/
import Derived.Test.YtphijplgnffoiaaWhN
namespace Go.Proofs.Ytphijplgnffoiaa
open Go.ChangeShapes Go.WideShapes Go.ChangeAt Go.RowKit Go.Maps
set_option linter.unusedSimpArgs false
set_option linter.unusedVariables false

theorem tot_fold {T : Nat} (now : Int) (z : Int → Int) (hn : 0 ≤ now ∧ now ≤ 1099511627776) (hz : ∀ i, 0 ≤ z i ∧ z i ≤ 1099511627776) (ks : List Nat) (hk : ∀ k ∈ ks, k < 448) (s : (Nat → List Int) × List Int) (h : Tot T s) : Tot T (ks.foldl (sprF now z) s) := by
  induction ks generalizing s with
  | nil => exact h
  | cons k r ih => exact ih (fun q hq => hk q (by simp [hq])) _ (tot_spr now z hn hz s h k (hk k (by simp)))
theorem tot_turn {T : Nat} {a t : Nat} (z : Int → Int) (hat : a ≤ t) (ht : t ≤ 1099511627776) (hz : ∀ i, 0 ≤ z i ∧ z i ≤ 1099511627776) (L : Nat → List Int) (h : Tot T (L, [])) : Tot T (turnF (a : Int) (t : Int) z L) := by
  have h6 := lv_le t a ht (by omega)
  have hl := dg_lt t (lv t a)
  have hle : dg a (lv t a) ≤ dg t (lv t a) := (later_dg a t (by omega) (by omega) hat).1
  unfold turnF
  simp only [Int.toNat_natCast]
  rw [fold_levs]
  refine tot_fold _ z (by omega) hz _ (fun k hk => ?_) _ (tot_fold _ z (by omega) hz _ (fun k hk => ?_) _ h)
  · obtain ⟨q, rfl, h1, h2⟩ := mem_rowP.1 hk; omega
  · obtain ⟨l, hl', hk'⟩ := List.mem_flatMap.1 hk
    obtain ⟨q, rfl, h1, h2⟩ := mem_rowP.1 hk'
    have := dg_lt a l
    have : l < lv t a := by simpa using hl'
    omega
theorem sortZ_mem (z : Int → Int) (l : List Int) (i : Int) : i ∈ sortZ z l ↔ i ∈ l := by unfold sortZ; simp
theorem sortZ_nodup (z : Int → Int) (l : List Int) (h : l.Nodup) : (sortZ z l).Nodup := ((List.mergeSort_perm l (leZ z)).nodup_iff).2 h
theorem sortZ_length (z : Int → Int) (l : List Int) : (sortZ z l).length = l.length := by simp [sortZ]
theorem advance_ok {w : World} {b o : Nat} {t : TypeId} {cs : Array Value} {now tn : Int} {du : Int → Option Int} {cnt : Nat} {F : Nat → Prop} (h : Wheel' w b t cs o now du cnt F) (h1 : now ≤ tn) (h2 : tn ≤ 1099511627776) :
    Calls Try.prog 10 #[.pointer (some ⟨b, o, none⟩), .int .i64 tn] w fun e w' => ∃ v, e = .returned (.tuple #[v, .int .i64 0]) ∧ ∃ off cs' F' cnt', off.Nodup ∧ (∀ i, i ∈ off ↔ ∃ d, du i = some d ∧ d ≤ tn) ∧ Own w' v (sortZ (dz du) off) ∧ NotIn v F' ∧ Wheel' w' b t cs' o tn (leftD tn du) cnt' F' ∧ SameOut o cs cs' ∧ Gr F w w' ∧ (∀ c, F' c → F c ∨ w.heap.size ≤ c) ∧ (∀ c, v.ownBlock = some c → w.heap.size ≤ c) ∧ cnt' + off.length = cnt := by
  obtain ⟨mb, D, vs, L, hwm, hrd, hwt, hwf, hsum, hsize, hcnt, hF⟩ := h
  have ht := hwt.time
  obtain ⟨A, rfl⟩ : ∃ A : Nat, now = A := ⟨now.toNat, by omega⟩
  obtain ⟨T, rfl⟩ : ∃ T : Nat, tn = T := ⟨tn.toNat, by omega⟩
  have hz := hwt.z
  have hsays := hrd.says hz
  have htot : Tot cnt (L, []) := ⟨by simpa using hsum, fun m hm => waits_beyond hwt m hm, fun k i hi => waits_wf hwt hwf k i hi⟩
  have hmb : mb = none → ∀ i, du i = none := fun e i => by
    rcases hwm.map with ⟨_, hD⟩ | ⟨bm, n, e2, _⟩
    · rw [hD] at hrd; exact reads_empty hrd i
    · rw [e] at e2; cases e2
  obtain ⟨g1, g2, g3⟩ := turn_ok hwt h1 h2
  have htt := tot_turn (dz du) (by omega : A ≤ T) (by omega) hz L htot
  have hoff : mb = none → (turnF (A : Int) (T : Int) (dz du) L).2 = [] := fun e => by
    rcases hl : (turnF (A : Int) (T : Int) (dz du) L).2 with _ | ⟨i, r⟩
    · rfl
    · obtain ⟨d, hd, _⟩ := (g3 i).1 (by rw [hl]; simp)
      rw [hmb e i] at hd; cases hd
  refine (advance_mid hwm (dz du) hsays hz (by omega) (by omega) (by omega) htot (fun e k => waits_none hwt (hmb e) k) (by have := htt.off; omega) hoff (fun i hi => by obtain ⟨d, hd, _⟩ := (g3 i).1 hi; exact hwf i d hd)).mono ?_
  rintro e w' ⟨v, rfl, cs', vs', hw', hown, hout, hso, hgr, hfp, hov⟩
  have hsm := sortZ_mem (dz du) (turnF (A : Int) (T : Int) (dz du) L).2
  have hrl := reads_delF (sortZ (dz du) (turnF (A : Int) (T : Int) (dz du) L).2) hrd
  rw [leftD_dels (t := (T : Int)) (fun i => (hsm i).trans (g3 i))] at hrl
  have hsz := size_delF _ hrd (sortZ_nodup (dz du) _ g2) (fun i hi => by obtain ⟨d, hd, _⟩ := (g3 i).1 ((hsm i).1 hi); rw [hd]; rfl)
  rw [sortZ_length] at hsz
  have hs2 := htt.sum
  refine ⟨v, rfl, _, cs', Fp b mb vs', Maps.size (delF D (sortZ (dz du) (turnF (A : Int) (T : Int) (dz du) L).2)), g2, g3, hown, hout, ⟨mb, _, vs', _, hw', hrl, g1, fun i d hd => hwf i d (leftD_some.1 hd).1, by omega, rfl, by omega, fun c hc => hc⟩, hso, hgr.mono hF, fun c hc => (hfp c hc).imp (hF c) id, hov, by omega⟩
set_option maxHeartbeats 1000000 in
theorem advance_err {w : World} {b o : Nat} {t : TypeId} {cs : Array Value} {now : Int} {du : Int → Option Int} {cnt : Nat} {F : Nat → Prop} (h : Wheel' w b t cs o now du cnt F) (tn : Int) (he : tn < now ∨ 1099511627776 < tn) :
    Calls Try.prog 10 #[.pointer (some ⟨b, o, none⟩), .int .i64 tn] w fun e w' => e = .returned (.tuple #[.slice none 0 0, .int .i64 2]) ∧ Below w.heap.size w w' := by
  obtain ⟨mb, D, vs, L, hwm, hrd, hwt, hwf, hsum, hsize, hcnt, hF⟩ := h
  have ht := hwt.time
  have c0 := cell_alloc ((hwm.cell o).trans hwm.c0) (.cells #[.pointer (some ⟨b, o, none⟩)] 24)
  have hB := (Below.refl w.heap.size w).alloc (Nat.le_refl _) (.cells #[.pointer (some ⟨b, o, none⟩)] 24)
  by_cases hl : tn < now
  · clear hwt hcnt hF ht he
    go_enter Try.func10, Try.ntmps10
    go_wp2
    go_ret2
    exact ⟨rfl, hB⟩
  · have CI := fun w => isTime_no tn w (by omega)
    clear hwt hcnt hF ht he
    go_enter Try.func10, Try.ntmps10
    go_wp2_with (first
      | (go_at_call 20; refine (CI _).mono ?_; rintro e w' ⟨rfl, hw⟩; rw [hw]; clear hw w'))
    go_ret2
    exact ⟨rfl, hB⟩
theorem erase_idx (l : List Int) (i : Int) : l.eraseIdx (l.idxOf i) = l.erase i := by
  induction l with
  | nil => rfl
  | cons b r ih =>
    by_cases e : b = i
    · subst e; simp
    · have e' : (b == i) = false := by simpa using e
      rw [List.idxOf_cons, e', List.erase_cons, if_neg (by simp [e'])]
      simp [ih]
theorem waits_put {now d : Int} {du : Int → Option Int} {L : Nat → List Int} (h : Waits now du L) (i : Int) (hi : du i = none) (h1 : now ≤ d) (h2 : d ≤ 1099511627776) : Waits now (setD du i d) (setL L (pk now.toNat d.toNat) (L (pk now.toNat d.toNat) ++ [i])) := by
  have hni : ∀ k, i ∉ L k := fun k hk => by obtain ⟨e, he, _⟩ := (h.mem k i).1 hk; rw [hi] at he; cases he
  refine ⟨h.time, fun j e he => ?_, fun k => ?_, fun k j => ?_⟩
  · unfold setD at he
    split at he
    · cases he; exact ⟨h1, h2⟩
    · exact h.due j e he
  · unfold setL
    split
    · rw [List.nodup_append]
      exact ⟨h.nodup _, by simp, fun x hx y hy e => by have e2 : y = i := (by simpa using hy); rw [e, e2] at hx; exact hni _ hx⟩
    · exact h.nodup k
  · unfold setL setD
    by_cases ej : j = i
    · subst ej
      constructor
      · intro hm
        refine ⟨d, by simp, ?_⟩
        split at hm
        · rename_i e; exact e.symm
        · exact absurd hm (hni k)
      · rintro ⟨e, he, hp⟩
        simp at he
        subst he
        rw [if_pos hp.symm]; simp
    · simp only [if_neg ej]
      constructor
      · intro hm
        split at hm
        · rename_i e
          rcases List.mem_append.1 hm with h3 | h3
          · have := (h.mem _ j).1 h3; rw [e]; exact this
          · exact absurd (by simpa using h3) ej
        · exact (h.mem k j).1 hm
      · intro hm
        have := (h.mem k j).2 hm
        split
        · rename_i e; rw [← e]; exact List.mem_append_left _ this
        · exact this
theorem waits_del {now d : Int} {du : Int → Option Int} {L : Nat → List Int} (h : Waits now du L) (i : Int) (hi : du i = some d) : Waits now (delD du i) (setL L (pk now.toNat d.toNat) ((L (pk now.toNat d.toNat)).eraseIdx ((L (pk now.toNat d.toNat)).idxOf i))) := by
  rw [erase_idx]
  refine ⟨h.time, fun j e he => ?_, fun k => ?_, fun k j => ?_⟩
  · unfold delD at he
    split at he
    · cases he
    · exact h.due j e he
  · unfold setL
    split
    · exact (h.nodup _).erase _
    · exact h.nodup k
  · unfold setL delD
    by_cases ej : j = i
    · subst ej
      simp only [if_true]
      constructor
      · intro hm
        split at hm
        · exact absurd hm (by rw [(h.nodup _).mem_erase_iff]; simp)
        · rename_i e
          obtain ⟨e', he', hp⟩ := (h.mem k j).1 hm
          rw [hi] at he'; cases he'
          exact absurd hp.symm e
      · rintro ⟨e, he, _⟩; cases he
    · simp only [if_neg ej]
      constructor
      · intro hm
        split at hm
        · rename_i e
          have := (h.mem _ j).1 (List.mem_of_mem_erase hm)
          rw [e]; exact this
        · exact (h.mem k j).1 hm
      · intro hm
        have := (h.mem k j).2 hm
        split
        · rename_i e
          rw [(h.nodup _).mem_erase_iff]
          exact ⟨ej, by rw [← e]; exact this⟩
        · exact this
end Go.Proofs.Ytphijplgnffoiaa
