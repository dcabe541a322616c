/-
  A wheel that is turned: which timers go off, and where the others wait.
-/
import Derived.Test.YtphijplgnffoiaaWhM
namespace Go.Proofs.Ytphijplgnffoiaa
set_option linter.unusedSimpArgs false
set_option linter.unusedVariables false

/-- when a timer goes off; 0 where there is none. -/
def dz (du : Int → Option Int) (i : Int) : Int := (du i).getD 0
def setL (L : Nat → List Int) (k : Nat) (l : List Int) : Nat → List Int := fun j => if j = k then l else L j
def putF (now : Int) (z : Int → Int) (L : Nat → List Int) (i : Int) : Nat → List Int := setL L (pk now.toNat (z i).toNat) (L (pk now.toNat (z i).toNat) ++ [i])
def sprS (now : Int) (z : Int → Int) (s : (Nat → List Int) × List Int) (i : Int) : (Nat → List Int) × List Int := if z i ≤ now then (s.1, s.2 ++ [i]) else (putF now z s.1 i, s.2)
def sprF (now : Int) (z : Int → Int) (s : (Nat → List Int) × List Int) (k : Nat) : (Nat → List Int) × List Int := (s.1 k).foldl (sprS now z) (setL s.1 k [], s.2)
/-- the lists of a level from a digit on. -/
def rowP (l d n : Nat) : List Nat := (List.range n).map fun i => 64 * l + (d + i)
def levF (a : Nat) (now : Int) (z : Int → Int) (s : (Nat → List Int) × List Int) (l : Nat) : (Nat → List Int) × List Int := (rowP l (dg a l) (64 - dg a l)).foldl (sprF now z) s
def turnF (a t : Int) (z : Int → Int) (L : Nat → List Int) : (Nat → List Int) × List Int :=
  (rowP (lv t.toNat a.toNat) (dg a.toNat (lv t.toNat a.toNat)) (dg t.toNat (lv t.toNat a.toNat) + 1 - dg a.toNat (lv t.toNat a.toNat))).foldl (sprF t z) ((List.range (lv t.toNat a.toNat)).foldl (levF a.toNat t z) (L, []))
/-- the timers wait where they should. -/
structure Waits (now : Int) (du : Int → Option Int) (L : Nat → List Int) : Prop where
  time : 0 ≤ now ∧ now ≤ 1099511627776
  due : ∀ i d, du i = some d → now ≤ d ∧ d ≤ 1099511627776
  nodup : ∀ k, (L k).Nodup
  mem : ∀ k i, i ∈ L k ↔ ∃ d, du i = some d ∧ pk now.toNat d.toNat = k
theorem Waits.z {now : Int} {du : Int → Option Int} {L : Nat → List Int} (h : Waits now du L) (i : Int) : 0 ≤ dz du i ∧ dz du i ≤ 1099511627776 := by
  unfold dz
  rcases hd : du i with _ | d
  · simp
  · have := h.due i d hd; have := h.time; simp; omega
theorem dz_some {du : Int → Option Int} {i d : Int} (h : du i = some d) : dz du i = d := by unfold dz; rw [h]; rfl
/-- all that is in a list is due: it goes off as it stands. -/
theorem spr_all (now : Int) (z : Int → Int) (l : List Int) (s : (Nat → List Int) × List Int) (h : ∀ i ∈ l, z i ≤ now) : l.foldl (sprS now z) s = (s.1, s.2 ++ l) := by
  induction l generalizing s with
  | nil => simp
  | cons i r ih =>
    rw [List.foldl_cons]
    have : sprS now z s i = (s.1, s.2 ++ [i]) := by unfold sprS; rw [if_pos (h i (by simp))]
    rw [this, ih _ (fun j hj => h j (by simp [hj]))]
    simp
theorem spr_split (now : Int) (z : Int → Int) (l : List Int) (s : (Nat → List Int) × List Int) : l.foldl (sprS now z) s = (fun j => s.1 j ++ l.filter (fun i => decide (¬ z i ≤ now) && decide (pk now.toNat (z i).toNat = j)), s.2 ++ l.filter (fun i => decide (z i ≤ now))) := by
  induction l generalizing s with
  | nil => simp
  | cons i r ih =>
    rw [List.foldl_cons, ih]
    by_cases h : z i ≤ now
    · have : sprS now z s i = (s.1, s.2 ++ [i]) := by unfold sprS; rw [if_pos h]
      rw [this]
      have h' : ¬ now < z i := by omega
      simp [List.filter_cons, h, h']
    · have : sprS now z s i = (putF now z s.1 i, s.2) := by unfold sprS; rw [if_neg h]
      rw [this]
      refine Prod.ext ?_ (by simp [List.filter_cons, h])
      funext j
      simp only [putF, setL]
      by_cases e : j = pk now.toNat (z i).toNat
      · subst e; simp [List.filter_cons, h]
      · have e' : ¬ pk now.toNat (z i).toNat = j := fun x => e x.symm
        simp [List.filter_cons, h, e, e']
/-- lists of which all is due, one by one. -/
theorem rows_all (now : Int) (z : Int → Int) (ks : List Nat) (L : Nat → List Int) (off : List Int) (hn : ks.Nodup) (h : ∀ k ∈ ks, ∀ i ∈ L k, z i ≤ now) : ks.foldl (sprF now z) (L, off) = (fun j => if j ∈ ks then [] else L j, off ++ ks.flatMap L) := by
  induction ks generalizing L off with
  | nil => simp
  | cons k r ih =>
    rw [List.foldl_cons]
    have hk := spr_all now z (L k) (setL L k [], off) (h k (by simp))
    have e1 : sprF now z (L, off) k = (setL L k [], off ++ L k) := hk
    have hn' := List.nodup_cons.1 hn
    rw [e1, ih _ _ hn'.2 (fun q hq i hi => ?_)]
    · refine Prod.ext ?_ ?_
      · funext j
        by_cases hj : j ∈ r
        · simp [hj]
        · by_cases e : j = k
          · subst e; simp [hj, setL]
          · simp [hj, e, setL]
      · have : r.flatMap (setL L k []) = r.flatMap L := by
          have hc : ∀ q ∈ r, setL L k [] q = L q := by
            intro q hq
            have : q ≠ k := fun e => hn'.1 (e ▸ hq)
            simp [setL, this]
          rw [List.flatMap_def, List.flatMap_def, List.map_congr_left hc]
        simp [this]
    · have : q ≠ k := fun e => hn'.1 (e ▸ hq)
      simp only [setL, if_neg this] at hi
      exact h q (by simp [hq]) i hi
theorem mem_rowP {l d n k : Nat} : k ∈ rowP l d n ↔ ∃ a, k = 64 * l + a ∧ d ≤ a ∧ a < d + n := by
  unfold rowP
  simp only [List.mem_map, List.mem_range]
  constructor
  · rintro ⟨i, hi, rfl⟩; exact ⟨d + i, rfl, by omega, by omega⟩
  · rintro ⟨a, rfl, h1, h2⟩; exact ⟨a - d, by omega, by omega⟩
theorem nodup_rowP (l d n : Nat) : (rowP l d n).Nodup := by
  unfold rowP
  rw [List.nodup_iff_pairwise_ne, List.pairwise_map]
  exact (List.nodup_range (n := n)).imp (fun h e => h (by omega))
/-- the lists that are gone through, ahead of the last one. -/
def allP (a t : Nat) : List Nat := (List.range (lv t a)).flatMap (fun l => rowP l (dg a l) (64 - dg a l)) ++ rowP (lv t a) (dg a (lv t a)) (dg t (lv t a) - dg a (lv t a))
theorem fold_levs (a : Nat) (now : Int) (z : Int → Int) (ls : List Nat) (s : (Nat → List Int) × List Int) : ls.foldl (levF a now z) s = (ls.flatMap (fun l => rowP l (dg a l) (64 - dg a l))).foldl (sprF now z) s := by
  induction ls generalizing s with
  | nil => rfl
  | cons l r ih => rw [List.foldl_cons, List.flatMap_cons, List.foldl_append, ih]; rfl
theorem rowP_last (l d n : Nat) (h : d ≤ n) : rowP l d (n + 1 - d) = rowP l d (n - d) ++ [64 * l + n] := by
  unfold rowP
  rw [show n + 1 - d = (n - d) + 1 by omega, List.range_succ, List.map_append]
  simp; omega
theorem turnF_eq (a t : Int) (z : Int → Int) (L : Nat → List Int) (h : dg a.toNat (lv t.toNat a.toNat) ≤ dg t.toNat (lv t.toNat a.toNat)) : turnF a t z L = sprF t z ((allP a.toNat t.toNat).foldl (sprF t z) (L, [])) (64 * lv t.toNat a.toNat + dg t.toNat (lv t.toNat a.toNat)) := by
  unfold turnF allP
  rw [rowP_last _ _ _ h, fold_levs, List.foldl_append, List.foldl_append]
  rfl
theorem allP_mem (a t k : Nat) (ht : dg t (lv t a) < 64) : k ∈ allP a t ↔ ∃ l d, k = 64 * l + d ∧ d < 64 ∧ dg a l ≤ d ∧ (l < lv t a ∨ l = lv t a ∧ d < dg t (lv t a)) := by
  unfold allP
  rw [List.mem_append, List.mem_flatMap]
  constructor
  · rintro (⟨l, hl, hk⟩ | hk)
    · obtain ⟨d, rfl, h1, h2⟩ := mem_rowP.1 hk
      exact ⟨l, d, rfl, by omega, h1, .inl (by simpa using hl)⟩
    · obtain ⟨d, rfl, h1, h2⟩ := mem_rowP.1 hk
      exact ⟨lv t a, d, rfl, by omega, h1, .inr ⟨rfl, by omega⟩⟩
  · rintro ⟨l, d, rfl, h1, h2, h3 | ⟨rfl, h3⟩⟩
    · exact .inl ⟨l, by simpa using h3, mem_rowP.2 ⟨d, rfl, h2, by omega⟩⟩
    · exact .inr (mem_rowP.2 ⟨d, rfl, h2, by omega⟩)
theorem allP_nodup (a t : Nat) (ht : dg t (lv t a) < 64) : (allP a t).Nodup := by
  unfold allP
  rw [List.nodup_append]
  refine ⟨?_, nodup_rowP _ _ _, ?_⟩
  · rw [List.nodup_iff_pairwise_ne, List.pairwise_flatMap]
    refine ⟨fun l _ => nodup_rowP _ _ _, ?_⟩
    refine (List.nodup_range (n := lv t a)).imp (fun {l m} h x hx y hy e => ?_)
    obtain ⟨d, rfl, h1, h2⟩ := mem_rowP.1 hx
    obtain ⟨e', rfl, h3, h4⟩ := mem_rowP.1 hy
    have := dg_lt a l
    have := dg_lt a m
    exact h (by omega)
  · intro x hx y hy e
    obtain ⟨l, hl, hk⟩ := List.mem_flatMap.1 hx
    obtain ⟨d, rfl, h1, h2⟩ := mem_rowP.1 hk
    obtain ⟨e', rfl, h3, h4⟩ := mem_rowP.1 hy
    have := dg_lt a l
    have : l < lv t a := by simpa using hl
    omega
/-- the timers that are left. -/
def leftD (t : Int) (du : Int → Option Int) : Int → Option Int := fun i => match du i with | some d => if d ≤ t then none else some d | none => none
theorem leftD_some {t : Int} {du : Int → Option Int} {i d : Int} : leftD t du i = some d ↔ du i = some d ∧ t < d := by
  unfold leftD
  rcases h : du i with _ | e
  · simp
  · by_cases h2 : e ≤ t
    · simp [h2]; intro h3; omega
    · simp [h2]; intro h3; omega
/-- A wheel that is turned tells just the timers that are due, each once, and the others wait where they should. -/
theorem turn_ok {a t : Int} {du : Int → Option Int} {L : Nat → List Int} (h : Waits a du L) (hat : a ≤ t) (ht : t ≤ 1099511627776) :
    Waits t (leftD t du) (turnF a t (dz du) L).1 ∧ (turnF a t (dz du) L).2.Nodup ∧ ∀ i, i ∈ (turnF a t (dz du) L).2 ↔ ∃ d, du i = some d ∧ d ≤ t := by
  have ha0 := h.time
  obtain ⟨A, hA⟩ : ∃ A : Nat, a = A := ⟨a.toNat, by omega⟩
  obtain ⟨T, hT⟩ : ∃ T : Nat, t = T := ⟨t.toNat, by omega⟩
  subst hA; subst hT
  have hA1 : A < 2 ^ 64 := by omega
  have hT1 : T < 2 ^ 64 := by omega
  have hAT : A ≤ T := by omega
  have hlast : dg A (lv T A) ≤ dg T (lv T A) := (later_dg A T hA1 hT1 hAT).1
  have hltT := dg_lt T (lv T A)
  rw [turnF_eq _ _ _ _ (by simpa using hlast)]
  simp only [Int.toNat_natCast]
  -- where a timer is
  have hpos : ∀ k i, i ∈ L k → ∃ D : Nat, du i = some (D : Int) ∧ A ≤ D ∧ D < 2 ^ 64 ∧ pk A D = k ∧ dz du i = (D : Int) := by
    intro k i hi
    obtain ⟨d, h1, h2⟩ := (h.mem k i).1 hi
    have h3 := h.due i d h1
    refine ⟨d.toNat, ?_, by omega, by omega, by simpa using h2, ?_⟩
    · rw [h1]; congr 1; omega
    · rw [dz_some h1]; omega
  have hall : ∀ k ∈ allP A T, ∀ i ∈ L k, dz du i ≤ (T : Int) := by
    intro k hk i hi
    obtain ⟨D, h1, h2, h3, h4, h5⟩ := hpos k i hi
    obtain ⟨l, d, e1, e2, e3, e4⟩ := (allP_mem A T k hltT).1 hk
    have hd := dg_lt D (lv D A)
    unfold pk at h4
    rw [e1, pk_inj hd e2] at h4
    obtain ⟨f1, f2⟩ := h4
    rw [h5]
    rcases e4 with e4 | ⟨e4, e5⟩
    · have := below_top A T D hA1 hT1 h3 hAT (by omega); omega
    · have := at_top_lt A T D hA1 hT1 h3 (by omega) (by rw [← e4, ← f1]; rw [f2, f1, e4]; exact e5); omega
  rw [rows_all _ _ _ _ _ (allP_nodup A T hltT) hall]
  generalize hK : 64 * lv T A + dg T (lv T A) = K
  have hKn : K ∉ allP A T := by
    intro hc
    obtain ⟨l, d, e1, e2, e3, e4⟩ := (allP_mem A T K hltT).1 hc
    rw [← hK, pk_inj hltT e2] at e1
    omega
  unfold sprF
  rw [spr_split]
  simp only [Int.toNat_natCast, if_neg hKn, List.nil_append]
  have hz := fun i => h.z i
  -- a timer's list, by its time
  have hin : ∀ i (D : Nat), du i = some (D : Int) → i ∈ L (pk A D) := fun i D hd => (h.mem _ i).2 ⟨D, hd, by simp⟩
  have hD : ∀ i d, du i = some d → ∃ D : Nat, d = D ∧ A ≤ D ∧ D < 2 ^ 64 := by
    intro i d hd
    have := h.due i d hd
    exact ⟨d.toNat, by omega, by omega, by omega⟩
  -- which lists a timer may lie in
  have hcase : ∀ D : Nat, A ≤ D → D < 2 ^ 64 → (pk A D ∈ allP A T ∧ D < T) ∨ (pk A D = K ∧ (T < D → lv D T < lv T A)) ∨ (pk A D ∉ allP A T ∧ pk A D ≠ K ∧ T < D ∧ pk T D = pk A D) := by
    intro D hD1 hD2
    have hl := (later_dg A D hA1 hD2 hD1).1
    have hd := dg_lt D (lv D A)
    rcases Nat.lt_trichotomy (lv D A) (lv T A) with hc | hc | hc
    · exact .inl ⟨(allP_mem A T _ hltT).2 ⟨lv D A, dg D (lv D A), rfl, hd, hl, .inl hc⟩, below_top A T D hA1 hT1 hD2 hAT hc⟩
    · rcases Nat.lt_trichotomy (dg D (lv D A)) (dg T (lv T A)) with hq | hq | hq
      · exact .inl ⟨(allP_mem A T _ hltT).2 ⟨lv D A, dg D (lv D A), rfl, hd, hl, .inr ⟨hc, hq⟩⟩, at_top_lt A T D hA1 hT1 hD2 hc (by rw [← hc]; rw [← hc] at hq; exact hq)⟩
      · refine .inr (.inl ⟨by unfold pk; rw [hq, hc]; exact hK, fun hg => at_top_eq A T D hA1 hT1 hD2 hc (by rw [← hc]; rw [← hc] at hq; exact hq) hg⟩)
      · have hg := at_top_gt A T D hA1 hT1 hD2 hc (by rw [hc] at hq; exact hq)
        refine .inr (.inr ⟨fun hm => ?_, fun e => ?_, hg.1, ?_⟩)
        · obtain ⟨l, d, e1, e2, e3, e4⟩ := (allP_mem A T _ hltT).1 hm
          unfold pk at e1
          rw [pk_inj hd e2] at e1
          omega
        · unfold pk at e
          rw [← hK, pk_inj hd hltT] at e
          omega
        · unfold pk; rw [hg.2, hc]
    · have hg := above_top A T D hA1 hT1 hD2 hD1 hc
      refine .inr (.inr ⟨fun hm => ?_, fun e => ?_, hg.1, ?_⟩)
      · obtain ⟨l, d, e1, e2, e3, e4⟩ := (allP_mem A T _ hltT).1 hm
        unfold pk at e1
        rw [pk_inj hd e2] at e1
        omega
      · unfold pk at e
        rw [← hK, pk_inj hd hltT] at e
        omega
      · unfold pk; rw [hg.2]
  refine ⟨⟨by omega, ?_, ?_, ?_⟩, ?_, ?_⟩
  · intro i d hd
    obtain ⟨h1, h2⟩ := leftD_some.1 hd
    have := h.due i d h1
    omega
  · intro k
    by_cases e : k = K
    · subst e
      simp only [setL, if_true, List.nil_append]
      exact (h.nodup _).filter _
    · simp only [setL, if_neg e]
      by_cases hm : k ∈ allP A T
      · simp only [if_pos hm, List.nil_append]
        exact (h.nodup _).filter _
      · simp only [if_neg hm]
        rw [List.nodup_append]
        refine ⟨h.nodup _, (h.nodup _).filter _, fun x hx y hy e2 => ?_⟩
        subst e2
        obtain ⟨D, h1, h2, h3, h4, h5⟩ := hpos k x hx
        obtain ⟨D', h1', h2', h3', h4', h5'⟩ := hpos K x (List.mem_filter.1 hy).1
        rw [h1] at h1'
        have : D = D' := by have := Option.some.inj h1'; omega
        subst this
        exact e (h4.symm.trans h4')
  · intro k i
    have key : ∀ D : Nat, du i = some (D : Int) → A ≤ D → D < 2 ^ 64 → (i ∈ (setL (fun j => if j ∈ allP A T then [] else L j) K []) k ++ (L K).filter (fun i => decide (¬ dz du i ≤ (T : Int)) && decide (pk T (dz du i).toNat = k)) ↔ T < D ∧ pk T D = k) := by
      intro D hd hD1 hD2
      have hzD : dz du i = (D : Int) := dz_some hd
      have hi := hin i D hd
      have huniq : ∀ q, i ∈ L q → q = pk A D := by
        intro q hq
        obtain ⟨D', h1', _, _, h4', _⟩ := hpos q i hq
        rw [hd] at h1'
        have : D = D' := by have := Option.some.inj h1'; omega
        subst this; exact h4'.symm
      rw [List.mem_append, List.mem_filter]
      simp only [hzD, Int.toNat_natCast, Bool.and_eq_true, decide_eq_true_eq]
      constructor
      · rintro (hm | ⟨hm, h1, h2⟩)
        · by_cases e : k = K
          · subst e; simp [setL] at hm
          · simp only [setL, if_neg e] at hm
            by_cases hmm : k ∈ allP A T
            · simp [hmm] at hm
            · simp only [if_neg hmm] at hm
              have hq := huniq k hm
              subst hq
              rcases hcase D hD1 hD2 with ⟨c1, c2⟩ | ⟨c1, c2⟩ | ⟨c1, c2, c3, c4⟩
              · exact absurd c1 hmm
              · exact absurd c1 e
              · exact ⟨c3, c4⟩
        · exact ⟨by omega, h2⟩
      · rintro ⟨h1, h2⟩
        rcases hcase D hD1 hD2 with ⟨c1, c2⟩ | ⟨c1, c2⟩ | ⟨c1, c2, c3, c4⟩
        · omega
        · exact .inr ⟨c1 ▸ hi, by omega, h2⟩
        · left
          rw [c4] at h2
          subst h2
          simp only [setL, if_neg c2, if_neg c1]
          exact hi
    constructor
    · intro hm
      have : ∃ d, du i = some d := by
        rcases List.mem_append.1 hm with hm | hm
        · by_cases e : k = K
          · subst e; simp [setL] at hm
          · simp only [setL, if_neg e] at hm
            by_cases hmm : k ∈ allP A T
            · simp [hmm] at hm
            · simp only [if_neg hmm] at hm
              obtain ⟨d, h1, _⟩ := (h.mem k i).1 hm
              exact ⟨d, h1⟩
        · obtain ⟨d, h1, _⟩ := (h.mem K i).1 (List.mem_filter.1 hm).1
          exact ⟨d, h1⟩
      obtain ⟨d, hd⟩ := this
      obtain ⟨D, rfl, hD1, hD2⟩ := hD i d hd
      have := (key D hd hD1 hD2).1 hm
      exact ⟨D, leftD_some.2 ⟨hd, by omega⟩, by simpa using this.2⟩
    · rintro ⟨d, hd, h2⟩
      obtain ⟨h1, h3⟩ := leftD_some.1 hd
      obtain ⟨D, rfl, hD1, hD2⟩ := hD i d h1
      exact (key D h1 hD1 hD2).2 ⟨by omega, by simpa using h2⟩
  · rw [List.nodup_append]
    refine ⟨?_, (h.nodup _).filter _, ?_⟩
    · rw [List.nodup_iff_pairwise_ne, List.pairwise_flatMap]
      refine ⟨fun k _ => h.nodup k, ?_⟩
      refine (allP_nodup A T hltT).imp (fun {k m} hne x hx y hy e => ?_)
      subst e
      obtain ⟨D, h1, _, _, h4, _⟩ := hpos k x hx
      obtain ⟨D', h1', _, _, h4', _⟩ := hpos m x hy
      rw [h1] at h1'
      have : D = D' := by have := Option.some.inj h1'; omega
      subst this
      exact hne (h4.symm.trans h4')
    · intro x hx y hy e
      subst e
      obtain ⟨k, hk, hx'⟩ := List.mem_flatMap.1 hx
      obtain ⟨D, h1, _, _, h4, _⟩ := hpos k x hx'
      obtain ⟨D', h1', _, _, h4', _⟩ := hpos K x (List.mem_filter.1 hy).1
      rw [h1] at h1'
      have : D = D' := by have := Option.some.inj h1'; omega
      subst this
      exact hKn (by rw [← h4', h4]; exact hk)
  · intro i
    rw [List.mem_append, List.mem_flatMap, List.mem_filter]
    constructor
    · rintro (⟨k, hk, hi⟩ | ⟨hi, h2⟩)
      · obtain ⟨D, h1, _, _, _, h5⟩ := hpos k i hi
        exact ⟨D, h1, by rw [← h5]; exact hall k hk i hi⟩
      · obtain ⟨D, h1, _, _, _, h5⟩ := hpos K i hi
        exact ⟨D, h1, by rw [← h5]; simpa using h2⟩
    · rintro ⟨d, hd, hle⟩
      obtain ⟨D, rfl, hD1, hD2⟩ := hD i d hd
      rcases hcase D hD1 hD2 with ⟨c1, c2⟩ | ⟨c1, c2⟩ | ⟨c1, c2, c3, c4⟩
      · exact .inl ⟨_, c1, hin i D hd⟩
      · exact .inr ⟨c1 ▸ hin i D hd, by rw [dz_some hd]; simpa using hle⟩
      · omega
end Go.Proofs.Ytphijplgnffoiaa
