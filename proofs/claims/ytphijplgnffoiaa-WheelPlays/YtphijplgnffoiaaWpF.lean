/-
  The document's Advance, the pure part: the least one, again and again.
-/
import Derived.Test.YtphijplgnffoiaaWpE
import Derived.Test.YtphijplgnffoiaaWhJ
import Derived.Test.YtphijplgnffoiaaWsA
namespace Go.Proofs.Ytphijplgnffoiaa
set_option linter.unusedSimpArgs false
set_option linter.unusedVariables false

/-- a timer that goes off ahead of another. -/
def lessT (x y : Tm) : Prop := x.2 < y.2 ∨ (x.2 = y.2 ∧ x.1 < y.1)
theorem lk_mem {ts : List Tm} (h : Once ts) (i d : Int) : lk ts i = some d ↔ (i, d) ∈ ts := by
  induction ts with
  | nil => simp [lk]
  | cons x r ih =>
    have hr : Once r := by unfold Once at *; simpa using (List.nodup_cons.1 h).2
    have hx1 : x.1 ∉ r.map (·.1) := by unfold Once at h; exact (List.nodup_cons.1 h).1
    obtain ⟨a, b⟩ := x
    by_cases hx : a = i
    · subst hx
      simp only [lk, if_true, ite_true, List.mem_cons, Prod.mk.injEq, true_and, Option.some.injEq]
      constructor
      · intro e; exact .inl e.symm
      · rintro (e | e)
        · exact e.symm
        · exact absurd (List.mem_map.2 ⟨(a, d), e, rfl⟩) hx1
    · simp only [lk, if_neg hx, List.mem_cons, Prod.mk.injEq, ih hr]
      constructor
      · intro e; exact .inr e
      · rintro (e | e)
        · exact absurd e.1.symm hx
        · exact e
theorem once_perm {ts us : List Tm} (h : Once ts) (p : us.Perm ts) : Once us := by
  unfold Once at *
  exact (p.map (·.1)).nodup_iff.2 h
/-- those that went off, and those that are left. -/
structure Sel (tn : Int) (ts cs rs : List Tm) : Prop where
  perm : (cs ++ rs).Perm ts
  sort : cs.Pairwise lessT
  le : ∀ x ∈ cs, x.2 ≤ tn
  lo : ∀ x ∈ cs, ∀ y ∈ rs, y.2 ≤ tn → lessT x y
theorem sel_start (tn : Int) (ts : List Tm) : Sel tn ts [] ts := ⟨List.Perm.refl _, List.Pairwise.nil, by simp, by simp⟩
theorem take_drop_perm {rs : List Tm} {k : Nat} (hk : k < rs.length) {x : Tm} (hx : rs[k] = x) : (x :: (rs.take k ++ rs.drop (k + 1))).Perm rs := by
  have e : rs = rs.take k ++ x :: rs.drop (k + 1) := by rw [← hx, ← List.drop_eq_getElem_cons hk, List.take_append_drop]
  have := (List.perm_middle (a := x) (l₁ := rs.take k) (l₂ := rs.drop (k + 1))).symm
  rw [← e] at this
  exact this
theorem sel_step {tn : Int} {ts cs rs : List Tm} (h : Sel tn ts cs rs) (ho : Once ts) {k : Nat} (hk : k < rs.length) {x : Tm} (hx : rs[k] = x) (hle : x.2 ≤ tn) (hmin : ∀ y ∈ rs, y.2 ≤ tn → ¬ lessT y x) : Sel tn ts (cs ++ [x]) (rs.take k ++ rs.drop (k + 1)) := by
  have hp := take_drop_perm hk hx
  have hxm : x ∈ rs := by rw [← hx]; exact List.getElem_mem hk
  have hor : Once rs := by
    have := once_perm ho h.perm
    unfold Once at *
    rw [List.map_append, List.nodup_append] at this
    exact this.2.1
  have hox := once_perm hor hp
  have hsub : ∀ y ∈ rs.take k ++ rs.drop (k + 1), y ∈ rs := fun y hy => hp.mem_iff.1 (List.mem_cons_of_mem _ hy)
  refine ⟨?_, ?_, ?_, ?_⟩
  · have h1 : (cs ++ [x] ++ (rs.take k ++ rs.drop (k + 1))).Perm (cs ++ rs) := by
      rw [List.append_assoc]; exact hp.append_left cs
    exact h1.trans h.perm
  · rw [List.pairwise_append]
    refine ⟨h.sort, by simp, fun y hy z hz => ?_⟩
    obtain rfl := List.mem_singleton.1 hz
    exact h.lo y hy z hxm hle
  · intro y hy
    rcases List.mem_append.1 hy with hy | hy
    · exact h.le y hy
    · obtain rfl := List.mem_singleton.1 hy; exact hle
  · intro y hy z hz hzt
    rcases List.mem_append.1 hy with hy | hy
    · exact h.lo y hy z (hsub z hz) hzt
    · obtain rfl := List.mem_singleton.1 hy
      have h1 := hmin z (hsub z hz) hzt
      have h2 : z.1 ≠ y.1 := by
        unfold Once at hox
        have := (List.nodup_cons.1 hox).1
        exact fun e => this (List.mem_map.2 ⟨z, hz, e⟩)
      unfold lessT at *
      omega
theorem sel_once {tn : Int} {ts cs rs : List Tm} (h : Sel tn ts cs rs) (ho : Once ts) : Once rs ∧ (cs.map (·.1)).Nodup ∧ cs.length + rs.length = ts.length := by
  have h1 := once_perm ho h.perm
  have h2 := h.perm.length_eq
  unfold Once at *
  rw [List.map_append, List.nodup_append] at h1
  exact ⟨h1.2.1, h1.1, by rw [← h2, List.length_append]⟩
theorem sel_off {tn : Int} {ts cs rs : List Tm} (h : Sel tn ts cs rs) (ho : Once ts) (he : ∀ y ∈ rs, tn < y.2) (i : Int) : i ∈ cs.map (·.1) ↔ ∃ d, lk ts i = some d ∧ d ≤ tn := by
  constructor
  · intro hi
    obtain ⟨x, hx, rfl⟩ := List.mem_map.1 hi
    exact ⟨x.2, (lk_mem ho _ _).2 (h.perm.mem_iff.1 (List.mem_append_left _ hx)), h.le x hx⟩
  · rintro ⟨d, hd, hdt⟩
    have := h.perm.mem_iff.2 ((lk_mem ho _ _).1 hd)
    rcases List.mem_append.1 this with hm | hm
    · exact List.mem_map.2 ⟨_, hm, rfl⟩
    · exact absurd (he _ hm) (by simp; exact hdt)
theorem sel_time {tn : Int} {ts cs rs : List Tm} (h : Sel tn ts cs rs) (ho : Once ts) (x : Tm) (hx : x ∈ cs) : lk ts x.1 = some x.2 := (lk_mem ho _ _).2 (h.perm.mem_iff.1 (List.mem_append_left _ hx))
theorem sel_left {tn : Int} {ts cs rs : List Tm} (h : Sel tn ts cs rs) (ho : Once ts) (he : ∀ y ∈ rs, tn < y.2) (i d : Int) : lk rs i = some d ↔ lk ts i = some d ∧ tn < d := by
  have hor := (sel_once h ho).1
  rw [lk_mem hor, lk_mem ho]
  constructor
  · intro hm; exact ⟨h.perm.mem_iff.1 (List.mem_append_right _ hm), he _ hm⟩
  · rintro ⟨hm, hd⟩
    rcases List.mem_append.1 (h.perm.mem_iff.2 hm) with hc | hc
    · have := h.le _ hc; simp at this; omega
    · exact hc
theorem sel_leftD {tn : Int} {ts cs rs : List Tm} (h : Sel tn ts cs rs) (ho : Once ts) (he : ∀ y ∈ rs, tn < y.2) : lk rs = leftD tn (lk ts) := by
  funext i
  apply Option.ext
  intro d
  rw [leftD_some]
  exact sel_left h ho he i d
/-- what went off, in the order of the program's sort. -/
theorem sel_sort {tn : Int} {ts cs rs : List Tm} (h : Sel tn ts cs rs) (ho : Once ts) (he : ∀ y ∈ rs, tn < y.2) (off : List Int) (hn : off.Nodup) (hm : ∀ i, i ∈ off ↔ ∃ d, lk ts i = some d ∧ d ≤ tn) : sortZ (dz (lk ts)) off = cs.map (·.1) := by
  have hz : ∀ x ∈ cs, dz (lk ts) x.1 = x.2 := fun x hx => by unfold dz; rw [sel_time h ho x hx]; rfl
  let R : Int → Int → Prop := fun x y => dz (lk ts) x < dz (lk ts) y ∨ (dz (lk ts) x = dz (lk ts) y ∧ x < y)
  have hperm : (sortZ (dz (lk ts)) off).Perm off := List.mergeSort_perm _ _
  have hsort : (sortZ (dz (lk ts)) off).Pairwise (fun a b => leZ (dz (lk ts)) a b = true) := by
    unfold sortZ
    refine List.pairwise_mergeSort (le := leZ (dz (lk ts))) ?_ ?_ off
    · intro a b c; simp only [leZ, decide_eq_true_eq]; omega
    · intro a b; simp only [leZ, Bool.or_eq_true, decide_eq_true_eq]; omega
  have hnd : (sortZ (dz (lk ts)) off).Nodup := hperm.nodup_iff.2 hn
  refine sorted_ext R (fun x hx => ?_) (fun x y z h1 h2 => ?_) _ _ ?_ ?_ (fun x => ?_)
  · simp only [R] at hx; omega
  · simp only [R] at *; omega
  · refine (List.Pairwise.and hsort hnd).imp (fun {a b} hab => ?_)
    have h1 := hab.1
    simp only [leZ, decide_eq_true_eq] at h1
    have h2 := hab.2
    simp only [R]; omega
  · rw [List.pairwise_map]
    refine List.Pairwise.imp_of_mem (fun {a b} ha hb hab => ?_) h.sort
    simp only [R]
    rw [hz a ha, hz b hb]
    exact hab
  · rw [hperm.mem_iff, hm x, sel_off h ho he x]
end Go.Proofs.Ytphijplgnffoiaa
