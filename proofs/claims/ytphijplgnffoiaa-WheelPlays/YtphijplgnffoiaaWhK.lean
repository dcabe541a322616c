/-
  A wheel: what its map of times says, and where its timers wait.
-/
import Derived.Test.YtphijplgnffoiaaWhJ
namespace Go.Proofs.Ytphijplgnffoiaa
open Go.ChangeShapes Go.WideShapes Go.ChangeAt Go.RowKit Go.Maps
set_option linter.unusedSimpArgs false
set_option linter.unusedVariables false

abbrev kI (i : Int) : Lit := .int .i64 i
/-- a map of times reads so. -/
structure Reads (D : DataW Unit) (du : Int → Option Int) : Prop where
  tidy : Tidy D
  has : ∀ i, Maps.has D (kI i) = (du i).isSome
  time : ∀ i, at' D i (dz du i)
theorem kI_ne {i j : Int} (h : i ≠ j) : kI i ≠ kI j := fun e => h (by cases e; rfl)
theorem kI_key (i : Int) : WideAt.IsKeyLit (kI i) := by simp [WideAt.IsKeyLit]
/-- a timer less. -/
def delD (du : Int → Option Int) (i : Int) : Int → Option Int := fun j => if j = i then none else du j
/-- a timer more, or anew. -/
def setD (du : Int → Option Int) (i d : Int) : Int → Option Int := fun j => if j = i then some d else du j
theorem reads_nil : Reads (.map []) (fun _ => none) := ⟨tidy_empty, fun i => rfl, fun i => rfl⟩
theorem Reads.del {D : DataW Unit} {du : Int → Option Int} (h : Reads D du) (i : Int) : Reads (D.del (kI i)) (delD du i) := by
  refine ⟨h.tidy.del _, fun j => ?_, fun j => ?_⟩
  · by_cases e : j = i
    · subst e; rw [has_del_same]; simp [delD]
    · rw [has_del_other (kI_ne e), h.has]; simp [delD, e]
  · unfold at'
    by_cases e : j = i
    · subst e
      rw [atKey_del_same]; simp [dz, delD]
    · have := h.time j
      unfold at' at this
      rw [atKey_del_other (kI_ne e), this]; simp [dz, delD, e]
theorem Reads.put {D : DataW Unit} {du : Int → Option Int} (h : Reads D du) (i d : Int) : Reads (D.put (kI i) (.lit (.int .i64 d))) (setD du i d) := by
  refine ⟨h.tidy.put (kI_key i) _, fun j => ?_, fun j => ?_⟩
  · by_cases e : j = i
    · subst e; rw [has_put_same h.tidy.isMap (kI_key _)]; simp [setD]
    · rw [has_put_other (kI_ne e), h.has]; simp [setD, e]
  · unfold at'
    by_cases e : j = i
    · subst e
      rw [atKey_put_same h.tidy.isMap (kI_key _)]; simp [dz, setD]
    · have := h.time j
      unfold at' at this
      rw [atKey_put_other (kI_ne e), this]; simp [dz, setD, e]
def delF (D : DataW Unit) (l : List Int) : DataW Unit := l.foldl (fun D i => D.del (kI i)) D
def delDs (du : Int → Option Int) (l : List Int) : Int → Option Int := fun j => if j ∈ l then none else du j
theorem reads_delF {D : DataW Unit} {du : Int → Option Int} (l : List Int) (h : Reads D du) : Reads (delF D l) (delDs du l) := by
  induction l generalizing D du with
  | nil =>
    have e : delDs du [] = du := by funext j; simp [delDs]
    rw [e]; exact h
  | cons i r ih =>
    have := ih (h.del i)
    have e : delDs (delD du i) r = delDs du (i :: r) := by
      funext j
      simp only [delDs, delD, List.mem_cons]
      by_cases e1 : j = i <;> by_cases e2 : j ∈ r <;> simp [e1, e2]
    rw [← e]
    exact this
theorem size_delF {D : DataW Unit} {du : Int → Option Int} (l : List Int) (h : Reads D du) (hn : l.Nodup) (hl : ∀ i ∈ l, (du i).isSome = true) : Maps.size (delF D l) + l.length = Maps.size D := by
  induction l generalizing D du with
  | nil => rfl
  | cons i r ih =>
    have hn' := List.nodup_cons.1 hn
    have h1 := ih (h.del i) hn'.2 (fun j hj => by
      have : j ≠ i := fun e => hn'.1 (e ▸ hj)
      simp only [delD, if_neg this]; exact hl j (by simp [hj]))
    have h2 := size_del (k := kI i) h.tidy
    rw [h.has, hl i (by simp)] at h2
    simp only [if_true] at h2
    show Maps.size (delF (D.del (kI i)) r) + (r.length + 1) = _
    omega
theorem Reads.says {D : DataW Unit} {du : Int → Option Int} (h : Reads D du) (hz : ∀ i, 0 ≤ dz du i ∧ dz du i ≤ 1099511627776) : Says D (dz du) := fun i _ => ⟨h.time i, hz i⟩
theorem tight {w : World} {b n : Nat} {D : DataW Unit} (h : MapI w b n D) : MapI w b (Maps.size D) D := by
  obtain ⟨es, clock, h1, h2, h3, h4⟩ := h
  refine ⟨es, clock, h1, h2, ?_, h4⟩
  rw [h4]
  show es.size ≤ List.length _
  rw [length_sorted]
  simp
/-- another map in its place. -/
theorem WM.setMap {w w' : World} {b o : Nat} {t : TypeId} {cs : Array Value} {now : Int} {bm : Nat} {D D' : DataW Unit} {vs : Nat → Value} {L : Nat → List Int} (h : WM w b t cs o now (some bm) D vs L) (hg : w.grownBy w' (some bm)) {n : Nat} (hn : n ≤ 1000000) (hm : MapI w' bm n D') : WM w' b t cs o now (some bm) D' vs L := by
  obtain ⟨k, _, hm0⟩ := h.theMap
  have hne := hm0.ne_row h.row
  refine ⟨row_grown h.row hg (fun e => hne (by cases e; rfl)), h.size, h.c0, h.c1, h.cl, fun j hj => ?_, h.nil, h.apart, h.notb, .inr ⟨bm, n, rfl, hn, hm⟩⟩
  exact (h.own j hj).keepGr (F := fun c => c = bm) (Gr.of_grown hg (fun c hc => by cases hc; rfl)) (fun c hc e => (h.own j hj).ne_map hm0 (by rw [hc, e]))
/-- A WHEEL: at its time, its timers, how many there are, and the blocks that it has. -/
def Wheel' (w : World) (b : Nat) (t : TypeId) (cs : Array Value) (o : Nat) (now : Int) (du : Int → Option Int) (cnt : Nat) (F : Nat → Prop) : Prop :=
  ∃ mb D vs L, WM w b t cs o now mb D vs L ∧ Reads D du ∧ Waits now du L ∧ (∀ i d, du i = some d → (Lit.int .i64 i).wf = true) ∧ sumR 448 L = cnt ∧ Maps.size D = cnt ∧ cnt ≤ 400 ∧ (∀ c, Fp b mb vs c → F c)
theorem waits_beyond {now : Int} {du : Int → Option Int} {L : Nat → List Int} (h : Waits now du L) (m : Nat) (hm : 448 ≤ m) : L m = [] := by
  rcases hl : L m with _ | ⟨i, r⟩
  · rfl
  · exfalso
    obtain ⟨d, h1, h2⟩ := (h.mem m i).1 (by rw [hl]; simp)
    have h3 := h.due i d h1
    have h4 := h.time
    have := pk_lt now.toNat d.toNat (by omega) (by omega)
    omega
theorem waits_wf {now : Int} {du : Int → Option Int} {L : Nat → List Int} (h : Waits now du L) (hw : ∀ i d, du i = some d → (Lit.int .i64 i).wf = true) (k : Nat) (i : Int) (hi : i ∈ L k) : (Lit.int .i64 i).wf = true := by
  obtain ⟨d, h1, _⟩ := (h.mem k i).1 hi
  exact hw i d h1
theorem waits_none {now : Int} {du : Int → Option Int} {L : Nat → List Int} (h : Waits now du L) (hd : ∀ i, du i = none) (k : Nat) : L k = [] := by
  rcases hl : L k with _ | ⟨i, r⟩
  · rfl
  · exfalso
    obtain ⟨d, h1, h2⟩ := (h.mem k i).1 (by rw [hl]; simp)
    rw [hd i] at h1
    cases h1
theorem reads_empty {du : Int → Option Int} (h : Reads (.map []) du) (i : Int) : du i = none := by
  have := h.has i
  rcases hd : du i with _ | d
  · rfl
  · rw [hd] at this; simp [Maps.has] at this
theorem leftD_dels {t : Int} {du : Int → Option Int} {l : List Int} (h : ∀ i, i ∈ l ↔ ∃ d, du i = some d ∧ d ≤ t) : delDs du l = leftD t du := by
  funext i
  unfold delDs leftD
  by_cases hi : i ∈ l
  · obtain ⟨d, h1, h2⟩ := (h i).1 hi
    simp [hi, h1, h2]
  · rw [if_neg hi]
    rcases hd : du i with _ | d
    · rfl
    · have : ¬ d ≤ t := fun hle => hi ((h i).2 ⟨d, hd, hle⟩)
      simp [this]
end Go.Proofs.Ytphijplgnffoiaa
