/-
  The document's Advance: the search for the least one (a draft).
-/
import Derived.Test.YtphijplgnffoiaaWpG
import Derived.BigQuiet
namespace Go.Proofs.Ytphijplgnffoiaa
open Go.ChangeShapes Go.WideShapes Go.ChangeAt Go.RowKit
set_option linter.unusedSimpArgs false
set_option linter.unusedVariables false

/-- the least one so far, among the first j. -/
def BestZ (ts : List Tm) (tn : Int) (j : Nat) (z : Int) : Prop :=
  (z = -1 ∧ ∀ m (hm : m < ts.length), m < j → tn < ts[m].2) ∨
  (∃ b : Nat, z = (b : Int) ∧ ∃ hb : b < ts.length, ts[b].2 ≤ tn ∧ ∀ m (hm : m < ts.length), m < j → ts[m].2 ≤ tn → ¬ lessT ts[m] ts[b])
theorem best_zero (ts : List Tm) (tn : Int) : BestZ ts tn 0 (-1) := .inl ⟨rfl, fun m hm h => absurd h (by omega)⟩
theorem best_skip {ts : List Tm} {tn z : Int} {j : Nat} (h : BestZ ts tn j z) (hj : j < ts.length) (hx : tn < ts[j].2) : BestZ ts tn (j + 1) z := by
  rcases h with ⟨e, h⟩ | ⟨b, e, hb, h1, h2⟩
  · refine .inl ⟨e, fun m hm hmj => ?_⟩
    by_cases hmm : m = j
    · subst hmm; exact hx
    · exact h m hm (by omega)
  · refine .inr ⟨b, e, hb, h1, fun m hm hmj hle => ?_⟩
    by_cases hmm : m = j
    · subst hmm; omega
    · exact h2 m hm (by omega) hle
theorem best_first {ts : List Tm} {tn : Int} {j : Nat} (h : BestZ ts tn j (-1)) (hj : j < ts.length) (hx : ts[j].2 ≤ tn) : BestZ ts tn (j + 1) (j : Int) := by
  rcases h with ⟨e, h⟩ | ⟨b, e, hb, h1, h2⟩
  · refine .inr ⟨j, rfl, hj, hx, fun m hm hmj hle => ?_⟩
    by_cases hmm : m = j
    · subst hmm; unfold lessT; omega
    · have := h m hm (by omega); omega
  · omega
theorem best_less {ts : List Tm} {tn : Int} {j b : Nat} (h : BestZ ts tn j (b : Int)) (hj : j < ts.length) (hb : b < ts.length) (hx : ts[j].2 ≤ tn) (hl : lessT ts[j] ts[b]) : BestZ ts tn (j + 1) (j : Int) := by
  rcases h with ⟨e, h⟩ | ⟨c, e, hc, h1, h2⟩
  · omega
  · obtain rfl : b = c := by omega
    refine .inr ⟨j, rfl, hj, hx, fun m hm hmj hle => ?_⟩
    by_cases hmm : m = j
    · subst hmm; unfold lessT; omega
    · have := h2 m hm (by omega) hle
      unfold lessT at *; omega
theorem best_keep {ts : List Tm} {tn : Int} {j b : Nat} (h : BestZ ts tn j (b : Int)) (hj : j < ts.length) (hb : b < ts.length) (hl : ¬ lessT ts[j] ts[b]) : BestZ ts tn (j + 1) (b : Int) := by
  rcases h with ⟨e, h⟩ | ⟨c, e, hc, h1, h2⟩
  · omega
  · obtain rfl : b = c := by omega
    refine .inr ⟨b, rfl, hc, h1, fun m hm hmj hle => ?_⟩
    by_cases hmm : m = j
    · subst hmm; exact hl
    · exact h2 m hm (by omega) hle
theorem best_end {ts : List Tm} {tn : Int} {j : Nat} (h : BestZ ts tn j (-1)) (hj : ts.length ≤ j) : ∀ y ∈ ts, tn < y.2 := by
  rcases h with ⟨e, h⟩ | ⟨b, e, hb, h1, h2⟩
  · intro y hy
    obtain ⟨m, hm, rfl⟩ := List.getElem_of_mem hy
    exact h m hm (by omega)
  · omega
theorem best_min {ts : List Tm} {tn : Int} {j b : Nat} (h : BestZ ts tn j (b : Int)) (hj : ts.length ≤ j) : ∃ hb : b < ts.length, ts[b].2 ≤ tn ∧ ∀ y ∈ ts, y.2 ≤ tn → ¬ lessT y ts[b] := by
  rcases h with ⟨e, h⟩ | ⟨c, e, hc, h1, h2⟩
  · omega
  · obtain rfl : b = c := by omega
    refine ⟨hc, h1, fun y hy hle => ?_⟩
    obtain ⟨m, hm, rfl⟩ := List.getElem_of_mem hy
    exact h2 m hm (by omega) hle
/-- Advance to a time that is over, or too far. -/
theorem advanceRef_range {p : Nat} {now : Int} {v : Value} {ts : List Tm} (tn : Int) (w : World) (h : RW w p now v ts) (h0 : tn < now ∨ 1099511627776 < tn) :
    Calls Try.prog 17 #[.pointer (some ⟨p, 0, none⟩), .int .i64 tn] w fun e w' => e = .returned (.tuple #[.slice none 0 0, .int .i64 2]) ∧ w' = w := by
  have k0 : w.cell? ⟨p, 0, none⟩ = some (.int .i64 now) := h.row.cell 0
  by_cases h1 : tn < now
  · have g0 : decide (tn < now) = true := by simpa using h1
    clear h0 h1 h
    go_enter Try.func17, Try.ntmps17
    go_wp2
    go_ret2
    exact ⟨rfl, rfl⟩
  · have g0 : decide (tn < now) = false := by simpa using h1
    have g1 : decide (1099511627776 < tn) = true := by simp; omega
    clear h0 h1 h
    go_enter Try.func17, Try.ntmps17
    go_wp2
    go_ret2
    exact ⟨rfl, rfl⟩
end Go.Proofs.Ytphijplgnffoiaa
