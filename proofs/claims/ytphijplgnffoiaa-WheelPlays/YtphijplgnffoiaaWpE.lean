/-
  The document's wheel: Arm's errors; what the list says behind each.
-/
import Derived.Test.YtphijplgnffoiaaWpD
import Derived.Test.YtphijplgnffoiaaWhK
namespace Go.Proofs.Ytphijplgnffoiaa
open Go.ChangeShapes Go.WideShapes Go.ChangeAt Go.RowKit
set_option linter.unusedSimpArgs false
set_option linter.unusedVariables false

theorem lk_out (ts : List Tm) (i : Int) : lk (outT ts i) = delD (lk ts) i := by
  funext j
  unfold delD
  induction ts with
  | nil => simp [outT, lk]
  | cons x r ih =>
    rw [outT_cons]
    by_cases hx : x.1 = i
    · rw [if_pos hx, ih]
      by_cases hj : j = i
      · rw [if_pos hj, if_pos hj]
      · rw [if_neg hj, if_neg hj]
        have : ¬ x.1 = j := fun e => hj (by omega)
        simp [lk, this]
    · rw [if_neg hx]
      by_cases hj : j = i
      · rw [if_pos hj] at ih ⊢
        have : ¬ x.1 = j := fun e => hx (by omega)
        simp [lk, this, ih]
      · rw [if_neg hj] at ih ⊢
        by_cases hxj : x.1 = j <;> simp [lk, hxj, ih]
theorem lk_app (ts us : List Tm) (j : Int) : lk (ts ++ us) j = match lk ts j with | some d => some d | none => lk us j := by
  induction ts with
  | nil => simp [lk]
  | cons x r ih => by_cases h : x.1 = j <;> simp [lk, h, ih]
theorem lk_put (ts : List Tm) (i d : Int) : lk (outT ts i ++ [(i, d)]) = setD (lk ts) i d := by
  funext j
  rw [lk_app, lk_out]
  unfold setD delD
  by_cases hj : j = i
  · simp [hj, lk]
  · have : ¬ i = j := fun e => hj e.symm
    simp only [if_neg hj]
    cases hl : lk ts j with
    | none => simp [lk, this]
    | some d => rfl
/-- no number twice. -/
def Once (ts : List Tm) : Prop := (ts.map (·.1)).Nodup
theorem once_out {ts : List Tm} (h : Once ts) (i : Int) : Once (outT ts i) := by
  unfold Once outT at *
  exact h.sublist (List.Sublist.map _ List.filter_sublist)
theorem once_put {ts : List Tm} (h : Once ts) (i d : Int) : Once (outT ts i ++ [(i, d)]) := by
  have h1 := once_out h i
  unfold Once at *
  rw [List.map_append, List.nodup_append]
  refine ⟨h1, by simp, ?_⟩
  intro a ha b hb
  simp at hb
  subst hb
  obtain ⟨x, hx, rfl⟩ := List.mem_map.1 ha
  have := (List.mem_filter.1 hx).2
  simpa using this
theorem len_out {ts : List Tm} (h : Once ts) (i : Int) : (outT ts i).length = if (lk ts i).isSome then ts.length - 1 else ts.length := by
  induction ts with
  | nil => simp [outT, lk]
  | cons x r ih =>
    have hr : Once r := by unfold Once at *; simpa using (List.nodup_cons.1 h).2
    have hx1 : x.1 ∉ r.map (·.1) := by unfold Once at h; exact (List.nodup_cons.1 h).1
    rw [outT_cons]
    by_cases hx : x.1 = i
    · have hn : lk r i = none := lk_none.2 (fun y hy e => hx1 (List.mem_map.2 ⟨y, hy, by rw [e, hx]⟩))
      rw [if_pos hx, outT_same hn]
      simp [lk, hx]
    · rw [if_neg hx, List.length_cons, ih hr]
      simp only [lk, if_neg hx, List.length_cons]
      split
      · rename_i hs
        have : 0 < r.length := by
          cases r with
          | nil => simp [lk] at hs
          | cons y s => simp
        omega
      · rfl
set_option maxHeartbeats 1000000 in
theorem armRef_range {p : Nat} {now : Int} {v : Value} {ts : List Tm} (i due : Int) (w : World) (h : RW w p now v ts) (h0 : due < 0 ∨ 1099511627776 < due) :
    Calls Try.prog 14 #[.pointer (some ⟨p, 0, none⟩), .int .i64 i, .int .i64 due] w fun e w' => e = .returned (.int .i64 2) ∧ w' = w := by
  by_cases h1 : due < 0
  · have g0 : decide (due < 0) = true := by simpa using h1
    clear h0 h1 h
    go_enter Try.func14, Try.ntmps14
    go_wp2
    go_ret
    exact ⟨rfl, rfl⟩
  · have g0 : decide (due < 0) = false := by simpa using h1
    have g1 : decide (1099511627776 < due) = true := by simp; omega
    clear h0 h1 h
    go_enter Try.func14, Try.ntmps14
    go_wp2
    go_ret
    exact ⟨rfl, rfl⟩
set_option maxHeartbeats 1000000 in
theorem armRef_full {p : Nat} {now : Int} {v : Value} {ts : List Tm} (i due : Int) (w : World) (h : RW w p now v ts) (h0 : 0 ≤ due) (h1 : due ≤ 1099511627776) (hn : lk ts i = none) (hf : 400 ≤ ts.length) :
    Calls Try.prog 14 #[.pointer (some ⟨p, 0, none⟩), .int .i64 i, .int .i64 due] w fun e w' => e = .returned (.int .i64 6) ∧ Below w.heap.size w w' := by
  have hB := Below.refl w.heap.size w
  have CD := fun w h => dueRef_any (p := p) (now := now) (v := v) (ts := ts) i w h
  rw [hn] at CD
  have g0 : decide (due < 0) = false := by simpa using h0
  have g1 : decide (1099511627776 < due) = false := by simpa using h1
  obtain ⟨n, hnn⟩ : ∃ n, n = ts.length := ⟨_, rfl⟩
  obtain ⟨a0, cap, hv⟩ := h.own.slice
  rw [← hnn] at hv
  have g3 : decide ((400 : Int) ≤ (n : Int)) = true := by simp; omega
  clear h0 h1 hf hnn hn
  go_enter Try.func14, Try.ntmps14
  go_wp2_with (go_at_call 19; refine (CD _ h).mono ?_; rintro e w5 ⟨rfl, hb5⟩; have kk := (h.below hb5).row.cell 1; replace kk : World.cell? _ ⟨p, 1, none⟩ = some v := kk; rw [hv] at kk; replace hB := hB.trans (hb5.mono hB.size))
  go_ret
  exact ⟨rfl, hB⟩
end Go.Proofs.Ytphijplgnffoiaa
