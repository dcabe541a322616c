/-
  What a wheel says of itself, and what it refuses; a new one; a timer that is taken away.
-/
import Derived.Test.YtphijplgnffoiaaWhP
namespace Go.Proofs.Ytphijplgnffoiaa
open Go.ChangeShapes Go.WideShapes Go.ChangeAt Go.RowKit Go.Maps
set_option linter.unusedSimpArgs false
set_option linter.unusedVariables false

section
variable {w : World} {b o : Nat} {t : TypeId} {cs : Array Value} {now : Int} {du : Int → Option Int} {cnt : Nat} {F : Nat → Prop}
theorem Wheel'.keep {w' : World} {G : Nat → Prop} (h : Wheel' w b t cs o now du cnt F) (hg : Gr G w w') (hG : ∀ c, F c → ¬ G c) : Wheel' w' b t cs o now du cnt F := by
  obtain ⟨mb, D, vs, L, hW, h2, h3, h4, h5, h6, h7, hF⟩ := h
  exact ⟨mb, D, vs, L, hW.keep hg (fun c hc => hG c (hF c hc)), h2, h3, h4, h5, h6, h7, hF⟩
theorem Wheel'.below {w' : World} (h : Wheel' w b t cs o now du cnt F) (hb : Below w.heap.size w w') : Wheel' w' b t cs o now du cnt F := h.keep (Gr.of_below (F := fun _ => False) hb) (fun _ _ => id)
theorem Wheel'.mono {G : Nat → Prop} (h : Wheel' w b t cs o now du cnt F) (hG : ∀ c, F c → G c) : Wheel' w b t cs o now du cnt G := by
  obtain ⟨mb, D, vs, L, hW, h2, h3, h4, h5, h6, h7, hF⟩ := h
  exact ⟨mb, D, vs, L, hW, h2, h3, h4, h5, h6, h7, fun c hc => hG c (hF c hc)⟩
theorem Wheel'.time (h : Wheel' w b t cs o now du cnt F) : 0 ≤ now ∧ now ≤ 1099511627776 := by obtain ⟨_, _, _, _, _, _, h3, _⟩ := h; exact h3.time
theorem Wheel'.due (h : Wheel' w b t cs o now du cnt F) {i d : Int} (hd : du i = some d) : now ≤ d ∧ d ≤ 1099511627776 := by obtain ⟨_, _, _, _, _, _, h3, _⟩ := h; exact h3.due i d hd
theorem Wheel'.wf (h : Wheel' w b t cs o now du cnt F) {i d : Int} (hd : du i = some d) : (Lit.int .i64 i).wf = true := by obtain ⟨_, _, _, _, _, _, _, h4, _⟩ := h; exact h4 i d hd
theorem Wheel'.many (h : Wheel' w b t cs o now du cnt F) : cnt ≤ 400 := by obtain ⟨_, _, _, _, _, _, _, _, _, _, h7, _⟩ := h; exact h7
theorem Wheel'.row (h : Wheel' w b t cs o now du cnt F) : w.heap[b]? = some (.cells cs t (0, 0)) := by obtain ⟨_, _, _, _, h1, _⟩ := h; exact h1.row
theorem Wheel'.own (h : Wheel' w b t cs o now du cnt F) : F b := by obtain ⟨_, _, _, _, _, _, _, _, _, _, _, hF⟩ := h; exact hF b (.inl rfl)
theorem now_any (h : Wheel' w b t cs o now du cnt F) : Calls Try.prog 12 #[.pointer (some ⟨b, o, none⟩)] w fun e w' => e = .returned (.int .i64 now) ∧ w' = w := by
  obtain ⟨mb, D, vs, L, hW, _⟩ := h
  have c0 := (hW.cell o).trans hW.c0
  go_enter Try.func12, Try.ntmps12
  go_wp2
  go_ret
  exact ⟨rfl, rfl⟩
theorem arm_range (h : Wheel' w b t cs o now du cnt F) (i due : Int) (hd : ¬ (0 ≤ due ∧ due ≤ 1099511627776)) : Calls Try.prog 9 #[.pointer (some ⟨b, o, none⟩), .int .i64 i, .int .i64 due] w fun e w' => e = .returned (.int .i64 2) ∧ w' = w := by
  have CI := fun w => isTime_no due w hd
  clear hd h
  go_enter Try.func9, Try.ntmps9
  go_wp2_with (first
    | (go_at_call 20; refine (CI _).mono ?_; rintro e w' ⟨rfl, hw⟩; rw [hw]; clear hw w'))
  go_ret
  exact ⟨rfl, rfl⟩
theorem arm_full (h : Wheel' w b t cs o now du cnt F) (i due : Int) (hi : (Lit.int .i64 i).wf = true) (hd : 0 ≤ due ∧ due ≤ 1099511627776) (hn : du i = none) (hc : 400 ≤ cnt) : Calls Try.prog 9 #[.pointer (some ⟨b, o, none⟩), .int .i64 i, .int .i64 due] w fun e w' => e = .returned (.int .i64 6) ∧ w' = w := by
  have CI := fun w => isTime_yes due w hd
  obtain ⟨mb, D, vs, L, hW, hrd, _, _, _, hsz, _, _⟩ := h
  have c1 := (hW.cell (o + 1)).trans hW.c1
  have hkey := keyOf_int_mk (P := Try.prog) (q := .i64) (a := i) Try.underlying3 hi
  have hhas : Maps.has D (kI i) = false := by rw [hrd.has, hn]; rfl
  rcases hW.map with ⟨rfl, rfl⟩ | ⟨bm, n, rfl, _, hm⟩
  · exfalso
    rw [← hsz] at hc
    simp [Maps.size] at hc
  · have hlen := hm.len Try.underlying29 3
    have hge : (400 : Int) ≤ (Maps.size D : Int) := by omega
    clear hd hc hn hrd hsz
    go_enter Try.func9, Try.ntmps9
    go_wp2_with (first
      | (at_lookup; refine wpList_lookup_own_ok_int _ rfl _ _ 29 rfl 3 3 .i64 lawI Try.underlying29 Try.underlying3 (zeroI _) bm n D rfl hm _ _ rfl hkey ?_; intro cv hat hwc; clear hat hwc)
      | (go_at_call 20; refine (CI _).mono ?_; rintro e w' ⟨rfl, hw⟩; rw [hw]; clear hw w'))
    go_ret
    exact ⟨rfl, rfl⟩
end
end Go.Proofs.Ytphijplgnffoiaa
