/-
  Going on in two steps tells what one step tells: the walk.
-/
import Derived.Test.YtphijplgnffoiaaWsA
namespace Go.Proofs.Ytphijplgnffoiaa
open Go.ChangeShapes Go.WideShapes Go.ChangeAt Go.RowKit Go.Maps
set_option linter.unusedSimpArgs false
set_option linter.unusedVariables false

theorem Wheel'.shrink {w : World} {b o : Nat} {t : TypeId} {cs : Array Value} {now : Int} {du : Int → Option Int} {cnt : Nat} {F : Nat → Prop} (h : Wheel' w b t cs o now du cnt F) : ∃ G, Wheel' w b t cs o now du cnt G ∧ (∀ c, G c → F c) ∧ (∀ c, G c → c < w.heap.size) := by
  obtain ⟨mb, D, vs, L, hW, h2, h3, h4, h5, h6, h7, hF⟩ := h
  exact ⟨Fp b mb vs, ⟨mb, D, vs, L, hW, h2, h3, h4, h5, h6, h7, fun c hc => hc⟩, hF, fun c hc => Mid.fp_lt hW hc⟩
set_option maxHeartbeats 2000000 in
theorem turnsKeep_any (w : World) : Calls Try.prog 8 #[] w fun e w' => e = .returned (.bool true) ∧ Below w.heap.size w w' := by
  have hN := wheel_new w 3 (by omega)
  have C0 := now_any hN
  have C1 := arm_ok hN 1 9 (by decide) (by omega) (by omega) (fun _ => by omega)
  have hb0 : Below w.heap.size w (w.alloc (.cells (wcs 3 (.map none) nilL) 51)) := (Below.refl _ _).alloc (Nat.le_refl _) _
  have hsz : w.heap.size ≤ (w.alloc (.cells (wcs 3 (.map none) nilL) 51)).heap.size := by simp
  have CN := new_any w 3 (by omega)
  have HE : Hid (∀ w2 cs2 F2, Wheel' w2 w.heap.size 51 cs2 0 3 (setD (fun _ => none) 1 (max 9 3)) (if ((fun _ => none : Int → Option Int) 1).isSome then 0 else 0 + 1) F2 → Gr (fun c => c = w.heap.size) (w.alloc (.cells (wcs 3 (.map none) nilL) 51)) w2 → Below w.heap.size w w2) := hid fun w2 cs2 F2 _ hg => hb0.trans (hg.below (fun c hc => by omega) hsz)
  clear hN hb0 hsz
  generalize w.alloc (.cells (wcs 3 (.map none) nilL) 51) = w1 at *
  go_enter Try.func8, Try.ntmps8
  go_wp2_with (first
    | (go_at_call 7; refine CN.mono ?_; rintro e w' ⟨rfl, hw⟩; rw [hw]; clear hw w')
    | (go_at_call 12; refine C0.mono ?_; rintro e w' ⟨rfl, hw⟩; rw [hw]; clear hw w')
    | (go_at_call 9; refine C1.mono ?_; rintro e w2 ⟨rfl, cs2, F2, hw2, hso2, hg2, hf2⟩; have C2 : Calls Try.prog 11 #[.pointer (some ⟨w.heap.size, 0, none⟩)] w2 fun e w' => e = .returned (.int .i64 1) ∧ w' = w2 := many_any hw2)
    | (go_at_call 11; refine C2.mono ?_; rintro e w' ⟨rfl, hw⟩; rw [hw]; clear hw w'))
  go_ret
  exact ⟨rfl, HE.out w2 cs2 F2 hw2 hg2⟩
/-- two wheels, apart from each other, and lists that were told, all new since. -/
def Two (w W : World) (a b : Nat) (nowA nowB : Int) (duA duB : Int → Option Int) (cA cB : Nat) (us : List (Value × List Int)) : Prop :=
  ∃ csA FA csB FB, Wheel' W a 51 csA 0 nowA duA cA FA ∧ Wheel' W b 51 csB 0 nowB duB cB FB ∧ (∀ c, FA c → w.heap.size ≤ c ∧ c < W.heap.size) ∧ (∀ c, FB c → w.heap.size ≤ c ∧ c < W.heap.size) ∧ (∀ c, FA c → ¬ FB c) ∧ (∀ p ∈ us, Own W p.1 p.2 ∧ ∀ c, p.1.ownBlock = some c → ¬ FA c ∧ ¬ FB c) ∧ Below w.heap.size w W
section
variable {w W W' : World} {a b : Nat} {nowA nowB : Int} {duA duB : Int → Option Int} {cA cB : Nat} {us : List (Value × List Int)}
theorem Two.swap (h : Two w W a b nowA nowB duA duB cA cB us) : Two w W b a nowB nowA duB duA cB cA us := by
  obtain ⟨csA, FA, csB, FB, h1, h2, h3, h4, h5, h7, h6⟩ := h
  exact ⟨csB, FB, csA, FA, h2, h1, h4, h3, fun c hb ha => h5 c ha hb, fun p hp => ⟨(h7 p hp).1, fun c hc => ((h7 p hp).2 c hc).symm⟩, h6⟩
theorem Two.base (h : Two w W a b nowA nowB duA duB cA cB us) : Below w.heap.size w W := by
  obtain ⟨csA, FA, csB, FB, h1, h2, h3, h4, h5, h7, h6⟩ := h
  exact h6
theorem Two.told (h : Two w W a b nowA nowB duA duB cA cB us) {v : Value} {l : List Int} (hm : (v, l) ∈ us) : Own W v l := by
  obtain ⟨csA, FA, csB, FB, h1, h2, h3, h4, h5, h7, h6⟩ := h
  exact (h7 _ hm).1
theorem Two.below (h : Two w W a b nowA nowB duA duB cA cB us) (hb : Below W.heap.size W W') : Two w W' a b nowA nowB duA duB cA cB us := by
  obtain ⟨csA, FA, csB, FB, h1, h2, h3, h4, h5, h7, h6⟩ := h
  have := hb.size
  exact ⟨csA, FA, csB, FB, h1.below hb, h2.below hb, fun c hc => ⟨(h3 c hc).1, by have := (h3 c hc).2; omega⟩, fun c hc => ⟨(h4 c hc).1, by have := (h4 c hc).2; omega⟩, h5, fun p hp => ⟨(h7 p hp).1.keepGr (Gr.of_below (F := fun _ => False) hb) (fun _ _ => id), (h7 p hp).2⟩, h6.trans (hb.mono h6.size)⟩
/-- what is done to the one leaves the other. -/
theorem Two.turn {nowA' : Int} {duA' : Int → Option Int} {cA' : Nat} {csB csA' : Array Value} {FA FB FA' : Nat → Prop} (hB : Wheel' W b 51 csB 0 nowB duB cB FB) (h3 : ∀ c, FA c → w.heap.size ≤ c ∧ c < W.heap.size) (h4 : ∀ c, FB c → w.heap.size ≤ c ∧ c < W.heap.size) (h5 : ∀ c, FA c → ¬ FB c) (h7 : ∀ p ∈ us, Own W p.1 p.2 ∧ ∀ c, p.1.ownBlock = some c → ¬ FA c ∧ ¬ FB c) (h6 : Below w.heap.size w W)
    (hA' : Wheel' W' a 51 csA' 0 nowA' duA' cA' FA') (hg : Gr FA W W') (hf : ∀ c, FA' c → FA c ∨ W.heap.size ≤ c) (more : List (Value × List Int)) (hmore : ∀ p ∈ more, Own W' p.1 p.2 ∧ NotIn p.1 FA' ∧ ∀ c, p.1.ownBlock = some c → W.heap.size ≤ c) : Two w W' a b nowA' nowB duA' duB cA' cB (more ++ us) := by
  obtain ⟨G, hG, hGF, hGl⟩ := hA'.shrink
  have hs := hg.size
  have hs6 := h6.size
  refine ⟨csA', G, csB, FB, hG, hB.keep hg (fun c hb ha => h5 c ha hb), fun c hc => ⟨?_, hGl c hc⟩, fun c hc => ⟨(h4 c hc).1, by have := (h4 c hc).2; omega⟩, fun c hc hb => ?_, fun p hp => ?_, h6.trans (hg.below (fun c hc => (h3 c hc).1) hs6)⟩
  · rcases hf c (hGF c hc) with h | h
    · exact (h3 c h).1
    · omega
  · rcases hf c (hGF c hc) with h | h
    · exact h5 c h hb
    · have := (h4 c hb).2; omega
  · rcases List.mem_append.1 hp with hp | hp
    · obtain ⟨h8, h9, h10⟩ := hmore p hp
      exact ⟨h8, fun c hc => ⟨fun hg => h9 c hc (hGF c hg), fun hb => by have := h10 c hc; have := (h4 c hb).2; omega⟩⟩
    · obtain ⟨h8, h9⟩ := h7 p hp
      refine ⟨h8.keepGr hg (fun c hc => (h9 c hc).1), fun c hc => ⟨fun hg => ?_, (h9 c hc).2⟩⟩
      rcases hf c (hGF c hg) with h | h
      · exact (h9 c hc).1 h
      · have := h8.lt' hc; omega
theorem Two.arm (h : Two w W a b nowA nowB duA duB cA cB us) (i due : Int) (hi : (Lit.int .i64 i).wf = true) (h0 : 0 ≤ due) (h1 : due ≤ 1099511627776) (hn : duA i = none) (hc : cA < 400) :
    Calls Try.prog 9 #[.pointer (some ⟨a, 0, none⟩), .int .i64 i, .int .i64 due] W fun e w' => e = .returned (.int .i64 0) ∧ Two w w' a b nowA nowB (setD duA i (max due nowA)) duB (cA + 1) cB us := by
  obtain ⟨csA, FA, csB, FB, hA, hB, h3, h4, h5, h7, h6⟩ := h
  refine (arm_ok hA i due hi h0 h1 (fun _ => hc)).mono ?_
  rintro e w' ⟨rfl, cs', F', hw', hso, hg, hf⟩
  rw [hn] at hw'
  exact ⟨rfl, Two.turn hB h3 h4 h5 h7 h6 hw' hg hf [] (fun p hp => by cases hp)⟩
theorem Two.adv (h : Two w W a b nowA nowB duA duB cA cB us) (tn : Int) (h1 : nowA ≤ tn) (h2 : tn ≤ 1099511627776) :
    Calls Try.prog 10 #[.pointer (some ⟨a, 0, none⟩), .int .i64 tn] W fun e w' => ∃ v, e = .returned (.tuple #[v, .int .i64 0]) ∧ ∃ off cA', off.Nodup ∧ (∀ i, i ∈ off ↔ ∃ d, duA i = some d ∧ d ≤ tn) ∧ cA' + off.length = cA ∧ Two w w' a b tn nowB (leftD tn duA) duB cA' cB ((v, sortZ (dz duA) off) :: us) := by
  obtain ⟨csA, FA, csB, FB, hA, hB, h3, h4, h5, h7, h6⟩ := h
  refine (advance_ok hA h1 h2).mono ?_
  rintro e w' ⟨v, rfl, off, cs', F', cnt', g1, g2, g3, g4, g5, g6, g7, g8, g9, g10⟩
  exact ⟨v, rfl, off, cnt', g1, g2, g10, Two.turn hB h3 h4 h5 h7 h6 g5 g7 g8 [(v, sortZ (dz duA) off)] (fun p hp => by have e : p = (v, sortZ (dz duA) off) := (by simpa using hp); rw [e]; exact ⟨g3, g4, g9⟩)⟩
theorem Two.manyA (h : Two w W a b nowA nowB duA duB cA cB us) : Calls Try.prog 11 #[.pointer (some ⟨a, 0, none⟩)] W fun e w' => e = .returned (.int .i64 (cA : Int)) ∧ w' = W := by
  obtain ⟨csA, FA, csB, FB, hA, hB, h3, h4, h5, h7, h6⟩ := h
  exact many_any hA
end
theorem two_new (w : World) (n m : Int) (hn : 0 ≤ n ∧ n ≤ 1099511627776) (hm : 0 ≤ m ∧ m ≤ 1099511627776) : Two w ((w.alloc (.cells (wcs n (.map none) nilL) 51)).alloc (.cells (wcs m (.map none) nilL) 51)) w.heap.size (w.heap.size + 1) n m (fun _ => none) (fun _ => none) 0 0 [] := by
  have hA := wheel_new w n hn
  have hB := wheel_new (w.alloc (.cells (wcs n (.map none) nilL) 51)) m hm
  have e : (w.alloc (.cells (wcs n (.map none) nilL) 51)).heap.size = w.heap.size + 1 := by simp
  rw [e] at hB
  refine ⟨_, _, _, _, hA.below ((Below.refl _ _).alloc (Nat.le_refl _) _), hB, fun c hc => ?_, fun c hc => ?_, fun c hc hd => ?_, fun p hp => (by cases hp), ((Below.refl _ _).alloc (Nat.le_refl _) _).alloc (by simp) _⟩
  · have h1 : c = w.heap.size := hc
    simp; omega
  · have h1 : c = w.heap.size + 1 := hc
    simp; omega
  · have h1 : c = w.heap.size := hc
    have h2 : c = w.heap.size + 1 := hd
    omega
end Go.Proofs.Ytphijplgnffoiaa
