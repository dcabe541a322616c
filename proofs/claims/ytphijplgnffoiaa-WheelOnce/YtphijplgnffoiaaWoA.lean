/-
  A wheel, a map of times of one's own beside it, and lists that were told.
-/
import Derived.Test.YtphijplgnffoiaaWsC
import Derived.Maps.RangeWalk
namespace Go.Proofs.Ytphijplgnffoiaa
open Go.ChangeShapes Go.WideShapes Go.ChangeAt Go.RowKit Go.Maps
set_option linter.unusedSimpArgs false
set_option linter.unusedVariables false

theorem cast1 (k : Nat) : Hid ((k : Int) + 1 = ((k + 1 : Nat) : Int)) := hid (by omega)
/-- all of it new since. -/
def One (w W : World) (b bd : Nat) (now : Int) (du : Int → Option Int) (cnt : Nat) (dm : Int → Option Int) (D : DataW Unit) (us : List (Value × List Int)) : Prop :=
  ∃ cs F, Wheel' W b 51 cs 0 now du cnt F ∧ (∀ c, F c → w.heap.size ≤ c ∧ c < W.heap.size) ∧ ¬ F bd ∧ MapI W bd (Maps.size D) D ∧ Reads D dm ∧ w.heap.size ≤ bd ∧ (∀ p ∈ us, Own W p.1 p.2 ∧ ∀ c, p.1.ownBlock = some c → ¬ F c ∧ w.heap.size ≤ c) ∧ Below w.heap.size w W
section
variable {w W W' : World} {b bd : Nat} {now : Int} {du dm : Int → Option Int} {cnt : Nat} {D : DataW Unit} {us : List (Value × List Int)}
theorem One.base (h : One w W b bd now du cnt dm D us) : Below w.heap.size w W := by obtain ⟨cs, F, h1, h2, h3, h4, h5, h6, h7, h8⟩ := h; exact h8
theorem One.map (h : One w W b bd now du cnt dm D us) : MapI W bd (Maps.size D) D := by obtain ⟨cs, F, h1, h2, h3, h4, h5, h6, h7, h8⟩ := h; exact h4
theorem One.reads (h : One w W b bd now du cnt dm D us) : Reads D dm := by obtain ⟨cs, F, h1, h2, h3, h4, h5, h6, h7, h8⟩ := h; exact h5
theorem One.told (h : One w W b bd now du cnt dm D us) {v : Value} {l : List Int} (hm : (v, l) ∈ us) : Own W v l := by obtain ⟨cs, F, h1, h2, h3, h4, h5, h6, h7, h8⟩ := h; exact (h7 _ hm).1
theorem One.nowC (h : One w W b bd now du cnt dm D us) : Calls Try.prog 12 #[.pointer (some ⟨b, 0, none⟩)] W fun e w' => e = .returned (.int .i64 now) ∧ w' = W := by obtain ⟨cs, F, h1, h2, h3, h4, h5, h6, h7, h8⟩ := h; exact now_any h1
theorem One.many (h : One w W b bd now du cnt dm D us) : Calls Try.prog 11 #[.pointer (some ⟨b, 0, none⟩)] W fun e w' => e = .returned (.int .i64 (cnt : Int)) ∧ w' = W := by obtain ⟨cs, F, h1, h2, h3, h4, h5, h6, h7, h8⟩ := h; exact many_any h1
theorem One.due (h : One w W b bd now du cnt dm D us) {i d : Int} (hd : du i = some d) : now ≤ d ∧ d ≤ 1099511627776 ∧ (Lit.int .i64 i).wf = true := by obtain ⟨cs, F, h1, h2, h3, h4, h5, h6, h7, h8⟩ := h; exact ⟨(h1.due hd).1, (h1.due hd).2, h1.wf hd⟩
theorem One.cap (h : One w W b bd now du cnt dm D us) : cnt ≤ 400 := by obtain ⟨cs, F, h1, h2, h3, h4, h5, h6, h7, h8⟩ := h; exact h1.many
theorem One.forget (h : One w W b bd now du cnt dm D us) : One w W b bd now du cnt dm D [] := by obtain ⟨cs, F, h1, h2, h3, h4, h5, h6, h7, h8⟩ := h; exact ⟨cs, F, h1, h2, h3, h4, h5, h6, (fun p hp => by cases hp), h8⟩
/-- the map of one's own is written. -/
theorem One.set (h : One w W b bd now du cnt dm D us) {dm' : Int → Option Int} {D' : DataW Unit} {n : Nat} (hm : MapI W' bd n D') (hr : Reads D' dm') (hg : W.grownBy W' (some bd)) : One w W' b bd now du cnt dm' D' us := by
  obtain ⟨cs, F, h1, h2, h3, h4, h5, h6, h7, h8⟩ := h
  have g : Gr (fun c => c = bd) W W' := Gr.of_grown hg (fun c hc => by cases hc; rfl)
  have hs := hg.size
  refine ⟨cs, F, h1.keep g (fun c hc e => h3 (e ▸ hc)), fun c hc => ⟨(h2 c hc).1, by have := (h2 c hc).2; omega⟩, h3, tight hm, hr, h6, fun p hp => ⟨(h7 p hp).1.keepGr g (fun c hc e => (h7 p hp).1.ne_map h4 (by rw [hc, e])), (h7 p hp).2⟩, h8.trans (g.below (fun c hc => by omega) h8.size)⟩
/-- new blocks, and blocks that are none of these. -/
theorem One.keep (h : One w W b bd now du cnt dm D us) {n : Nat} (hg : W.grownBy W' (some n)) (hn : W.heap.size ≤ n) : One w W' b bd now du cnt dm D us := by
  obtain ⟨cs, F, h1, h2, h3, h4, h5, h6, h7, h8⟩ := h
  have g : Gr (fun _ => False) W W' := ⟨hg.os, hg.tape, hg.output, hg.size, fun c hc _ => hg.block c hc (by simp; omega)⟩
  have hs := hg.size
  have hl := h4.lt
  refine ⟨cs, F, h1.keep g (fun _ _ => id), fun c hc => ⟨(h2 c hc).1, by have := (h2 c hc).2; omega⟩, h3, ?_, h5, h6, fun p hp => ⟨(h7 p hp).1.keepGr g (fun _ _ => id), (h7 p hp).2⟩, h8.trans (g.below (fun c hc => hc.elim) h8.size)⟩
  exact h4.kept hg (by simp; omega)
theorem One.arm (h : One w W b bd now du cnt dm D us) (i due : Int) (hi : (Lit.int .i64 i).wf = true) (h0 : 0 ≤ due) (h1 : due ≤ 1099511627776) (hn : du i = none) (hc : cnt < 400) :
    Calls Try.prog 9 #[.pointer (some ⟨b, 0, none⟩), .int .i64 i, .int .i64 due] W fun e w' => e = .returned (.int .i64 0) ∧ One w w' b bd now (setD du i (max due now)) (cnt + 1) dm D us := by
  obtain ⟨cs, F, k1, h2, h3, h4, h5, h6, h7, h8⟩ := h
  refine (arm_ok k1 i due hi h0 h1 (fun _ => hc)).mono ?_
  rintro e w' ⟨rfl, cs', F', hw', hso, hg, hf⟩
  rw [hn] at hw'
  obtain ⟨G, hG, hGF, hGl⟩ := hw'.shrink
  have hs := hg.size
  have hl := h4.lt
  have hs8 := h8.size
  refine ⟨rfl, cs', G, hG, fun c hc => ⟨?_, hGl c hc⟩, fun hc => ?_, ?_, h5, h6, fun p hp => ⟨(h7 p hp).1.keepGr hg (fun c hc => ((h7 p hp).2 c hc).1), fun c hc => ⟨fun hc2 => ?_, ((h7 p hp).2 c hc).2⟩⟩, h8.trans (hg.below (fun c hc => (h2 c hc).1) h8.size)⟩
  · rcases hf c (hGF c hc) with q | q
    · exact (h2 c q).1
    · omega
  · rcases hf bd (hGF bd hc) with q | q
    · exact h3 q
    · omega
  · obtain ⟨es, clock, q1, q2⟩ := h4
    exact ⟨es, clock, (hg.block bd hl h3).trans q1, q2⟩
  · rcases hf c (hGF c hc2) with q | q
    · exact ((h7 p hp).2 c hc).1 q
    · have := (h7 p hp).1.lt' hc; omega
theorem One.adv (h : One w W b bd now du cnt dm D us) (tn : Int) (h1 : now ≤ tn) (ht : tn ≤ 1099511627776) :
    Calls Try.prog 10 #[.pointer (some ⟨b, 0, none⟩), .int .i64 tn] W fun e w' => ∃ v, e = .returned (.tuple #[v, .int .i64 0]) ∧ ∃ off cnt', off.Nodup ∧ (∀ i, i ∈ off ↔ ∃ d, du i = some d ∧ d ≤ tn) ∧ cnt' + off.length = cnt ∧ One w w' b bd tn (leftD tn du) cnt' dm D ((v, sortZ (dz du) off) :: us) := by
  obtain ⟨cs, F, k1, h2, h3, h4, h5, h6, h7, h8⟩ := h
  refine (advance_ok k1 h1 ht).mono ?_
  rintro e w' ⟨v, rfl, off, cs', F', cnt', g1, g2, g3, g4, g5, g6, hg, hf, g9, g10⟩
  obtain ⟨G, hG, hGF, hGl⟩ := g5.shrink
  have hs := hg.size
  have hl := h4.lt
  have hs8 := h8.size
  refine ⟨v, rfl, off, cnt', g1, g2, g10, cs', G, hG, fun c hc => ⟨?_, hGl c hc⟩, fun hc => ?_, ?_, h5, h6, fun p hp => ?_, h8.trans (hg.below (fun c hc => (h2 c hc).1) h8.size)⟩
  · rcases hf c (hGF c hc) with q | q
    · exact (h2 c q).1
    · omega
  · rcases hf bd (hGF bd hc) with q | q
    · exact h3 q
    · omega
  · obtain ⟨es, clock, q1, q2⟩ := h4
    exact ⟨es, clock, (hg.block bd hl h3).trans q1, q2⟩
  · rcases List.mem_cons.1 hp with e | hp
    · rw [e]; exact ⟨g3, fun c hc => ⟨fun hc2 => g4 c hc (hGF c hc2), by have := g9 c hc; omega⟩⟩
    · refine ⟨(h7 p hp).1.keepGr hg (fun c hc => ((h7 p hp).2 c hc).1), fun c hc => ⟨fun hc2 => ?_, ((h7 p hp).2 c hc).2⟩⟩
      rcases hf c (hGF c hc2) with q | q
      · exact ((h7 p hp).2 c hc).1 q
      · have := (h7 p hp).1.lt' hc; omega
end
theorem one_new (w : World) (n : Int) (hn : 0 ≤ n ∧ n ≤ 1099511627776) {W : World} (hb : Below (w.alloc (.cells (wcs n (.map none) nilL) 51)).heap.size (w.alloc (.cells (wcs n (.map none) nilL) 51)) W) : One w (W.alloc (.map #[] 0)) w.heap.size W.heap.size n (fun _ => none) 0 (fun _ => none) (.map []) [] := by
  have hA := (wheel_new w n hn).below hb
  have hs := hb.size
  have e : (w.alloc (.cells (wcs n (.map none) nilL) 51)).heap.size = w.heap.size + 1 := by simp
  have hb0 : Below w.heap.size w (w.alloc (.cells (wcs n (.map none) nilL) 51)) := (Below.refl _ _).alloc (Nat.le_refl _) _
  have hm := World.ownsMap_made (H := Unit) W Try.prog 3 (plainElem Try.prog 3)
  refine ⟨_, fun c => c = w.heap.size, hA.below ((Below.refl _ _).alloc (Nat.le_refl _) _), fun c hc => ?_, fun hc => ?_, hm, reads_nil, by omega, fun p hp => (by cases hp), (hb0.trans (hb.mono (by omega))).alloc (by omega) _⟩
  · have h1 : c = w.heap.size := hc
    simp; omega
  · have h1 : W.heap.size = w.heap.size := hc
    omega
/-- what the law looks at: each is due, no earlier than the last, and behind one of the same time its number is greater. -/
theorem look_facts {du : Int → Option Int} {now tn : Int} {off : List Int} (hn : off.Nodup) (hm : ∀ i, i ∈ off ↔ ∃ d, du i = some d ∧ d ≤ tn) (k : Nat) (hk : k < (sortZ (dz du) off).length) :
    (∃ d, du (sortZ (dz du) off)[k] = some d ∧ d ≤ tn) ∧ ∀ h : 0 < k, (∃ d, du ((sortZ (dz du) off)[k - 1]'(by omega)) = some d ∧ d ≤ tn) ∧ dz du ((sortZ (dz du) off)[k - 1]'(by omega)) ≤ dz du (sortZ (dz du) off)[k] ∧ (dz du ((sortZ (dz du) off)[k - 1]'(by omega)) = dz du (sortZ (dz du) off)[k] → (sortZ (dz du) off)[k - 1]'(by omega) < (sortZ (dz du) off)[k]) := by
  have hmem : ∀ j (hj : j < (sortZ (dz du) off).length), ∃ d, du (sortZ (dz du) off)[j] = some d ∧ d ≤ tn := fun j hj => (hm _).1 ((sortZ_mem _ _ _).1 (List.getElem_mem hj))
  refine ⟨hmem k hk, fun h => ⟨hmem (k - 1) (by omega), ?_⟩⟩
  have hp := List.pairwise_iff_getElem.1 (sortZ_pair (dz du) off hn) (k - 1) k (by omega) hk (by omega)
  unfold LtZ at hp
  omega
theorem look2 {du : Int → Option Int} {now tn : Int} {off srt : List Int} (hs : srt = sortZ (dz du) off) (hn : off.Nodup) (hm : ∀ i, i ∈ off ↔ ∃ d, du i = some d ∧ d ≤ tn) (k : Nat) (hk : k < srt.length) :
    (∃ d, du srt[k] = some d ∧ d ≤ tn) ∧ ∀ h : 0 < k, (∃ d, du (srt[k - 1]'(by omega)) = some d ∧ d ≤ tn) ∧ dz du (srt[k - 1]'(by omega)) ≤ dz du srt[k] ∧ (dz du (srt[k - 1]'(by omega)) = dz du srt[k] → srt[k - 1]'(by omega) < srt[k]) := by
  subst hs
  exact look_facts (now := now) hn hm k hk
end Go.Proofs.Ytphijplgnffoiaa
