/-
  A new map that is closed again.
-/
import Derived.Test.YthflhaanndnejaeBindY
import Derived.Test.YthflhaanndnejaeBindJ
namespace Go.Proofs.Ythflhaanndnejae
open Go.ChangeShapes Go.WideShapes Go.ChangeAt Go.RowKit
set_option linter.unusedSimpArgs false
set_option linter.unusedVariables false

theorem tc_same {f f' : Nat → Int} {g : Nat → Bool} {h h' : Nat → Int} {sl : Value} (e1 : ∀ k, k < 18 → f' k = f k) (e2 : ∀ k, k < 8 → h' k = h k) : tc f' g h' sl = tc f g h sl := by
  unfold tc pc hcl
  simp [e1, e2]
attribute [local irreducible] tc pc
set_option maxHeartbeats 2000000 in
theorem close_back (f : Nat → Int) (g : Nat → Bool) (h : Nat → Int) (ms : List Mp) (p s i d : Int) (hP : openP f h ms p s i) (hf : ms.find? (inS p s i) = none) (hc : cntM ms s ≠ 12) (he : (roomR f g h ms p s d).e = 0) (v : Value) (w : World)
    (hM : MapsAt w v (ms ++ [(p, s, i, (roomR f g h ms p s d).h s.toNat - 1, (roomR f g h ms p s d).q)])) :
    Calls Try.prog 14 #[.agg (tc (roomR f g h ms p s d).f g (roomR f g h ms p s d).h v), .agg (mc (p, s, i, (roomR f g h ms p s d).h s.toNat - 1, (roomR f g h ms p s d).q))] w fun e w' => ∃ v2, e = .returned (.tuple #[.agg (tc f g h v2), .bool (roomR f g h ms p s d).took, .int .i64 0]) ∧ MapsAt w' v2 ms ∧ NilOk v2 ∧ Below w.heap.size w w' := by
  have hany : ms.any (inS p s i) = false := by rw [← List.isSome_find?, hf]; rfl
  have hs := hP.2.2.1
  obtain ⟨hG, h1, h2⟩ := room_ok (g := g) (d := d) hP.1 hP.2.1 hs ⟨hP.2.2.2.1, hP.2.2.2.2⟩ hany hc he
  obtain ⟨q1, q2, q3⟩ := round_ok (g := g) (d := d) hP.1 hP.2.1 hs ⟨hP.2.2.2.1, hP.2.2.2.2⟩ hany hc he
  obtain ⟨r, hr⟩ : ∃ r, roomR f g h ms p s d = r := ⟨_, rfl⟩
  rw [hr] at hG h1 h2 q1 q2 q3 hM ⊢
  obtain ⟨m, hm⟩ : ∃ m : Mp, (p, s, i, r.h s.toNat - 1, r.q) = m := ⟨_, rfl⟩
  have hms : m.2.1 = s := by rw [← hm]
  rw [hm] at hG h1 h2 q1 q2 q3 hM ⊢
  have hin : m ∈ ms ++ [m] := by simp
  cases ht : r.took with
  | false =>
    obtain ⟨e1, e2, e3⟩ := h1 ht
    have := close_in r.f g r.h v (ms ++ [m]) m hG.wf w hM hG hin (by rw [q1]; exact e3)
    rw [q1, e1, e2] at this
    rw [e1, e2]
    exact this
  | true =>
    have e3 := (h2 ht).2.2.2
    have t1 := q2 ht
    have t2 := q3 ht
    by_cases hz : (blocksL (closeF r.f m) m.2.1).length = 0
    · have := close_zero r.f g r.h v (ms ++ [m]) m hG.wf w hM hG hin (by rw [q1]; exact e3) hz
      rw [hms] at hz
      rw [if_pos (show (blocksL (upd r.f (placeM m) 0) s).length = 0 from hz)] at t2
      rw [q1] at this
      refine this.mono ?_
      rintro e w' ⟨v2, rfl, hM2, hN2, hb⟩
      exact ⟨v2, by rw [hms, tc_same (f := f) (f' := closeF r.f m) (h := h) t1 t2], hM2, hN2, hb⟩
    · have := close_more r.f g r.h v (ms ++ [m]) m hG.wf w hM hG hin (by rw [q1]; exact e3) hz
      rw [hms] at hz
      rw [if_neg (show ¬ (blocksL (upd r.f (placeM m) 0) s).length = 0 from hz)] at t2
      rw [q1] at this
      refine this.mono ?_
      rintro e w' ⟨v2, rfl, hM2, hN2, hb⟩
      exact ⟨v2, by rw [tc_same (f := f) (f' := closeF r.f m) (h := h) t1 t2], hM2, hN2, hb⟩
end Go.Proofs.Ythflhaanndnejae
