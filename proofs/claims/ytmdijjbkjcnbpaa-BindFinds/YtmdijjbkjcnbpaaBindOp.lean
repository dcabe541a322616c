/-
  Open in a good table, as one: an error and all as it was, or a map that is found from both sides.
-/
import Derived.Test.YtmdijjbkjcnbpaaBindJ
import Derived.Test.YtmdijjbkjcnbpaaBindV
namespace Go.Proofs.Ytmdijjbkjcnbpaa
open Go.ChangeShapes Go.WideShapes Go.ChangeAt Go.RowKit
set_option linter.unusedSimpArgs false
set_option linter.unusedVariables false

theorem back_self {ms : List Mp} (hp : ms.Pairwise (fun o m => meetsB [o] m = false)) {m : Mp} (hm : m ∈ ms) : ms.find? (outS m.1 m.2.2.2.1 m.2.2.2.2) = some m := by
  induction ms with
  | nil => simp at hm
  | cons o r ih =>
    rw [List.pairwise_cons] at hp
    by_cases e : o = m
    · subst e
      have : outS o.1 o.2.2.2.1 o.2.2.2.2 o = true := (outS_iff _ _ _ _).2 ⟨rfl, rfl, rfl⟩
      rw [List.find?_cons_of_pos this]
    · have hm' : m ∈ r := by
        rcases List.mem_cons.1 hm with h | h
        · exact absurd h.symm e
        · exact h
      have h1 := hp.1 m hm'
      have h2 : outS m.1 m.2.2.2.1 m.2.2.2.2 o = false := by
        simp only [meetsB, List.any_cons, List.any_nil, Bool.or_false, Bool.or_eq_false_iff] at h1
        exact h1.2
      rw [List.find?_cons_of_neg (by rw [h2]; simp)]
      exact ih hp.2 hm'
/-- what an Open that went well leaves. -/
structure Played (f h : Nat → Int) (g : Nat → Bool) (p s i : Int) (f' h' : Nat → Int) (ms' : List Mp) (m : Mp) (took : Bool) : Prop where
  good : GoodT f' h' ms'
  find : ms'.find? (inS p s i) = some m
  back : ms'.find? (outS p m.2.2.2.1 m.2.2.2.2) = some m
  addr : 0 ≤ m.2.2.2.1 ∧ m.2.2.2.1 < 3
  again : openP f' h' ms' p s i
  fresh : took = true → g m.2.2.2.1.toNat = false
theorem open_play (f : Nat → Int) (g : Nat → Bool) (h : Nat → Int) (sl : Value) (ms : List Mp) (p s i d : Int) (hwH : wfH h) (hno : NilOk sl) (hd : (Lit.int .i64 d).wf = true) :
    (∃ E : Int, E ≠ 0 ∧ ∀ w : World, MapsAt w sl ms → Calls Try.prog 17 #[.agg (tc f g h sl), .int .i64 p, .int .i64 s, .int .i64 i, .int .i64 d] w fun e w' => e = .returned (openS f g h sl noM false E) ∧ Below w.heap.size w w') ∨
    (∃ (f' h' : Nat → Int) (ms' : List Mp) (m : Mp) (took : Bool), Played f h g p s i f' h' ms' m took ∧ ∀ w : World, MapsAt w sl ms → Calls Try.prog 17 #[.agg (tc f g h sl), .int .i64 p, .int .i64 s, .int .i64 i, .int .i64 d] w fun e w' => ∃ v, e = .returned (openS f' g h' v m took 0) ∧ MapsAt w' v ms' ∧ NilOk v ∧ (v = sl ∨ w.heap.size ≤ mb v) ∧ Below w.heap.size w w') := by
  by_cases hP : openP f h ms p s i
  rotate_left
  · exact .inl ⟨2, by omega, fun w hM => open_bad f g h sl ms p s i d w hM hwH hP⟩
  have G := hP.1
  have hs := hP.2.2.1
  have mk : ∀ {f' h' : Nat → Int} {ms' : List Mp} {m : Mp} {took : Bool}, GoodT f' h' ms' → m ∈ ms' → m.1 = p → m.2.1 = s → m.2.2.1 = i → (took = true → g m.2.2.2.1.toNat = false) → Played f h g p s i f' h' ms' m took := by
    intro f' h' ms' m took G' hm e1 e2 e3 hfr
    have st := G'.maps.1 m hm
    refine ⟨G', ?_, ?_, st.2.2.2.2.1, ⟨G', hP.2⟩, hfr⟩
    · have := find_self G'.maps.2 hm; rw [e1, e2, e3] at this; exact this
    · have := back_self G'.maps.2 hm; rw [e1] at this; exact this
  cases hf : ms.find? (inS p s i) with
  | some m =>
    have hm := List.mem_of_find?_eq_some hf
    have hi := (inS_iff _ _ _ _).1 (List.find?_some hf)
    refine .inr ⟨f, h, ms, m, false, mk G hm hi.1 hi.2.1 hi.2.2 (fun h => by cases h), fun w hM => ?_⟩
    refine (open_found f g h sl ms p s i d w hM hwH hP m hf).mono ?_
    rintro e w' ⟨rfl, hb⟩
    exact ⟨sl, rfl, hM.below hb, hno, .inl rfl, hb⟩
  | none =>
    by_cases hc : cntM ms s = 12
    · exact .inl ⟨6, by omega, fun w hM => open_full f g h sl ms p s i d w hM hwH hP hf hc⟩
    · by_cases he : (roomR f g h ms p s d).e = 0
      rotate_left
      · exact .inl ⟨_, he, fun w hM => open_err f g h sl ms p s i d w hM hwH hd hP hf hc he⟩
      · have hany : ms.any (inS p s i) = false := by rw [← List.isSome_find?, hf]; rfl
        obtain ⟨hG, h1, h2⟩ := room_ok (g := g) (d := d) G hP.2.1 hs ⟨hP.2.2.2.1, hP.2.2.2.2⟩ hany hc he
        refine .inr ⟨(roomR f g h ms p s d).f, (roomR f g h ms p s d).h, ms ++ [(p, s, i, (roomR f g h ms p s d).h s.toNat - 1, (roomR f g h ms p s d).q)], (p, s, i, (roomR f g h ms p s d).h s.toNat - 1, (roomR f g h ms p s d).q), (roomR f g h ms p s d).took, mk hG (by simp) rfl rfl rfl (fun ht => ?_), fun w hM => ?_⟩
        · obtain ⟨_, _, ⟨a, ha, hga, e3, _⟩, _⟩ := h2 ht
          have e4 : (roomR f g h ms p s d).h s.toNat = a + 1 := by rw [e3]; unfold upd; rw [if_pos rfl]
          show g ((roomR f g h ms p s d).h s.toNat - 1).toNat = false
          rw [e4, show a + 1 - 1 = a by omega]
          exact hga
        · refine (open_new f g h sl ms p s i d w hM hwH hno hd hP hf hc he).mono ?_
          rintro e w' ⟨v, rfl, hMv, hNv, hle, hb⟩
          exact ⟨v, rfl, hMv, hNv, .inr hle, hb⟩
end Go.Proofs.Ytmdijjbkjcnbpaa
