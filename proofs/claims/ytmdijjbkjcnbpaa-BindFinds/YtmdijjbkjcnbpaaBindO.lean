/-
  A port for one more map of a table, and what comes of it.
-/
import Derived.Test.YtmdijjbkjcnbpaaBindM
namespace Go.Proofs.Ytmdijjbkjcnbpaa
open Go.ChangeShapes Go.WideShapes Go.ChangeAt Go.RowKit
set_option linter.unusedSimpArgs false
set_option linter.unusedVariables false

def noM : Mp := (0, 0, 0, 0, 0)
def usedB (ms : List Mp) (p a q : Int) : Bool := ms.any (outS p a q)
/-- the port of a block of the eighteen. -/
def portQ (n i : Nat) : Int := ((1024 + 8 * (n % 6) + i : Nat) : Int)
def unused1 (ms : List Mp) (p : Int) (n : Nat) : Option Nat := (List.range 8).find? fun i => !usedB ms p ((n / 6 : Nat) : Int) (portQ n i)
def unusedO (ms : List Mp) (p : Int) : List Nat → Option (Nat × Nat)
  | [] => none
  | n :: r => match unused1 ms p n with
    | some i => some (n, i)
    | none => unusedO ms p r
theorem unusedO_some {ms : List Mp} {p : Int} {l : List Nat} {n i : Nat} (h : unusedO ms p l = some (n, i)) : n ∈ l ∧ i < 8 ∧ usedB ms p ((n / 6 : Nat) : Int) (portQ n i) = false := by
  induction l with
  | nil => simp [unusedO] at h
  | cons x r ih =>
    unfold unusedO at h
    cases hx : unused1 ms p x with
    | none => rw [hx] at h; obtain ⟨h1, h2⟩ := ih h; exact ⟨by simp [h1], h2⟩
    | some j =>
      rw [hx] at h
      simp only [Option.some.injEq, Prod.mk.injEq] at h
      obtain ⟨rfl, rfl⟩ := h
      have h1 := List.find?_some hx
      have h2 := List.mem_of_find?_eq_some hx
      exact ⟨by simp, List.mem_range.1 h2, by simpa using h1⟩
theorem place_port {n i : Nat} (hn : n < 18) (hi : i < 8) : placeN ((n / 6 : Nat) : Int) (portQ n i) = n := by unfold placeN portQ; omega
theorem portQ_in {n i : Nat} (hi : i < 8) : 1024 ≤ portQ n i ∧ portQ n i < 1072 := by unfold portQ; omega
/-- a subscriber's blocks lie on its home. -/
theorem GoodT.at {f h : Nat → Int} {ms : List Mp} (G : GoodT f h ms) {s : Int} {n : Nat} (hs : 0 ≤ s ∧ s < 8) (hn : n ∈ blocksL f s) : h s.toNat = ((n / 6 : Nat) : Int) + 1 := by
  rw [blocksL_mem] at hn
  obtain ⟨m, hm, e⟩ := G.own n hn.1 (by omega)
  have st := G.maps.1 m hm
  have e1 := st.2.2.2.2.2.2
  have e2 : placeN m.2.2.2.1 m.2.2.2.2 = n := e
  rw [e2, hn.2] at e1
  have e3 := st.2.2.2.2.2.1
  have e4 : m.2.1 = s := by omega
  rw [e4] at e3
  rw [e3]
  have := st.2.2.2.2.1
  have := st.2.2.2.1
  unfold placeN at e2
  omega
theorem GoodT.homeless {f h : Nat → Int} {ms : List Mp} (G : GoodT f h ms) {s : Int} (hs : 0 ≤ s ∧ s < 8) : h s.toNat = 0 ↔ blocksL f s = [] := by
  constructor
  · intro h0
    rw [List.eq_nil_iff_forall_not_mem]
    intro n hn
    have := G.at hs hn
    omega
  · intro hb
    by_cases h0 : h s.toNat = 0
    · exact h0
    · exfalso
      obtain ⟨m, hm, e⟩ := G.home s.toNat (by omega) h0
      have st := G.maps.1 m hm
      have : placeM m ∈ blocksL f s := by
        rw [blocksL_mem]
        refine ⟨st.lt, ?_⟩
        have h1 := st.2.2.2.2.2.2
        have h2 := st.2.1
        have : m.2.1 = s := by omega
        rw [← this]; exact h1
      rw [hb] at this
      simp at this
theorem GoodT.homeIn {f h : Nat → Int} {ms : List Mp} (G : GoodT f h ms) {s : Int} (hs : 0 ≤ s ∧ s < 8) : 0 ≤ h s.toNat ∧ h s.toNat ≤ 3 := by
  by_cases h0 : h s.toNat = 0
  · omega
  · obtain ⟨m, hm, e⟩ := G.home s.toNat (by omega) h0
    have st := G.maps.1 m hm
    have h1 := st.2.2.2.2.2.1
    have h2 := st.2.1
    rw [e] at h1
    have := st.2.2.2.2.1
    omega
/-- the address of one more block. -/
def addrA (f : Nat → Int) (g : Nat → Bool) (h : Nat → Int) (s d : Int) : Int := if h s.toNat = 0 then pickK f g d else h s.toNat - 1
def addrE (f : Nat → Int) (g : Nat → Bool) (h : Nat → Int) (s : Int) : Int := if h s.toNat = 0 then pickE f g else 0
/-- a port for one more map: the owners, the homes, the port, whether a block was taken, the error. -/
structure RoomR where
  f : Nat → Int
  h : Nat → Int
  q : Int
  took : Bool
  e : Int
def roomR (f : Nat → Int) (g : Nat → Bool) (h : Nat → Int) (ms : List Mp) (p s d : Int) : RoomR :=
  match unusedO ms p (blocksL f s) with
  | some x => ⟨f, h, portQ x.1 x.2, false, 0⟩
  | none =>
    if (blocksL f s).length = 2 then ⟨f, h, 0, false, 6⟩ else
    if addrE f g h s = 0 then
      (if takeE f g s (addrA f g h s d) = 0 then ⟨takeF f g s (addrA f g h s d) d, upd h s.toNat (addrA f g h s d + 1), 1024 + 8 * (takeK f g s (addrA f g h s d) d : Int), true, 0⟩
      else ⟨f, h, 0, false, takeE f g s (addrA f g h s d)⟩)
    else ⟨f, h, 0, false, addrE f g h s⟩
section
variable {f : Nat → Int} {g : Nat → Bool} {h : Nat → Int} {ms : List Mp} {p s d : Int}
theorem roomR_some {x : Nat × Nat} (hu : unusedO ms p (blocksL f s) = some x) : roomR f g h ms p s d = ⟨f, h, portQ x.1 x.2, false, 0⟩ := by unfold roomR; rw [hu]
theorem roomR_full (hu : unusedO ms p (blocksL f s) = none) (h1 : (blocksL f s).length = 2) : roomR f g h ms p s d = ⟨f, h, 0, false, 6⟩ := by unfold roomR; rw [hu]; simp only; rw [if_pos h1]
theorem roomR_addr (hu : unusedO ms p (blocksL f s) = none) (h1 : (blocksL f s).length ≠ 2) (h2 : addrE f g h s ≠ 0) : roomR f g h ms p s d = ⟨f, h, 0, false, addrE f g h s⟩ := by unfold roomR; rw [hu]; simp only; rw [if_neg h1, if_neg h2]
theorem roomR_take (hu : unusedO ms p (blocksL f s) = none) (h1 : (blocksL f s).length ≠ 2) (h2 : addrE f g h s = 0) (h3 : takeE f g s (addrA f g h s d) ≠ 0) : roomR f g h ms p s d = ⟨f, h, 0, false, takeE f g s (addrA f g h s d)⟩ := by unfold roomR; rw [hu]; simp only; rw [if_neg h1, if_pos h2, if_neg h3]
theorem roomR_ok (hu : unusedO ms p (blocksL f s) = none) (h1 : (blocksL f s).length ≠ 2) (h2 : addrE f g h s = 0) (h3 : takeE f g s (addrA f g h s d) = 0) : roomR f g h ms p s d = ⟨takeF f g s (addrA f g h s d) d, upd h s.toNat (addrA f g h s d + 1), 1024 + 8 * (takeK f g s (addrA f g h s d) d : Int), true, 0⟩ := by unfold roomR; rw [hu]; simp only; rw [if_neg h1, if_pos h2, if_pos h3]
end
/-- what a new map of a good table comes to. -/
theorem room_ok {f : Nat → Int} {g : Nat → Bool} {h : Nat → Int} {ms : List Mp} {p s i d : Int} (G : GoodT f h ms) (hp : isP p = true) (hs : 0 ≤ s ∧ s < 8) (hi : 0 ≤ i ∧ i ≤ 65535) (hf : ms.any (inS p s i) = false) (hc : cntM ms s ≠ 12) (he : (roomR f g h ms p s d).e = 0) :
    let r := roomR f g h ms p s d
    let m : Mp := (p, s, i, r.h s.toNat - 1, r.q)
    GoodT r.f r.h (ms ++ [m]) ∧ (r.took = false → r.f = f ∧ r.h = h ∧ ms.any (fun o => placeM o == placeM m) = true) ∧
      (r.took = true → r.f = upd f (placeM m) (s + 1) ∧ f (placeM m) = 0 ∧ (∃ a : Int, (0 ≤ a ∧ a < 3) ∧ g a.toNat = false ∧ r.h = upd h s.toNat (a + 1) ∧ (h s.toNat = 0 ∨ h s.toNat = a + 1)) ∧ ms.any (fun o => placeM o == placeM m) = false) := by
  intro r m
  cases hu : unusedO ms p (blocksL f s) with
  | some x =>
    obtain ⟨n, j⟩ := x
    have hr : r = ⟨f, h, portQ n j, false, 0⟩ := roomR_some hu
    obtain ⟨hn, hj, hfree⟩ := unusedO_some hu
    have hat := G.at hs hn
    rw [blocksL_mem] at hn
    have hm : m = (p, s, i, ((n / 6 : Nat) : Int), portQ n j) := by show (p, s, i, r.h s.toNat - 1, r.q) = _; rw [hr]; simp only [hat]; rw [Int.add_sub_cancel]
    have hpm : placeM m = n := by rw [hm]; exact place_port hn.1 hj
    have hst : Stands f h m := by
      rw [hm]
      exact ⟨hp, hs, hi, portQ_in hj, by show 0 ≤ ((n / 6 : Nat) : Int) ∧ ((n / 6 : Nat) : Int) < 3; omega, hat, by show f (placeN _ _) = _; rw [place_port hn.1 hj]; exact hn.2⟩
    have hmeet : meetsB ms m = false := by
      rw [hm, meetsB_false]
      intro o ho
      have h1 := List.any_eq_false.1 hf o ho
      have h2 := List.any_eq_false.1 hfree o ho
      simp only [meetsB, List.any_cons, List.any_nil, Bool.or_false]
      rw [Bool.eq_false_iff.2 h1, Bool.eq_false_iff.2 h2]; rfl
    have hms : m.2.1 = s := by rw [hm]
    refine ⟨?_, fun _ => ⟨by rw [hr], by rw [hr], ?_⟩, fun ht => ?_⟩
    · rw [hr]
      exact good_same G hst hmeet (by rw [hms]; exact hc)
    · obtain ⟨o, ho, e⟩ := G.own n hn.1 (by omega)
      rw [hpm]
      simp only [List.any_eq_true, beq_iff_eq]
      exact ⟨o, ho, e⟩
    · rw [hr] at ht; simp at ht
  | none =>
    have hcases : (blocksL f s).length ≠ 2 ∧ addrE f g h s = 0 ∧ takeE f g s (addrA f g h s d) = 0 := by
      by_cases h1 : (blocksL f s).length = 2
      · rw [roomR_full hu h1] at he; exact absurd he (by simp)
      · by_cases h2 : addrE f g h s = 0
        · by_cases h3 : takeE f g s (addrA f g h s d) = 0
          · exact ⟨h1, h2, h3⟩
          · rw [roomR_take hu h1 h2 h3] at he; exact absurd he h3
        · rw [roomR_addr hu h1 h2] at he; exact absurd he h2
    obtain ⟨h1, h2, h3'⟩ := hcases
    have hr : r = _ := roomR_ok hu h1 h2 h3'
    generalize hA : addrA f g h s d = A at *
    obtain ⟨_, ha, _, hg, hfr⟩ := takeE_inv h3'
    have hK : takeK f g s A d = drawnL (freeL (rowF f A.toNat)) d := by unfold takeK; rw [if_pos h3']
    have hKm := freeL_mem _ _ (drawnL_mem (freeL (rowF f A.toNat)) d hfr)
    rw [← hK] at hKm
    have hF : takeF f g s A d = upd f (6 * A.toNat + takeK f g s A d) (s + 1) := by unfold takeF; rw [if_pos h3']
    generalize takeK f g s A d = K at *
    have hm : m = (p, s, i, A, 1024 + 8 * (K : Int)) := by show (p, s, i, r.h s.toNat - 1, r.q) = _; rw [hr]; simp only [upd, if_true]; rw [Int.add_sub_cancel]
    have hpm : placeM m = 6 * A.toNat + K := by rw [hm]; show placeN A (1024 + 8 * (K : Int)) = _; unfold placeN; omega
    have h0 : f (placeM m) = 0 := by rw [hpm]; exact hKm.2
    have hms : m.2.1 = s := by rw [hm]
    have hma : m.2.2.2.1 = A := by rw [hm]
    have hh : h s.toNat = 0 ∨ h s.toNat = A + 1 := by
      by_cases h0 : h s.toNat = 0
      · exact .inl h0
      · right; unfold addrA at hA; rw [if_neg h0] at hA; omega
    have hb : (blocksL f s).length < 2 := by
      have := (G.few s.toNat (by omega)).1
      rw [Int.toNat_of_nonneg hs.1] at this
      omega
    refine ⟨?_, fun ht => ?_, fun _ => ⟨?_, h0, ⟨A, ha, hg, by rw [hr], hh⟩, ?_⟩⟩
    · have := good_take (m := m) G h0 (by rw [hm]; exact hp) (by rw [hms]; exact hs) (by rw [hm]; exact hi) (by rw [hm]; show 1024 ≤ 1024 + 8 * (K : Int) ∧ 1024 + 8 * (K : Int) < 1072; omega) (by rw [hma]; exact ha) (by rw [hms, hma]; exact hh) (by rw [hm]; exact hf) (by rw [hms]; exact hc) (by rw [hms]; exact hb)
      rw [hms, hma, hpm] at this
      rw [hr, hF]
      exact this
    · rw [hr] at ht; simp at ht
    · rw [hr, hpm, hF]
    · rw [List.any_eq_false]
      intro o ho hx
      have e : placeM o = placeM m := by simpa using hx
      have st := G.maps.1 o ho
      have := st.2.2.2.2.2.2
      have e' : placeN o.2.2.2.1 o.2.2.2.2 = placeM m := e
      rw [e', h0] at this
      have := st.2.1
      omega
/-- a map that was opened is closed again. -/
theorem round_ok {f : Nat → Int} {g : Nat → Bool} {h : Nat → Int} {ms : List Mp} {p s i d : Int} (G : GoodT f h ms) (hp : isP p = true) (hs : 0 ≤ s ∧ s < 8) (hi : 0 ≤ i ∧ i ≤ 65535) (hf : ms.any (inS p s i) = false) (hc : cntM ms s ≠ 12) (he : (roomR f g h ms p s d).e = 0) :
    let r := roomR f g h ms p s d
    let m : Mp := (p, s, i, r.h s.toNat - 1, r.q)
    dropM (ms ++ [m]) m = ms ∧ (r.took = true → ∀ k, k < 18 → upd r.f (placeM m) 0 k = f k) ∧
      (r.took = true → ∀ k, k < 8 → (if (blocksL (upd r.f (placeM m) 0) s).length = 0 then upd r.h s.toNat 0 else r.h) k = h k) := by
  intro r m
  obtain ⟨hG, h1, h2⟩ := room_ok (g := g) (d := d) G hp hs hi hf hc he
  have hno : m ∉ ms := by
    intro hm
    have := List.any_eq_false.1 hf m hm
    exact this ((inS_iff _ _ _ _).2 ⟨rfl, rfl, rfl⟩)
  have hf0 : r.took = true → upd r.f (placeM m) 0 = f := by
    intro ht
    obtain ⟨e1, e2, _⟩ := h2 ht
    rw [show r.f = _ from e1]
    funext k
    unfold upd
    split
    · rename_i e; rw [e]; exact e2.symm
    · rfl
  refine ⟨?_, fun ht k _ => by rw [hf0 ht], fun ht k hk => ?_⟩
  · unfold dropM
    rw [List.filter_append]
    have e1 : ms.filter (fun o => o != m) = ms := by
      rw [List.filter_eq_self]
      intro o ho; simp; rintro rfl; exact hno ho
    rw [e1]; simp
  · rw [hf0 ht]
    obtain ⟨_, _, ⟨a, ha, _, e3, e4⟩, _⟩ := h2 ht
    by_cases hb : (blocksL f s).length = 0
    · rw [if_pos hb, show r.h = _ from e3]
      have h0 := (G.homeless hs).2 (List.length_eq_zero_iff.1 hb)
      unfold upd
      split
      · rename_i e; rw [e, h0]
      · rfl
    · rw [if_neg hb, show r.h = _ from e3]
      have h0 : h s.toNat ≠ 0 := fun h0 => hb (by rw [(G.homeless hs).1 h0]; rfl)
      unfold upd
      split
      · rename_i e; rw [e]; rcases e4 with e4 | e4
        · exact absurd e4 h0
        · exact e4.symm
      · rfl
end Go.Proofs.Ytmdijjbkjcnbpaa
