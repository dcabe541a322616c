/-
  Of what BindCloses, BindOpens stands on: part 9.
-/
import Derived.Test.YtmdijjbkjcnbpaaBindCO8
namespace Go.Proofs.Ytmdijjbkjcnbpaa
open Go.ChangeShapes Go.WideShapes Go.ChangeAt Go.RowKit
set_option linter.unusedSimpArgs false
set_option linter.unusedVariables false

/-- a map: protocol, subscriber, port inside, address, port outside. -/
abbrev Mp := Int × Int × Int × Int × Int
def isP (p : Int) : Bool := p == 1 || p == 6 || p == 17
theorem isP_iff (p : Int) : isP p = true ↔ p = 1 ∨ p = 6 ∨ p = 17 := by simp [isP, or_assoc]
/-- the block of a port, among the eighteen. -/
def placeN (a q : Int) : Nat := 6 * a.toNat + ((q - 1024) / 8).toNat
theorem placeN_lt {a q : Int} (ha : 0 ≤ a ∧ a < 3) (hq : 1024 ≤ q ∧ q < 1072) : placeN a q < 18 := by unfold placeN; omega
theorem placeN_inj {a b q r : Int} (ha : 0 ≤ a ∧ a < 3) (hq : 1024 ≤ q ∧ q < 1072) (hb : 0 ≤ b ∧ b < 3) (hr : 1024 ≤ r ∧ r < 1072) : placeN a q = placeN b r ↔ a = b ∧ (q - 1024) / 8 = (r - 1024) / 8 := by unfold placeN; omega
def Stands (f h : Nat → Int) (m : Mp) : Prop :=
  isP m.1 = true ∧ (0 ≤ m.2.1 ∧ m.2.1 < 8) ∧ (0 ≤ m.2.2.1 ∧ m.2.2.1 ≤ 65535) ∧ (1024 ≤ m.2.2.2.2 ∧ m.2.2.2.2 < 1072) ∧ (0 ≤ m.2.2.2.1 ∧ m.2.2.2.1 < 3) ∧ h m.2.1.toNat = m.2.2.2.1 + 1 ∧ f (placeN m.2.2.2.1 m.2.2.2.2) = m.2.1 + 1
def inS (p s i : Int) (o : Mp) : Bool := o.1 == p && o.2.1 == s && o.2.2.1 == i
def outS (p a q : Int) (o : Mp) : Bool := o.1 == p && o.2.2.2.1 == a && o.2.2.2.2 == q
theorem inS_iff (p s i : Int) (o : Mp) : inS p s i o = true ↔ o.1 = p ∧ o.2.1 = s ∧ o.2.2.1 = i := by simp [inS, and_assoc]
theorem outS_iff (p a q : Int) (o : Mp) : outS p a q o = true ↔ o.1 = p ∧ o.2.2.2.1 = a ∧ o.2.2.2.2 = q := by simp [outS, and_assoc]
/-- one of the maps has a map's side inside or outside. -/
def meetsB (ms : List Mp) (m : Mp) : Bool := ms.any fun o => inS m.1 m.2.1 m.2.2.1 o || outS m.1 m.2.2.2.1 m.2.2.2.2 o
def placeM (m : Mp) : Nat := placeN m.2.2.2.1 m.2.2.2.2
/-- the maps by themselves are good. -/
def MsOk (f h : Nat → Int) (ms : List Mp) : Prop := (∀ m ∈ ms, Stands f h m) ∧ ms.Pairwise (fun o m => meetsB [o] m = false)
theorem msOk_nil (f h : Nat → Int) : MsOk f h [] := ⟨fun m hm => by simp at hm, List.Pairwise.nil⟩
theorem meetsB_false {ms : List Mp} {m : Mp} : meetsB ms m = false ↔ ∀ o ∈ ms, meetsB [o] m = false := by
  simp [meetsB]
theorem msOk_snoc (f h : Nat → Int) (ms : List Mp) (m : Mp) : MsOk f h (ms ++ [m]) ↔ MsOk f h ms ∧ Stands f h m ∧ meetsB ms m = false := by
  unfold MsOk
  rw [List.pairwise_append, meetsB_false]
  constructor
  · rintro ⟨h1, h2, _, h3⟩
    exact ⟨⟨fun o ho => h1 o (by simp [ho]), h2⟩, h1 m (by simp), fun o ho => h3 o ho m (by simp)⟩
  · rintro ⟨⟨h1, h2⟩, h3, h4⟩
    refine ⟨fun o ho => ?_, h2, by simp, fun o ho x hx => ?_⟩
    · rcases List.mem_append.1 ho with h | h
      · exact h1 o h
      · rw [List.mem_singleton.1 h]; exact h3
    · rw [List.mem_singleton.1 hx]; exact h4 o ho
/-- what the maps ask for. -/
def needF (f : Nat → Int) (ms : List Mp) : Nat → Int := fun k => if (ms.any fun m => placeM m == k) = true then f k else 0
def needH (h : Nat → Int) (ms : List Mp) : Nat → Int := fun k => if (ms.any fun m => m.2.1.toNat == k) = true then h k else 0
theorem needF_nil (f : Nat → Int) : needF f [] = fun _ => 0 := by funext k; simp [needF]
theorem needH_nil (f : Nat → Int) : needH f [] = fun _ => 0 := by funext k; simp [needH]
theorem needF_snoc {f h : Nat → Int} {ms : List Mp} {m : Mp} (hs : Stands f h m) : upd (needF f ms) (placeM m) (m.2.1 + 1) = needF f (ms ++ [m]) := by
  funext k
  unfold upd needF
  by_cases e : k = placeM m
  · subst e; simp [placeM, hs.2.2.2.2.2.2]
  · have : (placeM m == k) = false := by simp; omega
    rw [if_neg e, List.any_append]; simp only [List.any_cons, List.any_nil, this, Bool.or_false]
theorem needH_snoc {f h : Nat → Int} {ms : List Mp} {m : Mp} (hs : Stands f h m) : upd (needH h ms) m.2.1.toNat (m.2.2.2.1 + 1) = needH h (ms ++ [m]) := by
  funext k
  unfold upd needH
  by_cases e : k = m.2.1.toNat
  · subst e; simp [hs.2.2.2.2.2.1]
  · have : (m.2.1.toNat == k) = false := by simp; omega
    rw [if_neg e, List.any_append]; simp only [List.any_cons, List.any_nil, this, Bool.or_false]
/-- the blocks that a subscriber has; how many maps. -/
def blocksL (f : Nat → Int) (s : Int) : List Nat := (List.range 18).filter fun n => f n == s + 1
def cntM (ms : List Mp) (s : Int) : Nat := (ms.filter fun m => m.2.1 == s).length
theorem blocksL_mem (f : Nat → Int) (s : Int) (n : Nat) : n ∈ blocksL f s ↔ n < 18 ∧ f n = s + 1 := by simp [blocksL]
structure GoodT (f h : Nat → Int) (ms : List Mp) : Prop where
  pool : goodP f = true
  maps : MsOk f h ms
  own : ∀ k, k < 18 → f k ≠ 0 → ∃ m ∈ ms, placeM m = k
  home : ∀ s, s < 8 → h s ≠ 0 → ∃ m ∈ ms, m.2.1.toNat = s
  few : ∀ s : Nat, s < 8 → (blocksL f s).length ≤ 2 ∧ cntM ms s ≤ 12
theorem needF_all {f : Nat → Int} {ms : List Mp} : (∀ k, k < 18 → needF f ms k = f k) ↔ ∀ k, k < 18 → f k ≠ 0 → ∃ m ∈ ms, placeM m = k := by
  refine forall_congr' fun k => forall_congr' fun hk => ?_
  unfold needF
  by_cases e : (ms.any fun m => placeM m == k) = true
  · have : ∃ m ∈ ms, placeM m = k := by simpa using e
    simp [e, this]
  · have : ¬ ∃ m ∈ ms, placeM m = k := by simpa using e
    rw [if_neg e]
    constructor
    · intro h1 h2; exact absurd h1.symm h2
    · intro h1
      by_cases h0 : f k = 0
      · exact h0.symm
      · exact absurd (h1 h0) this
theorem needH_all {h : Nat → Int} {ms : List Mp} : (∀ k, k < 8 → needH h ms k = h k) ↔ ∀ k, k < 8 → h k ≠ 0 → ∃ m ∈ ms, m.2.1.toNat = k := by
  refine forall_congr' fun k => forall_congr' fun hk => ?_
  unfold needH
  by_cases e : (ms.any fun m => m.2.1.toNat == k) = true
  · have : ∃ m ∈ ms, m.2.1.toNat = k := by simpa using e
    simp [e, this]
  · have : ¬ ∃ m ∈ ms, m.2.1.toNat = k := by simpa using e
    rw [if_neg e]
    constructor
    · intro h1 h2; exact absurd h1.symm h2
    · intro h1
      by_cases h0 : h k = 0
      · exact h0.symm
      · exact absurd (h1 h0) this
theorem goodT_iff {f h : Nat → Int} {ms : List Mp} : GoodT f h ms ↔ goodP f = true ∧ MsOk f h ms ∧ (∀ k, k < 18 → needF f ms k = f k) ∧ (∀ k, k < 8 → needH h ms k = h k) ∧ ∀ s : Nat, s < 8 → (blocksL f s).length ≤ 2 ∧ cntM ms s ≤ 12 := by
  rw [needF_all, needH_all]
  exact ⟨fun x => ⟨x.pool, x.maps, x.own, x.home, x.few⟩, fun x => ⟨x.1, x.2.1, x.2.2.1, x.2.2.2.1, x.2.2.2.2⟩⟩
theorem Stands.lt {f h : Nat → Int} {m : Mp} (x : Stands f h m) : placeM m < 18 := placeN_lt x.2.2.2.2.1 x.2.2.2.1
/-- a port that is free in a block that the subscriber has. -/
theorem good_same {f h : Nat → Int} {ms : List Mp} {m : Mp} (G : GoodT f h ms) (hs : Stands f h m) (hm : meetsB ms m = false) (hc : cntM ms m.2.1 ≠ 12) : GoodT f h (ms ++ [m]) := by
  refine ⟨G.pool, (msOk_snoc f h ms m).2 ⟨G.maps, hs, hm⟩, fun k hk h0 => ?_, fun s h8 h0 => ?_, fun s h8 => ⟨(G.few s h8).1, ?_⟩⟩
  · obtain ⟨o, ho, e⟩ := G.own k hk h0; exact ⟨o, by simp [ho], e⟩
  · obtain ⟨o, ho, e⟩ := G.home s h8 h0; exact ⟨o, by simp [ho], e⟩
  · have h12 := (G.few s h8).2
    unfold cntM at *
    rw [List.filter_append, List.length_append]
    by_cases e : m.2.1 = (s : Int)
    · rw [e] at hc
      simp [e]; omega
    · simp [e, h12]
theorem blocksL_upd {f : Nat → Int} {n : Nat} {x s : Int} (hn : n < 18) (h0 : f n ≠ s + 1) : (blocksL (upd f n x) s).length = (blocksL f s).length + if x = s + 1 then 1 else 0 := by
  have key : ∀ N, ((List.range N).filter fun k => upd f n x k == s + 1).length = ((List.range N).filter fun k => f k == s + 1).length + if n < N ∧ x = s + 1 then 1 else 0 := by
    intro N
    induction N with
    | zero => simp
    | succ N ih =>
      rw [List.range_succ, List.filter_append, List.filter_append, List.length_append, List.length_append, ih]
      by_cases e : N = n
      · subst e
        have h0' : (f N == s + 1) = false := by simp [h0]
        by_cases hx : x = s + 1
        · simp [upd, hx, h0']
        · have hx' : (x == s + 1) = false := by simp [hx]
          simp [upd, hx, h0', hx']
      · have e1 : upd f n x N = f N := by simp [upd, e]
        simp only [List.filter, e1]
        by_cases hx : x = s + 1
        · have e2 : (n < N + 1) = (n < N) := by apply propext; omega
          simp only [hx, e2]; omega
        · simp [hx]
  unfold blocksL
  rw [key 18]
  simp [hn]
/-- a block that nobody had is taken, and its first port is the one. -/
theorem good_take {f h : Nat → Int} {ms : List Mp} {m : Mp} (G : GoodT f h ms) (h0 : f (placeM m) = 0) (hp : isP m.1 = true) (hsb : 0 ≤ m.2.1 ∧ m.2.1 < 8) (hi : 0 ≤ m.2.2.1 ∧ m.2.2.1 ≤ 65535) (hq : 1024 ≤ m.2.2.2.2 ∧ m.2.2.2.2 < 1072) (ha : 0 ≤ m.2.2.2.1 ∧ m.2.2.2.1 < 3) (hh : h m.2.1.toNat = 0 ∨ h m.2.1.toNat = m.2.2.2.1 + 1) (hf : ms.any (inS m.1 m.2.1 m.2.2.1) = false) (hc : cntM ms m.2.1 ≠ 12) (hb : (blocksL f m.2.1).length < 2) : GoodT (upd f (placeM m) (m.2.1 + 1)) (upd h m.2.1.toNat (m.2.2.2.1 + 1)) (ms ++ [m]) := by
  have hpl : placeM m < 18 := placeN_lt ha hq
  have hst : Stands (upd f (placeM m) (m.2.1 + 1)) (upd h m.2.1.toNat (m.2.2.2.1 + 1)) m := ⟨hp, hsb, hi, hq, ha, by simp [upd], by simp [upd, placeM]⟩
  have hold : ∀ o ∈ ms, Stands (upd f (placeM m) (m.2.1 + 1)) (upd h m.2.1.toNat (m.2.2.2.1 + 1)) o := by
    intro o ho
    have so := G.maps.1 o ho
    refine ⟨so.1, so.2.1, so.2.2.1, so.2.2.2.1, so.2.2.2.2.1, ?_, ?_⟩
    · have := so.2.2.2.2.2.1
      unfold upd
      split
      · rename_i e
        rcases hh with hh | hh
        · rw [← e] at hh; rw [hh] at this; have := so.2.2.2.2.1; omega
        · rw [← e] at hh; rw [hh] at this; omega
      · exact this
    · have e7 := so.2.2.2.2.2.2
      unfold upd
      split
      · rename_i e
        have e' : f (placeM m) = o.2.1 + 1 := by rw [← e]; exact e7
        have := so.2.1; omega
      · exact e7
  have hmm : meetsB ms m = false := by
    rw [meetsB_false]
    intro o ho
    have hin : inS m.1 m.2.1 m.2.2.1 o = false := by
      have := List.any_eq_false.1 hf o ho
      simpa using this
    have hout : outS m.1 m.2.2.2.1 m.2.2.2.2 o = false := by
      cases hx : outS m.1 m.2.2.2.1 m.2.2.2.2 o with
      | false => rfl
      | true =>
        obtain ⟨_, e1, e2⟩ := (outS_iff _ _ _ _).1 hx
        have so := G.maps.1 o ho
        have e7 := so.2.2.2.2.2.2
        have : placeN o.2.2.2.1 o.2.2.2.2 = placeM m := by rw [e1, e2]; rfl
        rw [this, h0] at e7
        have := so.2.1; omega
    simp [meetsB, hin, hout]
  refine ⟨goodP_true ?_, (msOk_snoc _ _ ms m).2 ⟨⟨hold, G.maps.2⟩, hst, hmm⟩, fun k hk hk0 => ?_, fun s h8 hs0 => ?_, fun s h8 => ⟨?_, ?_⟩⟩
  · intro i hi'
    have := goodP_inv G.pool i hi'
    unfold upd
    split <;> omega
  · by_cases e : k = placeM m
    · exact ⟨m, by simp, e.symm⟩
    · obtain ⟨o, ho, e'⟩ := G.own k hk (by simpa [upd, e] using hk0); exact ⟨o, by simp [ho], e'⟩
  · by_cases e : s = m.2.1.toNat
    · exact ⟨m, by simp, e.symm⟩
    · obtain ⟨o, ho, e'⟩ := G.home s h8 (by simpa [upd, e] using hs0); exact ⟨o, by simp [ho], e'⟩
  · rw [blocksL_upd hpl (by omega)]
    have := (G.few s h8).1
    by_cases e : m.2.1 = (s : Int)
    · rw [e] at hb; simp [e]; omega
    · have e' : ¬ (m.2.1 + 1 = (s : Int) + 1) := by omega
      rw [if_neg e']; omega
  · have h12 := (G.few s h8).2
    unfold cntM at *
    rw [List.filter_append, List.length_append]
    by_cases e : m.2.1 = (s : Int)
    · rw [e] at hc
      simp [e]; omega
    · simp [e, h12]
/-- the maps without one. -/
def dropM (ms : List Mp) (m : Mp) : List Mp := ms.filter fun o => o != m
theorem dropM_len {ms : List Mp} {m : Mp} : (dropM ms m).length = ms.length ↔ m ∉ ms := by
  unfold dropM
  rw [List.length_filter_eq_length_iff]
  constructor
  · intro h hm; have := h m hm; simp at this
  · intro h o ho; simp; rintro rfl; exact h ho
theorem apart_ne {f h : Nat → Int} {ms : List Mp} (G : MsOk f h ms) : ms.Pairwise (fun o m => o ≠ m) := by
  refine G.2.imp ?_
  rintro o m hm rfl
  simp [meetsB, inS] at hm
theorem count_drop {ms : List Mp} {m : Mp} (hp : ms.Pairwise (fun o m => o ≠ m)) (hm : m ∈ ms) : (dropM ms m).length + 1 = ms.length := by
  induction ms with
  | nil => simp at hm
  | cons x xs ih =>
    rw [List.pairwise_cons] at hp
    by_cases e : x = m
    · subst e
      have hno : x ∉ xs := fun hx => hp.1 x hx rfl
      have := dropM_len.2 hno
      unfold dropM at *
      simp [this]
    · have hm' : m ∈ xs := by
        rcases List.mem_cons.1 hm with h | h
        · exact absurd h.symm e
        · exact h
      have := ih hp.2 hm'
      unfold dropM at *
      have e' : (x != m) = true := by simp [e]
      simp [List.filter, e']; omega
/-- a map is closed whose block has another map. -/
theorem good_drop {f h : Nat → Int} {ms : List Mp} {m : Mp} (G : GoodT f h ms) (hm : m ∈ ms) (ha : (dropM ms m).any (fun o => placeM o == placeM m) = true) : GoodT f h (dropM ms m) := by
  have sub : (dropM ms m).Sublist ms := List.filter_sublist
  have mem : ∀ o, o ∈ dropM ms m ↔ o ∈ ms ∧ o ≠ m := by intro o; simp [dropM]
  have sm := G.maps.1 m hm
  obtain ⟨o, ho, e⟩ : ∃ o ∈ dropM ms m, placeM o = placeM m := by simpa using ha
  have so := G.maps.1 o (sub.mem ho)
  refine ⟨G.pool, ⟨fun x hx => G.maps.1 x (sub.mem hx), G.maps.2.sublist sub⟩, fun k hk h0 => ?_, fun s h8 h0 => ?_, fun s h8 => ⟨(G.few s h8).1, ?_⟩⟩
  · obtain ⟨x, hx, ex⟩ := G.own k hk h0
    by_cases hxm : x = m
    · subst hxm; exact ⟨o, ho, e.trans ex⟩
    · exact ⟨x, (mem x).2 ⟨hx, hxm⟩, ex⟩
  · obtain ⟨x, hx, ex⟩ := G.home s h8 h0
    by_cases hxm : x = m
    · subst hxm
      refine ⟨o, ho, ?_⟩
      have e1 := so.2.2.2.2.2.2
      have e2 := sm.2.2.2.2.2.2
      have : placeN o.2.2.2.1 o.2.2.2.2 = placeN x.2.2.2.1 x.2.2.2.2 := e
      rw [this, e2] at e1
      omega
    · exact ⟨x, (mem x).2 ⟨hx, hxm⟩, ex⟩
  · exact Nat.le_trans (sub.filter _).length_le (G.few s h8).2
theorem blocksL_zero {f : Nat → Int} {n : Nat} {s : Int} (hn : n < 18) (h0 : f n = s + 1) (t : Int) (ht : 0 ≤ t) (hs : 0 ≤ s) : (blocksL (upd f n 0) t).length + (if s = t then 1 else 0) = (blocksL f t).length := by
  have e : upd (upd f n 0) n (s + 1) = f := by
    funext k; unfold upd; split
    · rename_i e; rw [e, h0]
    · rfl
  have := blocksL_upd (f := upd f n 0) (n := n) (x := s + 1) (s := t) hn (by simp [upd]; omega)
  rw [e] at this
  rw [this]
  by_cases e : s = t
  · simp [e]
  · have : ¬ (s + 1 = t + 1) := by omega
    simp [e, this]
/-- a map is closed whose block had no other: the block is given back. -/
theorem good_give {f h : Nat → Int} {ms : List Mp} {m : Mp} (G : GoodT f h ms) (hm : m ∈ ms) (ha : (dropM ms m).any (fun o => placeM o == placeM m) = false) :
    GoodT (upd f (placeM m) 0) (if (blocksL (upd f (placeM m) 0) m.2.1).length = 0 then upd h m.2.1.toNat 0 else h) (dropM ms m) := by
  have sub : (dropM ms m).Sublist ms := List.filter_sublist
  have mem : ∀ o, o ∈ dropM ms m ↔ o ∈ ms ∧ o ≠ m := by intro o; simp [dropM]
  have sm := G.maps.1 m hm
  have hpl := sm.lt
  have hno : ∀ o ∈ dropM ms m, placeM o ≠ placeM m := by
    intro o ho
    have := List.any_eq_false.1 ha o ho
    simpa using this
  have hF : ∀ o ∈ dropM ms m, upd f (placeM m) 0 (placeM o) = o.2.1 + 1 := by
    intro o ho
    have so := G.maps.1 o (sub.mem ho)
    have := hno o ho
    simp only [upd, this, if_false]
    exact so.2.2.2.2.2.2
  refine ⟨goodP_true ?_, ⟨fun o ho => ?_, G.maps.2.sublist sub⟩, fun k hk h0 => ?_, fun s h8 h0 => ?_, fun s h8 => ⟨?_, ?_⟩⟩
  · intro i hi'
    have := goodP_inv G.pool i hi'
    unfold upd
    split <;> omega
  · have so := G.maps.1 o (sub.mem ho)
    refine ⟨so.1, so.2.1, so.2.2.1, so.2.2.2.1, so.2.2.2.2.1, ?_, hF o ho⟩
    split
    · rename_i hz
      unfold upd
      split
      · rename_i e
        exfalso
        have : placeM o ∈ blocksL (upd f (placeM m) 0) m.2.1 := by
          rw [blocksL_mem]
          refine ⟨so.lt, ?_⟩
          rw [hF o ho]
          have := so.2.1; have := sm.2.1; omega
        rw [List.length_eq_zero_iff] at hz
        rw [hz] at this
        simp at this
      · exact so.2.2.2.2.2.1
    · exact so.2.2.2.2.2.1
  · by_cases e : k = placeM m
    · subst e; simp [upd] at h0
    · obtain ⟨x, hx, ex⟩ := G.own k hk (by simpa [upd, e] using h0)
      exact ⟨x, (mem x).2 ⟨hx, fun hxm => e (by rw [← ex, hxm])⟩, ex⟩
  · have hh : h s ≠ 0 := by
      split at h0
      · unfold upd at h0
        split at h0
        · exact absurd rfl h0
        · exact h0
      · exact h0
    obtain ⟨x, hx, ex⟩ := G.home s h8 hh
    by_cases hxm : x = m
    · subst hxm
      split at h0
      · rename_i hz
        simp [upd, ex] at h0
      · rename_i hz
        obtain ⟨n, hn⟩ := List.exists_mem_of_length_pos (Nat.pos_of_ne_zero hz)
        rw [blocksL_mem] at hn
        have sb := sm.2.1
        have hnp : n ≠ placeM x := by
          rintro rfl
          have := hn.2
          simp [upd] at this
          omega
        have hfn : f n = x.2.1 + 1 := by simpa [upd, hnp] using hn.2
        obtain ⟨y, hy, ey⟩ := G.own n hn.1 (by omega)
        have sy := G.maps.1 y hy
        refine ⟨y, (mem y).2 ⟨hy, fun e => hnp (by rw [← ey, e])⟩, ?_⟩
        have := sy.2.2.2.2.2.2
        have e3 : placeN y.2.2.2.1 y.2.2.2.2 = n := ey
        rw [e3, hfn] at this
        have := sy.2.1; omega
    · exact ⟨x, (mem x).2 ⟨hx, hxm⟩, ex⟩
  · have h1 := blocksL_zero (f := f) (n := placeM m) (s := m.2.1) hpl sm.2.2.2.2.2.2 (s : Int) (by omega) sm.2.1.1
    have := (G.few s h8).1
    omega
  · exact Nat.le_trans (sub.filter _).length_le (G.few s h8).2
end Go.Proofs.Ytmdijjbkjcnbpaa
