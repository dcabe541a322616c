/-
  A wheel in memory: a row of 450 cells within a block, its map of times, its lists.
-/
import Derived.Test.YtphijplgnffoiaaWhA
import Derived.Test.YtphijplgnffoiaaWhT
import Derived.Maps.OwnSet
import Derived.Maps.OwnOps
import Derived.Maps.AppendAt
import Derived.Deep.RegionHeld3
namespace Go.Proofs.Ytphijplgnffoiaa
open Go.ChangeShapes Go.WideShapes Go.ChangeAt Go.RowKit Go.Maps
set_option linter.unusedSimpArgs false
set_option linter.unusedVariables false

/-- nothing has turned but the blocks of F, and new ones. -/
structure Gr (F : Nat → Prop) (w w' : World) : Prop where
  os : w'.os = w.os
  tape : w'.tape = w.tape
  output : w'.output = w.output
  size : w.heap.size ≤ w'.heap.size
  block : ∀ c, c < w.heap.size → ¬ F c → w'.heap[c]? = w.heap[c]?
theorem Gr.refl (F : Nat → Prop) (w : World) : Gr F w w := ⟨rfl, rfl, rfl, Nat.le_refl _, fun _ _ _ => rfl⟩
theorem Gr.trans {F G : Nat → Prop} {a b c : World} (h : Gr F a b) (k : Gr G b c) (hG : ∀ x, G x → F x ∨ a.heap.size ≤ x) : Gr F a c :=
  ⟨k.os.trans h.os, k.tape.trans h.tape, k.output.trans h.output, Nat.le_trans h.size k.size, fun x hx hn => (k.block x (Nat.lt_of_lt_of_le hx h.size) (fun hg => by rcases hG x hg with h1 | h1; exact hn h1; omega)).trans (h.block x hx hn)⟩
theorem Gr.mono {F G : Nat → Prop} {a b : World} (h : Gr F a b) (hG : ∀ x, F x → G x) : Gr G a b := ⟨h.os, h.tape, h.output, h.size, fun x hx hn => h.block x hx (fun hf => hn (hG x hf))⟩
theorem Gr.below {F : Nat → Prop} {B : Nat} {w w' : World} (h : Gr F w w') (hF : ∀ c, F c → B ≤ c) (hB : B ≤ w.heap.size) : Below B w w' :=
  ⟨h.os, h.tape, h.output, h.size, fun k hk => h.block k (by omega) (fun hf => by have := hF k hf; omega)⟩
theorem Gr.of_below {F : Nat → Prop} {w w' : World} (h : Below w.heap.size w w') : Gr F w w' := ⟨h.os, h.tape, h.output, h.size, fun k hk _ => h.block k hk⟩
theorem Gr.of_grown {F : Nat → Prop} {w w' : World} {row : Option Nat} (h : w.grownBy w' row) (hF : ∀ c, row = some c → F c) : Gr F w w' :=
  ⟨h.os, h.tape, h.output, h.size, fun k hk hn => h.block k hk (fun e => hn (hF k e.symm))⟩
theorem Gr.setCell {F : Nat → Prop} (w : World) (b o : Nat) (v : Value) (hb : F b) : Gr F w (w.setCell ⟨b, o, none⟩ v) :=
  ⟨rfl, rfl, rfl, by simp [World.setCell], fun k hk hn => Below.heap_setCell _ _ _ _ (fun e => hn (e ▸ hb))⟩
theorem Gr.drew {F : Nat → Prop} {a w : World} (h : Gr F a w) : Gr F a w.drew := ⟨h.os, h.tape, h.output, h.size, h.block⟩

def updV (ls : Nat → Value) (n : Nat) (v : Value) : Nat → Value := fun i => if i = n then v else ls i
/-- a list of numbers that owns its row, or nil. -/
abbrev Own (w : World) (v : Value) (l : List Int) : Prop := w.ownsRow 0 3 1 v l.length (l.map (Value.int .i64))
abbrev MapI (w : World) (b n : Nat) (D : DataW Unit) : Prop := w.ownsMap Try.prog 3 (plainElem Try.prog 3) b n D
structure WM (w : World) (b : Nat) (t : TypeId) (cs : Array Value) (o : Nat) (now : Int) (mb : Option Nat) (D : DataW Unit) (vs : Nat → Value) (L : Nat → List Int) : Prop where
  row : w.heap[b]? = some (.cells cs t (0, 0))
  size : o + 450 ≤ cs.size
  c0 : cs[o]? = some (.int .i64 now)
  c1 : cs[o + 1]? = some (.map mb)
  cl : ∀ k, k < 448 → cs[o + 2 + k]? = some (vs k)
  own : ∀ k, k < 448 → Own w (vs k) (L k)
  nil : ∀ k, k < 448 → L k = [] → vs k = .slice none 0 0
  apart : ∀ j k c, j < 448 → k < 448 → (vs j).ownBlock = some c → (vs k).ownBlock = some c → j = k
  notb : ∀ k, k < 448 → (vs k).ownBlock ≠ some b
  map : (mb = none ∧ D = .map []) ∨ ∃ bm n, mb = some bm ∧ n ≤ 1000000 ∧ MapI w bm n D
/-- the blocks that a wheel has. -/
def Fp (b : Nat) (mb : Option Nat) (vs : Nat → Value) (c : Nat) : Prop := c = b ∨ mb = some c ∨ ∃ k, k < 448 ∧ (vs k).ownBlock = some c
/-- outside the wheel's own cells all is as it was. -/
def SameOut (o : Nat) (cs cs' : Array Value) : Prop := cs'.size = cs.size ∧ ∀ i, (i < o ∨ o + 450 ≤ i) → cs'[i]? = cs[i]?
theorem SameOut.refl (o : Nat) (cs : Array Value) : SameOut o cs cs := ⟨rfl, fun _ _ => rfl⟩
theorem SameOut.trans {o : Nat} {a b c : Array Value} (h : SameOut o a b) (k : SameOut o b c) : SameOut o a c := ⟨k.1.trans h.1, fun i hi => (k.2 i hi).trans (h.2 i hi)⟩
theorem SameOut.set (o i : Nat) (cs : Array Value) (v : Value) (h1 : o ≤ i) (h2 : i < o + 450) : SameOut o cs (cs.setIfInBounds i v) := by
  refine ⟨by simp, fun j hj => ?_⟩
  rw [Array.getElem?_setIfInBounds]
  rw [if_neg (by omega)]
section
variable {w : World} {b : Nat} {t : TypeId} {cs : Array Value} {o : Nat} {now : Int} {mb : Option Nat} {D : DataW Unit} {vs : Nat → Value} {L : Nat → List Int}
theorem WM.lt (h : WM w b t cs o now mb D vs L) : b < w.heap.size := (Array.getElem?_eq_some_iff.1 h.row).1
theorem WM.cell (h : WM w b t cs o now mb D vs L) (i : Nat) : w.cell? ⟨b, i, none⟩ = cs[i]? := by simp [World.cell?, h.row]
theorem WM.free (h : WM w b t cs o now mb D vs L) (i : Nat) : w.frozen? ⟨b, i, none⟩ = false := by simp [World.frozen?, h.row]
theorem Own.ne_map {w : World} {v : Value} {l : List Int} {bm n : Nat} {D : DataW Unit} (h : Own w v l) (hm : MapI w bm n D) : v.ownBlock ≠ some bm := by
  obtain ⟨es, clock, hb, _⟩ := hm
  rcases h.2 with ⟨e, _⟩ | ⟨g, cap, cur, e, _, hg, _⟩
  · rw [e]; simp [Value.ownBlock]
  · rw [e]
    intro he
    have : g = bm := by simpa [Value.ownBlock] using he
    subst this
    rw [hg] at hb
    cases hb
theorem MapI.ne_row {w : World} {b bm n : Nat} {t : TypeId} {cs : Array Value} {D : DataW Unit} (hr : w.heap[b]? = some (.cells cs t (0, 0))) (hm : MapI w bm n D) : bm ≠ b := by
  obtain ⟨es, clock, hb, _⟩ := hm
  rintro rfl
  rw [hr] at hb
  cases hb
theorem Own.ne_row {w : World} {v : Value} {l : List Int} {b : Nat} {t : TypeId} {cs : Array Value} (h : Own w v l) (hr : w.heap[b]? = some (.cells cs t (0, 0))) (ht : t ≠ 3) : v.ownBlock ≠ some b := by
  rcases h.2 with ⟨e, _⟩ | ⟨g, cap, cur, e, _, hg, _⟩
  · rw [e]; simp [Value.ownBlock]
  · rw [e]
    intro he
    have : g = b := by simpa [Value.ownBlock] using he
    subst this
    rw [hg] at hr
    cases hr
    exact ht rfl
/-- new blocks, and blocks that are none of the wheel's. -/
theorem WM.keep {w' : World} {F : Nat → Prop} (h : WM w b t cs o now mb D vs L) (hg : Gr F w w') (hF : ∀ c, Fp b mb vs c → ¬ F c) : WM w' b t cs o now mb D vs L := by
  refine ⟨(hg.block b h.lt (hF b (.inl rfl))).trans h.row, h.size, h.c0, h.c1, h.cl, fun k hk => ?_, h.nil, h.apart, h.notb, ?_⟩
  · obtain ⟨h1, h2⟩ := h.own k hk
    refine ⟨h1, ?_⟩
    rcases h2 with h2 | ⟨g, cap, cur, e, h3, h4, h5⟩
    · exact .inl h2
    · refine .inr ⟨g, cap, cur, e, h3, ?_, h5⟩
      rw [← h4]
      exact hg.block g (Array.getElem?_eq_some_iff.1 h4).1 (hF g (.inr (.inr ⟨k, hk, by rw [e]; rfl⟩)))
  · rcases h.map with h1 | ⟨bm, n, h1, hn, es, clock, h2, h3⟩
    · exact .inl h1
    · exact .inr ⟨bm, n, h1, hn, es, clock, (hg.block bm (Array.getElem?_eq_some_iff.1 h2).1 (hF bm (.inr (.inl h1)))).trans h2, h3⟩
theorem WM.below {w' : World} (h : WM w b t cs o now mb D vs L) (hb : Below w.heap.size w w') : WM w' b t cs o now mb D vs L := h.keep (Gr.of_below (F := fun _ => False) hb) (fun _ _ => id)
theorem WM.alloc (h : WM w b t cs o now mb D vs L) (x : Obj) : WM (w.alloc x) b t cs o now mb D vs L := h.below ((Below.refl _ _).alloc (Nat.le_refl _) _)
theorem WM.drew (h : WM w b t cs o now mb D vs L) : WM w.drew b t cs o now mb D vs L := h.below (Below.refl _ _).drew
/-- one list is turned, and laid into its place. -/
theorem WM.turnL {w2 : World} (h : WM w b t cs o now mb D vs L) {k : Nat} (hk : k < 448) {v' : Value} {l' : List Int} (hg : w.grownBy w2 (vs k).ownBlock) (hown : Own w2 v' l') (hnil : l' = [] → v' = .slice none 0 0)
    (hloc : v'.ownBlock = none ∨ v'.ownBlock = (vs k).ownBlock ∨ ∃ c, v'.ownBlock = some c ∧ w.heap.size ≤ c) {i : Nat} (hi : i = o + 2 + k) :
    WM (w2.setCell ⟨b, i, none⟩ v') b t (cs.setIfInBounds i v') o now mb D (updV vs k v') (setL L k l') ∧ SameOut o cs (cs.setIfInBounds i v') ∧ Gr (Fp b mb vs) w (w2.setCell ⟨b, i, none⟩ v') ∧ ∀ c, Fp b mb (updV vs k v') c → Fp b mb vs c ∨ w.heap.size ≤ c := by
  subst hi
  have hbk : some b ≠ (vs k).ownBlock := fun e => h.notb k hk e.symm
  have hrow : w2.heap[b]? = some (.cells cs t (0, 0)) := (hg.block b h.lt hbk).trans h.row
  have hsz := h.size
  have hlt : ∀ c, v'.ownBlock = some c → c ≠ b := by
    intro c hc e
    rcases hloc with h1 | h1 | ⟨c', h1, h2⟩
    · rw [h1] at hc; cases hc
    · exact h.notb k hk (by rw [← h1, hc, e])
    · rw [h1] at hc; cases hc; have := h.lt; omega
  have hGr : Gr (Fp b mb vs) w (w2.setCell ⟨b, o + 2 + k, none⟩ v') := (Gr.of_grown hg (fun c hc => .inr (.inr ⟨k, hk, hc⟩))).trans (Gr.setCell (F := fun c => c = b) w2 b _ v' rfl) (fun x hx => .inl (.inl hx))
  have hset : ∀ c, c ≠ b → (w2.setCell ⟨b, o + 2 + k, none⟩ v').heap[c]? = w2.heap[c]? := fun c hc => Below.heap_setCell _ _ _ _ hc
  refine ⟨⟨heap_setCell_same w2 b _ _ t _ hrow, by simpa using hsz, ?_, ?_, fun j hj => ?_, fun j hj => ?_, fun j hj hl => ?_, fun j j' c hj hj' h1 h2 => ?_, fun j hj => ?_, ?_⟩, SameOut.set o _ cs v' (by omega) (by omega), hGr, fun c hc => ?_⟩
  · rw [Array.getElem?_setIfInBounds_ne (by omega)]; exact h.c0
  · rw [Array.getElem?_setIfInBounds_ne (by omega)]; exact h.c1
  · by_cases e : j = k
    · subst e
      rw [Array.getElem?_setIfInBounds_self_of_lt (by omega)]
      simp [updV]
    · rw [Array.getElem?_setIfInBounds_ne (by omega), h.cl j hj]
      simp [updV, e]
  · by_cases e : j = k
    · subst e
      obtain ⟨h1, h2⟩ := hown
      simp only [updV, setL, if_true]
      refine ⟨h1, ?_⟩
      rcases h2 with h2 | ⟨g, cap, cur, e, h3, h4, h5⟩
      · exact .inl h2
      · exact .inr ⟨g, cap, cur, e, h3, (hset g (hlt g (by rw [e]; rfl))).trans h4, h5⟩
    · simp only [updV, setL, if_neg e]
      obtain ⟨h1, h2⟩ := h.own j hj
      refine ⟨h1, ?_⟩
      rcases h2 with h2 | ⟨g, cap, cur, e', h3, h4, h5⟩
      · exact .inl h2
      · have hgj : (vs j).ownBlock = some g := by rw [e']; rfl
        refine .inr ⟨g, cap, cur, e', h3, ?_, h5⟩
        rw [hset g (fun e2 => h.notb j hj (by rw [hgj, e2])), ← h4]
        exact hg.block g (Array.getElem?_eq_some_iff.1 h4).1 (fun e2 => e (h.apart j k g hj hk hgj e2.symm))
  · by_cases e : j = k
    · subst e; simp only [updV, setL, if_true] at hl ⊢; exact hnil hl
    · simp only [updV, setL, if_neg e] at hl ⊢; exact h.nil j hj hl
  · have key : ∀ m, m < 448 → m ≠ k → (vs m).ownBlock = some c → v'.ownBlock = some c → False := by
      intro m hm hmk h3 h4
      rcases hloc with h5 | h5 | ⟨c', h5, h6⟩
      · rw [h5] at h4; cases h4
      · exact hmk (h.apart m k c hm hk h3 (by rw [← h5, h4]))
      · rw [h5] at h4; cases h4
        have := ((h.own m hm).lt c h3).2
        omega
    by_cases e : j = k
    · by_cases e' : j' = k
      · rw [e, e']
      · simp only [updV, if_pos e, if_neg e'] at h1 h2
        exact (key j' hj' e' h2 h1).elim
    · by_cases e' : j' = k
      · simp only [updV, if_neg e, if_pos e'] at h1 h2
        exact (key j hj e h1 h2).elim
      · simp only [updV, if_neg e, if_neg e'] at h1 h2
        exact h.apart j j' c hj hj' h1 h2
  · by_cases e : j = k
    · simp only [updV, if_pos e]
      intro h1
      exact hlt b h1 rfl
    · simp only [updV, if_neg e]; exact h.notb j hj
  · rcases h.map with h1 | ⟨bm, n, h1, hn, hm⟩
    · exact .inl h1
    · have hne := hm.ne_row h.row
      obtain ⟨es, clock, h2, h3⟩ := id hm
      refine .inr ⟨bm, n, h1, hn, es, clock, ?_, h3⟩
      rw [hset bm hne, ← h2]
      exact hg.block bm (Array.getElem?_eq_some_iff.1 h2).1 (fun e2 => (h.own k hk).ne_map hm e2.symm)
  · rcases hc with rfl | hc | ⟨j, hj, hc⟩
    · exact .inl (.inl rfl)
    · exact .inl (.inr (.inl hc))
    · by_cases e : j = k
      · simp only [updV, if_pos e] at hc
        rcases hloc with h5 | h5 | ⟨c', h5, h6⟩
        · rw [h5] at hc; cases hc
        · exact .inl (.inr (.inr ⟨k, hk, by rw [← h5, hc]⟩))
        · rw [h5] at hc; cases hc; exact .inr h6
      · simp only [updV, if_neg e] at hc
        exact .inl (.inr (.inr ⟨j, hj, hc⟩))
end
end Go.Proofs.Ytphijplgnffoiaa
