/-
  The document's wheel: a list of timers in memory.
-/
import Derived.Test.YtphijplgnffoiaaWhB
import Derived.Test.YtphijplgnffoiaaRowG
import Derived.Maps.AppendAt
namespace Go.Proofs.Ytphijplgnffoiaa
open Go.ChangeShapes Go.WideShapes Go.ChangeAt Go.RowKit
set_option linter.unusedSimpArgs false
set_option linter.unusedVariables false

/-- a timer: its number, and when it goes off. -/
abbrev Tm := Int × Int
def tml (x : Tm) : List Value := [.int .i64 x.1, .int .i64 x.2]
def tmc (x : Tm) : Array Value := #[.int .i64 x.1, .int .i64 x.2]
theorem tmc_info (x : Tm) : (Try.prog.info? 57).map (·.size) = some (tmc x).size := by kernel_rfl
theorem tml_info (x : Tm) : (Try.prog.info? 57).map (·.size) = some (tml x).length := by kernel_rfl
theorem tmc_one (x : Tm) : (tmc x).all (·.oneCell') = true := by kernel_rfl
theorem tm_zero (w : World) : (zeroValue 57).run Try.prog w = .ok (.agg (tmc (0, 0))) w := by kernel_rfl
theorem tm_flat_len (ts : List Tm) : (ts.flatMap tml).length = ts.length * 2 := by
  induction ts with
  | nil => rfl
  | cons e r ih => rw [List.flatMap_cons, List.length_append, ih, List.length_cons]; simp [tml]; omega
theorem tm_flat_at (ts : List Tm) (q r : Nat) (hq : q < ts.length) (hr : r < 2) : (ts.flatMap tml)[2 * q + r]? = (tml ts[q])[r]? := by
  induction ts generalizing q with
  | nil => simp at hq
  | cons e l ih =>
    rw [List.flatMap_cons]
    have hl : (tml e).length = 2 := rfl
    cases q with
    | zero => rw [List.getElem?_append_left (by omega)]; simp
    | succ q =>
      rw [List.getElem?_append_right (by omega), hl, show 2 * (q + 1) + r - 2 = 2 * q + r by omega, ih q (by simpa using hq)]
      simp
theorem tm_flat_one (ts : List Tm) : ∀ u ∈ ts.flatMap tml, u.oneCell' = true := by
  intro u hu
  obtain ⟨e, _, he⟩ := List.mem_flatMap.1 hu
  simp [tml] at he
  rcases he with rfl | rfl <;> rfl
/-- a list of timers of one's own. -/
def TmO (w : World) (v : Value) (ts : List Tm) : Prop := w.ownsRow 0 57 2 v ts.length (ts.flatMap tml)
theorem TmO.nil (w : World) : TmO w (.slice none 0 0) [] := World.ownsRow_nil w 0 57 2
theorem TmO.lt {w : World} {v : Value} {ts : List Tm} (h : TmO w v ts) : ∀ k, v.ownBlock = some k → k < w.heap.size := fun k hk => (World.ownsRow.lt h k hk).2
theorem TmO.keep {w w' : World} {v : Value} {ts : List Tm} (h : TmO w v ts) (hk : ∀ g, v.ownBlock = some g → w'.heap[g]? = w.heap[g]?) : TmO w' v ts := by
  refine ⟨h.1, ?_⟩
  rcases h.2 with e | ⟨b, cap, cur, hv, hbb, hh, r⟩
  · exact .inl e
  · exact .inr ⟨b, cap, cur, hv, hbb, (hk b (by rw [hv]; rfl)).trans hh, r⟩
theorem TmO.below {w w' : World} {v : Value} {ts : List Tm} (h : TmO w v ts) (hb : Below w.heap.size w w') : TmO w' v ts := h.keep (fun g hg => hb.block g (h.lt g hg))
theorem TmO.turned {w w' : World} {b : Nat} {v : Value} {ts : List Tm} (h : TmO w v ts) (t : Turned b w w') (hne : v.ownBlock ≠ some b) : TmO w' v ts := h.keep (fun g hg => t.other g (fun e => hne (by rw [hg, e])))
theorem TmO.new {w : World} {b : Nat} {v : Value} {ts : List Tm} (h : TmO w v ts) (hb : w.heap.size ≤ b) : v.ownBlock ≠ some b := fun e => by have := h.lt b e; omega
/-- where it lies. -/
def tmB (v : Value) : Nat := v.ownBlock.getD 0
theorem TmO.slice {w : World} {v : Value} {ts : List Tm} (h : TmO w v ts) : ∃ a cap, v = .slice a ts.length cap := by
  rcases h.2 with ⟨e, n0⟩ | ⟨b, cap, cur, hv, _⟩
  · exact ⟨none, 0, by rw [e, n0]⟩
  · exact ⟨_, _, hv⟩
theorem TmO.at {w : World} {v : Value} {ts : List Tm} (h : TmO w v ts) (j : Nat) (hj : j < ts.length) {x : Tm} (hx : ts[j] = x) : w.rangeAt (tmB v) (2 * j) (tml x) := by
  rcases h.2 with ⟨e, n0⟩ | ⟨b, cap, cur, hv, hbb, hh, hnc, hcm, hcs, ht⟩
  · omega
  · subst hv
    intro i u hu
    have hi2 : i < 2 := by have := (List.getElem?_eq_some_iff.1 hu).1; simpa [tml] using this
    show w.cell? ⟨b, 2 * j + i, none⟩ = some u
    rw [← hx] at hu
    have e := (tm_flat_at ts j i hj hi2).trans hu
    rw [← ht, List.getElem?_take_of_lt (by omega)] at e
    simp only [World.cell?, hh]
    simpa using e
theorem TmO.index {w : World} {v : Value} {ts : List Tm} (h : TmO w v ts) (j : Nat) (hj : j < ts.length) (w2 : World) : (Instr.indexAt 39 v (.int .i64 (j : Int))).run Try.prog w2 = .ok (.pointer (some ⟨tmB v, 2 * j, none⟩)) w2 := by
  rcases h.2 with ⟨e, n0⟩ | ⟨b, cap, cur, hv, _⟩
  · omega
  · subst hv
    have hn : ((j : Int)).toNat < ts.length := by simpa using hj
    have hjl : (j : Int) < (ts.length : Int) := by omega
    have hs : (sizeOf 57).run Try.prog w2 = .ok 2 w2 := by kernel_rfl
    have ht : tmB (.slice (some ⟨b, 0, none⟩) ts.length cap) = b := rfl
    rw [ht]
    simp [go_sem, hj, hn, hjl, Try.underlying39, hs]
theorem info_timer : (Try.prog.info? 57).map (fun i => (i.zero, i.size, i.bytes)) = some (some (.agg (tmc (0, 0))), 2, 16) := by kernel_rfl
theorem tm_at (e : Tm) (j : Nat) : (tmc e)[j]? = (tml e)[j]? := by show (tml e).toArray[j]? = _; simp
theorem infoT_parts : ∃ i : TypeInfo, Try.prog.info? 57 = some i ∧ i.zero = some (.agg (tmc (0, 0))) ∧ i.size = 2 ∧ i.bytes = 16 := by
  have h := info_timer
  cases hi : Try.prog.info? 57 with
  | none => rw [hi] at h; simp at h
  | some i => rw [hi] at h; simp at h; exact ⟨i, rfl, h.1, h.2.1, h.2.2⟩
theorem run_pushT {w : World} {b : Nat} {v : Value} {ts : List Tm} {x : Tm} (h : TmO w v ts) (R : Row 57 w b (tmc x)) (hl : ts.length ≤ 100000) (ty : TypeId) :
    ∃ v' w', (Builtin.append_ #[39, 39] ty #[v, .slice (some ⟨b, 0, none⟩) 1 1]).run Try.prog w = .ok v' w' ∧ TmO w' v' (ts ++ [x]) ∧ w.grownBy w' v.ownBlock ∧ (v'.ownBlock = v.ownBlock ∨ v'.ownBlock = some w.heap.size) := by
  obtain ⟨i0, hi, hz0, hz1, hz2⟩ := infoT_parts
  obtain ⟨v', w', h1, h2, h3, _, h5⟩ := run_append_own_at (P := Try.prog) w 0 39 ty 57 i0 (.agg (tmc (0, 0))) 2 16 Try.underlying39 hi hz0 hz1 hz2 rfl (by decide) v ts.length (ts.flatMap tml) h ⟨b, 0, none⟩ 1 1 (tml x) rfl
    (fun j u hu => by rw [Addr.add_lit, Nat.zero_add]; exact (R.cell j).trans ((tm_at x j).trans hu)) (by intro u hu; simp [tml] at hu; rcases hu with rfl | rfl <;> rfl) (by unfold maxLen; omega) (by omega) (Nat.zero_le _)
  refine ⟨v', w', h1, ?_, h3, h5⟩
  unfold TmO; rw [List.flatMap_append, List.length_append]; simpa using h2
end Go.Proofs.Ytphijplgnffoiaa
