/-
  A pool by value: its owners and what is drained, as functions of their places; what is picked, taken, given and drained.
-/
import Derived.Test.YtnhafdkfjjplkaaDoorRows
import Derived.WalkKit
import Derived.ProofKit
import Derived.OpenShut
import Derived.Below
import Derived.Laws.AppendOwn
namespace Go.Proofs.YtnhafdkfjjplkaaDoor
open Go.ChangeShapes Go.WideShapes Go.ChangeAt Go.RowKit
set_option linter.unusedSimpArgs false
set_option linter.unusedVariables false

/-- the cells of a pool: 3 times 6 owners, 3 that may be drained. -/
def pc (f : Nat → Int) (g : Nat → Bool) : Array Value := #[.int .i64 (f 0), .int .i64 (f 1), .int .i64 (f 2), .int .i64 (f 3), .int .i64 (f 4), .int .i64 (f 5), .int .i64 (f 6), .int .i64 (f 7), .int .i64 (f 8), .int .i64 (f 9), .int .i64 (f 10), .int .i64 (f 11), .int .i64 (f 12), .int .i64 (f 13), .int .i64 (f 14), .int .i64 (f 15), .int .i64 (f 16), .int .i64 (f 17), .bool (g 0), .bool (g 1), .bool (g 2)]
def plv (f : Nat → Int) (g : Nat → Bool) : Value := .agg (pc f g)
/-- the first n owners are nobody or somebody. -/
def goodTo (f : Nat → Int) (n : Nat) : Prop := ∀ i, i < n → 0 ≤ f i ∧ f i ≤ 8
def goodP (f : Nat → Int) : Bool := (List.range 18).all fun i => decide (0 ≤ f i) && decide (f i ≤ 8)
theorem goodTo_zero (f : Nat → Int) : goodTo f 0 := fun i h => absurd h (Nat.not_lt_zero i)
theorem goodTo_step {f : Nat → Int} {n : Nat} (h : goodTo f n) (h0 : 0 ≤ f n) (h8 : f n ≤ 8) : goodTo f (n + 1) := fun i hi => by
  by_cases e : i = n
  · subst e; exact ⟨h0, h8⟩
  · exact h i (by omega)
theorem goodP_true {f : Nat → Int} (h : goodTo f 18) : goodP f = true := by
  unfold goodP
  rw [List.all_eq_true]
  intro i hi
  have := h i (List.mem_range.1 hi)
  simp [this.1, this.2]
theorem goodP_bad {f : Nat → Int} (i : Nat) (hi : i < 18) (h : f i < 0 ∨ 8 < f i) : goodP f = false := by
  unfold goodP
  rw [List.all_eq_false]
  exact ⟨i, List.mem_range.2 hi, by simp; omega⟩
theorem goodP_inv {f : Nat → Int} (h : goodP f = true) : goodTo f 18 := by
  intro i hi
  unfold goodP at h
  have := List.all_eq_true.1 h i (List.mem_range.2 hi)
  simpa using this
/-- the first n blocks of an address that nobody has. -/
def freeTo (h : Nat → Int) (n : Nat) : List Nat := (List.range n).filter fun k => h k == 0
def freeL (h : Nat → Int) : List Nat := freeTo h 6
theorem freeTo_step (h : Nat → Int) (n : Nat) : freeTo h (n + 1) = freeTo h n ++ if h n == 0 then [n] else [] := by
  unfold freeTo; rw [List.range_succ, List.filter_append]; simp [List.filter]; split <;> simp_all
theorem freeTo_len (h : Nat → Int) (n : Nat) : (freeTo h n).length ≤ n := by
  have := List.length_filter_le (fun k => h k == 0) (List.range n); simpa [freeTo] using this
theorem freeL_mem (h : Nat → Int) (k : Nat) (hk : k ∈ freeL h) : k < 6 ∧ h k = 0 := by
  simpa [freeL, freeTo] using hk
/-- a list of ints of the call's own. -/
def ic (l : List Nat) : List Value := l.map fun (k : Nat) => Value.int .i64 (k : Int)
def Ints (w : World) (base : Nat) (v : Value) (l : List Nat) : Prop := w.ownsRow base 3 1 v l.length (ic l)
theorem Ints.nil (w : World) (base : Nat) : Ints w base (.slice none 0 0) [] := by unfold Ints; exact World.ownsRow_nil w base 3 1
theorem Ints.kept {w w' : World} {base : Nat} {v : Value} {l : List Nat} (h : Ints w base v l) (hb : Below w.heap.size w w') : Ints w' base v l := by
  refine ⟨h.1, ?_⟩
  rcases h.2 with e | ⟨b, cap, cur, hv, hbb, hh, r⟩
  · exact .inl e
  · exact .inr ⟨b, cap, cur, hv, hbb, (hb.block b (Array.getElem?_eq_some_iff.1 hh).1).trans hh, r⟩
theorem Ints.len {w : World} {base : Nat} {v : Value} {l : List Nat} (h : Ints w base v l) : ∃ a cap, v = .slice a l.length cap := by
  rcases h.2 with ⟨e, n0⟩ | ⟨b, cap, cur, hv, _⟩
  · exact ⟨none, 0, by rw [e, n0]⟩
  · exact ⟨_, _, hv⟩
theorem Ints.at {w : World} {base : Nat} {v : Value} {l : List Nat} (h : Ints w base v l) (hl : 0 < l.length) : ∃ b cap, v = .slice (some ⟨b, 0, none⟩) l.length cap ∧ ∀ j (hj : j < l.length), w.cell? ⟨b, j, none⟩ = some (.int .i64 ((l[j] : Nat) : Int)) := by
  rcases h.2 with ⟨e, n0⟩ | ⟨b, cap, cur, hv, hbb, hh, _, _, _, ht⟩
  · omega
  · refine ⟨b, cap, hv, fun j hj => ?_⟩
    have e : (ic l)[j]? = some (.int .i64 ((l[j] : Nat) : Int)) := by simp [ic, hj]
    rw [← ht] at e
    rw [List.getElem?_take_of_lt (by omega)] at e
    simpa [World.cell?, hh] using e
theorem Ints.grown {w w0 w' : World} {base : Nat} {v : Value} {l : List Nat} (h : Ints w base v l) (B : Below base w0 w) (hle : base ≤ w.heap.size) (hg : w.grownBy w' v.ownBlock) : Below base w0 w' := by
  refine ⟨hg.os.trans B.os, hg.tape.trans B.tape, hg.output.trans B.output, Nat.le_trans B.size hg.size, fun k hk => ?_⟩
  refine (hg.block k (by omega) ?_).trans (B.block k hk)
  intro e
  have := h.lt k e.symm
  omega
/-- the how manieth of n a draw has. -/
def at' (d n : Int) : Int := d % n
theorem rem_at (d n : Int) (hn : 0 < n) : (if d.tmod n < 0 then d.tmod n + n else d.tmod n) = d % n := by
  have h1 := Int.tmod_eq_emod (a := d) (b := n)
  have h2 := Int.emod_nonneg d (b := n) (by omega)
  have h3 := Int.emod_lt_of_pos d hn
  have hab : (n.natAbs : Int) = n := by omega
  split at h1 <;> split <;> omega
end Go.Proofs.YtnhafdkfjjplkaaDoor
