/-
  Of what BindCloses, BindOpens stands on: part 1.
-/
import Derived.Test.YtmdijjbkjcnbpaaRows
import Derived.WalkKit
import Derived.ProofKit
import Derived.OpenShut
import Derived.Below
import Derived.Laws.AppendOwn
namespace Go.Proofs.Ytmdijjbkjcnbpaa
open Go.ChangeShapes Go.WideShapes Go.ChangeAt Go.RowKit
set_option linter.unusedSimpArgs false
set_option linter.unusedVariables false

/-- the cells of a pool: 3 times 6 owners, 3 that may be drained. -/
def pc (f : Nat → Int) (g : Nat → Bool) : Array Value := #[.int .i64 (f 0), .int .i64 (f 1), .int .i64 (f 2), .int .i64 (f 3), .int .i64 (f 4), .int .i64 (f 5), .int .i64 (f 6), .int .i64 (f 7), .int .i64 (f 8), .int .i64 (f 9), .int .i64 (f 10), .int .i64 (f 11), .int .i64 (f 12), .int .i64 (f 13), .int .i64 (f 14), .int .i64 (f 15), .int .i64 (f 16), .int .i64 (f 17), .bool (g 0), .bool (g 1), .bool (g 2)]
def plv (f : Nat → Int) (g : Nat → Bool) : Value := .agg (pc f g)
/-- the first n owners are nobody or somebody. -/
def goodTo (f : Nat → Int) (n : Nat) : Prop := ∀ i, i < n → 0 ≤ f i ∧ f i ≤ 8
def goodP (f : Nat → Int) : Bool := (List.range 18).all fun i => decide (0 ≤ f i) && decide (f i ≤ 8)
theorem goodTo_zero (f : Nat → Int) : goodTo f 0 := fun i h => absurd h (Nat.not_lt_zero i)
theorem goodTo_step {f : Nat → Int} {n : Nat} (h : goodTo f n) (h0 : 0 ≤ f n) (h8 : f n ≤ 8) : goodTo f (n + 1) := fun i hi => by
  by_cases e : i = n
  · subst e; exact ⟨h0, h8⟩
  · exact h i (by omega)
theorem goodP_true {f : Nat → Int} (h : goodTo f 18) : goodP f = true := by
  unfold goodP
  rw [List.all_eq_true]
  intro i hi
  have := h i (List.mem_range.1 hi)
  simp [this.1, this.2]
theorem goodP_bad {f : Nat → Int} (i : Nat) (hi : i < 18) (h : f i < 0 ∨ 8 < f i) : goodP f = false := by
  unfold goodP
  rw [List.all_eq_false]
  exact ⟨i, List.mem_range.2 hi, by simp; omega⟩
theorem goodP_inv {f : Nat → Int} (h : goodP f = true) : goodTo f 18 := by
  intro i hi
  unfold goodP at h
  have := List.all_eq_true.1 h i (List.mem_range.2 hi)
  simpa using this
/-- the first n blocks of an address that nobody has. -/
def freeTo (h : Nat → Int) (n : Nat) : List Nat := (List.range n).filter fun k => h k == 0
def freeL (h : Nat → Int) : List Nat := freeTo h 6
theorem freeTo_step (h : Nat → Int) (n : Nat) : freeTo h (n + 1) = freeTo h n ++ if h n == 0 then [n] else [] := by
  unfold freeTo; rw [List.range_succ, List.filter_append]; simp [List.filter]; split <;> simp_all
theorem freeTo_len (h : Nat → Int) (n : Nat) : (freeTo h n).length ≤ n := by
  have := List.length_filter_le (fun k => h k == 0) (List.range n); simpa [freeTo] using this
theorem freeL_mem (h : Nat → Int) (k : Nat) (hk : k ∈ freeL h) : k < 6 ∧ h k = 0 := by
  simpa [freeL, freeTo] using hk
/-- a list of ints of the call's own. -/
def ic (l : List Nat) : List Value := l.map fun (k : Nat) => Value.int .i64 (k : Int)
def Ints (w : World) (base : Nat) (v : Value) (l : List Nat) : Prop := w.ownsRow base 3 1 v l.length (ic l)
theorem Ints.nil (w : World) (base : Nat) : Ints w base (.slice none 0 0) [] := by unfold Ints; exact World.ownsRow_nil w base 3 1
theorem Ints.kept {w w' : World} {base : Nat} {v : Value} {l : List Nat} (h : Ints w base v l) (hb : Below w.heap.size w w') : Ints w' base v l := by
  refine ⟨h.1, ?_⟩
  rcases h.2 with e | ⟨b, cap, cur, hv, hbb, hh, r⟩
  · exact .inl e
  · exact .inr ⟨b, cap, cur, hv, hbb, (hb.block b (Array.getElem?_eq_some_iff.1 hh).1).trans hh, r⟩
theorem Ints.len {w : World} {base : Nat} {v : Value} {l : List Nat} (h : Ints w base v l) : ∃ a cap, v = .slice a l.length cap := by
  rcases h.2 with ⟨e, n0⟩ | ⟨b, cap, cur, hv, _⟩
  · exact ⟨none, 0, by rw [e, n0]⟩
  · exact ⟨_, _, hv⟩
theorem Ints.at {w : World} {base : Nat} {v : Value} {l : List Nat} (h : Ints w base v l) (hl : 0 < l.length) : ∃ b cap, v = .slice (some ⟨b, 0, none⟩) l.length cap ∧ ∀ j (hj : j < l.length), w.cell? ⟨b, j, none⟩ = some (.int .i64 ((l[j] : Nat) : Int)) := by
  rcases h.2 with ⟨e, n0⟩ | ⟨b, cap, cur, hv, hbb, hh, _, _, _, ht⟩
  · omega
  · refine ⟨b, cap, hv, fun j hj => ?_⟩
    have e : (ic l)[j]? = some (.int .i64 ((l[j] : Nat) : Int)) := by simp [ic, hj]
    rw [← ht] at e
    rw [List.getElem?_take_of_lt (by omega)] at e
    simpa [World.cell?, hh] using e
theorem Ints.grown {w w0 w' : World} {base : Nat} {v : Value} {l : List Nat} (h : Ints w base v l) (B : Below base w0 w) (hle : base ≤ w.heap.size) (hg : w.grownBy w' v.ownBlock) : Below base w0 w' := by
  refine ⟨hg.os.trans B.os, hg.tape.trans B.tape, hg.output.trans B.output, Nat.le_trans B.size hg.size, fun k hk => ?_⟩
  refine (hg.block k (by omega) ?_).trans (B.block k hk)
  intro e
  have := h.lt k e.symm
  omega
theorem rem_at (d n : Int) (hn : 0 < n) : (if d.tmod n < 0 then d.tmod n + n else d.tmod n) = d % n := by
  have h1 := Int.tmod_eq_emod (a := d) (b := n)
  have h2 := Int.emod_nonneg d (b := n) (by omega)
  have h3 := Int.emod_lt_of_pos d hn
  have hab : (n.natAbs : Int) = n := by omega
  split at h1 <;> split <;> omega
end Go.Proofs.Ytmdijjbkjcnbpaa

namespace Go.Proofs.Ytmdijjbkjcnbpaa
open Go.ChangeShapes Go.WideShapes Go.ChangeAt Go.RowKit
set_option linter.unusedSimpArgs false
set_option linter.unusedVariables false

theorem info_int : (Try.prog.info? 3).map (fun i => (i.zero, i.size, i.bytes)) = some (some (.int .i64 0), 1, 8) := by kernel_rfl
theorem one_new (w : World) (x : Value) (t : TypeId) : ∀ j u, [x][j]? = some u → (w.alloc (.cells #[x] t)).cell? ((⟨w.heap.size, 0, none⟩ : Addr).add j) = some u := by
  intro j u hu
  match j, hu with
  | 0, hu =>
    have e : x = u := by simpa using hu
    subst e
    rw [Addr.add_lit, Nat.zero_add]
    exact World.cell?_alloc_mark w #[x] t (0, 0) 0
theorem index6 (h : Nat → Int) (k : Nat) (hk : k < 6) (w : World) : (Instr.index 22 (.agg #[.int .i64 (h 0), .int .i64 (h 1), .int .i64 (h 2), .int .i64 (h 3), .int .i64 (h 4), .int .i64 (h 5)]) (.int .i64 (k : Int))).run Try.prog w = .ok (.int .i64 (h k)) w := by
  rcases (show k = 0 ∨ k = 1 ∨ k = 2 ∨ k = 3 ∨ k = 4 ∨ k = 5 by omega) with rfl | rfl | rfl | rfl | rfl | rfl <;> kernel_rfl
set_option maxHeartbeats 2000000 in
theorem good_any (f : Nat → Int) (g : Nat → Bool) (w : World) :
    Calls Try.prog 30 #[plv f g] w fun e w' => e = .returned (.bool (goodP f)) ∧ Below w.heap.size w w' := by
  have x0 : ∀ w : World, (Instr.index 23 (.agg #[.int .i64 (f 0), .int .i64 (f 1), .int .i64 (f 2), .int .i64 (f 3), .int .i64 (f 4), .int .i64 (f 5), .int .i64 (f 6), .int .i64 (f 7), .int .i64 (f 8), .int .i64 (f 9), .int .i64 (f 10), .int .i64 (f 11), .int .i64 (f 12), .int .i64 (f 13), .int .i64 (f 14), .int .i64 (f 15), .int .i64 (f 16), .int .i64 (f 17)]) (.int .i64 0)).run Try.prog w = .ok (.agg #[.int .i64 (f 0), .int .i64 (f 1), .int .i64 (f 2), .int .i64 (f 3), .int .i64 (f 4), .int .i64 (f 5)]) w := fun _ => by kernel_rfl
  have x1 : ∀ w : World, (Instr.index 23 (.agg #[.int .i64 (f 0), .int .i64 (f 1), .int .i64 (f 2), .int .i64 (f 3), .int .i64 (f 4), .int .i64 (f 5), .int .i64 (f 6), .int .i64 (f 7), .int .i64 (f 8), .int .i64 (f 9), .int .i64 (f 10), .int .i64 (f 11), .int .i64 (f 12), .int .i64 (f 13), .int .i64 (f 14), .int .i64 (f 15), .int .i64 (f 16), .int .i64 (f 17)]) (.int .i64 1)).run Try.prog w = .ok (.agg #[.int .i64 (f 6), .int .i64 (f 7), .int .i64 (f 8), .int .i64 (f 9), .int .i64 (f 10), .int .i64 (f 11)]) w := fun _ => by kernel_rfl
  have x2 : ∀ w : World, (Instr.index 23 (.agg #[.int .i64 (f 0), .int .i64 (f 1), .int .i64 (f 2), .int .i64 (f 3), .int .i64 (f 4), .int .i64 (f 5), .int .i64 (f 6), .int .i64 (f 7), .int .i64 (f 8), .int .i64 (f 9), .int .i64 (f 10), .int .i64 (f 11), .int .i64 (f 12), .int .i64 (f 13), .int .i64 (f 14), .int .i64 (f 15), .int .i64 (f 16), .int .i64 (f 17)]) (.int .i64 2)).run Try.prog w = .ok (.agg #[.int .i64 (f 12), .int .i64 (f 13), .int .i64 (f 14), .int .i64 (f 15), .int .i64 (f 16), .int .i64 (f 17)]) w := fun _ => by kernel_rfl
  have hB : Below w.heap.size w (w.alloc (.cells #[.int .i64 (f 0), .int .i64 (f 1), .int .i64 (f 2), .int .i64 (f 3), .int .i64 (f 4), .int .i64 (f 5), .int .i64 (f 6), .int .i64 (f 7), .int .i64 (f 8), .int .i64 (f 9), .int .i64 (f 10), .int .i64 (f 11), .int .i64 (f 12), .int .i64 (f 13), .int .i64 (f 14), .int .i64 (f 15), .int .i64 (f 16), .int .i64 (f 17), .bool (g 0), .bool (g 1), .bool (g 2)] 26)) := (Below.refl _ _).alloc (Nat.le_refl _) _
  unfold plv pc
  go_enter Try.func30, Try.ntmps30
  go_wp2
  go_loopw [9] (fun i W => ∃ k : Nat, k ≤ 3 ∧ i = .int .i64 k ∧ goodTo f (6 * k) ∧ Below w.heap.size w W) (fun i _ => 3 - (intOf i).toNat)
  case atStart => exact ⟨0, by omega, rfl, goodTo_zero f, hB⟩
  case round =>
    clear hB
    obtain ⟨k, hk, rfl, hg, hB⟩ := hrel
    rcases (show k = 0 ∨ k = 1 ∨ k = 2 ∨ k = 3 by omega) with rfl | rfl | rfl | rfl
    · have ix := fun j hj => index6 (fun k => f (k)) j hj
      try simp only [Nat.add_zero, Nat.zero_add, Nat.reduceAdd] at ix
      have hB' := hB.alloc hB.size (.cells #[.int .i64 (f 0), .int .i64 (f 1), .int .i64 (f 2), .int .i64 (f 3), .int .i64 (f 4), .int .i64 (f 5)] 22)
      go_wp2
      go_loop [13] (fun i => ∃ j : Nat, j ≤ 6 ∧ i = .int .i64 j ∧ goodTo f (j)) (fun i => 6 - (intOf i).toNat)
      case atStart => exact ⟨0, by omega, rfl, hg⟩
      case round =>
        obtain ⟨j, hj, rfl, hgj⟩ := hrel
        by_cases hlt : j < 6
        · have ij := ix j hlt
          by_cases h1 : f (j) < 0
          · have H : Hid (goodP f = false) := goodP_bad (j) (by omega) (.inl h1)
            go_wp2
            go_ret
            exact ⟨by rw [H.out]; rfl, hB'⟩
          · have h1' : 0 ≤ f (j) := by omega
            clear h1
            by_cases h2 : 8 < f (j)
            · have H : Hid (goodP f = false) := goodP_bad (j) (by omega) (.inr h2)
              go_wp2
              go_ret
              exact ⟨by rw [H.out]; rfl, hB'⟩
            · have h2' : f (j) ≤ 8 := by omega
              clear h2
              have HG : Hid (goodTo f ((j + 1))) := goodTo_step hgj h1' h2'
              go_wp2
              go_round
              case rel =>
                refine ⟨_, _, _, ⟨j + 1, by omega, ?_, HG.out⟩, rfl, rfl, rfl⟩
                go_num
              case measure => simp [intOf]; omega
        · have e : j = 6 := by omega
          subst e
          go_wp2
          go_roundw
          case rel => exact ⟨1, by omega, rfl, hgj, hB'⟩
          case measure => simp [intOf]
    · have ix := fun j hj => index6 (fun k => f (6 + k)) j hj
      try simp only [Nat.add_zero, Nat.zero_add, Nat.reduceAdd] at ix
      have hB' := hB.alloc hB.size (.cells #[.int .i64 (f 6), .int .i64 (f 7), .int .i64 (f 8), .int .i64 (f 9), .int .i64 (f 10), .int .i64 (f 11)] 22)
      go_wp2
      go_loop [13] (fun i => ∃ j : Nat, j ≤ 6 ∧ i = .int .i64 j ∧ goodTo f (6 + j)) (fun i => 6 - (intOf i).toNat)
      case atStart => exact ⟨0, by omega, rfl, hg⟩
      case round =>
        obtain ⟨j, hj, rfl, hgj⟩ := hrel
        by_cases hlt : j < 6
        · have ij := ix j hlt
          by_cases h1 : f (6 + j) < 0
          · have H : Hid (goodP f = false) := goodP_bad (6 + j) (by omega) (.inl h1)
            go_wp2
            go_ret
            exact ⟨by rw [H.out]; rfl, hB'⟩
          · have h1' : 0 ≤ f (6 + j) := by omega
            clear h1
            by_cases h2 : 8 < f (6 + j)
            · have H : Hid (goodP f = false) := goodP_bad (6 + j) (by omega) (.inr h2)
              go_wp2
              go_ret
              exact ⟨by rw [H.out]; rfl, hB'⟩
            · have h2' : f (6 + j) ≤ 8 := by omega
              clear h2
              have HG : Hid (goodTo f (6 + (j + 1))) := goodTo_step hgj h1' h2'
              go_wp2
              go_round
              case rel =>
                refine ⟨_, _, _, ⟨j + 1, by omega, ?_, HG.out⟩, rfl, rfl, rfl⟩
                go_num
              case measure => simp [intOf]; omega
        · have e : j = 6 := by omega
          subst e
          go_wp2
          go_roundw
          case rel => exact ⟨2, by omega, rfl, hgj, hB'⟩
          case measure => simp [intOf]
    · have ix := fun j hj => index6 (fun k => f (12 + k)) j hj
      try simp only [Nat.add_zero, Nat.zero_add, Nat.reduceAdd] at ix
      have hB' := hB.alloc hB.size (.cells #[.int .i64 (f 12), .int .i64 (f 13), .int .i64 (f 14), .int .i64 (f 15), .int .i64 (f 16), .int .i64 (f 17)] 22)
      go_wp2
      go_loop [13] (fun i => ∃ j : Nat, j ≤ 6 ∧ i = .int .i64 j ∧ goodTo f (12 + j)) (fun i => 6 - (intOf i).toNat)
      case atStart => exact ⟨0, by omega, rfl, hg⟩
      case round =>
        obtain ⟨j, hj, rfl, hgj⟩ := hrel
        by_cases hlt : j < 6
        · have ij := ix j hlt
          by_cases h1 : f (12 + j) < 0
          · have H : Hid (goodP f = false) := goodP_bad (12 + j) (by omega) (.inl h1)
            go_wp2
            go_ret
            exact ⟨by rw [H.out]; rfl, hB'⟩
          · have h1' : 0 ≤ f (12 + j) := by omega
            clear h1
            by_cases h2 : 8 < f (12 + j)
            · have H : Hid (goodP f = false) := goodP_bad (12 + j) (by omega) (.inr h2)
              go_wp2
              go_ret
              exact ⟨by rw [H.out]; rfl, hB'⟩
            · have h2' : f (12 + j) ≤ 8 := by omega
              clear h2
              have HG : Hid (goodTo f (12 + (j + 1))) := goodTo_step hgj h1' h2'
              go_wp2
              go_round
              case rel =>
                refine ⟨_, _, _, ⟨j + 1, by omega, ?_, HG.out⟩, rfl, rfl, rfl⟩
                go_num
              case measure => simp [intOf]; omega
        · have e : j = 6 := by omega
          subst e
          go_wp2
          go_roundw
          case rel => exact ⟨3, by omega, rfl, hgj, hB'⟩
          case measure => simp [intOf]
    · have H : Hid (goodP f = true) := goodP_true hg
      go_wp2
      go_ret
      exact ⟨by rw [H.out]; rfl, hB⟩
end Go.Proofs.Ytmdijjbkjcnbpaa

namespace Go.Proofs.Ytmdijjbkjcnbpaa
open Go.ChangeShapes Go.WideShapes Go.ChangeAt Go.RowKit
set_option linter.unusedSimpArgs false
set_option linter.unusedVariables false

/-- a number from 0 to below n. -/
def inR (a n : Int) : Bool := decide (0 ≤ a ∧ a < n)
theorem inR_true {a n : Int} (h0 : 0 ≤ a) (h1 : a < n) : inR a n = true := by unfold inR; exact decide_eq_true ⟨h0, h1⟩
theorem inR_false {a n : Int} (h : a < 0 ∨ n ≤ a) : inR a n = false := by unfold inR; exact decide_eq_false (by omega)
set_option maxRecDepth 10000 in
set_option maxHeartbeats 1000000 in
theorem free_any (h : Nat → Int) (w : World) :
    Calls Try.prog 59 #[.agg #[.int .i64 (h 0), .int .i64 (h 1), .int .i64 (h 2), .int .i64 (h 3), .int .i64 (h 4), .int .i64 (h 5)]] w fun e w' => ∃ v, e = .returned v ∧ (∃ a c, v = .slice a (freeL h).length c) ∧ Ints w' w.heap.size v (freeL h) ∧ Below w.heap.size w w' := by
  obtain ⟨i0, hi, hz0, hz1, hz2⟩ := info_parts info_int
  have hB0 : Below w.heap.size w (w.alloc (.cells #[.int .i64 (h 0), .int .i64 (h 1), .int .i64 (h 2), .int .i64 (h 3), .int .i64 (h 4), .int .i64 (h 5)] 22)) := (Below.refl _ _).alloc (Nat.le_refl _) _
  go_enter Try.func59, Try.ntmps59
  go_wp2
  go_loopw [3, 7] (fun v i wr => ∃ (k : Nat) (ao : Option Addr) (cv : Nat), k ≤ 6 ∧ i = .int .i64 k ∧ v = .slice ao (freeTo h k).length cv ∧ Ints wr w.heap.size v (freeTo h k) ∧ Below w.heap.size w wr) (fun _ i _ => 6 - (intOf i).toNat)
  case atStart => exact ⟨0, none, 0, by omega, rfl, rfl, Ints.nil _ _, hB0⟩
  case round =>
    clear hB0
    obtain ⟨k, ao, cv, hk, rfl, rfl, hown, hB⟩ := hrel
    have hsize := hB.size
    have hfl := freeTo_len h k
    by_cases hlt : k < 6
    · have ik := index6 h k hlt
      by_cases hz : h k = 0
      · have dz : (h k == 0) = true := by simpa using hz
        have HS : Hid (freeTo h (k + 1) = freeTo h k ++ [k]) := by show _ = _; rw [freeTo_step, if_pos dz]
        clear hz
        go_wp2_with (at_builtin; refine wpList_append_own _ rfl _ _ 96 rfl w.heap.size 3 i0 (.int .i64 0) 1 8 Try.underlying96 hi hz0 hz1 hz2 rfl (by decide) _ _ _ rfl (hown.alloc _) ⟨wr.heap.size, 0, none⟩ 1 1 [.int .i64 (k : Int)] rfl rfl (one_new _ _ _) (fun x hx => by simp at hx; subst hx; rfl) (by unfold maxLen; omega) (by omega) (by simp; omega) ?_; intro v' w3 hown' hgrow3 hnil3)
        go_roundw
        case rel =>
          have hi' : Ints w3 w.heap.size v' (freeTo h (k + 1)) := by
            unfold Ints ic at *
            rw [HS.out, List.length_append, List.map_append]
            exact hown'
          obtain ⟨a3, c3, e3⟩ := hi'.len
          have hb3 : Below w.heap.size w w3 := Ints.grown (l := freeTo h k) (hown.alloc _) (hB.alloc hB.size _) (by simp; omega) hgrow3
          first
            | exact ⟨k + 1, a3, c3, by omega, by go_num, e3, hi', hb3⟩
            | ((repeat apply Exists.intro); exact ⟨⟨k + 1, a3, c3, by omega, by go_num, e3, hi', hb3⟩, rfl⟩)
            | ((repeat apply Exists.intro); exact ⟨⟨k + 1, a3, c3, by omega, by go_num, e3, hi', hb3⟩, rfl, rfl⟩)
        case measure => simp [intOf]; omega
      · have dz : (h k == 0) = false := by simpa using hz
        have HS : Hid (freeTo h (k + 1) = freeTo h k) := by show _ = _; rw [freeTo_step, if_neg (by simp [dz])]; simp
        clear hz
        go_wp2
        go_roundw
        case rel =>
          first
            | exact ⟨k + 1, ao, cv, by omega, by go_num, by rw [HS.out], by rw [HS.out]; exact hown, hB⟩
            | ((repeat apply Exists.intro); exact ⟨⟨k + 1, ao, cv, by omega, by go_num, by rw [HS.out], by rw [HS.out]; exact hown, hB⟩, rfl⟩)
            | ((repeat apply Exists.intro); exact ⟨⟨k + 1, ao, cv, by omega, by go_num, by rw [HS.out], by rw [HS.out]; exact hown, hB⟩, rfl, rfl⟩)
        case measure => simp [intOf]; omega
    · have e : k = 6 := by omega
      subst e
      go_wp2
      go_ret
      exact ⟨_, rfl, ⟨_, _, rfl⟩, hown, hB⟩

theorem isAddress_any (a : Int) (w : World) : Calls Try.prog 55 #[.int .i64 a] w fun e w' => e = .returned (.bool (inR a 3)) ∧ w' = w := by
  by_cases h0 : 0 ≤ a
  · by_cases h1 : a < 3
    · have H : Hid (inR a 3 = true) := inR_true h0 h1
      go_enter Try.func55, Try.ntmps55
      go_wp2
      go_ret
      exact ⟨by rw [H.out]; rfl, rfl⟩
    · have H : Hid (inR a 3 = false) := inR_false (by omega)
      have h1' : 3 ≤ a := by omega
      clear h1
      go_enter Try.func55, Try.ntmps55
      go_wp2
      go_ret
      exact ⟨by rw [H.out]; simp <;> omega, rfl⟩
  · have H : Hid (inR a 3 = false) := inR_false (by omega)
    have h0' : a < 0 := by omega
    clear h0
    go_enter Try.func55, Try.ntmps55
    go_wp2
    go_ret
    exact ⟨by rw [H.out]; rfl, rfl⟩
theorem isSubscriber_any (a : Int) (w : World) : Calls Try.prog 57 #[.int .i64 a] w fun e w' => e = .returned (.bool (inR a 8)) ∧ w' = w := by
  by_cases h0 : 0 ≤ a
  · by_cases h1 : a < 8
    · have H : Hid (inR a 8 = true) := inR_true h0 h1
      go_enter Try.func57, Try.ntmps57
      go_wp2
      go_ret
      exact ⟨by rw [H.out]; rfl, rfl⟩
    · have H : Hid (inR a 8 = false) := inR_false (by omega)
      have h1' : 8 ≤ a := by omega
      clear h1
      go_enter Try.func57, Try.ntmps57
      go_wp2
      go_ret
      exact ⟨by rw [H.out]; simp <;> omega, rfl⟩
  · have H : Hid (inR a 8 = false) := inR_false (by omega)
    have h0' : a < 0 := by omega
    clear h0
    go_enter Try.func57, Try.ntmps57
    go_wp2
    go_ret
    exact ⟨by rw [H.out]; rfl, rfl⟩
theorem isBlock_any (a : Int) (w : World) : Calls Try.prog 56 #[.int .i64 a] w fun e w' => e = .returned (.bool (inR a 6)) ∧ w' = w := by
  by_cases h0 : 0 ≤ a
  · by_cases h1 : a < 6
    · have H : Hid (inR a 6 = true) := inR_true h0 h1
      go_enter Try.func56, Try.ntmps56
      go_wp2
      go_ret
      exact ⟨by rw [H.out]; rfl, rfl⟩
    · have H : Hid (inR a 6 = false) := inR_false (by omega)
      have h1' : 6 ≤ a := by omega
      clear h1
      go_enter Try.func56, Try.ntmps56
      go_wp2
      go_ret
      exact ⟨by rw [H.out]; simp <;> omega, rfl⟩
  · have H : Hid (inR a 6 = false) := inR_false (by omega)
    have h0' : a < 0 := by omega
    clear h0
    go_enter Try.func56, Try.ntmps56
    go_wp2
    go_ret
    exact ⟨by rw [H.out]; rfl, rfl⟩

theorem at_bd (d : Int) (n : Nat) (hn : 0 < n) : 0 ≤ d % (n : Int) ∧ d % (n : Int) < n := ⟨Int.emod_nonneg d (by omega), Int.emod_lt_of_pos d (by omega)⟩
/-- the one of a list that a draw has. -/
def drawnL (l : List Nat) (d : Int) : Nat := l.getD (d % (l.length : Int)).toNat 0
theorem drawnL_mem (l : List Nat) (d : Int) (h : 0 < l.length) : drawnL l d ∈ l := by
  have := at_bd d l.length h
  unfold drawnL
  rw [List.getD_eq_getElem?_getD, List.getElem?_eq_getElem (by omega)]
  exact List.getElem_mem _
set_option maxHeartbeats 1000000 in
theorem drawn_any (base : Nat) (v : Value) (l : List Nat) (d : Int) (w : World) (hi : Ints w base v l) (hl : 0 < l.length) (hd : (Lit.int .i64 d).wf = true) (hm : l.length ≤ 6) :
    Calls Try.prog 60 #[v, .int .i64 d] w fun e w' => e = .returned (.int .i64 ((drawnL l d : Nat) : Int)) ∧ w' = w := by
  obtain ⟨b, cap, rfl, hc⟩ := hi.at hl
  have hr := rem_at d l.length (by omega)
  obtain ⟨a0, a1⟩ := at_bd d l.length hl
  have hq : (d % (l.length : Int)).toNat < l.length := by omega
  have hcell := hc _ hq
  have HD : Hid (drawnL l d = l[(d % (l.length : Int)).toNat]) := by
    show _ = _
    unfold drawnL
    rw [List.getD_eq_getElem?_getD, List.getElem?_eq_getElem hq]; rfl
  generalize hx : l[(d % (l.length : Int)).toNat] = x at *
  clear hx hc hi
  generalize hN : (l.length : Int) = N at *
  have hn0 : 0 < N := by omega
  have hn6 : N ≤ 6 := by omega
  by_cases ht : d.tmod N < 0
  · rw [if_pos ht] at hr
    go_enter Try.func60, Try.ntmps60
    go_wp2
    go_ret
    exact ⟨by rw [HD.out]; rfl, rfl⟩
  · rw [if_neg ht] at hr
    have ht' : 0 ≤ d.tmod N := by omega
    clear ht
    go_enter Try.func60, Try.ntmps60
    go_wp2
    go_ret
    exact ⟨by rw [HD.out]; rfl, rfl⟩
set_option maxHeartbeats 1000000 in
theorem chosen_any (d : Int) (n : Nat) (w : World) (hn : 0 < n) (hm : n ≤ 6) :
    Calls Try.prog 54 #[.int .i64 d, .int .i64 (n : Int)] w fun e w' => e = .returned (.int .i64 (d % (n : Int))) ∧ w' = w := by
  have hr := rem_at d n (by omega)
  obtain ⟨a0, a1⟩ := at_bd d n hn
  have t1 := Int.tmod_lt_of_pos d (show (0 : Int) < n by omega)
  have t2 : -(n : Int) ≤ d.tmod n := by split at hr <;> omega
  have n6 : (n : Int) ≤ 6 := by omega
  have n0 : 0 < (n : Int) := by omega
  have HD : Hid ((d.tmod n + n) % n = d % n) := by
    show _ = _
    split at hr
    · rw [hr]; exact Int.emod_emod _ _
    · rw [hr, Int.add_emod_right]; exact Int.emod_emod _ _
  generalize (n : Int) = N at *
  clear hr
  have hN0 : N ≠ 0 := by omega
  have hw : wrap64 (d.tmod N + N) = d.tmod N + N := by unfold wrap64; omega
  go_enter Try.func54, Try.ntmps54
  go_wp2
  go_ret
  refine ⟨?_, rfl⟩
  rw [← HD.out]; rfl
end Go.Proofs.Ytmdijjbkjcnbpaa
