/-
  Owners and homes held against each other.
-/
import Derived.DeepKeys
import Derived.Test.YtmdijjbkjcnbpaaPoolE
import Derived.Test.YtmdijjbkjcnbpaaBindK
namespace Go.Proofs.Ytmdijjbkjcnbpaa
open Go.ChangeShapes Go.WideShapes Go.ChangeAt Go.RowKit
set_option linter.unusedSimpArgs false
set_option linter.unusedVariables false

theorem wf_small {x : Int} (h0 : 0 ≤ x) (h8 : x ≤ 8) : (Lit.int .i64 x).wf = true := by simp [Lit.wf, IntKind.min, IntKind.max, IntKind.bits, IntKind.signed]; omega
def wfH (h : Nat → Int) : Prop := ∀ i, i < 8 → (Lit.int .i64 (h i)).wf = true
set_option maxRecDepth 10000 in
theorem own_lits (f : Nat → Int) (hf : wfF f) : Try.prog.keyLits 3 23 (Value.agg (oc f)).cells.toList = some [.int .i64 (f 0), .int .i64 (f 1), .int .i64 (f 2), .int .i64 (f 3), .int .i64 (f 4), .int .i64 (f 5), .int .i64 (f 6), .int .i64 (f 7), .int .i64 (f 8), .int .i64 (f 9), .int .i64 (f 10), .int .i64 (f 11), .int .i64 (f 12), .int .i64 (f 13), .int .i64 (f 14), .int .i64 (f 15), .int .i64 (f 16), .int .i64 (f 17)] := by
  have c44 : Try.prog.cellsOf 23 = 18 := by kernel_rfl
  have c43 : Try.prog.cellsOf 22 = 6 := by kernel_rfl
  have c3 : Try.prog.cellsOf 3 = 1 := by kernel_rfl
  have h0 := hf 0 (by omega)
  have h1 := hf 1 (by omega)
  have h2 := hf 2 (by omega)
  have h3 := hf 3 (by omega)
  have h4 := hf 4 (by omega)
  have h5 := hf 5 (by omega)
  have h6 := hf 6 (by omega)
  have h7 := hf 7 (by omega)
  have h8 := hf 8 (by omega)
  have h9 := hf 9 (by omega)
  have h10 := hf 10 (by omega)
  have h11 := hf 11 (by omega)
  have h12 := hf 12 (by omega)
  have h13 := hf 13 (by omega)
  have h14 := hf 14 (by omega)
  have h15 := hf 15 (by omega)
  have h16 := hf 16 (by omega)
  have h17 := hf 17 (by omega)
  simp [Program.keyLits, Value.cells, oc, Try.underlying23, Try.underlying22, Try.underlying3, c44, c43, c3, List.range, List.range.loop, h0, h1, h2, h3, h4, h5, h6, h7, h8, h9, h10, h11, h12, h13, h14, h15, h16, h17]
def hc8 (h : Nat → Int) : Array Value := (hcl h).toArray
set_option maxRecDepth 10000 in
theorem home_lits (h : Nat → Int) (hh : wfH h) : Try.prog.keyLits 2 27 (Value.agg (hc8 h)).cells.toList = some [.int .i64 (h 0), .int .i64 (h 1), .int .i64 (h 2), .int .i64 (h 3), .int .i64 (h 4), .int .i64 (h 5), .int .i64 (h 6), .int .i64 (h 7)] := by
  have c8 : Try.prog.cellsOf 27 = 8 := by kernel_rfl
  have c3 : Try.prog.cellsOf 3 = 1 := by kernel_rfl
  have h0 := hh 0 (by omega)
  have h1 := hh 1 (by omega)
  have h2 := hh 2 (by omega)
  have h3 := hh 3 (by omega)
  have h4 := hh 4 (by omega)
  have h5 := hh 5 (by omega)
  have h6 := hh 6 (by omega)
  have h7 := hh 7 (by omega)
  simp [Program.keyLits, Value.cells, hc8, hcl, Try.underlying27, Try.underlying3, c8, c3, List.range, List.range.loop, h0, h1, h2, h3, h4, h5, h6, h7]
def eqTo (f g : Nat → Int) (n : Nat) : Bool := (List.range n).all fun k => f k == g k
theorem eqTo_iff (f g : Nat → Int) (n : Nat) : eqTo f g n = true ↔ ∀ k, k < n → f k = g k := by simp [eqTo]
theorem lits_inj (f g : Nat → Int) (n : Nat) : ((List.range n).map fun k => Lit.int .i64 (f k)) = ((List.range n).map fun k => Lit.int .i64 (g k)) ↔ eqTo f g n = true := by
  rw [eqTo_iff, List.map_inj_left]
  constructor
  · intro h k hk; have := h k (List.mem_range.2 hk); injection this
  · intro h k hk; rw [h k (List.mem_range.1 hk)]
theorem eq_own (f g : Nat → Int) (hf : wfF f) (hg : wfF g) (w : World) : (Op.equalIn 10000 23 (.agg (oc f)) (.agg (oc g))).run Try.prog w = .ok (eqTo f g 18) w := by
  obtain ⟨r, h1, h2⟩ := run_equalIn_deep (P := Try.prog) 9997 3 23 (by kernel_rfl) w 3 3 (.agg (oc f)) (.agg (oc g)) _ _ (by kernel_rfl) (by kernel_rfl) (own_lits f hf) (own_lits g hg)
  have e : r = eqTo f g 18 := by
    rw [Bool.eq_iff_iff, ← lits_inj f g 18]
    exact h2
  rw [e] at h1
  exact h1
theorem eq_home (f g : Nat → Int) (hf : wfH f) (hg : wfH g) (w : World) : (Op.equalIn 10000 27 (.agg (hc8 f)) (.agg (hc8 g))).run Try.prog w = .ok (eqTo f g 8) w := by
  obtain ⟨r, h1, h2⟩ := run_equalIn_deep (P := Try.prog) 9998 2 27 (by kernel_rfl) w 2 2 (.agg (hc8 f)) (.agg (hc8 g)) _ _ (by kernel_rfl) (by kernel_rfl) (home_lits f hf) (home_lits g hg)
  have e : r = eqTo f g 8 := by
    rw [Bool.eq_iff_iff, ← lits_inj f g 8]
    exact h2
  rw [e] at h1
  exact h1
theorem hcl_at (h : Nat → Int) (j : Nat) (v : Value) (hv : (hcl h)[j]? = some v) : j < 8 ∧ v = .int .i64 (h j) := by
  have hj : j < 8 := (List.getElem?_eq_some_iff.1 hv).1
  refine ⟨hj, ?_⟩
  rcases (show j = 0 ∨ j = 1 ∨ j = 2 ∨ j = 3 ∨ j = 4 ∨ j = 5 ∨ j = 6 ∨ j = 7 by omega) with rfl | rfl | rfl | rfl | rfl | rfl | rfl | rfl <;> exact (Option.some.inj hv).symm
theorem Row.homes {w : World} {b : Nat} {f : Nat → Int} {g : Nat → Bool} {h : Nat → Int} {sl : Value} (R : Row 30 w b (tc f g h sl)) : w.rangeAt b 21 (hcl h) := R.range (fun j v hv => by
  obtain ⟨hj, rfl⟩ := hcl_at h j v hv
  exact tc_home f g h sl j hj)
theorem home_info (h : Nat → Int) : (Try.prog.info? 27).map (·.size) = some (hcl h).length := by kernel_rfl
theorem hcl_hc (h : Nat → Int) : (hcl h).toArray = hc8 h := rfl
theorem Row.pool {w : World} {b : Nat} {f : Nat → Int} {g : Nat → Bool} {h : Nat → Int} {sl : Value} (R : Row 30 w b (tc f g h sl)) : w.rangeAt b 0 (pc f g).toList := R.range (fun j v hv => by
  rw [Nat.zero_add]
  have hj : j < 21 := by have := (List.getElem?_eq_some_iff.1 hv).1; simpa [pc_size] using this
  unfold tc
  rw [Array.getElem?_append_left (by simp [pc_size, hcl]; omega), Array.getElem?_append_left (by rw [pc_size]; omega)]
  simpa using hv)
theorem pcl_infoB (f : Nat → Int) (g : Nat → Bool) : (Try.prog.info? 26).map (·.size) = some (pc f g).toList.length := by kernel_rfl
theorem needF_wf {f : Nat → Int} (ms : List Mp) (hg : goodP f = true) : wfF (needF f ms) := fun i hi => by
  have := goodP_inv hg i hi
  unfold needF; split
  · exact wf_small this.1 this.2
  · exact wf_small (by omega) (by omega)
theorem good_wf {f : Nat → Int} (hg : goodP f = true) : wfF f := fun i hi => wf_small (goodP_inv hg i hi).1 (goodP_inv hg i hi).2
theorem needH_wf {h : Nat → Int} (ms : List Mp) (hh : wfH h) : wfH (needH h ms) := fun i hi => by
  unfold needH; split
  · exact hh i hi
  · exact wf_small (by omega) (by omega)
end Go.Proofs.Ytmdijjbkjcnbpaa
