/-
  Two pools held against each other.
-/
import Derived.DeepKeys
import Derived.Test.YtnhafdkfjjplkaaDoorPoolC
namespace Go.Proofs.YtnhafdkfjjplkaaDoor
open Go.ChangeShapes Go.WideShapes Go.ChangeAt Go.RowKit
set_option linter.unusedSimpArgs false
set_option linter.unusedVariables false

/-- each owner is a number of 64 bits. -/
def wfF (f : Nat → Int) : Prop := ∀ i, i < 18 → (Lit.int .i64 (f i)).wf = true
set_option maxRecDepth 10000 in
theorem pool_lits (f : Nat → Int) (g : Nat → Bool) (hf : wfF f) : Tryd.prog.keyLits 4 39 (Value.agg (pc f g)).cells.toList = some [.int .i64 (f 0), .int .i64 (f 1), .int .i64 (f 2), .int .i64 (f 3), .int .i64 (f 4), .int .i64 (f 5), .int .i64 (f 6), .int .i64 (f 7), .int .i64 (f 8), .int .i64 (f 9), .int .i64 (f 10), .int .i64 (f 11), .int .i64 (f 12), .int .i64 (f 13), .int .i64 (f 14), .int .i64 (f 15), .int .i64 (f 16), .int .i64 (f 17), .bool (g 0), .bool (g 1), .bool (g 2)] := by
  have c47 : Tryd.prog.cellsOf 39 = 21 := by kernel_rfl
  have c44 : Tryd.prog.cellsOf 36 = 18 := by kernel_rfl
  have c43 : Tryd.prog.cellsOf 35 = 6 := by kernel_rfl
  have c45 : Tryd.prog.cellsOf 37 = 3 := by kernel_rfl
  have c3 : Tryd.prog.cellsOf 3 = 1 := by kernel_rfl
  have c4 : Tryd.prog.cellsOf 4 = 1 := by kernel_rfl
  have h0 := hf 0 (by omega)
  have h1 := hf 1 (by omega)
  have h2 := hf 2 (by omega)
  have h3 := hf 3 (by omega)
  have h4 := hf 4 (by omega)
  have h5 := hf 5 (by omega)
  have h6 := hf 6 (by omega)
  have h7 := hf 7 (by omega)
  have h8 := hf 8 (by omega)
  have h9 := hf 9 (by omega)
  have h10 := hf 10 (by omega)
  have h11 := hf 11 (by omega)
  have h12 := hf 12 (by omega)
  have h13 := hf 13 (by omega)
  have h14 := hf 14 (by omega)
  have h15 := hf 15 (by omega)
  have h16 := hf 16 (by omega)
  have h17 := hf 17 (by omega)
  simp [Program.keyLits, Value.cells, pc, Tryd.underlying39, Tryd.underlying36, Tryd.underlying35, Tryd.underlying37, Tryd.underlying3, Tryd.underlying4, c47, c44, c43, c45, c3, c4, List.range, List.range.loop, h0, h1, h2, h3, h4, h5, h6, h7, h8, h9, h10, h11, h12, h13, h14, h15, h16, h17]
theorem run_eqp (f : Nat → Int) (g : Nat → Bool) (hf : wfF f) (w : World) : (Op.equalIn 10000 39 (.agg (pc f g)) (.agg (pc f g))).run Tryd.prog w = .ok true w := by
  obtain ⟨r, h1, h2⟩ := run_equalIn_deep (P := Tryd.prog) 9996 4 39 (by kernel_rfl) w 4 4 (.agg (pc f g)) (.agg (pc f g)) _ _ (by kernel_rfl) (by kernel_rfl) (pool_lits f g hf) (pool_lits f g hf)
  rw [h2.2 rfl] at h1
  exact h1
end Go.Proofs.YtnhafdkfjjplkaaDoor
