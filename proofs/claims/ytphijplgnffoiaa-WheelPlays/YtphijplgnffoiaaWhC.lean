/-
  A timer is put into its list.
-/
import Derived.Test.YtphijplgnffoiaaWhB
namespace Go.Proofs.Ytphijplgnffoiaa
open Go.ChangeShapes Go.WideShapes Go.ChangeAt Go.RowKit Go.Maps
set_option linter.unusedSimpArgs false
set_option linter.unusedVariables false

theorem idx7 (b o l : Nat) (h : l < 7) (w : World) : (Instr.indexAt 49 (.pointer (some ⟨b, o, none⟩)) (.int .i64 (l : Int))).run Try.prog w = .ok (.pointer (some ⟨b, o + 64 * l, none⟩)) w := by
  have hs : (sizeOf 48).run Try.prog w = .ok 64 w := by kernel_rfl
  have h1 : (l : Int) < 7 := by omega
  simp [go_sem, Try.underlying49, h1, h, hs]
theorem idx64 (b o l : Nat) (h : l < 64) (w : World) : (Instr.indexAt 48 (.pointer (some ⟨b, o, none⟩)) (.int .i64 (l : Int))).run Try.prog w = .ok (.pointer (some ⟨b, o + l, none⟩)) w := by
  have hs : (sizeOf 22).run Try.prog w = .ok 1 w := by kernel_rfl
  have h1 : (l : Int) < 64 := by omega
  simp [go_sem, Try.underlying48, h1, h, hs]
theorem lawI : Keyed Try.prog 3 := int_keyed Try.underlying3
theorem zeroI (w : World) : (zeroValue 3).run Try.prog w = .ok (.int .i64 0) w := by kernel_rfl
theorem info_i : (Try.prog.info? 3).map (fun i => (i.zero, i.size, i.bytes)) = some (some (.int .i64 0), 1, 8) := by kernel_rfl
/-- what a map of times says of a timer. -/
def at' (D : DataW Unit) (i : Int) (d : Int) : Prop := D.atKey (.int .i64 i) (.lit (.int .i64 0)) = .lit (.int .i64 d)
end Go.Proofs.Ytphijplgnffoiaa
