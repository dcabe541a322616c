/-
  The walks of the small functions: what package sums and the document's own answers hand back, function by function.
-/
import Derived.Test.YthflhaanndnejafRows
import Derived.Test.YthflhaanndnejafSum
import Derived.WalkKit
import Derived.ProofKit
import Derived.OpenShut
import Derived.ShutString
import Derived.Outline
import Derived.WalkSpells
import Derived.Laws.BitsAllLaws
namespace Go.Proofs.Ythflhaanndnejaf
open Go.ChangeShapes Go.WideShapes Go.ChangeAt Go.RowKit

theorem ret_int {k : IntKind} {a b : Int} (h : a = b) : Ending.returned (.int k a) = .returned (.int k b) := by rw [h]
theorem wrap_u16 (n : Int) : IntKind.u16.wrap n = n % 65536 := by
  simp [IntKind.wrap, IntKind.bits, IntKind.signed]

/-- a high byte and a low one, joined. -/
theorem join_u16 (a b : UInt8) : bits .or .u16 (IntKind.u16.wrap (IntKind.u16.wrap (a.toNat : Int) * 256)) (IntKind.u16.wrap (b.toNat : Int)) = (a.toNat : Int) * 256 + (b.toNat : Int) := by
  have ha := a.toNat_lt; have hb := b.toNat_lt
  have e1 : IntKind.u16.wrap (IntKind.u16.wrap (a.toNat : Int) * 256) = ((a.toNat * 256 : Nat) : Int) := by rw [wrap_u16, wrap_u16]; omega
  have e2 : IntKind.u16.wrap (b.toNat : Int) = ((b.toNat : Nat) : Int) := by rw [wrap_u16]; omega
  rw [e1, e2, u16_or_nat _ _ (by omega) (by omega), nat_join 8 _ _ (by omega) (by omega)]; omega
theorem high_u16 (a : UInt8) : IntKind.u16.wrap (IntKind.u16.wrap (a.toNat : Int) * 256) = (a.toNat : Int) * 256 := by
  have ha := a.toNat_lt
  rw [wrap_u16, wrap_u16]; omega

end Go.Proofs.Ythflhaanndnejaf
