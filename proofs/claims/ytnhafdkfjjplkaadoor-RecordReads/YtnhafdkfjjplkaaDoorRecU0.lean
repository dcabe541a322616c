/-
  What an event in memory yields.
-/
import Derived.Test.YtnhafdkfjjplkaaDoorRecO
import Derived.Test.YtnhafdkfjjplkaaDoorYieldP
namespace Go.Proofs.YtnhafdkfjjplkaaDoor
open Go.ChangeShapes Go.WideShapes Go.ChangeAt Go.RowKit
set_option linter.unusedSimpArgs false
set_option linter.unusedVariables false

theorem yields_loadE {ops : Array Oper} {S : World → Prop} {o : Oper} {a : Act} (x : Operand) (ho : o.op = .load 29 x) (hw : Region.wanted o (yielded ops a.tmps) = true) (b f : Nat) (hx : a.eval x = .pointer (some ⟨b, f, none⟩)) (e : Ev) (hS : ∀ w, S w → w.rangeAt b f (ecl e)) : YieldsIf Tryd.prog ops S o (.agg (ec e)) a :=
  yieldsIf_load_mid (P := Tryd.prog) (S := S) hw 29 x ho b f hx (ecl e) _ hS Tryd.underlying29 rfl (ecl_info e)
end Go.Proofs.YtnhafdkfjjplkaaDoor
