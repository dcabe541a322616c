/-
  Of what a law stands on.
-/
import Derived.Test.YtonnjgmognbnbaaGreatDoorZtTpY0
import Derived.Test.YtonnjgmognbnbaaGreatDoorZtTpH
import Derived.Test.YtonnjgmognbnbaaGreatDoorZtr4
set_option linter.unusedSimpArgs false
set_option linter.unusedVariables false
namespace Go.Proofs.YtonnjgmognbnbaaGreatDoor
open _root_.Go.Proofs.Tryz Go.ChangeShapes Go.WideShapes Go.ChangeAt Go.RowKit Go.Maps
set_option maxHeartbeats 16000000
set_option maxRecDepth 100000
theorem qgkb(s:ByteArray):txt s.data.toList=s:=by cases s;simp[txt]
theorem qeob{W:World}{b:Nat}{f:Nat->Int}{g:Nat->Bool}(R:Row 35 W b (pc f g)):W.rangeAt b 0 (ocl f):=R.range (fun j v hv=>by
 refine m9i ?_;intro hj e
 rw[e,Nat.zero_add,List.getElem?_toArray,List.getElem?_append_left hj];exact hv)
theorem qdqb(f:Nat->Int):(prog.info? 32).map (·.size)=some (ocl f).length:=by kernel_rfl
theorem qe8b(w:World):(zeroValue 35).run prog w=.ok (.agg (pc z0 g0')) w:=by kernel_rfl
theorem qg5b(f:Nat->Int)(g:Nat->Bool)(f':Nat->Int)(g':Nat->Bool):(pc f g).size=(pc f' g').size:=by unfold pc;rfl
end Go.Proofs.YtonnjgmognbnbaaGreatDoor
