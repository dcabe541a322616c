/-
  Of what a law stands on.
-/
import Derived.Test.YtonnjgmognbnbaaGreatDoorRows
import Derived.WalkKit
import Derived.ProofKit
import Derived.OpenShut
import Derived.JoinedCond
import Derived.SevenTiedAt
import Derived.Test.YtonnjgmognbnbaaGreatDoorZtm
set_option linter.unusedSimpArgs false
set_option linter.unusedVariables false
namespace Go.Proofs.YtonnjgmognbnbaaGreatDoor
open _root_.Go.Proofs.Tryz Go.ChangeShapes Go.WideShapes Go.ChangeAt Go.RowKit
set_option maxHeartbeats 16000000
set_option maxRecDepth 100000
set_option maxRecDepth 100000
theorem qph:laidOutB prog=true:=by kernel_rfl
theorem qo9:mapsRowed prog=true:=by kernel_rfl
theorem qmr:(prog.stops == [])=true:=by kernel_rfl
theorem qmx:(prog.stopKnobs == [])=true:=by kernel_rfl
theorem qmz:prog.plainKeys=false:=by kernel_rfl
theorem qm2:prog.stopsHeard=true:=by kernel_rfl
theorem qmq:prog.mayEnter=true:=by kernel_rfl
theorem qpi:prog.liftsFinal=Rows.topGoodRow.lifted:=by kernel_rfl
theorem andI{a b:Bool}(h:a=true)(k:b=true):(a&&b)=true:=by rw[h,k];rfl
theorem eqI{α:Type} [BEq α] [LawfulBEq α]{a b:α}(h:b=a):(a==b)=true:=by rw[h];exact beq_self_eq_true a
end Go.Proofs.YtonnjgmognbnbaaGreatDoor
