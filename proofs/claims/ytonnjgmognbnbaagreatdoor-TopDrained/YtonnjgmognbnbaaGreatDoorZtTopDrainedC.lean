/-
  Closed facts of TopDrained's row, one a declaration.
-/
import Derived.Test.YtonnjgmognbnbaaGreatDoorCards
import Derived.Test.YtonnjgmognbnbaaGreatDoorZtTpK
namespace Go.Proofs.YtonnjgmognbnbaaGreatDoor.topDrained
open Go.ChangeShapes Go.WideShapes Go.ChangeAt Go.RowKit
set_option linter.unusedVariables false
set_option linter.unusedSimpArgs false
set_option maxRecDepth 100000
theorem qxyb:(Rows.topDrainedRow.inPlace==Tryz.prog.inPlace 11)=true:=by kernel_rfl
theorem cUnf:(Rows.topDrainedRow.unfollowed==Tryz.prog.unfollowed 11)=true:=by kernel_rfl
theorem cRec:(Rows.topDrainedRow.recurses==Tryz.prog.recurses 11)=true:=by kernel_rfl
theorem qxzb:(Rows.topDrainedRow.named==Tryz.prog.varsNamed 11)=true:=by kernel_rfl
theorem qx1b:false=Rows.topDrainedRow.goesBy Tryz.prog:=by kernel_rfl
theorem qx0b:Tryz.prog.mainIs=some (Rows.topDrainedCard.stood.harness.1,Rows.topDrainedCard.stood.harness.2.toList):=by kernel_rfl
theorem cWf:Rows.topDrainedRow.wfByText (OpenSpec.ofChange Rows.topDrainedSpec)=true:=by kernel_rfl
theorem c1:Rows.topDrainedRow.wf (OpenSpec.ofChange (OpenSpec.ofChange Rows.topDrainedSpec).bare)=true:=by kernel_rfl
theorem c4:Tryz.f11.params.all (Tryz.prog.readableRec ·)=true:=by kernel_rfl
theorem c5:namedTie Tryz.prog Rows.topDrainedRow.named (OpenSpec.ofChange Rows.topDrainedSpec).bare.vars=true:=by kernel_rfl
theorem c14:(Rows.topDrainedRow.maps==(Tryz.f11.params.toList++(OpenSpec.ofChange Rows.topDrainedSpec).bare.plain.varTypes Tryz.prog).any (Tryz.prog.mapsRec ·))=true:=by kernel_rfl
theorem c15:(Rows.topDrainedRow.ifaces==(Tryz.f11.params.toList++(OpenSpec.ofChange Rows.topDrainedSpec).bare.plain.varTypes Tryz.prog).any (Tryz.prog.ifacesRec ·))=true:=by kernel_rfl
theorem c16:(Rows.topDrainedRow.mapsOut==Tryz.prog.mapsAmong Tryz.f11.resultTypes.toList)=true:=by kernel_rfl
theorem c17:(Rows.topDrainedRow.loops==(Tryz.f11.params.toList++(OpenSpec.ofChange Rows.topDrainedSpec).bare.plain.varTypes Tryz.prog).any (Tryz.prog.loopsFrom ·))=true:=by kernel_rfl
theorem c17b:(Rows.topDrainedRow.wideKeys==(Tryz.f11.params.toList++(OpenSpec.ofChange Rows.topDrainedSpec).bare.plain.varTypes Tryz.prog++Tryz.f11.resultTypes.toList).any (Tryz.prog.wideKeysFrom ·))=true:=by kernel_rfl
theorem c18:(OpenSpec.ofChange Rows.topDrainedSpec).bare.vars.all (Tryz.prog.varReadable ·)=true:=by kernel_rfl
theorem c19:Tryz.f11.resultTypes.all (fun t=>Tryz.prog.readableRec t&&decide (t<Tryz.prog.types.size))=true:=by kernel_rfl
theorem c20:(Rows.topDrainedRow.ifacesOut==Tryz.f11.resultTypes.toList.any (Tryz.prog.ifacesRec ·))=true:=by kernel_rfl
theorem c21:(Rows.topDrainedRow.loopsOut==Tryz.f11.resultTypes.toList.any (Tryz.prog.loopsFrom ·))=true:=by kernel_rfl
theorem c24:(Tryz.prog.make==some Rows.topDrainedRow.make)=true:=by kernel_rfl
theorem c25:(Rows.topDrainedRow.kinds==(if Rows.topDrainedRow.domain.isEmpty then [] else Tryz.f11.params.toList.map fun t=>match Tryz.prog.underlying t with|some (.int k)=>some k|_=>none))=true:=by kernel_rfl
theorem c26:(Rows.topDrainedRow.pinned==Rows.topDrainedRow.pinnedBy)=true:=by kernel_rfl
theorem c27:(Rows.topDrainedRow.veiled==(Tryz.f11.params.toList++(OpenSpec.ofChange Rows.topDrainedSpec).bare.plain.varTypes Tryz.prog++Tryz.f11.resultTypes.toList).any (Tryz.prog.veiledRec ·))=true:=by kernel_rfl
theorem c28:Rows.topDrainedRow.veiledFits Tryz.prog Tryz.f11.params.toList (Tryz.f11.params.toList++(OpenSpec.ofChange Rows.topDrainedSpec).bare.plain.varTypes Tryz.prog++Tryz.f11.resultTypes.toList)=true:=by kernel_rfl
theorem cPl:(Rows.topDrainedRow.plainKeys==Tryz.prog.plainKeys)=true:=eqI qmz
theorem cLi:(Rows.topDrainedRow.lifted==Tryz.prog.liftsFinal)=true:=eqI qpi
theorem qxxb:joinedFacts Tryz.prog 11 Tryz.f11 (OpenSpec.ofChange Rows.topDrainedSpec).bare Rows.topDrainedRow=true:=by
 unfold joinedFacts
 exact andI (andI (andI (andI (andI (andI (andI (andI (andI (andI (andI (andI (andI (andI (andI (andI (andI (andI (andI (andI (andI (andI (andI (andI (andI (andI (andI (andI (andI (andI (andI c1 qph) qo9) c4) c5) rfl) qmr) rfl) qmx) qxyb) cUnf) cRec) qxzb) c14) c15) c16) c17) c17b) c18) c19) c20) c21) cPl) rfl) qm2) qmq) cLi) c24) c25) c26) c27) c28
end Go.Proofs.YtonnjgmognbnbaaGreatDoor.topDrained
