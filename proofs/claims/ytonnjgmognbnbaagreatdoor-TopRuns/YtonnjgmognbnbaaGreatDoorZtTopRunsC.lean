/-
  Closed facts of TopRuns's row, one a declaration.
-/
import Derived.Test.YtonnjgmognbnbaaGreatDoorCards
import Derived.Test.YtonnjgmognbnbaaGreatDoorZtTpK
namespace Go.Proofs.YtonnjgmognbnbaaGreatDoor.topRuns
open Go.ChangeShapes Go.WideShapes Go.ChangeAt Go.RowKit
set_option linter.unusedVariables false
set_option linter.unusedSimpArgs false
set_option maxRecDepth 100000
theorem qxyb:(Rows.topRunsRow.inPlace==Tryz.prog.inPlace 15)=true:=by kernel_rfl
theorem cUnf:(Rows.topRunsRow.unfollowed==Tryz.prog.unfollowed 15)=true:=by kernel_rfl
theorem cRec:(Rows.topRunsRow.recurses==Tryz.prog.recurses 15)=true:=by kernel_rfl
theorem qxzb:(Rows.topRunsRow.named==Tryz.prog.varsNamed 15)=true:=by kernel_rfl
theorem qx1b:false=Rows.topRunsRow.goesBy Tryz.prog:=by kernel_rfl
theorem qx0b:Tryz.prog.mainIs=some (Rows.topRunsCard.stood.harness.1,Rows.topRunsCard.stood.harness.2.toList):=by kernel_rfl
theorem cWf:Rows.topRunsRow.wfByText (OpenSpec.ofChange Rows.topRunsSpec)=true:=by kernel_rfl
theorem c1:Rows.topRunsRow.wf (OpenSpec.ofChange (OpenSpec.ofChange Rows.topRunsSpec).bare)=true:=by kernel_rfl
theorem c4:Tryz.f15.params.all (Tryz.prog.readableRec ·)=true:=by kernel_rfl
theorem c5:namedTie Tryz.prog Rows.topRunsRow.named (OpenSpec.ofChange Rows.topRunsSpec).bare.vars=true:=by kernel_rfl
theorem c14:(Rows.topRunsRow.maps==(Tryz.f15.params.toList++(OpenSpec.ofChange Rows.topRunsSpec).bare.plain.varTypes Tryz.prog).any (Tryz.prog.mapsRec ·))=true:=by kernel_rfl
theorem c15:(Rows.topRunsRow.ifaces==(Tryz.f15.params.toList++(OpenSpec.ofChange Rows.topRunsSpec).bare.plain.varTypes Tryz.prog).any (Tryz.prog.ifacesRec ·))=true:=by kernel_rfl
theorem c16:(Rows.topRunsRow.mapsOut==Tryz.prog.mapsAmong Tryz.f15.resultTypes.toList)=true:=by kernel_rfl
theorem c17:(Rows.topRunsRow.loops==(Tryz.f15.params.toList++(OpenSpec.ofChange Rows.topRunsSpec).bare.plain.varTypes Tryz.prog).any (Tryz.prog.loopsFrom ·))=true:=by kernel_rfl
theorem c17b:(Rows.topRunsRow.wideKeys==(Tryz.f15.params.toList++(OpenSpec.ofChange Rows.topRunsSpec).bare.plain.varTypes Tryz.prog++Tryz.f15.resultTypes.toList).any (Tryz.prog.wideKeysFrom ·))=true:=by kernel_rfl
theorem c18:(OpenSpec.ofChange Rows.topRunsSpec).bare.vars.all (Tryz.prog.varReadable ·)=true:=by kernel_rfl
theorem c19:Tryz.f15.resultTypes.all (fun t=>Tryz.prog.readableRec t&&decide (t<Tryz.prog.types.size))=true:=by kernel_rfl
theorem c20:(Rows.topRunsRow.ifacesOut==Tryz.f15.resultTypes.toList.any (Tryz.prog.ifacesRec ·))=true:=by kernel_rfl
theorem c21:(Rows.topRunsRow.loopsOut==Tryz.f15.resultTypes.toList.any (Tryz.prog.loopsFrom ·))=true:=by kernel_rfl
theorem c24:(Tryz.prog.make==some Rows.topRunsRow.make)=true:=by kernel_rfl
theorem c25:(Rows.topRunsRow.kinds==(if Rows.topRunsRow.domain.isEmpty then [] else Tryz.f15.params.toList.map fun t=>match Tryz.prog.underlying t with|some (.int k)=>some k|_=>none))=true:=by kernel_rfl
theorem c26:(Rows.topRunsRow.pinned==Rows.topRunsRow.pinnedBy)=true:=by kernel_rfl
theorem c27:(Rows.topRunsRow.veiled==(Tryz.f15.params.toList++(OpenSpec.ofChange Rows.topRunsSpec).bare.plain.varTypes Tryz.prog++Tryz.f15.resultTypes.toList).any (Tryz.prog.veiledRec ·))=true:=by kernel_rfl
theorem c28:Rows.topRunsRow.veiledFits Tryz.prog Tryz.f15.params.toList (Tryz.f15.params.toList++(OpenSpec.ofChange Rows.topRunsSpec).bare.plain.varTypes Tryz.prog++Tryz.f15.resultTypes.toList)=true:=by kernel_rfl
theorem cPl:(Rows.topRunsRow.plainKeys==Tryz.prog.plainKeys)=true:=eqI qmz
theorem cLi:(Rows.topRunsRow.lifted==Tryz.prog.liftsFinal)=true:=eqI qpi
theorem qxxb:joinedFacts Tryz.prog 15 Tryz.f15 (OpenSpec.ofChange Rows.topRunsSpec).bare Rows.topRunsRow=true:=by
 unfold joinedFacts
 exact andI (andI (andI (andI (andI (andI (andI (andI (andI (andI (andI (andI (andI (andI (andI (andI (andI (andI (andI (andI (andI (andI (andI (andI (andI (andI (andI (andI (andI (andI (andI c1 qph) qo9) c4) c5) rfl) qmr) rfl) qmx) qxyb) cUnf) cRec) qxzb) c14) c15) c16) c17) c17b) c18) c19) c20) c21) cPl) rfl) qm2) qmq) cLi) c24) c25) c26) c27) c28
end Go.Proofs.YtonnjgmognbnbaaGreatDoor.topRuns
