/-
  Closed facts of TopRate's row, one a declaration.
-/
import Derived.Test.YtonnjgmognbnbaaGreatDoorCards
import Derived.Test.YtonnjgmognbnbaaGreatDoorZtTpK
namespace Go.Proofs.YtonnjgmognbnbaaGreatDoor.topRate
open Go.ChangeShapes Go.WideShapes Go.ChangeAt Go.RowKit
set_option linter.unusedVariables false
set_option linter.unusedSimpArgs false
set_option maxRecDepth 100000
theorem qxyb:(Rows.topRateRow.inPlace==Tryz.prog.inPlace 12)=true:=by kernel_rfl
theorem cUnf:(Rows.topRateRow.unfollowed==Tryz.prog.unfollowed 12)=true:=by kernel_rfl
theorem cRec:(Rows.topRateRow.recurses==Tryz.prog.recurses 12)=true:=by kernel_rfl
theorem qxzb:(Rows.topRateRow.named==Tryz.prog.varsNamed 12)=true:=by kernel_rfl
theorem qx1b:false=Rows.topRateRow.goesBy Tryz.prog:=by kernel_rfl
theorem qx0b:Tryz.prog.mainIs=some (Rows.topRateCard.stood.harness.1,Rows.topRateCard.stood.harness.2.toList):=by kernel_rfl
theorem cWf:Rows.topRateRow.wfByText (OpenSpec.ofChange Rows.topRateSpec)=true:=by kernel_rfl
theorem c1:Rows.topRateRow.wf (OpenSpec.ofChange (OpenSpec.ofChange Rows.topRateSpec).bare)=true:=by kernel_rfl
theorem c4:Tryz.f12.params.all (Tryz.prog.readableRec ·)=true:=by kernel_rfl
theorem c5:namedTie Tryz.prog Rows.topRateRow.named (OpenSpec.ofChange Rows.topRateSpec).bare.vars=true:=by kernel_rfl
theorem c14:(Rows.topRateRow.maps==(Tryz.f12.params.toList++(OpenSpec.ofChange Rows.topRateSpec).bare.plain.varTypes Tryz.prog).any (Tryz.prog.mapsRec ·))=true:=by kernel_rfl
theorem c15:(Rows.topRateRow.ifaces==(Tryz.f12.params.toList++(OpenSpec.ofChange Rows.topRateSpec).bare.plain.varTypes Tryz.prog).any (Tryz.prog.ifacesRec ·))=true:=by kernel_rfl
theorem c16:(Rows.topRateRow.mapsOut==Tryz.prog.mapsAmong Tryz.f12.resultTypes.toList)=true:=by kernel_rfl
theorem c17:(Rows.topRateRow.loops==(Tryz.f12.params.toList++(OpenSpec.ofChange Rows.topRateSpec).bare.plain.varTypes Tryz.prog).any (Tryz.prog.loopsFrom ·))=true:=by kernel_rfl
theorem c17b:(Rows.topRateRow.wideKeys==(Tryz.f12.params.toList++(OpenSpec.ofChange Rows.topRateSpec).bare.plain.varTypes Tryz.prog++Tryz.f12.resultTypes.toList).any (Tryz.prog.wideKeysFrom ·))=true:=by kernel_rfl
theorem c18:(OpenSpec.ofChange Rows.topRateSpec).bare.vars.all (Tryz.prog.varReadable ·)=true:=by kernel_rfl
theorem c19:Tryz.f12.resultTypes.all (fun t=>Tryz.prog.readableRec t&&decide (t<Tryz.prog.types.size))=true:=by kernel_rfl
theorem c20:(Rows.topRateRow.ifacesOut==Tryz.f12.resultTypes.toList.any (Tryz.prog.ifacesRec ·))=true:=by kernel_rfl
theorem c21:(Rows.topRateRow.loopsOut==Tryz.f12.resultTypes.toList.any (Tryz.prog.loopsFrom ·))=true:=by kernel_rfl
theorem c24:(Tryz.prog.make==some Rows.topRateRow.make)=true:=by kernel_rfl
theorem c25:(Rows.topRateRow.kinds==(if Rows.topRateRow.domain.isEmpty then [] else Tryz.f12.params.toList.map fun t=>match Tryz.prog.underlying t with|some (.int k)=>some k|_=>none))=true:=by kernel_rfl
theorem c26:(Rows.topRateRow.pinned==Rows.topRateRow.pinnedBy)=true:=by kernel_rfl
theorem c27:(Rows.topRateRow.veiled==(Tryz.f12.params.toList++(OpenSpec.ofChange Rows.topRateSpec).bare.plain.varTypes Tryz.prog++Tryz.f12.resultTypes.toList).any (Tryz.prog.veiledRec ·))=true:=by kernel_rfl
theorem c28:Rows.topRateRow.veiledFits Tryz.prog Tryz.f12.params.toList (Tryz.f12.params.toList++(OpenSpec.ofChange Rows.topRateSpec).bare.plain.varTypes Tryz.prog++Tryz.f12.resultTypes.toList)=true:=by kernel_rfl
theorem cPl:(Rows.topRateRow.plainKeys==Tryz.prog.plainKeys)=true:=eqI qmz
theorem cLi:(Rows.topRateRow.lifted==Tryz.prog.liftsFinal)=true:=eqI qpi
theorem qxxb:joinedFacts Tryz.prog 12 Tryz.f12 (OpenSpec.ofChange Rows.topRateSpec).bare Rows.topRateRow=true:=by
 unfold joinedFacts
 exact andI (andI (andI (andI (andI (andI (andI (andI (andI (andI (andI (andI (andI (andI (andI (andI (andI (andI (andI (andI (andI (andI (andI (andI (andI (andI (andI (andI (andI (andI (andI c1 qph) qo9) c4) c5) rfl) qmr) rfl) qmx) qxyb) cUnf) cRec) qxzb) c14) c15) c16) c17) c17b) c18) c19) c20) c21) cPl) rfl) qm2) qmq) cLi) c24) c25) c26) c27) c28
end Go.Proofs.YtonnjgmognbnbaaGreatDoor.topRate
