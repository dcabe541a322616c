/-
  Closed facts of TopIn's row, one a declaration.
-/
import Derived.Test.YtonnjgmognbnbaaGreatDoorCards
import Derived.Test.YtonnjgmognbnbaaGreatDoorZtTpK
namespace Go.Proofs.YtonnjgmognbnbaaGreatDoor.topIn
open Go.ChangeShapes Go.WideShapes Go.ChangeAt Go.RowKit
set_option linter.unusedVariables false
set_option linter.unusedSimpArgs false
set_option maxRecDepth 100000
theorem qxyb:(Rows.topInRow.inPlace==Tryz.prog.inPlace 7)=true:=by kernel_rfl
theorem cUnf:(Rows.topInRow.unfollowed==Tryz.prog.unfollowed 7)=true:=by kernel_rfl
theorem cRec:(Rows.topInRow.recurses==Tryz.prog.recurses 7)=true:=by kernel_rfl
theorem qxzb:(Rows.topInRow.named==Tryz.prog.varsNamed 7)=true:=by kernel_rfl
theorem qx1b:false=Rows.topInRow.goesBy Tryz.prog:=by kernel_rfl
theorem qx0b:Tryz.prog.mainIs=some (Rows.topInCard.stood.harness.1,Rows.topInCard.stood.harness.2.toList):=by kernel_rfl
theorem cWf:Rows.topInRow.wfByText (OpenSpec.ofChange Rows.topInSpec)=true:=by kernel_rfl
theorem c1:Rows.topInRow.wf (OpenSpec.ofChange (OpenSpec.ofChange Rows.topInSpec).bare)=true:=by kernel_rfl
theorem c4:Tryz.f7.params.all (Tryz.prog.readableRec ·)=true:=by kernel_rfl
theorem c5:namedTie Tryz.prog Rows.topInRow.named (OpenSpec.ofChange Rows.topInSpec).bare.vars=true:=by kernel_rfl
theorem c14:(Rows.topInRow.maps==(Tryz.f7.params.toList++(OpenSpec.ofChange Rows.topInSpec).bare.plain.varTypes Tryz.prog).any (Tryz.prog.mapsRec ·))=true:=by kernel_rfl
theorem c15:(Rows.topInRow.ifaces==(Tryz.f7.params.toList++(OpenSpec.ofChange Rows.topInSpec).bare.plain.varTypes Tryz.prog).any (Tryz.prog.ifacesRec ·))=true:=by kernel_rfl
theorem c16:(Rows.topInRow.mapsOut==Tryz.prog.mapsAmong Tryz.f7.resultTypes.toList)=true:=by kernel_rfl
theorem c17:(Rows.topInRow.loops==(Tryz.f7.params.toList++(OpenSpec.ofChange Rows.topInSpec).bare.plain.varTypes Tryz.prog).any (Tryz.prog.loopsFrom ·))=true:=by kernel_rfl
theorem c17b:(Rows.topInRow.wideKeys==(Tryz.f7.params.toList++(OpenSpec.ofChange Rows.topInSpec).bare.plain.varTypes Tryz.prog++Tryz.f7.resultTypes.toList).any (Tryz.prog.wideKeysFrom ·))=true:=by kernel_rfl
theorem c18:(OpenSpec.ofChange Rows.topInSpec).bare.vars.all (Tryz.prog.varReadable ·)=true:=by kernel_rfl
theorem c19:Tryz.f7.resultTypes.all (fun t=>Tryz.prog.readableRec t&&decide (t<Tryz.prog.types.size))=true:=by kernel_rfl
theorem c20:(Rows.topInRow.ifacesOut==Tryz.f7.resultTypes.toList.any (Tryz.prog.ifacesRec ·))=true:=by kernel_rfl
theorem c21:(Rows.topInRow.loopsOut==Tryz.f7.resultTypes.toList.any (Tryz.prog.loopsFrom ·))=true:=by kernel_rfl
theorem c24:(Tryz.prog.make==some Rows.topInRow.make)=true:=by kernel_rfl
theorem c25:(Rows.topInRow.kinds==(if Rows.topInRow.domain.isEmpty then [] else Tryz.f7.params.toList.map fun t=>match Tryz.prog.underlying t with|some (.int k)=>some k|_=>none))=true:=by kernel_rfl
theorem c26:(Rows.topInRow.pinned==Rows.topInRow.pinnedBy)=true:=by kernel_rfl
theorem c27:(Rows.topInRow.veiled==(Tryz.f7.params.toList++(OpenSpec.ofChange Rows.topInSpec).bare.plain.varTypes Tryz.prog++Tryz.f7.resultTypes.toList).any (Tryz.prog.veiledRec ·))=true:=by kernel_rfl
theorem c28:Rows.topInRow.veiledFits Tryz.prog Tryz.f7.params.toList (Tryz.f7.params.toList++(OpenSpec.ofChange Rows.topInSpec).bare.plain.varTypes Tryz.prog++Tryz.f7.resultTypes.toList)=true:=by kernel_rfl
theorem cPl:(Rows.topInRow.plainKeys==Tryz.prog.plainKeys)=true:=eqI qmz
theorem cLi:(Rows.topInRow.lifted==Tryz.prog.liftsFinal)=true:=eqI qpi
theorem qxxb:joinedFacts Tryz.prog 7 Tryz.f7 (OpenSpec.ofChange Rows.topInSpec).bare Rows.topInRow=true:=by
 unfold joinedFacts
 exact andI (andI (andI (andI (andI (andI (andI (andI (andI (andI (andI (andI (andI (andI (andI (andI (andI (andI (andI (andI (andI (andI (andI (andI (andI (andI (andI (andI (andI (andI (andI c1 qph) qo9) c4) c5) rfl) qmr) rfl) qmx) qxyb) cUnf) cRec) qxzb) c14) c15) c16) c17) c17b) c18) c19) c20) c21) cPl) rfl) qm2) qmq) cLi) c24) c25) c26) c27) c28
end Go.Proofs.YtonnjgmognbnbaaGreatDoor.topIn
