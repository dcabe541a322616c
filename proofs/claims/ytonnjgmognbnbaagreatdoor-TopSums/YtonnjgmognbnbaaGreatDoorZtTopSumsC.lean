/-
  Closed facts of TopSums's row, one a declaration.
-/
import Derived.Test.YtonnjgmognbnbaaGreatDoorCards
import Derived.Test.YtonnjgmognbnbaaGreatDoorZtTpK
namespace Go.Proofs.YtonnjgmognbnbaaGreatDoor.topSums
open Go.ChangeShapes Go.WideShapes Go.ChangeAt Go.RowKit
set_option linter.unusedVariables false
set_option linter.unusedSimpArgs false
set_option maxRecDepth 100000
theorem qxyb:(Rows.topSumsRow.inPlace==Tryz.prog.inPlace 13)=true:=by kernel_rfl
theorem cUnf:(Rows.topSumsRow.unfollowed==Tryz.prog.unfollowed 13)=true:=by kernel_rfl
theorem cRec:(Rows.topSumsRow.recurses==Tryz.prog.recurses 13)=true:=by kernel_rfl
theorem qxzb:(Rows.topSumsRow.named==Tryz.prog.varsNamed 13)=true:=by kernel_rfl
theorem qx1b:false=Rows.topSumsRow.goesBy Tryz.prog:=by kernel_rfl
theorem qx0b:Tryz.prog.mainIs=some (Rows.topSumsCard.stood.harness.1,Rows.topSumsCard.stood.harness.2.toList):=by kernel_rfl
theorem cWf:Rows.topSumsRow.wfByText (OpenSpec.ofChange Rows.topSumsSpec)=true:=by kernel_rfl
theorem c1:Rows.topSumsRow.wf (OpenSpec.ofChange (OpenSpec.ofChange Rows.topSumsSpec).bare)=true:=by kernel_rfl
theorem c4:Tryz.f13.params.all (Tryz.prog.readableRec ·)=true:=by kernel_rfl
theorem c5:namedTie Tryz.prog Rows.topSumsRow.named (OpenSpec.ofChange Rows.topSumsSpec).bare.vars=true:=by kernel_rfl
theorem c14:(Rows.topSumsRow.maps==(Tryz.f13.params.toList++(OpenSpec.ofChange Rows.topSumsSpec).bare.plain.varTypes Tryz.prog).any (Tryz.prog.mapsRec ·))=true:=by kernel_rfl
theorem c15:(Rows.topSumsRow.ifaces==(Tryz.f13.params.toList++(OpenSpec.ofChange Rows.topSumsSpec).bare.plain.varTypes Tryz.prog).any (Tryz.prog.ifacesRec ·))=true:=by kernel_rfl
theorem c16:(Rows.topSumsRow.mapsOut==Tryz.prog.mapsAmong Tryz.f13.resultTypes.toList)=true:=by kernel_rfl
theorem c17:(Rows.topSumsRow.loops==(Tryz.f13.params.toList++(OpenSpec.ofChange Rows.topSumsSpec).bare.plain.varTypes Tryz.prog).any (Tryz.prog.loopsFrom ·))=true:=by kernel_rfl
theorem c17b:(Rows.topSumsRow.wideKeys==(Tryz.f13.params.toList++(OpenSpec.ofChange Rows.topSumsSpec).bare.plain.varTypes Tryz.prog++Tryz.f13.resultTypes.toList).any (Tryz.prog.wideKeysFrom ·))=true:=by kernel_rfl
theorem c18:(OpenSpec.ofChange Rows.topSumsSpec).bare.vars.all (Tryz.prog.varReadable ·)=true:=by kernel_rfl
theorem c19:Tryz.f13.resultTypes.all (fun t=>Tryz.prog.readableRec t&&decide (t<Tryz.prog.types.size))=true:=by kernel_rfl
theorem c20:(Rows.topSumsRow.ifacesOut==Tryz.f13.resultTypes.toList.any (Tryz.prog.ifacesRec ·))=true:=by kernel_rfl
theorem c21:(Rows.topSumsRow.loopsOut==Tryz.f13.resultTypes.toList.any (Tryz.prog.loopsFrom ·))=true:=by kernel_rfl
theorem c24:(Tryz.prog.make==some Rows.topSumsRow.make)=true:=by kernel_rfl
theorem c25:(Rows.topSumsRow.kinds==(if Rows.topSumsRow.domain.isEmpty then [] else Tryz.f13.params.toList.map fun t=>match Tryz.prog.underlying t with|some (.int k)=>some k|_=>none))=true:=by kernel_rfl
theorem c26:(Rows.topSumsRow.pinned==Rows.topSumsRow.pinnedBy)=true:=by kernel_rfl
theorem c27:(Rows.topSumsRow.veiled==(Tryz.f13.params.toList++(OpenSpec.ofChange Rows.topSumsSpec).bare.plain.varTypes Tryz.prog++Tryz.f13.resultTypes.toList).any (Tryz.prog.veiledRec ·))=true:=by kernel_rfl
theorem c28:Rows.topSumsRow.veiledFits Tryz.prog Tryz.f13.params.toList (Tryz.f13.params.toList++(OpenSpec.ofChange Rows.topSumsSpec).bare.plain.varTypes Tryz.prog++Tryz.f13.resultTypes.toList)=true:=by kernel_rfl
theorem cPl:(Rows.topSumsRow.plainKeys==Tryz.prog.plainKeys)=true:=eqI qmz
theorem cLi:(Rows.topSumsRow.lifted==Tryz.prog.liftsFinal)=true:=eqI qpi
theorem qxxb:joinedFacts Tryz.prog 13 Tryz.f13 (OpenSpec.ofChange Rows.topSumsSpec).bare Rows.topSumsRow=true:=by
 unfold joinedFacts
 exact andI (andI (andI (andI (andI (andI (andI (andI (andI (andI (andI (andI (andI (andI (andI (andI (andI (andI (andI (andI (andI (andI (andI (andI (andI (andI (andI (andI (andI (andI (andI c1 qph) qo9) c4) c5) rfl) qmr) rfl) qmx) qxyb) cUnf) cRec) qxzb) c14) c15) c16) c17) c17b) c18) c19) c20) c21) cPl) rfl) qm2) qmq) cLi) c24) c25) c26) c27) c28
end Go.Proofs.YtonnjgmognbnbaaGreatDoor.topSums
