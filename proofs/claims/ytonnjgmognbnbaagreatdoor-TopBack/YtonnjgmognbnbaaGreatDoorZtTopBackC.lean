/-
  Closed facts of TopBack's row, one a declaration.
-/
import Derived.Test.YtonnjgmognbnbaaGreatDoorCards
import Derived.Test.YtonnjgmognbnbaaGreatDoorZtTpK
namespace Go.Proofs.YtonnjgmognbnbaaGreatDoor.topBack
open Go.ChangeShapes Go.WideShapes Go.ChangeAt Go.RowKit
set_option linter.unusedVariables false
set_option linter.unusedSimpArgs false
set_option maxRecDepth 100000
theorem qxyb:(Rows.topBackRow.inPlace==Tryz.prog.inPlace 8)=true:=by kernel_rfl
theorem cUnf:(Rows.topBackRow.unfollowed==Tryz.prog.unfollowed 8)=true:=by kernel_rfl
theorem cRec:(Rows.topBackRow.recurses==Tryz.prog.recurses 8)=true:=by kernel_rfl
theorem qxzb:(Rows.topBackRow.named==Tryz.prog.varsNamed 8)=true:=by kernel_rfl
theorem qx1b:false=Rows.topBackRow.goesBy Tryz.prog:=by kernel_rfl
theorem qx0b:Tryz.prog.mainIs=some (Rows.topBackCard.stood.harness.1,Rows.topBackCard.stood.harness.2.toList):=by kernel_rfl
theorem cWf:Rows.topBackRow.wfByText (OpenSpec.ofChange Rows.topBackSpec)=true:=by kernel_rfl
theorem c1:Rows.topBackRow.wf (OpenSpec.ofChange (OpenSpec.ofChange Rows.topBackSpec).bare)=true:=by kernel_rfl
theorem c4:Tryz.f8.params.all (Tryz.prog.readableRec ·)=true:=by kernel_rfl
theorem c5:namedTie Tryz.prog Rows.topBackRow.named (OpenSpec.ofChange Rows.topBackSpec).bare.vars=true:=by kernel_rfl
theorem c14:(Rows.topBackRow.maps==(Tryz.f8.params.toList++(OpenSpec.ofChange Rows.topBackSpec).bare.plain.varTypes Tryz.prog).any (Tryz.prog.mapsRec ·))=true:=by kernel_rfl
theorem c15:(Rows.topBackRow.ifaces==(Tryz.f8.params.toList++(OpenSpec.ofChange Rows.topBackSpec).bare.plain.varTypes Tryz.prog).any (Tryz.prog.ifacesRec ·))=true:=by kernel_rfl
theorem c16:(Rows.topBackRow.mapsOut==Tryz.prog.mapsAmong Tryz.f8.resultTypes.toList)=true:=by kernel_rfl
theorem c17:(Rows.topBackRow.loops==(Tryz.f8.params.toList++(OpenSpec.ofChange Rows.topBackSpec).bare.plain.varTypes Tryz.prog).any (Tryz.prog.loopsFrom ·))=true:=by kernel_rfl
theorem c17b:(Rows.topBackRow.wideKeys==(Tryz.f8.params.toList++(OpenSpec.ofChange Rows.topBackSpec).bare.plain.varTypes Tryz.prog++Tryz.f8.resultTypes.toList).any (Tryz.prog.wideKeysFrom ·))=true:=by kernel_rfl
theorem c18:(OpenSpec.ofChange Rows.topBackSpec).bare.vars.all (Tryz.prog.varReadable ·)=true:=by kernel_rfl
theorem c19:Tryz.f8.resultTypes.all (fun t=>Tryz.prog.readableRec t&&decide (t<Tryz.prog.types.size))=true:=by kernel_rfl
theorem c20:(Rows.topBackRow.ifacesOut==Tryz.f8.resultTypes.toList.any (Tryz.prog.ifacesRec ·))=true:=by kernel_rfl
theorem c21:(Rows.topBackRow.loopsOut==Tryz.f8.resultTypes.toList.any (Tryz.prog.loopsFrom ·))=true:=by kernel_rfl
theorem c24:(Tryz.prog.make==some Rows.topBackRow.make)=true:=by kernel_rfl
theorem c25:(Rows.topBackRow.kinds==(if Rows.topBackRow.domain.isEmpty then [] else Tryz.f8.params.toList.map fun t=>match Tryz.prog.underlying t with|some (.int k)=>some k|_=>none))=true:=by kernel_rfl
theorem c26:(Rows.topBackRow.pinned==Rows.topBackRow.pinnedBy)=true:=by kernel_rfl
theorem c27:(Rows.topBackRow.veiled==(Tryz.f8.params.toList++(OpenSpec.ofChange Rows.topBackSpec).bare.plain.varTypes Tryz.prog++Tryz.f8.resultTypes.toList).any (Tryz.prog.veiledRec ·))=true:=by kernel_rfl
theorem c28:Rows.topBackRow.veiledFits Tryz.prog Tryz.f8.params.toList (Tryz.f8.params.toList++(OpenSpec.ofChange Rows.topBackSpec).bare.plain.varTypes Tryz.prog++Tryz.f8.resultTypes.toList)=true:=by kernel_rfl
theorem cPl:(Rows.topBackRow.plainKeys==Tryz.prog.plainKeys)=true:=eqI qmz
theorem cLi:(Rows.topBackRow.lifted==Tryz.prog.liftsFinal)=true:=eqI qpi
theorem qxxb:joinedFacts Tryz.prog 8 Tryz.f8 (OpenSpec.ofChange Rows.topBackSpec).bare Rows.topBackRow=true:=by
 unfold joinedFacts
 exact andI (andI (andI (andI (andI (andI (andI (andI (andI (andI (andI (andI (andI (andI (andI (andI (andI (andI (andI (andI (andI (andI (andI (andI (andI (andI (andI (andI (andI (andI (andI c1 qph) qo9) c4) c5) rfl) qmr) rfl) qmx) qxyb) cUnf) cRec) qxzb) c14) c15) c16) c17) c17b) c18) c19) c20) c21) cPl) rfl) qm2) qmq) cLi) c24) c25) c26) c27) c28
end Go.Proofs.YtonnjgmognbnbaaGreatDoor.topBack
