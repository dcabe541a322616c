/-
  Closed facts of TopEnds's row, one a declaration.
-/
import Derived.Test.YtonnjgmognbnbaaGreatDoorCards
import Derived.Test.YtonnjgmognbnbaaGreatDoorZtTpK
namespace Go.Proofs.YtonnjgmognbnbaaGreatDoor.topEnds
open Go.ChangeShapes Go.WideShapes Go.ChangeAt Go.RowKit
set_option linter.unusedVariables false
set_option linter.unusedSimpArgs false
set_option maxRecDepth 100000
theorem qxyb:(Rows.topEndsRow.inPlace==Tryz.prog.inPlace 17)=true:=by kernel_rfl
theorem cUnf:(Rows.topEndsRow.unfollowed==Tryz.prog.unfollowed 17)=true:=by kernel_rfl
theorem cRec:(Rows.topEndsRow.recurses==Tryz.prog.recurses 17)=true:=by kernel_rfl
theorem qxzb:(Rows.topEndsRow.named==Tryz.prog.varsNamed 17)=true:=by kernel_rfl
theorem qx1b:false=Rows.topEndsRow.goesBy Tryz.prog:=by kernel_rfl
theorem qx0b:Tryz.prog.mainIs=some (Rows.topEndsCard.stood.harness.1,Rows.topEndsCard.stood.harness.2.toList):=by kernel_rfl
theorem cWf:Rows.topEndsRow.wfByText (OpenSpec.ofChange Rows.topEndsSpec)=true:=by kernel_rfl
theorem c1:Rows.topEndsRow.wf (OpenSpec.ofChange (OpenSpec.ofChange Rows.topEndsSpec).bare)=true:=by kernel_rfl
theorem c4:Tryz.f17.params.all (Tryz.prog.readableRec ·)=true:=by kernel_rfl
theorem c5:namedTie Tryz.prog Rows.topEndsRow.named (OpenSpec.ofChange Rows.topEndsSpec).bare.vars=true:=by kernel_rfl
theorem c14:(Rows.topEndsRow.maps==(Tryz.f17.params.toList++(OpenSpec.ofChange Rows.topEndsSpec).bare.plain.varTypes Tryz.prog).any (Tryz.prog.mapsRec ·))=true:=by kernel_rfl
theorem c15:(Rows.topEndsRow.ifaces==(Tryz.f17.params.toList++(OpenSpec.ofChange Rows.topEndsSpec).bare.plain.varTypes Tryz.prog).any (Tryz.prog.ifacesRec ·))=true:=by kernel_rfl
theorem c16:(Rows.topEndsRow.mapsOut==Tryz.prog.mapsAmong Tryz.f17.resultTypes.toList)=true:=by kernel_rfl
theorem c17:(Rows.topEndsRow.loops==(Tryz.f17.params.toList++(OpenSpec.ofChange Rows.topEndsSpec).bare.plain.varTypes Tryz.prog).any (Tryz.prog.loopsFrom ·))=true:=by kernel_rfl
theorem c17b:(Rows.topEndsRow.wideKeys==(Tryz.f17.params.toList++(OpenSpec.ofChange Rows.topEndsSpec).bare.plain.varTypes Tryz.prog++Tryz.f17.resultTypes.toList).any (Tryz.prog.wideKeysFrom ·))=true:=by kernel_rfl
theorem c18:(OpenSpec.ofChange Rows.topEndsSpec).bare.vars.all (Tryz.prog.varReadable ·)=true:=by kernel_rfl
theorem c19:Tryz.f17.resultTypes.all (fun t=>Tryz.prog.readableRec t&&decide (t<Tryz.prog.types.size))=true:=by kernel_rfl
theorem c20:(Rows.topEndsRow.ifacesOut==Tryz.f17.resultTypes.toList.any (Tryz.prog.ifacesRec ·))=true:=by kernel_rfl
theorem c21:(Rows.topEndsRow.loopsOut==Tryz.f17.resultTypes.toList.any (Tryz.prog.loopsFrom ·))=true:=by kernel_rfl
theorem c24:(Tryz.prog.make==some Rows.topEndsRow.make)=true:=by kernel_rfl
theorem c25:(Rows.topEndsRow.kinds==(if Rows.topEndsRow.domain.isEmpty then [] else Tryz.f17.params.toList.map fun t=>match Tryz.prog.underlying t with|some (.int k)=>some k|_=>none))=true:=by kernel_rfl
theorem c26:(Rows.topEndsRow.pinned==Rows.topEndsRow.pinnedBy)=true:=by kernel_rfl
theorem c27:(Rows.topEndsRow.veiled==(Tryz.f17.params.toList++(OpenSpec.ofChange Rows.topEndsSpec).bare.plain.varTypes Tryz.prog++Tryz.f17.resultTypes.toList).any (Tryz.prog.veiledRec ·))=true:=by kernel_rfl
theorem c28:Rows.topEndsRow.veiledFits Tryz.prog Tryz.f17.params.toList (Tryz.f17.params.toList++(OpenSpec.ofChange Rows.topEndsSpec).bare.plain.varTypes Tryz.prog++Tryz.f17.resultTypes.toList)=true:=by kernel_rfl
theorem cPl:(Rows.topEndsRow.plainKeys==Tryz.prog.plainKeys)=true:=eqI qmz
theorem cLi:(Rows.topEndsRow.lifted==Tryz.prog.liftsFinal)=true:=eqI qpi
theorem qxxb:joinedFacts Tryz.prog 17 Tryz.f17 (OpenSpec.ofChange Rows.topEndsSpec).bare Rows.topEndsRow=true:=by
 unfold joinedFacts
 exact andI (andI (andI (andI (andI (andI (andI (andI (andI (andI (andI (andI (andI (andI (andI (andI (andI (andI (andI (andI (andI (andI (andI (andI (andI (andI (andI (andI (andI (andI (andI c1 qph) qo9) c4) c5) rfl) qmr) rfl) qmx) qxyb) cUnf) cRec) qxzb) c14) c15) c16) c17) c17b) c18) c19) c20) c21) cPl) rfl) qm2) qmq) cLi) c24) c25) c26) c27) c28
end Go.Proofs.YtonnjgmognbnbaaGreatDoor.topEnds
