/-
  Closed facts of TopTraced's row, one a declaration.
-/
import Derived.Test.YtonnjgmognbnbaaGreatDoorCards
import Derived.Test.YtonnjgmognbnbaaGreatDoorZtTpK
namespace Go.Proofs.YtonnjgmognbnbaaGreatDoor.topTraced
open Go.ChangeShapes Go.WideShapes Go.ChangeAt Go.RowKit
set_option linter.unusedVariables false
set_option linter.unusedSimpArgs false
set_option maxRecDepth 100000
theorem qxyb:(Rows.topTracedRow.inPlace==Tryz.prog.inPlace 5)=true:=by kernel_rfl
theorem cUnf:(Rows.topTracedRow.unfollowed==Tryz.prog.unfollowed 5)=true:=by kernel_rfl
theorem cRec:(Rows.topTracedRow.recurses==Tryz.prog.recurses 5)=true:=by kernel_rfl
theorem qxzb:(Rows.topTracedRow.named==Tryz.prog.varsNamed 5)=true:=by kernel_rfl
theorem qx1b:false=Rows.topTracedRow.goesBy Tryz.prog:=by kernel_rfl
theorem qx0b:Tryz.prog.mainIs=some (Rows.topTracedCard.stood.harness.1,Rows.topTracedCard.stood.harness.2.toList):=by kernel_rfl
theorem cWf:Rows.topTracedRow.wfByText (OpenSpec.ofChange Rows.topTracedSpec)=true:=by kernel_rfl
theorem c1:Rows.topTracedRow.wf (OpenSpec.ofChange (OpenSpec.ofChange Rows.topTracedSpec).bare)=true:=by kernel_rfl
theorem c4:Tryz.f5.params.all (Tryz.prog.readableRec ·)=true:=by kernel_rfl
theorem c5:namedTie Tryz.prog Rows.topTracedRow.named (OpenSpec.ofChange Rows.topTracedSpec).bare.vars=true:=by kernel_rfl
theorem c14:(Rows.topTracedRow.maps==(Tryz.f5.params.toList++(OpenSpec.ofChange Rows.topTracedSpec).bare.plain.varTypes Tryz.prog).any (Tryz.prog.mapsRec ·))=true:=by kernel_rfl
theorem c15:(Rows.topTracedRow.ifaces==(Tryz.f5.params.toList++(OpenSpec.ofChange Rows.topTracedSpec).bare.plain.varTypes Tryz.prog).any (Tryz.prog.ifacesRec ·))=true:=by kernel_rfl
theorem c16:(Rows.topTracedRow.mapsOut==Tryz.prog.mapsAmong Tryz.f5.resultTypes.toList)=true:=by kernel_rfl
theorem c17:(Rows.topTracedRow.loops==(Tryz.f5.params.toList++(OpenSpec.ofChange Rows.topTracedSpec).bare.plain.varTypes Tryz.prog).any (Tryz.prog.loopsFrom ·))=true:=by kernel_rfl
theorem c17b:(Rows.topTracedRow.wideKeys==(Tryz.f5.params.toList++(OpenSpec.ofChange Rows.topTracedSpec).bare.plain.varTypes Tryz.prog++Tryz.f5.resultTypes.toList).any (Tryz.prog.wideKeysFrom ·))=true:=by kernel_rfl
theorem c18:(OpenSpec.ofChange Rows.topTracedSpec).bare.vars.all (Tryz.prog.varReadable ·)=true:=by kernel_rfl
theorem c19:Tryz.f5.resultTypes.all (fun t=>Tryz.prog.readableRec t&&decide (t<Tryz.prog.types.size))=true:=by kernel_rfl
theorem c20:(Rows.topTracedRow.ifacesOut==Tryz.f5.resultTypes.toList.any (Tryz.prog.ifacesRec ·))=true:=by kernel_rfl
theorem c21:(Rows.topTracedRow.loopsOut==Tryz.f5.resultTypes.toList.any (Tryz.prog.loopsFrom ·))=true:=by kernel_rfl
theorem c24:(Tryz.prog.make==some Rows.topTracedRow.make)=true:=by kernel_rfl
theorem c25:(Rows.topTracedRow.kinds==(if Rows.topTracedRow.domain.isEmpty then [] else Tryz.f5.params.toList.map fun t=>match Tryz.prog.underlying t with|some (.int k)=>some k|_=>none))=true:=by kernel_rfl
theorem c26:(Rows.topTracedRow.pinned==Rows.topTracedRow.pinnedBy)=true:=by kernel_rfl
theorem c27:(Rows.topTracedRow.veiled==(Tryz.f5.params.toList++(OpenSpec.ofChange Rows.topTracedSpec).bare.plain.varTypes Tryz.prog++Tryz.f5.resultTypes.toList).any (Tryz.prog.veiledRec ·))=true:=by kernel_rfl
theorem c28:Rows.topTracedRow.veiledFits Tryz.prog Tryz.f5.params.toList (Tryz.f5.params.toList++(OpenSpec.ofChange Rows.topTracedSpec).bare.plain.varTypes Tryz.prog++Tryz.f5.resultTypes.toList)=true:=by kernel_rfl
theorem cPl:(Rows.topTracedRow.plainKeys==Tryz.prog.plainKeys)=true:=eqI qmz
theorem cLi:(Rows.topTracedRow.lifted==Tryz.prog.liftsFinal)=true:=eqI qpi
theorem qxxb:joinedFacts Tryz.prog 5 Tryz.f5 (OpenSpec.ofChange Rows.topTracedSpec).bare Rows.topTracedRow=true:=by
 unfold joinedFacts
 exact andI (andI (andI (andI (andI (andI (andI (andI (andI (andI (andI (andI (andI (andI (andI (andI (andI (andI (andI (andI (andI (andI (andI (andI (andI (andI (andI (andI (andI (andI (andI c1 qph) qo9) c4) c5) rfl) qmr) rfl) qmx) qxyb) cUnf) cRec) qxzb) c14) c15) c16) c17) c17b) c18) c19) c20) c21) cPl) rfl) qm2) qmq) cLi) c24) c25) c26) c27) c28
end Go.Proofs.YtonnjgmognbnbaaGreatDoor.topTraced
