/-
  Closed facts of TopRefused's row, one a declaration.
-/
import Derived.Test.YtonnjgmognbnbaaGreatDoorCards
import Derived.Test.YtonnjgmognbnbaaGreatDoorZtTpK
namespace Go.Proofs.YtonnjgmognbnbaaGreatDoor.topRefused
open Go.ChangeShapes Go.WideShapes Go.ChangeAt Go.RowKit
set_option linter.unusedVariables false
set_option linter.unusedSimpArgs false
set_option maxRecDepth 100000
theorem qxyb:(Rows.topRefusedRow.inPlace==Tryz.prog.inPlace 14)=true:=by kernel_rfl
theorem cUnf:(Rows.topRefusedRow.unfollowed==Tryz.prog.unfollowed 14)=true:=by kernel_rfl
theorem cRec:(Rows.topRefusedRow.recurses==Tryz.prog.recurses 14)=true:=by kernel_rfl
theorem qxzb:(Rows.topRefusedRow.named==Tryz.prog.varsNamed 14)=true:=by kernel_rfl
theorem qx1b:false=Rows.topRefusedRow.goesBy Tryz.prog:=by kernel_rfl
theorem qx0b:Tryz.prog.mainIs=some (Rows.topRefusedCard.stood.harness.1,Rows.topRefusedCard.stood.harness.2.toList):=by kernel_rfl
theorem cWf:Rows.topRefusedRow.wfByText (OpenSpec.ofChange Rows.topRefusedSpec)=true:=by kernel_rfl
theorem c1:Rows.topRefusedRow.wf (OpenSpec.ofChange (OpenSpec.ofChange Rows.topRefusedSpec).bare)=true:=by kernel_rfl
theorem c4:Tryz.f14.params.all (Tryz.prog.readableRec ·)=true:=by kernel_rfl
theorem c5:namedTie Tryz.prog Rows.topRefusedRow.named (OpenSpec.ofChange Rows.topRefusedSpec).bare.vars=true:=by kernel_rfl
theorem c14:(Rows.topRefusedRow.maps==(Tryz.f14.params.toList++(OpenSpec.ofChange Rows.topRefusedSpec).bare.plain.varTypes Tryz.prog).any (Tryz.prog.mapsRec ·))=true:=by kernel_rfl
theorem c15:(Rows.topRefusedRow.ifaces==(Tryz.f14.params.toList++(OpenSpec.ofChange Rows.topRefusedSpec).bare.plain.varTypes Tryz.prog).any (Tryz.prog.ifacesRec ·))=true:=by kernel_rfl
theorem c16:(Rows.topRefusedRow.mapsOut==Tryz.prog.mapsAmong Tryz.f14.resultTypes.toList)=true:=by kernel_rfl
theorem c17:(Rows.topRefusedRow.loops==(Tryz.f14.params.toList++(OpenSpec.ofChange Rows.topRefusedSpec).bare.plain.varTypes Tryz.prog).any (Tryz.prog.loopsFrom ·))=true:=by kernel_rfl
theorem c17b:(Rows.topRefusedRow.wideKeys==(Tryz.f14.params.toList++(OpenSpec.ofChange Rows.topRefusedSpec).bare.plain.varTypes Tryz.prog++Tryz.f14.resultTypes.toList).any (Tryz.prog.wideKeysFrom ·))=true:=by kernel_rfl
theorem c18:(OpenSpec.ofChange Rows.topRefusedSpec).bare.vars.all (Tryz.prog.varReadable ·)=true:=by kernel_rfl
theorem c19:Tryz.f14.resultTypes.all (fun t=>Tryz.prog.readableRec t&&decide (t<Tryz.prog.types.size))=true:=by kernel_rfl
theorem c20:(Rows.topRefusedRow.ifacesOut==Tryz.f14.resultTypes.toList.any (Tryz.prog.ifacesRec ·))=true:=by kernel_rfl
theorem c21:(Rows.topRefusedRow.loopsOut==Tryz.f14.resultTypes.toList.any (Tryz.prog.loopsFrom ·))=true:=by kernel_rfl
theorem c24:(Tryz.prog.make==some Rows.topRefusedRow.make)=true:=by kernel_rfl
theorem c25:(Rows.topRefusedRow.kinds==(if Rows.topRefusedRow.domain.isEmpty then [] else Tryz.f14.params.toList.map fun t=>match Tryz.prog.underlying t with|some (.int k)=>some k|_=>none))=true:=by kernel_rfl
theorem c26:(Rows.topRefusedRow.pinned==Rows.topRefusedRow.pinnedBy)=true:=by kernel_rfl
theorem c27:(Rows.topRefusedRow.veiled==(Tryz.f14.params.toList++(OpenSpec.ofChange Rows.topRefusedSpec).bare.plain.varTypes Tryz.prog++Tryz.f14.resultTypes.toList).any (Tryz.prog.veiledRec ·))=true:=by kernel_rfl
theorem c28:Rows.topRefusedRow.veiledFits Tryz.prog Tryz.f14.params.toList (Tryz.f14.params.toList++(OpenSpec.ofChange Rows.topRefusedSpec).bare.plain.varTypes Tryz.prog++Tryz.f14.resultTypes.toList)=true:=by kernel_rfl
theorem cPl:(Rows.topRefusedRow.plainKeys==Tryz.prog.plainKeys)=true:=eqI qmz
theorem cLi:(Rows.topRefusedRow.lifted==Tryz.prog.liftsFinal)=true:=eqI qpi
theorem qxxb:joinedFacts Tryz.prog 14 Tryz.f14 (OpenSpec.ofChange Rows.topRefusedSpec).bare Rows.topRefusedRow=true:=by
 unfold joinedFacts
 exact andI (andI (andI (andI (andI (andI (andI (andI (andI (andI (andI (andI (andI (andI (andI (andI (andI (andI (andI (andI (andI (andI (andI (andI (andI (andI (andI (andI (andI (andI (andI c1 qph) qo9) c4) c5) rfl) qmr) rfl) qmx) qxyb) cUnf) cRec) qxzb) c14) c15) c16) c17) c17b) c18) c19) c20) c21) cPl) rfl) qm2) qmq) cLi) c24) c25) c26) c27) c28
end Go.Proofs.YtonnjgmognbnbaaGreatDoor.topRefused
