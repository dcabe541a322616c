/-
  Closed facts of TopQuiet's row, one a declaration.
-/
import Derived.Test.YtonnjgmognbnbaaGreatDoorCards
import Derived.Test.YtonnjgmognbnbaaGreatDoorZtTpK
namespace Go.Proofs.YtonnjgmognbnbaaGreatDoor.topQuiet
open Go.ChangeShapes Go.WideShapes Go.ChangeAt Go.RowKit
set_option linter.unusedVariables false
set_option linter.unusedSimpArgs false
set_option maxRecDepth 100000
theorem qxyb:(Rows.topQuietRow.inPlace==Tryz.prog.inPlace 10)=true:=by kernel_rfl
theorem cUnf:(Rows.topQuietRow.unfollowed==Tryz.prog.unfollowed 10)=true:=by kernel_rfl
theorem cRec:(Rows.topQuietRow.recurses==Tryz.prog.recurses 10)=true:=by kernel_rfl
theorem qxzb:(Rows.topQuietRow.named==Tryz.prog.varsNamed 10)=true:=by kernel_rfl
theorem qx1b:false=Rows.topQuietRow.goesBy Tryz.prog:=by kernel_rfl
theorem qx0b:Tryz.prog.mainIs=some (Rows.topQuietCard.stood.harness.1,Rows.topQuietCard.stood.harness.2.toList):=by kernel_rfl
theorem cWf:Rows.topQuietRow.wfByText (OpenSpec.ofChange Rows.topQuietSpec)=true:=by kernel_rfl
theorem c1:Rows.topQuietRow.wf (OpenSpec.ofChange (OpenSpec.ofChange Rows.topQuietSpec).bare)=true:=by kernel_rfl
theorem c4:Tryz.f10.params.all (Tryz.prog.readableRec ·)=true:=by kernel_rfl
theorem c5:namedTie Tryz.prog Rows.topQuietRow.named (OpenSpec.ofChange Rows.topQuietSpec).bare.vars=true:=by kernel_rfl
theorem c14:(Rows.topQuietRow.maps==(Tryz.f10.params.toList++(OpenSpec.ofChange Rows.topQuietSpec).bare.plain.varTypes Tryz.prog).any (Tryz.prog.mapsRec ·))=true:=by kernel_rfl
theorem c15:(Rows.topQuietRow.ifaces==(Tryz.f10.params.toList++(OpenSpec.ofChange Rows.topQuietSpec).bare.plain.varTypes Tryz.prog).any (Tryz.prog.ifacesRec ·))=true:=by kernel_rfl
theorem c16:(Rows.topQuietRow.mapsOut==Tryz.prog.mapsAmong Tryz.f10.resultTypes.toList)=true:=by kernel_rfl
theorem c17:(Rows.topQuietRow.loops==(Tryz.f10.params.toList++(OpenSpec.ofChange Rows.topQuietSpec).bare.plain.varTypes Tryz.prog).any (Tryz.prog.loopsFrom ·))=true:=by kernel_rfl
theorem c17b:(Rows.topQuietRow.wideKeys==(Tryz.f10.params.toList++(OpenSpec.ofChange Rows.topQuietSpec).bare.plain.varTypes Tryz.prog++Tryz.f10.resultTypes.toList).any (Tryz.prog.wideKeysFrom ·))=true:=by kernel_rfl
theorem c18:(OpenSpec.ofChange Rows.topQuietSpec).bare.vars.all (Tryz.prog.varReadable ·)=true:=by kernel_rfl
theorem c19:Tryz.f10.resultTypes.all (fun t=>Tryz.prog.readableRec t&&decide (t<Tryz.prog.types.size))=true:=by kernel_rfl
theorem c20:(Rows.topQuietRow.ifacesOut==Tryz.f10.resultTypes.toList.any (Tryz.prog.ifacesRec ·))=true:=by kernel_rfl
theorem c21:(Rows.topQuietRow.loopsOut==Tryz.f10.resultTypes.toList.any (Tryz.prog.loopsFrom ·))=true:=by kernel_rfl
theorem c24:(Tryz.prog.make==some Rows.topQuietRow.make)=true:=by kernel_rfl
theorem c25:(Rows.topQuietRow.kinds==(if Rows.topQuietRow.domain.isEmpty then [] else Tryz.f10.params.toList.map fun t=>match Tryz.prog.underlying t with|some (.int k)=>some k|_=>none))=true:=by kernel_rfl
theorem c26:(Rows.topQuietRow.pinned==Rows.topQuietRow.pinnedBy)=true:=by kernel_rfl
theorem c27:(Rows.topQuietRow.veiled==(Tryz.f10.params.toList++(OpenSpec.ofChange Rows.topQuietSpec).bare.plain.varTypes Tryz.prog++Tryz.f10.resultTypes.toList).any (Tryz.prog.veiledRec ·))=true:=by kernel_rfl
theorem c28:Rows.topQuietRow.veiledFits Tryz.prog Tryz.f10.params.toList (Tryz.f10.params.toList++(OpenSpec.ofChange Rows.topQuietSpec).bare.plain.varTypes Tryz.prog++Tryz.f10.resultTypes.toList)=true:=by kernel_rfl
theorem cPl:(Rows.topQuietRow.plainKeys==Tryz.prog.plainKeys)=true:=eqI qmz
theorem cLi:(Rows.topQuietRow.lifted==Tryz.prog.liftsFinal)=true:=eqI qpi
theorem qxxb:joinedFacts Tryz.prog 10 Tryz.f10 (OpenSpec.ofChange Rows.topQuietSpec).bare Rows.topQuietRow=true:=by
 unfold joinedFacts
 exact andI (andI (andI (andI (andI (andI (andI (andI (andI (andI (andI (andI (andI (andI (andI (andI (andI (andI (andI (andI (andI (andI (andI (andI (andI (andI (andI (andI (andI (andI (andI c1 qph) qo9) c4) c5) rfl) qmr) rfl) qmx) qxyb) cUnf) cRec) qxzb) c14) c15) c16) c17) c17b) c18) c19) c20) c21) cPl) rfl) qm2) qmq) cLi) c24) c25) c26) c27) c28
end Go.Proofs.YtonnjgmognbnbaaGreatDoor.topQuiet
