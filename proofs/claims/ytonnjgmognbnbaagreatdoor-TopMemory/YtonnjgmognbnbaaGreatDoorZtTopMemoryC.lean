/-
  Closed facts of TopMemory's row, one a declaration.
-/
import Derived.Test.YtonnjgmognbnbaaGreatDoorCards
import Derived.Test.YtonnjgmognbnbaaGreatDoorZtTpK
namespace Go.Proofs.YtonnjgmognbnbaaGreatDoor.topMemory
open Go.ChangeShapes Go.WideShapes Go.ChangeAt Go.RowKit
set_option linter.unusedVariables false
set_option linter.unusedSimpArgs false
set_option maxRecDepth 100000
theorem qxyb:(Rows.topMemoryRow.inPlace==Tryz.prog.inPlace 16)=true:=by kernel_rfl
theorem cUnf:(Rows.topMemoryRow.unfollowed==Tryz.prog.unfollowed 16)=true:=by kernel_rfl
theorem cRec:(Rows.topMemoryRow.recurses==Tryz.prog.recurses 16)=true:=by kernel_rfl
theorem qxzb:(Rows.topMemoryRow.named==Tryz.prog.varsNamed 16)=true:=by kernel_rfl
theorem qx1b:false=Rows.topMemoryRow.goesBy Tryz.prog:=by kernel_rfl
theorem qx0b:Tryz.prog.mainIs=some (Rows.topMemoryCard.stood.harness.1,Rows.topMemoryCard.stood.harness.2.toList):=by kernel_rfl
theorem cWf:Rows.topMemoryRow.wfByText (OpenSpec.ofChange Rows.topMemorySpec)=true:=by kernel_rfl
theorem c1:Rows.topMemoryRow.wf (OpenSpec.ofChange (OpenSpec.ofChange Rows.topMemorySpec).bare)=true:=by kernel_rfl
theorem c4:Tryz.f16.params.all (Tryz.prog.readableRec ·)=true:=by kernel_rfl
theorem c5:namedTie Tryz.prog Rows.topMemoryRow.named (OpenSpec.ofChange Rows.topMemorySpec).bare.vars=true:=by kernel_rfl
theorem c14:(Rows.topMemoryRow.maps==(Tryz.f16.params.toList++(OpenSpec.ofChange Rows.topMemorySpec).bare.plain.varTypes Tryz.prog).any (Tryz.prog.mapsRec ·))=true:=by kernel_rfl
theorem c15:(Rows.topMemoryRow.ifaces==(Tryz.f16.params.toList++(OpenSpec.ofChange Rows.topMemorySpec).bare.plain.varTypes Tryz.prog).any (Tryz.prog.ifacesRec ·))=true:=by kernel_rfl
theorem c16:(Rows.topMemoryRow.mapsOut==Tryz.prog.mapsAmong Tryz.f16.resultTypes.toList)=true:=by kernel_rfl
theorem c17:(Rows.topMemoryRow.loops==(Tryz.f16.params.toList++(OpenSpec.ofChange Rows.topMemorySpec).bare.plain.varTypes Tryz.prog).any (Tryz.prog.loopsFrom ·))=true:=by kernel_rfl
theorem c17b:(Rows.topMemoryRow.wideKeys==(Tryz.f16.params.toList++(OpenSpec.ofChange Rows.topMemorySpec).bare.plain.varTypes Tryz.prog++Tryz.f16.resultTypes.toList).any (Tryz.prog.wideKeysFrom ·))=true:=by kernel_rfl
theorem c18:(OpenSpec.ofChange Rows.topMemorySpec).bare.vars.all (Tryz.prog.varReadable ·)=true:=by kernel_rfl
theorem c19:Tryz.f16.resultTypes.all (fun t=>Tryz.prog.readableRec t&&decide (t<Tryz.prog.types.size))=true:=by kernel_rfl
theorem c20:(Rows.topMemoryRow.ifacesOut==Tryz.f16.resultTypes.toList.any (Tryz.prog.ifacesRec ·))=true:=by kernel_rfl
theorem c21:(Rows.topMemoryRow.loopsOut==Tryz.f16.resultTypes.toList.any (Tryz.prog.loopsFrom ·))=true:=by kernel_rfl
theorem c24:(Tryz.prog.make==some Rows.topMemoryRow.make)=true:=by kernel_rfl
theorem c25:(Rows.topMemoryRow.kinds==(if Rows.topMemoryRow.domain.isEmpty then [] else Tryz.f16.params.toList.map fun t=>match Tryz.prog.underlying t with|some (.int k)=>some k|_=>none))=true:=by kernel_rfl
theorem c26:(Rows.topMemoryRow.pinned==Rows.topMemoryRow.pinnedBy)=true:=by kernel_rfl
theorem c27:(Rows.topMemoryRow.veiled==(Tryz.f16.params.toList++(OpenSpec.ofChange Rows.topMemorySpec).bare.plain.varTypes Tryz.prog++Tryz.f16.resultTypes.toList).any (Tryz.prog.veiledRec ·))=true:=by kernel_rfl
theorem c28:Rows.topMemoryRow.veiledFits Tryz.prog Tryz.f16.params.toList (Tryz.f16.params.toList++(OpenSpec.ofChange Rows.topMemorySpec).bare.plain.varTypes Tryz.prog++Tryz.f16.resultTypes.toList)=true:=by kernel_rfl
theorem cPl:(Rows.topMemoryRow.plainKeys==Tryz.prog.plainKeys)=true:=eqI qmz
theorem cLi:(Rows.topMemoryRow.lifted==Tryz.prog.liftsFinal)=true:=eqI qpi
theorem qxxb:joinedFacts Tryz.prog 16 Tryz.f16 (OpenSpec.ofChange Rows.topMemorySpec).bare Rows.topMemoryRow=true:=by
 unfold joinedFacts
 exact andI (andI (andI (andI (andI (andI (andI (andI (andI (andI (andI (andI (andI (andI (andI (andI (andI (andI (andI (andI (andI (andI (andI (andI (andI (andI (andI (andI (andI (andI (andI c1 qph) qo9) c4) c5) rfl) qmr) rfl) qmx) qxyb) cUnf) cRec) qxzb) c14) c15) c16) c17) c17b) c18) c19) c20) c21) cPl) rfl) qm2) qmq) cLi) c24) c25) c26) c27) c28
end Go.Proofs.YtonnjgmognbnbaaGreatDoor.topMemory
