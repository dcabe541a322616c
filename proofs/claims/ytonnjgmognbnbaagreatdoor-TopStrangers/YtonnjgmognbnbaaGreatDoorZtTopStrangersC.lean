/-
  Closed facts of TopStrangers's row, one a declaration.
-/
import Derived.Test.YtonnjgmognbnbaaGreatDoorCards
import Derived.Test.YtonnjgmognbnbaaGreatDoorZtTpK
namespace Go.Proofs.YtonnjgmognbnbaaGreatDoor.topStrangers
open Go.ChangeShapes Go.WideShapes Go.ChangeAt Go.RowKit
set_option linter.unusedVariables false
set_option linter.unusedSimpArgs false
set_option maxRecDepth 100000
theorem qxyb:(Rows.topStrangersRow.inPlace==Tryz.prog.inPlace 9)=true:=by kernel_rfl
theorem cUnf:(Rows.topStrangersRow.unfollowed==Tryz.prog.unfollowed 9)=true:=by kernel_rfl
theorem cRec:(Rows.topStrangersRow.recurses==Tryz.prog.recurses 9)=true:=by kernel_rfl
theorem qxzb:(Rows.topStrangersRow.named==Tryz.prog.varsNamed 9)=true:=by kernel_rfl
theorem qx1b:false=Rows.topStrangersRow.goesBy Tryz.prog:=by kernel_rfl
theorem qx0b:Tryz.prog.mainIs=some (Rows.topStrangersCard.stood.harness.1,Rows.topStrangersCard.stood.harness.2.toList):=by kernel_rfl
theorem cWf:Rows.topStrangersRow.wfByText (OpenSpec.ofChange Rows.topStrangersSpec)=true:=by kernel_rfl
theorem c1:Rows.topStrangersRow.wf (OpenSpec.ofChange (OpenSpec.ofChange Rows.topStrangersSpec).bare)=true:=by kernel_rfl
theorem c4:Tryz.f9.params.all (Tryz.prog.readableRec ·)=true:=by kernel_rfl
theorem c5:namedTie Tryz.prog Rows.topStrangersRow.named (OpenSpec.ofChange Rows.topStrangersSpec).bare.vars=true:=by kernel_rfl
theorem c14:(Rows.topStrangersRow.maps==(Tryz.f9.params.toList++(OpenSpec.ofChange Rows.topStrangersSpec).bare.plain.varTypes Tryz.prog).any (Tryz.prog.mapsRec ·))=true:=by kernel_rfl
theorem c15:(Rows.topStrangersRow.ifaces==(Tryz.f9.params.toList++(OpenSpec.ofChange Rows.topStrangersSpec).bare.plain.varTypes Tryz.prog).any (Tryz.prog.ifacesRec ·))=true:=by kernel_rfl
theorem c16:(Rows.topStrangersRow.mapsOut==Tryz.prog.mapsAmong Tryz.f9.resultTypes.toList)=true:=by kernel_rfl
theorem c17:(Rows.topStrangersRow.loops==(Tryz.f9.params.toList++(OpenSpec.ofChange Rows.topStrangersSpec).bare.plain.varTypes Tryz.prog).any (Tryz.prog.loopsFrom ·))=true:=by kernel_rfl
theorem c17b:(Rows.topStrangersRow.wideKeys==(Tryz.f9.params.toList++(OpenSpec.ofChange Rows.topStrangersSpec).bare.plain.varTypes Tryz.prog++Tryz.f9.resultTypes.toList).any (Tryz.prog.wideKeysFrom ·))=true:=by kernel_rfl
theorem c18:(OpenSpec.ofChange Rows.topStrangersSpec).bare.vars.all (Tryz.prog.varReadable ·)=true:=by kernel_rfl
theorem c19:Tryz.f9.resultTypes.all (fun t=>Tryz.prog.readableRec t&&decide (t<Tryz.prog.types.size))=true:=by kernel_rfl
theorem c20:(Rows.topStrangersRow.ifacesOut==Tryz.f9.resultTypes.toList.any (Tryz.prog.ifacesRec ·))=true:=by kernel_rfl
theorem c21:(Rows.topStrangersRow.loopsOut==Tryz.f9.resultTypes.toList.any (Tryz.prog.loopsFrom ·))=true:=by kernel_rfl
theorem c24:(Tryz.prog.make==some Rows.topStrangersRow.make)=true:=by kernel_rfl
theorem c25:(Rows.topStrangersRow.kinds==(if Rows.topStrangersRow.domain.isEmpty then [] else Tryz.f9.params.toList.map fun t=>match Tryz.prog.underlying t with|some (.int k)=>some k|_=>none))=true:=by kernel_rfl
theorem c26:(Rows.topStrangersRow.pinned==Rows.topStrangersRow.pinnedBy)=true:=by kernel_rfl
theorem c27:(Rows.topStrangersRow.veiled==(Tryz.f9.params.toList++(OpenSpec.ofChange Rows.topStrangersSpec).bare.plain.varTypes Tryz.prog++Tryz.f9.resultTypes.toList).any (Tryz.prog.veiledRec ·))=true:=by kernel_rfl
theorem c28:Rows.topStrangersRow.veiledFits Tryz.prog Tryz.f9.params.toList (Tryz.f9.params.toList++(OpenSpec.ofChange Rows.topStrangersSpec).bare.plain.varTypes Tryz.prog++Tryz.f9.resultTypes.toList)=true:=by kernel_rfl
theorem cPl:(Rows.topStrangersRow.plainKeys==Tryz.prog.plainKeys)=true:=eqI qmz
theorem cLi:(Rows.topStrangersRow.lifted==Tryz.prog.liftsFinal)=true:=eqI qpi
theorem qxxb:joinedFacts Tryz.prog 9 Tryz.f9 (OpenSpec.ofChange Rows.topStrangersSpec).bare Rows.topStrangersRow=true:=by
 unfold joinedFacts
 exact andI (andI (andI (andI (andI (andI (andI (andI (andI (andI (andI (andI (andI (andI (andI (andI (andI (andI (andI (andI (andI (andI (andI (andI (andI (andI (andI (andI (andI (andI (andI c1 qph) qo9) c4) c5) rfl) qmr) rfl) qmx) qxyb) cUnf) cRec) qxzb) c14) c15) c16) c17) c17b) c18) c19) c20) c21) cPl) rfl) qm2) qmq) cLi) c24) c25) c26) c27) c28
end Go.Proofs.YtonnjgmognbnbaaGreatDoor.topStrangers
