/-
  Closed facts of TopOut's row, one a declaration.
-/
import Derived.Test.YtonnjgmognbnbaaGreatDoorCards
import Derived.Test.YtonnjgmognbnbaaGreatDoorZtTpK
namespace Go.Proofs.YtonnjgmognbnbaaGreatDoor.topOut
open Go.ChangeShapes Go.WideShapes Go.ChangeAt Go.RowKit
set_option linter.unusedVariables false
set_option linter.unusedSimpArgs false
set_option maxRecDepth 100000
theorem qxyb:(Rows.topOutRow.inPlace==Tryz.prog.inPlace 6)=true:=by kernel_rfl
theorem cUnf:(Rows.topOutRow.unfollowed==Tryz.prog.unfollowed 6)=true:=by kernel_rfl
theorem cRec:(Rows.topOutRow.recurses==Tryz.prog.recurses 6)=true:=by kernel_rfl
theorem qxzb:(Rows.topOutRow.named==Tryz.prog.varsNamed 6)=true:=by kernel_rfl
theorem qx1b:false=Rows.topOutRow.goesBy Tryz.prog:=by kernel_rfl
theorem qx0b:Tryz.prog.mainIs=some (Rows.topOutCard.stood.harness.1,Rows.topOutCard.stood.harness.2.toList):=by kernel_rfl
theorem cWf:Rows.topOutRow.wfByText (OpenSpec.ofChange Rows.topOutSpec)=true:=by kernel_rfl
theorem c1:Rows.topOutRow.wf (OpenSpec.ofChange (OpenSpec.ofChange Rows.topOutSpec).bare)=true:=by kernel_rfl
theorem c4:Tryz.f6.params.all (Tryz.prog.readableRec ·)=true:=by kernel_rfl
theorem c5:namedTie Tryz.prog Rows.topOutRow.named (OpenSpec.ofChange Rows.topOutSpec).bare.vars=true:=by kernel_rfl
theorem c14:(Rows.topOutRow.maps==(Tryz.f6.params.toList++(OpenSpec.ofChange Rows.topOutSpec).bare.plain.varTypes Tryz.prog).any (Tryz.prog.mapsRec ·))=true:=by kernel_rfl
theorem c15:(Rows.topOutRow.ifaces==(Tryz.f6.params.toList++(OpenSpec.ofChange Rows.topOutSpec).bare.plain.varTypes Tryz.prog).any (Tryz.prog.ifacesRec ·))=true:=by kernel_rfl
theorem c16:(Rows.topOutRow.mapsOut==Tryz.prog.mapsAmong Tryz.f6.resultTypes.toList)=true:=by kernel_rfl
theorem c17:(Rows.topOutRow.loops==(Tryz.f6.params.toList++(OpenSpec.ofChange Rows.topOutSpec).bare.plain.varTypes Tryz.prog).any (Tryz.prog.loopsFrom ·))=true:=by kernel_rfl
theorem c17b:(Rows.topOutRow.wideKeys==(Tryz.f6.params.toList++(OpenSpec.ofChange Rows.topOutSpec).bare.plain.varTypes Tryz.prog++Tryz.f6.resultTypes.toList).any (Tryz.prog.wideKeysFrom ·))=true:=by kernel_rfl
theorem c18:(OpenSpec.ofChange Rows.topOutSpec).bare.vars.all (Tryz.prog.varReadable ·)=true:=by kernel_rfl
theorem c19:Tryz.f6.resultTypes.all (fun t=>Tryz.prog.readableRec t&&decide (t<Tryz.prog.types.size))=true:=by kernel_rfl
theorem c20:(Rows.topOutRow.ifacesOut==Tryz.f6.resultTypes.toList.any (Tryz.prog.ifacesRec ·))=true:=by kernel_rfl
theorem c21:(Rows.topOutRow.loopsOut==Tryz.f6.resultTypes.toList.any (Tryz.prog.loopsFrom ·))=true:=by kernel_rfl
theorem c24:(Tryz.prog.make==some Rows.topOutRow.make)=true:=by kernel_rfl
theorem c25:(Rows.topOutRow.kinds==(if Rows.topOutRow.domain.isEmpty then [] else Tryz.f6.params.toList.map fun t=>match Tryz.prog.underlying t with|some (.int k)=>some k|_=>none))=true:=by kernel_rfl
theorem c26:(Rows.topOutRow.pinned==Rows.topOutRow.pinnedBy)=true:=by kernel_rfl
theorem c27:(Rows.topOutRow.veiled==(Tryz.f6.params.toList++(OpenSpec.ofChange Rows.topOutSpec).bare.plain.varTypes Tryz.prog++Tryz.f6.resultTypes.toList).any (Tryz.prog.veiledRec ·))=true:=by kernel_rfl
theorem c28:Rows.topOutRow.veiledFits Tryz.prog Tryz.f6.params.toList (Tryz.f6.params.toList++(OpenSpec.ofChange Rows.topOutSpec).bare.plain.varTypes Tryz.prog++Tryz.f6.resultTypes.toList)=true:=by kernel_rfl
theorem cPl:(Rows.topOutRow.plainKeys==Tryz.prog.plainKeys)=true:=eqI qmz
theorem cLi:(Rows.topOutRow.lifted==Tryz.prog.liftsFinal)=true:=eqI qpi
theorem qxxb:joinedFacts Tryz.prog 6 Tryz.f6 (OpenSpec.ofChange Rows.topOutSpec).bare Rows.topOutRow=true:=by
 unfold joinedFacts
 exact andI (andI (andI (andI (andI (andI (andI (andI (andI (andI (andI (andI (andI (andI (andI (andI (andI (andI (andI (andI (andI (andI (andI (andI (andI (andI (andI (andI (andI (andI (andI c1 qph) qo9) c4) c5) rfl) qmr) rfl) qmx) qxyb) cUnf) cRec) qxzb) c14) c15) c16) c17) c17b) c18) c19) c20) c21) cPl) rfl) qm2) qmq) cLi) c24) c25) c26) c27) c28
end Go.Proofs.YtonnjgmognbnbaaGreatDoor.topOut
