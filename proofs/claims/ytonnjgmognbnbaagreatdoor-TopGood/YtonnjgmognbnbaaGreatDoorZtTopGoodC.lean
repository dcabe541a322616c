/-
  Closed facts of TopGood's row, one a declaration.
-/
import Derived.Test.YtonnjgmognbnbaaGreatDoorCards
import Derived.Test.YtonnjgmognbnbaaGreatDoorZtTpK
namespace Go.Proofs.YtonnjgmognbnbaaGreatDoor.topGood
open Go.ChangeShapes Go.WideShapes Go.ChangeAt Go.RowKit
set_option linter.unusedVariables false
set_option linter.unusedSimpArgs false
set_option maxRecDepth 100000
theorem qxyb:(Rows.topGoodRow.inPlace==Tryz.prog.inPlace 4)=true:=by kernel_rfl
theorem cUnf:(Rows.topGoodRow.unfollowed==Tryz.prog.unfollowed 4)=true:=by kernel_rfl
theorem cRec:(Rows.topGoodRow.recurses==Tryz.prog.recurses 4)=true:=by kernel_rfl
theorem qxzb:(Rows.topGoodRow.named==Tryz.prog.varsNamed 4)=true:=by kernel_rfl
theorem qx1b:false=Rows.topGoodRow.goesBy Tryz.prog:=by kernel_rfl
theorem qx0b:Tryz.prog.mainIs=some (Rows.topGoodCard.stood.harness.1,Rows.topGoodCard.stood.harness.2.toList):=by kernel_rfl
theorem cWf:Rows.topGoodRow.wfByText (OpenSpec.ofChange Rows.topGoodSpec)=true:=by kernel_rfl
theorem c1:Rows.topGoodRow.wf (OpenSpec.ofChange (OpenSpec.ofChange Rows.topGoodSpec).bare)=true:=by kernel_rfl
theorem c4:Tryz.f4.params.all (Tryz.prog.readableRec ·)=true:=by kernel_rfl
theorem c5:namedTie Tryz.prog Rows.topGoodRow.named (OpenSpec.ofChange Rows.topGoodSpec).bare.vars=true:=by kernel_rfl
theorem c14:(Rows.topGoodRow.maps==(Tryz.f4.params.toList++(OpenSpec.ofChange Rows.topGoodSpec).bare.plain.varTypes Tryz.prog).any (Tryz.prog.mapsRec ·))=true:=by kernel_rfl
theorem c15:(Rows.topGoodRow.ifaces==(Tryz.f4.params.toList++(OpenSpec.ofChange Rows.topGoodSpec).bare.plain.varTypes Tryz.prog).any (Tryz.prog.ifacesRec ·))=true:=by kernel_rfl
theorem c16:(Rows.topGoodRow.mapsOut==Tryz.prog.mapsAmong Tryz.f4.resultTypes.toList)=true:=by kernel_rfl
theorem c17:(Rows.topGoodRow.loops==(Tryz.f4.params.toList++(OpenSpec.ofChange Rows.topGoodSpec).bare.plain.varTypes Tryz.prog).any (Tryz.prog.loopsFrom ·))=true:=by kernel_rfl
theorem c17b:(Rows.topGoodRow.wideKeys==(Tryz.f4.params.toList++(OpenSpec.ofChange Rows.topGoodSpec).bare.plain.varTypes Tryz.prog++Tryz.f4.resultTypes.toList).any (Tryz.prog.wideKeysFrom ·))=true:=by kernel_rfl
theorem c18:(OpenSpec.ofChange Rows.topGoodSpec).bare.vars.all (Tryz.prog.varReadable ·)=true:=by kernel_rfl
theorem c19:Tryz.f4.resultTypes.all (fun t=>Tryz.prog.readableRec t&&decide (t<Tryz.prog.types.size))=true:=by kernel_rfl
theorem c20:(Rows.topGoodRow.ifacesOut==Tryz.f4.resultTypes.toList.any (Tryz.prog.ifacesRec ·))=true:=by kernel_rfl
theorem c21:(Rows.topGoodRow.loopsOut==Tryz.f4.resultTypes.toList.any (Tryz.prog.loopsFrom ·))=true:=by kernel_rfl
theorem c24:(Tryz.prog.make==some Rows.topGoodRow.make)=true:=by kernel_rfl
theorem c25:(Rows.topGoodRow.kinds==(if Rows.topGoodRow.domain.isEmpty then [] else Tryz.f4.params.toList.map fun t=>match Tryz.prog.underlying t with|some (.int k)=>some k|_=>none))=true:=by kernel_rfl
theorem c26:(Rows.topGoodRow.pinned==Rows.topGoodRow.pinnedBy)=true:=by kernel_rfl
theorem c27:(Rows.topGoodRow.veiled==(Tryz.f4.params.toList++(OpenSpec.ofChange Rows.topGoodSpec).bare.plain.varTypes Tryz.prog++Tryz.f4.resultTypes.toList).any (Tryz.prog.veiledRec ·))=true:=by kernel_rfl
theorem c28:Rows.topGoodRow.veiledFits Tryz.prog Tryz.f4.params.toList (Tryz.f4.params.toList++(OpenSpec.ofChange Rows.topGoodSpec).bare.plain.varTypes Tryz.prog++Tryz.f4.resultTypes.toList)=true:=by kernel_rfl
theorem cPl:(Rows.topGoodRow.plainKeys==Tryz.prog.plainKeys)=true:=eqI qmz
theorem cLi:(Rows.topGoodRow.lifted==Tryz.prog.liftsFinal)=true:=eqI qpi
theorem qxxb:joinedFacts Tryz.prog 4 Tryz.f4 (OpenSpec.ofChange Rows.topGoodSpec).bare Rows.topGoodRow=true:=by
 unfold joinedFacts
 exact andI (andI (andI (andI (andI (andI (andI (andI (andI (andI (andI (andI (andI (andI (andI (andI (andI (andI (andI (andI (andI (andI (andI (andI (andI (andI (andI (andI (andI (andI (andI c1 qph) qo9) c4) c5) rfl) qmr) rfl) qmx) qxyb) cUnf) cRec) qxzb) c14) c15) c16) c17) c17b) c18) c19) c20) c21) cPl) rfl) qm2) qmq) cLi) c24) c25) c26) c27) c28
end Go.Proofs.YtonnjgmognbnbaaGreatDoor.topGood
