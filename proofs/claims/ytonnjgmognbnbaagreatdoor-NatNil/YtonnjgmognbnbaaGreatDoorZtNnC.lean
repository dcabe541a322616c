/-
  Closed facts of NatNil's row, one a declaration.
-/
import Derived.Test.YtonnjgmognbnbaaGreatDoorCards
import Derived.Test.YtonnjgmognbnbaaGreatDoorZtNnK
namespace Go.Proofs.YtonnjgmognbnbaaGreatDoor.natNil
open Go.ChangeShapes Go.WideShapes Go.ChangeAt Go.RowKit
set_option linter.unusedVariables false
set_option linter.unusedSimpArgs false
set_option maxRecDepth 100000
theorem cPlace:(Rows.natNilRow.inPlace==Tryz.prog.inPlace 3)=true:=by kernel_rfl
theorem cUnf:(Rows.natNilRow.unfollowed==Tryz.prog.unfollowed 3)=true:=by kernel_rfl
theorem cRec:(Rows.natNilRow.recurses==Tryz.prog.recurses 3)=true:=by kernel_rfl
theorem cNamed:(Rows.natNilRow.named==Tryz.prog.varsNamed 3)=true:=by kernel_rfl
theorem cGoes:false=Rows.natNilRow.goesBy Tryz.prog:=by kernel_rfl
theorem cMain:Tryz.prog.mainIs=some (Rows.natNilCard.stood.harness.1,Rows.natNilCard.stood.harness.2.toList):=by kernel_rfl
theorem cWf:Rows.natNilRow.wfByText (OpenSpec.ofChange Rows.natNilSpec)=true:=by kernel_rfl
theorem c1:Rows.natNilRow.wf (OpenSpec.ofChange (OpenSpec.ofChange Rows.natNilSpec).bare)=true:=by kernel_rfl
theorem c4:Tryz.f3.params.all (Tryz.prog.readableRec ·)=true:=by kernel_rfl
theorem c5:namedTie Tryz.prog Rows.natNilRow.named (OpenSpec.ofChange Rows.natNilSpec).bare.vars=true:=by kernel_rfl
theorem c14:(Rows.natNilRow.maps==(Tryz.f3.params.toList++(OpenSpec.ofChange Rows.natNilSpec).bare.plain.varTypes Tryz.prog).any (Tryz.prog.mapsRec ·))=true:=by kernel_rfl
theorem c15:(Rows.natNilRow.ifaces==(Tryz.f3.params.toList++(OpenSpec.ofChange Rows.natNilSpec).bare.plain.varTypes Tryz.prog).any (Tryz.prog.ifacesRec ·))=true:=by kernel_rfl
theorem c16:(Rows.natNilRow.mapsOut==Tryz.prog.mapsAmong Tryz.f3.resultTypes.toList)=true:=by kernel_rfl
theorem c17:(Rows.natNilRow.loops==(Tryz.f3.params.toList++(OpenSpec.ofChange Rows.natNilSpec).bare.plain.varTypes Tryz.prog).any (Tryz.prog.loopsFrom ·))=true:=by kernel_rfl
theorem c17b:(Rows.natNilRow.wideKeys==(Tryz.f3.params.toList++(OpenSpec.ofChange Rows.natNilSpec).bare.plain.varTypes Tryz.prog++Tryz.f3.resultTypes.toList).any (Tryz.prog.wideKeysFrom ·))=true:=by kernel_rfl
theorem c18:(OpenSpec.ofChange Rows.natNilSpec).bare.vars.all (Tryz.prog.varReadable ·)=true:=by kernel_rfl
theorem c19:Tryz.f3.resultTypes.all (fun t=>Tryz.prog.readableRec t&&decide (t<Tryz.prog.types.size))=true:=by kernel_rfl
theorem c20:(Rows.natNilRow.ifacesOut==Tryz.f3.resultTypes.toList.any (Tryz.prog.ifacesRec ·))=true:=by kernel_rfl
theorem c21:(Rows.natNilRow.loopsOut==Tryz.f3.resultTypes.toList.any (Tryz.prog.loopsFrom ·))=true:=by kernel_rfl
theorem c24:(Tryz.prog.make==some Rows.natNilRow.make)=true:=by kernel_rfl
theorem c25:(Rows.natNilRow.kinds==(if Rows.natNilRow.domain.isEmpty then [] else Tryz.f3.params.toList.map fun t=>match Tryz.prog.underlying t with|some (.int k)=>some k|_=>none))=true:=by kernel_rfl
theorem c26:(Rows.natNilRow.pinned==Rows.natNilRow.pinnedBy)=true:=by kernel_rfl
theorem c27:(Rows.natNilRow.veiled==(Tryz.f3.params.toList++(OpenSpec.ofChange Rows.natNilSpec).bare.plain.varTypes Tryz.prog++Tryz.f3.resultTypes.toList).any (Tryz.prog.veiledRec ·))=true:=by kernel_rfl
theorem c28:Rows.natNilRow.veiledFits Tryz.prog Tryz.f3.params.toList (Tryz.f3.params.toList++(OpenSpec.ofChange Rows.natNilSpec).bare.plain.varTypes Tryz.prog++Tryz.f3.resultTypes.toList)=true:=by kernel_rfl
theorem cPl:(Rows.natNilRow.plainKeys==Tryz.prog.plainKeys)=true:=eqI qmz
theorem cLi:(Rows.natNilRow.lifted==Tryz.prog.liftsFinal)=true:=eqI qpi
theorem closed:joinedFacts Tryz.prog 3 Tryz.f3 (OpenSpec.ofChange Rows.natNilSpec).bare Rows.natNilRow=true:=by
 unfold joinedFacts
 exact andI (andI (andI (andI (andI (andI (andI (andI (andI (andI (andI (andI (andI (andI (andI (andI (andI (andI (andI (andI (andI (andI (andI (andI (andI (andI (andI (andI (andI (andI (andI c1 qph) qo9) c4) c5) rfl) qmr) rfl) qmx) cPlace) cUnf) cRec) cNamed) c14) c15) c16) c17) c17b) c18) c19) c20) c21) cPl) rfl) qm2) qmq) cLi) c24) c25) c26) c27) c28
end Go.Proofs.YtonnjgmognbnbaaGreatDoor.natNil
