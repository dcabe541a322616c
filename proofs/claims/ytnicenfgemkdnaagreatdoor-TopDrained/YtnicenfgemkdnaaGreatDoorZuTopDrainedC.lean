/-
  Closed facts of TopDrained's row, one a declaration.
-/
import Derived.Test.YtnicenfgemkdnaaGreatDoorCards
import Derived.Test.YtnicenfgemkdnaaGreatDoorZuTpK
namespace Go.Proofs.YtnicenfgemkdnaaGreatDoor.topDrained
open Go.ChangeShapes Go.WideShapes Go.ChangeAt Go.RowKit
set_option linter.unusedVariables false
set_option linter.unusedSimpArgs false
set_option maxRecDepth 100000
theorem cPlace:(Rows.topDrainedRow.inPlace == Tryz.prog.inPlace 10)=true:=by kernel_rfl
theorem cUnf:(Rows.topDrainedRow.unfollowed == Tryz.prog.unfollowed 10)=true:=by kernel_rfl
theorem cRec:(Rows.topDrainedRow.recurses == Tryz.prog.recurses 10)=true:=by kernel_rfl
theorem cNamed:(Rows.topDrainedRow.named == Tryz.prog.varsNamed 10)=true:=by kernel_rfl
theorem cGoes:false=Rows.topDrainedRow.goesBy Tryz.prog:=by kernel_rfl
theorem cMain:Tryz.prog.mainIs=some (Rows.topDrainedCard.stood.harness.1,Rows.topDrainedCard.stood.harness.2.toList):=by kernel_rfl
theorem cWf:Rows.topDrainedRow.wfByText (OpenSpec.ofChange Rows.topDrainedSpec)=true:=by kernel_rfl
theorem c1:Rows.topDrainedRow.wf (OpenSpec.ofChange (OpenSpec.ofChange Rows.topDrainedSpec).bare)=true:=by kernel_rfl
theorem c4:Tryz.f10.params.all (Tryz.prog.readableRec ·)=true:=by kernel_rfl
theorem c5:namedTie Tryz.prog Rows.topDrainedRow.named (OpenSpec.ofChange Rows.topDrainedSpec).bare.vars=true:=by kernel_rfl
theorem c14:(Rows.topDrainedRow.maps == (Tryz.f10.params.toList++(OpenSpec.ofChange Rows.topDrainedSpec).bare.plain.varTypes Tryz.prog).any (Tryz.prog.mapsRec ·))=true:=by kernel_rfl
theorem c15:(Rows.topDrainedRow.ifaces == (Tryz.f10.params.toList++(OpenSpec.ofChange Rows.topDrainedSpec).bare.plain.varTypes Tryz.prog).any (Tryz.prog.ifacesRec ·))=true:=by kernel_rfl
theorem c16:(Rows.topDrainedRow.mapsOut == Tryz.prog.mapsAmong Tryz.f10.resultTypes.toList)=true:=by kernel_rfl
theorem c17:(Rows.topDrainedRow.loops == (Tryz.f10.params.toList++(OpenSpec.ofChange Rows.topDrainedSpec).bare.plain.varTypes Tryz.prog).any (Tryz.prog.loopsFrom ·))=true:=by kernel_rfl
theorem c17b:(Rows.topDrainedRow.wideKeys == (Tryz.f10.params.toList++(OpenSpec.ofChange Rows.topDrainedSpec).bare.plain.varTypes Tryz.prog++Tryz.f10.resultTypes.toList).any (Tryz.prog.wideKeysFrom ·))=true:=by kernel_rfl
theorem c18:(OpenSpec.ofChange Rows.topDrainedSpec).bare.vars.all (Tryz.prog.varReadable ·)=true:=by kernel_rfl
theorem c19:Tryz.f10.resultTypes.all (fun t=>Tryz.prog.readableRec t && decide (t<Tryz.prog.types.size))=true:=by kernel_rfl
theorem c20:(Rows.topDrainedRow.ifacesOut == Tryz.f10.resultTypes.toList.any (Tryz.prog.ifacesRec ·))=true:=by kernel_rfl
theorem c21:(Rows.topDrainedRow.loopsOut == Tryz.f10.resultTypes.toList.any (Tryz.prog.loopsFrom ·))=true:=by kernel_rfl
theorem c24:(Tryz.prog.make == some Rows.topDrainedRow.make)=true:=by kernel_rfl
theorem c25:(Rows.topDrainedRow.kinds == (if Rows.topDrainedRow.domain.isEmpty then [] else Tryz.f10.params.toList.map fun t=>match Tryz.prog.underlying t with|some (.int k)=>some k|_=>none))=true:=by kernel_rfl
theorem c26:(Rows.topDrainedRow.pinned == Rows.topDrainedRow.pinnedBy)=true:=by kernel_rfl
theorem c27:(Rows.topDrainedRow.veiled == (Tryz.f10.params.toList++(OpenSpec.ofChange Rows.topDrainedSpec).bare.plain.varTypes Tryz.prog++Tryz.f10.resultTypes.toList).any (Tryz.prog.veiledRec ·))=true:=by kernel_rfl
theorem c28:Rows.topDrainedRow.veiledFits Tryz.prog Tryz.f10.params.toList (Tryz.f10.params.toList++(OpenSpec.ofChange Rows.topDrainedSpec).bare.plain.varTypes Tryz.prog++Tryz.f10.resultTypes.toList)=true:=by kernel_rfl
theorem cPl:(Rows.topDrainedRow.plainKeys == Tryz.prog.plainKeys)=true:=eqI qmz
theorem cLi:(Rows.topDrainedRow.lifted == Tryz.prog.liftsFinal)=true:=eqI qpi
theorem closed:joinedFacts Tryz.prog 10 Tryz.f10 (OpenSpec.ofChange Rows.topDrainedSpec).bare Rows.topDrainedRow=true:=by
 unfold joinedFacts
 exact andI (andI (andI (andI (andI (andI (andI (andI (andI (andI (andI (andI (andI (andI (andI (andI (andI (andI (andI (andI (andI (andI (andI (andI (andI (andI (andI (andI (andI (andI (andI c1 qph) qo9) c4) c5) rfl) qmr) rfl) qmx) cPlace) cUnf) cRec) cNamed) c14) c15) c16) c17) c17b) c18) c19) c20) c21) cPl) rfl) qm2) qmq) cLi) c24) c25) c26) c27) c28
end Go.Proofs.YtnicenfgemkdnaaGreatDoor.topDrained
