/-
  Closed facts of NatRuns's row, one a declaration.
-/
import Derived.Test.YtnkpgdejagglaaaGreatDoorCards
import Derived.Test.YtnkpgdejagglaaaGreatDoorZyk5
namespace Go.Proofs.YtnkpgdejagglaaaGreatDoor.natRuns
open Go.ChangeShapes Go.WideShapes Go.ChangeAt Go.RowKit
set_option linter.unusedVariables false
set_option linter.unusedSimpArgs false
set_option maxRecDepth 100000
theorem uR:(Rows.natRunsRow.inPlace==Tryz.prog.inPlace 4)=true:=by kernel_rfl
theorem IW:(Rows.natRunsRow.unfollowed==Tryz.prog.unfollowed 4)=true:=by kernel_rfl
theorem IY:(Rows.natRunsRow.recurses==Tryz.prog.recurses 4)=true:=by kernel_rfl
theorem uS:(Rows.natRunsRow.named==Tryz.prog.varsNamed 4)=true:=by kernel_rfl
theorem zT:false=Rows.natRunsRow.goesBy Tryz.prog:=by kernel_rfl
theorem zS:Tryz.prog.mainIs=some (Rows.natRunsCard.stood.harness.1,Rows.natRunsCard.stood.harness.2.toList):=by kernel_rfl
theorem Xv:Rows.natRunsRow.wfByText (OpenSpec.ofChange Rows.natRunsSpec)=true:=by kernel_rfl
theorem c1:Rows.natRunsRow.wf (OpenSpec.ofChange (OpenSpec.ofChange Rows.natRunsSpec).bare)=true:=by kernel_rfl
theorem c4:Tryz.f4.params.all (Tryz.prog.readableRec ·)=true:=by kernel_rfl
theorem c5:namedTie Tryz.prog Rows.natRunsRow.named (OpenSpec.ofChange Rows.natRunsSpec).bare.vars=true:=by kernel_rfl
theorem mG:(Rows.natRunsRow.maps==(Tryz.f4.params.toList++(OpenSpec.ofChange Rows.natRunsSpec).bare.plain.varTypes Tryz.prog).any (Tryz.prog.mapsRec ·))=true:=by kernel_rfl
theorem zU:(Rows.natRunsRow.ifaces==(Tryz.f4.params.toList++(OpenSpec.ofChange Rows.natRunsSpec).bare.plain.varTypes Tryz.prog).any (Tryz.prog.ifacesRec ·))=true:=by kernel_rfl
theorem wE:(Rows.natRunsRow.mapsOut==Tryz.prog.mapsAmong Tryz.f4.resultTypes.toList)=true:=by kernel_rfl
theorem Xw:(Rows.natRunsRow.loops==(Tryz.f4.params.toList++(OpenSpec.ofChange Rows.natRunsSpec).bare.plain.varTypes Tryz.prog).any (Tryz.prog.loopsFrom ·))=true:=by kernel_rfl
theorem IZ:(Rows.natRunsRow.wideKeys==(Tryz.f4.params.toList++(OpenSpec.ofChange Rows.natRunsSpec).bare.plain.varTypes Tryz.prog++Tryz.f4.resultTypes.toList).any (Tryz.prog.wideKeysFrom ·))=true:=by kernel_rfl
theorem Xx:(OpenSpec.ofChange Rows.natRunsSpec).bare.vars.all (Tryz.prog.varReadable ·)=true:=by kernel_rfl
theorem Xy:Tryz.f4.resultTypes.all (fun t=>Tryz.prog.readableRec t&&decide (t<Tryz.prog.types.size))=true:=by kernel_rfl
theorem UF:(Rows.natRunsRow.ifacesOut==Tryz.f4.resultTypes.toList.any (Tryz.prog.ifacesRec ·))=true:=by kernel_rfl
theorem xP:(Rows.natRunsRow.loopsOut==Tryz.f4.resultTypes.toList.any (Tryz.prog.loopsFrom ·))=true:=by kernel_rfl
theorem P1:(Tryz.prog.make==some Rows.natRunsRow.make)=true:=by kernel_rfl
theorem Xz:(Rows.natRunsRow.kinds==(if Rows.natRunsRow.domain.isEmpty then [] else Tryz.f4.params.toList.map fun t=>match Tryz.prog.underlying t with|some (.int k)=>some k|_=>none))=true:=by kernel_rfl
theorem XA:(Rows.natRunsRow.pinned==Rows.natRunsRow.pinnedBy)=true:=by kernel_rfl
theorem XB:(Rows.natRunsRow.veiled==(Tryz.f4.params.toList++(OpenSpec.ofChange Rows.natRunsSpec).bare.plain.varTypes Tryz.prog++Tryz.f4.resultTypes.toList).any (Tryz.prog.veiledRec ·))=true:=by kernel_rfl
theorem XE:Rows.natRunsRow.veiledFits Tryz.prog Tryz.f4.params.toList (Tryz.f4.params.toList++(OpenSpec.ofChange Rows.natRunsSpec).bare.plain.varTypes Tryz.prog++Tryz.f4.resultTypes.toList)=true:=by kernel_rfl
theorem XF:(Rows.natRunsRow.plainKeys==Tryz.prog.plainKeys)=true:=UG qmz
theorem XG:(Rows.natRunsRow.lifted==Tryz.prog.liftsFinal)=true:=UG qpi
theorem uQ:joinedFacts Tryz.prog 4 Tryz.f4 (OpenSpec.ofChange Rows.natRunsSpec).bare Rows.natRunsRow=true:=by
 unfold joinedFacts
 exact cD (cD (cD (cD (cD (cD (cD (cD (cD (cD (cD (cD (cD (cD (cD (cD (cD (cD (cD (cD (cD (cD (cD (cD (cD (cD (cD (cD (cD (cD (cD c1 qph) qo9) c4) c5) rfl) qmr) rfl) qmx) uR) IW) IY) uS) mG) zU) wE) Xw) IZ) Xx) Xy) UF) xP) XF) rfl) qm2) qmq) XG) P1) Xz) XA) XB) XE
end Go.Proofs.YtnkpgdejagglaaaGreatDoor.natRuns
