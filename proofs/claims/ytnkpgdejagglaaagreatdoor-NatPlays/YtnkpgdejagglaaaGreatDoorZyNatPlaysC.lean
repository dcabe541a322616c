/-
  Closed facts of NatPlays's row, one a declaration.
-/
import Derived.Test.YtnkpgdejagglaaaGreatDoorCards
import Derived.Test.YtnkpgdejagglaaaGreatDoorZyk5
namespace Go.Proofs.YtnkpgdejagglaaaGreatDoor.natPlays
open Go.ChangeShapes Go.WideShapes Go.ChangeAt Go.RowKit
set_option linter.unusedVariables false
set_option linter.unusedSimpArgs false
set_option maxRecDepth 100000
theorem uR:(Rows.natPlaysRow.inPlace==Tryz.prog.inPlace 3)=true:=by kernel_rfl
theorem IW:(Rows.natPlaysRow.unfollowed==Tryz.prog.unfollowed 3)=true:=by kernel_rfl
theorem IY:(Rows.natPlaysRow.recurses==Tryz.prog.recurses 3)=true:=by kernel_rfl
theorem uS:(Rows.natPlaysRow.named==Tryz.prog.varsNamed 3)=true:=by kernel_rfl
theorem zT:false=Rows.natPlaysRow.goesBy Tryz.prog:=by kernel_rfl
theorem zS:Tryz.prog.mainIs=some (Rows.natPlaysCard.stood.harness.1,Rows.natPlaysCard.stood.harness.2.toList):=by kernel_rfl
theorem Xv:Rows.natPlaysRow.wfByText (OpenSpec.ofChange Rows.natPlaysSpec)=true:=by kernel_rfl
theorem c1:Rows.natPlaysRow.wf (OpenSpec.ofChange (OpenSpec.ofChange Rows.natPlaysSpec).bare)=true:=by kernel_rfl
theorem c4:Tryz.f3.params.all (Tryz.prog.readableRec ·)=true:=by kernel_rfl
theorem c5:namedTie Tryz.prog Rows.natPlaysRow.named (OpenSpec.ofChange Rows.natPlaysSpec).bare.vars=true:=by kernel_rfl
theorem mG:(Rows.natPlaysRow.maps==(Tryz.f3.params.toList++(OpenSpec.ofChange Rows.natPlaysSpec).bare.plain.varTypes Tryz.prog).any (Tryz.prog.mapsRec ·))=true:=by kernel_rfl
theorem zU:(Rows.natPlaysRow.ifaces==(Tryz.f3.params.toList++(OpenSpec.ofChange Rows.natPlaysSpec).bare.plain.varTypes Tryz.prog).any (Tryz.prog.ifacesRec ·))=true:=by kernel_rfl
theorem wE:(Rows.natPlaysRow.mapsOut==Tryz.prog.mapsAmong Tryz.f3.resultTypes.toList)=true:=by kernel_rfl
theorem Xw:(Rows.natPlaysRow.loops==(Tryz.f3.params.toList++(OpenSpec.ofChange Rows.natPlaysSpec).bare.plain.varTypes Tryz.prog).any (Tryz.prog.loopsFrom ·))=true:=by kernel_rfl
theorem IZ:(Rows.natPlaysRow.wideKeys==(Tryz.f3.params.toList++(OpenSpec.ofChange Rows.natPlaysSpec).bare.plain.varTypes Tryz.prog++Tryz.f3.resultTypes.toList).any (Tryz.prog.wideKeysFrom ·))=true:=by kernel_rfl
theorem Xx:(OpenSpec.ofChange Rows.natPlaysSpec).bare.vars.all (Tryz.prog.varReadable ·)=true:=by kernel_rfl
theorem Xy:Tryz.f3.resultTypes.all (fun t=>Tryz.prog.readableRec t&&decide (t<Tryz.prog.types.size))=true:=by kernel_rfl
theorem UF:(Rows.natPlaysRow.ifacesOut==Tryz.f3.resultTypes.toList.any (Tryz.prog.ifacesRec ·))=true:=by kernel_rfl
theorem xP:(Rows.natPlaysRow.loopsOut==Tryz.f3.resultTypes.toList.any (Tryz.prog.loopsFrom ·))=true:=by kernel_rfl
theorem P1:(Tryz.prog.make==some Rows.natPlaysRow.make)=true:=by kernel_rfl
theorem Xz:(Rows.natPlaysRow.kinds==(if Rows.natPlaysRow.domain.isEmpty then [] else Tryz.f3.params.toList.map fun t=>match Tryz.prog.underlying t with|some (.int k)=>some k|_=>none))=true:=by kernel_rfl
theorem XA:(Rows.natPlaysRow.pinned==Rows.natPlaysRow.pinnedBy)=true:=by kernel_rfl
theorem XB:(Rows.natPlaysRow.veiled==(Tryz.f3.params.toList++(OpenSpec.ofChange Rows.natPlaysSpec).bare.plain.varTypes Tryz.prog++Tryz.f3.resultTypes.toList).any (Tryz.prog.veiledRec ·))=true:=by kernel_rfl
theorem XE:Rows.natPlaysRow.veiledFits Tryz.prog Tryz.f3.params.toList (Tryz.f3.params.toList++(OpenSpec.ofChange Rows.natPlaysSpec).bare.plain.varTypes Tryz.prog++Tryz.f3.resultTypes.toList)=true:=by kernel_rfl
theorem XF:(Rows.natPlaysRow.plainKeys==Tryz.prog.plainKeys)=true:=UG qmz
theorem XG:(Rows.natPlaysRow.lifted==Tryz.prog.liftsFinal)=true:=UG qpi
theorem uQ:joinedFacts Tryz.prog 3 Tryz.f3 (OpenSpec.ofChange Rows.natPlaysSpec).bare Rows.natPlaysRow=true:=by
 unfold joinedFacts
 exact cD (cD (cD (cD (cD (cD (cD (cD (cD (cD (cD (cD (cD (cD (cD (cD (cD (cD (cD (cD (cD (cD (cD (cD (cD (cD (cD (cD (cD (cD (cD c1 qph) qo9) c4) c5) rfl) qmr) rfl) qmx) uR) IW) IY) uS) mG) zU) wE) Xw) IZ) Xx) Xy) UF) xP) XF) rfl) qm2) qmq) XG) P1) Xz) XA) XB) XE
end Go.Proofs.YtnkpgdejagglaaaGreatDoor.natPlays
