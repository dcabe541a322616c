/-
  DERIVED. GIVEN WITH THE SEED: THE CARDS: each row of YtapijlhpmdjcnafDoorRows.lean that lists a variable, with what it lists TIED to the program's text (the seventh form; the later family's looks); each row that meets fmt, with fmt's text TOLD by the authors' own Lean function (tested against real Go, not proved from fmt's source: count such statements apart). THE CARD IS WHAT COUNTS. Prove the row's statement (the work); the ties are given (YtapijlhpmdjcnafDoorTie.lean); close each card by the builder's one call (the guide's Derived/Test/ToyasCard.lean, 'card_holds'). Laid BY PROGRAM, IN A SANDBOX (cutbox-door.mjs). By AI agents, Wed Nov 11 2026. No macro, syntax, notation, axiom, sorry.
-/
import Derived.Test.YtapijlhpmdjcnafDoorRows
import GoSem.ClaimSeven
namespace Go.Proofs.YtapijlhpmdjcnafDoor
namespace Rows

/-- THE TIED CARD OF 'rentrolllaw.RecordTells'. -/
def recordTellsCard : Claim7 := { stood := { row := recordTellsRow, standIns := [], harness := (true, "f8b1b94c5012216a261006041cb55d7fb3face3015463e6a13e21212e994c328"), looks := false }, kinds := [], alts := [], laidByText := true, laidKinds := [.data], laidTests := true, laidLooks := .later }
def RecordTellsCardSaid : Prop := Claim7.holds Tryd.pinned (.plain (OpenSpec.ofChange recordTellsSpec)) recordTellsCard

/-- THE TIED CARD OF 'rentrolllaw.RecordReads'. -/
def recordReadsCard : Claim7 := { stood := { row := recordReadsRow, standIns := [], harness := (true, "f8b1b94c5012216a261006041cb55d7fb3face3015463e6a13e21212e994c328"), looks := false }, kinds := [], alts := [], laidByText := true, laidKinds := [.data], laidTests := true, laidLooks := .later }
def RecordReadsCardSaid : Prop := Claim7.holds Tryd.pinned (.plain (OpenSpec.ofChange recordReadsSpec)) recordReadsCard

/-- THE TIED CARD OF 'rentrolllaw.RecordOwners'. -/
def recordOwnersCard : Claim7 := { stood := { row := recordOwnersRow, standIns := [], harness := (true, "f8b1b94c5012216a261006041cb55d7fb3face3015463e6a13e21212e994c328"), looks := false }, kinds := [], alts := [], laidByText := true, laidKinds := [.data], laidTests := true, laidLooks := .later }
def RecordOwnersCardSaid : Prop := Claim7.holds Tryd.pinned (.plain (OpenSpec.ofChange recordOwnersSpec)) recordOwnersCard

/-- THE SECOND FORM's CARD OF 'rentrolllaw.RecordTells'. -/
def recordTellsUptoCard : Claim7 := { stood := { row := recordTellsUptoRow, standIns := [], harness := (true, "f8b1b94c5012216a261006041cb55d7fb3face3015463e6a13e21212e994c328"), looks := false }, kinds := [], alts := [], laidByText := true, laidKinds := [.data], laidTests := true, laidLooks := .later }
def RecordTellsUptoCardSaid : Prop := Claim7.holds Tryd.pinned (.plain (OpenSpec.upto recordTellsSpec)) recordTellsUptoCard

/-- THE SECOND FORM's CARD OF 'rentrolllaw.RecordReads'. -/
def recordReadsUptoCard : Claim7 := { stood := { row := recordReadsUptoRow, standIns := [], harness := (true, "f8b1b94c5012216a261006041cb55d7fb3face3015463e6a13e21212e994c328"), looks := false }, kinds := [], alts := [], laidByText := true, laidKinds := [.data], laidTests := true, laidLooks := .later }
def RecordReadsUptoCardSaid : Prop := Claim7.holds Tryd.pinned (.plain (OpenSpec.upto recordReadsSpec)) recordReadsUptoCard

/-- THE SECOND FORM's CARD OF 'rentrolllaw.RecordOwners'. -/
def recordOwnersUptoCard : Claim7 := { stood := { row := recordOwnersUptoRow, standIns := [], harness := (true, "f8b1b94c5012216a261006041cb55d7fb3face3015463e6a13e21212e994c328"), looks := false }, kinds := [], alts := [], laidByText := true, laidKinds := [.data], laidTests := true, laidLooks := .later }
def RecordOwnersUptoCardSaid : Prop := Claim7.holds Tryd.pinned (.plain (OpenSpec.upto recordOwnersSpec)) recordOwnersUptoCard
end Rows
end Go.Proofs.YtapijlhpmdjcnafDoor
