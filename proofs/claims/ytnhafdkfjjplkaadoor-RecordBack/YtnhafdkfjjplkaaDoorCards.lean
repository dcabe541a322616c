/-
  DERIVED. GIVEN WITH THE SEED: THE CARDS: each row of YtnhafdkfjjplkaaDoorRows.lean that lists a variable, with what it lists TIED to the program's text (the seventh form; the later family's looks); each row that meets fmt, with fmt's text TOLD by the authors' own Lean function (tested against real Go, not proved from fmt's source: count such statements apart). THE CARD IS WHAT COUNTS. Prove the row's statement (the work); the ties are given (YtnhafdkfjjplkaaDoorTie.lean); close each card by the builder's one call (the guide's Derived/Test/ToyasCard.lean, 'card_holds'). Laid BY PROGRAM, IN A SANDBOX (cutbox-door.mjs). By AI agents, Wed Nov 11 2026. No macro, syntax, notation, axiom, sorry.
-/
import Derived.Test.YtnhafdkfjjplkaaDoorRows
import GoSem.ClaimSeven
namespace Go.Proofs.YtnhafdkfjjplkaaDoor
namespace Rows

/-- THE TIED CARD OF 'rentrolllaw.RecordTells'. -/
def recordTellsCard : Claim7 := { stood := { row := recordTellsRow, standIns := [], harness := (true, "9bf0ee7f92e43a69b72ceaf8c63cbf5448391ca31c787e5592781484c01b6a08"), looks := false }, kinds := [], alts := [], laidByText := true, laidKinds := [.data], laidTests := true, laidLooks := .later }
def RecordTellsCardSaid : Prop := Claim7.holds Tryd.pinned (.plain (OpenSpec.ofChange recordTellsSpec)) recordTellsCard

/-- THE TIED CARD OF 'rentrolllaw.RecordReads'. -/
def recordReadsCard : Claim7 := { stood := { row := recordReadsRow, standIns := [], harness := (true, "9bf0ee7f92e43a69b72ceaf8c63cbf5448391ca31c787e5592781484c01b6a08"), looks := false }, kinds := [], alts := [], laidByText := true, laidKinds := [.data], laidTests := true, laidLooks := .later }
def RecordReadsCardSaid : Prop := Claim7.holds Tryd.pinned (.plain (OpenSpec.ofChange recordReadsSpec)) recordReadsCard

/-- THE TIED CARD OF 'rentrolllaw.RecordOwners'. -/
def recordOwnersCard : Claim7 := { stood := { row := recordOwnersRow, standIns := [], harness := (true, "9bf0ee7f92e43a69b72ceaf8c63cbf5448391ca31c787e5592781484c01b6a08"), looks := false }, kinds := [], alts := [], laidByText := true, laidKinds := [.data], laidTests := true, laidLooks := .later }
def RecordOwnersCardSaid : Prop := Claim7.holds Tryd.pinned (.plain (OpenSpec.ofChange recordOwnersSpec)) recordOwnersCard

/-- THE TIED CARD OF 'rentrollkeep.RecordBack'. -/
def recordBackCard : Claim7 := { stood := { row := recordBackRow, standIns := [], harness := (true, "9bf0ee7f92e43a69b72ceaf8c63cbf5448391ca31c787e5592781484c01b6a08"), looks := false }, kinds := [], alts := [], laidByText := true, laidKinds := [.data], laidTests := true, laidLooks := .later }
def RecordBackCardSaid : Prop := Claim7.holds Tryd.pinned (.plain (OpenSpec.ofChange recordBackSpec)) recordBackCard

/-- THE TIED CARD OF 'rentrollkeep.RecordHeld'. -/
def recordHeldCard : Claim7 := { stood := { row := recordHeldRow, standIns := [], harness := (true, "9bf0ee7f92e43a69b72ceaf8c63cbf5448391ca31c787e5592781484c01b6a08"), looks := false }, kinds := [], alts := [], laidByText := true, laidKinds := [.data], laidTests := true, laidLooks := .later }
def RecordHeldCardSaid : Prop := Claim7.holds Tryd.pinned (.plain (OpenSpec.ofChange recordHeldSpec)) recordHeldCard

/-- THE SECOND FORM's CARD OF 'rentrolllaw.RecordTells'. -/
def recordTellsUptoCard : Claim7 := { stood := { row := recordTellsUptoRow, standIns := [], harness := (true, "9bf0ee7f92e43a69b72ceaf8c63cbf5448391ca31c787e5592781484c01b6a08"), looks := false }, kinds := [], alts := [], laidByText := true, laidKinds := [.data], laidTests := true, laidLooks := .later }
def RecordTellsUptoCardSaid : Prop := Claim7.holds Tryd.pinned (.plain (OpenSpec.upto recordTellsSpec)) recordTellsUptoCard

/-- THE SECOND FORM's CARD OF 'rentrolllaw.RecordReads'. -/
def recordReadsUptoCard : Claim7 := { stood := { row := recordReadsUptoRow, standIns := [], harness := (true, "9bf0ee7f92e43a69b72ceaf8c63cbf5448391ca31c787e5592781484c01b6a08"), looks := false }, kinds := [], alts := [], laidByText := true, laidKinds := [.data], laidTests := true, laidLooks := .later }
def RecordReadsUptoCardSaid : Prop := Claim7.holds Tryd.pinned (.plain (OpenSpec.upto recordReadsSpec)) recordReadsUptoCard

/-- THE SECOND FORM's CARD OF 'rentrolllaw.RecordOwners'. -/
def recordOwnersUptoCard : Claim7 := { stood := { row := recordOwnersUptoRow, standIns := [], harness := (true, "9bf0ee7f92e43a69b72ceaf8c63cbf5448391ca31c787e5592781484c01b6a08"), looks := false }, kinds := [], alts := [], laidByText := true, laidKinds := [.data], laidTests := true, laidLooks := .later }
def RecordOwnersUptoCardSaid : Prop := Claim7.holds Tryd.pinned (.plain (OpenSpec.upto recordOwnersSpec)) recordOwnersUptoCard

/-- THE SECOND FORM's CARD OF 'rentrollkeep.RecordBack'. -/
def recordBackUptoCard : Claim7 := { stood := { row := recordBackUptoRow, standIns := [], harness := (true, "9bf0ee7f92e43a69b72ceaf8c63cbf5448391ca31c787e5592781484c01b6a08"), looks := false }, kinds := [], alts := [], laidByText := true, laidKinds := [.data], laidTests := true, laidLooks := .later }
def RecordBackUptoCardSaid : Prop := Claim7.holds Tryd.pinned (.plain (OpenSpec.upto recordBackSpec)) recordBackUptoCard

/-- THE SECOND FORM's CARD OF 'rentrollkeep.RecordHeld'. -/
def recordHeldUptoCard : Claim7 := { stood := { row := recordHeldUptoRow, standIns := [], harness := (true, "9bf0ee7f92e43a69b72ceaf8c63cbf5448391ca31c787e5592781484c01b6a08"), looks := false }, kinds := [], alts := [], laidByText := true, laidKinds := [.data], laidTests := true, laidLooks := .later }
def RecordHeldUptoCardSaid : Prop := Claim7.holds Tryd.pinned (.plain (OpenSpec.upto recordHeldSpec)) recordHeldUptoCard
end Rows
end Go.Proofs.YtnhafdkfjjplkaaDoor
