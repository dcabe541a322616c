/-
  DERIVED. GIVEN WITH THE SEED: THE CARDS: each row of YtnkpgdejagglaaaGreatDoorRows.lean that lists a variable, with what it lists TIED to the program's text (the seventh form; the later family's looks); each row that meets fmt, with fmt's text TOLD by the authors' own Lean function (tested against real Go, not proved from fmt's source: count such statements apart). THE CARD IS WHAT COUNTS. Prove the row's statement (the work); the ties are given (YtnkpgdejagglaaaGreatDoorTie.lean); close each card by the builder's one call (the guide's Derived/Test/ToyasCard.lean, 'card_holds'). Laid BY PROGRAM, IN A SANDBOX (cutbox-door.mjs). By AI agents, Wed Nov 11 2026. No macro, syntax, notation, axiom, sorry.
-/
import Derived.Test.YtnkpgdejagglaaaGreatDoorRows
import GoSem.ClaimSeven
namespace Go.Proofs.YtnkpgdejagglaaaGreatDoor
namespace Rows

/-- THE TIED CARD OF 'rentrolllaw.NatPlays'. -/
def natPlaysCard : Claim7 := { stood := { row := natPlaysRow, standIns := [], harness := (true, "fbeb5b1df9f988c228f2a82b6d9d7ffd762709d45b4ccbf847ff9222a8b3b3e1"), looks := false }, kinds := [], alts := [], laidByText := true, laidKinds := [.data], laidTests := true, laidLooks := .later }
def NatPlaysCardSaid : Prop := Claim7.holds Tryz.pinned (.plain (OpenSpec.ofChange natPlaysSpec)) natPlaysCard

/-- THE TIED CARD OF 'rentrolllaw.NatRuns'. -/
def natRunsCard : Claim7 := { stood := { row := natRunsRow, standIns := [], harness := (true, "fbeb5b1df9f988c228f2a82b6d9d7ffd762709d45b4ccbf847ff9222a8b3b3e1"), looks := false }, kinds := [], alts := [], laidByText := true, laidKinds := [.data], laidTests := true, laidLooks := .later }
def NatRunsCardSaid : Prop := Claim7.holds Tryz.pinned (.plain (OpenSpec.ofChange natRunsSpec)) natRunsCard

/-- THE SECOND FORM's CARD OF 'rentrolllaw.NatPlays'. -/
def natPlaysUptoCard : Claim7 := { stood := { row := natPlaysUptoRow, standIns := [], harness := (true, "fbeb5b1df9f988c228f2a82b6d9d7ffd762709d45b4ccbf847ff9222a8b3b3e1"), looks := false }, kinds := [], alts := [], laidByText := true, laidKinds := [.data], laidTests := true, laidLooks := .later }
def NatPlaysUptoCardSaid : Prop := Claim7.holds Tryz.pinned (.plain (OpenSpec.upto natPlaysSpec)) natPlaysUptoCard

/-- THE SECOND FORM's CARD OF 'rentrolllaw.NatRuns'. -/
def natRunsUptoCard : Claim7 := { stood := { row := natRunsUptoRow, standIns := [], harness := (true, "fbeb5b1df9f988c228f2a82b6d9d7ffd762709d45b4ccbf847ff9222a8b3b3e1"), looks := false }, kinds := [], alts := [], laidByText := true, laidKinds := [.data], laidTests := true, laidLooks := .later }
def NatRunsUptoCardSaid : Prop := Claim7.holds Tryz.pinned (.plain (OpenSpec.upto natRunsSpec)) natRunsUptoCard
end Rows
end Go.Proofs.YtnkpgdejagglaaaGreatDoor
