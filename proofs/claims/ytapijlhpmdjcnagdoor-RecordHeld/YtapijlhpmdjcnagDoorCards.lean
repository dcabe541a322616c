/-
  DERIVED. GIVEN WITH THE SEED: THE CARDS: each row of YtapijlhpmdjcnagDoorRows.lean that lists a variable, with what it lists TIED to the program's text (the seventh form; the later family's looks); each row that meets fmt, with fmt's text TOLD by the authors' own Lean function (tested against real Go, not proved from fmt's source: count such statements apart). THE CARD IS WHAT COUNTS. Prove the row's statement (the work); the ties are given (YtapijlhpmdjcnagDoorTie.lean); close each card by the builder's one call (the guide's Derived/Test/ToyasCard.lean, 'card_holds'). Laid BY PROGRAM, IN A SANDBOX (cutbox-door.mjs). By AI agents, Wed Nov 11 2026. No macro, syntax, notation, axiom, sorry.
-/
import Derived.Test.YtapijlhpmdjcnagDoorRows
import GoSem.ClaimSeven
namespace Go.Proofs.YtapijlhpmdjcnagDoor
namespace Rows

/-- THE TIED CARD OF 'rentrollkeep.RecordBack'. -/
def recordBackCard : Claim7 := { stood := { row := recordBackRow, standIns := [], harness := (true, "f3bb05fac40701e69597b87f3015ea32ee2b43cf41e7278f93a99905d28d27cf"), looks := false }, kinds := [], alts := [], laidByText := true, laidKinds := [.data], laidTests := true, laidLooks := .later }
def RecordBackCardSaid : Prop := Claim7.holds Tryd.pinned (.plain (OpenSpec.ofChange recordBackSpec)) recordBackCard

/-- THE TIED CARD OF 'rentrollkeep.RecordHeld'. -/
def recordHeldCard : Claim7 := { stood := { row := recordHeldRow, standIns := [], harness := (true, "f3bb05fac40701e69597b87f3015ea32ee2b43cf41e7278f93a99905d28d27cf"), looks := false }, kinds := [], alts := [], laidByText := true, laidKinds := [.data], laidTests := true, laidLooks := .later }
def RecordHeldCardSaid : Prop := Claim7.holds Tryd.pinned (.plain (OpenSpec.ofChange recordHeldSpec)) recordHeldCard

/-- THE SECOND FORM's CARD OF 'rentrollkeep.RecordBack'. -/
def recordBackUptoCard : Claim7 := { stood := { row := recordBackUptoRow, standIns := [], harness := (true, "f3bb05fac40701e69597b87f3015ea32ee2b43cf41e7278f93a99905d28d27cf"), looks := false }, kinds := [], alts := [], laidByText := true, laidKinds := [.data], laidTests := true, laidLooks := .later }
def RecordBackUptoCardSaid : Prop := Claim7.holds Tryd.pinned (.plain (OpenSpec.upto recordBackSpec)) recordBackUptoCard

/-- THE SECOND FORM's CARD OF 'rentrollkeep.RecordHeld'. -/
def recordHeldUptoCard : Claim7 := { stood := { row := recordHeldUptoRow, standIns := [], harness := (true, "f3bb05fac40701e69597b87f3015ea32ee2b43cf41e7278f93a99905d28d27cf"), looks := false }, kinds := [], alts := [], laidByText := true, laidKinds := [.data], laidTests := true, laidLooks := .later }
def RecordHeldUptoCardSaid : Prop := Claim7.holds Tryd.pinned (.plain (OpenSpec.upto recordHeldSpec)) recordHeldUptoCard
end Rows
end Go.Proofs.YtapijlhpmdjcnagDoor
