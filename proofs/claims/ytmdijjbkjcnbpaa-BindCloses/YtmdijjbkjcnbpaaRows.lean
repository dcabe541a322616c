/-
  No cell of these rows narrows 'for every input' (looked for: loops, veiled, ifaces, maps, wideKeys, modest, calm, conditions, laid).
  DERIVED. THE GIVEN ROWS OF THIS SEAT. 4 by the template 'for every input the law returns true; each argument reads behind the call as it read before'; 0 by the template 'total and deterministic' (their statements: YtmdijjbkjcnbpaaTotals.lean).
  GIVEN WITH THE SEED: the statements are not yours to turn. If you find one false, say at which input.
  Laid BY PROGRAM, IN A SANDBOX (cutbox-rows.mjs): the forced cells as the released guide's own fill.sh prints them over the translation 5c6304f01daf9889… (all of the seat's roots in one cut). By AI agents, Wed Nov 11 2026. No macro, syntax, notation, axiom, sorry.
-/
import Derived.Test.YtmdijjbkjcnbpaaChecked
import GoSem.Claim
import GoSem.ClaimJoined
import GoSem.ClaimMapViews
import Derived.JoinedTies
import Derived.KernelRfl
namespace Go.Proofs.Ytmdijjbkjcnbpaa
/- THE CELL 'sum', in the pinned program and in every row, IS THE sha256 OF THE DUMP (.gsa) THAT YtmdijjbkjcnbpaaProg.lean LOADS. Nothing in Lean hashes anything: it is a label: what it is worth is what the hold of that sum in a sandbox is worth. -/
noncomputable def Try.pinned : Pinned := { name := "ytmdijjbkjcnbpaa", sum := "5c6304f01daf9889b6c3f7e25a5fe770c01cef1e3b9a2213ae8d0779876292f4", checked := Try.checked }
namespace Rows
def none {H : Type} : Left H := { results := [], args := [] }

/-- 'rentrolllaw.BindFinds': WHATEVER THE INPUT: true; the input reads as it did. -/
def bindFindsSpec : ChangeSpec := { name := "bindFinds", fn := fun _ => fun
  | [d1, d2, d3, d4, d5, d6] => { results := [.lit (.bool true)], args := [d1, d2, d3, d4, d5, d6] }
  | _ => none }
def bindFindsRow : OpenClaim := { program := "ytmdijjbkjcnbpaa", sum := "5c6304f01daf9889b6c3f7e25a5fe770c01cef1e3b9a2213ae8d0779876292f4", func := "rentroll/rentrolllaw.BindFinds", spec := "bindFinds", plainKeys := false, apart := false }
def BindFindsSaid : Prop := bindFindsRow.holds Try.pinned (OpenSpec.ofChange bindFindsSpec)

/-- ITS FALSE NEIGHBOUR: 'it returns false'. Refute it at one input. -/
def bindFindsWrong : ChangeSpec := { name := "bindFinds", fn := fun _ => fun
  | [d1, d2, d3, d4, d5, d6] => { results := [.lit (.bool false)], args := [d1, d2, d3, d4, d5, d6] }
  | _ => none }
def BindFindsWrongFalsely : Prop := bindFindsRow.holds Try.pinned (OpenSpec.ofChange bindFindsWrong)

/-- 'rentrolllaw.BindOpens': WHATEVER THE INPUT: true; the input reads as it did. -/
def bindOpensSpec : ChangeSpec := { name := "bindOpens", fn := fun _ => fun
  | [d1, d2, d3, d4, d5] => { results := [.lit (.bool true)], args := [d1, d2, d3, d4, d5] }
  | _ => none }
def bindOpensRow : OpenClaim := { program := "ytmdijjbkjcnbpaa", sum := "5c6304f01daf9889b6c3f7e25a5fe770c01cef1e3b9a2213ae8d0779876292f4", func := "rentroll/rentrolllaw.BindOpens", spec := "bindOpens", plainKeys := false, apart := false }
def BindOpensSaid : Prop := bindOpensRow.holds Try.pinned (OpenSpec.ofChange bindOpensSpec)

/-- ITS FALSE NEIGHBOUR: 'it returns false'. Refute it at one input. -/
def bindOpensWrong : ChangeSpec := { name := "bindOpens", fn := fun _ => fun
  | [d1, d2, d3, d4, d5] => { results := [.lit (.bool false)], args := [d1, d2, d3, d4, d5] }
  | _ => none }
def BindOpensWrongFalsely : Prop := bindOpensRow.holds Try.pinned (OpenSpec.ofChange bindOpensWrong)

/-- 'rentrolllaw.BindCloses': WHATEVER THE INPUT: true; the input reads as it did. -/
def bindClosesSpec : ChangeSpec := { name := "bindCloses", fn := fun _ => fun
  | [d1, d2] => { results := [.lit (.bool true)], args := [d1, d2] }
  | _ => none }
def bindClosesRow : OpenClaim := { program := "ytmdijjbkjcnbpaa", sum := "5c6304f01daf9889b6c3f7e25a5fe770c01cef1e3b9a2213ae8d0779876292f4", func := "rentroll/rentrolllaw.BindCloses", spec := "bindCloses", plainKeys := false, apart := false }
def BindClosesSaid : Prop := bindClosesRow.holds Try.pinned (OpenSpec.ofChange bindClosesSpec)

/-- ITS FALSE NEIGHBOUR: 'it returns false'. Refute it at one input. -/
def bindClosesWrong : ChangeSpec := { name := "bindCloses", fn := fun _ => fun
  | [d1, d2] => { results := [.lit (.bool false)], args := [d1, d2] }
  | _ => none }
def BindClosesWrongFalsely : Prop := bindClosesRow.holds Try.pinned (OpenSpec.ofChange bindClosesWrong)

/-- 'rentrollkeep.BindPlays': WHATEVER THE INPUT: true; the input reads as it did. -/
def bindPlaysSpec : ChangeSpec := { name := "bindPlays", fn := fun _ => fun
  | [d] => { results := [.lit (.bool true)], args := [d] }
  | _ => none }
def bindPlaysRow : OpenClaim := { program := "ytmdijjbkjcnbpaa", sum := "5c6304f01daf9889b6c3f7e25a5fe770c01cef1e3b9a2213ae8d0779876292f4", func := "rentroll/rentrollkeep.BindPlays", spec := "bindPlays", plainKeys := false, apart := false }
def BindPlaysSaid : Prop := bindPlaysRow.holds Try.pinned (OpenSpec.ofChange bindPlaysSpec)

/-- ITS FALSE NEIGHBOUR: 'it returns false'. Refute it at one input. -/
def bindPlaysWrong : ChangeSpec := { name := "bindPlays", fn := fun _ => fun
  | [d] => { results := [.lit (.bool false)], args := [d] }
  | _ => none }
def BindPlaysWrongFalsely : Prop := bindPlaysRow.holds Try.pinned (OpenSpec.ofChange bindPlaysWrong)

/- THE SECOND FORM. 'bulk': how many values and letters a reading holds, each counted each time it is reached (what is shared counts as often as it is met; a slice's spare places count too). A statement '..UptoSaid' is the law's where the arguments, and the package variables that the reading takes, are together of bulk at most 1048576: NARROWER than '..Said'. Prove '..Said' where nothing that the law and all that it calls make is longer than what came in: it says more and counts as full. Else prove '..UptoSaid'. A law counts once. -/
mutual
def uptoBulk {H : Type} : DataW H → Nat
  | .lit (.string bytes) => bytes.length + 1
  | .lit _ => 1
  | .nil => 1
  | .ptr d => uptoBulk d + 1
  | .slice elems spare => uptoBulkAll elems + uptoBulkAll spare + 1
  | .agg parts => uptoBulkAll parts + 1
  | .iface _ d => uptoBulk d + 1
  | .map entries => uptoBulkEntries entries + 1
  | .held _ => 1
def uptoBulkAll {H : Type} : List (DataW H) → Nat
  | [] => 0
  | d :: r => uptoBulk d + uptoBulkAll r
def uptoBulkEntries {H : Type} : List (Lit × DataW H) → Nat
  | [] => 0
  | x :: r => uptoBulkEntry x + uptoBulkEntries r
def uptoBulkEntry {H : Type} : Lit × DataW H → Nat
  | (.string bytes, d) => bytes.length + uptoBulk d + 1
  | (_, d) => uptoBulk d + 1
 end
def uptoSmall : (H : Type) → List (DataW H) → Bool := fun _ ds => decide (uptoBulkAll ds ≤ 1048576)
def OpenSpec.upto (s : _root_.Go.ChangeSpec) : _root_.Go.OpenSpec := { _root_.Go.OpenSpec.ofChange s with cond := some uptoSmall }

/-- 'rentrolllaw.BindFinds', WHERE WHAT IT READS IS OF BULK AT MOST 1048576: true; the input reads as it did. -/
def bindFindsUptoRow : OpenClaim := { program := "ytmdijjbkjcnbpaa", sum := "5c6304f01daf9889b6c3f7e25a5fe770c01cef1e3b9a2213ae8d0779876292f4", func := "rentroll/rentrolllaw.BindFinds", spec := "bindFinds", plainKeys := false, apart := false, narrowed := true }
def BindFindsUptoSaid : Prop := bindFindsUptoRow.holds Try.pinned (OpenSpec.upto bindFindsSpec)

/-- 'rentrolllaw.BindOpens', WHERE WHAT IT READS IS OF BULK AT MOST 1048576: true; the input reads as it did. -/
def bindOpensUptoRow : OpenClaim := { program := "ytmdijjbkjcnbpaa", sum := "5c6304f01daf9889b6c3f7e25a5fe770c01cef1e3b9a2213ae8d0779876292f4", func := "rentroll/rentrolllaw.BindOpens", spec := "bindOpens", plainKeys := false, apart := false, narrowed := true }
def BindOpensUptoSaid : Prop := bindOpensUptoRow.holds Try.pinned (OpenSpec.upto bindOpensSpec)

/-- 'rentrolllaw.BindCloses', WHERE WHAT IT READS IS OF BULK AT MOST 1048576: true; the input reads as it did. -/
def bindClosesUptoRow : OpenClaim := { program := "ytmdijjbkjcnbpaa", sum := "5c6304f01daf9889b6c3f7e25a5fe770c01cef1e3b9a2213ae8d0779876292f4", func := "rentroll/rentrolllaw.BindCloses", spec := "bindCloses", plainKeys := false, apart := false, narrowed := true }
def BindClosesUptoSaid : Prop := bindClosesUptoRow.holds Try.pinned (OpenSpec.upto bindClosesSpec)

/-- 'rentrollkeep.BindPlays', WHERE WHAT IT READS IS OF BULK AT MOST 1048576: true; the input reads as it did. -/
def bindPlaysUptoRow : OpenClaim := { program := "ytmdijjbkjcnbpaa", sum := "5c6304f01daf9889b6c3f7e25a5fe770c01cef1e3b9a2213ae8d0779876292f4", func := "rentroll/rentrollkeep.BindPlays", spec := "bindPlays", plainKeys := false, apart := false, narrowed := true }
def BindPlaysUptoSaid : Prop := bindPlaysUptoRow.holds Try.pinned (OpenSpec.upto bindPlaysSpec)

end Rows
end Go.Proofs.Ytmdijjbkjcnbpaa
