/-
  NARROWER THAN 'FOR EVERY INPUT', by the rows' own cells (each row's printed sentence says how): NatPlays: laid · NatRuns: laid.
  DERIVED. THE GIVEN ROWS OF THIS SEAT. 2 by the template 'for every input the law returns true; each argument reads behind the call as it read before'; 0 by the template 'total and deterministic' (their statements: YtnkpgdejagglaaaGreatDoorTotals.lean).
  GIVEN WITH THE SEED: the statements are not yours to turn. If you find one false, say at which input.
  Laid BY PROGRAM, IN A SANDBOX (cutbox-rows.mjs): the forced cells as the released guide's own fill.sh prints them over the translation 080e1e144a97e885… (all of the seat's roots in one cut). By AI agents, Wed Nov 11 2026. No macro, syntax, notation, axiom, sorry.
-/
import Derived.Test.YtnkpgdejagglaaaGreatDoorChecked
import GoSem.Claim
import GoSem.ClaimJoined
import GoSem.ClaimMapViews
import Derived.JoinedTies
import Derived.KernelRfl
namespace Go.Proofs.YtnkpgdejagglaaaGreatDoor
/- THE CELL 'sum', in the pinned program and in every row, IS THE sha256 OF THE DUMP (.gsa) THAT YtnkpgdejagglaaaGreatDoorProg.lean LOADS. Nothing in Lean hashes anything: it is a label: what it is worth is what the hold of that sum in a sandbox is worth. -/
noncomputable def Tryz.pinned : Pinned := { name := "ytnkpgdejagglaaagreatdoor", sum := "080e1e144a97e885a8092b2a9a3d5032de699290f0127a0dd75bbab233688cbd", checked := Tryz.checked }
namespace Rows
def none {H : Type} : Left H := { results := [], args := [] }

/- WHAT THE LISTED PACKAGE-LEVEL VARIABLES READ AS WHEN THE CALL BEGINS. Each datum BY PROGRAM (the guide's laid-datum.mjs) off the statement by which the dump's own 'gosem.cut.vars' lays the variable. In a bare row this is a premise. The card (YtnkpgdejagglaaaGreatDoorCards.lean) ties it to the program's text. -/
def laid_rentroll_record_parts {H : Type} : DataW H := .agg [.agg [.lit (.int .i64 323), .lit (.int .i64 8)], .agg [.lit (.int .i64 8), .lit (.int .i64 4)], .agg [.lit (.int .i64 225), .lit (.int .i64 4)], .agg [.lit (.int .i64 361), .lit (.int .i64 2)], .agg [.lit (.int .i64 362), .lit (.int .i64 2)], .agg [.lit (.int .i64 230), .lit (.int .i64 1)]]

/-- 'rentrolllaw.NatPlays': WHATEVER THE INPUT: true; the input reads as it did. -/
def natPlaysSpec : ChangeSpec := { name := "natPlays", fn := fun _ => fun
  | [d1, d2] => { results := [.lit (.bool true)], args := [d1, d2] }
  | _ => none }
def natPlaysRow : OpenClaim := { program := "ytnkpgdejagglaaagreatdoor", sum := "080e1e144a97e885a8092b2a9a3d5032de699290f0127a0dd75bbab233688cbd", func := "rentroll/rentrolllaw.NatPlays", spec := "natPlays", unfollowed := true, recurses := true, named := ["rentroll/record.parts"], plainKeys := false, apart := false, laid := [("rentroll/record.parts", laid_rentroll_record_parts)] }
def NatPlaysSaid : Prop := natPlaysRow.holds Tryz.pinned (OpenSpec.ofChange natPlaysSpec)

/-- ITS FALSE NEIGHBOUR: 'it returns false'. Refute it at one input. -/
def natPlaysWrong : ChangeSpec := { name := "natPlays", fn := fun _ => fun
  | [d1, d2] => { results := [.lit (.bool false)], args := [d1, d2] }
  | _ => none }
def NatPlaysWrongFalsely : Prop := natPlaysRow.holds Tryz.pinned (OpenSpec.ofChange natPlaysWrong)

/-- 'rentrolllaw.NatRuns': WHATEVER THE INPUT: true; the input reads as it did. -/
def natRunsSpec : ChangeSpec := { name := "natRuns", fn := fun _ => fun
  | [d1, d2] => { results := [.lit (.bool true)], args := [d1, d2] }
  | _ => none }
def natRunsRow : OpenClaim := { program := "ytnkpgdejagglaaagreatdoor", sum := "080e1e144a97e885a8092b2a9a3d5032de699290f0127a0dd75bbab233688cbd", func := "rentroll/rentrolllaw.NatRuns", spec := "natRuns", unfollowed := true, recurses := true, named := ["rentroll/record.parts"], plainKeys := false, apart := false, laid := [("rentroll/record.parts", laid_rentroll_record_parts)] }
def NatRunsSaid : Prop := natRunsRow.holds Tryz.pinned (OpenSpec.ofChange natRunsSpec)

/-- ITS FALSE NEIGHBOUR: 'it returns false'. Refute it at one input. -/
def natRunsWrong : ChangeSpec := { name := "natRuns", fn := fun _ => fun
  | [d1, d2] => { results := [.lit (.bool false)], args := [d1, d2] }
  | _ => none }
def NatRunsWrongFalsely : Prop := natRunsRow.holds Tryz.pinned (OpenSpec.ofChange natRunsWrong)

/- THE SECOND FORM. 'bulk': how many values and letters a reading holds, each counted each time it is reached (what is shared counts as often as it is met; a slice's spare places count too). A statement '..UptoSaid' is the law's where the arguments, and the package variables that the reading takes, are together of bulk at most 1048576: NARROWER than '..Said'. Prove '..Said' where nothing that the law and all that it calls make is longer than what came in: it says more and counts as full. Else prove '..UptoSaid'. A law counts once. -/
mutual
def uptoBulk {H : Type} : DataW H → Nat
  | .lit (.string bytes) => bytes.length + 1
  | .lit _ => 1
  | .nil => 1
  | .ptr d => uptoBulk d + 1
  | .slice elems spare => uptoBulkAll elems + uptoBulkAll spare + 1
  | .agg parts => uptoBulkAll parts + 1
  | .iface _ d => uptoBulk d + 1
  | .map entries => uptoBulkEntries entries + 1
  | .held _ => 1
def uptoBulkAll {H : Type} : List (DataW H) → Nat
  | [] => 0
  | d :: r => uptoBulk d + uptoBulkAll r
def uptoBulkEntries {H : Type} : List (Lit × DataW H) → Nat
  | [] => 0
  | x :: r => uptoBulkEntry x + uptoBulkEntries r
def uptoBulkEntry {H : Type} : Lit × DataW H → Nat
  | (.string bytes, d) => bytes.length + uptoBulk d + 1
  | (_, d) => uptoBulk d + 1
 end
def uptoSmall : (H : Type) → List (DataW H) → Bool := fun _ ds => decide (uptoBulkAll ds ≤ 1048576)
def OpenSpec.upto (s : _root_.Go.ChangeSpec) : _root_.Go.OpenSpec := { _root_.Go.OpenSpec.ofChange s with cond := some uptoSmall }

/-- 'rentrolllaw.NatPlays', WHERE WHAT IT READS IS OF BULK AT MOST 1048576: true; the input reads as it did. -/
def natPlaysUptoRow : OpenClaim := { program := "ytnkpgdejagglaaagreatdoor", sum := "080e1e144a97e885a8092b2a9a3d5032de699290f0127a0dd75bbab233688cbd", func := "rentroll/rentrolllaw.NatPlays", spec := "natPlays", unfollowed := true, recurses := true, named := ["rentroll/record.parts"], plainKeys := false, apart := false, laid := [("rentroll/record.parts", laid_rentroll_record_parts)], narrowed := true }
def NatPlaysUptoSaid : Prop := natPlaysUptoRow.holds Tryz.pinned (OpenSpec.upto natPlaysSpec)

/-- 'rentrolllaw.NatRuns', WHERE WHAT IT READS IS OF BULK AT MOST 1048576: true; the input reads as it did. -/
def natRunsUptoRow : OpenClaim := { program := "ytnkpgdejagglaaagreatdoor", sum := "080e1e144a97e885a8092b2a9a3d5032de699290f0127a0dd75bbab233688cbd", func := "rentroll/rentrolllaw.NatRuns", spec := "natRuns", unfollowed := true, recurses := true, named := ["rentroll/record.parts"], plainKeys := false, apart := false, laid := [("rentroll/record.parts", laid_rentroll_record_parts)], narrowed := true }
def NatRunsUptoSaid : Prop := natRunsUptoRow.holds Tryz.pinned (OpenSpec.upto natRunsSpec)

end Rows
end Go.Proofs.YtnkpgdejagglaaaGreatDoor
