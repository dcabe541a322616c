/-
  No cell of these rows narrows 'for every input' (looked for: loops, veiled, ifaces, maps, wideKeys, modest, calm, conditions, laid).
  DERIVED. THE GIVEN ROWS OF THIS SEAT. 6 by the template 'for every input the law returns true; each argument reads behind the call as it read before'; 0 by the template 'total and deterministic' (their statements: YtcfdbmcmemdafaaTotals.lean).
  GIVEN WITH THE SEED: the statements are not yours to turn. If you find one false, say at which input.
  Laid BY PROGRAM, IN A SANDBOX (cutbox-rows.mjs): the forced cells as the released guide's own fill.sh prints them over the translation b8db0324408afc37… (all of the seat's roots in one cut). By AI agents, Wed Nov 11 2026. No macro, syntax, notation, axiom, sorry.
-/
import Derived.Test.YtcfdbmcmemdafaaChecked
import GoSem.Claim
import GoSem.ClaimJoined
import GoSem.ClaimMapViews
import Derived.JoinedTies
import Derived.KernelRfl
namespace Go.Proofs.Ytcfdbmcmemdafaa
/- THE CELL 'sum', in the pinned program and in every row, IS THE sha256 OF THE DUMP (.gsa) THAT YtcfdbmcmemdafaaProg.lean LOADS. Nothing in Lean hashes anything: it is a label: what it is worth is what the hold of that sum in a sandbox is worth. -/
noncomputable def Try.pinned : Pinned := { name := "ytcfdbmcmemdafaa", sum := "b8db0324408afc37649fa4e55a4c2e65bcde1c1c1b2166652bb2ff65a52ebf96", checked := Try.checked }
namespace Rows
def none {H : Type} : Left H := { results := [], args := [] }

/-- 'rentrolllaw.SumsOf': WHATEVER THE INPUT: true; the input reads as it did. -/
def sumsOfSpec : ChangeSpec := { name := "sumsOf", fn := fun _ => fun
  | [d] => { results := [.lit (.bool true)], args := [d] }
  | _ => none }
def sumsOfRow : OpenClaim := { program := "ytcfdbmcmemdafaa", sum := "b8db0324408afc37649fa4e55a4c2e65bcde1c1c1b2166652bb2ff65a52ebf96", func := "rentroll/rentrolllaw.SumsOf", spec := "sumsOf", apart := false }
def SumsOfSaid : Prop := sumsOfRow.holds Try.pinned (OpenSpec.ofChange sumsOfSpec)

/-- ITS FALSE NEIGHBOUR: 'it returns false'. Refute it at one input. -/
def sumsOfWrong : ChangeSpec := { name := "sumsOf", fn := fun _ => fun
  | [d] => { results := [.lit (.bool false)], args := [d] }
  | _ => none }
def SumsOfWrongFalsely : Prop := sumsOfRow.holds Try.pinned (OpenSpec.ofChange sumsOfWrong)

/-- 'rentrolllaw.SumsUpdate': WHATEVER THE INPUT: true; the input reads as it did. -/
def sumsUpdateSpec : ChangeSpec := { name := "sumsUpdate", fn := fun _ => fun
  | [d1, d2, d3] => { results := [.lit (.bool true)], args := [d1, d2, d3] }
  | _ => none }
def sumsUpdateRow : OpenClaim := { program := "ytcfdbmcmemdafaa", sum := "b8db0324408afc37649fa4e55a4c2e65bcde1c1c1b2166652bb2ff65a52ebf96", func := "rentroll/rentrolllaw.SumsUpdate", spec := "sumsUpdate", apart := false }
def SumsUpdateSaid : Prop := sumsUpdateRow.holds Try.pinned (OpenSpec.ofChange sumsUpdateSpec)

/-- ITS FALSE NEIGHBOUR: 'it returns false'. Refute it at one input. -/
def sumsUpdateWrong : ChangeSpec := { name := "sumsUpdate", fn := fun _ => fun
  | [d1, d2, d3] => { results := [.lit (.bool false)], args := [d1, d2, d3] }
  | _ => none }
def SumsUpdateWrongFalsely : Prop := sumsUpdateRow.holds Try.pinned (OpenSpec.ofChange sumsUpdateWrong)

/-- 'rentrollkeep.SumsWhole': WHATEVER THE INPUT: true; the input reads as it did. -/
def sumsWholeSpec : ChangeSpec := { name := "sumsWhole", fn := fun _ => fun
  | [d1, d2] => { results := [.lit (.bool true)], args := [d1, d2] }
  | _ => none }
def sumsWholeRow : OpenClaim := { program := "ytcfdbmcmemdafaa", sum := "b8db0324408afc37649fa4e55a4c2e65bcde1c1c1b2166652bb2ff65a52ebf96", func := "rentroll/rentrollkeep.SumsWhole", spec := "sumsWhole", apart := false }
def SumsWholeSaid : Prop := sumsWholeRow.holds Try.pinned (OpenSpec.ofChange sumsWholeSpec)

/-- ITS FALSE NEIGHBOUR: 'it returns false'. Refute it at one input. -/
def sumsWholeWrong : ChangeSpec := { name := "sumsWhole", fn := fun _ => fun
  | [d1, d2] => { results := [.lit (.bool false)], args := [d1, d2] }
  | _ => none }
def SumsWholeWrongFalsely : Prop := sumsWholeRow.holds Try.pinned (OpenSpec.ofChange sumsWholeWrong)

/-- 'rentrollkeep.SumsSwap': WHATEVER THE INPUT: true; the input reads as it did. -/
def sumsSwapSpec : ChangeSpec := { name := "sumsSwap", fn := fun _ => fun
  | [d1, d2, d3] => { results := [.lit (.bool true)], args := [d1, d2, d3] }
  | _ => none }
def sumsSwapRow : OpenClaim := { program := "ytcfdbmcmemdafaa", sum := "b8db0324408afc37649fa4e55a4c2e65bcde1c1c1b2166652bb2ff65a52ebf96", func := "rentroll/rentrollkeep.SumsSwap", spec := "sumsSwap", apart := false }
def SumsSwapSaid : Prop := sumsSwapRow.holds Try.pinned (OpenSpec.ofChange sumsSwapSpec)

/-- ITS FALSE NEIGHBOUR: 'it returns false'. Refute it at one input. -/
def sumsSwapWrong : ChangeSpec := { name := "sumsSwap", fn := fun _ => fun
  | [d1, d2, d3] => { results := [.lit (.bool false)], args := [d1, d2, d3] }
  | _ => none }
def SumsSwapWrongFalsely : Prop := sumsSwapRow.holds Try.pinned (OpenSpec.ofChange sumsSwapWrong)

/-- 'rentrollkeep.SumsChange': WHATEVER THE INPUT: true; the input reads as it did. -/
def sumsChangeSpec : ChangeSpec := { name := "sumsChange", fn := fun _ => fun
  | [d1, d2, d3, d4] => { results := [.lit (.bool true)], args := [d1, d2, d3, d4] }
  | _ => none }
def sumsChangeRow : OpenClaim := { program := "ytcfdbmcmemdafaa", sum := "b8db0324408afc37649fa4e55a4c2e65bcde1c1c1b2166652bb2ff65a52ebf96", func := "rentroll/rentrollkeep.SumsChange", spec := "sumsChange", apart := false }
def SumsChangeSaid : Prop := sumsChangeRow.holds Try.pinned (OpenSpec.ofChange sumsChangeSpec)

/-- ITS FALSE NEIGHBOUR: 'it returns false'. Refute it at one input. -/
def sumsChangeWrong : ChangeSpec := { name := "sumsChange", fn := fun _ => fun
  | [d1, d2, d3, d4] => { results := [.lit (.bool false)], args := [d1, d2, d3, d4] }
  | _ => none }
def SumsChangeWrongFalsely : Prop := sumsChangeRow.holds Try.pinned (OpenSpec.ofChange sumsChangeWrong)

/-- 'rentrolllaw.WireBuilds': WHATEVER THE INPUT: true; the input reads as it did. -/
def wireBuildsSpec : ChangeSpec := { name := "wireBuilds", fn := fun _ => fun
  | [d] => { results := [.lit (.bool true)], args := [d] }
  | _ => none }
def wireBuildsRow : OpenClaim := { program := "ytcfdbmcmemdafaa", sum := "b8db0324408afc37649fa4e55a4c2e65bcde1c1c1b2166652bb2ff65a52ebf96", func := "rentroll/rentrolllaw.WireBuilds", spec := "wireBuilds", unfollowed := true, recurses := true, apart := false }
def WireBuildsSaid : Prop := wireBuildsRow.holds Try.pinned (OpenSpec.ofChange wireBuildsSpec)

/-- ITS FALSE NEIGHBOUR: 'it returns false'. Refute it at one input. -/
def wireBuildsWrong : ChangeSpec := { name := "wireBuilds", fn := fun _ => fun
  | [d] => { results := [.lit (.bool false)], args := [d] }
  | _ => none }
def WireBuildsWrongFalsely : Prop := wireBuildsRow.holds Try.pinned (OpenSpec.ofChange wireBuildsWrong)

/- THE SECOND FORM. 'bulk': how many values and letters a reading holds, each counted each time it is reached (what is shared counts as often as it is met; a slice's spare places count too). A statement '..UptoSaid' is the law's where the arguments, and the package variables that the reading takes, are together of bulk at most 1048576: NARROWER than '..Said'. Prove '..Said' where nothing that the law and all that it calls make is longer than what came in: it says more and counts as full. Else prove '..UptoSaid'. A law counts once. -/
mutual
def uptoBulk {H : Type} : DataW H → Nat
  | .lit (.string bytes) => bytes.length + 1
  | .lit _ => 1
  | .nil => 1
  | .ptr d => uptoBulk d + 1
  | .slice elems spare => uptoBulkAll elems + uptoBulkAll spare + 1
  | .agg parts => uptoBulkAll parts + 1
  | .iface _ d => uptoBulk d + 1
  | .map entries => uptoBulkEntries entries + 1
  | .held _ => 1
def uptoBulkAll {H : Type} : List (DataW H) → Nat
  | [] => 0
  | d :: r => uptoBulk d + uptoBulkAll r
def uptoBulkEntries {H : Type} : List (Lit × DataW H) → Nat
  | [] => 0
  | x :: r => uptoBulkEntry x + uptoBulkEntries r
def uptoBulkEntry {H : Type} : Lit × DataW H → Nat
  | (.string bytes, d) => bytes.length + uptoBulk d + 1
  | (_, d) => uptoBulk d + 1
 end
def uptoSmall : (H : Type) → List (DataW H) → Bool := fun _ ds => decide (uptoBulkAll ds ≤ 1048576)
def OpenSpec.upto (s : _root_.Go.ChangeSpec) : _root_.Go.OpenSpec := { _root_.Go.OpenSpec.ofChange s with cond := some uptoSmall }

/-- 'rentrolllaw.SumsOf', WHERE WHAT IT READS IS OF BULK AT MOST 1048576: true; the input reads as it did. -/
def sumsOfUptoRow : OpenClaim := { program := "ytcfdbmcmemdafaa", sum := "b8db0324408afc37649fa4e55a4c2e65bcde1c1c1b2166652bb2ff65a52ebf96", func := "rentroll/rentrolllaw.SumsOf", spec := "sumsOf", apart := false, narrowed := true }
def SumsOfUptoSaid : Prop := sumsOfUptoRow.holds Try.pinned (OpenSpec.upto sumsOfSpec)

/-- 'rentrolllaw.SumsUpdate', WHERE WHAT IT READS IS OF BULK AT MOST 1048576: true; the input reads as it did. -/
def sumsUpdateUptoRow : OpenClaim := { program := "ytcfdbmcmemdafaa", sum := "b8db0324408afc37649fa4e55a4c2e65bcde1c1c1b2166652bb2ff65a52ebf96", func := "rentroll/rentrolllaw.SumsUpdate", spec := "sumsUpdate", apart := false, narrowed := true }
def SumsUpdateUptoSaid : Prop := sumsUpdateUptoRow.holds Try.pinned (OpenSpec.upto sumsUpdateSpec)

/-- 'rentrollkeep.SumsWhole', WHERE WHAT IT READS IS OF BULK AT MOST 1048576: true; the input reads as it did. -/
def sumsWholeUptoRow : OpenClaim := { program := "ytcfdbmcmemdafaa", sum := "b8db0324408afc37649fa4e55a4c2e65bcde1c1c1b2166652bb2ff65a52ebf96", func := "rentroll/rentrollkeep.SumsWhole", spec := "sumsWhole", apart := false, narrowed := true }
def SumsWholeUptoSaid : Prop := sumsWholeUptoRow.holds Try.pinned (OpenSpec.upto sumsWholeSpec)

/-- 'rentrollkeep.SumsSwap', WHERE WHAT IT READS IS OF BULK AT MOST 1048576: true; the input reads as it did. -/
def sumsSwapUptoRow : OpenClaim := { program := "ytcfdbmcmemdafaa", sum := "b8db0324408afc37649fa4e55a4c2e65bcde1c1c1b2166652bb2ff65a52ebf96", func := "rentroll/rentrollkeep.SumsSwap", spec := "sumsSwap", apart := false, narrowed := true }
def SumsSwapUptoSaid : Prop := sumsSwapUptoRow.holds Try.pinned (OpenSpec.upto sumsSwapSpec)

/-- 'rentrollkeep.SumsChange', WHERE WHAT IT READS IS OF BULK AT MOST 1048576: true; the input reads as it did. -/
def sumsChangeUptoRow : OpenClaim := { program := "ytcfdbmcmemdafaa", sum := "b8db0324408afc37649fa4e55a4c2e65bcde1c1c1b2166652bb2ff65a52ebf96", func := "rentroll/rentrollkeep.SumsChange", spec := "sumsChange", apart := false, narrowed := true }
def SumsChangeUptoSaid : Prop := sumsChangeUptoRow.holds Try.pinned (OpenSpec.upto sumsChangeSpec)

/-- 'rentrolllaw.WireBuilds', WHERE WHAT IT READS IS OF BULK AT MOST 1048576: true; the input reads as it did. -/
def wireBuildsUptoRow : OpenClaim := { program := "ytcfdbmcmemdafaa", sum := "b8db0324408afc37649fa4e55a4c2e65bcde1c1c1b2166652bb2ff65a52ebf96", func := "rentroll/rentrolllaw.WireBuilds", spec := "wireBuilds", unfollowed := true, recurses := true, apart := false, narrowed := true }
def WireBuildsUptoSaid : Prop := wireBuildsUptoRow.holds Try.pinned (OpenSpec.upto wireBuildsSpec)

end Rows
end Go.Proofs.Ytcfdbmcmemdafaa
