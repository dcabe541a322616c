/-
  Of what a law stands on.
-/
import Derived.Test.YtnicenfgemkdnaaGreatDoorZuTpB
set_option linter.unusedSimpArgs false
set_option linter.unusedVariables false
namespace Go.Proofs.YtnicenfgemkdnaaGreatDoor
open _root_.Go.Proofs.Tryz
set_option maxHeartbeats 16000000
set_option maxRecDepth 100000
open Go.ChangeShapes Go.WideShapes Go.ChangeAt Go.RowKit
theorem qs2 (s:Nt) (k:Nat):Same s { s with acts:=k }:=⟨rfl,rfl,rfl,rfl,rfl,rfl⟩
end Go.Proofs.YtnicenfgemkdnaaGreatDoor
