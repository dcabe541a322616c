/-
  Of what a law stands on.
-/
import Derived.Test.YtnicenfgemkdnaaGreatDoorZvn9
set_option linter.unusedSimpArgs false
set_option linter.unusedVariables false
namespace Go.Proofs.YtnicenfgemkdnaaGreatDoor
open _root_.Go.Proofs.Tryz
set_option maxHeartbeats 16000000
set_option maxRecDepth 100000
open Go.ChangeShapes Go.WideShapes Go.ChangeAt Go.RowKit
structure Same(s t:Nt):Prop where
 f:t.f=s.f
 g:t.g=s.g
 h:t.h=s.h
 ms:t.ms=s.ms
 fs:t.fs=s.fs
 now:t.now=s.now
theorem Same.refl(s:Nt):Same s s:=⟨rfl,rfl,rfl,rfl,rfl,rfl⟩
theorem Same.trans{s t u:Nt}(h:Same s t)(k:Same t u):Same s u:=⟨k.f.trans h.f,k.g.trans h.g,k.h.trans h.h,k.ms.trans h.ms,k.fs.trans h.fs,k.now.trans h.now⟩
end Go.Proofs.YtnicenfgemkdnaaGreatDoor
