/-
  Of what a law stands on.
-/
import Derived.Test.YtnicenfgemkdnaaGreatDoorZun10
set_option linter.unusedSimpArgs false
set_option linter.unusedVariables false
namespace Go.Proofs.YtnicenfgemkdnaaGreatDoor
open _root_.Go.Proofs.Tryz
set_option maxHeartbeats 16000000
set_option maxRecDepth 100000
open Go.ChangeShapes Go.WideShapes Go.ChangeAt Go.RowKit
structure Same (s t:Nt):Prop where
 f:t.f=s.f
 g:t.g=s.g
 h:t.h=s.h
 ms:t.ms=s.ms
 fs:t.fs=s.fs
 now:t.now=s.now
theorem Same.refl (s:Nt):Same s s:=⟨rfl,rfl,rfl,rfl,rfl,rfl⟩
theorem Same.trans {s t u:Nt} (h:Same s t) (k:Same t u):Same s u:=⟨k.f.trans h.f,k.g.trans h.g,k.h.trans h.h,k.ms.trans h.ms,k.fs.trans h.fs,k.now.trans h.now⟩
theorem q5l {l:List UInt8} {a q:Int} (hb:bad l=0) (hp:¬ ((qam l).proto == 1 && (qam l).flags != 0)=true) (ht:(qam l).ttl≠1) (ha:0≤a∧a<8) (hq:0≤q∧q≤65535):qcb l 1 (167772161+a) q=0:=by
 have h1:qeb (167772161+a)=true:=by unfold qeb;rw [decide_eq_true_eq];omega
 have h2:qc7 q=true:=by unfold qc7;rw [decide_eq_true_eq];omega
 unfold qcb
 rw [if_neg om,if_neg om,if_neg (by rw [h1];simp),if_neg (by rw [h2];simp),if_neg ht,if_neg]
 rintro ⟨h3,h4⟩
 apply h4
 rw [h3] at hp
 simp at hp
 rw [hp];rfl
end Go.Proofs.YtnicenfgemkdnaaGreatDoor
