/-
  Of what a law stands on.
-/
import Derived.Test.YtonnjgmognbnbaaGreatDoorZtTpA
set_option linter.unusedSimpArgs false
set_option linter.unusedVariables false
namespace Go.Proofs.YtonnjgmognbnbaaGreatDoor
open _root_.Go.Proofs.Tryz Go.ChangeShapes Go.WideShapes Go.ChangeAt Go.RowKit
set_option maxHeartbeats 16000000
set_option maxRecDepth 100000
variable {g:Nat->Bool}{f f':Nat->Int}
def Dry(g:Nat->Bool)(f f':Nat->Int):Prop:=∀x,x<3->g x=true->∀k,k<6->f' (6*x+k)≠0->f' (6*x+k)=f (6*x+k)
theorem Dry.refl(g:Nat->Bool)(f:Nat->Int):Dry g f f:=fun _ _ _ _ _ _=>rfl
theorem Dry.trans{f'':Nat->Int}(h:Dry g f f')(k:Dry g f' f''):Dry g f f'':=fun x hx hg i hi hn=>by
 have e:=k x hx hg i hi hn
 rw[e] at hn ⊢
 exact h x hx hg i hi hn
theorem qccb{s a d:Int}(h0:qdh f g s a=0):Dry g f (qi1 f g s a d):=fun x hx hg k hk hn=>by
 have hE:=h0
 unfold qdh at hE
 by_cases h1:qcv f=true
 ·rw[if_pos h1] at hE
  by_cases h2:inR a 3=true/\inR s 8=true
  ·rw[if_pos h2] at hE
   by_cases h3:g a.toNat=true
   ·rw[if_pos h3] at hE;omega
   ·rw[if_neg h3] at hE
    by_cases h4:(qbo (rowF f a.toNat)).length=0
    ·rw[if_pos h4] at hE;omega
    unfold qi1
    rw[if_pos h0]
    have hk6:qft f g s a d<6:=by
     unfold qft;rw[if_pos h0]
     exact(qj8 _ _ (qiu _ _ om)).1
    unfold upd
    rw[if_neg];intro e
    have:x=a.toNat:=by omega
    rw[this] at hg
    exact h3 hg
  ·rw[if_neg h2] at hE;omega
 ·rw[if_neg h1] at hE;omega
theorem qceb(f:Nat->Int)(g:Nat->Bool)(h:Nat->Int)(ms:List Mp)(p s d:Int):Dry g f (qbe f g h ms p s d).f:=by
 unfold qbe
 split
 ·exact Dry.refl _ _
 ·split
  ·exact Dry.refl _ _
  ·split
   ·split
    ·next h0=>exact qccb h0
    ·exact Dry.refl _ _
   ·exact Dry.refl _ _
theorem qcdb(f:Nat->Int)(g:Nat->Bool)(h:Nat->Int)(ms:List Mp)(p s i d:Int):Dry g f (qba f g h ms p s i d).f:=by
 unfold qba
 split
 ·split
  ·exact Dry.refl _ _
  ·split
   ·exact Dry.refl _ _
   ·split
    ·exact Dry.refl _ _
    ·exact qceb _ _ _ _ _ _ _
 ·exact Dry.refl _ _
theorem qb9b(g:Nat->Bool)(f h:Nat->Int)(ms:List Mp)(m:Mp):Dry g f (qe1 f h ms m).1:=by
 unfold qe1
 split
 ·exact Dry.refl _ _
 ·intro x hx hg k hk hn
  show qdx f m (6*x+k)=_
  have hn':qdx f m (6*x+k)≠0:=hn
  unfold qdx upd at hn' ⊢
  split
  ·next e=>rw[if_pos e] at hn';exact absurd rfl hn'
  ·rfl
theorem qb5b(s:Nt)(m:Mp):Dry s.g s.f (s.closeU m).2.f/\(s.closeU m).2.g=s.g:=by
 unfold Nt.closeU
 split
 ·exact⟨Dry.refl _ _,rfl⟩
 ·exact⟨qb9b _ _ _ _ _,rfl⟩
theorem qb4b(a:List Ev×Nt)(i:Int):Dry a.2.g a.2.f (qeg a i).2.f/\(qeg a i).2.g=a.2.g:=qb5b (a.2.endF i).2 _
theorem qcbb(l:List Int):∀a:List Ev×Nt,Dry a.2.g a.2.f (l.foldl qeg a).2.f/\(l.foldl qeg a).2.g=a.2.g:=by
 induction l with
 | nil=>exact fun a=>⟨Dry.refl _ _,rfl⟩
 | cons i r ih=>
  intro a;have h1:=qb4b a i;have h2:=ih (qeg a i);rw[List.foldl_cons]
  rw[h1.2] at h2
  exact⟨h1.1.trans h2.1,h2.2⟩
theorem qckb(s:Nt)(es:List Ev):(s.log es).2.f=s.f:=by
 unfold Nt.log
 split<;>rfl
theorem qcob(s:Nt)(p:Pkt)(m:Mp):(s.letIn p m).2.f=s.f:=by
 unfold Nt.letIn
 split
 ·rfl
 ·split
  ·rfl
  ·split<;>rfl
theorem qcjb(s:Nt)(l:List UInt8):(s.inn l).2.f=s.f:=by
 unfold Nt.inn
 split
 ·rfl
 split
 ·rfl
 split
 ·rfl
 split
 ·rfl
 split
 ·rfl
 ·split<;>exact qcob _ _ _
theorem qb3b(s:Nt)(l:List UInt8)(k:Fl):(s.leave l k).2.f=s.f:=by
 unfold Nt.leave
 split
 ·exact qcjb _ _
 ·rfl
theorem qbzb(s:Nt)(l:List UInt8)(why:Int):(s.refuse l why).2.f=s.f:=by
 unfold Nt.refuse
 split<;>rfl
theorem qbvb(h:f'=f):Dry g f f':=by rw[h];exact Dry.refl _ _
theorem qb8b(s:Nt)(l:List UInt8)(p:Pkt)(sub draw:Int):Dry s.g s.f (s.first l p sub draw).2.f:=by
 unfold Nt.first
 split
 ·exact qbvb (qbzb _ _ _)
 ·have ho:=qcdb s.f s.g s.h s.ms p.proto sub p.sport draw
  generalize qba s.f s.g s.h s.ms p.proto sub p.sport draw=o at *
  dsimp only
  split
  ·exact qbvb (qbzb _ _ _)
  ·have h2:(((s.setT o.f o.h o.ms).begin (mkF o.m p.dst p.dport (qao p.proto))).leave l (mkF o.m p.dst p.dport (qao p.proto))).2.f=o.f:=qb3b _ _ _
   split
   ·show Dry s.g s.f (Nt.log _ _).2.f
    rw[qckb,h2];exact ho
   ·rw[h2];exact ho
theorem qcnb(s:Nt)(l:List UInt8)(draw:Int):Dry s.g s.f (s.out l draw).2.f:=by
 unfold Nt.out
 split
 ·exact Dry.refl _ _
 split
 ·exact Dry.refl _ _
 split
 ·exact Dry.refl _ _
 split
 ·exact Dry.refl _ _
 split
 ·exact qbvb (qb3b _ _ _)
 ·split
  ·exact Dry.refl _ _
  ·exact qb8b _ _ _ _ _
theorem qcfb(s:Nt)(n:Int):Dry s.g s.f (s.tick n).2.f:=by
 unfold Nt.tick
 split
 ·exact Dry.refl _ _
 ·dsimp only
  rw[qckb]
  exact(qcbb _ ([],{ s with left:=min (s.left+n.toNat) 4,now:=s.now+n })).1
theorem qcpb(s:Nt)(a:Ac):Dry s.g s.f (s.act a).2.f:=by
 unfold Nt.act
 split
 ·exact Dry.refl _ _
 ·dsimp only
  split
  ·exact qcnb { s with acts:=s.acts+1 } _ _
  split
  ·exact qbvb (qcjb _ _)
  split
  ·exact qcfb { s with acts:=s.acts+1 } _
  split
  ·exact Dry.refl _ _
  split
  ·exact Dry.refl _ _
  ·exact Dry.refl _ _
end Go.Proofs.YtonnjgmognbnbaaGreatDoor
