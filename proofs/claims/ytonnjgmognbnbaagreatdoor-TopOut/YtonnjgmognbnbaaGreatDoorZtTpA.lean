/-
  Of what a law stands on.
-/
import Derived.Test.YtonnjgmognbnbaaGreatDoorZto1
set_option linter.unusedSimpArgs false
set_option linter.unusedVariables false
namespace Go.Proofs.YtonnjgmognbnbaaGreatDoor
open _root_.Go.Proofs.Tryz Go.ChangeShapes Go.WideShapes Go.ChangeAt Go.RowKit
set_option maxHeartbeats 16000000
set_option maxRecDepth 100000
variable {s:Nt}
def Sent(r:Rp):Prop:=r.fr=ByteArray.empty\/(r.code=0/\∃k,good k=0/\r.fr=txt (frame k))
def Told(l:List UInt8)(r:Rp):Prop:=r.code≠0/\r.inn=true/\bad l=0/\∃id:Int,r.fr=txt (qff (qam l).src id (l.take 28))
theorem qbt(e:Int):Sent (qas e):=.inl rfl
theorem qti(l:List UInt8)(side a p:Int)(i:Bool)(lg:ByteArray):Sent ⟨qcb l side a p,qc5 l side a p,i,lg⟩:=by
 by_cases h:qcb l side a p=0
 ·obtain⟨_,e,hg,_⟩:=qnc l side a p h
  exact .inr ⟨h,_,hg,e⟩
 ·refine .inl ?_
  show qc5 l side a p=_
  unfold qc5;rw[if_neg h]
theorem qqs(s:Nt)(l:List UInt8):Sent (s.inn l).1:=by
 unfold Nt.inn
 split
 ·exact qbt _
 split
 ·exact qbt _
 split
 ·exact qbt _
 split
 ·exact qbt _
 split
 ·exact qbt _
 ·split
  ·exact qbt _
  ·exact qti _ _ _ _ _ _
theorem qkq(s:Nt)(l:List UInt8)(k:Fl):Sent (s.leave l k).1:=by
 unfold Nt.leave
 split
 ·exact qqs _ _
 ·exact qti _ _ _ _ _ _
theorem qoe(s:Nt)(l:List UInt8){why:Int}(hw:why≠0)(hb:bad l=0):Sent (s.refuse l why).1\/Told l (s.refuse l why).1:=by
 unfold Nt.refuse
 split
 ·exact .inl (qbt _)
 ·by_cases h:refE l (s.left:Int)=0
  ·refine .inr ⟨hw,rfl,hb,(s.left:Int),?_⟩
   show refS l _=_
   unfold refS;rw[if_pos h]
  ·refine .inl (.inl ?_)
   show refS l _=_
   unfold refS;rw[if_neg h]
theorem qxm(s:Nt)(l:List UInt8)(p:Pkt)(sub draw:Int)(hb:bad l=0):Sent (s.first l p sub draw).1\/Told l (s.first l p sub draw).1:=by
 unfold Nt.first
 split
 ·exact qoe s l om hb
 ·generalize qba s.f s.g s.h s.ms p.proto sub p.sport draw=o
  dsimp only
  split
  ·next h=>exact qoe s l h hb
  ·refine .inl ?_
   have:=qkq ((s.setT o.f o.h o.ms).begin (mkF o.m p.dst p.dport (qao p.proto))) l (mkF o.m p.dst p.dport (qao p.proto))
   split
   ·exact this
   ·exact this
theorem q1o(s:Nt)(l:List UInt8)(draw:Int):Sent (s.out l draw).1\/Told l (s.out l draw).1:=by
 unfold Nt.out
 by_cases hb:bad l≠0
 ·rw[if_pos hb];exact .inl (qbt _)
 rw[if_neg hb]
 split
 ·exact .inl (qbt _)
 split
 ·exact .inl (qbt _)
 split
 ·exact .inl (qbt _)
 split
 ·exact .inl (qkq _ _ _)
 ·split
  ·exact .inl (qbt _)
  ·exact qxm s l _ _ _ om
theorem qtb(s:Nt)(n:Int):(s.tick n).1.fr=ByteArray.empty:=by
 unfold Nt.tick
 split
 ·rfl
 ·rfl
theorem qtc(s:Nt)(a:Ac):Sent (s.act a).1\/(a.kd=1/\Told a.fr.data.toList (s.act a).1):=by
 unfold Nt.act
 split
 ·exact .inl (qbt _)
 ·dsimp only
  split
  ·next h=>
   rcases q1o { s with acts:=s.acts+1 } a.fr.data.toList a.dr with h1|h1
   ·exact .inl h1
   ·exact .inr ⟨h,h1⟩
  split
  ·exact .inl (qqs _ _)
  split
  ·exact .inl (.inl (qtb _ _))
  split
  ·exact .inl (qbt _)
  split
  ·exact .inl (qbt _)
  ·exact .inl (qbt _)
theorem q02(s:Nt)(p:Pkt)(m:Mp):(s.letIn p m).2.left=s.left:=by
 unfold Nt.letIn
 split
 ·rfl
 ·split
  ·rfl
  ·split<;>rfl
theorem qu8(s:Nt)(l:List UInt8):(s.inn l).2.left=s.left:=by
 unfold Nt.inn
 split
 ·rfl
 split
 ·rfl
 split
 ·rfl
 split
 ·rfl
 split
 ·rfl
 ·split<;>exact q02 _ _ _
theorem qri(s:Nt)(l:List UInt8)(k:Fl):(s.leave l k).2.left=s.left:=by
 unfold Nt.leave
 split
 ·exact qu8 _ _
 ·rfl
theorem qwe(s:Nt)(es:List Ev):(s.log es).2.left=s.left:=by
 unfold Nt.log
 split<;>rfl
def qrx(s:Nt)(r:Rp×Nt):Prop:=r.2.left<=s.left/\(r.1.code≠0->r.1.fr≠ByteArray.empty->r.2.left+1<=s.left)
theorem qdk{r:Rp×Nt}(h1:Sent r.1)(h2:r.2.left=s.left):qrx s r:=by
 refine⟨by omega,fun h3 h4=>?_⟩
 rcases h1 with h|h
 ·exact absurd h h4
 ·exact absurd h.1 h3
theorem qow(s:Nt)(l:List UInt8)(why:Int):qrx s (s.refuse l why):=by
 unfold Nt.refuse
 split
 ·exact qdk (qbt _) rfl
 ·refine⟨?_,fun _ _=>?_⟩
  ·show s.left-1<=s.left;omega
  ·show s.left-1+1<=s.left;omega
theorem qwu(s:Nt)(l:List UInt8)(p:Pkt)(sub draw:Int):qrx s (s.first l p sub draw):=by
 unfold Nt.first
 split
 ·exact qow s l _
 ·generalize qba s.f s.g s.h s.ms p.proto sub p.sport draw=o
  dsimp only
  split
  ·exact qow s l _
  ·have h1:=qkq ((s.setT o.f o.h o.ms).begin (mkF o.m p.dst p.dport (qao p.proto))) l (mkF o.m p.dst p.dport (qao p.proto));have h2:=qri ((s.setT o.f o.h o.ms).begin (mkF o.m p.dst p.dport (qao p.proto))) l (mkF o.m p.dst p.dport (qao p.proto))
   split
   ·refine qdk h1 ?_
    show(Nt.log _ _).2.left=s.left
    rw[qwe];exact h2
   ·exact qdk h1 h2
theorem q3i(s:Nt)(l:List UInt8)(draw:Int):qrx s (s.out l draw):=by
 unfold Nt.out
 split
 ·exact qdk (qbt _) rfl
 split
 ·exact qdk (qbt _) rfl
 split
 ·exact qdk (qbt _) rfl
 split
 ·exact qdk (qbt _) rfl
 split
 ·exact qdk (qkq _ _ _) (qri _ _ _)
 ·split
  ·exact qdk (qbt _) rfl
  ·exact qwu _ _ _ _ _
theorem q16(h:Ci s)(a:Ac):(a.kd≠3->qrx s (s.act a))/\(a.kd=3->(s.act a).1.fr=ByteArray.empty/\((s.act a).1.code=0->1<=a.n/\((s.act a).2.left:Int)<=(s.left:Int)+min a.n 4)/\((s.act a).1.code≠0->(s.act a).2.left=s.left)):=by
 unfold Nt.act
 split
 ·refine⟨fun _=>qdk (qbt _) rfl,fun _=>⟨rfl,fun h=>absurd h ?_,fun _=>rfl⟩⟩
  show ¬(6:Int)=0
  omega
 ·dsimp only
  refine⟨fun h3=>?_,fun h3=>?_⟩
  ·split
   ·exact q3i { s with acts:=s.acts+1 } _ _
   split
   ·exact qdk (qqs _ _) (qu8 _ _)
   try rw[if_neg h3]
   split
   ·exact qdk (qbt _) rfl
   split
   ·exact qdk (qbt _) rfl
   ·exact qdk (qbt _) rfl
  ·rw[if_neg om,if_neg om,if_pos h3]
   refine⟨qtb _ _,?_⟩
   unfold Nt.tick
   split
   ·refine⟨fun h=>absurd h ?_,fun _=>rfl⟩
    show ¬(2:Int)=0
    omega
   ·next hn=>
    refine⟨fun _=>⟨by omega,?_⟩,fun h=>absurd rfl h⟩
    have F:=(qsn (h.acts (s.acts+1)) a.n).rest.2.1
    dsimp only
    rw[qwe];have e:(qbu (Nt.later { s with acts:=s.acts+1 } a.n) (Nt.dueL { s with acts:=s.acts+1 } ({ s with acts:=s.acts+1:Nt }.now+a.n))).2.left=min (s.left+a.n.toNat) 4:=F
    have e2:((qbu (Nt.later { s with acts:=s.acts+1 } a.n) (Nt.dueL { s with acts:=s.acts+1 } ({ s with acts:=s.acts+1:Nt }.now+a.n))).2.left:Int)<=(s.left:Int)+min a.n 4:=by
     rw[e]
     have:=h.left
     simp only at hn
     omega
    exact e2
end Go.Proofs.YtonnjgmognbnbaaGreatDoor
