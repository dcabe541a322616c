/-
  Of what a law stands on.
-/
import Derived.Test.YtonnjgmognbnbaaGreatDoorZtTpB
set_option linter.unusedSimpArgs false
set_option linter.unusedVariables false
namespace Go.Proofs.YtonnjgmognbnbaaGreatDoor
open _root_.Go.Proofs.Tryz Go.ChangeShapes Go.WideShapes Go.ChangeAt Go.RowKit
set_option maxHeartbeats 16000000
set_option maxRecDepth 100000
variable {s:Nt}
theorem qs2(s:Nt)(k:Nat):Same s { s with acts:=k }:=⟨rfl,rfl,rfl,rfl,rfl,rfl⟩
theorem qwz(h:Ci s)(a:Ac)(hc:(s.act a).1.code≠0)(hi:a.kd=1->bad a.fr.data.toList=0->¬(0<=(qam a.fr.data.toList).dst-3405803777/\(qam a.fr.data.toList).dst-3405803777<3)):(s.act a).1.lg=ByteArray.empty/\Same s (s.act a).2:=by
 unfold Nt.act at hc ⊢
 by_cases h3:300<=s.acts
 ·rw[if_pos h3];exact⟨rfl,Same.refl _⟩
 rw[if_neg h3] at hc ⊢
 have hs:=qs2 s (s.acts+1);have hC:=h.acts (s.acts+1)
 generalize({ s with acts:=s.acts+1 }:Nt)=t at *
 dsimp only at hc ⊢
 by_cases h1:a.kd=1
 ·rw[if_pos h1] at hc ⊢
  rcases qtv hC a.fr.data.toList a.dr with⟨_,h4,h5⟩|⟨hb,hp,ht,_,u,k,hU,hm,hr,_,_,_,_,ec,_⟩
  ·exact⟨h4,hs.trans h5⟩
  ·have hn:=hi h1 hb
   rw[←hr] at hn
   rw[ec,(qtr hU hm hb hp ht hn).1] at hc
   exact absurd rfl hc
 rw[if_neg h1] at hc ⊢
 by_cases h2:a.kd=2
 ·rw[if_pos h2] at hc ⊢
  rcases qoj hC a.fr.data.toList with⟨e,_,h5⟩|⟨m,_,_,_,_,_,_,h5⟩
  ·rw[h5];exact⟨rfl,hs⟩
  ·rw[h5] at hc;exact absurd rfl hc
 rw[if_neg h2] at hc ⊢
 by_cases h3':a.kd=3
 ·rw[if_pos h3'] at hc ⊢
  unfold Nt.tick at hc ⊢
  split
  ·exact⟨rfl,hs⟩
  ·next hn=>rw[if_neg hn] at hc;exact absurd rfl hc
 rw[if_neg h3'] at hc ⊢
 have dr:∀b,(t.drain a.n b).1.code≠0->(t.drain a.n b).1.lg=ByteArray.empty/\Same s (t.drain a.n b).2:=fun b hd=>by
  refine⟨rfl,hs.trans ⟨rfl,?_,rfl,rfl,rfl,rfl⟩⟩
  show qg3 t.g a.n b=t.g
  have hd':qfu t.g a.n b≠0:=hd
  unfold qg3;rw[if_neg hd']
 by_cases h4:a.kd=4
 ·rw[if_pos h4] at hc ⊢;exact dr true hc
 rw[if_neg h4] at hc ⊢
 by_cases h5:a.kd=5
 ·rw[if_pos h5] at hc ⊢;exact dr false hc
 rw[if_neg h5] at hc ⊢
 exact⟨rfl,hs⟩
theorem q7y(h:Ci s)(a:Ac)(h1:a.kd=1)(hc:(s.act a).1.code=0)(hn:(s.act a).1.inn=false):
  ∃m,bad a.fr.data.toList=0/\m∈(s.act a).2.ms/\(s.act a).2.ms.find? (inS (qam a.fr.data.toList).proto ((qam a.fr.data.toList).src-167772161) (qam a.fr.data.toList).sport)=some m/\(0<=m.2.2.2.1/\m.2.2.2.1<3)/\(1024<=m.2.2.2.2/\m.2.2.2.2<1072)/\(0<=(qam a.fr.data.toList).src-167772161/\(qam a.fr.data.toList).src-167772161<8)/\
   (s.act a).2.f (qa7 m)=(qam a.fr.data.toList).src-167772160/\good (turned (qam a.fr.data.toList) 0 (3405803777+m.2.2.2.1) m.2.2.2.2)=0/\(s.act a).1.fr=txt (frame (turned (qam a.fr.data.toList) 0 (3405803777+m.2.2.2.1) m.2.2.2.2)):=by
 have hA:=h.act a
 unfold Nt.act at hc hn hA ⊢
 by_cases h3:300<=s.acts
 ·rw[if_pos h3] at hc;exact absurd (show(6:Int)=0 from hc) om
 rw[if_neg h3] at hc hn hA ⊢
 have hC:=h.acts (s.acts+1)
 generalize({ s with acts:=s.acts+1 }:Nt)=t at *
 dsimp only at hc hn hA ⊢
 rw[if_pos h1] at hc hn hA ⊢
 generalize a.fr.data.toList=l at *
 rcases qtv hC l a.dr with⟨h4,_⟩|⟨hb,hp,ht,hsub,u,k,hU,hm,hr,_,k1,k2,k3,ec,ef,ei,es⟩
 ·exact absurd hc h4
 ·by_cases hin:0<=k.rem-3405803777/\k.rem-3405803777<3
  ·rw[ei,qur hin] at hn
   rw[ec,qur hin] at hc
   rcases qoj hU (qc5 l 0 (3405803777+k.a) k.port).data.toList with⟨e,he,h5⟩|⟨m,_,_,_,_,_,_,h5⟩
   ·rw[h5] at hc;exact absurd hc he
   ·rw[h5] at hn;exact absurd hn zm
  ·obtain⟨hl,hg⟩:=qtr hU hm hb hp ht hin
   rw[hl] at ef es
   (have hm':flM k∈(t.out l a.dr).2.ms:=by rw[es.ms];exact hm)
   obtain⟨_,_,_,q4,q5,_,q7⟩:=hA.good.maps.1 _ hm'
   have hf:=q35 hA.good.maps.2 hm';have k1':(flM k).1=(qam l).proto:=k1;have k2':(flM k).2.1=(qam l).src-167772161:=k2;have k3':(flM k).2.2.1=(qam l).sport:=k3
   rw[k1',k2',k3'] at hf
   refine⟨flM k,hb,hm',hf,q5,q4,hsub,?_,hg,ef⟩
   have q7':(t.out l a.dr).2.f (qa7 (flM k))=(flM k).2.1+1:=q7
   rw[q7',k2'];omega
theorem q9i(h:Ci s)(a:Ac)(h2:a.kd=2):((s.act a).1.code≠0/\(s.act a).1.fr=ByteArray.empty/\Same s (s.act a).2)\/
  ∃m,bad a.fr.data.toList=0/\m∈s.ms/\s.ms.find? (outS (qam a.fr.data.toList).proto ((qam a.fr.data.toList).dst-3405803777) (qam a.fr.data.toList).dport)=some m/\good (turned (qam a.fr.data.toList) 1 (167772161+m.2.1) m.2.2.1)=0/\(0<=(qam a.fr.data.toList).dst-3405803777/\(qam a.fr.data.toList).dst-3405803777<3)/\
   (s.act a).1=⟨0,txt (frame (turned (qam a.fr.data.toList) 1 (167772161+m.2.1) m.2.2.1)),true,ByteArray.empty⟩/\(s.act a).2.f=s.f/\(s.act a).2.g=s.g/\(s.act a).2.h=s.h/\(s.act a).2.ms=s.ms:=by
 unfold Nt.act
 by_cases h3:300<=s.acts
 ·rw[if_pos h3];exact .inl ⟨by show ¬(6:Int)=0;omega,rfl,Same.refl _⟩
 rw[if_neg h3];have hC:=h.acts (s.acts+1);have hs:=qs2 s (s.acts+1)
 generalize({ s with acts:=s.acts+1 }:Nt)=t at *
 dsimp only
 rw[if_neg om,if_pos h2]
 generalize a.fr.data.toList=l at *
 rcases qoj hC l with⟨e,he,h5⟩|⟨m,hm,hf,hb,hd,hl,hg,h5⟩
 ·rw[h5];exact .inl ⟨he,rfl,hs⟩
 ·obtain⟨e1,e2,e3,e4,_⟩:=qw5 t (qam l) m
  rw[h5]
  exact .inr ⟨m,hb,by rw[←hs.ms];exact hm,by rw[←hs.ms];exact hf,hg,hd,rfl,e1.trans hs.f,e2.trans hs.g,e3.trans hs.h,e4.trans hs.ms⟩
end Go.Proofs.YtonnjgmognbnbaaGreatDoor
