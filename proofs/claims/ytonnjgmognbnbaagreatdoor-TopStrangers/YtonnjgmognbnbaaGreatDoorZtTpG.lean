/-
  Of what a law stands on.
-/
import Derived.Test.YtonnjgmognbnbaaGreatDoorZtTpR
set_option linter.unusedSimpArgs false
set_option linter.unusedVariables false
namespace Go.Proofs.YtonnjgmognbnbaaGreatDoor
open _root_.Go.Proofs.Tryz Go.ChangeShapes Go.WideShapes Go.ChangeAt Go.RowKit
set_option maxHeartbeats 16000000
set_option maxRecDepth 100000
variable {s:Nt}{a fport from_ port:Int}
theorem qbkb(s:Nt)(p:Pkt)(m:Mp):(s.letIn p m).2.loose=s.loose:=by
 unfold Nt.letIn
 split
 ·rfl
 ·split
  ·rfl
  ·split<;>rfl
theorem qbgb(s:Nt)(l:List UInt8):(s.inn l).2.loose=s.loose:=by
 unfold Nt.inn
 split
 ·rfl
 split
 ·rfl
 split
 ·rfl
 split
 ·rfl
 split
 ·rfl
 ·split<;>exact qbkb _ _ _
theorem qbdb(s:Nt)(l:List UInt8)(k:Fl):(s.leave l k).2.loose=s.loose:=by
 unfold Nt.leave
 split
 ·exact qbgb _ _
 ·rfl
theorem qbfb(s:Nt)(es:List Ev):(s.log es).2.loose=s.loose:=by
 unfold Nt.log
 split<;>rfl
theorem qbcb(s:Nt)(l:List UInt8)(why:Int):(s.refuse l why).2.loose=s.loose:=by
 unfold Nt.refuse
 split<;>rfl
theorem qbjb(s:Nt)(l:List UInt8)(p:Pkt)(sub draw:Int):(s.first l p sub draw).2.loose=s.loose:=by
 unfold Nt.first
 split
 ·exact qbcb _ _ _
 ·generalize qba s.f s.g s.h s.ms p.proto sub p.sport draw=o
  dsimp only
  split
  ·exact qbcb _ _ _
  ·have h2:=qbdb ((s.setT o.f o.h o.ms).begin (mkF o.m p.dst p.dport (qao p.proto))) l (mkF o.m p.dst p.dport (qao p.proto))
   split
   ·show(Nt.log _ _).2.loose=s.loose
    rw[qbfb];exact h2
   ·exact h2
theorem qbpb(s:Nt)(l:List UInt8)(draw:Int):(s.out l draw).2.loose=s.loose:=by
 unfold Nt.out
 split
 ·rfl
 split
 ·rfl
 split
 ·rfl
 split
 ·rfl
 split
 ·exact qbdb _ _ _
 ·split
  ·rfl
  ·exact qbjb _ _ _ _ _
theorem qbob(h:Ci s)(a:Ac):(s.act a).2.loose=s.loose:=by
 unfold Nt.act
 split
 ·rfl
 ·dsimp only
  split
  ·exact qbpb { s with acts:=s.acts+1 } _ _
  split
  ·exact qbgb { s with acts:=s.acts+1 } _
  split
  ·unfold Nt.tick
   split
   ·rfl
   ·dsimp only
    rw[qbfb]
    exact(qsn (h.acts (s.acts+1)) a.n).rest.2.2.2.2.2.2
  split
  ·rfl
  split
  ·rfl
  ·rfl
theorem qbmb{k:Nat}(h:NInv s k)(l:List Ac)(hl:k+l.length<=300):(s.runs l).loose=s.loose:=by
 induction l generalizing s k with
 | nil=>rfl
 | cons a r ih=>
  rw[List.length_cons] at hl
  have:=ih (h.act om a) om
  have e:s.runs (a::r)=((s.act a).2).runs r:=rfl;rw[e,this,qbob h.ci a]
def pS(a port from_ fport:Int):Pkt:=⟨17,from_,fport,3405803777+a,port,9,0,0,0,0,0,ByteArray.empty⟩
def metF(a port from_:Int)(k:Fl):Bool:=k.pr==17&&k.a==a&&k.port==port&&k.rem==from_
theorem qblb(ha:0<=a/\a<3)(hp:1024<=port/\port<1072)(hf:0<=from_/\from_<=4294967295)(hq:0<=fport/\fport<=65535):good (pS a port from_ fport)=0:=by
 (have h1:qdc (pS a port from_ fport).proto=true:=by show qdc 17=true;decide);have h2:qht (pS a port from_ fport)=true:=(qdu _).2 (by simp only[pS];omega);(have h3:¬64<(pS a port from_ fport).body.size:=by show ¬(64<ByteArray.empty.size);simp);(have h4:qiz (pS a port from_ fport)=true:=(qjo _).2 ⟨fun h=>absurd h (by simp[pS]),fun _=>by simp[pS]⟩)
 unfold good
 rw[if_neg (by rw[h1];simp),if_neg (by rw[h2];simp),if_neg h3,if_neg (by rw[h4];simp)]
theorem qbsb(s:Nt)(a port from_:Int):(s.fs.any fun x=>metF a port from_ x.2)=true↔∃x∈s.fs,x.2.pr=17/\x.2.a=a/\x.2.port=port/\x.2.rem=from_:=by
 rw[List.any_eq_true]
 constructor
 ·rintro⟨x,hx,h⟩
  unfold metF at h
  simp only[Bool.and_eq_true,beq_iff_eq] at h
  exact⟨x,hx,h.1.1.1,h.1.1.2,h.1.2,h.2⟩
 ·rintro⟨x,hx,h1,h2,h3,h4⟩
  refine⟨x,hx,?_⟩
  unfold metF
  rw[h1,h2,h3,h4]
  simp
theorem qbib(h:Ci s)(hl:s.loose=false)(hk:s.acts<300)(ha:0<=a/\a<3)(hp:1024<=port/\port<1072)(hf:0<=from_/\from_<=4294967295)(hq:0<=fport/\fport<=65535):
  ((s.fs.any fun x=>metF a port from_ x.2)=false->((s.act ⟨2,0,0,txt (frame (pS a port from_ fport))⟩).1.code=7\/(s.act ⟨2,0,0,txt (frame (pS a port from_ fport))⟩).1.code=11)/\(s.act ⟨2,0,0,txt (frame (pS a port from_ fport))⟩).1.fr=ByteArray.empty/\Same s (s.act ⟨2,0,0,txt (frame (pS a port from_ fport))⟩).2)/\
  ((s.fs.any fun x=>metF a port from_ x.2)=true->(s.act ⟨2,0,0,txt (frame (pS a port from_ fport))⟩).1.code=0\/((s.act ⟨2,0,0,txt (frame (pS a port from_ fport))⟩).1.code=11/\s.fs.length=48)):=by
 have hg:=qblb ha hp hf hq
 obtain⟨hb,_⟩:=qev _ hg
 have hP:qam (frame (pS a port from_ fport))=pS a port from_ fport:=ql1 _ hg _ _;have hs:=qs2 s (s.acts+1);have hC:=h.acts (s.acts+1);have hl':({ s with acts:=s.acts+1 }:Nt).loose=false:=hl
 have eA:s.act ⟨2,0,0,txt (frame (pS a port from_ fport))⟩=Nt.inn { s with acts:=s.acts+1 } (frame (pS a port from_ fport)):=by
  unfold Nt.act
  rw[if_neg om]
  dsimp only
  rw[if_neg (by decide),if_pos rfl,qds]
 rw[eA];clear eA;have hA:=qbsb s a port from_;have hfs:({ s with acts:=s.acts+1 }:Nt).fs=s.fs:=rfl
 rw[←hfs] at hA ⊢
 generalize({ s with acts:=s.acts+1 }:Nt)=t at *
 (have p1:(pS a port from_ fport).dst-3405803777=a:=by show 3405803777+a-3405803777=a;omega);have p2:(pS a port from_ fport).proto=17:=rfl;have p3:(pS a port from_ fport).ttl=9:=rfl;have p4:(pS a port from_ fport).dport=port:=rfl;have p5:(pS a port from_ fport).src=from_:=rfl;(have hpp:¬((qam (frame (pS a port from_ fport))).proto==1&&(qam (frame (pS a port from_ fport))).flags != 0)=true:=by rw[hP,p2];simp);(have htt:(qam (frame (pS a port from_ fport))).ttl≠1:=by rw[hP,p3];decide);(have hin:¬ ¬(0<=(qam (frame (pS a port from_ fport))).dst-3405803777/\(qam (frame (pS a port from_ fport))).dst-3405803777<3):=by rw[hP,p1];exact fun hh=>hh ha)
 unfold Nt.inn
 rw[if_neg (fun hh=>hh hb),if_neg hin,if_neg hpp,if_neg htt]
 cases hfi:t.ms.find? (outS (qam (frame (pS a port from_ fport))).proto ((qam (frame (pS a port from_ fport))).dst-3405803777) (qam (frame (pS a port from_ fport))).dport) with
 | none=>
  refine⟨fun _=>⟨.inl rfl,rfl,hs⟩,fun hm=>?_⟩
  obtain⟨x,hx,x1,x2,x3,x4⟩:=hA.1 hm
  have:=List.find?_eq_none.1 hfi (flM x.2) (hC.mem x hx)
  exact absurd ((qup _ _ _ _).2 ⟨by rw[hP,p2];exact x1,by rw[hP,p1];exact x2,by rw[hP,p4];exact x3⟩) this
 | some m=>
  have hm:=List.mem_of_find?_eq_some hfi;obtain⟨m1,m2,m3⟩:=(qup _ _ _ _).1 (List.find?_some hfi)
  rw[hP,p2] at m1
  rw[hP,p1] at m2
  rw[hP,p4] at m3
  obtain⟨_,q2,q3,_⟩:=hC.good.maps.1 m hm
  have hE:=q5l hb hpp htt q2 q3
  have key:∀x∈t.fs,qey (pS a port from_ fport) m x.2=true↔(x.2.pr=17/\x.2.a=a/\x.2.port=port/\x.2.rem=from_):=fun x hx=>by
   unfold qey
   rw[Bool.and_eq_true,beq_iff_eq,beq_iff_eq,p5]
   constructor
   ·rintro⟨e,r⟩
    refine⟨?_,?_,?_,r⟩
    ·rw[←m1,←e];rfl
    ·rw[←m2,←e];rfl
    ·rw[←m3,←e];rfl
   ·rintro⟨e1,e2,e3,r⟩
    refine⟨?_,r⟩
    have b1:=qbeb hC.good.maps.2 (hC.mem x hx);have b2:=qbeb hC.good.maps.2 hm;(have c1:(flM x.2).1=m.1:=by rw[m1];exact e1);(have c2:(flM x.2).2.2.2.1=m.2.2.2.1:=by rw[m2];exact e2);(have c3:(flM x.2).2.2.2.2=m.2.2.2.2:=by rw[m3];exact e3)
    rw[c1,c2,c3,b2] at b1
    exact(Option.some.inj b1).symm
  simp only
  rw[hP,hE];have hpf:(pS a port from_ fport).proto=17:=rfl
  by_cases hme:∃x,t.find (qio (pS a port from_ fport) m)=some x
  ·obtain⟨x,hx⟩:=hme;(have e0:(t.letIn (pS a port from_ fport) m).1=0:=by unfold Nt.letIn;rw[hx]);rw[if_neg (fun hh=>hh e0)]
   refine⟨fun hn=>?_,fun _=>.inl rfl⟩
   obtain⟨x1,x2⟩:=qjj hx
   unfold qio at x2
   rw[Bool.and_eq_true] at x2
   have:=hA.2 ⟨x,x1,(key x x1).1 x2.1⟩
   rw[hn] at this
   cases this
  ·have hno:t.find (qio (pS a port from_ fport) m)=none:=by
    cases hc:t.find (qio (pS a port from_ fport) m) with
    | none=>rfl
    | some x=>exact absurd ⟨x,hc⟩ hme
   cases hkn:t.find (qey (pS a port from_ fport) m) with
   | none=>
    have e11:t.letIn (pS a port from_ fport) m=(11,t):=by
     unfold Nt.letIn;rw[hno];simp only;rw[if_pos (by rw[hl',hkn];rfl)]
    rw[e11]
    simp only
    rw[if_pos (by decide)]
    refine⟨fun _=>⟨.inr rfl,rfl,hs⟩,fun hm'=>?_⟩
    obtain⟨x,hx,hh⟩:=hA.1 hm'
    have:=qqq hkn x hx
    rw[(key x hx).2 hh] at this
    cases this
   | some y=>
    obtain⟨y1,y2⟩:=qjj hkn;have hyes:=hA.2 ⟨y,y1,(key y y1).1 y2⟩
    refine⟨fun hn=>(by rw[hn] at hyes;cases hyes),fun _=>?_⟩
    by_cases hfull:t.full=true
    ·have e11:t.letIn (pS a port from_ fport) m=(11,t):=by
      unfold Nt.letIn;rw[hno];simp only;rw[if_neg (by rw[hl',hkn];simp),if_pos (by rw[hfull];simp)]
     rw[e11]
     simp only
     rw[if_pos (by decide)]
     refine .inr ⟨rfl,?_⟩
     have:=hC.few
     unfold Nt.full at hfull
     have:=of_decide_eq_true hfull
     omega
    ·have e0:(t.letIn (pS a port from_ fport) m).1=0:=by
      unfold Nt.letIn;rw[hno];simp only;rw[if_neg (by rw[hl',hkn];simp),if_neg (by rw[hpf];simpa using hfull)]
     rw[if_neg (fun hh=>hh e0)]
     exact .inl rfl
end Go.Proofs.YtonnjgmognbnbaaGreatDoor
