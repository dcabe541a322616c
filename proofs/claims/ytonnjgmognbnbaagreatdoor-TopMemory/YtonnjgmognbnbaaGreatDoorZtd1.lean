/-
  Of what a law stands on.
-/
import Derived.Laws.MakeOwn
import Derived.Laws.AppendOwnNone
import Derived.Maps.AppendAt
import Derived.Test.YtonnjgmognbnbaaGreatDoorZtp2
import Derived.Test.YtonnjgmognbnbaaGreatDoorZtb1
set_option linter.unusedSimpArgs false
set_option linter.unusedVariables false
namespace Go.Proofs.YtonnjgmognbnbaaGreatDoor
open Go.Value renaming int → I,pointer → V
open Go.IntKind renaming i64 → Z
open _root_.Go.Proofs.Tryz Go.ChangeShapes Go.WideShapes Go.ChangeAt Go.RowKit
set_option maxHeartbeats 16000000
set_option maxRecDepth 100000
variable {a:Act}{q s x:Int}{B b b7 base c i j n size:Nat}{p:Prop}{f h:Nat->Int}{l:List Nat}{g:Nat->Bool}{w w' w0:World}{sl v:Value}{ops:Array Oper}{rest:List Oper}{o:Oper}{Q:Exit->Act->World->Prop}{e t:TypeId}{xs:List Value}{cs:Array Value}{S:World->Prop}
abbrev Mp:=Int×Int×Int×Int×Int
def isP(p:Int):Bool:=p==1||p==6||p==17
theorem qo8(p:Int):isP p=true↔p=1\/p=6\/p=17:=by simp[isP,or_assoc]
def qdi(a q:Int):Nat:=6*a.toNat+((q-1024)/8).toNat
theorem qsy{a:Int}(ha:0<=a/\a<3)(hq:1024<=q/\q<1072):qdi a q<18:=by unfold qdi;omega
theorem qrg{a b r:Int}(ha:0<=a/\a<3)(hq:1024<=q/\q<1072)(hb:0<=b/\b<3)(hr:1024<=r/\r<1072):qdi a q=qdi b r↔a=b/\(q-1024)/8=(r-1024)/8:=by unfold qdi;omega
def qdb(f h:Nat->Int)(m:Mp):Prop:=
 isP m.1=true/\(0<=m.2.1/\m.2.1<8)/\(0<=m.2.2.1/\m.2.2.1<=65535)/\(1024<=m.2.2.2.2/\m.2.2.2.2<1072)/\(0<=m.2.2.2.1/\m.2.2.2.1<3)/\h m.2.1.toNat=m.2.2.2.1+1/\f (qdi m.2.2.2.1 m.2.2.2.2)=m.2.1+1
def inS(p s i:Int)(o:Mp):Bool:=o.1==p&&o.2.1==s&&o.2.2.1==i
def outS(p a q:Int)(o:Mp):Bool:=o.1==p&&o.2.2.2.1==a&&o.2.2.2.2==q
theorem qsm(p s i:Int)(o:Mp):inS p s i o=true↔o.1=p/\o.2.1=s/\o.2.2.1=i:=by simp[inS,and_assoc]
theorem qup(p a q:Int)(o:Mp):outS p a q o=true↔o.1=p/\o.2.2.2.1=a/\o.2.2.2.2=q:=by simp[outS,and_assoc]
def qc0(ms:List Mp)(m:Mp):Bool:=ms.any fun o=>inS m.1 m.2.1 m.2.2.1 o||outS m.1 m.2.2.2.1 m.2.2.2.2 o
def qa7(m:Mp):Nat:=qdi m.2.2.2.1 m.2.2.2.2
def MsOk(f h:Nat->Int)(ms:List Mp):Prop:=(∀m∈ms,qdb f h m)/\ms.Pairwise (fun o m=>qc0 [o] m=false)
theorem qvg(f h:Nat->Int):MsOk f h []:=⟨fun m hm=>by simp at hm,List.Pairwise.nil⟩
theorem qi6{ms:List Mp}{m:Mp}:qc0 ms m=false↔∀o∈ms,qc0 [o] m=false:=by
 simp[qc0]
theorem qof(f h:Nat->Int)(ms:List Mp)(m:Mp):MsOk f h (ms++[m])↔MsOk f h ms/\qdb f h m/\qc0 ms m=false:=by
 unfold MsOk
 rw[List.pairwise_append,qi6]
 constructor
 ·rintro⟨h1,h2,_,h3⟩
  exact⟨⟨fun o ho=>h1 o (by simp[ho]),h2⟩,h1 m zm,fun o ho=>h3 o ho m zm⟩
 ·rintro⟨⟨h1,h2⟩,h3,h4⟩
  refine⟨fun o ho=>?_,h2,by simp,fun o ho x hx=>?_⟩
  ·rcases List.mem_append.1 ho with h|h
   ·exact h1 o h
   ·rw[List.mem_singleton.1 h];exact h3
  ·rw[List.mem_singleton.1 hx];exact h4 o ho
def qd0(f:Nat->Int)(ms:List Mp):Nat->Int:=fun k=>if (ms.any fun m=>qa7 m==k)=true then f k else 0
def qdq(h:Nat->Int)(ms:List Mp):Nat->Int:=fun k=>if (ms.any fun m=>m.2.1.toNat==k)=true then h k else 0
theorem q09(f:Nat->Int):qd0 f []=fun _=>0:=by funext k;simp[qd0]
theorem q3t(f:Nat->Int):qdq f []=fun _=>0:=by funext k;simp[qdq]
theorem sZtd113(h:p:=by
 rw[if_neg e,List.any_append];simp only[List.any_cons,List.any_nil,this,Bool.or_false]):p:=h
theorem qyv{ms:List Mp}{m:Mp}(hs:qdb f h m):upd (qd0 f ms) (qa7 m) (m.2.1+1)=qd0 f (ms++[m]):=by
 funext k
 unfold upd qd0
 by_cases e:k=qa7 m
 ·subst e;simp[qa7,hs.2.2.2.2.2.2]
 ·have:(qa7 m==k)=false:=by simp;omega
  exact sZtd113
theorem qy1{ms:List Mp}{m:Mp}(hs:qdb f h m):upd (qdq h ms) m.2.1.toNat (m.2.2.2.1+1)=qdq h (ms++[m]):=by
 funext k
 unfold upd qdq
 by_cases e:k=m.2.1.toNat
 ·subst e;simp[hs.2.2.2.2.2.1]
 ·have:(m.2.1.toNat==k)=false:=by simp;omega
  exact sZtd113
def qbk(f:Nat->Int)(s:Int):List Nat:=(List.range 18).filter fun n=>f n==s+1
def cntM(ms:List Mp)(s:Int):Nat:=(ms.filter fun m=>m.2.1==s).length
theorem qjt(f:Nat->Int)(s:Int)(n:Nat):n∈qbk f s↔n<18/\f n=s+1:=by simp[qbk]
structure qbq(f h:Nat->Int)(ms:List Mp):Prop where
 pool:qcv f=true
 maps:MsOk f h ms
 own:∀k,k<18->f k≠0->∃m∈ms,qa7 m=k
 home:∀s,s<8->h s≠0->∃m∈ms,m.2.1.toNat=s
 few:∀s:Nat,s<8->(qbk f s).length<=2/\cntM ms s<=12
theorem q3f{ms:List Mp}:(∀k,k<18->qd0 f ms k=f k)↔∀k,k<18->f k≠0->∃m∈ms,qa7 m=k:=by
 refine forall_congr' fun k=>forall_congr' fun hk=>?_
 unfold qd0
 by_cases e:(ms.any fun m=>qa7 m==k)=true
 ·have:∃m∈ms,qa7 m=k:=by simpa using e
  simp[e,this]
 ·have:¬ ∃m∈ms,qa7 m=k:=by simpa using e
  rw[if_neg e]
  constructor
  ·intro h1 h2;exact absurd h1.symm h2
  ·intro h1
   by_cases h0:f k=0
   ·exact h0.symm
   ·exact absurd (h1 h0) this
theorem q2y{ms:List Mp}:(∀k,k<8->qdq h ms k=h k)↔∀k,k<8->h k≠0->∃m∈ms,m.2.1.toNat=k:=by
 refine forall_congr' fun k=>forall_congr' fun hk=>?_
 unfold qdq
 by_cases e:(ms.any fun m=>m.2.1.toNat==k)=true
 ·have:∃m∈ms,m.2.1.toNat=k:=by simpa using e
  simp[e,this]
 ·have:¬ ∃m∈ms,m.2.1.toNat=k:=by simpa using e
  rw[if_neg e]
  constructor
  ·intro h1 h2;exact absurd h1.symm h2
  ·intro h1
   by_cases h0:h k=0
   ·exact h0.symm
   ·exact absurd (h1 h0) this
theorem ql6{ms:List Mp}:qbq f h ms↔qcv f=true/\MsOk f h ms/\(∀k,k<18->qd0 f ms k=f k)/\(∀k,k<8->qdq h ms k=h k)/\∀s:Nat,s<8->(qbk f s).length<=2/\cntM ms s<=12:=by
 rw[q3f,q2y]
 exact⟨fun x=>⟨x.pool,x.maps,x.own,x.home,x.few⟩,fun x=>⟨x.1,x.2.1,x.2.2.1,x.2.2.2.1,x.2.2.2.2⟩⟩
theorem qdb.lt{m:Mp}(x:qdb f h m):qa7 m<18:=qsy x.2.2.2.2.1 x.2.2.2.1
theorem sZtd17(h:p:=by
 unfold cntM at *
 rw[List.filter_append,List.length_append]
 by_cases e:m.2.1=(s:Int)
 ·rw[e] at hc
  simp[e];omega
 ·simp[e,h12]):p:=h
theorem q4h{ms:List Mp}{m:Mp}(G:qbq f h ms)(hs:qdb f h m)(hm:qc0 ms m=false)(hc:cntM ms m.2.1≠12):qbq f h (ms++[m]):=by
 refine⟨G.pool,(qof f h ms m).2 ⟨G.maps,hs,hm⟩,fun k hk h0=>?_,fun s h8 h0=>?_,fun s h8=>⟨(G.few s h8).1,?_⟩⟩
 ·obtain⟨o,ho,e⟩:=G.own k hk h0;exact⟨o,by simp[ho],e⟩
 ·obtain⟨o,ho,e⟩:=G.home s h8 h0;exact⟨o,by simp[ho],e⟩
 ·have h12:=(G.few s h8).2
  exact sZtd17
theorem qps(hn:n<18)(h0:f n≠s+1):(qbk (upd f n x) s).length=(qbk f s).length+if x=s+1 then 1 else 0:=by
 have key:∀N,((List.range N).filter fun k=>upd f n x k==s+1).length=((List.range N).filter fun k=>f k==s+1).length+if n<N/\x=s+1 then 1 else 0:=by
  intro N
  induction N with
  | zero=>simp
  | succ N ih=>
   rw[List.range_succ,List.filter_append,List.filter_append,List.length_append,List.length_append,ih]
   by_cases e:N=n
   ·subst e
    (have h0':(f N==s+1)=false:=by simp[h0])
    by_cases hx:x=s+1
    ·simp[upd,hx,h0']
    ·(have hx':(x==s+1)=false:=by simp[hx])
     simp[upd,hx,h0',hx']
   ·(have e1:upd f n x N=f N:=by simp[upd,e])
    simp only[List.filter,e1]
    by_cases hx:x=s+1
    ·(have e2:(n<N+1)=(n<N):=by apply propext;omega)
     simp only[hx,e2];omega
    ·simp[hx]
 unfold qbk
 rw[key 18]
 simp[hn]
theorem q1f{ms:List Mp}{m:Mp}(G:qbq f h ms)(h0:f (qa7 m)=0)(hp:isP m.1=true)(hsb:0<=m.2.1/\m.2.1<8)(hi:0<=m.2.2.1/\m.2.2.1<=65535)(hq:1024<=m.2.2.2.2/\m.2.2.2.2<1072)(ha:0<=m.2.2.2.1/\m.2.2.2.1<3)(hh:h m.2.1.toNat=0\/h m.2.1.toNat=m.2.2.2.1+1)(hf:ms.any (inS m.1 m.2.1 m.2.2.1)=false)(hc:cntM ms m.2.1≠12)(hb:(qbk f m.2.1).length<2):qbq (upd f (qa7 m) (m.2.1+1)) (upd h m.2.1.toNat (m.2.2.2.1+1)) (ms++[m]):=by
 have hpl:qa7 m<18:=qsy ha hq;(have hst:qdb (upd f (qa7 m) (m.2.1+1)) (upd h m.2.1.toNat (m.2.2.2.1+1)) m:=⟨hp,hsb,hi,hq,ha,by simp[upd],by simp[upd,qa7]⟩)
 have hold:∀o∈ms,qdb (upd f (qa7 m) (m.2.1+1)) (upd h m.2.1.toNat (m.2.2.2.1+1)) o:=by
  intro o ho;have so:=G.maps.1 o ho
  refine⟨so.1,so.2.1,so.2.2.1,so.2.2.2.1,so.2.2.2.2.1,?_,?_⟩
  ·have:=so.2.2.2.2.2.1
   unfold upd
   split
   ·rename_i e
    rcases hh with hh|hh
    ·rw[←e] at hh;rw[hh] at this;have:=so.2.2.2.2.1;omega
    ·rw[←e] at hh;rw[hh] at this;omega
   ·exact this
  ·have e7:=so.2.2.2.2.2.2
   unfold upd
   split
   ·rename_i e
    (have e':f (qa7 m)=o.2.1+1:=by rw[←e];exact e7)
    have:=so.2.1;omega
   ·exact e7
 have hmm:qc0 ms m=false:=by
  rw[qi6];intro o ho
  have hin:inS m.1 m.2.1 m.2.2.1 o=false:=by
   have:=List.any_eq_false.1 hf o ho
   simpa using this
  have hout:outS m.1 m.2.2.2.1 m.2.2.2.2 o=false:=by
   cases hx:outS m.1 m.2.2.2.1 m.2.2.2.2 o with
   | false=>rfl
   | true=>
    obtain⟨_,e1,e2⟩:=(qup _ _ _ _).1 hx
    have so:=G.maps.1 o ho;have e7:=so.2.2.2.2.2.2
    have:qdi o.2.2.2.1 o.2.2.2.2=qa7 m:=by rw[e1,e2];rfl
    rw[this,h0] at e7
    have:=so.2.1;omega
  simp[qc0,hin,hout]
 refine⟨qnj ?_,(qof _ _ ms m).2 ⟨⟨hold,G.maps.2⟩,hst,hmm⟩,fun k hk hk0=>?_,fun s h8 hs0=>?_,fun s h8=>⟨?_,?_⟩⟩
 ·intro i hi'
  have:=qki G.pool i hi'
  unfold upd
  split<;>omega
 ·by_cases e:k=qa7 m
  ·exact⟨m,by simp,e.symm⟩
  ·obtain⟨o,ho,e'⟩:=G.own k hk (by simpa[upd,e] using hk0);exact⟨o,by simp[ho],e'⟩
 ·by_cases e:s=m.2.1.toNat
  ·exact⟨m,by simp,e.symm⟩
  ·obtain⟨o,ho,e'⟩:=G.home s h8 (by simpa[upd,e] using hs0);exact⟨o,by simp[ho],e'⟩
 ·rw[qps hpl om]
  have:=(G.few s h8).1
  by_cases e:m.2.1=(s:Int)
  ·rw[e] at hb;simp[e];omega
  ·(have e':¬(m.2.1+1=(s:Int)+1):=by omega)
   rw[if_neg e'];omega
 ·have h12:=(G.few s h8).2
  exact sZtd17
def qa6(ms:List Mp)(m:Mp):List Mp:=ms.filter fun o=>o != m
theorem q3n{ms:List Mp}{m:Mp}:(qa6 ms m).length=ms.length↔m ∉ ms:=by
 unfold qa6
 rw[List.length_filter_eq_length_iff]
 constructor
 ·intro h hm;have:=h m hm;simp at this
 ·intro h o ho;simp;rintro rfl;exact h ho
theorem qqg{ms:List Mp}(G:MsOk f h ms):ms.Pairwise (fun o m=>o≠m):=by
 refine G.2.imp ?_
 rintro o m hm rfl
 simp[qc0,inS] at hm
theorem qnu{ms:List Mp}{m:Mp}(hp:ms.Pairwise (fun o m=>o≠m))(hm:m∈ms):(qa6 ms m).length+1=ms.length:=by
 induction ms with
 | nil=>simp at hm
 | cons x xs ih=>
  rw[List.pairwise_cons] at hp
  by_cases e:x=m
  ·subst e
   (have hno:x ∉ xs:=fun hx=>hp.1 x hx rfl)
   have:=q3n.2 hno
   unfold qa6 at *
   simp[this]
  ·have hm':m∈xs:=by
    rcases List.mem_cons.1 hm with h|h
    ·exact absurd h.symm e
    ·exact h
   have:=ih hp.2 hm'
   unfold qa6 at *
   (have e':(x != m)=true:=by simp[e])
   simp[List.filter,e'];omega
theorem q1v{ms:List Mp}{m:Mp}(G:qbq f h ms)(hm:m∈ms)(ha:(qa6 ms m).any (fun o=>qa7 o==qa7 m)=true):qbq f h (qa6 ms m):=by
 have sub:(qa6 ms m).Sublist ms:=List.filter_sublist;(have mem:∀o,o∈qa6 ms m↔o∈ms/\o≠m:=by intro o;simp[qa6]);have sm:=G.maps.1 m hm
 obtain⟨o,ho,e⟩:∃o∈qa6 ms m,qa7 o=qa7 m:=by simpa using ha
 have so:=G.maps.1 o (sub.mem ho)
 refine⟨G.pool,⟨fun x hx=>G.maps.1 x (sub.mem hx),G.maps.2.sublist sub⟩,fun k hk h0=>?_,fun s h8 h0=>?_,fun s h8=>⟨(G.few s h8).1,?_⟩⟩
 ·obtain⟨x,hx,ex⟩:=G.own k hk h0
  by_cases hxm:x=m
  ·subst hxm;exact⟨o,ho,e.trans ex⟩
  ·exact⟨x,(mem x).2 ⟨hx,hxm⟩,ex⟩
 ·obtain⟨x,hx,ex⟩:=G.home s h8 h0
  by_cases hxm:x=m
  ·subst hxm
   refine⟨o,ho,?_⟩
   have e1:=so.2.2.2.2.2.2;have e2:=sm.2.2.2.2.2.2
   have:qdi o.2.2.2.1 o.2.2.2.2=qdi x.2.2.2.1 x.2.2.2.2:=e
   rw[this,e2] at e1
   omega
  ·exact⟨x,(mem x).2 ⟨hx,hxm⟩,ex⟩
 ·exact Nat.le_trans (sub.filter _).length_le (G.few s h8).2
theorem qvr(hn:n<18)(h0:f n=s+1)(t:Int)(ht:0<=t)(hs:0<=s):(qbk (upd f n 0) t).length+(if s=t then 1 else 0)=(qbk f t).length:=by
 have e:upd (upd f n 0) n (s+1)=f:=by
  funext k;unfold upd;split
  ·rename_i e;rw[e,h0]
  ·rfl
 have:=qps (f:=upd f n 0) (n:=n) (x:=s+1) (s:=t) hn (by simp[upd];omega)
 rw[e] at this
 rw[this]
 by_cases e:s=t
 ·simp[e]
 ·have:¬(s+1=t+1):=by omega
  simp[e,this]
theorem q32{ms:List Mp}{m:Mp}(G:qbq f h ms)(hm:m∈ms)(ha:(qa6 ms m).any (fun o=>qa7 o==qa7 m)=false):
  qbq (upd f (qa7 m) 0) (if (qbk (upd f (qa7 m) 0) m.2.1).length=0 then upd h m.2.1.toNat 0 else h) (qa6 ms m):=by
 have sub:(qa6 ms m).Sublist ms:=List.filter_sublist;(have mem:∀o,o∈qa6 ms m↔o∈ms/\o≠m:=by intro o;simp[qa6]);have sm:=G.maps.1 m hm;have hpl:=sm.lt
 have hno:∀o∈qa6 ms m,qa7 o≠qa7 m:=by
  intro o ho
  have:=List.any_eq_false.1 ha o ho
  simpa using this
 have hF:∀o∈qa6 ms m,upd f (qa7 m) 0 (qa7 o)=o.2.1+1:=by
  intro o ho;have so:=G.maps.1 o (sub.mem ho)
  have:=hno o ho
  simp only[upd,this,if_false]
  exact so.2.2.2.2.2.2
 refine⟨qnj ?_,⟨fun o ho=>?_,G.maps.2.sublist sub⟩,fun k hk h0=>?_,fun s h8 h0=>?_,fun s h8=>⟨?_,?_⟩⟩
 ·intro i hi'
  have:=qki G.pool i hi'
  unfold upd
  split<;>omega
 ·have so:=G.maps.1 o (sub.mem ho)
  refine⟨so.1,so.2.1,so.2.2.1,so.2.2.2.1,so.2.2.2.2.1,?_,hF o ho⟩
  split
  ·rename_i hz
   unfold upd
   split
   ·rename_i e
    exfalso
    have:qa7 o∈qbk (upd f (qa7 m) 0) m.2.1:=by
     rw[qjt]
     refine⟨so.lt,?_⟩
     rw[hF o ho]
     have:=so.2.1;have:=sm.2.1;omega
    rw[List.length_eq_zero_iff] at hz
    rw[hz] at this
    simp at this
   ·exact so.2.2.2.2.2.1
  ·exact so.2.2.2.2.2.1
 ·by_cases e:k=qa7 m
  ·subst e;simp[upd] at h0
  ·obtain⟨x,hx,ex⟩:=G.own k hk (by simpa[upd,e] using h0)
   exact⟨x,(mem x).2 ⟨hx,fun hxm=>e (by rw[←ex,hxm])⟩,ex⟩
 ·have hh:h s≠0:=by
   split at h0
   ·unfold upd at h0
    split at h0
    ·exact absurd rfl h0
    ·exact h0
   ·exact h0
  obtain⟨x,hx,ex⟩:=G.home s h8 hh
  by_cases hxm:x=m
  ·subst hxm
   split at h0
   ·rename_i hz
    simp[upd,ex] at h0
   ·rename_i hz
    obtain⟨n,hn⟩:=List.exists_mem_of_length_pos (Nat.pos_of_ne_zero hz)
    rw[qjt] at hn
    have sb:=sm.2.1
    have hnp:n≠qa7 x:=by
     rintro rfl
     have:=hn.2
     simp[upd] at this
     omega
    (have hfn:f n=x.2.1+1:=by simpa[upd,hnp] using hn.2);obtain⟨y,hy,ey⟩:=G.own n hn.1 om;have sy:=G.maps.1 y hy
    refine⟨y,(mem y).2 ⟨hy,fun e=>hnp (by rw[←ey,e])⟩,?_⟩
    have:=sy.2.2.2.2.2.2
    have e3:qdi y.2.2.2.1 y.2.2.2.2=n:=ey
    rw[e3,hfn] at this
    have:=sy.2.1;omega
  ·exact⟨x,(mem x).2 ⟨hx,hxm⟩,ex⟩
 ·have h1:=qvr (f:=f) (n:=qa7 m) (s:=m.2.1) hpl sm.2.2.2.2.2.2 (s:Int) om sm.2.1.1
  have:=(G.few s h8).1
  omega
 ·exact Nat.le_trans (sub.filter _).length_le (G.few s h8).2
def noM:Mp:=(0,0,0,0,0)
def qk7(ms:List Mp)(p a q:Int):Bool:=ms.any (outS p a q)
def qe5(n i:Nat):Int:=((1024+8*(n%6)+i:Nat):Int)
def qie(ms:List Mp)(p:Int)(n:Nat):Option Nat:=(List.range 8).find? fun i=>!qk7 ms p ((n/6:Nat):Int) (qe5 n i)
def qcy(ms:List Mp)(p:Int):List Nat->Option (Nat×Nat)
 | []=>none
 | n::r=>match qie ms p n with
  | some i=>some (n,i)
  | none=>qcy ms p r
theorem qut{ms:List Mp}{p:Int}(h:qcy ms p l=some (n,i)):n∈l/\i<8/\qk7 ms p ((n/6:Nat):Int) (qe5 n i)=false:=by
 induction l with
 | nil=>simp[qcy] at h
 | cons x r ih=>
  unfold qcy at h
  cases hx:qie ms p x with
  | none=>rw[hx] at h;obtain⟨h1,h2⟩:=ih h;exact⟨by simp[h1],h2⟩
  | some j=>
   rw[hx] at h
   simp only[Option.some.injEq,Prod.mk.injEq] at h
   obtain⟨rfl,rfl⟩:=h
   have h1:=List.find?_some hx;have h2:=List.mem_of_find?_eq_some hx
   exact⟨by simp,List.mem_range.1 h2,by simpa using h1⟩
theorem qru(hn:n<18)(hi:i<8):qdi ((n/6:Nat):Int) (qe5 n i)=n:=by unfold qdi qe5;omega
theorem q6j(hi:i<8):1024<=qe5 n i/\qe5 n i<1072:=by unfold qe5;omega
theorem qbq.at{ms:List Mp}(G:qbq f h ms)(hs:0<=s/\s<8)(hn:n∈qbk f s):h s.toNat=((n/6:Nat):Int)+1:=by
 rw[qjt] at hn
 obtain⟨m,hm,e⟩:=G.own n hn.1 om;have st:=G.maps.1 m hm;have e1:=st.2.2.2.2.2.2;have e2:qdi m.2.2.2.1 m.2.2.2.2=n:=e
 rw[e2,hn.2] at e1
 have e3:=st.2.2.2.2.2.1;(have e4:m.2.1=s:=by omega)
 rw[e4] at e3
 rw[e3]
 have:=st.2.2.2.2.1
 have:=st.2.2.2.1
 unfold qdi at e2
 omega
theorem qbq.homeIn{ms:List Mp}(G:qbq f h ms)(hs:0<=s/\s<8):0<=h s.toNat/\h s.toNat<=3:=by
 by_cases h0:h s.toNat=0
 ·omega
 ·obtain⟨m,hm,e⟩:=G.home s.toNat om h0;have st:=G.maps.1 m hm;have h1:=st.2.2.2.2.2.1;have h2:=st.2.1
  rw[e] at h1
  have:=st.2.2.2.2.1
  omega
def qdn(f:Nat->Int)(g:Nat->Bool)(h:Nat->Int)(s d:Int):Int:=if h s.toNat=0 then qkr f g d else h s.toNat-1
def qgv(f:Nat->Int)(g:Nat->Bool)(h:Nat->Int)(s:Int):Int:=if h s.toNat=0 then qk1 f g else 0
structure qzo where
 f:Nat->Int
 h:Nat->Int
 q:Int
 took:Bool
 e:Int
def qbe(f:Nat->Int)(g:Nat->Bool)(h:Nat->Int)(ms:List Mp)(p s d:Int):qzo:=
 match qcy ms p (qbk f s) with
 | some x=>⟨f,h,qe5 x.1 x.2,false,0⟩
 | none=>
  if (qbk f s).length=2 then⟨f,h,0,false,6⟩ else
  if qgv f g h s=0 then
   (if qdh f g s (qdn f g h s d)=0 then⟨qi1 f g s (qdn f g h s d) d,upd h s.toNat (qdn f g h s d+1),1024+8*(qft f g s (qdn f g h s d) d:Int),true,0⟩
   else⟨f,h,0,false,qdh f g s (qdn f g h s d)⟩)
  else⟨f,h,0,false,qgv f g h s⟩
section
variable {f:Nat->Int} {g:Nat->Bool} {h:Nat->Int} {ms:List Mp} {p s d:Int}
theorem qq1{x:Nat×Nat}(hu:qcy ms p (qbk f s)=some x):qbe f g h ms p s d=⟨f,h,qe5 x.1 x.2,false,0⟩:=by unfold qbe;rw[hu]
theorem qq6(hu:qcy ms p (qbk f s)=none)(h1:(qbk f s).length=2):qbe f g h ms p s d=⟨f,h,0,false,6⟩:=by unfold qbe;rw[hu];simp only;rw[if_pos h1]
theorem qrd(hu:qcy ms p (qbk f s)=none)(h1:(qbk f s).length≠2)(h2:qgv f g h s≠0):qbe f g h ms p s d=⟨f,h,0,false,qgv f g h s⟩:=by unfold qbe;rw[hu];simp only;rw[if_neg h1,if_neg h2]
theorem qq2(hu:qcy ms p (qbk f s)=none)(h1:(qbk f s).length≠2)(h2:qgv f g h s=0)(h3:qdh f g s (qdn f g h s d)≠0):qbe f g h ms p s d=⟨f,h,0,false,qdh f g s (qdn f g h s d)⟩:=by unfold qbe;rw[hu];simp only;rw[if_neg h1,if_pos h2,if_neg h3]
theorem quo(hu:qcy ms p (qbk f s)=none)(h1:(qbk f s).length≠2)(h2:qgv f g h s=0)(h3:qdh f g s (qdn f g h s d)=0):qbe f g h ms p s d=⟨qi1 f g s (qdn f g h s d) d,upd h s.toNat (qdn f g h s d+1),1024+8*(qft f g s (qdn f g h s d) d:Int),true,0⟩:=by unfold qbe;rw[hu];simp only;rw[if_neg h1,if_pos h2,if_pos h3]
end
theorem qya{ms:List Mp}{p i d:Int}(G:qbq f h ms)(hp:isP p=true)(hs:0<=s/\s<8)(hi:0<=i/\i<=65535)(hf:ms.any (inS p s i)=false)(hc:cntM ms s≠12)(he:(qbe f g h ms p s d).e=0):
  let r:=qbe f g h ms p s d
  let m:Mp:=(p,s,i,r.h s.toNat-1,r.q)
  qbq r.f r.h (ms++[m])/\(r.took=false->r.f=f/\r.h=h/\ms.any (fun o=>qa7 o==qa7 m)=true)/\
   (r.took=true->r.f=upd f (qa7 m) (s+1)/\f (qa7 m)=0/\(∃a:Int,(0<=a/\a<3)/\g a.toNat=false/\r.h=upd h s.toNat (a+1)/\(h s.toNat=0\/h s.toNat=a+1))/\ms.any (fun o=>qa7 o==qa7 m)=false):=by
 intro r m
 cases hu:qcy ms p (qbk f s) with
 | some x=>
  obtain⟨n,j⟩:=x;have hr:r=⟨f,h,qe5 n j,false,0⟩:=qq1 hu;obtain⟨hn,hj,hfree⟩:=qut hu;have hat:=G.at hs hn
  rw[qjt] at hn
  (have hm:m=(p,s,i,((n/6:Nat):Int),qe5 n j):=by show(p,s,i,r.h s.toNat-1,r.q)=_;rw[hr];simp only[hat];rw[Int.add_sub_cancel]);(have hpm:qa7 m=n:=by rw[hm];exact qru hn.1 hj)
  have hst:qdb f h m:=by
   rw[hm]
   exact⟨hp,hs,hi,q6j hj,by show 0<=((n/6:Nat):Int)/\((n/6:Nat):Int)<3;omega,hat,by show f (qdi _ _)=_;rw[qru hn.1 hj];exact hn.2⟩
  have hmeet:qc0 ms m=false:=by
   rw[hm,qi6];intro o ho;have h1:=List.any_eq_false.1 hf o ho;have h2:=List.any_eq_false.1 hfree o ho
   simp only[qc0,List.any_cons,List.any_nil,Bool.or_false]
   rw[Bool.eq_false_iff.2 h1,Bool.eq_false_iff.2 h2];rfl
  (have hms:m.2.1=s:=by rw[hm])
  refine⟨?_,fun _=>⟨by rw[hr],by rw[hr],?_⟩,fun ht=>?_⟩
  ·rw[hr]
   exact q4h G hst hmeet (by rw[hms];exact hc)
  ·obtain⟨o,ho,e⟩:=G.own n hn.1 om;rw[hpm]
   simp only[List.any_eq_true,beq_iff_eq]
   exact⟨o,ho,e⟩
  ·rw[hr] at ht;simp at ht
 | none=>
  have hcases:(qbk f s).length≠2/\qgv f g h s=0/\qdh f g s (qdn f g h s d)=0:=by
   by_cases h1:(qbk f s).length=2
   ·rw[qq6 hu h1] at he;exact absurd he zm
   ·by_cases h2:qgv f g h s=0
    ·by_cases h3:qdh f g s (qdn f g h s d)=0
     ·exact⟨h1,h2,h3⟩
     ·rw[qq2 hu h1 h2 h3] at he;exact absurd he h3
    ·rw[qrd hu h1 h2] at he;exact absurd he h2
  obtain⟨h1,h2,h3'⟩:=hcases;have hr:r=_:=quo hu h1 h2 h3'
  generalize hA:qdn f g h s d=A at *
  obtain⟨_,ha,_,hg,hfr⟩:=qtj h3'
  (have hK:qft f g s A d=qep (qbo (rowF f A.toNat)) d:=by unfold qft;rw[if_pos h3']);have hKm:=qj8 _ _ (qiu (qbo (rowF f A.toNat)) d hfr)
  rw[←hK] at hKm
  (have hF:qi1 f g s A d=upd f (6*A.toNat+qft f g s A d) (s+1):=by unfold qi1;rw[if_pos h3'])
  generalize qft f g s A d=K at *
  (have hm:m=(p,s,i,A,1024+8*(K:Int)):=by show(p,s,i,r.h s.toNat-1,r.q)=_;rw[hr];simp only[upd,if_true];rw[Int.add_sub_cancel]);(have hpm:qa7 m=6*A.toNat+K:=by rw[hm];show qdi A (1024+8*(K:Int))=_;unfold qdi;omega);(have h0:f (qa7 m)=0:=by rw[hpm];exact hKm.2);(have hms:m.2.1=s:=by rw[hm]);(have hma:m.2.2.2.1=A:=by rw[hm])
  have hh:h s.toNat=0\/h s.toNat=A+1:=by
   by_cases h0:h s.toNat=0
   ·exact .inl h0
   ·right;unfold qdn at hA;rw[if_neg h0] at hA;omega
  have hb:(qbk f s).length<2:=by
   have:=(G.few s.toNat om).1
   rw[Int.toNat_of_nonneg hs.1] at this
   omega
  refine⟨?_,fun ht=>?_,fun _=>⟨?_,h0,⟨A,ha,hg,by rw[hr],hh⟩,?_⟩⟩
  ·have:=q1f (m:=m) G h0 (by rw[hm];exact hp) (by rw[hms];exact hs) (by rw[hm];exact hi) (by rw[hm];show 1024<=1024+8*(K:Int)/\1024+8*(K:Int)<1072;omega) (by rw[hma];exact ha) (by rw[hms,hma];exact hh) (by rw[hm];exact hf) (by rw[hms];exact hc) (by rw[hms];exact hb)
   rw[hms,hma,hpm] at this
   rw[hr,hF]
   exact this
  ·rw[hr] at ht;simp at ht
  ·rw[hr,hpm,hF]
  ·rw[List.any_eq_false];intro o ho hx;(have e:qa7 o=qa7 m:=by simpa using hx);have st:=G.maps.1 o ho
   have:=st.2.2.2.2.2.2
   have e':qdi o.2.2.2.1 o.2.2.2.2=qa7 m:=e
   rw[e',h0] at this
   have:=st.2.1
   omega
def mcl(m:Mp):List Value:=[I Z m.1,I Z m.2.1,I Z m.2.2.1,I Z m.2.2.2.1,I Z m.2.2.2.2]
def mc(m:Mp):Array Value:=#[I Z m.1,I Z m.2.1,I Z m.2.2.1,I Z m.2.2.2.1,I Z m.2.2.2.2]
def hcl(h:Nat->Int):List Value:=[I Z (h 0),I Z (h 1),I Z (h 2),I Z (h 3),I Z (h 4),I Z (h 5),I Z (h 6),I Z (h 7)]
def tcF(n:Nat)(f:Nat->Int)(g:Nat->Bool)(h:Nat->Int)(sl:Value):Array Value:=if _:n=0 then pc f g++(hcl h).toArray++#[sl] else tcF (n/2) f g h sl
def tc(f:Nat->Int)(g:Nat->Bool)(h:Nat->Int)(sl:Value):Array Value:=tcF 0 f g h sl
theorem qxwb(f:Nat->Int)(g:Nat->Bool)(h:Nat->Int)(sl:Value):tc f g h sl=pc f g++(hcl h).toArray++#[sl]:=by unfold tc tcF;rfl
theorem qcr(f:Nat->Int)(g:Nat->Bool)(h:Nat->Int)(sl:Value):(tc f g h sl).size=30:=by kernel_rfl
theorem qvl(f:Nat->Int)(g:Nat->Bool)(h:Nat->Int)(sl:Value)(k:Nat)(hk:k<18):(tc f g h sl)[k]?=some (I Z (f k)):=by
 rw[qxwb];rw[Array.getElem?_append_left (by simp[qf1,hcl];omega),Array.getElem?_append_left (by rw[qf1];omega)];exact q1x f g k hk
theorem qhc(f:Nat->Int)(g:Nat->Bool)(h:Nat->Int)(sl:Value)(k:Nat)(hk:k<8):(tc f g h sl)[21+k]?=some (I Z (h k)):=by
 rcases(show k=0\/k=1\/k=2\/k=3\/k=4\/k=5\/k=6\/k=7 by omega) with rfl|rfl|rfl|rfl|rfl|rfl|rfl|rfl<;>kernel_rfl
theorem qdw(f:Nat->Int)(g:Nat->Bool)(h:Nat->Int)(sl:Value):(tc f g h sl)[29]?=some sl:=by kernel_rfl
theorem q9h(f:Nat->Int)(g:Nat->Bool)(h:Nat->Int)(sl:Value)(n:Nat)(x:Int)(hn:n<18):(tc f g h sl).setIfInBounds n (I Z x)=tc (upd f n x) g h sl:=by
 rcases(show n=0\/n=1\/n=2\/n=3\/n=4\/n=5\/n=6\/n=7\/n=8\/n=9\/n=10\/n=11\/n=12\/n=13\/n=14\/n=15\/n=16\/n=17 by omega) with rfl|rfl|rfl|rfl|rfl|rfl|rfl|rfl|rfl|rfl|rfl|rfl|rfl|rfl|rfl|rfl|rfl|rfl<;>kernel_rfl
theorem qsk(f:Nat->Int)(g:Nat->Bool)(h:Nat->Int)(sl:Value)(n:Nat)(x:Int)(hn:n<8):(tc f g h sl).setIfInBounds (21+n) (I Z x)=tc f g (upd h n x) sl:=by
 rcases(show n=0\/n=1\/n=2\/n=3\/n=4\/n=5\/n=6\/n=7 by omega) with rfl|rfl|rfl|rfl|rfl|rfl|rfl|rfl<;>kernel_rfl
theorem qm0(f:Nat->Int)(g:Nat->Bool)(h:Nat->Int)(sl s2:Value):(tc f g h sl).setIfInBounds 29 s2=tc f g h s2:=by kernel_rfl
theorem qaq(f:Nat->Int)(g:Nat->Bool)(h:Nat->Int)(sl:Value):(prog.info? 39).map (·.size)=some (tc f g h sl).size:=by kernel_rfl
theorem qak(m:Mp):(prog.info? 50).map (·.size)=some (mc m).size:=by kernel_rfl
theorem qby(m:Mp):(prog.info? 50).map (·.size)=some (mcl m).length:=by kernel_rfl
theorem qa3(m:Mp):(mc m).all (·.oneCell')=true:=by kernel_rfl
theorem qbm(f:Nat->Int)(g:Nat->Bool)(h:Nat->Int)(a:Option Addr)(n c:Nat):(tc f g h (.slice a n c)).all (·.oneCell')=true:=by kernel_rfl
theorem qc2(m:Mp):(mcl m).toArray=mc m:=rfl
theorem qa4(w:World):(zeroValue 50).run prog w=.ok (.agg (mc noM)) w:=by kernel_rfl
theorem qb8(w:World):(zeroValue 39).run prog w=.ok (.agg (tc (fun _=>0) (fun _=>false) (fun _=>0) (.slice none 0 0))) w:=by kernel_rfl
def mb:Value->Nat
 | .slice (some a) _ _=>a.block
 | _=>0
def mo:Value->Nat
 | .slice (some a) _ _=>a.off
 | _=>0
def qaz(w:World)(sl:Value)(ms:List Mp):Prop:=
 ∃a cap,sl=.slice a ms.length cap/\(0<ms.length->a=some ⟨mb sl,mo sl,none⟩)/\(∀j (hj:j<ms.length),w.rangeAt (mb sl) (mo sl+5*j) (mcl ms[j]))/\ms.length<=140737488355328/\∃c2,sl=.slice a ms.length c2/\ms.length<=c2
theorem qaz.nil(w:World):qaz w (.slice none 0 0) []:=⟨none,0,rfl,fun h=>absurd h zm,fun j hj=>absurd hj zm,by simp,0,rfl,by simp⟩
theorem qaz.keep{ms:List Mp}(h:qaz w sl ms)(hb:Below B w w')(hlt:0<ms.length->mb sl<B):qaz w' sl ms:=by
 obtain⟨a,cap,e,h1,h2,h3⟩:=h
 refine⟨a,cap,e,h1,fun j hj i v hv=>?_,h3⟩
 have:=h2 j hj i v hv
 unfold World.cell? at *
 rw[hb.block _ (hlt om)]
 exact this
theorem qaz.lt{ms:List Mp}(h:qaz w sl ms)(hl:0<ms.length):mb sl<w.heap.size:=by
 obtain⟨a,cap,e,h1,h2,h3⟩:=h
 have:=h2 0 hl 0 _ rfl
 unfold World.cell? at this
 by_cases hlt:mb sl<w.heap.size
 ·exact hlt
 ·have h3:w.heap[mb sl]?=none:=Array.getElem?_eq_none om
  simp[h3] at this
theorem qaz.at{ms:List Mp}(h:qaz w sl ms)(j:Nat)(hj:j<ms.length){m:Mp}(hm:ms[j]=m):w.rangeAt (mb sl) (mo sl+5*j) (mcl m):=by
 obtain⟨a,cap,e,h1,h2,h3⟩:=h
 rw[←hm];exact h2 j hj
theorem qaz.len{ms:List Mp}(h:qaz w sl ms):ms.length<=140737488355328:=by
 obtain⟨a,cap,e,h1,h2,h3⟩:=h
 exact h3.1
theorem qaz.cap{a:Option Addr}{ms:List Mp}(h:qaz w (.slice a n c) ms):n=ms.length/\n<=c:=by
 obtain⟨a',cap,e,h1,h2,h3,c2,e2,h4⟩:=h
 injection e2 with e3 e4 e5
 exact⟨e4,by omega⟩
theorem qaz.take{a:Option Addr}{ms:List Mp}(h:qaz w (.slice a n c) ms)(j:Nat)(hj:j<=ms.length):qaz w (.slice a j c) (ms.take j):=by
 have hc:=h.cap;obtain⟨a',cap,e,h1,h2,h3,c2,e2,h4⟩:=h
 injection e with e3 e4 e5
 subst e3
 (have hl:(ms.take j).length=j:=by rw[List.length_take];omega);(have hmb:mb (.slice a j c)=mb (.slice a n c):=by cases a<;>rfl);(have hmo:mo (.slice a j c)=mo (.slice a n c):=by cases a<;>rfl)
 refine⟨a,c,by rw[hl],fun hp=>?_,fun i hi=>?_,by rw[hl];omega,c,by rw[hl],by rw[hl];omega⟩
 ·rw[hmb,hmo];exact h1 om
 ·rw[hmb,hmo,List.getElem_take];exact h2 i om
theorem qga(h:j<n)(hn:n<=140737488355328):wrap64 ((j:Int)+1)=(j:Int)+1:=by unfold wrap64;omega
theorem qaz.below{ms:List Mp}(h:qaz w sl ms)(hb:Below w.heap.size w w'):qaz w' sl ms:=h.keep hb h.lt
theorem qb5(hgd:o.guard=none)(x y:Operand)(ho:o.op=.indexAddr 37 x y)(sl:Value)(ms:List Mp)(hM:qaz w sl ms)(hx:a.eval x=sl)(j:Nat)(hy:a.eval y=I Z (j:Int))(hj:j<ms.length)(hr:wpList prog ops Q rest (a.put o.dst (V (some ⟨mb sl,mo sl+5*j,none⟩))) w):wpList prog ops Q (o::rest) a w:=
 wpList_plain hgd fun K hK=>by
  obtain⟨a0,cap,e,h1,h2,h3⟩:=hM;have e1:=h1 om
  generalize mb sl=B at *
  generalize mo sl=O at *
  subst e1
  subst e
  (have hn:((j:Int)).toNat<ms.length:=by simpa using hj);(have hjl:(j:Int)<(ms.length:Int):=by omega);(have hs:(sizeOf 50).run prog w=.ok 5 w:=by kernel_rfl)
  have hrun:(Instr.indexAt 37 (.slice (some ⟨B,O,none⟩) ms.length cap) (I Z (j:Int))).run prog w=.ok (V (some ⟨B,O+5*j,none⟩)) w:=by
   simp[go_sem,hj,hn,hjl,underlying37,hs]
  unfold Oper.wp execOp
  simp only[ho,hx,hy,Sem.run_bind,hrun,Result.andThen_ok,Sem.run_pure]
  exact hK _ _ hr
theorem qln(a b c x y z:Int)(w:World):(Op.equalIn 10000 122 (.agg #[I Z a,I Z b,I Z c]) (.agg #[I Z x,I Z y,I Z z])).run prog w=.ok (a==x&&b==y&&c==z) w:=by
 rw[show(10000:Nat)=9999+1 from rfl,run_equalIn_struct w 9999 122 _ _ kr kr]
 by_cases h1:a=x<;>by_cases h2:b=y<;>by_cases h3:c=z<;>simp[go_sem,h1,h2,h3,underlying122]
theorem qnx(a b c x y z:Int)(w:World):(Op.equalIn 10000 125 (.agg #[I Z a,I Z b,I Z c]) (.agg #[I Z x,I Z y,I Z z])).run prog w=.ok (a==x&&b==y&&c==z) w:=by
 rw[show(10000:Nat)=9999+1 from rfl,run_equalIn_struct w 9999 125 _ _ kr kr]
 by_cases h1:a=x<;>by_cases h2:b=y<;>by_cases h3:c=z<;>simp[go_sem,h1,h2,h3,underlying125]
theorem quq(a b x y:Int)(w:World):(Op.equalIn 10000 104 (.agg #[I Z a,I Z b]) (.agg #[I Z x,I Z y])).run prog w=.ok (a==x&&b==y) w:=by
 rw[show(10000:Nat)=9999+1 from rfl,run_equalIn_struct w 9999 104 _ _ kr kr]
 by_cases h1:a=x<;>by_cases h2:b=y<;>simp[go_sem,h1,h2,underlying104]
theorem qkb(m o:Mp)(w:World):(Op.equalIn 10000 50 (.agg (mc m)) (.agg (mc o))).run prog w=.ok (m==o) w:=by
 obtain⟨a,b,c,d,e⟩:=m;obtain⟨x,y,z,u,v⟩:=o;rw[show(10000:Nat)=9999+1 from rfl,run_equalIn_struct w 9999 50 _ _ kr kr];have hb:(((a,b,c,d,e):Mp)==(x,y,z,u,v))=(a==x&&(b==y&&(c==z&&(d==u&&e==v)))):=rfl;rw[hb]
 unfold mc
 by_cases h1:a=x<;>by_cases h2:b=y<;>by_cases h3:c=z<;>by_cases h4:d=u<;>by_cases h5:e=v<;>simp[go_sem,h1,h2,h3,h4,h5,underlying50]
theorem qkm(k:Int)(h0:0<=k)(h1:k<=6)(w:World):Calls prog 74 #[I Z k] w fun e w'=>e=.returned (I Z (1024+k*8))/\w'=w:=by
 (have e1:wrap64 (k*8)=k*8:=by unfold wrap64;omega);(have e2:wrap64 (1024+k*8)=1024+k*8:=by unfold wrap64;omega)
 go_enter func74,ntmps74
 go_wp2
 go_ret
 exact⟨rfl,rfl⟩
def blkS(q:Int):Value:=if 1024<=q/\q<1072 then .tuple #[I Z ((q-1024)/8),I Z ((q-1024)%8),.bool true] else .tuple #[I Z 0,I Z 0,.bool false]
theorem sZtd14(h:p:=by
 go_enter func30,ntmps30
 go_wp2_with (go_at_call 74;go_fit (C _);refine m04 ?_)
 go_ret3
 exact⟨by rw[HS.out];rfl,rfl⟩):p:=h
theorem qs4(q:Int)(w:World):Calls prog 30 #[I Z q] w fun e w'=>e=.returned (blkS q)/\w'=w:=by
 (have C:=fun w=>qkm 6 om om w)
 by_cases h0:1024<=q
 ·by_cases h1:q<1072
  ·have HS:Hid (blkS q=_):=if_pos ⟨h0,h1⟩;(have e1:wrap64 (q-1024)=q-1024:=by unfold wrap64;omega);have e2:(q-1024).tdiv 8=(q-1024)/8:=Int.tdiv_eq_ediv_of_nonneg om;have e3:(q-1024).tmod 8=(q-1024)%8:=Int.tmod_eq_emod_of_nonneg om;(have e4:wrap64 ((q-1024)/8)=(q-1024)/8:=by unfold wrap64;omega);(have h1':q<1024+6*8:=by omega)
   exact sZtd14
  ·have HS:Hid (blkS q=_):=if_neg (fun h=>h1 h.2);(have h1':1024+6*8<=q:=by omega)
   exact sZtd14
 ·have HS:Hid (blkS q=_):=if_neg (fun h=>h0 h.1)
  go_enter func30,ntmps30
  go_wp2
  go_ret3
  exact⟨by rw[HS.out];rfl,rfl⟩
theorem sZtd13(h:p:=by
 go_enter func101,ntmps101
 go_wp2
 go_ret
 exact⟨by rw[HS.out];rfl,rfl⟩):p:=h
theorem qfh(p:Int)(w:World):Calls prog 101 #[I Z p] w fun e w'=>e=.returned (.bool (isP p))/\w'=w:=by
 by_cases h1:p=1
 ·have HS:Hid (isP p=true):=(qo8 p).2 (.inl h1);(have e1:(p==1)=true:=by simp[h1]);clear h1
  exact sZtd13
 ·(have e1:(p==1)=false:=by simp[h1])
  by_cases h6:p=6
  ·have HS:Hid (isP p=true):=(qo8 p).2 (.inr (.inl h6));(have e6:(p==6)=true:=by simp[h6]);clear h1 h6
   exact sZtd13
  ·(have e6:(p==6)=false:=by simp[h6])
   by_cases h17:p=17
   ·have HS:Hid (isP p=true):=(qo8 p).2 (.inr (.inr h17));(have e17:(p==17)=true:=by simp[h17]);clear h1 h6 h17
    exact sZtd13
   ·have HS:Hid (isP p=false):=by
     show _=_
     rw[Bool.eq_false_iff];intro h;rcases(qo8 p).1 h with h|h|h<;>contradiction
    (have e17:(p==17)=false:=by simp[h17]);clear h1 h6 h17
    exact sZtd13
theorem sZtd110(h:p:=by
 go_ret
 exact⟨by simp[h0,h1],rfl⟩):p:=h
theorem qig(s:Int)(w:World):Calls prog 102 #[I Z s] w fun e w'=>e=.returned (.bool (decide (0<=s)&&decide (s<8)))/\w'=w:=by
 go_enter func102,ntmps102
 by_cases h0:0<=s
 ·by_cases h1:s<8
  ·go_wp2
   exact sZtd110
  ·go_wp2
   exact sZtd110
 ·go_wp2
  go_ret
  exact⟨by rw[decide_eq_false (show ¬0<=s by omega)];rfl,rfl⟩
theorem qhe(s:Int)(w:World):Calls prog 103 #[I Z s] w fun e w'=>e=.returned (.bool (decide (0<=s)&&decide (s<=65535)))/\w'=w:=by
 go_enter func103,ntmps103
 by_cases h0:0<=s
 ·by_cases h1:s<=65535
  ·go_wp2
   exact sZtd110
  ·go_wp2
   exact sZtd110
 ·go_wp2
  go_ret
  exact⟨by rw[decide_eq_false (show ¬0<=s by omega)];rfl,rfl⟩
section
variable {w:World} {b:Nat} {m:Mp}
theorem m0(h:Row 50 w b (mc m)):w.cell? ⟨b,0,none⟩=some (I Z m.1):=h.cell 0
theorem m1(h:Row 50 w b (mc m)):w.cell? ⟨b,1,none⟩=some (I Z m.2.1):=h.cell 1
theorem m2(h:Row 50 w b (mc m)):w.cell? ⟨b,2,none⟩=some (I Z m.2.2.1):=h.cell 2
theorem m3(h:Row 50 w b (mc m)):w.cell? ⟨b,3,none⟩=some (I Z m.2.2.2.1):=h.cell 3
theorem m4(h:Row 50 w b (mc m)):w.cell? ⟨b,4,none⟩=some (I Z m.2.2.2.2):=h.cell 4
end
def ic3(a b c:Int):Array Value:=#[I Z a,I Z b,I Z c]
def ic2(a b:Int):Array Value:=#[I Z a,I Z b]
theorem q0p(w:World):(zeroValue 122).run prog w=.ok (.agg (ic3 0 0 0)) w:=by kernel_rfl
theorem qzc(w:World):(zeroValue 125).run prog w=.ok (.agg (ic3 0 0 0)) w:=by kernel_rfl
theorem qcn(w:World):(zeroValue 104).run prog w=.ok (.agg (ic2 0 0)) w:=by kernel_rfl
theorem qfv(m:Mp)(w:World):Calls prog 75 #[.agg (mc m)] w fun e w'=>e=.returned (.agg (ic3 m.1 m.2.1 m.2.2.1))/\Below w.heap.size w w':=by
 refine m2a ?_;intro hB
 go_enter func75,ntmps75
 go_wp2_with (first|(refine m8w ?_;intro b1 w1 l1 R1 hb1;replace l1:=Nat.le_trans hB.size l1;have c0:=m0 R1;have c1:=m1 R1;have c2:=m2 R1;refine m5a ?_;clear hB;intro hB)|(refine ay 122 q0p ?_;intro b2 w2 l2 R2 hb2;replace l2:=Nat.le_trans hB.size l2;replace R1:=R1.below hb2;replace c0:=m0 R1;replace c1:=m1 R1;replace c2:=m2 R1;replace hB:=hB.trans (hb2.mono hB.size))|(refine sx 122 _ _ (ic3 m.1 m.2.1 m.2.2.1) R2 ?_;intro w3 R3 t3;replace hB:=t3.below _ _ l2 hB))
 refine m03 ?_
 refine bodyPost_ret (qai rfl _ _ _ _ rfl R3 _ underlying122 rfl kr) rfl ⟨rfl,hB⟩
theorem qho(m:Mp)(w:World):Calls prog 76 #[.agg (mc m)] w fun e w'=>e=.returned (.agg (ic3 m.1 m.2.2.2.1 m.2.2.2.2))/\Below w.heap.size w w':=by
 refine m2a ?_;intro hB
 go_enter func76,ntmps76
 go_wp2_with (first|(refine m8w ?_;intro b1 w1 l1 R1 hb1;replace l1:=Nat.le_trans hB.size l1;have c0:=m0 R1;have c3:=m3 R1;have c4:=m4 R1;refine m5a ?_;clear hB;intro hB)|(refine ay 125 qzc ?_;intro b2 w2 l2 R2 hb2;replace l2:=Nat.le_trans hB.size l2;replace R1:=R1.below hb2;replace c0:=m0 R1;replace c3:=m3 R1;replace c4:=m4 R1;replace hB:=hB.trans (hb2.mono hB.size))|(refine sx 125 _ _ (ic3 m.1 m.2.2.2.1 m.2.2.2.2) R2 ?_;intro w3 R3 t3;replace hB:=t3.below _ _ l2 hB))
 refine m03 ?_
 refine bodyPost_ret (qai rfl _ _ _ _ rfl R3 _ underlying125 rfl kr) rfl ⟨rfl,hB⟩
def inP(m:Mp):Bool:=decide ((1024<=m.2.2.2.2/\m.2.2.2.2<1072)/\0<=m.2.2.2.1/\m.2.2.2.1<3)
def plA(m:Mp):Int:=if inP m=true then m.2.2.2.1 else 0
def plB(m:Mp):Int:=if inP m=true then(m.2.2.2.2-1024)/8 else 0
theorem sZtd19(h:p:=by
 refine bodyPost_ret (qbf rfl _ _ _ _ rfl R3 _ underlying104 rfl kr) rfl ⟨?_,hB⟩
 rw[hI.out,hA.out,hQ.out];rfl):p:=h
theorem sZtd11(h:p:=by
 have hA:Hid (plA m=0):=if_neg (by rw[hI.out];simp);have hQ:Hid (plB m=0):=if_neg (by rw[hI.out];simp)
 go_enter func65,ntmps65
 go_wp2_with (first|(refine m8w ?_;intro b1 w1 l1 R1 hb1;replace l1:=Nat.le_trans hB.size l1;have c3:=m3 R1;have c4:=m4 R1;refine m5a ?_;clear hB;intro hB)|(refine ay 104 qcn ?_;intro b2 w2 l2 R2 hb2;replace l2:=Nat.le_trans hB.size l2;replace R1:=R1.below hb2;replace c3:=m3 R1;replace c4:=m4 R1;replace hB:=hB.trans (hb2.mono hB.size))|(go_at_call 30;go_fit (C _);refine m04 ?_)|(refine sx 104 _ _ (ic2 0 0) R2 ?_;intro w3 R3 t3;replace hB:=t3.below _ _ l2 hB))
 refine m03 ?_
 exact sZtd19):p:=h
theorem qgp(m:Mp)(w:World):Calls prog 65 #[.agg (mc m)] w fun e w'=>e=.returned (.tuple #[.agg (ic2 (plA m) (plB m)),.bool (inP m)])/\Below w.heap.size w w':=by
 refine m2a ?_;intro hB;(have C:=fun w=>qs4 m.2.2.2.2 w)
 by_cases hq:1024<=m.2.2.2.2/\m.2.2.2.2<1072
 ·have HS:blkS m.2.2.2.2=_:=if_pos hq
  rw[HS] at C
  by_cases ha:0<=m.2.2.2.1
  ·by_cases hb:m.2.2.2.1<3
   ·have hI:Hid (inP m=true):=decide_eq_true ⟨hq,ha,hb⟩;have hA:Hid (plA m=m.2.2.2.1):=if_pos hI.out;have hQ:Hid (plB m=(m.2.2.2.2-1024)/8):=if_pos hI.out
    go_enter func65,ntmps65
    go_wp2_with (first|(refine m8w ?_;intro b1 w1 l1 R1 hb1;replace l1:=Nat.le_trans hB.size l1;have c3:=m3 R1;have c4:=m4 R1;refine m5a ?_;clear hB;intro hB)|(refine ay 104 qcn ?_;intro b2 w2 l2 R2 hb2;replace l2:=Nat.le_trans hB.size l2;replace R1:=R1.below hb2;replace c3:=m3 R1;replace c4:=m4 R1;replace hB:=hB.trans (hb2.mono hB.size))|(go_at_call 30;go_fit (C _);refine m04 ?_)|(refine sx 104 _ _ (ic2 m.2.2.2.1 ((m.2.2.2.2-1024)/8)) R2 ?_;intro w3 R3 t3;replace hB:=t3.below _ _ l2 hB))
    refine m03 ?_
    exact sZtd19
   ·have hI:Hid (inP m=false):=decide_eq_false (fun h=>hb h.2.2)
    exact sZtd11
  ·have hI:Hid (inP m=false):=decide_eq_false (fun h=>ha h.2.1)
   exact sZtd11
 ·have HS:blkS m.2.2.2.2=_:=if_neg hq
  rw[HS] at C
  have hI:Hid (inP m=false):=decide_eq_false (fun h=>hq h.1)
  exact sZtd11
def qhw:Option Mp->Value
 | some m=>.tuple #[.agg (mc m),.bool true]
 | none=>.tuple #[.agg (mc noM),.bool false]
theorem qek(h:j<n):n-((j:Int)+1).toNat<n-((j:Int)).toNat:=by omega
theorem qic{ms:List Mp}{m:Mp}(hlj:j<ms.length)(hm:ms[j]=m):ms.take (j+1)=ms.take j++[m]:=by
 rw[List.take_succ_eq_append_getElem hlj,hm]
theorem qs3{q:Mp->Bool}{ms:List Mp}{m:Mp}(hno:(ms.take j).find? q=none)(hlj:j<ms.length)(hm:ms[j]=m)(hq:q m=false):(ms.take (j+1)).find? q=none:=by
 rw[qic hlj hm,List.find?_append,hno];simp[List.find?,hq]
theorem qyh{q:Mp->Bool}{ms:List Mp}{m:Mp}(hno:(ms.take j).find? q=none)(hlj:j<ms.length)(hm:ms[j]=m)(hq:q m=true):ms.find? q=some m:=by
 (have e:ms=ms.take j++m::ms.drop (j+1):=by rw[←hm,List.getElem_cons_drop,List.take_append_drop])
 rw[e,List.find?_append,hno];simp[List.find?,hq]
theorem sZtd12(h:p:=by
 refine m6c ?_;intro hjn;clear e hno hj hlj
 go_wp2_with (first|(refine qab 50 rfl _ _ rfl b8 rfl (mc noM) rfl _ R8 rfl (qak noM) (qa3 noM) ?_;intro w6 R8 t6;replace hB:=t6.below _ _ l8 hB))
 (refine m03 ?_;refine bodyPost_ret (qbf rfl _ _ _ _ rfl R8 _ underlying50 rfl (qak _)) rfl ⟨?_,hB⟩)
 rw[HF.out];rfl):p:=h
theorem sZtd18(h:p:=by
 go_roundw
 case rel=>exact⟨j+1,by omega,by go_num,HF.out,hB,R8⟩
 case measure=>rw[hjw];exact qek (HN.out.symm▸hlj)):p:=h
theorem qlo(f:Nat->Int)(g:Nat->Bool)(h:Nat->Int)(sl:Value)(ms:List Mp)(x y z:Int)(w:World)(hM:qaz w sl ms):
  Calls prog 32 #[.agg (tc f g h sl),I Z x,I Z y,I Z z] w fun e w'=>e=.returned (qhw (ms.find? (inS x y z)))/\Below w.heap.size w w':=by
 refine m2a ?_;intro hB;have hM0:=hM
 obtain⟨a0,cap,hsl,-⟩:=hM0
 obtain⟨n,hn⟩:∃n,n=ms.length:=⟨_,rfl⟩
 rw[←hn] at hsl
 subst hsl
 refine m4n ?_;clear hn;intro HN hlt
 go_enter func32,ntmps32
 go_wp2_with (first|(refine m1x ?_;clear hB;intro bT w1 RT hb1 lT hB)|(refine m7z ?_;intro b8 w2 l8 R8 hb2;replace l8:=Nat.le_trans hB.size l8;replace RT:=RT.below hb2;have n8:=RT.ne (Nat.le_refl _);clear n8;refine m6x ?_;clear hB;intro hB cM))
 go_loopw [15] (fun i W=>∃j:Nat,j<=ms.length/\i=I Z j/\(ms.take j).find? (inS x y z)=none/\Below w.heap.size w W/\Row 50 W b8 (mc noM)) (fun i _=>n-(intOf i).toNat)
 case atStart=>exact⟨0,by omega,rfl,by simp,hB,R8⟩
 case round=>
  clear hB R8 cM RT hb1
  obtain⟨j,hj,rfl,hno,hB,R8⟩:=hrel
  by_cases hlj:j<ms.length
  ·refine m3l ?_;intro hjn hjw
   obtain⟨m,hm⟩:∃m,ms[j]=m:=⟨_,rfl⟩
   refine m96 ?_;intro hMW hrg;(have C:=fun w=>qfv m w)
   by_cases hin:inS x y z m=true
   ·have HF:Hid (ms.find? (inS x y z)=some m):=qyh hno hlj hm hin
    go_wp2_with (first|(refine qb5 rfl (.tmp 13) (.tmp 15) rfl (.slice a0 n cap) ms hMW rfl j rfl hlj ?_)|(refine m1y ?_)|(refine m45 ?_;clear R8 hB;intro b11 w3 R11 hb3 n8 l11 R8 hB)|(refine m46 ?_;clear R8 hB;intro w4 R11 t4 R8 hB)|(refine qab 50 rfl _ _ rfl b8 rfl (mc m) rfl _ R8 rfl (qak m) (qa3 m) ?_;intro w6 R8 t6;replace hB:=t6.below _ _ l8 hB)|(refine qac 50 _ rfl rfl _ rfl (mc m) R11 _ underlying50 rfl (qak m) ?_)|(go_at_call 75;go_fit (C _);rintro e w5 ⟨rfl,hb5⟩;replace R8:=R8.below hb5;replace R11:=R11.below hb5;refine m2s ?_;clear hB;intro hB)|(refine qb1 122 _ _ rfl rfl (ic3 m.1 m.2.1 m.2.2.1) (ic3 x y z) rfl rfl eqGuardType122 _ _ (qln _ _ _ _ _ _ _) hin ?_))
    (refine m03 ?_;refine bodyPost_ret (qbf rfl _ _ _ _ rfl R8 _ underlying50 rfl (qak _)) rfl ⟨?_,hB⟩)
    rw[HF.out];rfl
   ·(have hin':inS x y z m=false:=by simpa using hin);have HF:Hid ((ms.take (j+1)).find? (inS x y z)=none):=qs3 hno hlj hm hin';clear hin
    go_wp2_with (first|(refine qb5 rfl (.tmp 13) (.tmp 15) rfl (.slice a0 n cap) ms hMW rfl j rfl hlj ?_)|(refine m1y ?_)|(refine m45 ?_;clear R8 hB;intro b11 w3 R11 hb3 n8 l11 R8 hB)|(refine m46 ?_;clear R8 hB;intro w4 R11 t4 R8 hB)|(refine qac 50 _ rfl rfl _ rfl (mc m) R11 _ underlying50 rfl (qak m) ?_)|(go_at_call 75;go_fit (C _);rintro e w5 ⟨rfl,hb5⟩;replace R8:=R8.below hb5;replace R11:=R11.below hb5;refine m2s ?_;clear hB;intro hB)|(refine qb1 122 _ _ rfl rfl (ic3 m.1 m.2.1 m.2.2.1) (ic3 x y z) rfl rfl eqGuardType122 _ _ (qln _ _ _ _ _ _ _) hin' ?_))
    exact sZtd18
  ·(have e:j=ms.length:=by omega)
   have HF:Hid (ms.find? (inS x y z)=none):=by
    show _=_
    rw[e,List.take_length] at hno;exact hno
   exact sZtd12
theorem qqr(f:Nat->Int)(g:Nat->Bool)(h:Nat->Int)(sl:Value)(ms:List Mp)(x y z:Int)(w:World)(hM:qaz w sl ms):
  Calls prog 34 #[.agg (tc f g h sl),I Z x,I Z y,I Z z] w fun e w'=>e=.returned (qhw (ms.find? (outS x y z)))/\Below w.heap.size w w':=by
 refine m2a ?_;intro hB;have hM0:=hM
 obtain⟨a0,cap,hsl,-⟩:=hM0
 obtain⟨n,hn⟩:∃n,n=ms.length:=⟨_,rfl⟩
 rw[←hn] at hsl
 subst hsl
 refine m4n ?_;clear hn;intro HN hlt
 go_enter func34,ntmps34
 go_wp2_with (first|(refine m1x ?_;clear hB;intro bT w1 RT hb1 lT hB)|(refine m7z ?_;intro b8 w2 l8 R8 hb2;replace l8:=Nat.le_trans hB.size l8;replace RT:=RT.below hb2;have n8:=RT.ne (Nat.le_refl _);clear n8;refine m6x ?_;clear hB;intro hB cM))
 go_loopw [15] (fun i W=>∃j:Nat,j<=ms.length/\i=I Z j/\(ms.take j).find? (outS x y z)=none/\Below w.heap.size w W/\Row 50 W b8 (mc noM)) (fun i _=>n-(intOf i).toNat)
 case atStart=>exact⟨0,by omega,rfl,by simp,hB,R8⟩
 case round=>
  clear hB R8 cM RT hb1
  obtain⟨j,hj,rfl,hno,hB,R8⟩:=hrel
  by_cases hlj:j<ms.length
  ·refine m3l ?_;intro hjn hjw
   obtain⟨m,hm⟩:∃m,ms[j]=m:=⟨_,rfl⟩
   refine m96 ?_;intro hMW hrg;(have C:=fun w=>qho m w)
   by_cases hin:outS x y z m=true
   ·have HF:Hid (ms.find? (outS x y z)=some m):=qyh hno hlj hm hin
    go_wp2_with (first|(refine qb5 rfl (.tmp 13) (.tmp 15) rfl (.slice a0 n cap) ms hMW rfl j rfl hlj ?_)|(refine m1y ?_)|(refine m45 ?_;clear R8 hB;intro b11 w3 R11 hb3 n8 l11 R8 hB)|(refine m46 ?_;clear R8 hB;intro w4 R11 t4 R8 hB)|(refine qab 50 rfl _ _ rfl b8 rfl (mc m) rfl _ R8 rfl (qak m) (qa3 m) ?_;intro w6 R8 t6;replace hB:=t6.below _ _ l8 hB)|(refine qac 50 _ rfl rfl _ rfl (mc m) R11 _ underlying50 rfl (qak m) ?_)|(go_at_call 76;go_fit (C _);rintro e w5 ⟨rfl,hb5⟩;replace R8:=R8.below hb5;replace R11:=R11.below hb5;refine m2s ?_;clear hB;intro hB)|(refine qb1 125 _ _ rfl rfl (ic3 m.1 m.2.2.2.1 m.2.2.2.2) (ic3 x y z) rfl rfl eqGuardType125 _ _ (qnx _ _ _ _ _ _ _) hin ?_))
    (refine m03 ?_;refine bodyPost_ret (qbf rfl _ _ _ _ rfl R8 _ underlying50 rfl (qak _)) rfl ⟨?_,hB⟩)
    rw[HF.out];rfl
   ·(have hin':outS x y z m=false:=by simpa using hin);have HF:Hid ((ms.take (j+1)).find? (outS x y z)=none):=qs3 hno hlj hm hin';clear hin
    go_wp2_with (first|(refine qb5 rfl (.tmp 13) (.tmp 15) rfl (.slice a0 n cap) ms hMW rfl j rfl hlj ?_)|(refine m1y ?_)|(refine m45 ?_;clear R8 hB;intro b11 w3 R11 hb3 n8 l11 R8 hB)|(refine m46 ?_;clear R8 hB;intro w4 R11 t4 R8 hB)|(refine qac 50 _ rfl rfl _ rfl (mc m) R11 _ underlying50 rfl (qak m) ?_)|(go_at_call 76;go_fit (C _);rintro e w5 ⟨rfl,hb5⟩;replace R8:=R8.below hb5;replace R11:=R11.below hb5;refine m2s ?_;clear hB;intro hB)|(refine qb1 125 _ _ rfl rfl (ic3 m.1 m.2.2.2.1 m.2.2.2.2) (ic3 x y z) rfl rfl eqGuardType125 _ _ (qnx _ _ _ _ _ _ _) hin' ?_))
    exact sZtd18
  ·(have e:j=ms.length:=by omega)
   have HF:Hid (ms.find? (outS x y z)=none):=by
    show _=_
    rw[e,List.take_length] at hno;exact hno
   exact sZtd12
def ocl(f:Nat->Int):List Value:=[I Z (f 0),I Z (f 1),I Z (f 2),I Z (f 3),I Z (f 4),I Z (f 5),I Z (f 6),I Z (f 7),I Z (f 8),I Z (f 9),I Z (f 10),I Z (f 11),I Z (f 12),I Z (f 13),I Z (f 14),I Z (f 15),I Z (f 16),I Z (f 17)]
def oc(f:Nat->Int):Array Value:=#[I Z (f 0),I Z (f 1),I Z (f 2),I Z (f 3),I Z (f 4),I Z (f 5),I Z (f 6),I Z (f 7),I Z (f 8),I Z (f 9),I Z (f 10),I Z (f 11),I Z (f 12),I Z (f 13),I Z (f 14),I Z (f 15),I Z (f 16),I Z (f 17)]
def r6(h:Nat->Int):Array Value:=#[I Z (h 0),I Z (h 1),I Z (h 2),I Z (h 3),I Z (h 4),I Z (h 5)]
theorem qip(f:Nat->Int):(ocl f).toArray=oc f:=rfl
theorem qhm(f:Nat->Int):(prog.info? 32).map (·.size)=some (ocl f).length:=by kernel_rfl
theorem qx2(h:Nat->Int):(prog.info? 31).map (·.size)=some (r6 h).size:=by kernel_rfl
theorem q91(h:Nat->Int):(r6 h).all (·.oneCell')=true:=by kernel_rfl
theorem q9f(w:World):(zeroValue 31).run prog w=.ok (.agg (r6 (fun _=>0))) w:=by kernel_rfl
theorem q5y(h:Nat->Int)(k:Nat)(hk:k<6)(w:World):(Instr.index 31 (.agg (r6 h)) (I Z (k:Int))).run prog w=.ok (I Z (h k)) w:=qo0 h k hk w
theorem q4o(f:Nat->Int)(a:Nat)(ha:a<3)(w:World):(Instr.index 32 (.agg (oc f)) (I Z (a:Int))).run prog w=.ok (.agg (r6 (rowF f a))) w:=by
 rcases(show a=0\/a=1\/a=2 by omega) with rfl|rfl|rfl<;>kernel_rfl
theorem q9q(f:Nat->Int)(j:Nat)(v:Value)(h:(ocl f)[j]?=some v):j<18/\v=I Z (f j):=by
 have hj:j<18:=(List.getElem?_eq_some_iff.1 h).1
 refine⟨hj,?_⟩
 rcases(show j=0\/j=1\/j=2\/j=3\/j=4\/j=5\/j=6\/j=7\/j=8\/j=9\/j=10\/j=11\/j=12\/j=13\/j=14\/j=15\/j=16\/j=17 by omega) with rfl|rfl|rfl|rfl|rfl|rfl|rfl|rfl|rfl|rfl|rfl|rfl|rfl|rfl|rfl|rfl|rfl|rfl<;>exact(Option.some.inj h).symm
theorem Row.owners(R:Row 39 w b (tc f g h sl)):w.rangeAt b 0 (ocl f):=R.range (fun j v hv=>by
 obtain⟨hj,rfl⟩:=q9q f j v hv
 rw[Nat.zero_add];exact qvl f g h sl j hj)
def plc(l:List Nat):List Value:=l.flatMap fun n=>[I Z ((n/6:Nat):Int),I Z ((n%6:Nat):Int)]
def Plc(w:World)(base:Nat)(v:Value)(l:List Nat):Prop:=w.ownsRow base 104 2 v l.length (plc l)
theorem Plc.nil(w:World)(base:Nat):Plc w base (.slice none 0 0) []:=by unfold Plc;exact World.ownsRow_nil w base 104 2
theorem sZtd111(h:p:=by
 rcases h.2 with⟨e,n0⟩|⟨b,cap,cur,hv,_⟩
 ·exact⟨none,0,by rw[e,n0]⟩
 ·exact⟨_,_,hv⟩):p:=h
theorem Plc.slice(h:Plc w base v l):∃a c,v=.slice a l.length c:=by
 exact sZtd111
theorem qhq(h:w.ownsRow base e size v n xs)(B:Below base w0 w)(hle:base<=w.heap.size)(hg:w.grownBy w' v.ownBlock):Below base w0 w':=by
 refine⟨hg.os.trans B.os,hg.tape.trans B.tape,hg.output.trans B.output,Nat.le_trans B.size hg.size,fun k hk=>?_⟩
 refine(hg.block k om ?_).trans (B.block k hk)
 intro e
 have:=h.lt k e.symm
 omega
theorem q0u:(prog.info? 104).map (fun i=>(i.zero,i.size,i.bytes))=some (some (.agg #[I Z 0,I Z 0]),2,16):=by kernel_rfl
def qec(f:Nat->Int)(s:Int)(N:Nat):List Nat:=(List.range N).filter fun n=>f n==s+1
theorem qn3(f:Nat->Int)(s:Int)(N:Nat):qec f s (N+1)=qec f s N++if (f N==s+1)=true then [N] else []:=by
 unfold qec;rw[List.range_succ,List.filter_append];simp only[List.filter];split<;>simp_all
theorem qoy(f:Nat->Int)(s:Int)(N:Nat):(qec f s N).length<=N:=by
 have:=List.length_filter_le (fun n=>f n==s+1) (List.range N);simpa[qec] using this
theorem q75(w:World)(x y:Value)(t:TypeId):∀j u,[x,y][j]?=some u->(w.alloc (.cells #[x,y] t)).cell? ((⟨w.heap.size,0,none⟩:Addr).add j)=some u:=by
 intro j u hu
 match j,hu with
 | 0,hu=>
  (have e:x=u:=by simpa using hu)
  subst e
  rw[Addr.add_lit,Nat.zero_add]
  exact World.cell?_alloc_mark w #[x,y] t (0,0) 0
 | 1,hu=>
  (have e:y=u:=by simpa using hu)
  subst e
  rw[Addr.add_lit,Nat.zero_add]
  exact World.cell?_alloc_mark w #[x,y] t (0,0) 1
theorem sZtd15(h:p:=by
 refine⟨h.1,?_⟩
 rcases h.2 with e|⟨b,cap,cur,hv,hbb,hh,r⟩
 ·exact .inl e
 ·exact .inr ⟨b,cap,cur,hv,hbb,(hb.block b (Array.getElem?_eq_some_iff.1 hh).1).trans hh,r⟩):p:=h
theorem qst(h:Plc w base v l)(hb:Below w.heap.size w w'):Plc w' base v l:=by
 exact sZtd15
theorem sZtd16(h:p:=by
 refine⟨h.1,?_⟩
 rcases h.2 with e|⟨b,cap,cur,hv,hbb,hh,r⟩
 ·exact .inl e
 ·exact .inr ⟨b,cap,cur,hv,hbb,(t.other b (fun e=>hn (by rw[hv,e];rfl))).trans hh,r⟩):p:=h
theorem q0m(h:Plc w base v l)(t:qbl b7 w w')(hn:v.ownBlock≠some b7):Plc w' base v l:=by
 exact sZtd16
theorem q7k(h:Plc w base v l)(R:Row 31 w b7 cs):v.ownBlock≠some b7:=by
 rcases h.2 with⟨e,_⟩|⟨b,cap,cur,hv,hbb,hh,r⟩
 ·rw[e];simp[Value.ownBlock]
 ·rw[hv];intro e;have e':b=b7:=Option.some.inj e
  subst e'
  unfold Row at R
  rw[hh] at R
  simp at R
theorem qiq(f:Nat->Int)(g:Nat->Bool)(h:Nat->Int)(sl:Value)(s:Int)(hs:0<=s)(hs8:s<8)(w:World):
  Calls prog 104 #[.agg (tc f g h sl),I Z s] w fun e w'=>∃v,e=.returned v/\(∃a c,v=.slice a (qbk f s).length c)/\Plc w' w.heap.size v (qbk f s)/\Below w.heap.size w w':=by
 obtain⟨i0,hi,hz0,hz1,hz2⟩:=info_parts q0u;refine m2a ?_;intro hB;(have hsw:wrap64 (s+1)=s+1:=by unfold wrap64;omega)
 go_enter func104,ntmps104
 go_wp2_with (first|(refine m1x ?_;clear hB;intro bT w1 RT hb1 lT hB;have hrg:=RT.owners)|(refine wpList_load_mid rfl 32 _ rfl _ _ rfl (ocl f) _ hrg underlying32 rfl (qhm f) ?_;rw[qip]))
 go_loopw [5,13] (fun v i W=>∃(a:Nat) (ao:Option Addr) (cv:Nat),a<=3/\i=I Z a/\v=.slice ao (qec f s (6*a)).length cv/\Plc W w.heap.size v (qec f s (6*a))/\Below w.heap.size w W) (fun _ i _=>3-(intOf i).toNat)
 case atStart=>exact⟨0,none,0,by omega,rfl,rfl,Plc.nil _ _,hB⟩
 case round=>
  clear hB RT hrg hb1
  obtain⟨a,ao,cv,ha,rfl,rfl,hown,hB⟩:=hrel
  by_cases hlt:a<3
  ·have ia:=q4o f a hlt;have hsize0:=hB.size
   go_wp2_with (first|(refine ay 31 q9f ?_;intro b7 w3 l7 R7 hb3;replace l7:=Nat.le_trans hB.size l7;replace hown:Plc w3 _ _ _:=qst hown hb3;replace hB:=hB.trans (hb3.mono hB.size);have n7:=q7k hown R7)|(refine sx 31 _ _ (r6 (rowF f a)) R7 ?_;intro w4 R7 t4;replace hown:Plc w4 _ _ _:=q0m hown t4 n7;replace hB:=t4.below _ _ l7 hB)|(refine lx 31 _ (r6 (rowF f a)) R7 ?_))
   go_loopw [5,18] (fun v i W=>∃(k:Nat) (ao:Option Addr) (cv:Nat),k<=6/\i=I Z k/\v=.slice ao (qec f s (6*a+k)).length cv/\Plc W w.heap.size v (qec f s (6*a+k))/\Below w.heap.size w W) (fun _ i _=>6-(intOf i).toNat)
   case atStart=>exact⟨0,ao,cv,by omega,rfl,rfl,hown,hB⟩
   case round=>
    clear hB hown R7 n7
    obtain⟨k,ao,cv,hk,rfl,rfl,hown,hB⟩:=hrel
    have hsize:=hB.size;have hfl:=qoy f s (6*a+k)
    by_cases hlk:k<6
    ·have ik:=q5y (rowF f a) k hlk
     by_cases hz:f (6*a+k)=s+1
     ·(have dz:(rowF f a k==s+1)=true:=by simpa[rowF] using hz);(have HS:Hid (qec f s (6*a+(k+1))=qec f s (6*a+k)++[6*a+k]):=by show _=_;rw[show 6*a+(k+1)=6*a+k+1 from rfl,qn3,if_pos (by simpa using hz)]);clear hz
      go_wp2_with (at_builtin;refine wpList_append_own _ rfl _ _ 153 rfl w.heap.size 104 i0 (.agg #[I Z 0,I Z 0]) 2 16 underlying153 hi hz0 hz1 hz2 rfl (by decide) _ _ _ rfl (hown.alloc _) ⟨wr.heap.size,0,none⟩ 1 1 [I Z (a:Int),I Z (k:Int)] rfl rfl (q75 _ _ _ _) (fun x hx=>by simp at hx;rcases hx with rfl|rfl<;>rfl) (by unfold maxLen;omega) om (by simp;omega) ?_;intro v' w3 hown' hgrow3 hnil3)
      go_roundw
      case rel=>
       have hi':Plc w3 w.heap.size v' (qec f s (6*a+(k+1))):=by
        unfold Plc plc at *
        rw[HS.out,List.length_append,List.flatMap_append];(have e1:(6*a+k)/6=a:=by omega);(have e2:(6*a+k)%6=k:=by omega)
        simp only[List.flatMap_cons,List.flatMap_nil,e1,e2,List.append_nil]
        exact hown'
       obtain⟨a3,c3,e3⟩:=hi'.slice;have hb3:Below w.heap.size w w3:=qhq (hown.alloc _) (hB.alloc hB.size _) (by simp;omega) hgrow3
       first
        | exact⟨k+1,a3,c3,by omega,by go_num,e3,hi',hb3⟩
        | ((repeat apply Exists.intro);exact⟨⟨k+1,a3,c3,by omega,by go_num,e3,hi',hb3⟩,rfl⟩)
        | ((repeat apply Exists.intro);exact⟨⟨k+1,a3,c3,by omega,by go_num,e3,hi',hb3⟩,rfl,rfl⟩)
      case measure=>simp[intOf];omega
     ·(have dz:(rowF f a k==s+1)=false:=by simpa[rowF] using hz);(have HS:Hid (qec f s (6*a+(k+1))=qec f s (6*a+k)):=by show _=_;rw[show 6*a+(k+1)=6*a+k+1 from rfl,qn3,if_neg (by simpa using hz)];simp);clear hz
      go_wp2
      go_roundw
      case rel=>
       first
        | exact⟨k+1,ao,cv,by omega,by go_num,by rw[HS.out],by rw[HS.out];exact hown,hB⟩
        | ((repeat apply Exists.intro);exact⟨⟨k+1,ao,cv,by omega,by go_num,by rw[HS.out],by rw[HS.out];exact hown,hB⟩,rfl⟩)
        | ((repeat apply Exists.intro);exact⟨⟨k+1,ao,cv,by omega,by go_num,by rw[HS.out],by rw[HS.out];exact hown,hB⟩,rfl,rfl⟩)
      case measure=>simp[intOf];omega
    ·(have e:k=6:=by omega)
     subst e
     go_wp2
     go_roundw
     case rel=>
      first
       | exact⟨a+1,ao,cv,by omega,by go_num,rfl,hown,hB⟩
       | ((repeat apply Exists.intro);exact⟨⟨a+1,ao,cv,by omega,by go_num,rfl,hown,hB⟩,rfl⟩)
     case measure=>simp[intOf];omega
  ·(have e:a=3:=by omega)
   subst e
   go_wp2
   go_ret
   exact⟨_,rfl,⟨_,_,rfl⟩,hown,hB⟩
theorem q8o(ms:List Mp)(h:∀m∈ms,0<=m.2.1/\m.2.1<8):ms.length=cntM ms 0+cntM ms 1+cntM ms 2+cntM ms 3+cntM ms 4+cntM ms 5+cntM ms 6+cntM ms 7:=by
 induction ms with
 | nil=>simp[cntM]
 | cons m r ih=>
  have hm:=h m zm
  have:=ih (fun o ho=>h o (by simp[ho]))
  have step:∀s:Int,cntM (m::r) s=cntM r s+if m.2.1=s then 1 else 0:=by
   intro s;unfold cntM;by_cases e:m.2.1=s
   ·simp[e]
   ·simp[e]
  simp only[step,List.length_cons]
  rcases(show m.2.1=0\/m.2.1=1\/m.2.1=2\/m.2.1=3\/m.2.1=4\/m.2.1=5\/m.2.1=6\/m.2.1=7 by omega) with e|e|e|e|e|e|e|e<;>rw[e]<;>simp<;>omega
theorem qbq.len{ms:List Mp}(G:qbq f h ms):ms.length<=96:=by
 have:=q8o ms (fun m hm=>(G.maps.1 m hm).2.1)
 have h0:cntM ms 0<=12:=(G.few 0 om).2;have h1:cntM ms 1<=12:=(G.few 1 om).2;have h2:cntM ms 2<=12:=(G.few 2 om).2;have h3:cntM ms 3<=12:=(G.few 3 om).2;have h4:cntM ms 4<=12:=(G.few 4 om).2;have h5:cntM ms 5<=12:=(G.few 5 om).2;have h6:cntM ms 6<=12:=(G.few 6 om).2;have h7:cntM ms 7<=12:=(G.few 7 om).2
 omega
def flat(ms:List Mp):List Value:=ms.flatMap mcl
theorem qka(ms:List Mp):(flat ms).length=ms.length*5:=by
 induction ms with
 | nil=>rfl
 | cons m r ih=>unfold flat at *;rw[List.flatMap_cons,List.length_append,ih,List.length_cons];simp[mcl];omega
theorem qvh(ms os:List Mp):flat (ms++os)=flat ms++flat os:=by unfold flat;exact List.flatMap_append
theorem qtx(m:Mp):flat [m]=mcl m:=by unfold flat;simp
theorem qwc(ms:List Mp)(j i:Nat)(hj:j<ms.length)(hi:i<5):(flat ms)[5*j+i]?=(mcl ms[j])[i]?:=by
 induction ms generalizing j with
 | nil=>simp at hj
 | cons m r ih=>
  (have e:flat (m::r)=mcl m++flat r:=by unfold flat;rw[List.flatMap_cons]);rw[e]
  cases j with
  | zero=>rw[List.getElem?_append_left (by simp[mcl];omega)];simp
  | succ j=>
   rw[List.getElem?_append_right (by simp[mcl];omega)]
   have:5*(j+1)+i-(mcl m).length=5*j+i:=by simp[mcl];omega
   rw[this,ih j (by simpa using hj)]
   simp
theorem qrv{ms:List Mp}{o:Nat}(h:∀j (hj:j<ms.length),w.rangeAt b (o+5*j) (mcl ms[j])):∀k u,(flat ms)[k]?=some u->w.cell? ⟨b,o+k,none⟩=some u:=by
 intro k u hu;refine m76 ?_;intro hk;(have e:k=5*(k/5)+k%5:=by omega);(have hj:k/5<ms.length:=by omega)
 rw[e,qwc ms (k/5) (k%5) hj om] at hu
 have:=h (k/5) hj (k%5) u hu
 (rw[show o+k=o+5*(k/5)+k%5 by omega])
 exact this
theorem qov(ms:List Mp):∀u∈flat ms,u.oneCell'=true:=by
 intro u hu
 unfold flat at hu
 rw[List.mem_flatMap] at hu
 obtain⟨m,_,hm⟩:=hu
 simp[mcl] at hm
 rcases hm with rfl|rfl|rfl|rfl|rfl<;>rfl
def qcs(sl:Value):Prop:=∀n c,sl=.slice none n c->c=0
theorem qqm{ms:List Mp}(h:w.ownsRow base 50 5 v ms.length (flat ms))(hl:ms.length<=140737488355328):qaz w v ms/\qcs v/\(0<ms.length->base<=mb v):=by
 rcases h.2 with⟨e,n0⟩|⟨b,cap,cur,hv,hbb,hh,hnc,hcm,hcs,ht⟩
 ·have:ms=[]:=List.eq_nil_of_length_eq_zero n0
  subst this
  rw[e]
  exact⟨qaz.nil w,fun n c e=>by injection e with _ _ e3;exact e3.symm,fun h=>absurd h zm⟩
 ·have hc:=h.cells (g:=b) (by rw[hv];rfl)
  subst hv
  refine⟨⟨_,_,rfl,fun _=>rfl,fun j hj i u hu=>?_,hl,_,rfl,hnc⟩,fun n c e=>(by injection e with e1;simp at e1),fun _=>hbb⟩
  have hi:i<5:=(List.getElem?_eq_some_iff.1 hu).1;have hg:=qwc ms j i hj hi
  rw[hu] at hg
  have:=hc _ _ hg
  rw[Addr.add_lit] at this
  simpa[mb,mo] using this
theorem qnm:(prog.info? 50).map (fun i=>(i.zero,i.size,i.bytes))=some (some (.agg (mc noM)),5,40):=by kernel_rfl
theorem qql(w:World)(m:Mp)(t:TypeId):∀j u,(mcl m)[j]?=some u->(w.alloc (.cells (mc m) t)).cell? ((⟨w.heap.size,0,none⟩:Addr).add j)=some u:=by
 intro j u hu;rw[Addr.add_lit,Nat.zero_add];rw[World.cell?_alloc_mark w (mc m) t (0,0) j]
 show(mcl m).toArray[j]?=some u
 simpa using hu
theorem qmp(m:Mp):∀u∈mcl m,u.oneCell'=true:=by
 intro u hu
 simp[mcl] at hu
 rcases hu with rfl|rfl|rfl|rfl|rfl<;>rfl
theorem qkl(hgd:o.guard=none)(x:Operand)(ho:o.op=.buildSlice 37 1 #[(0,x)])(m:Mp)(hx:a.eval x=.agg (mc m))(hr:wpList prog ops Q rest (a.put o.dst (.slice (some ⟨w.heap.size,0,none⟩) 1 1)) (w.alloc (.cells (mc m) 50))):wpList prog ops Q (o::rest) a w:=
 wpList_plain hgd fun K hK=>by
  (have hb:(Instr.buildSlice 37 1 #[(0,.agg (mc m))]).run prog w=.ok (.slice (some ⟨w.heap.size,0,none⟩) 1 1) (w.alloc (.cells (mc m) 50)):=by kernel_rfl)
  unfold Oper.wp execOp
  simp only[ho,List.map_toArray,List.map_cons,List.map_nil,hx,Sem.run_bind,hb,Result.andThen_ok,Sem.run_pure]
  exact hK _ _ hr
theorem q25(R:Row t w b cs)(h:w.ownsRow base e size v n xs)(hne:t≠e\/b<base)(hg:w.grownBy w' v.ownBlock):Row t w' b cs:=by
 refine(hg.block b R.lt ?_).trans R
 intro eq
 rcases hne with hne|hlt
 ·rcases h.2 with⟨e',_⟩|⟨g,cap,cur,hv,hbb,hh,r⟩
  ·rw[e'] at eq;simp[Value.ownBlock] at eq
  ·rw[hv] at eq
   (have e':b=g:=by simpa[Value.ownBlock] using eq)
   subst e'
   unfold Row at R
   rw[hh] at R
   injection R with R
   injection R with _ R2
   exact hne R2.symm
 ·have:=h.lt b eq.symm
  omega
theorem qok(h:Below B w0 w)(hle:B<=w.heap.size)(hg:w.grownBy w' none):Below B w0 w':=
 ⟨hg.os.trans h.os,hg.tape.trans h.tape,hg.output.trans h.output,Nat.le_trans h.size hg.size,fun k hk=>(hg.block k (Nat.lt_of_lt_of_le hk hle) zm).trans (h.block k hk)⟩
theorem qkx(h:w.ownsRow base e size v n xs):∃a c,v=.slice a n c:=by
 exact sZtd111
theorem qou(hgd:o.guard=none)(x y:Operand)(ho:o.op=.makeSlice 37 x y)(hx:a.eval x=I Z 0)(c:Nat)(hy:a.eval y=I Z (c:Int))(hc:c<=1000)(hr:∀v w',v=.slice (some ⟨w.heap.size,0,none⟩) 0 c->w'.ownsRow w.heap.size 50 5 v 0 []->w.grownBy w' none->wpList prog ops Q rest (a.put o.dst v) w'):wpList prog ops Q (o::rest) a w:=
 wpList_plain hgd fun K hK=>by
  obtain⟨i0,hi,hz0,hz1,hz2⟩:=info_parts qnm;obtain⟨w',hrun,h1,h2⟩:=run_make_own (P:=prog) w w.heap.size 37 50 i0 (.agg (mc noM)) 5 underlying37 hi hz0 hz1 .i64 .i64 c (by rw[hz2];omega) (by unfold maxLen;omega) (Nat.le_refl _)
  unfold Oper.wp execOp
  simp only[ho,hx,hy,Sem.run_bind,hrun,Result.andThen_ok,Sem.run_pure]
  exact hK _ _ (hr _ w' rfl h1 h2)
theorem qn1{b2:Nat}(h:w.ownsRow base e size v n xs)(hb:b2<=base):w.ownsRow b2 e size v n xs:=by
 refine⟨h.1,?_⟩
 rcases h.2 with e|⟨b,cap,cur,hv,hbb,r⟩
 ·exact .inl e
 ·exact .inr ⟨b,cap,cur,hv,by omega,r⟩
theorem sZtd112(h:p:=by
 go_ret
 obtain⟨h1,h2,h3⟩:=fin _ _ hown4
 exact⟨_,rfl,h1,h2,h3,hB⟩):p:=h
theorem q50(sl:Value)(ms:List Mp)(m:Mp)(w:World)(hM:qaz w sl ms)(hno:qcs sl)(hl:ms.length<=96):
  Calls prog 166 #[sl,.agg (mc m)] w fun e w'=>∃v,e=.returned v/\qaz w' v (ms++[m])/\qcs v/\w.heap.size<=mb v/\Below w.heap.size w w':=by
 refine m2a ?_;intro hB;obtain⟨i0,hi,hz0,hz1,hz2⟩:=info_parts qnm;have hM0:=hM
 obtain⟨a0,cap,hsl,ha0,hrg,-⟩:=hM0
 obtain⟨n,hn⟩:∃n,n=ms.length:=⟨_,rfl⟩
 have HN:Hid (n=ms.length):=hn
 rw[←hn] at hsl
 (have hn96:n<=96:=by omega);(have hnw:wrap64 ((n:Int)+1)=((n+1:Nat):Int):=by unfold wrap64;omega);have hlt:=hM.lt
 have src:∀ {W:World},Below w.heap.size w W->∀k u,(flat ms)[k]?=some u->W.cell? ((⟨mb sl,mo sl,none⟩:Addr).add k)=some u:=by
  intro W hb k u hu;rw[Addr.add_lit]
  refine qrv (fun j hj=>?_) k u hu
  exact(hM.keep hb hlt).at j hj rfl
 have fin:∀(W:World) (v:Value),W.ownsRow w.heap.size 50 5 v (n+1) (flat ms++mcl m)->qaz W v (ms++[m])/\qcs v/\w.heap.size<=mb v:=by
  intro W v h;(have e1:(ms++[m]).length=n+1:=by simp[←hn]);(have h':W.ownsRow w.heap.size 50 5 v (ms++[m]).length (flat (ms++[m])):=by rw[e1,qvh,qtx];exact h)
  have:=qqm h' om
  exact⟨this.1,this.2.1,this.2.2 om⟩
 clear hn hrg
 cases a0 with
 | none=>
  obtain rfl:cap=0:=hno _ _ hsl
  have n0:ms.length=0:=by
   by_cases h:0<ms.length
   ·have:=ha0 h;simp at this
   ·omega
  have hms:ms=[]:=List.eq_nil_of_length_eq_zero n0
  obtain rfl:n=0:=HN.out.trans n0
  subst hsl
  clear ha0 src
  go_enter func166,ntmps166
  go_wp2_with (first|(refine m8w ?_;intro b3 w0 l3 R3 hb0;replace hB:=hB.trans (hb0.mono hB.size))|(refine qou rfl _ _ rfl rfl (0+1) rfl om ?_;intro v1 w1 hv1 hown1 hg1;have l3b:=R3.lt;replace R3:Row 50 w1 b3 (mc m):=(hg1.block b3 R3.lt zm).trans R3;replace hown1:=hown1;replace hB:=qok hB hB.size hg1;subst hv1)|(refine wpList_append_own_none rfl (.tmp 10) (.tmp 11) 37 rfl w.heap.size 50 i0 5 underlying37 hi _ _ _ rfl (qn1 hown1 (by have:=hb0.size;omega)) rfl ?_;have hown2:World.ownsRow _ w.heap.size 50 5 _ 0 []:=qn1 hown1 (by have:=hb0.size;omega);rw[hms] at fin)|(refine qac 50 _ rfl rfl _ rfl (mc m) R3 _ underlying50 rfl (qak m) ?_)|(refine qkl rfl _ rfl m rfl ?_)|(refine m3e ?_;clear hB;intro v4 w4 hown4 hg4 hB;obtain⟨a4,c4,rfl⟩:=qkx hown4))
  exact sZtd112
 | some ad=>
  have had:0<n->ad=⟨mb sl,mo sl,none⟩:=fun h=>by
   have:=ha0 (by rw[←HN.out];exact h)
   exact Option.some.inj this
  have src':∀ {W:World},Below w.heap.size w W->∀k u,(flat ms)[k]?=some u->W.cell? (ad.add k)=some u:=by
   intro W hb k u hu;refine m76 ?_;intro hk
   rw[had (by rw[HN.out];omega)]
   exact src hb k u hu
  subst hsl
  clear ha0 src had hno
  go_enter func166,ntmps166
  go_wp2_with (first|(refine m8w ?_;intro b3 w0 l3 R3 hb0;replace hB:=hB.trans (hb0.mono hB.size))|(refine qou rfl _ _ rfl rfl (n+1) rfl om ?_;intro v1 w1 hv1 hown1 hg1;have l3b:=R3.lt;replace R3:Row 50 w1 b3 (mc m):=(hg1.block b3 R3.lt zm).trans R3;replace hown1:=hown1;replace hB:=qok hB hB.size hg1;subst hv1)|(refine wpList_append_own _ rfl (.tmp 10) (.tmp 11) 37 rfl w.heap.size 50 i0 (.agg (mc noM)) 5 40 underlying37 hi hz0 hz1 hz2 rfl (by decide) _ _ _ rfl (qn1 hown1 (by have:=hb0.size;omega)) ad n cap (flat ms) rfl (by rw[qka,HN.out]) (src' hB) (qov ms) (by unfold maxLen;omega) om hB.size ?_;intro v2 w2 hown2 hg2 hn2;clear hn2;simp only[Nat.zero_add,List.nil_append] at hown2;replace R3:=q25 R3 hown1 (.inr l3b) hg2;replace hB:=qhq (qn1 hown1 (by have:=hb0.size;omega)) hB hB.size hg2;obtain⟨a2,c2,rfl⟩:=qkx hown2)|(refine qac 50 _ rfl rfl _ rfl (mc m) R3 _ underlying50 rfl (qak m) ?_)|(refine qkl rfl _ rfl m rfl ?_)|(refine m3e ?_;clear hB;intro v4 w4 hown4 hg4 hB;obtain⟨a4,c4,rfl⟩:=qkx hown4))
  exact sZtd112
theorem qcl{ms:List Mp}(h:qaz w v ms)(hne:0<ms.length->mb v≠b)(t:qbl b w w'):qaz w' v ms:=by
 obtain⟨a,cap,e,h1,h2,h3⟩:=h
 refine⟨a,cap,e,h1,fun j hj i u hu=>?_,h3⟩
 have:=h2 j hj i u hu
 unfold World.cell? at *
 rw[t.other _ (hne om)]
 exact this
theorem qaz.away3{ms:List Mp}(h:qaz w v ms)(hb:w.heap.size<=b):0<ms.length->mb v≠b:=fun hl=>Nat.ne_of_lt (Nat.lt_of_lt_of_le (h.lt hl) hb)
theorem qaa(p:Op)(ho:o.op=p)(h:wpList prog ops Q (o::rest) a w):wpList prog ops Q (o::rest) a w:=h
theorem q5i(h:wpList prog ops Q (o::rest) a w):wpList prog ops Q (o::rest) a w:=h
theorem qrb(h:w.ownsRow base e size v n xs)(hb:Below w.heap.size w w'):w'.ownsRow base e size v n xs:=by
 exact sZtd15
theorem qpt(h:w.ownsRow base e size v n xs)(t:qbl b7 w w')(hn:v.ownBlock≠some b7):w'.ownsRow base e size v n xs:=by
 exact sZtd16
theorem qs6(h:w.ownsRow base e size v n xs)(hb:w.heap.size<=b7):v.ownBlock≠some b7:=by
 rcases h.2 with⟨e,_⟩|⟨b,cap,cur,hv,hbb,hh,r⟩
 ·rw[e];simp[Value.ownBlock]
 ·rw[hv];intro e;have e':b=b7:=Option.some.inj e
  have:=(Array.getElem?_eq_some_iff.1 hh).1
  omega
theorem q0k(R:Row t w b cs)(hne:v.ownBlock≠some b)(hg:w.grownBy w' v.ownBlock):Row t w' b cs:=(hg.block b R.lt (fun e=>hne e.symm)).trans R
theorem qzu{ms:List Mp}{o m:Mp}(hlj:j<ms.length)(hm:ms[j]=o):qa6 (ms.take (j+1)) m=qa6 (ms.take j) m++if o=m then [] else [o]:=by
 unfold qa6;rw[qic hlj hm,List.filter_append]
 by_cases e:o=m
 ·simp[e]
 ·simp[e]
theorem q5x(ms:List Mp)(m:Mp)(j:Nat):(qa6 (ms.take j) m).length<=ms.length:=by
 unfold qa6;exact Nat.le_trans (List.length_filter_le _ _) (by rw[List.length_take];omega)
theorem qlt(h0:0<=x)(h8:x<=8):(Lit.int .i64 x).wf=true:=by simp[Lit.wf,IntKind.min,IntKind.max,IntKind.bits,IntKind.signed];omega
def wfH(h:Nat->Int):Prop:=∀i,i<8->(Lit.int .i64 (h i)).wf=true
theorem qul(f:Nat->Int)(hf:wfF f):prog.keyLits 3 32 (Value.agg (oc f)).cells.toList=some [.int .i64 (f 0),.int .i64 (f 1),.int .i64 (f 2),.int .i64 (f 3),.int .i64 (f 4),.int .i64 (f 5),.int .i64 (f 6),.int .i64 (f 7),.int .i64 (f 8),.int .i64 (f 9),.int .i64 (f 10),.int .i64 (f 11),.int .i64 (f 12),.int .i64 (f 13),.int .i64 (f 14),.int .i64 (f 15),.int .i64 (f 16),.int .i64 (f 17)]:=by
 (have c44:prog.cellsOf 32=18:=by kernel_rfl);(have c43:prog.cellsOf 31=6:=by kernel_rfl);(have c3:prog.cellsOf 3=1:=by kernel_rfl);have h0:=hf 0 om;have h1:=hf 1 om;have h2:=hf 2 om;have h3:=hf 3 om;have h4:=hf 4 om;have h5:=hf 5 om;have h6:=hf 6 om;have h7:=hf 7 om;have h8:=hf 8 om;have h9:=hf 9 om;have h10:=hf 10 om;have h11:=hf 11 om;have h12:=hf 12 om;have h13:=hf 13 om;have h14:=hf 14 om;have h15:=hf 15 om;have h16:=hf 16 om;have h17:=hf 17 om
 simp[Program.keyLits,Value.cells,oc,underlying32,underlying31,underlying3,c44,c43,c3,List.range,List.range.loop,h0,h1,h2,h3,h4,h5,h6,h7,h8,h9,h10,h11,h12,h13,h14,h15,h16,h17]
def hc8(h:Nat->Int):Array Value:=(hcl h).toArray
theorem qtz(h:Nat->Int)(hh:wfH h):prog.keyLits 2 36 (Value.agg (hc8 h)).cells.toList=some [.int .i64 (h 0),.int .i64 (h 1),.int .i64 (h 2),.int .i64 (h 3),.int .i64 (h 4),.int .i64 (h 5),.int .i64 (h 6),.int .i64 (h 7)]:=by
 (have c8:prog.cellsOf 36=8:=by kernel_rfl);(have c3:prog.cellsOf 3=1:=by kernel_rfl);have h0:=hh 0 om;have h1:=hh 1 om;have h2:=hh 2 om;have h3:=hh 3 om;have h4:=hh 4 om;have h5:=hh 5 om;have h6:=hh 6 om;have h7:=hh 7 om
 simp[Program.keyLits,Value.cells,hc8,hcl,underlying36,underlying3,c8,c3,List.range,List.range.loop,h0,h1,h2,h3,h4,h5,h6,h7]
def eqTo(f g:Nat->Int)(n:Nat):Bool:=(List.range n).all fun k=>f k==g k
theorem qjn(f g:Nat->Int)(n:Nat):eqTo f g n=true↔∀k,k<n->f k=g k:=by simp[eqTo]
theorem qv1(f g:Nat->Int)(n:Nat):((List.range n).map fun k=>Lit.int .i64 (f k))=((List.range n).map fun k=>Lit.int .i64 (g k))↔eqTo f g n=true:=by
 rw[qjn,List.map_inj_left]
 constructor
 ·intro h k hk;have:=h k (List.mem_range.2 hk);injection this
 ·intro h k hk;rw[h k (List.mem_range.1 hk)]
theorem qq8(f g:Nat->Int)(hf:wfF f)(hg:wfF g)(w:World):(Op.equalIn 10000 32 (.agg (oc f)) (.agg (oc g))).run prog w=.ok (eqTo f g 18) w:=by
 obtain⟨r,h1,h2⟩:=run_equalIn_deep (P:=prog) 9997 3 32 kr w 3 3 (.agg (oc f)) (.agg (oc g)) _ _ kr kr (qul f hf) (qul g hg)
 have e:r=eqTo f g 18:=by
  rw[Bool.eq_iff_iff,←qv1 f g 18]
  exact h2
 rw[e] at h1
 exact h1
theorem qmy(f g:Nat->Int)(hf:wfH f)(hg:wfH g)(w:World):(Op.equalIn 10000 36 (.agg (hc8 f)) (.agg (hc8 g))).run prog w=.ok (eqTo f g 8) w:=by
 obtain⟨r,h1,h2⟩:=run_equalIn_deep (P:=prog) 9998 2 36 kr w 2 2 (.agg (hc8 f)) (.agg (hc8 g)) _ _ kr kr (qtz f hf) (qtz g hg)
 have e:r=eqTo f g 8:=by
  rw[Bool.eq_iff_iff,←qv1 f g 8]
  exact h2
 rw[e] at h1
 exact h1
theorem qakb(h:Nat->Int)(j:Nat)(v:Value)(hv:(hcl h)[j]?=some v):j<8/\v=I Z (h j):=by
 have hj:j<8:=(List.getElem?_eq_some_iff.1 hv).1
 refine⟨hj,?_⟩
 rcases(show j=0\/j=1\/j=2\/j=3\/j=4\/j=5\/j=6\/j=7 by omega) with rfl|rfl|rfl|rfl|rfl|rfl|rfl|rfl<;>exact(Option.some.inj hv).symm
theorem Row.homes(R:Row 39 w b (tc f g h sl)):w.rangeAt b 21 (hcl h):=R.range (fun j v hv=>by
 obtain⟨hj,rfl⟩:=qakb h j v hv
 exact qhc f g h sl j hj)
theorem qfd(h:Nat->Int):(prog.info? 36).map (·.size)=some (hcl h).length:=by kernel_rfl
theorem qkf(h:Nat->Int):(hcl h).toArray=hc8 h:=rfl
theorem Row.pool(R:Row 39 w b (tc f g h sl)):w.rangeAt b 0 (pc f g).toList:=R.range (fun j v hv=>by
 rw[Nat.zero_add];(have hj:j<21:=by have:=(List.getElem?_eq_some_iff.1 hv).1;simpa[qf1] using this);rw[qxwb]
 rw[Array.getElem?_append_left (by simp[qf1,hcl];omega),Array.getElem?_append_left (by rw[qf1];omega)]
 simpa using hv)
theorem qkh(f:Nat->Int)(g:Nat->Bool):(prog.info? 35).map (·.size)=some (pc f g).toList.length:=by kernel_rfl
theorem q5z(ms:List Mp)(hg:qcv f=true):wfF (qd0 f ms):=fun i hi=>by
 have:=qki hg i hi
 unfold qd0;split
 ·exact qlt this.1 this.2
 ·exact qlt om om
theorem qpn(hg:qcv f=true):wfF f:=fun i hi=>qlt (qki hg i hi).1 (qki hg i hi).2
theorem q5e(ms:List Mp)(hh:wfH h):wfH (qdq h ms):=fun i hi=>by
 unfold qdq;split
 ·exact hh i hi
 ·exact qlt om om
theorem qrs{ms:List Mp}(hM:qaz w sl ms)(j:Nat)(hj:j<ms.length)(w2:World):(Instr.indexAt 37 sl (I Z (j:Int))).run prog w2=.ok (V (some ⟨mb sl,mo sl+5*j,none⟩)) w2:=by
 obtain⟨a0,cap,e,h1,h2,h3⟩:=hM;have e1:=h1 om
 generalize mb sl=B at *
 generalize mo sl=O at *
 subst e1
 subst e
 (have hn:((j:Int)).toNat<ms.length:=by simpa using hj);(have hjl:(j:Int)<(ms.length:Int):=by omega);(have hs:(sizeOf 50).run prog w2=.ok 5 w2:=by kernel_rfl)
 simp[go_sem,hj,hn,hjl,underlying37,hs]
theorem qn6(x y:Operand)(ho:o.op=.indexAddr 37 x y)(hw:Region.wanted o (yielded ops a.tmps)=true)(p i q:Value)(hx:a.eval x=p)(hy:a.eval y=i)(hrun:∀w:World,(Instr.indexAt 37 p i).run prog w=.ok q w):YieldsIf prog ops S o q a:=
 .inl ⟨hw,fun w _=>by unfold execOp;simp only[ho,hx,hy,Sem.run_bind,hrun w,Result.andThen_ok,Sem.run_pure]⟩
theorem qry(t:TypeId)(x y:Operand)(ho:o.op=.binOp .neq t x y t)(hw:Region.wanted o (yielded ops a.tmps)=true)(xs ys:Array Value)(hx:a.eval x=.agg xs)(hy:a.eval y=.agg ys)(hg:prog.eqGuardType prog.depth t=false)(r q:Bool)(he:∀w:World,(Op.equalIn 10000 t (.agg xs) (.agg ys)).run prog w=.ok r w)(hq:(!r)=q):YieldsIf prog ops S o (.bool q) a:=
 .inl ⟨hw,fun w _=>by
  subst hq
  unfold execOp
  simp only[ho,hx,hy,Sem.run_bind,run_eqGuard_agg w .neq t x y xs ys hg,run_neq_struct,he w,Result.andThen_ok,Sem.run_pure]⟩
theorem qgw(t:TypeId)(x:Operand)(ho:o.op=.load t x)(hw:Region.wanted o (yielded ops a.tmps)=true)(b k:Nat)(hx:a.eval x=V (some ⟨b,k,none⟩))(l:List Value)(hS:∀w,S w->w.rangeAt b k l)(d:TypeDesc)(hu:prog.underlying t=some d)(hd:d.isRow=true)(hi:(prog.info? t).map (·.size)=some l.length):YieldsIf prog ops S o (.agg l.toArray) a:=
 yieldsIf_load_mid (P:=prog) (S:=S) hw t x ho b k hx l d hS hu hd hi
theorem qi3(t:TypeId)(x:Operand)(ho:o.op=.load t x)(hw:Region.wanted o (yielded ops a.tmps)=true)(b k:Nat)(hx:a.eval x=V (some ⟨b,k,none⟩))(l:List Value)(hc:w.rangeAt b k l)(d:TypeDesc)(hu:prog.underlying t=some d)(hd:d.isRow=true)(hi:(prog.info? t).map (·.size)=some l.length)(hr:wpList prog ops Q rest (a.put o.dst (.agg l.toArray)) w):wpList prog ops Q (o::rest) a w:=
 wpList_step fun K hK=>by
  rw[if_pos hw]
  exact wp_load_mid t x ho b k hx l d hc hu hd hi (hK _ _ hr)
theorem q2m(f:Nat->Int)(n:Nat):eqTo f f n=true:=(qjn f f n).2 fun _ _=>rfl
theorem qpv(h:Below B w0 w):Below B w0 w.drew:=⟨h.os,h.tape,h.output,h.size,h.block⟩
end Go.Proofs.YtonnjgmognbnbaaGreatDoor
