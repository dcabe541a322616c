/-
  Of what a law stands on.
-/
import Derived.Outline
import Derived.WalkSpells
import Derived.Test.YtbboabfmoahipaaZbp2
import Derived.Test.YtbboabfmoahipaaZbb1
set_option linter.unusedSimpArgs false
set_option linter.unusedVariables false
namespace Go.Proofs.Ytbboabfmoahipaa
open Go.Value renaming int → I,pointer → V
open Go.IntKind renaming i64 → Z
open _root_.Go.Proofs.Try Go.ChangeShapes Go.WideShapes Go.ChangeAt Go.RowKit
set_option maxHeartbeats 16000000
set_option maxRecDepth 100000
variable {p:Prop}{a d q s x:Int}{b b7 base c i j n:Nat}{f h:Nat->Int}{l:List Nat}{g:Nat->Bool}{w w':World}{sl v:Value}
theorem qbrb(k n:Int)(hn:0<n):-n<k.tmod n/\k.tmod n<n/\(k.tmod n<0->k.tmod n+n=k%n)/\(0<=k.tmod n->k.tmod n=k%n):=by
 have h1:=Int.tmod_eq_emod (a:=k) (b:=n);have h2:=Int.emod_nonneg k (show n≠0 by omega);have h3:=Int.emod_lt_of_pos k hn;(have h4:(n.natAbs:Int)=n:=by omega)
 split at h1
 ·simp at h1;omega
 ·rename_i hd
  (have h5:k%n≠0:=fun e=>hd (.inr (Int.dvd_of_emod_eq_zero e)))
  omega
theorem sZbd15(h:p:=by
 clear h3 h4
 go_enter func26,ntmps26
 go_wp2
 go_ret
 exact⟨congrArg (fun z=>Ending.returned (I Z z)) H.out,rfl⟩):p:=h
theorem q11(k n:Int)(w:World)(hn:0<n)(hm:n<=4611686018427387904):
  Calls prog 26 #[I Z k,I Z n] w fun e w'=>e=.returned (I Z (k%n))/\w'=w:=by
 obtain⟨h1,h2,h3,h4⟩:=qbrb k n hn;(have hz:(n==0)=false:=by simp;omega);(have hw:wrap64 (k.tmod n)=k.tmod n:=by unfold wrap64;omega)
 by_cases hneg:k.tmod n<0
 ·have H:Hid (k.tmod n+n=k%n):=h3 hneg
  exact sZbd15
 ·have H:Hid (k.tmod n=k%n):=h4 om
  exact sZbd15
abbrev Mp:=Int×Int×Int×Int×Int
def isP(p:Int):Bool:=p==1||p==6||p==17
theorem qo8(p:Int):isP p=true↔p=1\/p=6\/p=17:=by simp[isP,or_assoc]
def qdi(a q:Int):Nat:=6*a.toNat+((q-1024)/8).toNat
theorem qsy(ha:0<=a/\a<3)(hq:1024<=q/\q<1072):qdi a q<18:=by unfold qdi;omega
theorem qrg{b r:Int}(ha:0<=a/\a<3)(hq:1024<=q/\q<1072)(hb:0<=b/\b<3)(hr:1024<=r/\r<1072):qdi a q=qdi b r↔a=b/\(q-1024)/8=(r-1024)/8:=by unfold qdi;omega
def qdb(f h:Nat->Int)(m:Mp):Prop:=
 isP m.1=true/\(0<=m.2.1/\m.2.1<8)/\(0<=m.2.2.1/\m.2.2.1<=65535)/\(1024<=m.2.2.2.2/\m.2.2.2.2<1072)/\(0<=m.2.2.2.1/\m.2.2.2.1<3)/\h m.2.1.toNat=m.2.2.2.1+1/\f (qdi m.2.2.2.1 m.2.2.2.2)=m.2.1+1
def inS(p s i:Int)(o:Mp):Bool:=o.1==p&&o.2.1==s&&o.2.2.1==i
def outS(p a q:Int)(o:Mp):Bool:=o.1==p&&o.2.2.2.1==a&&o.2.2.2.2==q
theorem qsm(p s i:Int)(o:Mp):inS p s i o=true↔o.1=p/\o.2.1=s/\o.2.2.1=i:=by simp[inS,and_assoc]
theorem qup(p a q:Int)(o:Mp):outS p a q o=true↔o.1=p/\o.2.2.2.1=a/\o.2.2.2.2=q:=by simp[outS,and_assoc]
def qc0(ms:List Mp)(m:Mp):Bool:=ms.any fun o=>inS m.1 m.2.1 m.2.2.1 o||outS m.1 m.2.2.2.1 m.2.2.2.2 o
def qa7(m:Mp):Nat:=qdi m.2.2.2.1 m.2.2.2.2
def MsOk(f h:Nat->Int)(ms:List Mp):Prop:=(∀m∈ms,qdb f h m)/\ms.Pairwise (fun o m=>qc0 [o] m=false)
theorem qvg(f h:Nat->Int):MsOk f h []:=⟨fun m hm=>by simp at hm,List.Pairwise.nil⟩
theorem qi6{ms:List Mp}{m:Mp}:qc0 ms m=false↔∀o∈ms,qc0 [o] m=false:=by
 simp[qc0]
theorem qof(f h:Nat->Int)(ms:List Mp)(m:Mp):MsOk f h (ms++[m])↔MsOk f h ms/\qdb f h m/\qc0 ms m=false:=by
 unfold MsOk
 rw[List.pairwise_append,qi6]
 constructor
 ·rintro⟨h1,h2,_,h3⟩
  exact⟨⟨fun o ho=>h1 o (by simp[ho]),h2⟩,h1 m zm,fun o ho=>h3 o ho m zm⟩
 ·rintro⟨⟨h1,h2⟩,h3,h4⟩
  refine⟨fun o ho=>?_,h2,by simp,fun o ho x hx=>?_⟩
  ·rcases List.mem_append.1 ho with h|h
   ·exact h1 o h
   ·rw[List.mem_singleton.1 h];exact h3
  ·rw[List.mem_singleton.1 hx];exact h4 o ho
def qd0(f:Nat->Int)(ms:List Mp):Nat->Int:=fun k=>if (ms.any fun m=>qa7 m==k)=true then f k else 0
def qdq(h:Nat->Int)(ms:List Mp):Nat->Int:=fun k=>if (ms.any fun m=>m.2.1.toNat==k)=true then h k else 0
theorem q09(f:Nat->Int):qd0 f []=fun _=>0:=by funext k;simp[qd0]
theorem q3t(f:Nat->Int):qdq f []=fun _=>0:=by funext k;simp[qdq]
theorem sZbd110(h:p:=by
 rw[if_neg e,List.any_append];simp only[List.any_cons,List.any_nil,this,Bool.or_false]):p:=h
theorem qyv{ms:List Mp}{m:Mp}(hs:qdb f h m):upd (qd0 f ms) (qa7 m) (m.2.1+1)=qd0 f (ms++[m]):=by
 funext k
 unfold upd qd0
 by_cases e:k=qa7 m
 ·subst e;simp[qa7,hs.2.2.2.2.2.2]
 ·have:(qa7 m==k)=false:=by simp;omega
  exact sZbd110
theorem qy1{ms:List Mp}{m:Mp}(hs:qdb f h m):upd (qdq h ms) m.2.1.toNat (m.2.2.2.1+1)=qdq h (ms++[m]):=by
 funext k
 unfold upd qdq
 by_cases e:k=m.2.1.toNat
 ·subst e;simp[hs.2.2.2.2.2.1]
 ·have:(m.2.1.toNat==k)=false:=by simp;omega
  exact sZbd110
def qbk(f:Nat->Int)(s:Int):List Nat:=(List.range 18).filter fun n=>f n==s+1
def cntM(ms:List Mp)(s:Int):Nat:=(ms.filter fun m=>m.2.1==s).length
theorem qjt(f:Nat->Int)(s:Int)(n:Nat):n∈qbk f s↔n<18/\f n=s+1:=by simp[qbk]
structure qbq(f h:Nat->Int)(ms:List Mp):Prop where
 pool:qcv f=true
 maps:MsOk f h ms
 own:∀k,k<18->f k≠0->∃m∈ms,qa7 m=k
 home:∀s,s<8->h s≠0->∃m∈ms,m.2.1.toNat=s
 few:∀s:Nat,s<8->(qbk f s).length<=2/\cntM ms s<=12
theorem q3f{ms:List Mp}:(∀k,k<18->qd0 f ms k=f k)↔∀k,k<18->f k≠0->∃m∈ms,qa7 m=k:=by
 refine forall_congr' fun k=>forall_congr' fun hk=>?_
 unfold qd0
 by_cases e:(ms.any fun m=>qa7 m==k)=true
 ·have:∃m∈ms,qa7 m=k:=by simpa using e
  simp[e,this]
 ·have:¬ ∃m∈ms,qa7 m=k:=by simpa using e
  rw[if_neg e]
  constructor
  ·intro h1 h2;exact absurd h1.symm h2
  ·intro h1
   by_cases h0:f k=0
   ·exact h0.symm
   ·exact absurd (h1 h0) this
theorem q2y{ms:List Mp}:(∀k,k<8->qdq h ms k=h k)↔∀k,k<8->h k≠0->∃m∈ms,m.2.1.toNat=k:=by
 refine forall_congr' fun k=>forall_congr' fun hk=>?_
 unfold qdq
 by_cases e:(ms.any fun m=>m.2.1.toNat==k)=true
 ·have:∃m∈ms,m.2.1.toNat=k:=by simpa using e
  simp[e,this]
 ·have:¬ ∃m∈ms,m.2.1.toNat=k:=by simpa using e
  rw[if_neg e]
  constructor
  ·intro h1 h2;exact absurd h1.symm h2
  ·intro h1
   by_cases h0:h k=0
   ·exact h0.symm
   ·exact absurd (h1 h0) this
theorem ql6{ms:List Mp}:qbq f h ms↔qcv f=true/\MsOk f h ms/\(∀k,k<18->qd0 f ms k=f k)/\(∀k,k<8->qdq h ms k=h k)/\∀s:Nat,s<8->(qbk f s).length<=2/\cntM ms s<=12:=by
 rw[q3f,q2y]
 exact⟨fun x=>⟨x.pool,x.maps,x.own,x.home,x.few⟩,fun x=>⟨x.1,x.2.1,x.2.2.1,x.2.2.2.1,x.2.2.2.2⟩⟩
theorem qdb.lt{m:Mp}(x:qdb f h m):qa7 m<18:=qsy x.2.2.2.2.1 x.2.2.2.1
theorem sZbd16(h:p:=by
 unfold cntM at *
 rw[List.filter_append,List.length_append]
 by_cases e:m.2.1=(s:Int)
 ·rw[e] at hc
  simp[e];omega
 ·simp[e,h12]):p:=h
theorem q4h{ms:List Mp}{m:Mp}(G:qbq f h ms)(hs:qdb f h m)(hm:qc0 ms m=false)(hc:cntM ms m.2.1≠12):qbq f h (ms++[m]):=by
 refine⟨G.pool,(qof f h ms m).2 ⟨G.maps,hs,hm⟩,fun k hk h0=>?_,fun s h8 h0=>?_,fun s h8=>⟨(G.few s h8).1,?_⟩⟩
 ·obtain⟨o,ho,e⟩:=G.own k hk h0;exact⟨o,by simp[ho],e⟩
 ·obtain⟨o,ho,e⟩:=G.home s h8 h0;exact⟨o,by simp[ho],e⟩
 ·have h12:=(G.few s h8).2
  exact sZbd16
theorem qps(hn:n<18)(h0:f n≠s+1):(qbk (upd f n x) s).length=(qbk f s).length+if x=s+1 then 1 else 0:=by
 have key:∀N,((List.range N).filter fun k=>upd f n x k==s+1).length=((List.range N).filter fun k=>f k==s+1).length+if n<N/\x=s+1 then 1 else 0:=by
  intro N
  induction N with
  | zero=>simp
  | succ N ih=>
   rw[List.range_succ,List.filter_append,List.filter_append,List.length_append,List.length_append,ih]
   by_cases e:N=n
   ·subst e
    (have h0':(f N==s+1)=false:=by simp[h0])
    by_cases hx:x=s+1
    ·simp[upd,hx,h0']
    ·(have hx':(x==s+1)=false:=by simp[hx])
     simp[upd,hx,h0',hx']
   ·(have e1:upd f n x N=f N:=by simp[upd,e])
    simp only[List.filter,e1]
    by_cases hx:x=s+1
    ·(have e2:(n<N+1)=(n<N):=by apply propext;omega)
     simp only[hx,e2];omega
    ·simp[hx]
 unfold qbk
 rw[key 18]
 simp[hn]
theorem q1f{ms:List Mp}{m:Mp}(G:qbq f h ms)(h0:f (qa7 m)=0)(hp:isP m.1=true)(hsb:0<=m.2.1/\m.2.1<8)(hi:0<=m.2.2.1/\m.2.2.1<=65535)(hq:1024<=m.2.2.2.2/\m.2.2.2.2<1072)(ha:0<=m.2.2.2.1/\m.2.2.2.1<3)(hh:h m.2.1.toNat=0\/h m.2.1.toNat=m.2.2.2.1+1)(hf:ms.any (inS m.1 m.2.1 m.2.2.1)=false)(hc:cntM ms m.2.1≠12)(hb:(qbk f m.2.1).length<2):qbq (upd f (qa7 m) (m.2.1+1)) (upd h m.2.1.toNat (m.2.2.2.1+1)) (ms++[m]):=by
 have hpl:qa7 m<18:=qsy ha hq;(have hst:qdb (upd f (qa7 m) (m.2.1+1)) (upd h m.2.1.toNat (m.2.2.2.1+1)) m:=⟨hp,hsb,hi,hq,ha,by simp[upd],by simp[upd,qa7]⟩)
 have hold:∀o∈ms,qdb (upd f (qa7 m) (m.2.1+1)) (upd h m.2.1.toNat (m.2.2.2.1+1)) o:=by
  intro o ho;have so:=G.maps.1 o ho
  refine⟨so.1,so.2.1,so.2.2.1,so.2.2.2.1,so.2.2.2.2.1,?_,?_⟩
  ·have:=so.2.2.2.2.2.1
   unfold upd
   split
   ·rename_i e
    rcases hh with hh|hh
    ·rw[←e] at hh;rw[hh] at this;have:=so.2.2.2.2.1;omega
    ·rw[←e] at hh;rw[hh] at this;omega
   ·exact this
  ·have e7:=so.2.2.2.2.2.2
   unfold upd
   split
   ·rename_i e
    (have e':f (qa7 m)=o.2.1+1:=by rw[←e];exact e7)
    have:=so.2.1;omega
   ·exact e7
 have hmm:qc0 ms m=false:=by
  rw[qi6];intro o ho
  have hin:inS m.1 m.2.1 m.2.2.1 o=false:=by
   have:=List.any_eq_false.1 hf o ho
   simpa using this
  have hout:outS m.1 m.2.2.2.1 m.2.2.2.2 o=false:=by
   cases hx:outS m.1 m.2.2.2.1 m.2.2.2.2 o with
   | false=>rfl
   | true=>
    obtain⟨_,e1,e2⟩:=(qup _ _ _ _).1 hx
    have so:=G.maps.1 o ho;have e7:=so.2.2.2.2.2.2
    have:qdi o.2.2.2.1 o.2.2.2.2=qa7 m:=by rw[e1,e2];rfl
    rw[this,h0] at e7
    have:=so.2.1;omega
  simp[qc0,hin,hout]
 refine⟨qnj ?_,(qof _ _ ms m).2 ⟨⟨hold,G.maps.2⟩,hst,hmm⟩,fun k hk hk0=>?_,fun s h8 hs0=>?_,fun s h8=>⟨?_,?_⟩⟩
 ·intro i hi'
  have:=qki G.pool i hi'
  unfold upd
  split<;>omega
 ·by_cases e:k=qa7 m
  ·exact⟨m,by simp,e.symm⟩
  ·obtain⟨o,ho,e'⟩:=G.own k hk (by simpa[upd,e] using hk0);exact⟨o,by simp[ho],e'⟩
 ·by_cases e:s=m.2.1.toNat
  ·exact⟨m,by simp,e.symm⟩
  ·obtain⟨o,ho,e'⟩:=G.home s h8 (by simpa[upd,e] using hs0);exact⟨o,by simp[ho],e'⟩
 ·rw[qps hpl om]
  have:=(G.few s h8).1
  by_cases e:m.2.1=(s:Int)
  ·rw[e] at hb;simp[e];omega
  ·(have e':¬(m.2.1+1=(s:Int)+1):=by omega)
   rw[if_neg e'];omega
 ·have h12:=(G.few s h8).2
  exact sZbd16
def qa6(ms:List Mp)(m:Mp):List Mp:=ms.filter fun o=>o != m
theorem q3n{ms:List Mp}{m:Mp}:(qa6 ms m).length=ms.length↔m ∉ ms:=by
 unfold qa6
 rw[List.length_filter_eq_length_iff]
 constructor
 ·intro h hm;have:=h m hm;simp at this
 ·intro h o ho;simp;rintro rfl;exact h ho
theorem qqg{ms:List Mp}(G:MsOk f h ms):ms.Pairwise (fun o m=>o≠m):=by
 refine G.2.imp ?_
 rintro o m hm rfl
 simp[qc0,inS] at hm
theorem qnu{ms:List Mp}{m:Mp}(hp:ms.Pairwise (fun o m=>o≠m))(hm:m∈ms):(qa6 ms m).length+1=ms.length:=by
 induction ms with
 | nil=>simp at hm
 | cons x xs ih=>
  rw[List.pairwise_cons] at hp
  by_cases e:x=m
  ·subst e
   (have hno:x ∉ xs:=fun hx=>hp.1 x hx rfl)
   have:=q3n.2 hno
   unfold qa6 at *
   simp[this]
  ·have hm':m∈xs:=by
    rcases List.mem_cons.1 hm with h|h
    ·exact absurd h.symm e
    ·exact h
   have:=ih hp.2 hm'
   unfold qa6 at *
   (have e':(x != m)=true:=by simp[e])
   simp[List.filter,e'];omega
theorem q1v{ms:List Mp}{m:Mp}(G:qbq f h ms)(hm:m∈ms)(ha:(qa6 ms m).any (fun o=>qa7 o==qa7 m)=true):qbq f h (qa6 ms m):=by
 have sub:(qa6 ms m).Sublist ms:=List.filter_sublist;(have mem:∀o,o∈qa6 ms m↔o∈ms/\o≠m:=by intro o;simp[qa6]);have sm:=G.maps.1 m hm
 obtain⟨o,ho,e⟩:∃o∈qa6 ms m,qa7 o=qa7 m:=by simpa using ha
 have so:=G.maps.1 o (sub.mem ho)
 refine⟨G.pool,⟨fun x hx=>G.maps.1 x (sub.mem hx),G.maps.2.sublist sub⟩,fun k hk h0=>?_,fun s h8 h0=>?_,fun s h8=>⟨(G.few s h8).1,?_⟩⟩
 ·obtain⟨x,hx,ex⟩:=G.own k hk h0
  by_cases hxm:x=m
  ·subst hxm;exact⟨o,ho,e.trans ex⟩
  ·exact⟨x,(mem x).2 ⟨hx,hxm⟩,ex⟩
 ·obtain⟨x,hx,ex⟩:=G.home s h8 h0
  by_cases hxm:x=m
  ·subst hxm
   refine⟨o,ho,?_⟩
   have e1:=so.2.2.2.2.2.2;have e2:=sm.2.2.2.2.2.2
   have:qdi o.2.2.2.1 o.2.2.2.2=qdi x.2.2.2.1 x.2.2.2.2:=e
   rw[this,e2] at e1
   omega
  ·exact⟨x,(mem x).2 ⟨hx,hxm⟩,ex⟩
 ·exact Nat.le_trans (sub.filter _).length_le (G.few s h8).2
theorem qvr(hn:n<18)(h0:f n=s+1)(t:Int)(ht:0<=t)(hs:0<=s):(qbk (upd f n 0) t).length+(if s=t then 1 else 0)=(qbk f t).length:=by
 have e:upd (upd f n 0) n (s+1)=f:=by
  funext k;unfold upd;split
  ·rename_i e;rw[e,h0]
  ·rfl
 have:=qps (f:=upd f n 0) (n:=n) (x:=s+1) (s:=t) hn (by simp[upd];omega)
 rw[e] at this
 rw[this]
 by_cases e:s=t
 ·simp[e]
 ·have:¬(s+1=t+1):=by omega
  simp[e,this]
theorem q32{ms:List Mp}{m:Mp}(G:qbq f h ms)(hm:m∈ms)(ha:(qa6 ms m).any (fun o=>qa7 o==qa7 m)=false):
  qbq (upd f (qa7 m) 0) (if (qbk (upd f (qa7 m) 0) m.2.1).length=0 then upd h m.2.1.toNat 0 else h) (qa6 ms m):=by
 have sub:(qa6 ms m).Sublist ms:=List.filter_sublist;(have mem:∀o,o∈qa6 ms m↔o∈ms/\o≠m:=by intro o;simp[qa6]);have sm:=G.maps.1 m hm;have hpl:=sm.lt
 have hno:∀o∈qa6 ms m,qa7 o≠qa7 m:=by
  intro o ho
  have:=List.any_eq_false.1 ha o ho
  simpa using this
 have hF:∀o∈qa6 ms m,upd f (qa7 m) 0 (qa7 o)=o.2.1+1:=by
  intro o ho;have so:=G.maps.1 o (sub.mem ho)
  have:=hno o ho
  simp only[upd,this,if_false]
  exact so.2.2.2.2.2.2
 refine⟨qnj ?_,⟨fun o ho=>?_,G.maps.2.sublist sub⟩,fun k hk h0=>?_,fun s h8 h0=>?_,fun s h8=>⟨?_,?_⟩⟩
 ·intro i hi'
  have:=qki G.pool i hi'
  unfold upd
  split<;>omega
 ·have so:=G.maps.1 o (sub.mem ho)
  refine⟨so.1,so.2.1,so.2.2.1,so.2.2.2.1,so.2.2.2.2.1,?_,hF o ho⟩
  split
  ·rename_i hz
   unfold upd
   split
   ·rename_i e
    exfalso
    have:qa7 o∈qbk (upd f (qa7 m) 0) m.2.1:=by
     rw[qjt]
     refine⟨so.lt,?_⟩
     rw[hF o ho]
     have:=so.2.1;have:=sm.2.1;omega
    rw[List.length_eq_zero_iff] at hz
    rw[hz] at this
    simp at this
   ·exact so.2.2.2.2.2.1
  ·exact so.2.2.2.2.2.1
 ·by_cases e:k=qa7 m
  ·subst e;simp[upd] at h0
  ·obtain⟨x,hx,ex⟩:=G.own k hk (by simpa[upd,e] using h0)
   exact⟨x,(mem x).2 ⟨hx,fun hxm=>e (by rw[←ex,hxm])⟩,ex⟩
 ·have hh:h s≠0:=by
   split at h0
   ·unfold upd at h0
    split at h0
    ·exact absurd rfl h0
    ·exact h0
   ·exact h0
  obtain⟨x,hx,ex⟩:=G.home s h8 hh
  by_cases hxm:x=m
  ·subst hxm
   split at h0
   ·rename_i hz
    simp[upd,ex] at h0
   ·rename_i hz
    obtain⟨n,hn⟩:=List.exists_mem_of_length_pos (Nat.pos_of_ne_zero hz)
    rw[qjt] at hn
    have sb:=sm.2.1
    have hnp:n≠qa7 x:=by
     rintro rfl
     have:=hn.2
     simp[upd] at this
     omega
    (have hfn:f n=x.2.1+1:=by simpa[upd,hnp] using hn.2);obtain⟨y,hy,ey⟩:=G.own n hn.1 om;have sy:=G.maps.1 y hy
    refine⟨y,(mem y).2 ⟨hy,fun e=>hnp (by rw[←ey,e])⟩,?_⟩
    have:=sy.2.2.2.2.2.2
    have e3:qdi y.2.2.2.1 y.2.2.2.2=n:=ey
    rw[e3,hfn] at this
    have:=sy.2.1;omega
  ·exact⟨x,(mem x).2 ⟨hx,hxm⟩,ex⟩
 ·have h1:=qvr (f:=f) (n:=qa7 m) (s:=m.2.1) hpl sm.2.2.2.2.2.2 (s:Int) om sm.2.1.1
  have:=(G.few s h8).1
  omega
 ·exact Nat.le_trans (sub.filter _).length_le (G.few s h8).2
def noM:Mp:=(0,0,0,0,0)
def qk7(ms:List Mp)(p a q:Int):Bool:=ms.any (outS p a q)
def qe5(n i:Nat):Int:=((1024+8*(n%6)+i:Nat):Int)
def qie(ms:List Mp)(p:Int)(n:Nat):Option Nat:=(List.range 8).find? fun i=>!qk7 ms p ((n/6:Nat):Int) (qe5 n i)
def qcy(ms:List Mp)(p:Int):List Nat->Option (Nat×Nat)
 | []=>none
 | n::r=>match qie ms p n with
  | some i=>some (n,i)
  | none=>qcy ms p r
theorem qut{ms:List Mp}{p:Int}(h:qcy ms p l=some (n,i)):n∈l/\i<8/\qk7 ms p ((n/6:Nat):Int) (qe5 n i)=false:=by
 induction l with
 | nil=>simp[qcy] at h
 | cons x r ih=>
  unfold qcy at h
  cases hx:qie ms p x with
  | none=>rw[hx] at h;obtain⟨h1,h2⟩:=ih h;exact⟨by simp[h1],h2⟩
  | some j=>
   rw[hx] at h
   simp only[Option.some.injEq,Prod.mk.injEq] at h
   obtain⟨rfl,rfl⟩:=h
   have h1:=List.find?_some hx;have h2:=List.mem_of_find?_eq_some hx
   exact⟨by simp,List.mem_range.1 h2,by simpa using h1⟩
theorem qru(hn:n<18)(hi:i<8):qdi ((n/6:Nat):Int) (qe5 n i)=n:=by unfold qdi qe5;omega
theorem q6j(hi:i<8):1024<=qe5 n i/\qe5 n i<1072:=by unfold qe5;omega
theorem qbq.at{ms:List Mp}(G:qbq f h ms)(hs:0<=s/\s<8)(hn:n∈qbk f s):h s.toNat=((n/6:Nat):Int)+1:=by
 rw[qjt] at hn
 obtain⟨m,hm,e⟩:=G.own n hn.1 om;have st:=G.maps.1 m hm;have e1:=st.2.2.2.2.2.2;have e2:qdi m.2.2.2.1 m.2.2.2.2=n:=e
 rw[e2,hn.2] at e1
 have e3:=st.2.2.2.2.2.1;(have e4:m.2.1=s:=by omega)
 rw[e4] at e3
 rw[e3]
 have:=st.2.2.2.2.1
 have:=st.2.2.2.1
 unfold qdi at e2
 omega
theorem qbq.homeless{ms:List Mp}(G:qbq f h ms)(hs:0<=s/\s<8):h s.toNat=0↔qbk f s=[]:=by
 constructor
 ·intro h0;rw[List.eq_nil_iff_forall_not_mem];intro n hn
  have:=G.at hs hn
  omega
 ·intro hb
  by_cases h0:h s.toNat=0
  ·exact h0
  ·exfalso
   obtain⟨m,hm,e⟩:=G.home s.toNat om h0;have st:=G.maps.1 m hm
   have:qa7 m∈qbk f s:=by
    rw[qjt]
    refine⟨st.lt,?_⟩
    have h1:=st.2.2.2.2.2.2;have h2:=st.2.1
    have:m.2.1=s:=by omega
    rw[←this];exact h1
   rw[hb] at this
   simp at this
theorem qbq.homeIn{ms:List Mp}(G:qbq f h ms)(hs:0<=s/\s<8):0<=h s.toNat/\h s.toNat<=3:=by
 by_cases h0:h s.toNat=0
 ·omega
 ·obtain⟨m,hm,e⟩:=G.home s.toNat om h0;have st:=G.maps.1 m hm;have h1:=st.2.2.2.2.2.1;have h2:=st.2.1
  rw[e] at h1
  have:=st.2.2.2.2.1
  omega
def qdn(f:Nat->Int)(g:Nat->Bool)(h:Nat->Int)(s d:Int):Int:=if h s.toNat=0 then qkr f g d else h s.toNat-1
def qgv(f:Nat->Int)(g:Nat->Bool)(h:Nat->Int)(s:Int):Int:=if h s.toNat=0 then qk1 f g else 0
structure qzo where
 f:Nat->Int
 h:Nat->Int
 q:Int
 took:Bool
 e:Int
def qbe(f:Nat->Int)(g:Nat->Bool)(h:Nat->Int)(ms:List Mp)(p s d:Int):qzo:=
 match qcy ms p (qbk f s) with
 | some x=>⟨f,h,qe5 x.1 x.2,false,0⟩
 | none=>
  if (qbk f s).length=2 then⟨f,h,0,false,6⟩ else
  if qgv f g h s=0 then
   (if qdh f g s (qdn f g h s d)=0 then⟨qi1 f g s (qdn f g h s d) d,upd h s.toNat (qdn f g h s d+1),1024+8*(qft f g s (qdn f g h s d) d:Int),true,0⟩
   else⟨f,h,0,false,qdh f g s (qdn f g h s d)⟩)
  else⟨f,h,0,false,qgv f g h s⟩
section
variable {f:Nat->Int} {g:Nat->Bool} {h:Nat->Int} {ms:List Mp} {p s d:Int}
theorem qq1{x:Nat×Nat}(hu:qcy ms p (qbk f s)=some x):qbe f g h ms p s d=⟨f,h,qe5 x.1 x.2,false,0⟩:=by unfold qbe;rw[hu]
theorem qq6(hu:qcy ms p (qbk f s)=none)(h1:(qbk f s).length=2):qbe f g h ms p s d=⟨f,h,0,false,6⟩:=by unfold qbe;rw[hu];simp only;rw[if_pos h1]
theorem qrd(hu:qcy ms p (qbk f s)=none)(h1:(qbk f s).length≠2)(h2:qgv f g h s≠0):qbe f g h ms p s d=⟨f,h,0,false,qgv f g h s⟩:=by unfold qbe;rw[hu];simp only;rw[if_neg h1,if_neg h2]
theorem qq2(hu:qcy ms p (qbk f s)=none)(h1:(qbk f s).length≠2)(h2:qgv f g h s=0)(h3:qdh f g s (qdn f g h s d)≠0):qbe f g h ms p s d=⟨f,h,0,false,qdh f g s (qdn f g h s d)⟩:=by unfold qbe;rw[hu];simp only;rw[if_neg h1,if_pos h2,if_neg h3]
theorem quo(hu:qcy ms p (qbk f s)=none)(h1:(qbk f s).length≠2)(h2:qgv f g h s=0)(h3:qdh f g s (qdn f g h s d)=0):qbe f g h ms p s d=⟨qi1 f g s (qdn f g h s d) d,upd h s.toNat (qdn f g h s d+1),1024+8*(qft f g s (qdn f g h s d) d:Int),true,0⟩:=by unfold qbe;rw[hu];simp only;rw[if_neg h1,if_pos h2,if_pos h3]
end
theorem qya{ms:List Mp}{p i:Int}(G:qbq f h ms)(hp:isP p=true)(hs:0<=s/\s<8)(hi:0<=i/\i<=65535)(hf:ms.any (inS p s i)=false)(hc:cntM ms s≠12)(he:(qbe f g h ms p s d).e=0):
  let r:=qbe f g h ms p s d
  let m:Mp:=(p,s,i,r.h s.toNat-1,r.q)
  qbq r.f r.h (ms++[m])/\(r.took=false->r.f=f/\r.h=h/\ms.any (fun o=>qa7 o==qa7 m)=true)/\
   (r.took=true->r.f=upd f (qa7 m) (s+1)/\f (qa7 m)=0/\(∃a:Int,(0<=a/\a<3)/\g a.toNat=false/\r.h=upd h s.toNat (a+1)/\(h s.toNat=0\/h s.toNat=a+1))/\ms.any (fun o=>qa7 o==qa7 m)=false):=by
 intro r m
 cases hu:qcy ms p (qbk f s) with
 | some x=>
  obtain⟨n,j⟩:=x;have hr:r=⟨f,h,qe5 n j,false,0⟩:=qq1 hu;obtain⟨hn,hj,hfree⟩:=qut hu;have hat:=G.at hs hn
  rw[qjt] at hn
  (have hm:m=(p,s,i,((n/6:Nat):Int),qe5 n j):=by show(p,s,i,r.h s.toNat-1,r.q)=_;rw[hr];simp only[hat];rw[Int.add_sub_cancel]);(have hpm:qa7 m=n:=by rw[hm];exact qru hn.1 hj)
  have hst:qdb f h m:=by
   rw[hm]
   exact⟨hp,hs,hi,q6j hj,by show 0<=((n/6:Nat):Int)/\((n/6:Nat):Int)<3;omega,hat,by show f (qdi _ _)=_;rw[qru hn.1 hj];exact hn.2⟩
  have hmeet:qc0 ms m=false:=by
   rw[hm,qi6];intro o ho;have h1:=List.any_eq_false.1 hf o ho;have h2:=List.any_eq_false.1 hfree o ho
   simp only[qc0,List.any_cons,List.any_nil,Bool.or_false]
   rw[Bool.eq_false_iff.2 h1,Bool.eq_false_iff.2 h2];rfl
  (have hms:m.2.1=s:=by rw[hm])
  refine⟨?_,fun _=>⟨by rw[hr],by rw[hr],?_⟩,fun ht=>?_⟩
  ·rw[hr]
   exact q4h G hst hmeet (by rw[hms];exact hc)
  ·obtain⟨o,ho,e⟩:=G.own n hn.1 om;rw[hpm]
   simp only[List.any_eq_true,beq_iff_eq]
   exact⟨o,ho,e⟩
  ·rw[hr] at ht;simp at ht
 | none=>
  have hcases:(qbk f s).length≠2/\qgv f g h s=0/\qdh f g s (qdn f g h s d)=0:=by
   by_cases h1:(qbk f s).length=2
   ·rw[qq6 hu h1] at he;exact absurd he zm
   ·by_cases h2:qgv f g h s=0
    ·by_cases h3:qdh f g s (qdn f g h s d)=0
     ·exact⟨h1,h2,h3⟩
     ·rw[qq2 hu h1 h2 h3] at he;exact absurd he h3
    ·rw[qrd hu h1 h2] at he;exact absurd he h2
  obtain⟨h1,h2,h3'⟩:=hcases;have hr:r=_:=quo hu h1 h2 h3'
  generalize hA:qdn f g h s d=A at *
  obtain⟨_,ha,_,hg,hfr⟩:=qtj h3'
  (have hK:qft f g s A d=qep (qbo (rowF f A.toNat)) d:=by unfold qft;rw[if_pos h3']);have hKm:=qj8 _ _ (qiu (qbo (rowF f A.toNat)) d hfr)
  rw[←hK] at hKm
  (have hF:qi1 f g s A d=upd f (6*A.toNat+qft f g s A d) (s+1):=by unfold qi1;rw[if_pos h3'])
  generalize qft f g s A d=K at *
  (have hm:m=(p,s,i,A,1024+8*(K:Int)):=by show(p,s,i,r.h s.toNat-1,r.q)=_;rw[hr];simp only[upd,if_true];rw[Int.add_sub_cancel]);(have hpm:qa7 m=6*A.toNat+K:=by rw[hm];show qdi A (1024+8*(K:Int))=_;unfold qdi;omega);(have h0:f (qa7 m)=0:=by rw[hpm];exact hKm.2);(have hms:m.2.1=s:=by rw[hm]);(have hma:m.2.2.2.1=A:=by rw[hm])
  have hh:h s.toNat=0\/h s.toNat=A+1:=by
   by_cases h0:h s.toNat=0
   ·exact .inl h0
   ·right;unfold qdn at hA;rw[if_neg h0] at hA;omega
  have hb:(qbk f s).length<2:=by
   have:=(G.few s.toNat om).1
   rw[Int.toNat_of_nonneg hs.1] at this
   omega
  refine⟨?_,fun ht=>?_,fun _=>⟨?_,h0,⟨A,ha,hg,by rw[hr],hh⟩,?_⟩⟩
  ·have:=q1f (m:=m) G h0 (by rw[hm];exact hp) (by rw[hms];exact hs) (by rw[hm];exact hi) (by rw[hm];show 1024<=1024+8*(K:Int)/\1024+8*(K:Int)<1072;omega) (by rw[hma];exact ha) (by rw[hms,hma];exact hh) (by rw[hm];exact hf) (by rw[hms];exact hc) (by rw[hms];exact hb)
   rw[hms,hma,hpm] at this
   rw[hr,hF]
   exact this
  ·rw[hr] at ht;simp at ht
  ·rw[hr,hpm,hF]
  ·rw[List.any_eq_false];intro o ho hx;(have e:qa7 o=qa7 m:=by simpa using hx);have st:=G.maps.1 o ho
   have:=st.2.2.2.2.2.2
   have e':qdi o.2.2.2.1 o.2.2.2.2=qa7 m:=e
   rw[e',h0] at this
   have:=st.2.1
   omega
theorem qzlb{ms:List Mp}{p i:Int}(G:qbq f h ms)(hp:isP p=true)(hs:0<=s/\s<8)(hi:0<=i/\i<=65535)(hf:ms.any (inS p s i)=false)(hc:cntM ms s≠12)(he:(qbe f g h ms p s d).e=0):
  let r:=qbe f g h ms p s d
  let m:Mp:=(p,s,i,r.h s.toNat-1,r.q)
  qa6 (ms++[m]) m=ms/\(r.took=true->∀k,k<18->upd r.f (qa7 m) 0 k=f k)/\
   (r.took=true->∀k,k<8->(if (qbk (upd r.f (qa7 m) 0) s).length=0 then upd r.h s.toNat 0 else r.h) k=h k):=by
 intro r m;obtain⟨hG,h1,h2⟩:=qya (g:=g) (d:=d) G hp hs hi hf hc he
 have hno:m ∉ ms:=by
  intro hm
  have:=List.any_eq_false.1 hf m hm
  exact this ((qsm _ _ _ _).2 ⟨rfl,rfl,rfl⟩)
 have hf0:r.took=true->upd r.f (qa7 m) 0=f:=by
  intro ht
  obtain⟨e1,e2,_⟩:=h2 ht
  rw[show r.f=_ from e1]
  funext k
  unfold upd
  split
  ·rename_i e;rw[e];exact e2.symm
  ·rfl
 refine⟨?_,fun ht k _=>by rw[hf0 ht],fun ht k hk=>?_⟩
 ·unfold qa6
  rw[List.filter_append]
  have e1:ms.filter (fun o=>o != m)=ms:=by
   rw[List.filter_eq_self]
   intro o ho;simp;rintro rfl;exact hno ho
  rw[e1];simp
 ·rw[hf0 ht]
  obtain⟨_,_,⟨a,ha,_,e3,e4⟩,_⟩:=h2 ht
  by_cases hb:(qbk f s).length=0
  ·rw[if_pos hb,show r.h=_ from e3];have h0:=(G.homeless hs).2 (List.length_eq_zero_iff.1 hb)
   unfold upd
   split
   ·rename_i e;rw[e,h0]
   ·rfl
  ·rw[if_neg hb,show r.h=_ from e3];(have h0:h s.toNat≠0:=fun h0=>hb (by rw[(G.homeless hs).1 h0];rfl))
   unfold upd
   split
   ·rename_i e;rw[e];rcases e4 with e4|e4
    ·exact absurd e4 h0
    ·exact e4.symm
   ·rfl
def mcl(m:Mp):List Value:=[I Z m.1,I Z m.2.1,I Z m.2.2.1,I Z m.2.2.2.1,I Z m.2.2.2.2]
def mc(m:Mp):Array Value:=#[I Z m.1,I Z m.2.1,I Z m.2.2.1,I Z m.2.2.2.1,I Z m.2.2.2.2]
def hcl(h:Nat->Int):List Value:=[I Z (h 0),I Z (h 1),I Z (h 2),I Z (h 3),I Z (h 4),I Z (h 5),I Z (h 6),I Z (h 7)]
def tcF(n:Nat)(f:Nat->Int)(g:Nat->Bool)(h:Nat->Int)(sl:Value):Array Value:=if _:n=0 then pc f g++(hcl h).toArray++#[sl] else tcF (n/2) f g h sl
def tc(f:Nat->Int)(g:Nat->Bool)(h:Nat->Int)(sl:Value):Array Value:=tcF 0 f g h sl
theorem qxwb(f:Nat->Int)(g:Nat->Bool)(h:Nat->Int)(sl:Value):tc f g h sl=pc f g++(hcl h).toArray++#[sl]:=by unfold tc tcF;rfl
theorem qcr(f:Nat->Int)(g:Nat->Bool)(h:Nat->Int)(sl:Value):(tc f g h sl).size=30:=by kernel_rfl
theorem qvl(f:Nat->Int)(g:Nat->Bool)(h:Nat->Int)(sl:Value)(k:Nat)(hk:k<18):(tc f g h sl)[k]?=some (I Z (f k)):=by
 rw[qxwb];rw[Array.getElem?_append_left (by simp[qf1,hcl];omega),Array.getElem?_append_left (by rw[qf1];omega)];exact q1x f g k hk
theorem qznb(f:Nat->Int)(g:Nat->Bool)(h:Nat->Int)(sl:Value)(k:Nat)(hk:k<3):(tc f g h sl)[18+k]?=some (.bool (g k)):=by
 rw[qxwb];rw[Array.getElem?_append_left (by simp[qf1,hcl];omega),Array.getElem?_append_left (by rw[qf1];omega)];exact qanb f g k hk
theorem qhc(f:Nat->Int)(g:Nat->Bool)(h:Nat->Int)(sl:Value)(k:Nat)(hk:k<8):(tc f g h sl)[21+k]?=some (I Z (h k)):=by
 rcases(show k=0\/k=1\/k=2\/k=3\/k=4\/k=5\/k=6\/k=7 by omega) with rfl|rfl|rfl|rfl|rfl|rfl|rfl|rfl<;>kernel_rfl
theorem qdw(f:Nat->Int)(g:Nat->Bool)(h:Nat->Int)(sl:Value):(tc f g h sl)[29]?=some sl:=by kernel_rfl
theorem q9h(f:Nat->Int)(g:Nat->Bool)(h:Nat->Int)(sl:Value)(n:Nat)(x:Int)(hn:n<18):(tc f g h sl).setIfInBounds n (I Z x)=tc (upd f n x) g h sl:=by
 rcases(show n=0\/n=1\/n=2\/n=3\/n=4\/n=5\/n=6\/n=7\/n=8\/n=9\/n=10\/n=11\/n=12\/n=13\/n=14\/n=15\/n=16\/n=17 by omega) with rfl|rfl|rfl|rfl|rfl|rfl|rfl|rfl|rfl|rfl|rfl|rfl|rfl|rfl|rfl|rfl|rfl|rfl<;>kernel_rfl
theorem qsk(f:Nat->Int)(g:Nat->Bool)(h:Nat->Int)(sl:Value)(n:Nat)(x:Int)(hn:n<8):(tc f g h sl).setIfInBounds (21+n) (I Z x)=tc f g (upd h n x) sl:=by
 rcases(show n=0\/n=1\/n=2\/n=3\/n=4\/n=5\/n=6\/n=7 by omega) with rfl|rfl|rfl|rfl|rfl|rfl|rfl|rfl<;>kernel_rfl
theorem qm0(f:Nat->Int)(g:Nat->Bool)(h:Nat->Int)(sl s2:Value):(tc f g h sl).setIfInBounds 29 s2=tc f g h s2:=by kernel_rfl
theorem qaq(f:Nat->Int)(g:Nat->Bool)(h:Nat->Int)(sl:Value):(prog.info? 30).map (·.size)=some (tc f g h sl).size:=by kernel_rfl
theorem qak(m:Mp):(prog.info? 32).map (·.size)=some (mc m).size:=by kernel_rfl
theorem qby(m:Mp):(prog.info? 32).map (·.size)=some (mcl m).length:=by kernel_rfl
theorem qa3(m:Mp):(mc m).all (·.oneCell')=true:=by kernel_rfl
theorem qbm(f:Nat->Int)(g:Nat->Bool)(h:Nat->Int)(a:Option Addr)(n c:Nat):(tc f g h (.slice a n c)).all (·.oneCell')=true:=by kernel_rfl
theorem qc2(m:Mp):(mcl m).toArray=mc m:=rfl
theorem qa4(w:World):(zeroValue 32).run prog w=.ok (.agg (mc noM)) w:=by kernel_rfl
theorem qb8(w:World):(zeroValue 30).run prog w=.ok (.agg (tc (fun _=>0) (fun _=>false) (fun _=>0) (.slice none 0 0))) w:=by kernel_rfl
def mb:Value->Nat
 | .slice (some a) _ _=>a.block
 | _=>0
def mo:Value->Nat
 | .slice (some a) _ _=>a.off
 | _=>0
def qaz(w:World)(sl:Value)(ms:List Mp):Prop:=
 ∃a cap,sl=.slice a ms.length cap/\(0<ms.length->a=some ⟨mb sl,mo sl,none⟩)/\(∀j (hj:j<ms.length),w.rangeAt (mb sl) (mo sl+5*j) (mcl ms[j]))/\ms.length<=140737488355328/\∃c2,sl=.slice a ms.length c2/\ms.length<=c2
theorem qaz.nil(w:World):qaz w (.slice none 0 0) []:=⟨none,0,rfl,fun h=>absurd h zm,fun j hj=>absurd hj zm,by simp,0,rfl,by simp⟩
theorem qaz.keep{ms:List Mp}{B:Nat}(h:qaz w sl ms)(hb:Below B w w')(hlt:0<ms.length->mb sl<B):qaz w' sl ms:=by
 obtain⟨a,cap,e,h1,h2,h3⟩:=h
 refine⟨a,cap,e,h1,fun j hj i v hv=>?_,h3⟩
 have:=h2 j hj i v hv
 unfold World.cell? at *
 rw[hb.block _ (hlt om)]
 exact this
theorem qaz.lt{ms:List Mp}(h:qaz w sl ms)(hl:0<ms.length):mb sl<w.heap.size:=by
 obtain⟨a,cap,e,h1,h2,h3⟩:=h
 have:=h2 0 hl 0 _ rfl
 unfold World.cell? at this
 by_cases hlt:mb sl<w.heap.size
 ·exact hlt
 ·have h3:w.heap[mb sl]?=none:=Array.getElem?_eq_none om
  simp[h3] at this
theorem qaz.at{ms:List Mp}(h:qaz w sl ms)(j:Nat)(hj:j<ms.length){m:Mp}(hm:ms[j]=m):w.rangeAt (mb sl) (mo sl+5*j) (mcl m):=by
 obtain⟨a,cap,e,h1,h2,h3⟩:=h
 rw[←hm];exact h2 j hj
theorem qaz.len{ms:List Mp}(h:qaz w sl ms):ms.length<=140737488355328:=by
 obtain⟨a,cap,e,h1,h2,h3⟩:=h
 exact h3.1
theorem qaz.cap{a:Option Addr}{ms:List Mp}(h:qaz w (.slice a n c) ms):n=ms.length/\n<=c:=by
 obtain⟨a',cap,e,h1,h2,h3,c2,e2,h4⟩:=h
 injection e2 with e3 e4 e5
 exact⟨e4,by omega⟩
theorem qaz.take{a:Option Addr}{ms:List Mp}(h:qaz w (.slice a n c) ms)(j:Nat)(hj:j<=ms.length):qaz w (.slice a j c) (ms.take j):=by
 have hc:=h.cap;obtain⟨a',cap,e,h1,h2,h3,c2,e2,h4⟩:=h
 injection e with e3 e4 e5
 subst e3
 (have hl:(ms.take j).length=j:=by rw[List.length_take];omega);(have hmb:mb (.slice a j c)=mb (.slice a n c):=by cases a<;>rfl);(have hmo:mo (.slice a j c)=mo (.slice a n c):=by cases a<;>rfl)
 refine⟨a,c,by rw[hl],fun hp=>?_,fun i hi=>?_,by rw[hl];omega,c,by rw[hl],by rw[hl];omega⟩
 ·rw[hmb,hmo];exact h1 om
 ·rw[hmb,hmo,List.getElem_take];exact h2 i om
theorem qga(h:j<n)(hn:n<=140737488355328):wrap64 ((j:Int)+1)=(j:Int)+1:=by unfold wrap64;omega
theorem qaz.below{ms:List Mp}(h:qaz w sl ms)(hb:Below w.heap.size w w'):qaz w' sl ms:=h.keep hb h.lt
theorem qb5{ops:Array Oper}{rest:List Oper}{o:Oper}{a:Act}{Q:Exit->Act->World->Prop}(hgd:o.guard=none)(x y:Operand)(ho:o.op=.indexAddr 28 x y)(sl:Value)(ms:List Mp)(hM:qaz w sl ms)(hx:a.eval x=sl)(j:Nat)(hy:a.eval y=I Z (j:Int))(hj:j<ms.length)(hr:wpList prog ops Q rest (a.put o.dst (V (some ⟨mb sl,mo sl+5*j,none⟩))) w):wpList prog ops Q (o::rest) a w:=
 wpList_plain hgd fun K hK=>by
  obtain⟨a0,cap,e,h1,h2,h3⟩:=hM;have e1:=h1 om
  generalize mb sl=B at *
  generalize mo sl=O at *
  subst e1
  subst e
  refine m5s ?_;intro hn hjl;(have hs:(sizeOf 32).run prog w=.ok 5 w:=by kernel_rfl)
  have hrun:(Instr.indexAt 28 (.slice (some ⟨B,O,none⟩) ms.length cap) (I Z (j:Int))).run prog w=.ok (V (some ⟨B,O+5*j,none⟩)) w:=by
   simp[go_sem,hj,hn,hjl,underlying28,hs]
  unfold Oper.wp execOp
  simp only[ho,hx,hy,Sem.run_bind,hrun,Result.andThen_ok,Sem.run_pure]
  exact hK _ _ hr
theorem qln(a b c x y z:Int)(w:World):(Op.equalIn 10000 58 (.agg #[I Z a,I Z b,I Z c]) (.agg #[I Z x,I Z y,I Z z])).run prog w=.ok (a==x&&b==y&&c==z) w:=by
 rw[show(10000:Nat)=9999+1 from rfl,run_equalIn_struct w 9999 58 _ _ kr kr]
 by_cases h1:a=x<;>by_cases h2:b=y<;>by_cases h3:c=z<;>simp[go_sem,h1,h2,h3,underlying58]
theorem qnx(a b c x y z:Int)(w:World):(Op.equalIn 10000 61 (.agg #[I Z a,I Z b,I Z c]) (.agg #[I Z x,I Z y,I Z z])).run prog w=.ok (a==x&&b==y&&c==z) w:=by
 rw[show(10000:Nat)=9999+1 from rfl,run_equalIn_struct w 9999 61 _ _ kr kr]
 by_cases h1:a=x<;>by_cases h2:b=y<;>by_cases h3:c=z<;>simp[go_sem,h1,h2,h3,underlying61]
theorem quq(a b x y:Int)(w:World):(Op.equalIn 10000 67 (.agg #[I Z a,I Z b]) (.agg #[I Z x,I Z y])).run prog w=.ok (a==x&&b==y) w:=by
 rw[show(10000:Nat)=9999+1 from rfl,run_equalIn_struct w 9999 67 _ _ kr kr]
 by_cases h1:a=x<;>by_cases h2:b=y<;>simp[go_sem,h1,h2,underlying67]
theorem qkb(m o:Mp)(w:World):(Op.equalIn 10000 32 (.agg (mc m)) (.agg (mc o))).run prog w=.ok (m==o) w:=by
 obtain⟨a,b,c,d,e⟩:=m;obtain⟨x,y,z,u,v⟩:=o;rw[show(10000:Nat)=9999+1 from rfl,run_equalIn_struct w 9999 32 _ _ kr kr];have hb:(((a,b,c,d,e):Mp)==(x,y,z,u,v))=(a==x&&(b==y&&(c==z&&(d==u&&e==v)))):=rfl;rw[hb]
 unfold mc
 by_cases h1:a=x<;>by_cases h2:b=y<;>by_cases h3:c=z<;>by_cases h4:d=u<;>by_cases h5:e=v<;>simp[go_sem,h1,h2,h3,h4,h5,underlying32]
theorem qkm(k:Int)(h0:0<=k)(h1:k<=6)(w:World):Calls prog 31 #[I Z k] w fun e w'=>e=.returned (I Z (1024+k*8))/\w'=w:=by
 (have e1:wrap64 (k*8)=k*8:=by unfold wrap64;omega);(have e2:wrap64 (1024+k*8)=1024+k*8:=by unfold wrap64;omega)
 go_enter func31,ntmps31
 go_wp2
 go_ret
 exact⟨rfl,rfl⟩
def blkS(q:Int):Value:=if 1024<=q/\q<1072 then .tuple #[I Z ((q-1024)/8),I Z ((q-1024)%8),.bool true] else .tuple #[I Z 0,I Z 0,.bool false]
theorem sZbd14(h:p:=by
 go_enter func14,ntmps14
 go_wp2_with (go_at_call 31;go_fit (C _);refine m03 ?_)
 go_ret3
 exact⟨by rw[HS.out];rfl,rfl⟩):p:=h
theorem qs4(q:Int)(w:World):Calls prog 14 #[I Z q] w fun e w'=>e=.returned (blkS q)/\w'=w:=by
 (have C:=fun w=>qkm 6 om om w)
 by_cases h0:1024<=q
 ·by_cases h1:q<1072
  ·have HS:Hid (blkS q=_):=if_pos ⟨h0,h1⟩;(have e1:wrap64 (q-1024)=q-1024:=by unfold wrap64;omega);have e2:(q-1024).tdiv 8=(q-1024)/8:=Int.tdiv_eq_ediv_of_nonneg om;have e3:(q-1024).tmod 8=(q-1024)%8:=Int.tmod_eq_emod_of_nonneg om;(have e4:wrap64 ((q-1024)/8)=(q-1024)/8:=by unfold wrap64;omega);(have h1':q<1024+6*8:=by omega)
   exact sZbd14
  ·have HS:Hid (blkS q=_):=if_neg (fun h=>h1 h.2);(have h1':1024+6*8<=q:=by omega)
   exact sZbd14
 ·have HS:Hid (blkS q=_):=if_neg (fun h=>h0 h.1)
  go_enter func14,ntmps14
  go_wp2
  go_ret3
  exact⟨by rw[HS.out];rfl,rfl⟩
theorem sZbd13(h:p:=by
 go_enter func39,ntmps39
 go_wp2
 go_ret
 exact⟨by rw[HS.out];rfl,rfl⟩):p:=h
theorem qfh(p:Int)(w:World):Calls prog 39 #[I Z p] w fun e w'=>e=.returned (.bool (isP p))/\w'=w:=by
 by_cases h1:p=1
 ·have HS:Hid (isP p=true):=(qo8 p).2 (.inl h1);(have e1:(p==1)=true:=by simp[h1]);clear h1
  exact sZbd13
 ·(have e1:(p==1)=false:=by simp[h1])
  by_cases h6:p=6
  ·have HS:Hid (isP p=true):=(qo8 p).2 (.inr (.inl h6));(have e6:(p==6)=true:=by simp[h6]);clear h1 h6
   exact sZbd13
  ·(have e6:(p==6)=false:=by simp[h6])
   by_cases h17:p=17
   ·have HS:Hid (isP p=true):=(qo8 p).2 (.inr (.inr h17));(have e17:(p==17)=true:=by simp[h17]);clear h1 h6 h17
    exact sZbd13
   ·have HS:Hid (isP p=false):=by
     show _=_
     rw[Bool.eq_false_iff];intro h;rcases(qo8 p).1 h with h|h|h<;>contradiction
    (have e17:(p==17)=false:=by simp[h17]);clear h1 h6 h17
    exact sZbd13
theorem sZbd19(h:p:=by
 go_ret
 exact⟨by simp[h0,h1],rfl⟩):p:=h
theorem qig(s:Int)(w:World):Calls prog 40 #[I Z s] w fun e w'=>e=.returned (.bool (decide (0<=s)&&decide (s<8)))/\w'=w:=by
 go_enter func40,ntmps40
 by_cases h0:0<=s
 ·by_cases h1:s<8
  ·go_wp2
   exact sZbd19
  ·go_wp2
   exact sZbd19
 ·go_wp2
  go_ret
  exact⟨by rw[decide_eq_false (show ¬0<=s by omega)];rfl,rfl⟩
theorem qhe(s:Int)(w:World):Calls prog 41 #[I Z s] w fun e w'=>e=.returned (.bool (decide (0<=s)&&decide (s<=65535)))/\w'=w:=by
 go_enter func41,ntmps41
 by_cases h0:0<=s
 ·by_cases h1:s<=65535
  ·go_wp2
   exact sZbd19
  ·go_wp2
   exact sZbd19
 ·go_wp2
  go_ret
  exact⟨by rw[decide_eq_false (show ¬0<=s by omega)];rfl,rfl⟩
section
variable {w:World} {b:Nat} {m:Mp}
theorem m0(h:Row 32 w b (mc m)):w.cell? ⟨b,0,none⟩=some (I Z m.1):=h.cell 0
theorem m1(h:Row 32 w b (mc m)):w.cell? ⟨b,1,none⟩=some (I Z m.2.1):=h.cell 1
theorem m2(h:Row 32 w b (mc m)):w.cell? ⟨b,2,none⟩=some (I Z m.2.2.1):=h.cell 2
theorem m3(h:Row 32 w b (mc m)):w.cell? ⟨b,3,none⟩=some (I Z m.2.2.2.1):=h.cell 3
theorem m4(h:Row 32 w b (mc m)):w.cell? ⟨b,4,none⟩=some (I Z m.2.2.2.2):=h.cell 4
end
def ic3(a b c:Int):Array Value:=#[I Z a,I Z b,I Z c]
def ic2(a b:Int):Array Value:=#[I Z a,I Z b]
theorem q0p(w:World):(zeroValue 58).run prog w=.ok (.agg (ic3 0 0 0)) w:=by kernel_rfl
theorem qzc(w:World):(zeroValue 61).run prog w=.ok (.agg (ic3 0 0 0)) w:=by kernel_rfl
theorem qcn(w:World):(zeroValue 67).run prog w=.ok (.agg (ic2 0 0)) w:=by kernel_rfl
theorem qfv(m:Mp)(w:World):Calls prog 29 #[.agg (mc m)] w fun e w'=>e=.returned (.agg (ic3 m.1 m.2.1 m.2.2.1))/\Below w.heap.size w w':=by
 have hB:=Below.refl w.heap.size w
 go_enter func29,ntmps29
 go_wp2_with (first|(refine m62 ?_;intro b1 w1 l1 R1 hb1;replace l1:=Nat.le_trans hB.size l1;have c0:=m0 R1;have c1:=m1 R1;have c2:=m2 R1;replace hB:=hB.trans (hb1.mono hB.size))|(refine ay 58 q0p ?_;intro b2 w2 l2 R2 hb2;replace l2:=Nat.le_trans hB.size l2;replace R1:=R1.below hb2;replace c0:=m0 R1;replace c1:=m1 R1;replace c2:=m2 R1;replace hB:=hB.trans (hb2.mono hB.size))|(refine sx 58 _ _ (ic3 m.1 m.2.1 m.2.2.1) R2 ?_;intro w3 R3 t3;replace hB:=t3.below _ _ l2 hB))
 refine m06 ?_
 refine bodyPost_ret (qai rfl _ _ _ _ rfl R3 _ underlying58 rfl kr) rfl ⟨rfl,hB⟩
theorem qho(m:Mp)(w:World):Calls prog 30 #[.agg (mc m)] w fun e w'=>e=.returned (.agg (ic3 m.1 m.2.2.2.1 m.2.2.2.2))/\Below w.heap.size w w':=by
 have hB:=Below.refl w.heap.size w
 go_enter func30,ntmps30
 go_wp2_with (first|(refine m62 ?_;intro b1 w1 l1 R1 hb1;replace l1:=Nat.le_trans hB.size l1;have c0:=m0 R1;have c3:=m3 R1;have c4:=m4 R1;replace hB:=hB.trans (hb1.mono hB.size))|(refine ay 61 qzc ?_;intro b2 w2 l2 R2 hb2;replace l2:=Nat.le_trans hB.size l2;replace R1:=R1.below hb2;replace c0:=m0 R1;replace c3:=m3 R1;replace c4:=m4 R1;replace hB:=hB.trans (hb2.mono hB.size))|(refine sx 61 _ _ (ic3 m.1 m.2.2.2.1 m.2.2.2.2) R2 ?_;intro w3 R3 t3;replace hB:=t3.below _ _ l2 hB))
 refine m06 ?_
 refine bodyPost_ret (qai rfl _ _ _ _ rfl R3 _ underlying61 rfl kr) rfl ⟨rfl,hB⟩
def inP(m:Mp):Bool:=decide ((1024<=m.2.2.2.2/\m.2.2.2.2<1072)/\0<=m.2.2.2.1/\m.2.2.2.1<3)
def plA(m:Mp):Int:=if inP m=true then m.2.2.2.1 else 0
def plB(m:Mp):Int:=if inP m=true then(m.2.2.2.2-1024)/8 else 0
theorem sZbd18(h:p:=by
 refine bodyPost_ret (qbf rfl _ _ _ _ rfl R3 _ underlying67 rfl kr) rfl ⟨?_,hB⟩
 rw[hI.out,hA.out,hQ.out];rfl):p:=h
theorem sZbd11(h:p:=by
 have hA:Hid (plA m=0):=if_neg (by rw[hI.out];simp);have hQ:Hid (plB m=0):=if_neg (by rw[hI.out];simp)
 go_enter func35,ntmps35
 go_wp2_with (first|(refine m62 ?_;intro b1 w1 l1 R1 hb1;replace l1:=Nat.le_trans hB.size l1;have c3:=m3 R1;have c4:=m4 R1;replace hB:=hB.trans (hb1.mono hB.size))|(refine ay 67 qcn ?_;intro b2 w2 l2 R2 hb2;replace l2:=Nat.le_trans hB.size l2;replace R1:=R1.below hb2;replace c3:=m3 R1;replace c4:=m4 R1;replace hB:=hB.trans (hb2.mono hB.size))|(go_at_call 14;go_fit (C _);refine m03 ?_)|(refine sx 67 _ _ (ic2 0 0) R2 ?_;intro w3 R3 t3;replace hB:=t3.below _ _ l2 hB))
 refine m06 ?_
 exact sZbd18):p:=h
theorem qgp(m:Mp)(w:World):Calls prog 35 #[.agg (mc m)] w fun e w'=>e=.returned (.tuple #[.agg (ic2 (plA m) (plB m)),.bool (inP m)])/\Below w.heap.size w w':=by
 have hB:=Below.refl w.heap.size w;(have C:=fun w=>qs4 m.2.2.2.2 w)
 by_cases hq:1024<=m.2.2.2.2/\m.2.2.2.2<1072
 ·have HS:blkS m.2.2.2.2=_:=if_pos hq
  rw[HS] at C
  by_cases ha:0<=m.2.2.2.1
  ·by_cases hb:m.2.2.2.1<3
   ·have hI:Hid (inP m=true):=decide_eq_true ⟨hq,ha,hb⟩;have hA:Hid (plA m=m.2.2.2.1):=if_pos hI.out;have hQ:Hid (plB m=(m.2.2.2.2-1024)/8):=if_pos hI.out
    go_enter func35,ntmps35
    go_wp2_with (first|(refine m62 ?_;intro b1 w1 l1 R1 hb1;replace l1:=Nat.le_trans hB.size l1;have c3:=m3 R1;have c4:=m4 R1;replace hB:=hB.trans (hb1.mono hB.size))|(refine ay 67 qcn ?_;intro b2 w2 l2 R2 hb2;replace l2:=Nat.le_trans hB.size l2;replace R1:=R1.below hb2;replace c3:=m3 R1;replace c4:=m4 R1;replace hB:=hB.trans (hb2.mono hB.size))|(go_at_call 14;go_fit (C _);refine m03 ?_)|(refine sx 67 _ _ (ic2 m.2.2.2.1 ((m.2.2.2.2-1024)/8)) R2 ?_;intro w3 R3 t3;replace hB:=t3.below _ _ l2 hB))
    refine m06 ?_
    exact sZbd18
   ·have hI:Hid (inP m=false):=decide_eq_false (fun h=>hb h.2.2)
    exact sZbd11
  ·have hI:Hid (inP m=false):=decide_eq_false (fun h=>ha h.2.1)
   exact sZbd11
 ·have HS:blkS m.2.2.2.2=_:=if_neg hq
  rw[HS] at C
  have hI:Hid (inP m=false):=decide_eq_false (fun h=>hq h.1)
  exact sZbd11
def qhw:Option Mp->Value
 | some m=>.tuple #[.agg (mc m),.bool true]
 | none=>.tuple #[.agg (mc noM),.bool false]
theorem qek(h:j<n):n-((j:Int)+1).toNat<n-((j:Int)).toNat:=by omega
theorem qic{ms:List Mp}{m:Mp}(hlj:j<ms.length)(hm:ms[j]=m):ms.take (j+1)=ms.take j++[m]:=by
 rw[List.take_succ_eq_append_getElem hlj,hm]
theorem qs3{q:Mp->Bool}{ms:List Mp}{m:Mp}(hno:(ms.take j).find? q=none)(hlj:j<ms.length)(hm:ms[j]=m)(hq:q m=false):(ms.take (j+1)).find? q=none:=by
 rw[qic hlj hm,List.find?_append,hno];simp[List.find?,hq]
theorem qyh{q:Mp->Bool}{ms:List Mp}{m:Mp}(hno:(ms.take j).find? q=none)(hlj:j<ms.length)(hm:ms[j]=m)(hq:q m=true):ms.find? q=some m:=by
 (have e:ms=ms.take j++m::ms.drop (j+1):=by rw[←hm,List.getElem_cons_drop,List.take_append_drop])
 rw[e,List.find?_append,hno];simp[List.find?,hq]
theorem sZbd12(h:p:=by
 refine m3r ?_;intro hjn;clear e hno hj hlj
 go_wp2_with (first|(refine qab 32 rfl _ _ rfl b8 rfl (mc noM) rfl _ R8 rfl (qak noM) (qa3 noM) ?_;intro w6 R8 t6;replace hB:=t6.below _ _ l8 hB))
 (refine m06 ?_;refine bodyPost_ret (qbf rfl _ _ _ _ rfl R8 _ underlying32 rfl (qak _)) rfl ⟨?_,hB⟩)
 rw[HF.out];rfl):p:=h
theorem sZbd17(h:p:=by
 go_roundw
 case rel=>exact⟨j+1,by omega,by go_num,HF.out,hB,R8⟩
 case measure=>rw[hjw];exact qek (HN.out.symm▸hlj)):p:=h
theorem qlo(f:Nat->Int)(g:Nat->Bool)(h:Nat->Int)(sl:Value)(ms:List Mp)(x y z:Int)(w:World)(hM:qaz w sl ms):
  Calls prog 9 #[.agg (tc f g h sl),I Z x,I Z y,I Z z] w fun e w'=>e=.returned (qhw (ms.find? (inS x y z)))/\Below w.heap.size w w':=by
 refine m1t ?_;intro hB hM0
 obtain⟨a0,cap,hsl,-⟩:=hM0
 obtain⟨n,hn⟩:∃n,n=ms.length:=⟨_,rfl⟩
 rw[←hn] at hsl
 subst hsl
 refine m2d ?_;clear hn;intro HN hlt
 go_enter func9,ntmps9
 go_wp2_with (first|(refine m1b ?_;clear hB;intro bT w1 RT hb1 lT hB)|(refine m5f ?_;intro b8 w2 l8 R8 hb2;replace l8:=Nat.le_trans hB.size l8;replace RT:=RT.below hb2;have n8:=RT.ne (Nat.le_refl _);clear n8;refine m4a ?_;clear hB;intro hB cM))
 go_loopw [15] (fun i W=>∃j:Nat,j<=ms.length/\i=I Z j/\(ms.take j).find? (inS x y z)=none/\Below w.heap.size w W/\Row 32 W b8 (mc noM)) (fun i _=>n-(intOf i).toNat)
 case atStart=>exact⟨0,by omega,rfl,by simp,hB,R8⟩
 case round=>
  clear hB R8 cM RT hb1
  obtain⟨j,hj,rfl,hno,hB,R8⟩:=hrel
  by_cases hlj:j<ms.length
  ·refine m0h ?_;intro hjn hjw
   obtain⟨m,hm⟩:∃m,ms[j]=m:=⟨_,rfl⟩
   refine m59 ?_;intro hMW hrg;(have C:=fun w=>qfv m w)
   by_cases hin:inS x y z m=true
   ·have HF:Hid (ms.find? (inS x y z)=some m):=qyh hno hlj hm hin
    go_wp2_with (first|(refine qb5 rfl (.tmp 13) (.tmp 15) rfl (.slice a0 n cap) ms hMW rfl j rfl hlj ?_)|(refine m0i ?_)|(refine m2r ?_;clear R8 hB;intro b11 w3 R11 hb3 n8 l11 R8 hB)|(refine m2s ?_;clear R8 hB;intro w4 R11 t4 R8 hB)|(refine qab 32 rfl _ _ rfl b8 rfl (mc m) rfl _ R8 rfl (qak m) (qa3 m) ?_;intro w6 R8 t6;replace hB:=t6.below _ _ l8 hB)|(refine qac 32 _ rfl rfl _ rfl (mc m) R11 _ underlying32 rfl (qak m) ?_)|(go_at_call 29;go_fit (C _);rintro e w5 ⟨rfl,hb5⟩;replace R8:=R8.below hb5;replace R11:=R11.below hb5;refine m40 ?_;clear hB;intro hB)|(refine qb1 58 _ _ rfl rfl (ic3 m.1 m.2.1 m.2.2.1) (ic3 x y z) rfl rfl eqGuardType58 _ _ (qln _ _ _ _ _ _ _) hin ?_))
    (refine m06 ?_;refine bodyPost_ret (qbf rfl _ _ _ _ rfl R8 _ underlying32 rfl (qak _)) rfl ⟨?_,hB⟩)
    rw[HF.out];rfl
   ·(have hin':inS x y z m=false:=by simpa using hin);have HF:Hid ((ms.take (j+1)).find? (inS x y z)=none):=qs3 hno hlj hm hin';clear hin
    go_wp2_with (first|(refine qb5 rfl (.tmp 13) (.tmp 15) rfl (.slice a0 n cap) ms hMW rfl j rfl hlj ?_)|(refine m0i ?_)|(refine m2r ?_;clear R8 hB;intro b11 w3 R11 hb3 n8 l11 R8 hB)|(refine m2s ?_;clear R8 hB;intro w4 R11 t4 R8 hB)|(refine qac 32 _ rfl rfl _ rfl (mc m) R11 _ underlying32 rfl (qak m) ?_)|(go_at_call 29;go_fit (C _);rintro e w5 ⟨rfl,hb5⟩;replace R8:=R8.below hb5;replace R11:=R11.below hb5;refine m40 ?_;clear hB;intro hB)|(refine qb1 58 _ _ rfl rfl (ic3 m.1 m.2.1 m.2.2.1) (ic3 x y z) rfl rfl eqGuardType58 _ _ (qln _ _ _ _ _ _ _) hin' ?_))
    exact sZbd17
  ·(have e:j=ms.length:=by omega)
   have HF:Hid (ms.find? (inS x y z)=none):=by
    show _=_
    rw[e,List.take_length] at hno;exact hno
   exact sZbd12
theorem qqr(f:Nat->Int)(g:Nat->Bool)(h:Nat->Int)(sl:Value)(ms:List Mp)(x y z:Int)(w:World)(hM:qaz w sl ms):
  Calls prog 12 #[.agg (tc f g h sl),I Z x,I Z y,I Z z] w fun e w'=>e=.returned (qhw (ms.find? (outS x y z)))/\Below w.heap.size w w':=by
 refine m1t ?_;intro hB hM0
 obtain⟨a0,cap,hsl,-⟩:=hM0
 obtain⟨n,hn⟩:∃n,n=ms.length:=⟨_,rfl⟩
 rw[←hn] at hsl
 subst hsl
 refine m2d ?_;clear hn;intro HN hlt
 go_enter func12,ntmps12
 go_wp2_with (first|(refine m1b ?_;clear hB;intro bT w1 RT hb1 lT hB)|(refine m5f ?_;intro b8 w2 l8 R8 hb2;replace l8:=Nat.le_trans hB.size l8;replace RT:=RT.below hb2;have n8:=RT.ne (Nat.le_refl _);clear n8;refine m4a ?_;clear hB;intro hB cM))
 go_loopw [15] (fun i W=>∃j:Nat,j<=ms.length/\i=I Z j/\(ms.take j).find? (outS x y z)=none/\Below w.heap.size w W/\Row 32 W b8 (mc noM)) (fun i _=>n-(intOf i).toNat)
 case atStart=>exact⟨0,by omega,rfl,by simp,hB,R8⟩
 case round=>
  clear hB R8 cM RT hb1
  obtain⟨j,hj,rfl,hno,hB,R8⟩:=hrel
  by_cases hlj:j<ms.length
  ·refine m0h ?_;intro hjn hjw
   obtain⟨m,hm⟩:∃m,ms[j]=m:=⟨_,rfl⟩
   refine m59 ?_;intro hMW hrg;(have C:=fun w=>qho m w)
   by_cases hin:outS x y z m=true
   ·have HF:Hid (ms.find? (outS x y z)=some m):=qyh hno hlj hm hin
    go_wp2_with (first|(refine qb5 rfl (.tmp 13) (.tmp 15) rfl (.slice a0 n cap) ms hMW rfl j rfl hlj ?_)|(refine m0i ?_)|(refine m2r ?_;clear R8 hB;intro b11 w3 R11 hb3 n8 l11 R8 hB)|(refine m2s ?_;clear R8 hB;intro w4 R11 t4 R8 hB)|(refine qab 32 rfl _ _ rfl b8 rfl (mc m) rfl _ R8 rfl (qak m) (qa3 m) ?_;intro w6 R8 t6;replace hB:=t6.below _ _ l8 hB)|(refine qac 32 _ rfl rfl _ rfl (mc m) R11 _ underlying32 rfl (qak m) ?_)|(go_at_call 30;go_fit (C _);rintro e w5 ⟨rfl,hb5⟩;replace R8:=R8.below hb5;replace R11:=R11.below hb5;refine m40 ?_;clear hB;intro hB)|(refine qb1 61 _ _ rfl rfl (ic3 m.1 m.2.2.2.1 m.2.2.2.2) (ic3 x y z) rfl rfl eqGuardType61 _ _ (qnx _ _ _ _ _ _ _) hin ?_))
    (refine m06 ?_;refine bodyPost_ret (qbf rfl _ _ _ _ rfl R8 _ underlying32 rfl (qak _)) rfl ⟨?_,hB⟩)
    rw[HF.out];rfl
   ·(have hin':outS x y z m=false:=by simpa using hin);have HF:Hid ((ms.take (j+1)).find? (outS x y z)=none):=qs3 hno hlj hm hin';clear hin
    go_wp2_with (first|(refine qb5 rfl (.tmp 13) (.tmp 15) rfl (.slice a0 n cap) ms hMW rfl j rfl hlj ?_)|(refine m0i ?_)|(refine m2r ?_;clear R8 hB;intro b11 w3 R11 hb3 n8 l11 R8 hB)|(refine m2s ?_;clear R8 hB;intro w4 R11 t4 R8 hB)|(refine qac 32 _ rfl rfl _ rfl (mc m) R11 _ underlying32 rfl (qak m) ?_)|(go_at_call 30;go_fit (C _);rintro e w5 ⟨rfl,hb5⟩;replace R8:=R8.below hb5;replace R11:=R11.below hb5;refine m40 ?_;clear hB;intro hB)|(refine qb1 61 _ _ rfl rfl (ic3 m.1 m.2.2.2.1 m.2.2.2.2) (ic3 x y z) rfl rfl eqGuardType61 _ _ (qnx _ _ _ _ _ _ _) hin' ?_))
    exact sZbd17
  ·(have e:j=ms.length:=by omega)
   have HF:Hid (ms.find? (outS x y z)=none):=by
    show _=_
    rw[e,List.take_length] at hno;exact hno
   exact sZbd12
def ocl(f:Nat->Int):List Value:=[I Z (f 0),I Z (f 1),I Z (f 2),I Z (f 3),I Z (f 4),I Z (f 5),I Z (f 6),I Z (f 7),I Z (f 8),I Z (f 9),I Z (f 10),I Z (f 11),I Z (f 12),I Z (f 13),I Z (f 14),I Z (f 15),I Z (f 16),I Z (f 17)]
def oc(f:Nat->Int):Array Value:=#[I Z (f 0),I Z (f 1),I Z (f 2),I Z (f 3),I Z (f 4),I Z (f 5),I Z (f 6),I Z (f 7),I Z (f 8),I Z (f 9),I Z (f 10),I Z (f 11),I Z (f 12),I Z (f 13),I Z (f 14),I Z (f 15),I Z (f 16),I Z (f 17)]
def r6(h:Nat->Int):Array Value:=#[I Z (h 0),I Z (h 1),I Z (h 2),I Z (h 3),I Z (h 4),I Z (h 5)]
theorem qip(f:Nat->Int):(ocl f).toArray=oc f:=rfl
theorem qhm(f:Nat->Int):(prog.info? 23).map (·.size)=some (ocl f).length:=by kernel_rfl
theorem qx2(h:Nat->Int):(prog.info? 22).map (·.size)=some (r6 h).size:=by kernel_rfl
theorem q91(h:Nat->Int):(r6 h).all (·.oneCell')=true:=by kernel_rfl
theorem q9f(w:World):(zeroValue 22).run prog w=.ok (.agg (r6 (fun _=>0))) w:=by kernel_rfl
theorem q5y(h:Nat->Int)(k:Nat)(hk:k<6)(w:World):(Instr.index 22 (.agg (r6 h)) (I Z (k:Int))).run prog w=.ok (I Z (h k)) w:=qo0 h k hk w
theorem q4o(f:Nat->Int)(a:Nat)(ha:a<3)(w:World):(Instr.index 23 (.agg (oc f)) (I Z (a:Int))).run prog w=.ok (.agg (r6 (rowF f a))) w:=by
 rcases(show a=0\/a=1\/a=2 by omega) with rfl|rfl|rfl<;>kernel_rfl
theorem q9q(f:Nat->Int)(j:Nat)(v:Value)(h:(ocl f)[j]?=some v):j<18/\v=I Z (f j):=by
 have hj:j<18:=(List.getElem?_eq_some_iff.1 h).1
 refine⟨hj,?_⟩
 rcases(show j=0\/j=1\/j=2\/j=3\/j=4\/j=5\/j=6\/j=7\/j=8\/j=9\/j=10\/j=11\/j=12\/j=13\/j=14\/j=15\/j=16\/j=17 by omega) with rfl|rfl|rfl|rfl|rfl|rfl|rfl|rfl|rfl|rfl|rfl|rfl|rfl|rfl|rfl|rfl|rfl|rfl<;>exact(Option.some.inj h).symm
theorem Row.owners(R:Row 30 w b (tc f g h sl)):w.rangeAt b 0 (ocl f):=R.range (fun j v hv=>by
 obtain⟨hj,rfl⟩:=q9q f j v hv
 rw[Nat.zero_add];exact qvl f g h sl j hj)
def plc(l:List Nat):List Value:=l.flatMap fun n=>[I Z ((n/6:Nat):Int),I Z ((n%6:Nat):Int)]
def Plc(w:World)(base:Nat)(v:Value)(l:List Nat):Prop:=w.ownsRow base 67 2 v l.length (plc l)
theorem Plc.nil(w:World)(base:Nat):Plc w base (.slice none 0 0) []:=by unfold Plc;exact World.ownsRow_nil w base 67 2
theorem Plc.slice(h:Plc w base v l):∃a c,v=.slice a l.length c:=by
 rcases h.2 with⟨e,n0⟩|⟨b,cap,cur,hv,_⟩
 ·exact⟨none,0,by rw[e,n0]⟩
 ·exact⟨_,_,hv⟩
theorem qhq{w0:World}{e:TypeId}{size:Nat}{xs:List Value}(h:w.ownsRow base e size v n xs)(B:Below base w0 w)(hle:base<=w.heap.size)(hg:w.grownBy w' v.ownBlock):Below base w0 w':=by
 refine⟨hg.os.trans B.os,hg.tape.trans B.tape,hg.output.trans B.output,Nat.le_trans B.size hg.size,fun k hk=>?_⟩
 refine(hg.block k om ?_).trans (B.block k hk)
 intro e
 have:=h.lt k e.symm
 omega
theorem q0u:(prog.info? 67).map (fun i=>(i.zero,i.size,i.bytes))=some (some (.agg #[I Z 0,I Z 0]),2,16):=by kernel_rfl
def qec(f:Nat->Int)(s:Int)(N:Nat):List Nat:=(List.range N).filter fun n=>f n==s+1
theorem qn3(f:Nat->Int)(s:Int)(N:Nat):qec f s (N+1)=qec f s N++if (f N==s+1)=true then [N] else []:=by
 unfold qec;rw[List.range_succ,List.filter_append];simp only[List.filter];split<;>simp_all
theorem qoy(f:Nat->Int)(s:Int)(N:Nat):(qec f s N).length<=N:=by
 have:=List.length_filter_le (fun n=>f n==s+1) (List.range N);simpa[qec] using this
theorem q75(w:World)(x y:Value)(t:TypeId):∀j u,[x,y][j]?=some u->(w.alloc (.cells #[x,y] t)).cell? ((⟨w.heap.size,0,none⟩:Addr).add j)=some u:=by
 intro j u hu
 match j,hu with
 | 0,hu=>
  (have e:x=u:=by simpa using hu)
  subst e
  rw[Addr.add_lit,Nat.zero_add]
  exact World.cell?_alloc_mark w #[x,y] t (0,0) 0
 | 1,hu=>
  (have e:y=u:=by simpa using hu)
  subst e
  rw[Addr.add_lit,Nat.zero_add]
  exact World.cell?_alloc_mark w #[x,y] t (0,0) 1
theorem qst(h:Plc w base v l)(hb:Below w.heap.size w w'):Plc w' base v l:=by
 refine⟨h.1,?_⟩
 rcases h.2 with e|⟨b,cap,cur,hv,hbb,hh,r⟩
 ·exact .inl e
 ·exact .inr ⟨b,cap,cur,hv,hbb,(hb.block b (Array.getElem?_eq_some_iff.1 hh).1).trans hh,r⟩
theorem q0m(h:Plc w base v l)(t:qbl b7 w w')(hn:v.ownBlock≠some b7):Plc w' base v l:=by
 refine⟨h.1,?_⟩
 rcases h.2 with e|⟨b,cap,cur,hv,hbb,hh,r⟩
 ·exact .inl e
 ·exact .inr ⟨b,cap,cur,hv,hbb,(t.other b (fun e=>hn (by rw[hv,e];rfl))).trans hh,r⟩
theorem q7k{cs:Array Value}(h:Plc w base v l)(R:Row 22 w b7 cs):v.ownBlock≠some b7:=by
 rcases h.2 with⟨e,_⟩|⟨b,cap,cur,hv,hbb,hh,r⟩
 ·rw[e];simp[Value.ownBlock]
 ·rw[hv];intro e;have e':b=b7:=Option.some.inj e
  subst e'
  unfold Row at R
  rw[hh] at R
  simp at R
theorem qiq(f:Nat->Int)(g:Nat->Bool)(h:Nat->Int)(sl:Value)(s:Int)(hs:0<=s)(hs8:s<8)(w:World):
  Calls prog 50 #[.agg (tc f g h sl),I Z s] w fun e w'=>∃v,e=.returned v/\(∃a c,v=.slice a (qbk f s).length c)/\Plc w' w.heap.size v (qbk f s)/\Below w.heap.size w w':=by
 obtain⟨i0,hi,hz0,hz1,hz2⟩:=info_parts q0u;have hB:=Below.refl w.heap.size w;(have hsw:wrap64 (s+1)=s+1:=by unfold wrap64;omega)
 go_enter func50,ntmps50
 go_wp2_with (first|(refine m1b ?_;clear hB;intro bT w1 RT hb1 lT hB;have hrg:=RT.owners)|(refine wpList_load_mid rfl 23 _ rfl _ _ rfl (ocl f) _ hrg underlying23 rfl (qhm f) ?_;rw[qip]))
 go_loopw [5,13] (fun v i W=>∃(a:Nat) (ao:Option Addr) (cv:Nat),a<=3/\i=I Z a/\v=.slice ao (qec f s (6*a)).length cv/\Plc W w.heap.size v (qec f s (6*a))/\Below w.heap.size w W) (fun _ i _=>3-(intOf i).toNat)
 case atStart=>exact⟨0,none,0,by omega,rfl,rfl,Plc.nil _ _,hB⟩
 case round=>
  clear hB RT hrg hb1
  obtain⟨a,ao,cv,ha,rfl,rfl,hown,hB⟩:=hrel
  by_cases hlt:a<3
  ·have ia:=q4o f a hlt;have hsize0:=hB.size
   go_wp2_with (first|(refine ay 22 q9f ?_;intro b7 w3 l7 R7 hb3;replace l7:=Nat.le_trans hB.size l7;replace hown:Plc w3 _ _ _:=qst hown hb3;replace hB:=hB.trans (hb3.mono hB.size);have n7:=q7k hown R7)|(refine sx 22 _ _ (r6 (rowF f a)) R7 ?_;intro w4 R7 t4;replace hown:Plc w4 _ _ _:=q0m hown t4 n7;replace hB:=t4.below _ _ l7 hB)|(refine lx 22 _ (r6 (rowF f a)) R7 ?_))
   go_loopw [5,18] (fun v i W=>∃(k:Nat) (ao:Option Addr) (cv:Nat),k<=6/\i=I Z k/\v=.slice ao (qec f s (6*a+k)).length cv/\Plc W w.heap.size v (qec f s (6*a+k))/\Below w.heap.size w W) (fun _ i _=>6-(intOf i).toNat)
   case atStart=>exact⟨0,ao,cv,by omega,rfl,rfl,hown,hB⟩
   case round=>
    clear hB hown R7 n7
    obtain⟨k,ao,cv,hk,rfl,rfl,hown,hB⟩:=hrel
    have hsize:=hB.size;have hfl:=qoy f s (6*a+k)
    by_cases hlk:k<6
    ·have ik:=q5y (rowF f a) k hlk
     by_cases hz:f (6*a+k)=s+1
     ·(have dz:(rowF f a k==s+1)=true:=by simpa[rowF] using hz);(have HS:Hid (qec f s (6*a+(k+1))=qec f s (6*a+k)++[6*a+k]):=by show _=_;rw[show 6*a+(k+1)=6*a+k+1 from rfl,qn3,if_pos (by simpa using hz)]);clear hz
      go_wp2_with (at_builtin;refine wpList_append_own _ rfl _ _ 90 rfl w.heap.size 67 i0 (.agg #[I Z 0,I Z 0]) 2 16 underlying90 hi hz0 hz1 hz2 rfl (by decide) _ _ _ rfl (hown.alloc _) ⟨wr.heap.size,0,none⟩ 1 1 [I Z (a:Int),I Z (k:Int)] rfl rfl (q75 _ _ _ _) (fun x hx=>by simp at hx;rcases hx with rfl|rfl<;>rfl) (by unfold maxLen;omega) om (by simp;omega) ?_;intro v' w3 hown' hgrow3 hnil3)
      go_roundw
      case rel=>
       have hi':Plc w3 w.heap.size v' (qec f s (6*a+(k+1))):=by
        unfold Plc plc at *
        rw[HS.out,List.length_append,List.flatMap_append];(have e1:(6*a+k)/6=a:=by omega);(have e2:(6*a+k)%6=k:=by omega)
        simp only[List.flatMap_cons,List.flatMap_nil,e1,e2,List.append_nil]
        exact hown'
       obtain⟨a3,c3,e3⟩:=hi'.slice;have hb3:Below w.heap.size w w3:=qhq (hown.alloc _) (hB.alloc hB.size _) (by simp;omega) hgrow3
       first
        | exact⟨k+1,a3,c3,by omega,by go_num,e3,hi',hb3⟩
        | ((repeat apply Exists.intro);exact⟨⟨k+1,a3,c3,by omega,by go_num,e3,hi',hb3⟩,rfl⟩)
        | ((repeat apply Exists.intro);exact⟨⟨k+1,a3,c3,by omega,by go_num,e3,hi',hb3⟩,rfl,rfl⟩)
      case measure=>simp[intOf];omega
     ·(have dz:(rowF f a k==s+1)=false:=by simpa[rowF] using hz);(have HS:Hid (qec f s (6*a+(k+1))=qec f s (6*a+k)):=by show _=_;rw[show 6*a+(k+1)=6*a+k+1 from rfl,qn3,if_neg (by simpa using hz)];simp);clear hz
      go_wp2
      go_roundw
      case rel=>
       first
        | exact⟨k+1,ao,cv,by omega,by go_num,by rw[HS.out],by rw[HS.out];exact hown,hB⟩
        | ((repeat apply Exists.intro);exact⟨⟨k+1,ao,cv,by omega,by go_num,by rw[HS.out],by rw[HS.out];exact hown,hB⟩,rfl⟩)
        | ((repeat apply Exists.intro);exact⟨⟨k+1,ao,cv,by omega,by go_num,by rw[HS.out],by rw[HS.out];exact hown,hB⟩,rfl,rfl⟩)
      case measure=>simp[intOf];omega
    ·(have e:k=6:=by omega)
     subst e
     go_wp2
     go_roundw
     case rel=>
      first
       | exact⟨a+1,ao,cv,by omega,by go_num,rfl,hown,hB⟩
       | ((repeat apply Exists.intro);exact⟨⟨a+1,ao,cv,by omega,by go_num,rfl,hown,hB⟩,rfl⟩)
     case measure=>simp[intOf];omega
  ·(have e:a=3:=by omega)
   subst e
   go_wp2
   go_ret
   exact⟨_,rfl,⟨_,_,rfl⟩,hown,hB⟩
theorem qlt(h0:0<=x)(h8:x<=8):(Lit.int .i64 x).wf=true:=by simp[Lit.wf,IntKind.min,IntKind.max,IntKind.bits,IntKind.signed];omega
def wfH(h:Nat->Int):Prop:=∀i,i<8->(Lit.int .i64 (h i)).wf=true
theorem qul(f:Nat->Int)(hf:wfF f):prog.keyLits 3 23 (Value.agg (oc f)).cells.toList=some [.int .i64 (f 0),.int .i64 (f 1),.int .i64 (f 2),.int .i64 (f 3),.int .i64 (f 4),.int .i64 (f 5),.int .i64 (f 6),.int .i64 (f 7),.int .i64 (f 8),.int .i64 (f 9),.int .i64 (f 10),.int .i64 (f 11),.int .i64 (f 12),.int .i64 (f 13),.int .i64 (f 14),.int .i64 (f 15),.int .i64 (f 16),.int .i64 (f 17)]:=by
 refine m5b ?_;intro c44 c43;(have c3:prog.cellsOf 3=1:=by kernel_rfl);have h0:=hf 0 om;have h1:=hf 1 om;have h2:=hf 2 om;have h3:=hf 3 om;have h4:=hf 4 om;have h5:=hf 5 om;have h6:=hf 6 om;have h7:=hf 7 om;have h8:=hf 8 om;have h9:=hf 9 om;have h10:=hf 10 om;have h11:=hf 11 om;have h12:=hf 12 om;have h13:=hf 13 om;have h14:=hf 14 om;have h15:=hf 15 om;have h16:=hf 16 om;have h17:=hf 17 om
 simp[Program.keyLits,Value.cells,oc,underlying23,underlying22,underlying3,c44,c43,c3,List.range,List.range.loop,h0,h1,h2,h3,h4,h5,h6,h7,h8,h9,h10,h11,h12,h13,h14,h15,h16,h17]
def hc8(h:Nat->Int):Array Value:=(hcl h).toArray
theorem qtz(h:Nat->Int)(hh:wfH h):prog.keyLits 2 27 (Value.agg (hc8 h)).cells.toList=some [.int .i64 (h 0),.int .i64 (h 1),.int .i64 (h 2),.int .i64 (h 3),.int .i64 (h 4),.int .i64 (h 5),.int .i64 (h 6),.int .i64 (h 7)]:=by
 (have c8:prog.cellsOf 27=8:=by kernel_rfl);(have c3:prog.cellsOf 3=1:=by kernel_rfl);have h0:=hh 0 om;have h1:=hh 1 om;have h2:=hh 2 om;have h3:=hh 3 om;have h4:=hh 4 om;have h5:=hh 5 om;have h6:=hh 6 om;have h7:=hh 7 om
 simp[Program.keyLits,Value.cells,hc8,hcl,underlying27,underlying3,c8,c3,List.range,List.range.loop,h0,h1,h2,h3,h4,h5,h6,h7]
def eqTo(f g:Nat->Int)(n:Nat):Bool:=(List.range n).all fun k=>f k==g k
theorem qjn(f g:Nat->Int)(n:Nat):eqTo f g n=true↔∀k,k<n->f k=g k:=by simp[eqTo]
theorem qv1(f g:Nat->Int)(n:Nat):((List.range n).map fun k=>Lit.int .i64 (f k))=((List.range n).map fun k=>Lit.int .i64 (g k))↔eqTo f g n=true:=by
 rw[qjn,List.map_inj_left]
 constructor
 ·intro h k hk;have:=h k (List.mem_range.2 hk);injection this
 ·intro h k hk;rw[h k (List.mem_range.1 hk)]
theorem qq8(f g:Nat->Int)(hf:wfF f)(hg:wfF g)(w:World):(Op.equalIn 10000 23 (.agg (oc f)) (.agg (oc g))).run prog w=.ok (eqTo f g 18) w:=by
 obtain⟨r,h1,h2⟩:=run_equalIn_deep (P:=prog) 9997 3 23 kr w 3 3 (.agg (oc f)) (.agg (oc g)) _ _ kr kr (qul f hf) (qul g hg)
 have e:r=eqTo f g 18:=by
  rw[Bool.eq_iff_iff,←qv1 f g 18]
  exact h2
 rw[e] at h1
 exact h1
theorem qmy(f g:Nat->Int)(hf:wfH f)(hg:wfH g)(w:World):(Op.equalIn 10000 27 (.agg (hc8 f)) (.agg (hc8 g))).run prog w=.ok (eqTo f g 8) w:=by
 obtain⟨r,h1,h2⟩:=run_equalIn_deep (P:=prog) 9998 2 27 kr w 2 2 (.agg (hc8 f)) (.agg (hc8 g)) _ _ kr kr (qtz f hf) (qtz g hg)
 have e:r=eqTo f g 8:=by
  rw[Bool.eq_iff_iff,←qv1 f g 8]
  exact h2
 rw[e] at h1
 exact h1
theorem qakb(h:Nat->Int)(j:Nat)(v:Value)(hv:(hcl h)[j]?=some v):j<8/\v=I Z (h j):=by
 have hj:j<8:=(List.getElem?_eq_some_iff.1 hv).1
 refine⟨hj,?_⟩
 rcases(show j=0\/j=1\/j=2\/j=3\/j=4\/j=5\/j=6\/j=7 by omega) with rfl|rfl|rfl|rfl|rfl|rfl|rfl|rfl<;>exact(Option.some.inj hv).symm
theorem Row.homes(R:Row 30 w b (tc f g h sl)):w.rangeAt b 21 (hcl h):=R.range (fun j v hv=>by
 obtain⟨hj,rfl⟩:=qakb h j v hv
 exact qhc f g h sl j hj)
theorem qfd(h:Nat->Int):(prog.info? 27).map (·.size)=some (hcl h).length:=by kernel_rfl
theorem qkf(h:Nat->Int):(hcl h).toArray=hc8 h:=rfl
theorem Row.pool(R:Row 30 w b (tc f g h sl)):w.rangeAt b 0 (pc f g).toList:=R.range (fun j v hv=>by
 rw[Nat.zero_add];(have hj:j<21:=by have:=(List.getElem?_eq_some_iff.1 hv).1;simpa[qf1] using this);rw[qxwb]
 rw[Array.getElem?_append_left (by simp[qf1,hcl];omega),Array.getElem?_append_left (by rw[qf1];omega)]
 simpa using hv)
theorem qkh(f:Nat->Int)(g:Nat->Bool):(prog.info? 26).map (·.size)=some (pc f g).toList.length:=by kernel_rfl
theorem q5z(ms:List Mp)(hg:qcv f=true):wfF (qd0 f ms):=fun i hi=>by
 have:=qki hg i hi
 unfold qd0;split
 ·exact qlt this.1 this.2
 ·exact qlt om om
theorem qpn(hg:qcv f=true):wfF f:=fun i hi=>qlt (qki hg i hi).1 (qki hg i hi).2
theorem q5e(ms:List Mp)(hh:wfH h):wfH (qdq h ms):=fun i hi=>by
 unfold qdq;split
 ·exact hh i hi
 ·exact qlt om om
end Go.Proofs.Ytbboabfmoahipaa
