/-
  Of what a law stands on.
-/
import Derived.Test.YtnkpgdejagglaaaGreatDoorZyp2
import Derived.Test.YtnkpgdejagglaaaGreatDoorZyb1
set_option linter.all false
namespace Go.Proofs.YtnkpgdejagglaaaGreatDoor
open _root_.Array renaming getElem?_append_left->bY
open _root_.Bool renaming eq_false_iff->ow
open _root_.Go renaming Calls->az,Value->ag,World->af,bodyPost_ret->aL,run_equalIn_struct->ke,wpList_load_mid->jB,zeroValue->eM
open _root_.Go.Op renaming equalIn->lM
open _root_.Go.Proofs.Tryz renaming prog->ah
open _root_.Go.RowKit renaming Below->aq,Hid->aK,intOf->cY,wrap64->bK
open _root_.List renaming any_eq_false->jJ,filter_append->cO,getElem?_eq_some_iff->aJ,length_append->aY,range->aA,range_succ->hZ,take_length->bn
open _root_.Nat renaming le_refl->au,le_trans->aw,zero_add->bX
open Go.Value renaming int → I,pointer → V
open Go.IntKind renaming i64 → Z
open _root_.Go.Proofs.Tryz Go.ChangeShapes Go.WideShapes Go.ChangeAt Go.RowKit
set_option maxHeartbeats 16000000
set_option maxRecDepth 100000
variable {a q s x:Int}{b b7 base c i j n:Nat}{f h:Nat->Int}{p:Prop}{l:List Nat}{g:Nat->Bool}{w w':World}{v:Value}
abbrev Mp:=Int×Int×Int×Int×Int
def uU(p:Int):Bool:=p==1||p==6||p==17
theorem P6(p:Int):uU p=true↔p=1\/p=6\/p=17:=by grind [uU]
def nP(a q:Int):Nat:=6*a.toNat+((q-1024)/8).toNat
theorem qsy(ha:0<=a/\a<3)(hq:1024<=q/\q<1072):nP a q<18:=by grind [nP]
theorem qrg{b r:Int}(ha:0<=a/\a<3)(hq:1024<=q/\q<1072)(hb:0<=b/\b<3)(hr:1024<=r/\r<1072):nP a q=nP b r↔a=b/\(q-1024)/8=(r-1024)/8:=by grind [nP]
def pD(f h:Nat->Int)(m:Mp):Prop:=
 uU m.1=true/\(0<=m.2.1/\m.2.1<8)/\(0<=m.2.2.1/\m.2.2.1<=65535)/\(1024<=m.2.2.2.2/\m.2.2.2.2<1072)/\(0<=m.2.2.2.1/\m.2.2.2.1<3)/\h m.2.1.toNat=m.2.2.2.1+1/\f (nP m.2.2.2.1 m.2.2.2.2)=m.2.1+1
def kf(p s i:Int)(o:Mp):Bool:=o.1==p&&o.2.1==s&&o.2.2.1==i
def gj(p a q:Int)(o:Mp):Bool:=o.1==p&&o.2.2.2.1==a&&o.2.2.2.2==q
theorem XZ(p s i:Int)(o:Mp):kf p s i o=true↔o.1=p/\o.2.1=s/\o.2.2.1=i:=by grind [kf]
theorem X0(p a q:Int)(o:Mp):gj p a q o=true↔o.1=p/\o.2.2.2.1=a/\o.2.2.2.2=q:=by grind [gj]
def rB(ms:List Mp)(m:Mp):Bool:=ms.any fun o=>kf m.1 m.2.1 m.2.2.1 o||gj m.1 m.2.2.2.1 m.2.2.2.2 o
def eu(m:Mp):Nat:=nP m.2.2.2.1 m.2.2.2.2
def jM(f h:Nat->Int)(ms:List Mp):Prop:=(∀m∈ms,pD f h m)/\ms.Pairwise (fun o m=>rB [o] m=false)
def qvg(f h:Nat->Int):jM f h []:=⟨fun m hm=>by simp at hm,List.Pairwise.nil⟩
theorem X1{ms:List Mp}{m:Mp}:rB ms m=false↔∀o∈ms,rB [o] m=false:=by
 simp[rB]
theorem UT(f h:Nat->Int)(ms:List Mp)(m:Mp):jM f h (ms++[m])↔jM f h ms/\pD f h m/\rB ms m=false:=by grind [jM,pD,rB]
def tP(f:Nat->Int)(ms:List Mp):Nat->Int:=fun k=>if (ms.any fun m=>eu m==k)=true then f k else 0
def tQ(h:Nat->Int)(ms:List Mp):Nat->Int:=fun k=>if (ms.any fun m=>m.2.1.toNat==k)=true then h k else 0
theorem q09(f:Nat->Int):tP f []=fun _=>0:=by grind [tP]
theorem q3t(f:Nat->Int):tQ f []=fun _=>0:=by grind [tQ]
theorem qyv{ms:List Mp}{m:Mp}(hs:pD f h m):upd (tP f ms) (eu m) (m.2.1+1)=tP f (ms++[m]):=by grind [pD,upd,tP,eu]
theorem qy1{ms:List Mp}{m:Mp}(hs:pD f h m):upd (tQ h ms) m.2.1.toNat (m.2.2.2.1+1)=tQ h (ms++[m]):=by grind [pD,upd,tQ]
def fI(f:Nat->Int)(s:Int):List Nat:=(aA 18).filter fun n=>f n==s+1
def bV(ms:List Mp)(s:Int):Nat:=(ms.filter fun m=>m.2.1==s).length
theorem za(f:Nat->Int)(s:Int)(n:Nat):n∈fI f s↔n<18/\f n=s+1:=by simp[fI]
structure gM(f h:Nat->Int)(ms:List Mp):Prop where
 iP:iX f=true
 maps:jM f h ms
 own:∀k,k<18->f k≠0->∃m∈ms,eu m=k
 home:∀s,s<8->h s≠0->∃m∈ms,m.2.1.toNat=s
 few:∀s:Nat,s<8->(fI f s).length<=2/\bV ms s<=12
theorem q3f{ms:List Mp}:(∀k,k<18->tP f ms k=f k)↔∀k,k<18->f k≠0->∃m∈ms,eu m=k:=by grind [tP,eu]
theorem q2y{ms:List Mp}:(∀k,k<8->tQ h ms k=h k)↔∀k,k<8->h k≠0->∃m∈ms,m.2.1.toNat=k:=by grind [tQ]
def ql6{ms:List Mp}:gM f h ms↔iX f=true/\jM f h ms/\(∀k,k<18->tP f ms k=f k)/\(∀k,k<8->tQ h ms k=h k)/\∀s:Nat,s<8->(fI f s).length<=2/\bV ms s<=12:=by
 rw[q3f,q2y]
 exact⟨fun x=>⟨x.iP,x.maps,x.own,x.home,x.few⟩,fun x=>⟨x.1,x.2.1,x.2.2.1,x.2.2.2.1,x.2.2.2.2⟩⟩
def pD.lt{m:Mp}(x:pD f h m):eu m<18:=qsy x.2.2.2.2.1 x.2.2.2.1
theorem q4h{ms:List Mp}{m:Mp}(G:gM f h ms)(hs:pD f h m)(hm:rB ms m=false)(hc:bV ms m.2.1≠12):gM f h (ms++[m]):=by
 refine⟨G.iP,(UT f h ms m).2 ⟨G.maps,hs,hm⟩,fun k hk h0=>?_,fun s h8 h0=>?_,fun s h8=>⟨(G.few s h8).1,?_⟩⟩
 .obtain⟨o,ho,e⟩:=G.own k hk h0;exact⟨o,by simp[ho],e⟩
 .obtain⟨o,ho,e⟩:=G.home s h8 h0;exact⟨o,by simp[ho],e⟩
 .have EZ:=(G.few s h8).2
  grind [bV]
theorem qps(hn:n<18)(h0:f n≠s+1):(fI (upd f n x) s).length=(fI f s).length+if x=s+1 then 1 else 0:=by
 have key:∀N,((aA N).filter fun k=>upd f n x k==s+1).length=((aA N).filter fun k=>f k==s+1).length+if n<N/\x=s+1 then 1 else 0:=by
  intro N
  induction N with
  | zero=>simp
  | succ N ih=>
   rw[hZ,cO,cO,aY,aY,ih]
   by_cases e:N=n
   .subst e
    (have GM:(f N==s+1)=false:=by simp[h0])
    by_cases hx:x=s+1
    .simp[upd,hx,GM]
    ·(have Oa:(x==s+1)=false:=by simp[hx])
     simp[upd,hx,GM,Oa]
   ·(have e1:upd f n x N=f N:=by simp[upd,e])
    simp only[List.filter,e1]
    by_cases hx:x=s+1
    ·(have e2:(n<N+1)=(n<N):=by apply propext;omega)
     simp only[hx,e2];omega
    .simp[hx]
 unfold fI
 rw[key 18]
 simp[hn]
def q1f{ms:List Mp}{m:Mp}(G:gM f h ms)(h0:f (eu m)=0)(hp:uU m.1=true)(zZ:0<=m.2.1/\m.2.1<8)(hi:0<=m.2.2.1/\m.2.2.1<=65535)(hq:1024<=m.2.2.2.2/\m.2.2.2.2<1072)(ha:0<=m.2.2.2.1/\m.2.2.2.1<3)(hh:h m.2.1.toNat=0\/h m.2.1.toNat=m.2.2.2.1+1)(hf:ms.any (kf m.1 m.2.1 m.2.2.1)=false)(hc:bV ms m.2.1≠12)(hb:(fI f m.2.1).length<2):gM (upd f (eu m) (m.2.1+1)) (upd h m.2.1.toNat (m.2.2.2.1+1)) (ms++[m]):=by
 have hpl:eu m<18:=qsy ha hq;(have hst:pD (upd f (eu m) (m.2.1+1)) (upd h m.2.1.toNat (m.2.2.2.1+1)) m:=⟨hp,zZ,hi,hq,ha,by simp[upd],by simp[upd,eu]⟩)
 have hold:∀o∈ms,pD (upd f (eu m) (m.2.1+1)) (upd h m.2.1.toNat (m.2.2.2.1+1)) o:=by
  intro o ho;have so:=G.maps.1 o ho
  refine⟨so.1,so.2.1,so.2.2.1,so.2.2.2.1,so.2.2.2.2.1,?_,?_⟩
  .have:=so.2.2.2.2.2.1
   unfold upd
   split
   .rename_i e
    rcases hh with hh|hh
    .rw[←e] at hh;rw[hh] at this;have:=so.2.2.2.2.1;omega
    .rw[←e] at hh;rw[hh] at this;omega
   .exact this
  .have e7:=so.2.2.2.2.2.2
   unfold upd
   split
   .rename_i e
    (have e':f (eu m)=o.2.1+1:=by rw[←e];exact e7)
    have:=so.2.1;omega
   .exact e7
 have uV:rB ms m=false:=by
  rw[X1];intro o ho
  have dR:kf m.1 m.2.1 m.2.2.1 o=false:=by
   have:=jJ.1 hf o ho
   simpa using this
  have hout:gj m.1 m.2.2.2.1 m.2.2.2.2 o=false:=by
   cases hx:gj m.1 m.2.2.2.1 m.2.2.2.2 o with
   | false=>rfl
   | true=>
    obtain⟨_,e1,e2⟩:=(X0 _ _ _ _).1 hx
    have so:=G.maps.1 o ho;have e7:=so.2.2.2.2.2.2
    have:nP o.2.2.2.1 o.2.2.2.2=eu m:=by rw[e1,e2];rfl
    rw[this,h0] at e7
    have:=so.2.1;omega
  simp[rB,dR,hout]
 refine⟨X3 ?_,(UT _ _ ms m).2 ⟨⟨hold,G.maps.2⟩,hst,uV⟩,fun k hk wG=>?_,fun s h8 hs0=>?_,fun s h8=>⟨?_,?_⟩⟩
 .intro i hi'
  have:=GN G.iP i hi'
  unfold upd
  split<;>omega
 .by_cases e:k=eu m
  .exact⟨m,by simp,e.symm⟩
  .obtain⟨o,ho,e'⟩:=G.own k hk (by simpa[upd,e] using wG);exact⟨o,by simp[ho],e'⟩
 .by_cases e:s=m.2.1.toNat
  .exact⟨m,by simp,e.symm⟩
  .obtain⟨o,ho,e'⟩:=G.home s h8 (by simpa[upd,e] using hs0);exact⟨o,by simp[ho],e'⟩
 .rw[qps hpl om]
  have:=(G.few s h8).1
  by_cases e:m.2.1=(s:Int)
  .rw[e] at hb;simp[e];omega
  ·(have e':¬(m.2.1+1=(s:Int)+1):=by omega)
   rw[aT e'];omega
 .have EZ:=(G.few s h8).2
  unfold bV at *
  rw[cO,aY]
  by_cases e:m.2.1=(s:Int)
  .rw[e] at hc
   simp[e];omega
  .simp[e,EZ]
def dH(ms:List Mp)(m:Mp):List Mp:=ms.filter fun o=>o != m
theorem q3n{ms:List Mp}{m:Mp}:(dH ms m).length=ms.length↔m ∉ ms:=by grind [dH,List.length_filter_eq_length_iff]
theorem qqg{ms:List Mp}(G:jM f h ms):ms.Pairwise (fun o m=>o≠m):=by
 refine G.2.imp ?_
 grind [rB,kf,jM]
def qnu{ms:List Mp}{m:Mp}(hp:ms.Pairwise (fun o m=>o≠m))(hm:m∈ms):(dH ms m).length+1=ms.length:=by
 induction ms with
 | nil=>simp at hm
 | cons x xs ih=>
  rw[List.pairwise_cons] at hp
  by_cases e:x=m
  .subst e
   (have hno:x ∉ xs:=fun hx=>hp.1 x hx rfl)
   have:=q3n.2 hno
   unfold dH at *
   simp[this]
  .have El:m∈xs:=by
    rcases List.mem_cons.1 hm with h|h
    .exact absurd h.symm e
    .exact h
   have:=ih hp.2 El
   unfold dH at *
   (have e':(x != m)=true:=by simp[e])
   simp[List.filter,e'];omega
theorem q1v{ms:List Mp}{m:Mp}(G:gM f h ms)(hm:m∈ms)(ha:(dH ms m).any (fun o=>eu o==eu m)=true):gM f h (dH ms m):=by
 have sub:(dH ms m).Sublist ms:=List.filter_sublist;(have mem:∀o,o∈dH ms m↔o∈ms/\o≠m:=by intro o;simp[dH]);have sm:=G.maps.1 m hm
 obtain⟨o,ho,e⟩:∃o∈dH ms m,eu o=eu m:=by simpa using ha
 have so:=G.maps.1 o (sub.mem ho)
 refine⟨G.iP,⟨fun x hx=>G.maps.1 x (sub.mem hx),G.maps.2.sublist sub⟩,fun k hk h0=>?_,fun s h8 h0=>?_,fun s h8=>⟨(G.few s h8).1,?_⟩⟩
 .obtain⟨x,hx,ex⟩:=G.own k hk h0
  grind
 .obtain⟨x,hx,ex⟩:=G.home s h8 h0
  by_cases uE:x=m
  .subst uE
   refine⟨o,ho,?_⟩
   have e1:=so.2.2.2.2.2.2;have e2:=sm.2.2.2.2.2.2
   have:nP o.2.2.2.1 o.2.2.2.2=nP x.2.2.2.1 x.2.2.2.2:=e
   grind
  grind
 .exact aw (sub.filter _).length_le (G.few s h8).2
theorem qvr(hn:n<18)(h0:f n=s+1)(t:Int)(ht:0<=t)(hs:0<=s):(fI (upd f n 0) t).length+(if s=t then 1 else 0)=(fI f t).length:=by
 have e:upd (upd f n 0) n (s+1)=f:=by
  grind [upd]
 grind [qps,upd,fI]
theorem q32{ms:List Mp}{m:Mp}(G:gM f h ms)(hm:m∈ms)(ha:(dH ms m).any (fun o=>eu o==eu m)=false):
  gM (upd f (eu m) 0) (if (fI (upd f (eu m) 0) m.2.1).length=0 then upd h m.2.1.toNat 0 else h) (dH ms m):=by
 have sub:(dH ms m).Sublist ms:=List.filter_sublist;(have mem:∀o,o∈dH ms m↔o∈ms/\o≠m:=by intro o;simp[dH]);have sm:=G.maps.1 m hm;have hpl:=sm.lt
 have hno:∀o∈dH ms m,eu o≠eu m:=by
  grind
 have hF:∀o∈dH ms m,upd f (eu m) 0 (eu o)=o.2.1+1:=by
  intro o ho;have so:=G.maps.1 o (sub.mem ho)
  have:=hno o ho
  simp only[upd,this,if_false]
  exact so.2.2.2.2.2.2
 refine⟨X3 ?_,⟨fun o ho=>?_,G.maps.2.sublist sub⟩,fun k hk h0=>?_,fun s h8 h0=>?_,fun s h8=>⟨?_,?_⟩⟩
 .intro i hi'
  have:=GN G.iP i hi'
  grind [upd]
 .have so:=G.maps.1 o (sub.mem ho)
  refine⟨so.1,so.2.1,so.2.2.1,so.2.2.2.1,so.2.2.2.2.1,?_,hF o ho⟩
  split
  .rename_i hz
   unfold upd
   split
   .rename_i e
    exfalso
    have:eu o∈fI (upd f (eu m) 0) m.2.1:=by
     rw[za]
     refine⟨so.lt,?_⟩
     rw[hF o ho]
     have:=so.2.1;have:=sm.2.1;omega
    grind
   .exact so.2.2.2.2.2.1
  .exact so.2.2.2.2.2.1
 .by_cases e:k=eu m
  .grind [upd]
  .obtain⟨x,hx,ex⟩:=G.own k hk (by simpa[upd,e] using h0)
   grind
 .have hh:h s≠0:=by
   grind [upd]
  obtain⟨x,hx,ex⟩:=G.home s h8 hh
  by_cases uE:x=m
  .subst uE
   split at h0
   .grind [upd]
   .rename_i hz
    obtain⟨n,hn⟩:=List.exists_mem_of_length_pos (Nat.pos_of_ne_zero hz)
    rw[za] at hn
    have sb:=sm.2.1
    have hnp:n≠eu x:=by
     grind [upd]
    (have hfn:f n=x.2.1+1:=by simpa[upd,hnp] using hn.2);obtain⟨y,hy,ey⟩:=G.own n hn.1 om
    grind
  grind
 .have h1:=qvr (f:=f) (n:=eu m) (s:=m.2.1) hpl sm.2.2.2.2.2.2 (s:Int) om sm.2.1.1
  have:=(G.few s h8).1
  omega
 .exact aw (sub.filter _).length_le (G.few s h8).2
def fW:Mp:=(0,0,0,0,0)
def wH(ms:List Mp)(p a q:Int):Bool:=ms.any (gj p a q)
def oC(n i:Nat):Int:=((1024+8*(n%6)+i:Nat):Int)
def zb(ms:List Mp)(p:Int)(n:Nat):Option Nat:=(aA 8).find? fun i=>!wH ms p ((n/6:Nat):Int) (oC n i)
def lR(ms:List Mp)(p:Int):List Nat->Option (Nat×Nat)
 | []=>none
 | n::r=>match zb ms p n with
  | some i=>some (n,i)
  | none=>lR ms p r
def qut{ms:List Mp}{p:Int}(h:lR ms p l=some (n,i)):n∈l/\i<8/\wH ms p ((n/6:Nat):Int) (oC n i)=false:=by
 induction l with
 | nil=>simp[lR] at h
 | cons x r ih=>
  unfold lR at h
  cases hx:zb ms p x with
  | none=>rw[hx] at h;obtain⟨h1,h2⟩:=ih h;exact⟨by simp[h1],h2⟩
  | some j=>
   rw[hx] at h
   simp only[Option.some.injEq,Prod.mk.injEq] at h
   obtain⟨rfl,rfl⟩:=h
   have h1:=List.find?_some hx;have h2:=List.mem_of_find?_eq_some hx
   exact⟨by simp,List.mem_range.1 h2,by simpa using h1⟩
theorem qru(hn:n<18)(hi:i<8):nP ((n/6:Nat):Int) (oC n i)=n:=by grind [nP,oC]
theorem q6j(hi:i<8):1024<=oC n i/\oC n i<1072:=by grind [oC]
theorem gM.at{ms:List Mp}(G:gM f h ms)(hs:0<=s/\s<8)(hn:n∈fI f s):h s.toNat=((n/6:Nat):Int)+1:=by
 rw[za] at hn
 obtain⟨m,hm,e⟩:=G.own n hn.1 om;have st:=G.maps.1 m hm;have e1:=st.2.2.2.2.2.2;have e2:nP m.2.2.2.1 m.2.2.2.2=n:=e
 rw[e2,hn.2] at e1
 have e3:=st.2.2.2.2.2.1;(have e4:m.2.1=s:=by omega)
 rw[e4] at e3
 rw[e3]
 have:=st.2.2.2.2.1
 have:=st.2.2.2.1
 grind [nP]
theorem gM.Aa{ms:List Mp}(G:gM f h ms)(hs:0<=s/\s<8):h s.toNat=0↔fI f s=[]:=by
 constructor
 .intro h0;rw[List.eq_nil_iff_forall_not_mem];intro n hn
  have:=G.at hs hn
  omega
 .intro hb
  by_cases h0:h s.toNat=0
  .omega
  .exfalso
   obtain⟨m,hm,e⟩:=G.home s.toNat om h0;have st:=G.maps.1 m hm
   have:eu m∈fI f s:=by
    rw[za]
    refine⟨st.lt,?_⟩
    have h1:=st.2.2.2.2.2.2;have h2:=st.2.1
    have:m.2.1=s:=by omega
    rw[←this];exact h1
   grind
def gM.mH{ms:List Mp}(G:gM f h ms)(hs:0<=s/\s<8):0<=h s.toNat/\h s.toNat<=3:=by
 by_cases h0:h s.toNat=0
 .omega
 .obtain⟨m,hm,e⟩:=G.home s.toNat om h0;have st:=G.maps.1 m hm;have h1:=st.2.2.2.2.2.1
  rw[e] at h1
  have:=st.2.2.2.2.1
  omega
def mz(f:Nat->Int)(g:Nat->Bool)(h:Nat->Int)(s d:Int):Int:=if h s.toNat=0 then nQ f g d else h s.toNat-1
def rC(f:Nat->Int)(g:Nat->Bool)(h:Nat->Int)(s:Int):Int:=if h s.toNat=0 then oJ f g else 0
structure P7 where
 f:Nat->Int
 h:Nat->Int
 q:Int
 took:Bool
 e:Int
def fg(f:Nat->Int)(g:Nat->Bool)(h:Nat->Int)(ms:List Mp)(p s d:Int):P7:=
 match lR ms p (fI f s) with
 | some x=>⟨f,h,oC x.1 x.2,false,0⟩
 | none=>
  if (fI f s).length=2 then⟨f,h,0,false,6⟩ else
  if rC f g h s=0 then
   (if iY f g s (mz f g h s d)=0 then⟨tR f g s (mz f g h s d) d,upd h s.toNat (mz f g h s d+1),1024+8*(oK f g s (mz f g h s d) d:Int),true,0⟩
   else⟨f,h,0,false,iY f g s (mz f g h s d)⟩)
  else⟨f,h,0,false,rC f g h s⟩
section
variable {f:Nat->Int} {g:Nat->Bool} {h:Nat->Int} {ms:List Mp} {p s d:Int}
theorem X4{x:Nat×Nat}(hu:lR ms p (fI f s)=some x):fg f g h ms p s d=⟨f,h,oC x.1 x.2,false,0⟩:=by unfold fg;rw[hu]
theorem X5(hu:lR ms p (fI f s)=none)(h1:(fI f s).length=2):fg f g h ms p s d=⟨f,h,0,false,6⟩:=by grind [lR,fI,fg]
theorem qrd(hu:lR ms p (fI f s)=none)(h1:(fI f s).length≠2)(h2:rC f g h s≠0):fg f g h ms p s d=⟨f,h,0,false,rC f g h s⟩:=by grind [lR,fI,rC,fg]
theorem X6(hu:lR ms p (fI f s)=none)(h1:(fI f s).length≠2)(h2:rC f g h s=0)(h3:iY f g s (mz f g h s d)≠0):fg f g h ms p s d=⟨f,h,0,false,iY f g s (mz f g h s d)⟩:=by grind [lR,fI,rC,iY,mz,fg]
theorem X7(hu:lR ms p (fI f s)=none)(h1:(fI f s).length≠2)(h2:rC f g h s=0)(h3:iY f g s (mz f g h s d)=0):fg f g h ms p s d=⟨tR f g s (mz f g h s d) d,upd h s.toNat (mz f g h s d+1),1024+8*(oK f g s (mz f g h s d) d:Int),true,0⟩:=by grind [lR,fI,rC,iY,mz,fg,tR,upd,oK]
end
def qya{ms:List Mp}{p i d:Int}(G:gM f h ms)(hp:uU p=true)(hs:0<=s/\s<8)(hi:0<=i/\i<=65535)(hf:ms.any (kf p s i)=false)(hc:bV ms s≠12)(he:(fg f g h ms p s d).e=0):
  let r:=fg f g h ms p s d
  let m:Mp:=(p,s,i,r.h s.toNat-1,r.q)
  gM r.f r.h (ms++[m])/\(r.took=false->r.f=f/\r.h=h/\ms.any (fun o=>eu o==eu m)=true)/\
   (r.took=true->r.f=upd f (eu m) (s+1)/\f (eu m)=0/\(∃a:Int,(0<=a/\a<3)/\g a.toNat=false/\r.h=upd h s.toNat (a+1)/\(h s.toNat=0\/h s.toNat=a+1))/\ms.any (fun o=>eu o==eu m)=false):=by
 intro r m
 cases hu:lR ms p (fI f s) with
 | some x=>
  obtain⟨n,j⟩:=x;have hr:r=⟨f,h,oC n j,false,0⟩:=X4 hu;obtain⟨hn,hj,wI⟩:=qut hu;have hat:=G.at hs hn
  rw[za] at hn
  (have hm:m=(p,s,i,((n/6:Nat):Int),oC n j):=by show(p,s,i,r.h s.toNat-1,r.q)=_;rw[hr];simp only[hat];rw[Int.add_sub_cancel]);(have P8:eu m=n:=by rw[hm];exact qru hn.1 hj)
  have hst:pD f h m:=by
   rw[hm]
   exact⟨hp,hs,hi,q6j hj,by show 0<=((n/6:Nat):Int)/\((n/6:Nat):Int)<3;omega,hat,by show f (nP _ _)=_;rw[qru hn.1 hj];exact hn.2⟩
  have Ab:rB ms m=false:=by
   rw[hm,X1];intro o ho;have h1:=jJ.1 hf o ho;have h2:=jJ.1 wI o ho
   simp only[rB,List.any_cons,List.any_nil,Bool.or_false]
   rw[ow.2 h1,ow.2 h2];rfl
  (have uF:m.2.1=s:=by rw[hm])
  refine⟨?_,fun _=>⟨by rw[hr],by rw[hr],?_⟩,fun ht=>?_⟩
  .rw[hr]
   exact q4h G hst Ab (by rw[uF];exact hc)
  .obtain⟨o,ho,e⟩:=G.own n hn.1 om;rw[P8]
   simp only[List.any_eq_true,beq_iff_eq]
   exact⟨o,ho,e⟩
  .rw[hr] at ht;simp at ht
 | none=>
  have I7:(fI f s).length≠2/\rC f g h s=0/\iY f g s (mz f g h s d)=0:=by
   by_cases h1:(fI f s).length=2
   .rw[X5 hu h1] at he;exact absurd he zm
   .by_cases h2:rC f g h s=0
    .by_cases h3:iY f g s (mz f g h s d)=0
     .exact⟨h1,h2,h3⟩
     .rw[X6 hu h1 h2 h3] at he;exact absurd he h3
    .rw[qrd hu h1 h2] at he;exact absurd he h2
  obtain⟨h1,h2,GP⟩:=I7;have hr:r=_:=X7 hu h1 h2 GP
  generalize hA:mz f g h s d=A at *
  obtain⟨_,ha,_,hg,oB⟩:=qtj GP
  (have hK:oK f g s A d=o7 (fD (aX f A.toNat)) d:=by unfold oK;rw[aZ GP]);have Ob:=P9 _ _ (Qa (fD (aX f A.toNat)) d oB)
  rw[←hK] at Ob
  (have hF:tR f g s A d=upd f (6*A.toNat+oK f g s A d) (s+1):=by unfold tR;rw[aZ GP])
  generalize oK f g s A d=K at *
  (have hm:m=(p,s,i,A,1024+8*(K:Int)):=by show(p,s,i,r.h s.toNat-1,r.q)=_;rw[hr];simp only[upd,if_true];rw[Int.add_sub_cancel]);(have P8:eu m=6*A.toNat+K:=by rw[hm];show nP A (1024+8*(K:Int))=_;unfold nP;omega);(have h0:f (eu m)=0:=by rw[P8];exact Ob.2);(have uF:m.2.1=s:=by rw[hm]);(have X8:m.2.2.2.1=A:=by rw[hm])
  have hh:h s.toNat=0\/h s.toNat=A+1:=by
   by_cases h0:h s.toNat=0
   .exact .inl h0
   .right;unfold mz at hA;rw[aT h0] at hA;omega
  have hb:(fI f s).length<2:=by
   have:=(G.few s.toNat om).1
   rw[Int.toNat_of_nonneg hs.1] at this
   omega
  refine⟨?_,fun ht=>?_,fun _=>⟨?_,h0,⟨A,ha,hg,by rw[hr],hh⟩,?_⟩⟩
  .have:=q1f (m:=m) G h0 (by rw[hm];exact hp) (by rw[uF];exact hs) (by rw[hm];exact hi) (by rw[hm];show 1024<=1024+8*(K:Int)/\1024+8*(K:Int)<1072;omega) (by rw[X8];exact ha) (by rw[uF,X8];exact hh) (by rw[hm];exact hf) (by rw[uF];exact hc) (by rw[uF];exact hb)
   rw[uF,X8,P8] at this
   rw[hr,hF]
   exact this
  .rw[hr] at ht;simp at ht
  .rw[hr,P8,hF]
  .rw[jJ];intro o ho hx;(have e:eu o=eu m:=by simpa using hx);have st:=G.maps.1 o ho
   have:=st.2.2.2.2.2.2
   have e':nP o.2.2.2.1 o.2.2.2.2=eu m:=e
   rw[e',h0] at this
   have:=st.2.1
   omega
def jn(m:Mp):List ag:=[I Z m.1,I Z m.2.1,I Z m.2.2.1,I Z m.2.2.2.1,I Z m.2.2.2.2]
def mc(m:Mp):Array ag:=#[I Z m.1,I Z m.2.1,I Z m.2.2.1,I Z m.2.2.2.1,I Z m.2.2.2.2]
def kF(h:Nat->Int):List Value:=[I Z (h 0),I Z (h 1),I Z (h 2),I Z (h 3),I Z (h 4),I Z (h 5),I Z (h 6),I Z (h 7)]
def X9(n:Nat)(f:Nat->Int)(g:Nat->Bool)(h:Nat->Int)(sl:ag):Array ag:=if _:n=0 then pc f g++(kF h).toArray++#[sl] else X9 (n/2) f g h sl
def tc(f:Nat->Int)(g:Nat->Bool)(h:Nat->Int)(sl:ag):Array ag:=X9 0 f g h sl
theorem Qb(f:Nat->Int)(g:Nat->Bool)(h:Nat->Int)(sl:ag):tc f g h sl=pc f g++(kF h).toArray++#[sl]:=by unfold tc X9;rfl
theorem ze(f:Nat->Int)(g:Nat->Bool)(h:Nat->Int)(sl:ag):(tc f g h sl).size=30:=by kernel_rfl
def I9(f:Nat->Int)(g:Nat->Bool)(h:Nat->Int)(sl:ag)(k:Nat)(hk:k<18):(tc f g h sl)[k]?=some (I Z (f k)):=by
 rw[Qb];rw[bY (by simp[Ae,kF];omega),bY (by rw[Ae];omega)];exact q1x f g k hk
def Af(f:Nat->Int)(g:Nat->Bool)(h:Nat->Int)(sl:ag)(k:Nat)(hk:k<8):(tc f g h sl)[21+k]?=some (I Z (h k)):=by
 rcases(show k=0\/k=1\/k=2\/k=3\/k=4\/k=5\/k=6\/k=7 by omega) with rfl|rfl|rfl|rfl|rfl|rfl|rfl|rfl<;>kernel_rfl
def ma(f:Nat->Int)(g:Nat->Bool)(h:Nat->Int)(sl:ag):(tc f g h sl)[29]?=some sl:=by kernel_rfl
theorem q9h(f:Nat->Int)(g:Nat->Bool)(h:Nat->Int)(sl:ag)(n:Nat)(x:Int)(hn:n<18):(tc f g h sl).setIfInBounds n (I Z x)=tc (upd f n x) g h sl:=by
 rcases(show n=0\/n=1\/n=2\/n=3\/n=4\/n=5\/n=6\/n=7\/n=8\/n=9\/n=10\/n=11\/n=12\/n=13\/n=14\/n=15\/n=16\/n=17 by omega) with rfl|rfl|rfl|rfl|rfl|rfl|rfl|rfl|rfl|rfl|rfl|rfl|rfl|rfl|rfl|rfl|rfl|rfl<;>kernel_rfl
theorem Oc(f:Nat->Int)(g:Nat->Bool)(h:Nat->Int)(sl:ag)(n:Nat)(x:Int)(hn:n<8):(tc f g h sl).setIfInBounds (21+n) (I Z x)=tc f g (upd h n x) sl:=by
 rcases(show n=0\/n=1\/n=2\/n=3\/n=4\/n=5\/n=6\/n=7 by omega) with rfl|rfl|rfl|rfl|rfl|rfl|rfl|rfl<;>kernel_rfl
theorem Qc(f:Nat->Int)(g:Nat->Bool)(h:Nat->Int)(sl s2:ag):(tc f g h sl).setIfInBounds 29 s2=tc f g h s2:=by kernel_rfl
def oD(f:Nat->Int)(g:Nat->Bool)(h:Nat->Int)(sl:ag):(ah.info? 42).map (·.size)=some (tc f g h sl).size:=by kernel_rfl
def lS(m:Mp):(ah.info? 72).map (·.size)=some (mc m).size:=by kernel_rfl
def xR(m:Mp):(ah.info? 72).map (·.size)=some (jn m).length:=by kernel_rfl
def Ja(m:Mp):(mc m).all (·.oneCell')=true:=by kernel_rfl
def zf(f:Nat->Int)(g:Nat->Bool)(h:Nat->Int)(a:Option Addr)(n c:Nat):(tc f g h (.slice a n c)).all (·.oneCell')=true:=by kernel_rfl
theorem Ag(m:Mp):(jn m).toArray=mc m:=rfl
def uW(w:af):(eM 72).run ah w=.ok (.agg (mc fW)) w:=by kernel_rfl
def zg(w:af):(eM 42).run ah w=.ok (.agg (tc (fun _=>0) (fun _=>false) (fun _=>0) (.slice none 0 0))) w:=by kernel_rfl
def mb:ag->Nat
 | .slice (some a) _ _=>a.block
 | _=>0
def mo:ag->Nat
 | .slice (some a) _ _=>a.off
 | _=>0
def cE(w:af)(sl:ag)(ms:List Mp):Prop:=
 ∃a cap,sl=.slice a ms.length cap/\(0<ms.length->a=some ⟨mb sl,mo sl,none⟩)/\(∀j (hj:j<ms.length),w.rangeAt (mb sl) (mo sl+5*j) (jn ms[j]))/\ms.length<=140737488355328/\∃c2,sl=.slice a ms.length c2/\ms.length<=c2
theorem cE.nil(w:af):cE w (.slice none 0 0) []:=by grind [cE]
def cE.keep{sl:ag}{ms:List Mp}{B:Nat}(h:cE w sl ms)(hb:aq B w w')(hlt:0<ms.length->mb sl<B):cE w' sl ms:=by
 obtain⟨a,cap,e,h1,h2,h3⟩:=h
 refine⟨a,cap,e,h1,fun j hj i v hv=>?_,h3⟩
 have:=h2 j hj i v hv
 unfold World.cell? at *
 rw[hb.block _ (hlt om)]
 exact this
theorem Ya{f:Nat}(h:w.cell? ⟨c,f,none⟩=some v):∃cs t m,w.heap[c]?=some (.cells cs t m):=by unfold World.cell? at h;grind
def cE.lt{sl:ag}{ms:List Mp}(h:cE w sl ms)(hl:0<ms.length):mb sl<w.heap.size:=by
 obtain⟨a,cap,e,h1,h2,h3⟩:=h
 have:=h2 0 hl 0 _ rfl
 exact World.block_lt_of_cell? _ _ this
theorem cE.at{sl:ag}{ms:List Mp}(h:cE w sl ms)(j:Nat)(hj:j<ms.length){m:Mp}(hm:ms[j]=m):w.rangeAt (mb sl) (mo sl+5*j) (jn m):=by grind [cE,jn]
theorem cE.len{sl:ag}{ms:List Mp}(h:cE w sl ms):ms.length<=140737488355328:=by grind [cE]
theorem cE.cap{a:Option Addr}{ms:List Mp}(h:cE w (.slice a n c) ms):n=ms.length/\n<=c:=by grind [cE]
theorem cE.take{a:Option Addr}{ms:List Mp}(h:cE w (.slice a n c) ms)(j:Nat)(hj:j<=ms.length):cE w (.slice a j c) (ms.take j):=by
 have hc:=h.cap;obtain⟨a',cap,e,h1,h2,h3,c2,e2,h4⟩:=h
 injection e with e3 e4 e5
 subst e3
 (have hl:(ms.take j).length=j:=by rw[List.length_take];omega);(have wJ:mb (.slice a j c)=mb (.slice a n c):=by cases a<;>rfl);(have GQ:mo (.slice a j c)=mo (.slice a n c):=by cases a<;>rfl)
 grind [cE]
def qga(h:j<n)(hn:n<=140737488355328):wrap64 ((j:Int)+1)=(j:Int)+1:=by unfold wrap64;omega
def cE.below{sl:ag}{ms:List Mp}(h:cE w sl ms)(hb:aq w.heap.size w w'):cE w' sl ms:=h.keep hb h.lt
def qU{ops:Array Oper}{rest:List Oper}{o:Oper}{a:Act}{Q:Exit->Act->af->Prop}(hgd:o.guard=none)(x y:Operand)(ho:o.op=.indexAddr 40 x y)(sl:ag)(ms:List Mp)(hM:cE w sl ms)(hx:a.eval x=sl)(j:Nat)(hy:a.eval y=I Z (j:Int))(hj:j<ms.length)(hr:wpList ah ops Q rest (a.put o.dst (V (some ⟨mb sl,mo sl+5*j,none⟩))) w):wpList ah ops Q (o::rest) a w:=
 wpList_plain hgd fun K hK=>by
  obtain⟨a0,cap,e,h1,h2,h3⟩:=hM;have e1:=h1 om
  generalize mb sl=B at *
  generalize mo sl=O at *
  subst e1
  subst e
  (have hn:((j:Int)).toNat<ms.length:=by simpa using hj);(have iu:(j:Int)<(ms.length:Int):=by omega);(have hs:(sizeOf 72).run ah w=.ok 5 w:=by kernel_rfl)
  have hrun:(Instr.indexAt 40 (.slice (some ⟨B,O,none⟩) ms.length cap) (I Z (j:Int))).run ah w=.ok (V (some ⟨B,O+5*j,none⟩)) w:=by
   simp[go_sem,hj,hn,iu,underlying40,hs]
  unfold Oper.wp execOp
  simp only[ho,hx,hy,Sem.run_bind,hrun,Result.andThen_ok,Sem.run_pure]
  exact hK _ _ hr
def Yb(a b c x y z:Int)(w:af):(lM 10000 212 (.agg #[I Z a,I Z b,I Z c]) (.agg #[I Z x,I Z y,I Z z])).run ah w=.ok (a==x&&b==y&&c==z) w:=by
 rw[show(10000:Nat)=9999+1 from rfl,ke w 9999 212 _ _ kr kr]
 by_cases h1:a=x<;>by_cases h2:b=y<;>by_cases h3:c=z<;>simp[go_sem,h1,h2,h3,underlying212]
def Yc(a b c x y z:Int)(w:af):(lM 10000 125 (.agg #[I Z a,I Z b,I Z c]) (.agg #[I Z x,I Z y,I Z z])).run ah w=.ok (a==x&&b==y&&c==z) w:=by
 rw[show(10000:Nat)=9999+1 from rfl,ke w 9999 125 _ _ kr kr]
 by_cases h1:a=x<;>by_cases h2:b=y<;>by_cases h3:c=z<;>simp[go_sem,h1,h2,h3,underlying125]
def quq(a b x y:Int)(w:af):(lM 10000 177 (.agg #[I Z a,I Z b]) (.agg #[I Z x,I Z y])).run ah w=.ok (a==x&&b==y) w:=by
 rw[show(10000:Nat)=9999+1 from rfl,ke w 9999 177 _ _ kr kr]
 by_cases h1:a=x<;>by_cases h2:b=y<;>simp[go_sem,h1,h2,underlying177]
def Od(m o:Mp)(w:af):(lM 10000 72 (.agg (mc m)) (.agg (mc o))).run ah w=.ok (m==o) w:=by
 obtain⟨a,b,c,d,e⟩:=m;obtain⟨x,y,z,u,v⟩:=o;rw[show(10000:Nat)=9999+1 from rfl,ke w 9999 72 _ _ kr kr];have hb:(((a,b,c,d,e):Mp)==(x,y,z,u,v))=(a==x&&(b==y&&(c==z&&(d==u&&e==v)))):=rfl;rw[hb]
 unfold mc
 by_cases h1:a=x<;>by_cases h2:b=y<;>by_cases h3:c=z<;>by_cases h4:d=u<;>by_cases h5:e=v<;>simp[go_sem,h1,h2,h3,h4,h5,underlying72]
def Yd(k:Int)(h0:0<=k)(h1:k<=6)(w:af):az ah 160 #[I Z k] w fun e w'=>e=.returned (I Z (1024+k*8))/\w'=w:=by
 go_enter func160,ntmps160
 go_wp2
 go_ret
 exact⟨rfl,rfl⟩
def uX(q:Int):ag:=if 1024<=q/\q<1072 then .tuple #[I Z ((q-1024)/8),I Z ((q-1024)%8),.bool true] else .tuple #[I Z 0,I Z 0,.bool false]
def Ah(h:p:=by
 go_enter func98,ntmps98
 go_wp2_with (go_at_call 160;go_fit (C _);refine gy ?_)
 go_ret3
 exact⟨by rw[HS.out];rfl,rfl⟩):p:=h
def qs4(q:Int)(w:af):az ah 98 #[I Z q] w fun e w'=>e=.returned (uX q)/\w'=w:=by
 (have C:=fun w=>Yd 6 om om w)
 by_cases h0:1024<=q
 .by_cases h1:q<1072
  .have HS:aK (uX q=_):=aZ ⟨h0,h1⟩;(have e1:bK (q-1024)=q-1024:=by unfold bK;omega);have e2:(q-1024).tdiv 8=(q-1024)/8:=Int.tdiv_eq_ediv_of_nonneg om;have e3:(q-1024).tmod 8=(q-1024)%8:=Int.tmod_eq_emod_of_nonneg om;(have e4:bK ((q-1024)/8)=(q-1024)/8:=by unfold bK;omega);(have gY:q<1024+6*8:=by omega)
   exact Ah
  .have HS:aK (uX q=_):=aT (fun h=>h1 h.2);(have gY:1024+6*8<=q:=by omega)
   exact Ah
 .have HS:aK (uX q=_):=aT (fun h=>h0 h.1)
  go_enter func98,ntmps98
  go_wp2
  go_ret3
  exact⟨by rw[HS.out];rfl,rfl⟩
def rD(h:p:=by
 go_enter func136,ntmps136
 go_wp2
 go_ret
 exact⟨by rw[HS.out];rfl,rfl⟩):p:=h
def qfh(p:Int)(w:af):az ah 136 #[I Z p] w fun e w'=>e=.returned (.bool (uU p))/\w'=w:=by
 by_cases h1:p=1
 .have HS:aK (uU p=true):=(P6 p).2 (.inl h1);(have e1:(p==1)=true:=by simp[h1]);clear h1
  exact rD
 ·(have e1:(p==1)=false:=by simp[h1])
  by_cases h6:p=6
  .have HS:aK (uU p=true):=(P6 p).2 (.inr (.inl h6));(have e6:(p==6)=true:=by simp[h6]);clear h1 h6
   exact rD
  ·(have e6:(p==6)=false:=by simp[h6])
   by_cases qg:p=17
   .have HS:aK (uU p=true):=(P6 p).2 (.inr (.inr qg));(have iD:(p==17)=true:=by simp[qg]);clear h1 h6 qg
    exact rD
   .have HS:aK (uU p=false):=by
     show _=_
     rw[ow];intro h;rcases(P6 p).1 h with h|h|h<;>contradiction
    (have iD:(p==17)=false:=by simp[qg]);clear h1 h6 qg
    exact rD
def rE(h:p:=by
 go_ret
 exact⟨by simp[h0,h1],rfl⟩):p:=h
def qig(s:Int)(w:af):az ah 137 #[I Z s] w fun e w'=>e=.returned (.bool (decide (0<=s)&&decide (s<8)))/\w'=w:=by
 go_enter func137,ntmps137
 by_cases h0:0<=s
 .by_cases h1:s<8
  .go_wp2
   exact rE
  .go_wp2
   exact rE
 .go_wp2
  go_ret
  exact⟨by rw[decide_eq_false (show ¬0<=s by omega)];rfl,rfl⟩
def qhe(s:Int)(w:af):az ah 138 #[I Z s] w fun e w'=>e=.returned (.bool (decide (0<=s)&&decide (s<=65535)))/\w'=w:=by
 go_enter func138,ntmps138
 by_cases h0:0<=s
 .by_cases h1:s<=65535
  .go_wp2
   exact rE
  .go_wp2
   exact rE
 .go_wp2
  go_ret
  exact⟨by rw[decide_eq_false (show ¬0<=s by omega)];rfl,rfl⟩
section
variable {w:World} {b:Nat} {m:Mp}
def m0(h:aP 72 w b (mc m)):w.cell? ⟨b,0,none⟩=some (I Z m.1):=h.cell 0
theorem m1(h:aP 72 w b (mc m)):w.cell? ⟨b,1,none⟩=some (I Z m.2.1):=h.cell 1
theorem m2(h:aP 72 w b (mc m)):w.cell? ⟨b,2,none⟩=some (I Z m.2.2.1):=h.cell 2
theorem m3(h:aP 72 w b (mc m)):w.cell? ⟨b,3,none⟩=some (I Z m.2.2.2.1):=h.cell 3
def m4(h:aP 72 w b (mc m)):w.cell? ⟨b,4,none⟩=some (I Z m.2.2.2.2):=h.cell 4
end
def sY(a b c:Int):Array ag:=#[I Z a,I Z b,I Z c]
def mJ(a b:Int):Array ag:=#[I Z a,I Z b]
def q0p(w:af):(eM 212).run ah w=.ok (.agg (sY 0 0 0)) w:=by kernel_rfl
def qzc(w:af):(eM 125).run ah w=.ok (.agg (sY 0 0 0)) w:=by kernel_rfl
def Oe(w:af):(eM 177).run ah w=.ok (.agg (mJ 0 0)) w:=by kernel_rfl
def Ye(m:Mp)(w:af):az ah 187 #[.agg (mc m)] w fun e w'=>e=.returned (.agg (sY m.1 m.2.1 m.2.2.1))/\aq w.heap.size w w':=by
 refine gP ?_;intro hB
 go_enter func187,ntmps187
 go_wp2_with (first|(refine bx 72 _ _ ?_;intro b1 w1 l1 R1 hb1;replace l1:=aw hB.size l1;have c0:=m0 R1;have c1:=m1 R1;have c2:=m2 R1;refine kZ ?_;clear hB;intro hB)|(refine ay 212 q0p ?_;intro b2 w2 l2 R2 hb2;replace l2:=aw hB.size l2;replace R1:=R1.below hb2;replace c0:=m0 R1;replace c1:=m1 R1;replace c2:=m2 R1;replace hB:=hB.trans (hb2.mono hB.size))|(refine sx (sY m.1 m.2.1 m.2.2.1) R2 ?_;intro w3 R3 t3;replace hB:=t3.below _ _ l2 hB))
 refine aL (mW rfl _ _ _ _ rfl R3 _ underlying212 rfl kr) rfl ⟨rfl,hB⟩
def Yf(m:Mp)(w:af):az ah 77 #[.agg (mc m)] w fun e w'=>e=.returned (.agg (sY m.1 m.2.2.2.1 m.2.2.2.2))/\aq w.heap.size w w':=by
 refine gP ?_;intro hB
 go_enter func77,ntmps77
 go_wp2_with (first|(refine bx 72 _ _ ?_;intro b1 w1 l1 R1 hb1;replace l1:=aw hB.size l1;have c0:=m0 R1;have c3:=m3 R1;have c4:=m4 R1;refine kZ ?_;clear hB;intro hB)|(refine ay 125 qzc ?_;intro b2 w2 l2 R2 hb2;replace l2:=aw hB.size l2;replace R1:=R1.below hb2;replace c0:=m0 R1;replace c3:=m3 R1;replace c4:=m4 R1;replace hB:=hB.trans (hb2.mono hB.size))|(refine sx (sY m.1 m.2.2.2.1 m.2.2.2.2) R2 ?_;intro w3 R3 t3;replace hB:=t3.below _ _ l2 hB))
 refine aL (mW rfl _ _ _ _ rfl R3 _ underlying125 rfl kr) rfl ⟨rfl,hB⟩
def rF(m:Mp):Bool:=decide ((1024<=m.2.2.2.2/\m.2.2.2.2<1072)/\0<=m.2.2.2.1/\m.2.2.2.1<3)
def mX(m:Mp):Int:=if rF m=true then m.2.2.2.1 else 0
def mY(m:Mp):Int:=if rF m=true then(m.2.2.2.2-1024)/8 else 0
def Ai(h:p:=by
 go_enter func156,ntmps156
 go_wp2_with (first|(refine bx 72 _ _ ?_;intro b1 w1 l1 R1 hb1;replace l1:=Nat.le_trans hB.size l1;have c3:=m3 R1;have c4:=m4 R1;refine kZ ?_;clear hB;intro hB)|(refine ay 177 Oe ?_;intro b2 w2 l2 R2 hb2;replace l2:=Nat.le_trans hB.size l2;replace R1:=R1.below hb2;replace c3:=m3 R1;replace c4:=m4 R1;replace hB:=hB.trans (hb2.mono hB.size))|(go_at_call 98;go_fit (C _);refine gy ?_)|(refine sx (mJ 0 0) R2 ?_;intro w3 R3 t3;replace hB:=t3.below _ _ l2 hB)|(refine sx (mJ m.2.2.2.1 ((m.2.2.2.2-1024)/8)) R2 ?_;intro w3 R3 t3;replace hB:=t3.below _ _ l2 hB))
 refine bodyPost_ret (uD rfl _ _ _ _ rfl R3 _ underlying177 rfl kr) rfl ⟨?_,hB⟩
 rw[hI.out,hA.out,hQ.out];rfl):p:=h
def uY(h:p:=by
 have hA:Hid (mX m=0):=aT (by rw[hI.out];simp);have hQ:Hid (mY m=0):=aT (by rw[hI.out];simp)
 exact Ai):p:=h
def UU(m:Mp)(w:af):az ah 156 #[.agg (mc m)] w fun e w'=>e=.returned (.tuple #[.agg (mJ (mX m) (mY m)),.bool (rF m)])/\aq w.heap.size w w':=by
 refine gP ?_;intro hB;(have C:=fun w=>qs4 m.2.2.2.2 w)
 by_cases hq:1024<=m.2.2.2.2/\m.2.2.2.2<1072
 .have HS:uX m.2.2.2.2=_:=aZ hq
  rw[HS] at C
  by_cases ha:0<=m.2.2.2.1
  .by_cases hb:m.2.2.2.1<3
   .have hI:aK (rF m=true):=decide_eq_true ⟨hq,ha,hb⟩;have hA:aK (mX m=m.2.2.2.1):=aZ hI.out;have hQ:aK (mY m=(m.2.2.2.2-1024)/8):=aZ hI.out
    exact Ai
   .have hI:aK (rF m=false):=decide_eq_false (fun h=>hb h.2.2)
    exact uY
  .have hI:aK (rF m=false):=decide_eq_false (fun h=>ha h.2.1)
   exact uY
 .have HS:uX m.2.2.2.2=_:=aT hq
  rw[HS] at C
  have hI:aK (rF m=false):=decide_eq_false (fun h=>hq h.1)
  exact uY
def sZ:Option Mp->ag
 | some m=>.tuple #[.agg (mc m),.bool true]
 | none=>.tuple #[.agg (mc fW),.bool false]
def Aj(h:j<n):n-((j:Int)+1).toNat<n-((j:Int)).toNat:=by omega
theorem Og{ms:List Mp}{m:Mp}(cz:j<ms.length)(hm:ms[j]=m):ms.take (j+1)=ms.take j++[m]:=by
 rw[List.take_succ_eq_append_getElem cz,hm]
def UW{q:Mp->Bool}{ms:List Mp}{m:Mp}(hno:(ms.take j).find? q=none)(cz:j<ms.length)(hm:ms[j]=m)(hq:q m=false):(ms.take (j+1)).find? q=none:=by
 rw[Og cz hm,List.find?_append,hno];simp[List.find?,hq]
theorem UX{q:Mp->Bool}{ms:List Mp}{m:Mp}(hno:(ms.take j).find? q=none)(cz:j<ms.length)(hm:ms[j]=m)(hq:q m=true):ms.find? q=some m:=by
 (have e:ms=ms.take j++m::ms.drop (j+1):=by rw[←hm,List.getElem_cons_drop,List.take_append_drop])
 grind
def Ak(h:p:=by
 (have mA:(n:Int)<=(j:Int):=by have:=HN.out;omega);clear e hno hj cz
 go_wp2_with ((refine qT 72 rfl _ _ rfl b8 rfl (mc fW) rfl _ R8 rfl (lS fW) (Ja fW) ?_;intro w6 R8 t6;replace hB:=t6.below _ _ l8 hB))
 (refine bodyPost_ret (uD rfl _ _ _ _ rfl R8 _ underlying72 rfl (lS _)) rfl ⟨?_,hB⟩)
 rw[HF.out];rfl):p:=h
def Al(h:p:=by
 go_roundw
 case rel=>exact⟨j+1,by omega,by go_num,HF.out,hB,R8⟩
 case measure=>rw[fU];exact Aj (HN.out.symm▸cz)):p:=h
def qlo(f:Nat->Int)(g:Nat->Bool)(h:Nat->Int)(sl:ag)(ms:List Mp)(x y z:Int)(w:af)(hM:cE w sl ms):
  az ah 139 #[.agg (tc f g h sl),I Z x,I Z y,I Z z] w fun e w'=>e=.returned (sZ (ms.find? (kf x y z)))/\aq w.heap.size w w':=by
 refine gP ?_;intro hB;have fh:=hM
 obtain⟨a0,cap,dB,-⟩:=fh
 obtain⟨n,hn⟩:∃n,n=ms.length:=⟨_,rfl⟩
 rw[←hn] at dB
 subst dB
 refine xS ?_;clear hn;intro HN hlt
 go_enter func139,ntmps139
 go_wp2_with (first|(refine Jb ?_;clear hB;intro bT w1 RT hb1 lT hB)|(refine GR ?_;intro b8 w2 l8 R8 hb2;replace l8:=aw hB.size l8;replace RT:=RT.below hb2;have n8:=RT.ne (au _);clear n8;refine Yg ?_;clear hB;intro hB cM))
 go_loopw [15] (fun i W=>∃j:Nat,j<=ms.length/\i=I Z j/\(ms.take j).find? (kf x y z)=none/\aq w.heap.size w W/\aP 72 W b8 (mc fW)) (fun i _=>n-(cY i).toNat)
 case atStart=>exact⟨0,by omega,rfl,by simp,hB,R8⟩
 case round=>
  clear hB R8 cM RT hb1
  obtain⟨j,hj,rfl,hno,hB,R8⟩:=hrel
  by_cases cz:j<ms.length
  .refine E0 ?_;intro mA fU
   obtain⟨m,hm⟩:∃m,ms[j]=m:=⟨_,rfl⟩
   refine Jc ?_;intro iv hrg;(have C:=fun w=>Ye m w)
   by_cases dR:kf x y z m=true
   .have HF:aK (ms.find? (kf x y z)=some m):=UX hno cz hm dR
    go_wp2_with (first|(refine qU rfl (.tmp 13) (.tmp 15) rfl (.slice a0 n cap) ms iv rfl j rfl cz ?_)|(refine wK ?_)|(refine UY ?_;clear R8 hB;intro ja w3 cQ hb3 n8 mZ R8 hB)|(refine UZ ?_;clear R8 hB;intro w4 cQ t4 R8 hB)|(refine qT 72 rfl _ _ rfl b8 rfl (mc m) rfl _ R8 rfl (lS m) (Ja m) ?_;intro w6 R8 t6;replace hB:=t6.below _ _ l8 hB)|(refine qf 72 _ rfl rfl _ rfl (mc m) cQ _ underlying72 rfl (lS m) ?_)|(go_at_call 187;go_fit (C _);rintro e w5 ⟨rfl,bh⟩;replace R8:=R8.below bh;replace cQ:=cQ.below bh;refine gl ?_;clear hB;intro hB)|(refine zX 212 _ _ rfl rfl (sY m.1 m.2.1 m.2.2.1) (sY x y z) rfl rfl eqGuardType212 _ _ (Yb _ _ _ _ _ _ _) dR ?_))
    (refine aL (uD rfl _ _ _ _ rfl R8 _ underlying72 rfl (lS _)) rfl ⟨?_,hB⟩)
    rw[HF.out];rfl
   ·(have lr:kf x y z m=false:=by simpa using dR);have HF:aK ((ms.take (j+1)).find? (kf x y z)=none):=UW hno cz hm lr;clear dR
    go_wp2_with (first|(refine qU rfl (.tmp 13) (.tmp 15) rfl (.slice a0 n cap) ms iv rfl j rfl cz ?_)|(refine wK ?_)|(refine UY ?_;clear R8 hB;intro ja w3 cQ hb3 n8 mZ R8 hB)|(refine UZ ?_;clear R8 hB;intro w4 cQ t4 R8 hB)|(refine qf 72 _ rfl rfl _ rfl (mc m) cQ _ underlying72 rfl (lS m) ?_)|(go_at_call 187;go_fit (C _);rintro e w5 ⟨rfl,bh⟩;replace R8:=R8.below bh;replace cQ:=cQ.below bh;refine gl ?_;clear hB;intro hB)|(refine zX 212 _ _ rfl rfl (sY m.1 m.2.1 m.2.2.1) (sY x y z) rfl rfl eqGuardType212 _ _ (Yb _ _ _ _ _ _ _) lr ?_))
    exact Al
  ·(have e:j=ms.length:=by omega)
   have HF:aK (ms.find? (kf x y z)=none):=by
    show _=_
    rw[e,bn] at hno;exact hno
   exact Ak
def qqr(f:Nat->Int)(g:Nat->Bool)(h:Nat->Int)(sl:ag)(ms:List Mp)(x y z:Int)(w:af)(hM:cE w sl ms):
  az ah 38 #[.agg (tc f g h sl),I Z x,I Z y,I Z z] w fun e w'=>e=.returned (sZ (ms.find? (gj x y z)))/\aq w.heap.size w w':=by
 refine gP ?_;intro hB;have fh:=hM
 obtain⟨a0,cap,dB,-⟩:=fh
 obtain⟨n,hn⟩:∃n,n=ms.length:=⟨_,rfl⟩
 rw[←hn] at dB
 subst dB
 refine xS ?_;clear hn;intro HN hlt
 go_enter func38,ntmps38
 go_wp2_with (first|(refine Jb ?_;clear hB;intro bT w1 RT hb1 lT hB)|(refine GR ?_;intro b8 w2 l8 R8 hb2;replace l8:=aw hB.size l8;replace RT:=RT.below hb2;have n8:=RT.ne (au _);clear n8;refine Yg ?_;clear hB;intro hB cM))
 go_loopw [15] (fun i W=>∃j:Nat,j<=ms.length/\i=I Z j/\(ms.take j).find? (gj x y z)=none/\aq w.heap.size w W/\aP 72 W b8 (mc fW)) (fun i _=>n-(cY i).toNat)
 case atStart=>exact⟨0,by omega,rfl,by simp,hB,R8⟩
 case round=>
  clear hB R8 cM RT hb1
  obtain⟨j,hj,rfl,hno,hB,R8⟩:=hrel
  by_cases cz:j<ms.length
  .refine E0 ?_;intro mA fU
   obtain⟨m,hm⟩:∃m,ms[j]=m:=⟨_,rfl⟩
   refine Jc ?_;intro iv hrg;(have C:=fun w=>Yf m w)
   by_cases dR:gj x y z m=true
   .have HF:aK (ms.find? (gj x y z)=some m):=UX hno cz hm dR
    go_wp2_with (first|(refine qU rfl (.tmp 13) (.tmp 15) rfl (.slice a0 n cap) ms iv rfl j rfl cz ?_)|(refine wK ?_)|(refine UY ?_;clear R8 hB;intro ja w3 cQ hb3 n8 mZ R8 hB)|(refine UZ ?_;clear R8 hB;intro w4 cQ t4 R8 hB)|(refine qT 72 rfl _ _ rfl b8 rfl (mc m) rfl _ R8 rfl (lS m) (Ja m) ?_;intro w6 R8 t6;replace hB:=t6.below _ _ l8 hB)|(refine qf 72 _ rfl rfl _ rfl (mc m) cQ _ underlying72 rfl (lS m) ?_)|(go_at_call 77;go_fit (C _);rintro e w5 ⟨rfl,bh⟩;replace R8:=R8.below bh;replace cQ:=cQ.below bh;refine gl ?_;clear hB;intro hB)|(refine zX 125 _ _ rfl rfl (sY m.1 m.2.2.2.1 m.2.2.2.2) (sY x y z) rfl rfl eqGuardType125 _ _ (Yc _ _ _ _ _ _ _) dR ?_))
    (refine aL (uD rfl _ _ _ _ rfl R8 _ underlying72 rfl (lS _)) rfl ⟨?_,hB⟩)
    rw[HF.out];rfl
   ·(have lr:gj x y z m=false:=by simpa using dR);have HF:aK ((ms.take (j+1)).find? (gj x y z)=none):=UW hno cz hm lr;clear dR
    go_wp2_with (first|(refine qU rfl (.tmp 13) (.tmp 15) rfl (.slice a0 n cap) ms iv rfl j rfl cz ?_)|(refine wK ?_)|(refine UY ?_;clear R8 hB;intro ja w3 cQ hb3 n8 mZ R8 hB)|(refine UZ ?_;clear R8 hB;intro w4 cQ t4 R8 hB)|(refine qf 72 _ rfl rfl _ rfl (mc m) cQ _ underlying72 rfl (lS m) ?_)|(go_at_call 77;go_fit (C _);rintro e w5 ⟨rfl,bh⟩;replace R8:=R8.below bh;replace cQ:=cQ.below bh;refine gl ?_;clear hB;intro hB)|(refine zX 125 _ _ rfl rfl (sY m.1 m.2.2.2.1 m.2.2.2.2) (sY x y z) rfl rfl eqGuardType125 _ _ (Yc _ _ _ _ _ _ _) lr ?_))
    exact Al
  ·(have e:j=ms.length:=by omega)
   have HF:aK (ms.find? (gj x y z)=none):=by
    show _=_
    rw[e,bn] at hno;exact hno
   exact Ak
def Jd(f:Nat->Int):List ag:=[I Z (f 0),I Z (f 1),I Z (f 2),I Z (f 3),I Z (f 4),I Z (f 5),I Z (f 6),I Z (f 7),I Z (f 8),I Z (f 9),I Z (f 10),I Z (f 11),I Z (f 12),I Z (f 13),I Z (f 14),I Z (f 15),I Z (f 16),I Z (f 17)]
def oc(f:Nat->Int):Array ag:=#[I Z (f 0),I Z (f 1),I Z (f 2),I Z (f 3),I Z (f 4),I Z (f 5),I Z (f 6),I Z (f 7),I Z (f 8),I Z (f 9),I Z (f 10),I Z (f 11),I Z (f 12),I Z (f 13),I Z (f 14),I Z (f 15),I Z (f 16),I Z (f 17)]
def r6(h:Nat->Int):Array Value:=#[I Z (h 0),I Z (h 1),I Z (h 2),I Z (h 3),I Z (h 4),I Z (h 5)]
theorem Yh(f:Nat->Int):(Jd f).toArray=oc f:=rfl
def Yi(f:Nat->Int):(ah.info? 35).map (·.size)=some (Jd f).length:=by kernel_rfl
def qx2(h:Nat->Int):(prog.info? 34).map (·.size)=some (r6 h).size:=by kernel_rfl
def q91(h:Nat->Int):(r6 h).all (·.oneCell')=true:=by kernel_rfl
def q9f(w:af):(eM 34).run ah w=.ok (.agg (r6 (fun _=>0))) w:=by kernel_rfl
def q5y(h:Nat->Int)(k:Nat)(hk:k<6)(w:World):(Instr.index 34 (.agg (r6 h)) (I Z (k:Int))).run prog w=.ok (I Z (h k)) w:=GS h k hk w
def q4o(f:Nat->Int)(a:Nat)(ha:a<3)(w:af):(Instr.index 35 (.agg (oc f)) (I Z (a:Int))).run ah w=.ok (.agg (r6 (aX f a))) w:=by
 rcases(show a=0\/a=1\/a=2 by omega) with rfl|rfl|rfl<;>kernel_rfl
def q9q(f:Nat->Int)(j:Nat)(v:ag)(h:(Jd f)[j]?=some v):j<18/\v=I Z (f j):=by
 have hj:j<18:=(aJ.1 h).1
 refine⟨hj,?_⟩
 rcases(show j=0\/j=1\/j=2\/j=3\/j=4\/j=5\/j=6\/j=7\/j=8\/j=9\/j=10\/j=11\/j=12\/j=13\/j=14\/j=15\/j=16\/j=17 by omega) with rfl|rfl|rfl|rfl|rfl|rfl|rfl|rfl|rfl|rfl|rfl|rfl|rfl|rfl|rfl|rfl|rfl|rfl<;>exact(Option.some.inj h).symm
def aP.uZ{sl:ag}(R:aP 42 w b (tc f g h sl)):w.rangeAt b 0 (Jd f):=R.range (fun j v hv=>by
 obtain⟨hj,rfl⟩:=q9q f j v hv
 rw[bX];exact I9 f g h sl j hj)
def Oh(l:List Nat):List ag:=l.flatMap fun n=>[I Z ((n/6:Nat):Int),I Z ((n%6:Nat):Int)]
def oL(w:af)(base:Nat)(v:ag)(l:List Nat):Prop:=w.ownsRow base 177 2 v l.length (Oh l)
def oL.nil(w:af)(base:Nat):oL w base (.slice none 0 0) []:=by unfold oL;exact World.ownsRow_nil w base 177 2
theorem oL.slice(h:oL w base v l):∃a c,v=.slice a l.length c:=by
 rcases h.2 with⟨e,n0⟩|⟨b,cap,cur,hv,_⟩
 .grind
 grind
def Qd{w0:af}{e:TypeId}{size:Nat}{xs:List ag}(h:w.ownsRow base e size v n xs)(B:aq base w0 w)(hle:base<=w.heap.size)(hg:w.grownBy w' v.ownBlock):aq base w0 w':=by
 refine⟨hg.os.trans B.os,hg.tape.trans B.tape,hg.output.trans B.output,aw B.size hg.size,fun k hk=>?_⟩
 refine(hg.block k om ?_).trans (B.block k hk)
 intro e
 have:=h.lt k e.symm
 omega
def q0u:(ah.info? 177).map (fun i=>(i.zero,i.size,i.bytes))=some (some (.agg #[I Z 0,I Z 0]),2,16):=by kernel_rfl
def wL(f:Nat->Int)(s:Int)(N:Nat):List Nat:=(aA N).filter fun n=>f n==s+1
theorem qn3(f:Nat->Int)(s:Int)(N:Nat):wL f s (N+1)=wL f s N++if (f N==s+1)=true then [N] else []:=by
 unfold wL;rw[hZ,cO];simp only[List.filter];split<;>simp_all
theorem qoy(f:Nat->Int)(s:Int)(N:Nat):(wL f s N).length<=N:=by grind [wL]
def q75(w:af)(x y:ag)(t:TypeId):∀j u,[x,y][j]?=some u->(w.alloc (.cells #[x,y] t)).cell? ((⟨w.heap.size,0,none⟩:Addr).add j)=some u:=by
 intro j u hu
 match j,hu with
 | 0,hu=>
  (have e:x=u:=by simpa using hu)
  subst e
  rw[Addr.add_lit,bX]
  exact World.cell?_alloc_mark w #[x,y] t (0,0) 0
 | 1,hu=>
  (have e:y=u:=by simpa using hu)
  subst e
  rw[Addr.add_lit,bX]
  exact World.cell?_alloc_mark w #[x,y] t (0,0) 1
theorem qst(h:oL w base v l)(hb:Below w.heap.size w w'):oL w' base v l:=by
 refine⟨h.1,?_⟩
 rcases h.2 with e|⟨b,cap,cur,hv,fj,hh,r⟩
 .grind
 .exact .inr ⟨b,cap,cur,hv,fj,(hb.block b (Array.getElem?_eq_some_iff.1 hh).1).trans hh,r⟩
theorem q0m(h:oL w base v l)(t:gG b7 w w')(hn:v.ownBlock≠some b7):oL w' base v l:=by
 refine⟨h.1,?_⟩
 rcases h.2 with e|⟨b,cap,cur,hv,fj,hh,r⟩
 .grind
 .exact .inr ⟨b,cap,cur,hv,fj,(t.other b (fun e=>hn (by rw[hv,e];rfl))).trans hh,r⟩
theorem q7k{cs:Array ag}(h:oL w base v l)(R:aP 34 w b7 cs):v.ownBlock≠some b7:=by
 rcases h.2 with⟨e,_⟩|⟨b,cap,cur,hv,fj,hh,r⟩
 .rw[e];simp[Value.ownBlock]
 .rw[hv];intro e;have e':b=b7:=Option.some.inj e
  grind [aP]
def U0(f:Nat->Int)(g:Nat->Bool)(h:Nat->Int)(sl:ag)(s:Int)(hs:0<=s)(kG:s<8)(w:af):
  az ah 159 #[.agg (tc f g h sl),I Z s] w fun e w'=>∃v,e=.returned v/\(∃a c,v=.slice a (fI f s).length c)/\oL w' w.heap.size v (fI f s)/\aq w.heap.size w w':=by
 obtain⟨i0,hi,hz0,hz1,hz2⟩:=info_parts q0u;refine gP ?_;intro hB;(have hsw:bK (s+1)=s+1:=by unfold bK;omega)
 go_enter func159,ntmps159
 go_wp2_with (first|(refine Jb ?_;clear hB;intro bT w1 RT hb1 lT hB;have hrg:=RT.uZ)|(refine jB rfl 35 _ rfl _ _ rfl (Jd f) _ hrg underlying35 rfl (Yi f) ?_;rw[Yh]))
 go_loopw [5,13] (fun v i W=>∃(a:Nat) (ao:Option Addr) (cv:Nat),a<=3/\i=I Z a/\v=.slice ao (wL f s (6*a)).length cv/\oL W w.heap.size v (wL f s (6*a))/\aq w.heap.size w W) (fun _ i _=>3-(cY i).toNat)
 case atStart=>exact⟨0,none,0,by omega,rfl,rfl,oL.nil _ _,hB⟩
 case round=>
  clear hB RT hrg hb1
  obtain⟨a,ao,cv,ha,rfl,rfl,hown,hB⟩:=hrel
  by_cases hlt:a<3
  .have ia:=q4o f a hlt;have Yj:=hB.size
   go_wp2_with (first|(refine ay 34 q9f ?_;intro b7 w3 l7 R7 hb3;replace l7:=aw hB.size l7;replace hown:oL w3 _ _ _:=qst hown hb3;replace hB:=hB.trans (hb3.mono hB.size);have n7:=q7k hown R7)|(refine sx (r6 (aX f a)) R7 ?_;intro w4 R7 t4;replace hown:oL w4 _ _ _:=q0m hown t4 n7;replace hB:=t4.below _ _ l7 hB)|(refine lx 34 _ (r6 (aX f a)) R7 ?_))
   go_loopw [5,18] (fun v i W=>∃(k:Nat) (ao:Option Addr) (cv:Nat),k<=6/\i=I Z k/\v=.slice ao (wL f s (6*a+k)).length cv/\oL W w.heap.size v (wL f s (6*a+k))/\aq w.heap.size w W) (fun _ i _=>6-(cY i).toNat)
   case atStart=>exact⟨0,ao,cv,by omega,rfl,rfl,hown,hB⟩
   case round=>
    clear hB hown R7 n7
    obtain⟨k,ao,cv,hk,rfl,rfl,hown,hB⟩:=hrel
    have hsize:=hB.size;have k7:=qoy f s (6*a+k)
    by_cases hlk:k<6
    .have ik:=q5y (aX f a) k hlk
     by_cases hz:f (6*a+k)=s+1
     ·(have dz:(aX f a k==s+1)=true:=by simpa[aX] using hz);(have HS:aK (wL f s (6*a+(k+1))=wL f s (6*a+k)++[6*a+k]):=by show _=_;rw[show 6*a+(k+1)=6*a+k+1 from rfl,qn3,aZ (by simpa using hz)]);clear hz
      go_wp2_with (at_builtin;refine wpList_append_own _ rfl _ _ 182 rfl w.heap.size 177 i0 (.agg #[I Z 0,I Z 0]) 2 16 underlying182 hi hz0 hz1 hz2 rfl (by decide) _ _ _ rfl (hown.alloc _) ⟨wr.heap.size,0,none⟩ 1 1 [I Z (a:Int),I Z (k:Int)] rfl rfl (q75 _ _ _ _) (fun x hx=>by simp at hx;rcases hx with rfl|rfl<;>rfl) (by unfold maxLen;omega) om (by simp;omega) ?_;intro v' w3 hown' fk hnil3)
      go_roundw
      case rel=>
       have hi':oL w3 w.heap.size v' (wL f s (6*a+(k+1))):=by
        unfold oL Oh at *
        rw[HS.out,aY,List.flatMap_append];(have e1:(6*a+k)/6=a:=by omega);(have e2:(6*a+k)%6=k:=by omega)
        simp only[List.flatMap_cons,List.flatMap_nil,e1,e2,List.append_nil]
        exact hown'
       obtain⟨a3,c3,e3⟩:=hi'.slice;have hb3:aq w.heap.size w w3:=Qd (hown.alloc _) (hB.alloc hB.size _) (by simp;omega) fk
       first
        | exact⟨k+1,a3,c3,by omega,by go_num,e3,hi',hb3⟩
        | ((repeat apply Exists.intro);exact⟨⟨k+1,a3,c3,by omega,by go_num,e3,hi',hb3⟩,rfl⟩)
        | ((repeat apply Exists.intro);exact⟨⟨k+1,a3,c3,by omega,by go_num,e3,hi',hb3⟩,rfl,rfl⟩)
      case measure=>simp[cY];omega
     ·(have dz:(aX f a k==s+1)=false:=by simpa[aX] using hz);(have HS:aK (wL f s (6*a+(k+1))=wL f s (6*a+k)):=by show _=_;rw[show 6*a+(k+1)=6*a+k+1 from rfl,qn3,aT (by simpa using hz)];simp);clear hz
      go_wp2
      go_roundw
      case rel=>
       first
        | exact⟨k+1,ao,cv,by omega,by go_num,by rw[HS.out],by rw[HS.out];exact hown,hB⟩
        | ((repeat apply Exists.intro);exact⟨⟨k+1,ao,cv,by omega,by go_num,by rw[HS.out],by rw[HS.out];exact hown,hB⟩,rfl⟩)
        | ((repeat apply Exists.intro);exact⟨⟨k+1,ao,cv,by omega,by go_num,by rw[HS.out],by rw[HS.out];exact hown,hB⟩,rfl,rfl⟩)
      case measure=>simp[cY];omega
    ·(have e:k=6:=by omega)
     subst e
     go_wp2
     go_roundw
     case rel=>
      first
       | exact⟨a+1,ao,cv,by omega,by go_num,rfl,hown,hB⟩
       | ((repeat apply Exists.intro);exact⟨⟨a+1,ao,cv,by omega,by go_num,rfl,hown,hB⟩,rfl⟩)
     case measure=>simp[cY];omega
  ·(have e:a=3:=by omega)
   subst e
   go_wp2
   go_ret
   exact⟨_,rfl,⟨_,_,rfl⟩,hown,hB⟩
theorem U1(h0:0<=x)(h8:x<=8):(Lit.int .i64 x).wf=true:=by simp[Lit.wf,IntKind.min,IntKind.max,IntKind.bits,IntKind.signed];omega
def qh(h:Nat->Int):Prop:=∀i,i<8->(Lit.int .i64 (h i)).wf=true
def qul(f:Nat->Int)(hf:E1 f):ah.keyLits 3 35 (Value.agg (oc f)).cells.toList=some [.int .i64 (f 0),.int .i64 (f 1),.int .i64 (f 2),.int .i64 (f 3),.int .i64 (f 4),.int .i64 (f 5),.int .i64 (f 6),.int .i64 (f 7),.int .i64 (f 8),.int .i64 (f 9),.int .i64 (f 10),.int .i64 (f 11),.int .i64 (f 12),.int .i64 (f 13),.int .i64 (f 14),.int .i64 (f 15),.int .i64 (f 16),.int .i64 (f 17)]:=by
 (have Yk:ah.cellsOf 35=18:=by kernel_rfl);(have Yl:ah.cellsOf 34=6:=by kernel_rfl);(have c3:ah.cellsOf 3=1:=by kernel_rfl);have h0:=hf 0 om;have h1:=hf 1 om;have h2:=hf 2 om;have h3:=hf 3 om;have h4:=hf 4 om;have h5:=hf 5 om;have h6:=hf 6 om;have h7:=hf 7 om;have h8:=hf 8 om;have h9:=hf 9 om;have h10:=hf 10 om;have h11:=hf 11 om;have EZ:=hf 12 om;have Ym:=hf 13 om;have Yn:=hf 14 om;have Yo:=hf 15 om;have Em:=hf 16 om;have qg:=hf 17 om
 simp[Program.keyLits,Value.cells,oc,underlying35,underlying34,underlying3,Yk,Yl,c3,aA,List.range.loop,h0,h1,h2,h3,h4,h5,h6,h7,h8,h9,h10,h11,EZ,Ym,Yn,Yo,Em,qg]
def wM(h:Nat->Int):Array Value:=(kF h).toArray
def qtz(h:Nat->Int)(hh:qh h):prog.keyLits 2 39 (Value.agg (wM h)).cells.toList=some [.int .i64 (h 0),.int .i64 (h 1),.int .i64 (h 2),.int .i64 (h 3),.int .i64 (h 4),.int .i64 (h 5),.int .i64 (h 6),.int .i64 (h 7)]:=by
 (have c8:prog.cellsOf 39=8:=by kernel_rfl);(have c3:prog.cellsOf 3=1:=by kernel_rfl);have h0:=hh 0 om;have h1:=hh 1 om;have h2:=hh 2 om;have h3:=hh 3 om;have h4:=hh 4 om;have h5:=hh 5 om;have h6:=hh 6 om;have h7:=hh 7 om
 simp[Program.keyLits,Value.cells,wM,kF,underlying39,underlying3,c8,c3,List.range,List.range.loop,h0,h1,h2,h3,h4,h5,h6,h7]
def pE(f g:Nat->Int)(n:Nat):Bool:=(aA n).all fun k=>f k==g k
def Yp(f g:Nat->Int)(n:Nat):pE f g n=true↔∀k,k<n->f k=g k:=by simp[pE]
theorem qv1(f g:Nat->Int)(n:Nat):((aA n).map fun k=>Lit.int .i64 (f k))=((aA n).map fun k=>Lit.int .i64 (g k))↔pE f g n=true:=by simp_all[pE]
def qq8(f g:Nat->Int)(hf:E1 f)(hg:E1 g)(w:af):(lM 10000 35 (.agg (oc f)) (.agg (oc g))).run ah w=.ok (pE f g 18) w:=by
 obtain⟨r,h1,h2⟩:=run_equalIn_deep (P:=ah) 9997 3 35 kr w 3 3 (.agg (oc f)) (.agg (oc g)) _ _ kr kr (qul f hf) (qul g hg)
 have e:r=pE f g 18:=by
  rw[Bool.eq_iff_iff,←qv1 f g 18]
  exact h2
 rw[e] at h1
 exact h1
def qmy(f g:Nat->Int)(hf:qh f)(hg:qh g)(w:af):(lM 10000 39 (.agg (wM f)) (.agg (wM g))).run ah w=.ok (pE f g 8) w:=by
 obtain⟨r,h1,h2⟩:=run_equalIn_deep (P:=ah) 9998 2 39 kr w 2 2 (.agg (wM f)) (.agg (wM g)) _ _ kr kr (qtz f hf) (qtz g hg)
 have e:r=pE f g 8:=by
  rw[Bool.eq_iff_iff,←qv1 f g 8]
  exact h2
 rw[e] at h1
 exact h1
def Yq(h:Nat->Int)(j:Nat)(v:Value)(hv:(kF h)[j]?=some v):j<8/\v=I Z (h j):=by
 have hj:j<8:=(List.getElem?_eq_some_iff.1 hv).1
 refine⟨hj,?_⟩
 rcases(show j=0\/j=1\/j=2\/j=3\/j=4\/j=5\/j=6\/j=7 by omega) with rfl|rfl|rfl|rfl|rfl|rfl|rfl|rfl<;>exact(Option.some.inj hv).symm
def aP.homes{sl:ag}(R:aP 42 w b (tc f g h sl)):w.rangeAt b 21 (kF h):=R.range (fun j v hv=>by
 obtain⟨hj,rfl⟩:=Yq h j v hv
 exact Af f g h sl j hj)
def U3(h:Nat->Int):(prog.info? 39).map (·.size)=some (kF h).length:=by kernel_rfl
theorem qkf(h:Nat->Int):(kF h).toArray=wM h:=rfl
def aP.iP{sl:ag}(R:aP 42 w b (tc f g h sl)):w.rangeAt b 0 (pc f g).toList:=R.range (fun j v hv=>by
 rw[bX];(have hj:j<21:=by have:=(aJ.1 hv).1;simpa[Ae] using this);rw[Qb]
 rw[bY (by simp[Ae,kF];omega),bY (by rw[Ae];omega)]
 simpa using hv)
def qkh(f:Nat->Int)(g:Nat->Bool):(ah.info? 38).map (·.size)=some (pc f g).toList.length:=by kernel_rfl
theorem q5z(ms:List Mp)(hg:iX f=true):E1 (tP f ms):=by grind [GN,tP,U1,iX,E1]
def qpn(hg:iX f=true):E1 f:=fun i hi=>U1 (GN hg i hi).1 (GN hg i hi).2
theorem q5e(ms:List Mp)(hh:qh h):qh (tQ h ms):=by grind [tQ,U1,qh]
def Yr{sl:ag}{ms:List Mp}{m:Mp}(hno:rB ms m=false)(hM:cE w sl ms):
  az ah 185 #[sl,.agg (mc m)] w fun e w'=>e=.returned (.bool false)/\aq w.heap.size w w':=by
 refine gP ?_;intro hB;have fh:=hM
 obtain⟨a0,cap,dB,-⟩:=fh
 obtain⟨n,hn⟩:∃n,n=ms.length:=⟨_,rfl⟩
 rw[←hn] at dB
 subst dB
 refine xS ?_;clear hn;intro HN hlt
 go_enter func185,ntmps185
 go_wp2_with (refine bx 72 _ _ ?_;intro b3 w1 l3 R3 hb1;replace l3:=aw hB.size l3;refine kZ ?_;clear hB;intro hB)
 go_loopw [9] (fun i W=>∃j:Nat,j<=ms.length/\i=I Z j/\aq w.heap.size w W/\aP 72 W b3 (mc m)) (fun i _=>n-(cY i).toNat)
 case atStart=>exact⟨0,by omega,rfl,hB,R3⟩
 case round=>
  clear hB R3 hb1
  obtain⟨j,hj,rfl,hB,R3⟩:=hrel
  by_cases cz:j<ms.length
  .refine E0 ?_;intro mA fU
   obtain⟨o,hm⟩:∃o,ms[j]=o:=⟨_,rfl⟩
   refine Jc ?_;intro iv hrg;have h2:=X1.1 hno o (hm▸List.getElem_mem cz)
   simp only[rB,List.any_cons,List.any_nil,Bool.or_false,Bool.or_eq_false_iff] at h2
   obtain⟨dR,hout⟩:=h2
   go_wp2_with (first|(refine qU rfl (.tmp 7) (.tmp 9) rfl (.slice a0 n cap) ms iv rfl j rfl cz ?_)|(refine jB rfl 72 _ rfl _ _ rfl (jn o) _ hrg underlying72 rfl (xR o) ?_;rw[Ag])|(refine GR ?_;intro b6 w3 l6 R6 hb3;have n3:=R3.ne l6;replace l6:=aw hB.size l6;replace R3:=R3.below hb3;replace hB:=hB.trans (hb3.mono hB.size))|(refine qT 72 rfl _ _ rfl b6 rfl (mc o) rfl _ R6 rfl (lS o) (Ja o) ?_;intro w4 R6 t4;replace R3:=t4.row R3 n3;replace hB:=t4.below _ _ l6 hB))
   refine RD (fun W=>aP 72 W b6 (mc o)/\aP 72 W b3 (mc m)) ⟨R6,R3⟩ (fun _=>?_)
   refine tk 0 (.agg (mc o)) rfl (rA 72 (.tmp 6) rfl kr b6 kr (mc o) (fun _ h=>h.1) _ underlying72 rfl (lS o)) ⟨R6,R3⟩ (tk 2 (.agg (mc m)) rfl (rA 72 (.tmp 3) rfl kr b3 kr (mc m) (fun _ h=>h.2) _ underlying72 rfl (lS m)) ⟨R6,R3⟩ ?_)
   refine E2 ?_
   refine AC (fun K hK=>?_) AZ
   go_simp;go_at_call 187;refine(Ye o _).mono ?_;rintro e w5 ⟨rfl,bh⟩;(try replace bh:=GU bh);replace R3:=R3.below bh;replace R6:=R6.below bh;refine gl ?_;clear hB;intro hB
   go_wp2_with fail
   refine hK.out _ _ ⟨R6,R3⟩ (fun _=>?_)
   clear hK K;refine AR [3] ?_
   refine AC (fun K hK=>?_) AZ
   go_simp;go_at_call 187;refine(Ye m _).mono ?_;rintro e w5 ⟨rfl,bh⟩;replace R3:=R3.below bh;replace R6:=R6.below bh;refine gl ?_;clear hB;intro hB
   go_wp2_with fail
   refine hK.out _ _ ⟨R6,R3⟩ (fun _=>?_)
   clear hK K
   refine tk 4 (.bool false) rfl (qhd 212 (.tmp 14) (.tmp 16) rfl kr (sY o.1 o.2.1 o.2.2.1) (sY m.1 m.2.1 m.2.2.1) kr kr eqGuardType212 _ _ (fun w=>Yb _ _ _ _ _ _ w) dR) ⟨R6,R3⟩ (tq 5 (.bool false) rfl ⟨R6,R3⟩ (tk 6 (.agg (mc o)) rfl (rA 72 (.tmp 6) rfl kr b6 kr (mc o) (fun _ h=>h.1) _ underlying72 rfl (lS o)) ⟨R6,R3⟩ ?_))
   simp only[ZZ]
   refine tk 8 (.agg (mc m)) rfl (rA 72 (.tmp 3) rfl kr b3 kr (mc m) (fun _ h=>h.2) _ underlying72 rfl (lS m)) ⟨R6,R3⟩ ?_
   simp only[ZZ];refine AR [7] ?_
   refine AC (fun K hK=>?_) AZ
   go_simp;go_at_call 77;refine(Yf o _).mono ?_;rintro e w5 ⟨rfl,bh⟩;replace R3:=R3.below bh;replace R6:=R6.below bh;refine gl ?_;clear hB;intro hB
   go_wp2_with fail
   refine hK.out _ _ ⟨R6,R3⟩ (fun _=>?_)
   clear hK K;refine AR [9] ?_
   refine AC (fun K hK=>?_) AZ
   go_simp;go_at_call 77;refine(Yf m _).mono ?_;rintro e w5 ⟨rfl,bh⟩;replace R3:=R3.below bh;replace R6:=R6.below bh;refine gl ?_;clear hB;intro hB
   go_wp2_with fail
   refine hK.out _ _ ⟨R6,R3⟩ (fun _=>?_)
   clear hK K
   refine tk 10 (.bool false) rfl (qhd 125 (.tmp 20) (.tmp 22) rfl kr (sY o.1 o.2.2.2.1 o.2.2.2.2) (sY m.1 m.2.2.2.1 m.2.2.2.2) kr kr eqGuardType125 _ _ (fun w=>Yc _ _ _ _ _ _ w) hout) ⟨R6,R3⟩ (tq 11 (.bool false) rfl ⟨R6,R3⟩ ?_)
   refine oM ?_
   go_wp2
   go_roundw
   case rel=>exact⟨j+1,by omega,by go_num,hB,R3⟩
   case measure=>rw[fU];exact Aj (HN.out.symm▸cz)
  ·(have mA:(n:Int)<=(j:Int):=by have:=HN.out;omega);clear hj cz
   go_wp2
   go_ret
   exact⟨rfl,hB⟩
section
variable {w:World} {b:Nat} {x y:Int}
def Qe(h:aP 177 w b (mJ x y)):w.cell? ⟨b,0,none⟩=some (I Z x):=h.cell 0
def p1(h:aP 177 w b (mJ x y)):w.cell? ⟨b,1,none⟩=some (I Z y):=h.cell 1
end
def Ys{sl:ag}{p i:Int}(hS:pD f h (p,s,i,a,q))(w:af):
  az ah 184 #[.agg (tc f g h sl),.agg (mc (p,s,i,a,q))] w fun e w'=>e=.returned (.bool true)/\aq w.heap.size w w':=by
 refine gP ?_;intro hB;(have C1:=fun w=>qfh p w);(have C2:=fun w=>qig s w);(have C3:=fun w=>qhe i w);(have C4:=fun w=>UU (p,s,i,a,q) w);obtain⟨hp,hs,hi,Je,Jf,pF,hown⟩:=hS
 simp only at hp hs hi Je Jf pF hown
 have dR:=And.intro Je Jf
 rw[hp] at C1
 (have e2:(decide (0<=s)&&decide (s<8))=true:=by simp[hs.1,hs.2])
 rw[e2] at C2
 (have e3:(decide (0<=i)&&decide (i<=65535))=true:=by simp[hi.1,hi.2])
 rw[e3] at C3
 have hI:rF (p,s,i,a,q)=true:=decide_eq_true dR;have hA:mX (p,s,i,a,q)=a:=aZ hI;have hQ:mY (p,s,i,a,q)=(q-1024)/8:=aZ hI
 rw[hI,hA,hQ] at C4
 obtain⟨K,hK⟩:∃K,K=(q-1024)/8:=⟨_,rfl⟩
 rw[←hK] at C4
 (have hpl:nP a q=a.toNat*6+K.toNat:=by unfold nP;rw[hK];omega);(have Yt:0<=K:=by omega);(have Qf:K<6:=by omega);have ha0:0<=a:=dR.2.1;have wN:a<3:=dR.2.2;have hs0:0<=s:=hs.1;have kG:s<8:=hs.2;refine m4f ?_;intro hsw U4 Jg Jh;(have hH:∀W b,aP 42 W b (tc f g h sl)->W.cell? ⟨b,21+s.toNat,none⟩=some (I Z (h s.toNat)):=fun W b R=>(R.cell _).trans (Af f g h sl s.toNat om));(have hO:∀W b,aP 42 W b (tc f g h sl)->W.cell? ⟨b,a.toNat*6+K.toNat,none⟩=some (I Z (f (a.toNat*6+K.toNat))):=fun W b R=>(R.cell _).trans (I9 f g h sl _ om));replace hown:f (nP a q)=s+1:=hown
 rw[hpl] at hown
 (have dh:(h s.toNat==a+1)=true:=by simpa using pF);(have dz:(f (a.toNat*6+K.toNat)==s+1)=true:=by simpa using hown);clear hs e2 hi e3 dR Je Jf hI hA hQ hK hpl pF hown hp
 go_enter func184,ntmps184
 go_wp2_with (first|(refine E5 ?_;intro b2 w1 l2 R2 hb1;replace l2:=aw hB.size l2;refine kZ ?_;clear hB;intro hB)|(refine bx 72 _ _ ?_;intro b3 w2 l3 R3 hb2;replace l3:=aw hB.size l3;replace R2:=R2.below hb2;replace hB:=hB.trans (hb2.mono hB.size);have c0:=m0 R3;have c1:=m1 R3;have c2:=m2 R3)|(go_at_call 136;go_fit (C1 _);refine gy ?_)|(go_at_call 137;go_fit (C2 _);refine gy ?_)|(go_at_call 138;go_fit (C3 _);refine gy ?_)|(refine lx 72 _ (mc (p,s,i,a,q)) R3 ?_)|(go_at_call 156;go_fit (C4 _);rintro e w5 ⟨rfl,bh⟩;clear c0 c1 c2;replace R3:=R3.below bh;replace R2:=R2.below bh;refine gl ?_;clear hB;intro hB)|(refine ay 177 Oe ?_;intro b5 w6 l5 R5 j6;have n2:=R2.ne l5;have n3:=R3.ne l5;replace l5:=aw hB.size l5;replace R3:=R3.below j6;replace R2:=R2.below j6;replace hB:=hB.trans (j6.mono hB.size))|(refine sx (mJ a K) R5 ?_;intro w7 R5 t7;replace R3:=t7.row R3 n3;replace R2:=t7.row R2 n2;replace hB:=t7.below _ _ l5 hB)|(refine sx (mJ 0 0) R5 ?_;intro w7 R5 t7;replace R3:=t7.row R3 n3;replace R2:=t7.row R2 n2;replace hB:=t7.below _ _ l5 hB))
 refine RD (fun W=>aP 72 W b3 (mc (p,s,i,a,q))/\aP 42 W b2 (tc f g h sl)/\aP 177 W b5 (mJ a K)) ⟨R3,R2,R5⟩ (fun _=>?_)
 refine tq 0 (.bool true) rfl ⟨R3,R2,R5⟩ (tq 1 (.bool true) rfl ⟨R3,R2,R5⟩ (tq 2 ((V (some ⟨b3,1,none⟩))) rfl ⟨R3,R2,R5⟩ ?_));simp only[ZZ];refine tk 3 (I Z s) rfl (Or.inl ⟨by kernel_rfl,by intro w hS;have hc:=m1 hS.1;go_simp⟩) ⟨R3,R2,R5⟩ (tq 4 ((V (some ⟨b2,21,none⟩))) rfl ⟨R3,R2,R5⟩ (tq 5 ((V (some ⟨b2,21+s.toNat,none⟩))) rfl ⟨R3,R2,R5⟩ ?_));simp only[ZZ];refine tk 6 (I Z (h s.toNat)) rfl (Or.inl ⟨by kernel_rfl,by intro w hS;have hc:=hH _ _ hS.2.1;go_simp⟩) ⟨R3,R2,R5⟩ (tq 7 ((V (some ⟨b3,3,none⟩))) rfl ⟨R3,R2,R5⟩ (tk 8 (I Z a) rfl (Or.inl ⟨by kernel_rfl,by intro w hS;have hc:=m3 hS.1;go_simp⟩) ⟨R3,R2,R5⟩ ?_));simp only[ZZ];refine tq 9 (I Z (a+1)) rfl ⟨R3,R2,R5⟩ (tq 10 (.bool true) rfl ⟨R3,R2,R5⟩ (tq 11 (.bool true) rfl ⟨R3,R2,R5⟩ ?_));simp only[ZZ];refine tq 12 (.bool true) rfl ⟨R3,R2,R5⟩ (tq 13 ((V (some ⟨b5,0,none⟩))) rfl ⟨R3,R2,R5⟩ (tk 14 (I Z a) rfl (Or.inl ⟨by kernel_rfl,by intro w hS;have hc:=Qe hS.2.2;go_simp⟩) ⟨R3,R2,R5⟩ ?_));simp only[ZZ];refine tq 15 ((V (some ⟨b5,1,none⟩))) rfl ⟨R3,R2,R5⟩ (tk 16 (I Z K) rfl (Or.inl ⟨by kernel_rfl,by intro w hS;have hc:=p1 hS.2.2;go_simp⟩) ⟨R3,R2,R5⟩ (tq 17 ((V (some ⟨b2,0,none⟩))) rfl ⟨R3,R2,R5⟩ ?_));simp only[ZZ];refine tq 18 ((V (some ⟨b2,0,none⟩))) rfl ⟨R3,R2,R5⟩ (tq 19 ((V (some ⟨b2,a.toNat*6,none⟩))) rfl ⟨R3,R2,R5⟩ (tq 20 ((V (some ⟨b2,a.toNat*6+K.toNat,none⟩))) rfl ⟨R3,R2,R5⟩ ?_));simp only[ZZ];refine tk 21 (I Z (f (a.toNat*6+K.toNat))) rfl (Or.inl ⟨by kernel_rfl,by intro w hS;have hc:=hO _ _ hS.2.1;go_simp⟩) ⟨R3,R2,R5⟩ (tq 22 ((V (some ⟨b3,1,none⟩))) rfl ⟨R3,R2,R5⟩ (tk 23 (I Z s) rfl (Or.inl ⟨by kernel_rfl,by intro w hS;have hc:=m1 hS.1;go_simp⟩) ⟨R3,R2,R5⟩ ?_));simp only[ZZ];refine tq 24 (I Z (s+1)) rfl ⟨R3,R2,R5⟩ (tq 25 (.bool true) rfl ⟨R3,R2,R5⟩ (tq 26 (.bool true) rfl ⟨R3,R2,R5⟩ ?_));simp only[ZZ];refine tq 27 (.bool true) rfl ⟨R3,R2,R5⟩ ?_;refine oM ?_
 go_wp2
 go_ret
 exact⟨rfl,Qg hB⟩
end Go.Proofs.YtnkpgdejagglaaaGreatDoor
