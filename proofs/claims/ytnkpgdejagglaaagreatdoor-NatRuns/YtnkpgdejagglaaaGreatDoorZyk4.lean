/-
  Of what a law stands on.
-/
import Derived.Test.YtnkpgdejagglaaaGreatDoorZyk3
set_option linter.all false
namespace Go.Proofs.YtnkpgdejagglaaaGreatDoor
open _root_.Go renaming Calls->az,Value->ag,World->af
open _root_.Go.RowKit renaming Below->aq,Hid->aK,wrap64->bK
open _root_.Go.Value renaming int->bO
open _root_.List renaming flatMap_append->nD,getElem?_cons_succ->dO,getElem?_cons_zero->dN,getElem?_eq_getElem->j3,getElem?_eq_some_iff->aJ,getElem?_toArray->ig,length_drop->kW,length_map->iV,length_take->eD,map_cons->aB,map_nil->aI,nil_append->jh,range->aA,setIfInBounds_toArray->aW,set_cons_succ->aR,set_cons_zero->aQ,take->nr,take_length->bn
open _root_.List.cons renaming injEq->aO
open _root_.List.range renaming loop->aF
open _root_.Nat renaming le_refl->au,le_trans->aw,lt_of_lt_of_le->bi,min_eq_left->mD,mul_one->mE,zero_add->bX,zero_le->bZ
open _root_.Option renaming bind_some->j4
open Go.Value renaming int → I,pointer → V
open Go.IntKind renaming i64 → Z
open _root_.Go.Proofs.Tryz Go.ChangeShapes Go.WideShapes Go.ChangeAt Go.RowKit Go.Maps
set_option maxHeartbeats 16000000
set_option maxRecDepth 100000
variable {p:Prop}{G:Nat->Prop}{W w w0 w1:World}{b b' c9 i n:Nat}{s:Nt}{E F Iq T:Sl}{es:List Ev}{Q:Exit->Act->World->Prop}{m:Mp}{x:Nat×Fl}{v:Value}{L:List Cp}{loose:Bool}
def vN(b c4:Nat)(s:Nt)(T F Iq E:Sl)(es:List Ev):List Cp:=cL 100 5 E.v es.length (es.flatMap nh)::cR 29 c4 (eZ 0).cells::bD b s T F Iq
section
variable (G:Nat->Prop) (w0:World) (b c4:Nat) (s:Nt) (T F Iq E:Sl) (es:List Ev)
def JB(k:Nat)(f:Nat->ag)(W:af):Prop:=∃(j:Nat) (z:Int),k=s.fs.length-j/\j<=s.fs.length/\f 0=V (some ⟨b,0,none⟩)/\f 4=V (some ⟨c4,0,none⟩)/\f 5=E.v/\f 6=I Z z/\f 44=F.v/\f 45=I Z (s.fs.length:Int)/\f 46=I Z (j:Int)/\aK (oT s.fs s.now j z)/\Dz G w0 W (vN b c4 s T F Iq E es)
end
def BS(h:p:=by
 refine yE [24,25,26,27,28,29,30,31,32,33,34,35,36,37,38,39,40,41,42,43,44,45,46,47,48,49,50,51] ?_
 simp only[Ho,Act.put,List.getElem?_toArray,List.getElem?_cons_zero,List.getElem?_cons_succ,Option.bind_some,List.setIfInBounds_toArray,List.set_cons_zero,List.set_cons_succ]
 refine er [52,53] ?_;refine fM ?_
 go_wp2
 exact je (s.fs.length-(j+1)) (by have:=HK.out;have:=fR.out;omega) ⟨j+1,(j:Int),rfl,fR.out,by kernel_rfl,by kernel_rfl,by kernel_rfl,by kernel_rfl,by kernel_rfl,by kernel_rfl,by kernel_rfl,Pe,B.drop 1⟩):p:=h
def BU(h:p:=by
 refine fM ?_
 go_wp2
 exact je (s.fs.length-(j+1)) (by have:=HK.out;have:=fR.out;omega) ⟨j+1,(i:Int),rfl,fR.out,by kernel_rfl,by kernel_rfl,by kernel_rfl,by kernel_rfl,by kernel_rfl,by kernel_rfl,by kernel_rfl,Pe,B.drop 1⟩):p:=h
def qfL{c4:Nat}(hl:s.fs.length<=48)(s7:s.fs.Pairwise (fun x y=>x.1<y.1))(hx:∀g W,JB G w0 b c4 s T F Iq E es 0 g W->Q (.exit 4) (cJ 210 g) W)(k:Nat)(f:Nat->ag)(W:af)(h:JB G w0 b c4 s T F Iq E es k f W):
  (uh f25 2).wp prog (Exit.then (ri 210 (JB G w0 b c4 s T F Iq E es) k) Q) (cJ 210 f) W:=by
 obtain⟨j,z,hk,hj,f0,f4,f5,f6,f44,f45,f46,HB,B⟩:=h;obtain⟨fa,fn,oG⟩:=F;obtain⟨ia,in',V8⟩:=Iq
 unfold vN bD at B
 obtain⟨rfl,hg⟩:fn=s.fs.length/\(0<s.fs.length->∃g,fa=some ⟨g,0,none⟩):=n4 (B.at 3 rfl)
 obtain⟨rfl,hi⟩:in'=s.fs.length/\(0<s.fs.length->∃g,ia=some ⟨g,0,none⟩):=n4 (B.at 4 rfl)
 conv=>arg 2;whnf
 simp only[cJ,aA,aF,aB,aI,f0,f4,f5,f6,f44,f45,f46]
 clear f0 f4 f5 f6 f44 f45 f46
 unfold Sl.v at B ⊢
 have HX:=ar hx;have HU:=ar s7;have HK:=ar hk;clear hx s7 hk
 by_cases hlt:j<s.fs.length
 .obtain⟨g,rfl⟩:=hg om
  obtain⟨gi,rfl⟩:=hi om
  obtain⟨x,hx⟩:∃x,s.fs[j]?=some x:=⟨_,j3 hlt⟩
  have HE:aK (_=(fc x.2).toList):=ug _ 10 pN _ _ _ hx;(have sk:=fun w=>Hn g s.fs.length oG j hlt w);(have hii:=fun w=>ixN gi s.fs.length V8 j hlt w);(have kQ:(j:Int)<(s.fs.length:Int):=by omega);have fU:=oQ (p:=j) om;have BJ:aK _:=hx;have fR:aK _:=hlt;clear hj hl hg hi hx hlt
  by_cases c1:x.2.du<=s.now
  ·(have d1:decide (x.2.du<=s.now)=true:=by simpa using c1)
   rcases HB.out with⟨rfl,hb⟩|⟨i,y,rfl,m6,hy,h1,h2⟩
   .have Pe:aK (oT s.fs s.now (j+1) (j:Int)):=qfF hb BJ.out c1;clear c1 hb HB
    go_upto_region 11 with(first|(refine iz (t:=75) ?_;refine iN ?_;clear B;intro c8 W B)|(refine eG (t:=75) ?_;refine Bt 3 B HE.out ?_)|(refine eG ?_;first|refine gJ ?_|refine iF ?_|refine eP ?_)|(refine fe ?_;(first|refine dD B 0 ?_|refine dD B 1 ?_);clear B;intro W B))
    refine nZ B 99 [] ?_;clear B;intro W B A;refine SP ?_;refine yE [11,12,13,14,15,16,17,18,19,20,21] ?_
    simp only[Ho,Act.put,ig,dN,dO,j4,aW,aQ,aR]
    refine er [22,23] ?_
    exact BS
   .have MX:i<s.fs.length:=(aJ.1 hy).1;(have qfM:=fun w=>Hn g s.fs.length oG i MX w);(have qj1:=fun w=>ixN gi s.fs.length V8 i MX w);(have di:decide ((i:Int)<0)=false:=by simp);have HYD:aK ((iy s.fs)[i*10+9]?=some (I Z y.2.du)):=ar (qdO hy 9 om);have HYI:aK ((gQ s.fs)[i]?=some (I Z (y.1:Int))):=ar (SB hy);have HXI:aK ((gQ s.fs)[j]?=some (I Z (x.1:Int))):=ar (SB BJ.out);clear MX HB
    by_cases c2:x.2.du<y.2.du
    ·(have d2:decide (x.2.du<y.2.du)=true:=by simpa using c2);have Pe:aK (oT s.fs s.now (j+1) (j:Int)):=qfG h2 BJ.out c1 c2;clear c1 c2 h1 h2 hy m6 HYI HXI
     go_upto_region 11 with(first|(refine iz (t:=75) ?_;refine iN ?_;clear B;intro c8 W B)|(refine eG (t:=75) ?_;refine Bt 3 B HE.out ?_)|(refine eG ?_;first|refine gJ ?_|refine iF ?_|refine eP ?_)|(refine fe ?_;(first|refine dD B 0 ?_|refine dD B 1 ?_);clear B;intro W B))
     refine m44 ?_;clear B;intro W B A;refine er [21,22,23] ?_
     exact BS
    ·(have d2:decide (x.2.du<y.2.du)=false:=by simpa using c2);have Pe:aK (oT s.fs s.now (j+1) (i:Int)):=qfH HU.out hy m6 h1 h2 BJ.out c2
     by_cases c3:x.2.du=y.2.du
     ·(have d3:(x.2.du==y.2.du)=true:=by simpa using c3);(have d4:decide (x.1<y.1)=false:=by have:=S4 HU.out hy BJ.out m6;simp;omega);clear c1 c2 c3 h1 h2 hy m6
      go_upto_region 11 with(first|(refine iz (t:=75) ?_;refine iN ?_;clear B;intro c8 W B)|(refine eG (t:=75) ?_;refine Bt 3 B HE.out ?_)|(refine eG ?_;first|refine gJ ?_|refine iF ?_|refine eP ?_)|(refine fe ?_;(first|refine dD B 0 ?_|refine dD B 1 ?_);clear B;intro W B))
      refine m44 ?_;clear B;intro W B A;refine er [21,22,23,24,25,26,27,28,29,30,31,32] ?_;refine Sy 33 4 HYD.out ?_;refine er [34,35,36,37,38,39,40,41] ?_;refine Sy 42 5 HXI.out ?_;refine er [43,44,45,46,47,48] ?_;refine Sy 49 5 HYI.out ?_;refine er [50,51,52,53] ?_
      exact BU
     ·(have d3:(x.2.du==y.2.du)=false:=by simpa using c3);clear c1 c2 c3 h1 h2 hy m6 HYI HXI
      go_upto_region 11 with(first|(refine iz (t:=75) ?_;refine iN ?_;clear B;intro c8 W B)|(refine eG (t:=75) ?_;refine Bt 3 B HE.out ?_)|(refine eG ?_;first|refine gJ ?_|refine iF ?_|refine eP ?_)|(refine fe ?_;(first|refine dD B 0 ?_|refine dD B 1 ?_);clear B;intro W B))
      refine m44 ?_;clear B;intro W B A;refine er [21,22,23,24,25,26,27,28,29,30,31,32] ?_;refine Sy 33 4 HYD.out ?_;refine er [34,35] ?_;refine yE [36,37,38,39,40,41,42,43,44,45,46,47,48,49,50] ?_
      simp only[Ho,Act.put,ig,dN,dO,j4,aW,aQ,aR]
      refine er [51,52,53] ?_
      exact BU
  .have Pe:aK (oT s.fs s.now (j+1) z):=qfE HB.out BJ.out c1;(have d1:decide (x.2.du<=s.now)=false:=by simpa using c1);clear c1
   go_upto_region 11 with(first|(refine iz (t:=75) ?_;refine iN ?_;clear B;intro c8 W B)|(refine eG (t:=75) ?_;refine Bt 3 B HE.out ?_)|(refine eG ?_;first|refine gJ ?_|refine iF ?_|refine eP ?_)|(refine fe ?_;(first|refine dD B 0 ?_|refine dD B 1 ?_);clear B;intro W B))
   refine nZ B 99 [] ?_;clear B;intro W B A;refine er [0,1,2,3,4,5,6,7] ?_;refine yE [8,9,10,11,12,13,14,15,16,17,18,19,20,21,22,23,24,25,26,27,28,29,30,31,32,33,34,35,36,37,38,39,40,41,42,43,44,45,46,47,48,49,50,51,52] ?_
   simp only[Ho,Act.put,ig,dN,dO,j4,aW,aQ,aR]
   refine er [53] ?_;refine fM ?_
   go_wp2
   exact je (s.fs.length-(j+1)) (by have:=HK.out;have:=fR.out;omega) ⟨j+1,z,rfl,fR.out,by kernel_rfl,by kernel_rfl,by kernel_rfl,by kernel_rfl,by kernel_rfl,by kernel_rfl,by kernel_rfl,Pe,B.drop 1⟩
 ·(have kQ:¬(j:Int)<(s.fs.length:Int):=by omega)
  obtain rfl:j=s.fs.length:=by omega
  clear hg hi hlt hj hl
  go_wp2
  exact rj HX.out ⟨s.fs.length,z,by omega,au _,by kernel_rfl,by kernel_rfl,by kernel_rfl,by kernel_rfl,by kernel_rfl,by kernel_rfl,by kernel_rfl,HB,B⟩
section
variable (G:Nat->Prop) (w0:World) (b c4 c9:Nat) (s:Nt) (T F Iq E:Sl) (es:List Ev) (m:Mp)
def JM(k:Nat)(f:Nat->ag)(W:af):Prop:=∃j:Nat,k=s.fs.length-j/\j<=s.fs.length/\f 0=V (some ⟨b,0,none⟩)/\f 4=V (some ⟨c4,0,none⟩)/\f 5=E.v/\f 9=V (some ⟨c9,0,none⟩)/\f 10=.bool ((s.fs.take j).any fun y=>pq m y.2)/\f 156=F.v/\f 157=I Z (s.fs.length:Int)/\f 158=I Z (j:Int)/\Dz G w0 W (cR 72 c9 (mc m)::vN b c4 s T F Iq E es)
def JR(d:Int)(k:Nat)(f:Nat->ag)(W:af):Prop:=∃j:Nat,k=(min d 4).toNat-j/\j<=(min d 4).toNat/\f 0=V (some ⟨b,0,none⟩)/\f 1=I Z d/\f 4=V (some ⟨c4,0,none⟩)/\f 20=I Z (min d 4)/\f 21=I Z (j:Int)/\Dz G w0 W (cR 29 c4 (eZ 0).cells::bD b { s with left:=min (s.left+j) 4 } T F Iq)
end
def qfN{c4:Nat}(hl:s.fs.length<=48)(hx:∀g W,JM G w0 b c4 c9 s T F Iq E es m 0 g W->Q (.exit 6) (cJ 210 g) W)(k:Nat)(f:Nat->ag)(W:af)(h:JM G w0 b c4 c9 s T F Iq E es m k f W):
  (uh f25 3).wp prog (Exit.then (ri 210 (JM G w0 b c4 c9 s T F Iq E es m) k) Q) (cJ 210 f) W:=by
 obtain⟨j,hk,hj,f0,f4,f5,f9,f10,f156,f157,f158,B⟩:=h;obtain⟨fa,fn,oG⟩:=F
 unfold vN bD at B
 obtain⟨rfl,hg⟩:fn=s.fs.length/\(0<s.fs.length->∃g,fa=some ⟨g,0,none⟩):=n4 (B.at 4 rfl)
 conv=>arg 2;whnf
 simp only[cJ,aA,aF,aB,aI,f0,f4,f5,f9,f10,f156,f157,f158]
 clear f0 f4 f5 f9 f10 f156 f157 f158
 unfold Sl.v at B ⊢
 have HX:=ar hx;have HK:=ar hk;clear hx hk
 by_cases hlt:j<s.fs.length
 .obtain⟨g,rfl⟩:=hg om
  obtain⟨x,hx⟩:∃x,s.fs[j]?=some x:=⟨_,j3 hlt⟩
  have HE:aK (_=(fc x.2).toList):=ug _ 10 pN _ _ _ hx;(have sk:=fun w=>Hn g s.fs.length oG j hlt w);(have kQ:(j:Int)<(s.fs.length:Int):=by omega);have fU:=oQ (p:=j) om;have fR:aK _:=hlt;have HQ:aK _:=FK (pq m) hx;clear hj hl hg hx hlt
  cases e1:(s.fs.take j).any (fun y=>pq m y.2) with
  | true=>
   go_wp2_with (first|(refine iz (t:=75) ?_;refine iN ?_;clear B;intro c12 W B)|(refine eG (t:=75) ?_;refine Bt 4 B HE.out ?_)|(refine eG ?_;first|refine gJ ?_|refine iF ?_|refine eP ?_)|(refine fe ?_;(first|refine dD B 0 ?_|refine dD B 1 ?_);clear B;intro W B))
   exact je (s.fs.length-(j+1)) (by have:=HK.out;have:=fR.out;omega) ⟨j+1,rfl,fR.out,by kernel_rfl,by kernel_rfl,by kernel_rfl,by kernel_rfl,by rw[HQ.out,e1];kernel_rfl,by kernel_rfl,by kernel_rfl,by kernel_rfl,B.drop 1⟩
  | false=>
   cases e2:dZ x.2==m with
   | _=>
    have hq:pq m x.2=(dZ x.2==m):=rfl
    go_wp2_with (first|(refine iz (t:=75) ?_;refine iN ?_;clear B;intro c12 W B)|(refine eG (t:=75) ?_;refine Bt 4 B HE.out ?_)|(refine eEq ?_;refine dEm ?_)|(refine eG ?_;first|refine gJ ?_|refine iF ?_|refine eP ?_)|(refine fe ?_;(first|refine dD B 0 ?_|refine dD B 1 ?_);clear B;intro W B))
    exact je (s.fs.length-(j+1)) (by have:=HK.out;have:=fR.out;omega) ⟨j+1,rfl,fR.out,by kernel_rfl,by kernel_rfl,by kernel_rfl,by kernel_rfl,by rw[HQ.out,e1,hq,e2];kernel_rfl,by kernel_rfl,by kernel_rfl,by kernel_rfl,B.drop 1⟩
 ·(have kQ:¬(j:Int)<(s.fs.length:Int):=by omega)
  obtain rfl:j=s.fs.length:=by omega
  clear hg hlt hj hl
  go_wp2
  exact rj HX.out ⟨s.fs.length,by omega,au _,by kernel_rfl,by kernel_rfl,by kernel_rfl,by kernel_rfl,by rw[bn];kernel_rfl,by kernel_rfl,by kernel_rfl,by kernel_rfl,B⟩
def qfO{c4:Nat}{d:Int}(hd:1<=d)(hl:s.left<=4)(hx:∀g W,JR G w0 b c4 s T F Iq d 0 g W->Q (.exit 0) (cJ 210 g) W)(k:Nat)(f:Nat->ag)(W:af)(h:JR G w0 b c4 s T F Iq d k f W):
  (uh f25 0).wp prog (Exit.then (ri 210 (JR G w0 b c4 s T F Iq d) k) Q) (cJ 210 f) W:=by
 obtain⟨j,hk,hj,f0,f1,f4,f20,f21,B⟩:=h
 unfold bD at B
 conv=>arg 2;whnf
 simp only[cJ,aA,aF,aB,aI,f0,f1,f4,f20,f21]
 clear f0 f1 f4 f20 f21;have HX:=ar hx;have HK:=ar hk;have HD:=ar hd;clear hx hk
 by_cases hlt:j<(min d 4).toNat
 ·(have kQ:(j:Int)<min d 4:=by omega);have fU:=oQ (p:=j) om;have fR:aK _:=hlt;(have hw:bK ((min (s.left+j) 4:Nat)+1)=((min (s.left+j) 4:Nat):Int)+1:=by unfold bK;omega);have HV:aK (min 4 (((min (s.left+j) 4:Nat):Int)+1)=((min (s.left+(j+1)) 4:Nat):Int)):=ar om;clear hj hl hlt hd
  generalize hmd:min d 4=md at *
  generalize hml:min (s.left+j) 4=ml at *
  go_wp2_with (first|(refine eMi ?_;refine dMn ?_)|(refine eG ?_;first|refine gJ ?_|refine iF ?_|refine eP ?_)|(refine fe ?_;refine ld B 1 _ ?_ (hy:=by first|exact congrArg (bO .i64) HV.out|exact congrArg (bO .i64) ((congrArg (min 4) hw).trans HV.out)) (hd:=RU _ _ _ _ _);clear B;intro W B))
  exact je (md.toNat-(j+1)) (by have:=HK.out;have:=fR.out;omega) ⟨j+1,by rw[hmd],by rw[hmd];exact fR.out,by kernel_rfl,by kernel_rfl,by kernel_rfl,by rw[hmd];kernel_rfl,by kernel_rfl,B⟩
 ·(have kQ:¬(j:Int)<min d 4:=by omega);have HJ:aK (j=(min d 4).toNat):=ar om;clear hlt hj hl hd
  go_wp2
  exact rj HX.out ⟨j,by have:=HJ.out;omega,by have:=HJ.out;omega,by kernel_rfl,by kernel_rfl,by kernel_rfl,by kernel_rfl,by kernel_rfl,B⟩
def tkT(F:Func):Code:=(F.body.bind (qz 6)).getD .skip
def JO(G:Nat->Prop)(w0:af)(b c4:Nat)(p:List Ev×Nt)(g:Nat->ag)(W:af):Prop:=∃T F Iq E:Sl,g 0=V (some ⟨b,0,none⟩)/\g 4=V (some ⟨c4,0,none⟩)/\g 5=E.v/\Dz G w0 W (vN b c4 p.2 T F Iq E p.1)
def oU(es:List Ev)(s:Nt)(m:Mp):List Ev×Nt:=(if (s.cu m).1=true then es++[oF (s.cu m).2.now m true] else es,(s.cu m).2)
theorem qfP(h:(s.fs.any fun y=>pq m y.2)=true):oU es s m=(es,s):=by
 (have e:s.cu m=(false,s):=by unfold Nt.cu Nt.find;rw[←yC,h,aZ rfl])
 unfold oU
 rw[e]
 rfl
theorem qfQ(h:(s.fs.any fun y=>pq m y.2)=false)(hg:(dH s.ms m).any (fun o=>eu o==eu m)=true):oU es s m=(es,s.dF s.f s.h (dH s.ms m)):=by
 (have e:s.cu m=(false,s.dF s.f s.h (dH s.ms m)):=by unfold Nt.cu Nt.find sr;rw[←yC,h,aT (by decide),hg,aZ rfl])
 unfold oU
 rw[e]
 rfl
theorem qfR(h:(s.fs.any fun y=>pq m y.2)=false)(hg:(dH s.ms m).any (fun o=>eu o==eu m)=false):oU es s m=(es++[oF s.now m true],s.dF (lu s.f m) (zi s.f s.h m) (dH s.ms m)):=by
 (have e:s.cu m=(true,s.dF (lu s.f m) (zi s.f s.h m) (dH s.ms m)):=by unfold Nt.cu Nt.find sr;rw[←yC,h,aT (by decide),hg,aT (by decide)])
 unfold oU
 rw[e]
 rfl
section
variable (G:Nat->Prop) (w0:World) (b c4 c9:Nat) (s:Nt) (F Iq E:Sl) (T:Sl) (es:List Ev) (m:Mp) (gv:Bool) (f' h':Nat->Int)
def XC(g:Nat->ag)(W:af):Prop:=∃(c13:Nat) (T':Sl),g 0=V (some ⟨b,0,none⟩)/\g 4=V (some ⟨c4,0,none⟩)/\g 5=E.v/\g 9=V (some ⟨c9,0,none⟩)/\g 13=V (some ⟨c13,0,none⟩)/\g 14=.bool gv/\Dz G w0 W [cR 42 c13 (tc f' s.g h' (.slice T'.a T'.n T'.c)),cR 72 c9 (mc m),cL 100 5 E.v es.length (es.flatMap nh),cR 29 c4 (eZ 0).cells,cR 46 b (i5 s T F Iq),cL 75 10 F.v s.fs.length (iy s.fs),cL 3 1 Iq.v s.fs.length (gQ s.fs),cM T'.v (dH s.ms m)]
end
theorem qfS(E:Sl)(es:List Ev)(e:Ev):cL 100 5 E.v (es++[e]).length ((es++[e]).flatMap nh)=cL 100 5 E.v (es.length+1) (es.flatMap nh++(ec e).toList):=by
 rw[List.length_append,nD];rfl
def qfT{f h:Nat->Int}{g:Nat->Bool}{sl:ag}{ms:List Mp}{w':af}{e:Ending}(hc:AG w f g h sl ms m w' e)(hm:m∈ms){gv:Bool}{f' h':Nat->Int}(hg:(dH ms m).any (fun o=>eu o==eu m)=!gv)(hf:f'=if gv then lu f m else f)(hh:h'=if gv then zi f h m else h):∃T':Sl,e=.returned (.tuple #[.agg (tc f' g h' (.slice T'.a T'.n T'.c)),.bool gv,I Z 0])/\cE w' T'.v (dH ms m)/\jw T'.v/\(0<(dH ms m).length->w.heap.size<=mb T'.v):=by
 obtain⟨v,hM,hN,hl,h1,h2⟩:=hc.2 hm
 obtain⟨sa,cap,hv,_⟩:=id hM
 subst hv
 refine⟨⟨sa,_,cap⟩,?_,hM,hN,hl⟩
 cases gv with
 | true=>rw[hf,hh,aZ rfl,aZ rfl];exact h2 hg
 | false=>rw[hf,hh,aT (by decide),aT (by decide)];exact h1 hg
def BV(h:p:=by
 refine fQ 11 ?_;refine iG B 0 ?_;clear B A;intro W B A;refine er [12,13] ?_
 exact fM (endF ⟨c13,T',by kernel_rfl,by kernel_rfl,by kernel_rfl,by kernel_rfl,by kernel_rfl,by kernel_rfl,B⟩)):p:=h
def qfU{c4:Nat}(hes:es.length<=100000)(CC:∀(w:af),cE w T.v s.ms->az prog 61 #[.agg (tc s.f s.g s.h T.v),.agg (mc m)] w fun e w'=>AG w s.f s.g s.h T.v s.ms m w' e/\aq w.heap.size w w')(hm:m∈s.ms)(hp:1024<=m.2.2.2.2/\m.2.2.2.2<1072)(hC:∀g W,JO G w0 b c4 (oU es s m) g W->Q (.exit 3) (cJ 210 g) W)(hN:∀g W,JO G w0 b c4 (oU es s m) g W->Q .normal (cJ 210 g) W)(f:Nat->ag)(W:af)(h:JM G w0 b c4 c9 s T F Iq E es m 0 f W):(tkT f25).wp prog Q (cJ 210 f) W:=by
 obtain⟨j,hk,hj,f0,f4,f5,f9,f10,-,-,-,B⟩:=h
 obtain rfl:j=s.fs.length:=by omega
 rw[bn] at f10
 clear hk hj
 conv=>arg 2;whnf
 simp only[cJ,aA,aF,aB,aI,f0,f4,f5,f9,f10]
 clear f0 f4 f5 f9 f10
 unfold vN bD at B
 cases GQ:s.fs.any (fun y=>pq m y.2) with
 | true=>
  rw[qfP GQ] at hC
  clear CC hm hp hN GQ;have HC:=ar hC;clear hC
  go_wp2
  exact rj HC.out ⟨T,F,Iq,E,by kernel_rfl,by kernel_rfl,by kernel_rfl,B.drop 1⟩
 | false=>
  have HP:=ar hp;have Hs:=ar hes;have HM:=ar hm;clear hC hp hes hm
  go_upto_region 25 with fail
  rename_i K hK
  obtain⟨gv,Pf⟩:∃gv,(dH s.ms m).any (fun o=>eu o==eu m)=!gv:=⟨!(dH s.ms m).any (fun o=>eu o==eu m),by simp⟩
  obtain⟨f',hf'⟩:∃f',f'=if gv then lu s.f m else s.f:=⟨_,rfl⟩
  obtain⟨h',V9⟩:∃h',h'=if gv then zi s.f s.h m else s.h:=⟨_,rfl⟩
  (have CI:=fun(w w':af) (e:Ending) (hc:AG w s.f s.g s.h T.v s.ms m w' e)=>qfT hc HM.out Pf hf' V9)
  refine FN (n:=210) (XC G w0 b c4 c9 s F Iq E T es m gv f' h') ?_ ?_
  .clear hK hN Pf hf' V9 GQ;refine nZ B 6 [] ?_;clear B;intro W B A;refine er [0,1,2,3,4] ?_
   refine qw 5 10 (nx ?_) (nx ?_)
   .refine kc (CC _ (B.at 6 rfl).1) ?_;rintro e W ⟨hc,hb⟩
    obtain⟨T',rfl,hM,hN,hq⟩:=CI _ _ _ hc
    (replace B:=B.maps 6 rfl hb hM hN (fun h=>.inl (hq h)))
    refine⟨_,rfl,nJ ?_⟩
    clear A hM hN hq hb hc;intro A;refine er [6,7,8,9] ?_;refine fQ 10 ?_;refine tA B ?_;clear B A;intro c13 W B A;refine mi ?_
    exact BV
   .refine tA B ?_;clear B A;intro c13 W B A;refine mi ?_;refine fQ 5 ?_;refine kc (CC _ (B.at 7 rfl).1) ?_;rintro e W ⟨hc,hb⟩
    obtain⟨T',rfl,hM,hN,hq⟩:=CI _ _ _ hc
    (replace B:=B.maps 7 rfl hb hM hN (fun h=>.inl (hq h)))
    refine⟨_,rfl,nJ ?_⟩
    clear A hM hN hq hb hc;intro A;refine er [6,7,8,9] ?_
    exact BV
  .clear B CI CC;rintro g W ⟨c13,T',g0,g4,g5,g9,g13,g14,B⟩;refine hK _ _ ?_;clear hK
   simp only[cJ,aA,aF,aB,aI,g0,g4,g5,g9,g13,g14]
   clear g0 g4 g5 g9 g13 g14
   cases gv with
   | false=>
    obtain rfl:=hf'
    obtain rfl:=V9
    rw[qfQ GQ Pf] at hN
    have HN:=ar hN;clear hN Pf GQ
    go_wp2_with (first|(refine eG ?_;first|refine gJ ?_|refine iF ?_|refine eP ?_)|(refine fe ?_;refine ld B 4 _ ?_ (hd:=PW _ _ _ _ _ _ _ (dH s.ms m) _);clear B;intro W B))
    exact rj HN.out ⟨T',F,Iq,E,by kernel_rfl,by kernel_rfl,by kernel_rfl,B.drop 2⟩
   | true=>
    obtain rfl:=hf'
    obtain rfl:=V9
    rw[qfR GQ Pf] at hN
    have HN:=ar hN;(have CK:=fun w=>yb m.2.2.2.2 w HP.out);clear hN Pf GQ
    go_upto_region 29 with(first|(go_at_call 54;go_fit (CK _);rintro e W ⟨rfl,rfl⟩)|(refine eG ?_;first|refine gJ ?_|refine iF ?_|refine eP ?_)|(refine fe ?_;refine ld B 4 _ ?_ (hd:=PW _ _ _ _ _ _ _ (dH s.ms m) _);clear B;intro W B))
    (try simp only[aQ,aR] at B)
    refine nZ B 99 [12] ?_;clear B;intro W B A;refine SP ?_;refine fQ 11 ?_;refine Hm (v:=.agg (ec (oF s.now m true))) B ?_;clear B A;intro ce W B;refine xh ?_;intro A;refine fQ 12 ?_
    refine Mu B 3 0 ?_ (hn:=by have:=Hs.out;omega)
    clear B A;intro E' W B;refine zv ?_;refine er [13] ?_;refine fM ?_
    go_wp2
    have D:=B.drop 3
    exact rj HN.out ⟨T',F,Iq,E',by kernel_rfl,by kernel_rfl,by kernel_rfl,by unfold vN;rw[qfS];exact D⟩
def tkM(F:Func):Code:=(F.body.bind (qz 4)).getD .skip
theorem qfV(fs:List (Nat×Fl))(v:ag)(hn:n=fs.length)(hi:i<n):cL 75 10 v (0+i+(n-(i+1))) ([]++(iy fs).take (i*10)++(iy fs).drop ((i+1)*10))=cL 75 10 v (fs.take i++fs.drop (i+1)).length (iy (fs.take i++fs.drop (i+1))):=by
 unfold iy
 rw[jh,Mz _ 10 pN,MA _ 10 pN,←nD]
 congr 1
 simp;omega
theorem qfW(fs:List (Nat×Fl))(v:ag)(hn:n=fs.length)(hi:i<n):cL 3 1 v (0+i+(n-(i+1))) ([]++(gQ fs).take (i*1)++(gQ fs).drop ((i+1)*1))=cL 3 1 v (fs.take i++fs.drop (i+1)).length (gQ (fs.take i++fs.drop (i+1))):=by
 unfold gQ
 rw[jh,mE,mE,List.map_append,List.map_take,List.map_drop]
 congr 1
 simp;omega
theorem qfX(s:Nt)(i:Int)(T F Iq:Sl):i5 s T F Iq=i5 (s.less i) T F Iq:=by kernel_rfl
def qfY{c4:Nat}(hl:s.fs.length<=48)(s7:s.fs.Pairwise (fun x y=>x.1<y.1))(hx:s.fs[i]?=some x)(hes:es.length<=100000)(CC:∀(w:af),cE w T.v s.ms->az prog 61 #[.agg (tc s.f s.g s.h T.v),.agg (mc (dZ x.2))] w fun e w'=>AG w s.f s.g s.h T.v s.ms (dZ x.2) w' e/\aq w.heap.size w w')(hm:dZ x.2∈s.ms)(hp:1024<=x.2.port/\x.2.port<1072)(hC:∀g W,JO G w0 b c4 (oU es (s.less (x.1:Int)) (dZ x.2)) g W->Q (.exit 3) (cJ 210 g) W)(hN:∀g W,JO G w0 b c4 (oU es (s.less (x.1:Int)) (dZ x.2)) g W->Q .normal (cJ 210 g) W)(f:Nat->ag)(W:af)(f0:f 0=V (some ⟨b,0,none⟩))(f4:f 4=V (some ⟨c4,0,none⟩))(f5:f 5=E.v)(f6:f 6=I Z (i:Int))(B:Dz G w0 W (vN b c4 s T F Iq E es)):(tkM f25).wp prog Q (cJ 210 f) W:=by
 have MX:i<s.fs.length:=(aJ.1 hx).1;obtain⟨fa,fn,oG⟩:=F;obtain⟨ia,in',V8⟩:=Iq
 unfold vN bD at B
 obtain⟨rfl,hg⟩:fn=s.fs.length/\(0<s.fs.length->∃g,fa=some ⟨g,0,none⟩):=n4 (B.at 3 rfl)
 obtain⟨rfl,hi⟩:in'=s.fs.length/\(0<s.fs.length->∃g,ia=some ⟨g,0,none⟩):=n4 (B.at 4 rfl)
 obtain⟨g,rfl⟩:=hg om
 obtain⟨gi,rfl⟩:=hi om
 unfold Sl.v at B
 (have hcF:s.fs.length<=oG:=by obtain⟨_,_,_,_,h,_⟩:=B.rc (i:=3) rfl;exact h);(have Wa:s.fs.length<=V8:=by obtain⟨_,_,_,_,h,_⟩:=B.rc (i:=4) rfl;exact h)
 conv=>arg 2;whnf
 simp only[cJ,aA,aF,aB,aI,f0,f4,f5,f6]
 clear f0 f4 f5 f6 hg hi;have HCF:=ar hcF;have HCI:=ar Wa
 have HM:aK (((iy s.fs).drop (i*10)).take 5=(mc (dZ x.2)).toList):=ar (by
  have:=congrArg (nr 5) (ug (fun x:Nat×Fl=>(fc x.2).toList) 10 pN s.fs i x hx)
  rw[List.take_take] at this
  exact this)
 (have sk:=fun w=>Hn g s.fs.length oG i MX w);(have di:¬(i:Int)<0:=by omega);have HIW:aK (IntKind.i64.wrap ((i:Int)+1)=((i+1:Nat):Int)):=ar (wrap_i64 _ om om);have HFS:aK ((s.less (x.1:Int)).fs=s.fs.take i++s.fs.drop (i+1)):=ar (qfI s7 hx);have HL:=ar hl;have uM:=ar MX;have Hs:=ar hes;have EG:=ar hm;have HPP:=ar hp;have HC:=ar hC;have HN:=ar hN;clear hcF Wa s7 hl MX hx hes hm hp hC hN
 go_upto_region 16 with(first|(refine iz (t:=72) ?_;refine iN ?_;clear B;intro c9 W B)|(refine eG (t:=72) ?_;refine dEp 3 B HM.out ?_)|(refine eG ?_;first|refine gJ ?_|refine iF ?_|refine eP ?_)|(refine fe ?_;(first|refine dD B 0 ?_|refine dD B 1 ?_);clear B;intro W B))
 rename_i K1 hK1
 (try simp only[aQ,aR] at B)
 refine nZ B 99 [18] ?_;clear B;intro W B A;refine er [0,1,2,3,4,5] ?_
 refine dTh (e:=75) (f:=10) 6 ?_ (Nat.le_of_lt uM.out) HCF.out
 refine er [8,9,10,11,12,13] ?_
 refine dTt (e:=75) (f:=10) (k:=i+1) 14 ?_ uM.out HCF.out (hy:=by first|exact rfl|exact congrArg (bO .i64) HIW.out)
 refine mi ?_;refine fQ 7 ?_
 refine VV (zs:=(iy s.fs).take (i*10)) (B.nil 75 10) 0 5 ?ka1 ?kb1 ?kc1 (Sz _) ?kd1
 case kb1=>exact congrArg (nr (i*10)) List.drop_zero
 case kc1=>rw[eD,MG];have:=uM.out;omega
 case kd1=>have:=uM.out;have:=HL.out;omega
 clear B A;intro S1 W B;refine xh ?_;intro A;refine fQ 15 ?_
 refine VV (zs:=(iy s.fs).drop ((i+1)*10)) B 0 5 ?ka2 ?kb2 ?kc2 (Sz _) ?kd2
 case kb2=>exact Sw (MG _) uM.out HCF.out
 case kc2=>rw[kW,MG,Nat.sub_mul]
 case kd2=>have:=uM.out;have:=HL.out;omega
 clear B A;intro S2 W B;refine nJ ?_;intro A;refine er [16,17] ?_;refine fQ 18 ?_
 refine OW (v:=S2.v) B 4 ?_ (hd:=by exact RV _ _ _ _ _)
 clear B A;intro W B;refine zv (fM ?_)
 simp only[aQ,aR] at B
 replace B:=B.pick [1,2,3,4,0,6,7]
 simp only[List.filterMap_cons,List.filterMap_nil,dN,dO] at B
 go_upto_region 17 with fail
 rename_i K2 hK2
 refine nZ B 99 [18] ?_;clear B;intro W B A;refine er [0,1,2,3,4,5] ?_
 refine dTh (e:=3) (f:=1) 6 ?_ (Nat.le_of_lt uM.out) HCI.out
 refine er [8,9,10,11,12,13] ?_
 refine dTt (e:=3) (f:=1) (k:=i+1) 14 ?_ uM.out HCI.out (hy:=by first|exact rfl|exact congrArg (bO .i64) HIW.out)
 refine mi ?_;refine fQ 7 ?_
 refine VV (zs:=(gQ s.fs).take (i*1)) (B.nil 3 1) 0 6 ?ka3 ?kb3 ?kc3 (SA _) ?kd3
 case kb3=>exact congrArg (nr (i*1)) List.drop_zero
 case kc3=>rw[eD,MH];have:=uM.out;omega
 case kd3=>have:=uM.out;have:=HL.out;omega
 clear B A;intro I1 W B;refine xh ?_;intro A;refine fQ 15 ?_
 refine VV (zs:=(gQ s.fs).drop ((i+1)*1)) B 0 6 ?ka4 ?kb4 ?kc4 (SA _) ?kd4
 case kb4=>exact Sw (by rw[MH,mE]) uM.out HCI.out
 case kc4=>rw[kW,MH,mE,mE]
 case kd4=>have:=uM.out;have:=HL.out;omega
 clear B A;intro I2 W B;refine nJ ?_;intro A;refine er [16,17] ?_;refine fQ 18 ?_
 refine OW (v:=I2.v) B 4 ?_ (hd:=by exact RX _ _ _ _ _)
 clear B A;intro W B;refine zv (fM ?_)
 simp only[aQ,aR] at B
 replace B:=B.pick [1,2,3,4,5,0,7]
 simp only[List.filterMap_cons,List.filterMap_nil,dN,dO] at B
 rw[qfV s.fs S2.v rfl uM.out,qfW s.fs I2.v rfl uM.out,←HFS.out,qfX s (x.1:Int)] at B
 clear sk HM;have B:Dz G w0 W (cR 72 c9 (mc (dZ x.2))::vN b c4 (s.less (x.1:Int)) T S2 I2 E es):=B
 unfold vN bD at B
 go_wp2_with (refine eG ?_;refine eP ?_)
 rename_i K3 hK3
 have hl2:(s.less (x.1:Int)).fs.length<=48:=aw (List.length_filter_le _ _) HL.out;have B:Dz G w0 W (cR 72 c9 (mc (dZ x.2))::vN b c4 (s.less (x.1:Int)) T S2 I2 E es):=B;have hS2:S2.n=(s.less (x.1:Int)).fs.length:=(n4 (B.at 4 rfl)).1
 refine lG (n:=210) (JM G w0 b c4 c9 (s.less (x.1:Int)) T S2 I2 E es (dZ x.2)) (s.less (x.1:Int)).fs.length (fun f hJ=>lF _ hJ (qfN hl2 ?_)) ⟨0,rfl,bZ _,by kernel_rfl,by kernel_rfl,by kernel_rfl,by kernel_rfl,by kernel_rfl,by kernel_rfl,by rw[←hS2];kernel_rfl,by kernel_rfl,B⟩
 intro g W hJ
 show K3 (cJ 210 g) W
 exact hK3 _ _ (qfU (s:=s.less (x.1:Int)) (T:=T) (m:=dZ x.2) Hs.out CC EG.out HPP.out HC.out HN.out g W hJ)
section
variable (w:World) (f:Nat->Int) (g:Nat->Bool) (h:Nat->Int) (sl:Value) (ms:List Mp) (m:Mp) (kb:Int) (c2 c3 c4 c7:Nat)
def MZ(F:Nat->Int)(v:ag)(D:List Mp):List Cp:=[cL 72 5 v D.length (eF D),cR 42 c7 (tc F g h v),cR 72 c3 (mc m),cR 42 c2 (tc f g h sl),cR 42 c4 (tc (fun _=>0) (fun _=>false) (fun _=>0) (.slice none 0 0))]
def yH(u:Nat->ag):Prop:=[u 2,u 3,u 4,u 7,u 8]=[V (some ⟨c2,0,none⟩),V (some ⟨c3,0,none⟩),V (some ⟨c4,0,none⟩),V (some ⟨c7,0,none⟩),I Z kb]
def JC(q:Nat)(u:Nat->ag)(W:af):Prop:=∃(j:Nat) (v:ag),q=ms.length-j/\j<=ms.length/\yH kb c2 c3 c4 c7 u/\[u 11,u 12,u 35,u 36,u 37]=[I Z (rL (dH (ms.take j) m) m kb:Int),.bool (decide (m∈ms.take j)),sl,I Z (ms.length:Int),I Z (j:Int)]/\Dz (fun _=>False) w W (MZ f g h sl m c2 c3 c4 c7 f v (dH (ms.take j) m))
def JH(F:Nat->Int)(v:ag)(D:List Mp)(aN:Nat)(q:Nat)(u:Nat->ag)(W:af):Prop:=∃k:Nat,q=6-k/\k<=6/\yH kb c2 c3 c4 c7 u/\[u 18,u 88,u 89]=[.bool (rM F aN k m.2.1),.agg (r6 (aX F aN)),I Z (k:Int)]/\Dz (fun _=>False) w W (MZ f g h sl m c2 c3 c4 c7 F v D)
end
section
variable {w:World} {f:Nat->Int} {g:Nat->Bool} {h:Nat->Int} {sl:Value} {ms:List Mp} {m:Mp} {kb:Int} {c2 c3 c4 c7:Nat}
def su(h:p:=by
 go_wp2_with (first|(refine qU rfl (.tmp 35) (.tmp 37) rfl _ ms iv rfl j rfl hlt ?_)|(refine iz ?_;refine iN ?_;clear B;intro mG W B)|(refine wpList_load_mid rfl 72 (.tmp 39) rfl _ _ rfl (jn o) _ hrg underlying72 rfl (xR _) ?_;rw[Ag];clear hrg iv)|(refine eEq ?_;refine dEm ?_)|(refine eG ?_;first|refine gJ ?_|refine eP ?_ (hc:=ma _ _ _ _)|refine eP ?_ (hc:=VQ _)|refine eP ?_ (hc:=mk4 _))|(go_at_call 54;go_fit (CB _);refine Bx ?_)|(refine O1 ?_;refine O3 B ?_;clear B;intro c W B)|(refine O2 ?_;refine O4 B 2 0 ?_;clear B;intro S W B;refine nzA ?_)|(refine fe ?_;(first|refine dD B 0 ?_|refine ld B 3 (tc f g h S.v) ?_);clear B;intro W B))
 (try simp only[fU,hcw])
 first
  | exact je (ms.length-(j+1)) (by have:=HK.out;have:=fR.out;omega) ⟨j+1,v,rfl,fR.out,by unfold yH;kernel_rfl,by rw[HD.out,←HC.out,HT.out,decide_eq_true e0,Bool.or_true];kernel_rfl,by rw[HD.out];exact B.drop 1⟩
  | exact je (ms.length-(j+1)) (by have:=HK.out;have:=fR.out;omega) ⟨j+1,S.v,rfl,fR.out,by unfold yH;kernel_rfl,by rw[HD.out,HV.out,←HC.out,HT.out];kernel_rfl,by rw[HD.out];unfold MZ;rw[HF.out,HN.out];exact B.drop 2⟩):p:=h
def qfZ(hM:cE w sl ms)(hl:ms.length<=1000)(hst:∀o∈ms,1024<=o.2.2.2.2/\o.2.2.2.2<1072)(hx:∀u W,JC w f g h sl ms m kb c2 c3 c4 c7 0 u W->Q (.exit 0) (cJ 108 u) W)(q:Nat)(u:Nat->ag)(W:af)(hJ:JC w f g h sl ms m kb c2 c3 c4 c7 q u W):
  (uh f61 0).wp prog (Exit.then (ri 108 (JC w f g h sl ms m kb c2 c3 c4 c7) q) Q) (cJ 108 u) W:=by
 obtain⟨j,v,hk,hj,hS,hV,B⟩:=hJ
 unfold yH at hS
 simp only[aO,and_true] at hS hV
 obtain⟨f2,f3,f4,f7,f8⟩:=hS;obtain⟨f11,f12,f35,f36,f37⟩:=hV
 unfold MZ at B
 conv=>arg 2;whnf
 simp only[cJ,aA,aF,aB,aI,f2,f3,f4,f7,f8,f11,f12,f35,f36,f37]
 clear f2 f3 f4 f7 f8 f11 f12 f35 f36 f37;have HX:=ar hx;have HK:=ar hk;clear hx hk
 by_cases hlt:j<ms.length
 .obtain⟨o,hm⟩:∃o,ms[j]=o:=⟨_,rfl⟩
  have iv:=hM.keep B.iW hM.lt;have hrg:=iv.at j hlt hm;have HD:=ar (qzu (m:=m) hlt hm);have HT:=ar (Z0 (m:=m) hlt hm);have xW:=YY ms m j;have hlv:=ZY (dH (ms.take j) m) m kb;(have CB:=fun w=>yb o.2.2.2.2 w (hst o (hm▸List.getElem_mem hlt)));(have HV:=ar fun l=>ZX l m o kb)
  generalize decide (m∈ms.take j)=th at *
  generalize dH (ms.take j) m=D at *
  obtain⟨c,hc⟩:∃c,c=rL D m kb:=⟨_,rfl⟩
  rw[←hc] at hlv ⊢
  have HC:=ar hc;(have kQ:(j:Int)<(ms.length:Int):=by omega);have fU:=oQ (p:=j) om;have hcw:=oQ (p:=c) om;have qA:aK (D.length<=1000):=ar om;have fR:aK _:=hlt;have HF:aK (eF (D++[o])=eF D++(mc o).toList):=ar (by rw[U6,U7];rfl);have HN:aK ((D++[o]).length=D.length+1):=ar zm;clear hj hl hlv xW hm hc hst
  by_cases e0:o=m
  ·(have e1:(o==m)=true:=by simpa using e0)
   rw[aZ e0,List.append_nil] at HD
   exact su
  ·(have e1:(o==m)=false:=by simpa using e0)
   rw[aT e0] at HD
   rw[decide_eq_false e0,Bool.or_false] at HT
   cases g1:(o.2.2.2.1==m.2.2.2.1) with
   | false=>
    rw[g1] at HV
    exact su
   | true=>
    rw[g1] at HV
    cases g2:(fL o.2.2.2.2==kb) with
    | false=>
     rw[g2] at HV
     exact su
    | true=>
     rw[g2] at HV
     exact su
 ·(have kQ:¬(j:Int)<(ms.length:Int):=by omega)
  obtain rfl:j=ms.length:=by omega
  clear hlt hj hl hst
  go_wp2
  exact rj HX.out ⟨ms.length,v,by omega,au _,by unfold yH;kernel_rfl,by rw[bn];kernel_rfl,B⟩
def xl(h:p:=by
 exact je (6-(k+1)) (by have:=HK.out;have:=fR.out;omega) ⟨k+1,rfl,fR.out,by unfold yH;kernel_rfl,by rw[HST.out];kernel_rfl,B⟩):p:=h
def qf4{F:Nat->Int}{D:List Mp}{aN:Nat}(hs:0<=m.2.1/\m.2.1<8)(hx:∀u W,JH w f g h sl m kb c2 c3 c4 c7 F v D aN 0 u W->Q (.exit 2) (cJ 108 u) W)(q:Nat)(u:Nat->ag)(W:af)(hJ:JH w f g h sl m kb c2 c3 c4 c7 F v D aN q u W):
  (uh f61 1).wp prog (Exit.then (ri 108 (JH w f g h sl m kb c2 c3 c4 c7 F v D aN) q) Q) (cJ 108 u) W:=by
 obtain⟨k,hk,qo,hS,hV,B⟩:=hJ
 unfold yH at hS
 simp only[aO,and_true] at hS hV
 obtain⟨f2,f3,f4,f7,f8⟩:=hS;obtain⟨f18,f88,f89⟩:=hV
 unfold MZ at B
 conv=>arg 2;whnf
 simp only[cJ,aA,aF,aB,aI,f2,f3,f4,f7,f8,f18,f88,f89]
 clear f2 f3 f4 f7 f8 f18 f88 f89;have HX:=ar hx;have HK:=ar hk;clear hx hk
 by_cases hlt:k<6
 ·(have hki:(k:Int)<6:=by omega);(have IX:=fun w=>q5y (aX F aN) k hlt w);have fU:=oQ (p:=k) om;(have hsw:bK (m.2.1+1)=m.2.1+1:=by unfold bK;omega);have HST:=ar (qaO F aN k m.2.1);have e:F (6*aN+k)=aX F aN k:=rfl
  rw[e] at HST
  generalize aX F aN k=x at *
  generalize rM F aN k m.2.1=t at *
  have fR:aK _:=hlt;clear qo hlt hs e
  cases t with
  | true=>
   go_wp2
   (try simp only[fU])
   exact xl
  | false=>
   go_wp2_with (refine eG ?_;refine eP ?_)
   (try simp only[fU])
   exact xl
 .obtain rfl:k=6:=by omega
  clear hlt qo
  go_wp2
  exact rj HX.out ⟨6,rfl,au _,by unfold yH;kernel_rfl,by kernel_rfl,B⟩
end
def S5{fn:Func}{R:Ending->World->Prop}{a:Act}{c:Nat}{cs:Array Value}(h:R (.returned (.tuple #[.agg cs,a.tmps.getD 5 undef,a.tmps.getD 6 undef])) w)(hf:fn.results=#[.cell 4 42,.tmp 5,.tmp 6]:=by exact rfl)(hp:a.tmps.getD 4 undef=V (some ⟨c,0,none⟩):=by exact rfl)(Rw:aP 42 w c cs:=by exact B.row 4 rfl)(hi:(prog.info? 42).map (·.size)=some cs.size:=by kernel_rfl)(hd:a.defers=[]:=by exact rfl):bodyPost prog fn R .ret a w:=
 bodyPost_ret (UN hf _ _ _ _ hp Rw _ underlying42 rfl hi) hd h
def qf8(f:Nat->Int)(g:Nat->Bool)(h:Nat->Int)(v:ag){a:Nat}(ha:a<3):((tc f g h v).toList.drop (6*a)).take 6=(r6 (aX f a)).toList:=by
 obtain rfl|rfl|rfl:a=0\/a=1\/a=2:=by omega
 all_goals kernel_rfl
def qgg(f:Nat->Int)(g:Nat->Bool)(h:Nat->Int)(v:ag)(x:Int)(hn:n<18):Nat.ble (n+(bO .i64 x).cells.size) (tc f g h v).size=true:=Nat.ble_eq_true_of_le (by rw[show(tc f g h v).size=30 from ze _ _ _ _,show(bO .i64 x).cells.size=1 from rfl];omega)
def BW(h:p:=by
 clear hr6
 go_wp2_with (first|(refine eG ?_;first|refine gJ ?_|refine eP ?_ (hc:=HM1.out))|(refine fe ?_;(first|refine dD B 4 ?_|refine ld B 1 (tc (lu f m) g (upd h sN 0) (.slice qa (dH ms m).length qc)) ?_ (v:=I Z 0) (f:=21+sN) (hd:=Oc _ _ _ _ _ _ ui.out) (hf:=MK _ _ _ _ _ ui.out));clear B;intro W B))
 exact S5 ⟨⟨fun h=>absurd EG.out h,fun _=>⟨_,(HE.out _ _ (B.own 0 rfl)).1,(HE.out _ _ (B.own 0 rfl)).2.1,(HE.out _ _ (B.own 0 rfl)).2.2,fun h=>absurd (HLZ.out.symm.trans h) zm,fun _=>by rw[HZ.out];rfl⟩⟩,B.iW⟩):p:=h
def qgA(f:Nat->Int)(g:Nat->Bool)(h:Nat->Int)(sl:ag)(ms:List Mp)(m:Mp)(hG:gM f h ms)(hm:m∈ms)(w:af)(hM:cE w sl ms):
  az prog 61 #[.agg (tc f g h sl),.agg (mc m)] w fun e w'=>AG w f g h sl ms m w' e/\aq w.heap.size w w':=by
 have B:=Dz.start w
 obtain⟨a0,cap,dB,-⟩:=id hM
 subst dB
 (have CG:=fun w hM=>SY (g:=g) (sl:=.slice a0 ms.length cap) hG (w:=w) hM);have HG:=ar hG;have HM:=ar hM;have EG:=ar hm;have st:=hG.maps.1 m hm;have qA:=ar (aw hG.len (by decide):ms.length<=1000);(have CB:=fun w=>yb m.2.2.2.2 w st.2.2.2.1);(have hla:=qaN (fun o ho=>hG.maps.1 o (Vn ho)) st (l:=dH ms m));have HR:=ar (qaP hG hm);have HPL:aK (eu m=6*m.2.2.2.1.toNat+(fL m.2.2.2.2).toNat):=ar rfl;have HKB:aK (0<=fL m.2.2.2.2/\fL m.2.2.2.2<6):=ar (by have:=st.2.2.2.1;unfold fL;omega);have HS:=ar st.2.1;have HA:=ar st.2.2.2.2.1
 generalize fL m.2.2.2.2=kb at *
 have Wb:=ar hla;clear hM hG hm st hla
 go_enter func61,ntmps61
 go_wp2_with (first|(refine se ?_;refine sf B ?_;clear B;intro c W B)|(refine iz ?_;refine iN ?_;clear B;intro c W B)|(go_at_call 113;refine S0 ?_;refine kg ?_;clear B;intro W B)|(go_at_call 54;go_fit (CB _);refine Bx ?_)|(refine eG ?_;first|refine gJ ?_|refine eP ?_ (hc:=ma _ _ _ _)|refine eP ?_)|(refine fe ?_;(first|refine dD B 0 ?_|refine ld B 0 (tc f g h (.slice none 0 0)) ?_);clear B;intro W B))
 rename_i K hK
 refine lG (n:=108) (JC w f g h (.slice a0 ms.length cap) ms m kb _ _ _ _) ms.length (fun u hJ=>lF _ hJ (qfZ HM.out qA.out (fun o ho=>(HG.out.maps.1 o ho).2.2.2.1) ?_)) ⟨0,_,rfl,bZ _,by unfold yH;kernel_rfl,by kernel_rfl,(B.pick [0,2,3,1]).nil 72 5⟩
 clear B;rintro u W ⟨j,v,hk,hj,hS,hV,B⟩
 show K (cJ 108 u) W
 refine hK _ _ ?_
 obtain rfl:j=ms.length:=by omega
 rw[bn] at hV B
 unfold yH at hS
 simp only[aO,and_true] at hS hV
 obtain⟨f2,f3,f4,f7,f8⟩:=hS
 obtain⟨f11,f12,-,-,-⟩:=hV
 simp only[cJ,aA,aF,aB,aI,f2,f3,f4,f7,f8,f11,f12,decide_eq_true EG.out]
 clear f2 f3 f4 f7 f8 f11 f12 hK hk hj CG CB
 unfold MZ at B
 obtain⟨qa,qc,rfl⟩:=wO (B.at 0 rfl:World.ownsRow W 0 72 5 v _ _)
 (have HE:=ar fun(v:ag) (W:af) (h:W.ownsRow w.heap.size 72 5 v (dH ms m).length (eF (dH ms m)))=>Qh h (by have:=YY ms m ms.length;rw[bn] at this;have:=qA.out;omega))
 generalize hlv:rL (dH ms m) m kb=lv at *
 by_cases h0:lv=0
 .have HLZ:=ar (Wb.out.1 h0)
  subst h0
  clear Wb hlv
  obtain⟨aN,Wc⟩:∃aN:Nat,m.2.2.2.1=(aN:Int):=⟨m.2.2.2.1.toNat,by have:=HA.out;omega⟩
  obtain⟨kN,rfl⟩:∃kN:Nat,kb=(kN:Int):=⟨kb.toNat,by have:=HKB.out;omega⟩
  obtain⟨sN,SZ⟩:∃sN:Nat,m.2.1=(sN:Int):=⟨m.2.1.toNat,by have:=HS.out;omega⟩
  (have wN:aN<3:=by have:=HA.out;omega);(have qo:kN<6:=by have:=HKB.out;omega);(have kG:sN<8:=by have:=HS.out;omega);have HP:aK (eu m=6*aN+kN):=ar (by rw[HPL.out,Wc];simp);have MS:aK (6*aN+kN<18):=ar om;have HA3:=ar wN;have ui:=ar kG;(have I3:=fun b w=>MI b 0 aN wN w);(have I6:=fun b w=>MJ b (6*aN) kN qo w);(have I8:=fun b w=>QO b 21 sN kG w)
  simp only[bX] at I3
  have HM3:aK ((mc m)[3]?=some (I Z (aN:Int))):=ar (by rw[VQ,Wc]);have HM1:aK ((mc m)[1]?=some (I Z (sN:Int))):=ar (by rw[mk1,SZ]);have xk:aK (rM (lu f m) aN 6 m.2.1=true↔(fI (lu f m) m.2.1).length≠0):=ar (by have:=HR.out;rw[Wc] at this;exact this);have M3:=ar SZ;clear HR wN qo kG Wc SZ HPL
  go_wp2_with (first|(refine eG ?_;first|refine eP ?_ (hc:=HM3.out)|refine iF ?_ (hp:=qf8 _ _ _ _ HA3.out))|(refine fe ?_;refine ld B 1 (tc (lu f m) g h (.slice qa (dH ms m).length qc)) ?_ (v:=I Z 0) (f:=6*aN+kN) (hd:=(q9h _ _ _ _ _ _ MS.out).trans (by rw[←HP.out];rfl)) (hf:=qgg _ _ _ _ _ MS.out);clear B;intro W B))
  rename_i K2 hK2
  refine lG (n:=108) (JH w f g h (.slice a0 ms.length cap) m (kN:Int) _ _ _ _ (lu f m) (.slice qa (dH ms m).length qc) (dH ms m) aN) 6 (fun u hJ=>lF _ hJ (qf4 HS.out ?_)) ⟨0,rfl,bZ _,by unfold yH;kernel_rfl,by kernel_rfl,B⟩
  clear B;rintro u W ⟨k,hk,qo,hS,hV,B⟩
  show K2 (cJ 108 u) W
  refine hK2 _ _ ?_
  obtain rfl:k=6:=by omega
  unfold yH at hS
  simp only[aO,and_true] at hS hV
  obtain⟨f2,f3,f4,f7,f8⟩:=hS
  obtain⟨f18,-,-⟩:=hV
  simp only[cJ,aA,aF,aB,aI,f2,f3,f4,f7,f8,f18]
  clear f2 f3 f4 f7 f8 f18 hK2 hk qo I3 I6
  unfold MZ at B
  cases hr6:rM (lu f m) aN 6 m.2.1 with
  | true=>
   (have HZ:aK (zi f h m=h):=ar (by unfold zi;rw[aT (xk.out.1 hr6)]))
   exact BW
  | false=>
   (have HZ:aK (zi f h m=upd h sN 0):=ar (by unfold zi;rw[aZ (Classical.byContradiction (fun hq=>absurd (xk.out.2 hq) (by simp[hr6]))),M3.out];rfl))
   exact BW
 ·(have hlz:(0:Int)<(lv:Int):=by omega)
  have HNE:aK ((dH ms m).any (fun o=>eu o==eu m)=true):=ar (by
   cases hq:(dH ms m).any (fun o=>eu o==eu m) with
   | true=>rfl
   | false=>exact absurd (Wb.out.2 hq) h0)
  clear Wb hlv h0
  go_wp2_with (first|(refine eG ?_;refine gJ ?_)|(refine fe ?_;refine dD B 4 ?_;clear B;intro W B))
  exact S5 ⟨⟨fun h=>absurd EG.out h,fun _=>⟨_,(HE.out _ _ (B.own 0 rfl)).1,(HE.out _ _ (B.own 0 rfl)).2.1,(HE.out _ _ (B.own 0 rfl)).2.2,fun _=>rfl,fun h=>absurd (HNE.out.symm.trans h) zm⟩⟩,B.iW⟩
def JT(G:Nat->Prop)(w0:af)(b c4:Nat)(u:Nt)(D:List Int)(k:Nat)(f:Nat->ag)(W:af):Prop:=∃l r:List Int,k=r.length/\aK (zA u l r)/\l++r=D/\JO G w0 b c4 (eW u l) f W
theorem qgB{a:Nt}(es:List Ev)(hp:a.fs.Pairwise (fun x y=>x.1<y.1))(hx:x∈a.fs):qC (es,a) (x.1:Int)=oU es (a.less (x.1:Int)) (dZ x.2):=S6 es hp hx
def qgC{c4:Nat}{u:Nt}(hu:u.fs=s.fs)(hl:s.fs.length<=48)(s7:s.fs.Pairwise (fun x y=>x.1<y.1))(hx:∀g W,JO G w0 b c4 (eW u (s.cK u.now)) g W->Q (.exit 2) (cJ 210 g) W)(k:Nat)(f:Nat->ag)(W:af)(h:JT G w0 b c4 u (s.cK u.now) k f W):(uh f25 1).wp prog (Exit.then (ri 210 (JT G w0 b c4 u (s.cK u.now)) k) Q) (cJ 210 f) W:=by
 obtain⟨l,r,hk,HF,hD,T,F,Iq,E,f0,f4,f5,B⟩:=h;(have hlen:(eW u l).2.fs.length<=48:=by have:=HF.out.len;rw[hu] at this;omega);(have hes:(eW u l).1.length<=100000:=by have:=HF.out.es;have:=HF.out.len;rw[hu] at this;omega);have dn:(eW u l).2.now=u.now:=HF.out.rest.1;have iZ:=HF.out.ok;(have HR:=ar (fun z hb=>qfK hu s7 HF.out hD (z:=z) hb))
 have HS:aK (∀(x:Nat×Fl) (r':List Int),x∈(eW u l).2.fs->r=(x.1:Int)::r'->∀g W,JO G w0 b c4 (oU (eW u l).1 ((eW u l).2.less (x.1:Int)) (dZ x.2)) g W->ri 210 (JT G w0 b c4 u (s.cK u.now)) k (cJ 210 g) W):=ar (fun x r' uE hr g W hO=>by
  subst hr
  refine⟨r'.length,by rw[hk];exact Nat.lt_succ_self _,g,rfl,l++[(x.1:Int)],r',rfl,ar HF.out.step,by rw[←hD];simp,?_⟩
  rw[Ht,show eW u l=((eW u l).1,(eW u l).2) from rfl,qgB _ iZ.up uE]
  exact hO)
 (have HX:aK (r=[]->∀g W,JO G w0 b c4 ((eW u l).1,(eW u l).2) g W->Q (.exit 2) (cJ 210 g) W):=ar (fun hr g W hO=>hx g W (by rw[←hD,hr,List.append_nil];exact hO)));clear hx hD hk HF
 generalize(eW u l).1=es at *
 generalize(eW u l).2=a at *
 conv=>arg 2;whnf
 simp only[cJ,aA,aF,aB,aI,f0,f4,f5]
 clear f0 f4 f5
 unfold vN bD at B
 obtain⟨fa,fn,oG⟩:=F
 obtain⟨rfl,-⟩:fn=a.fs.length/\(0<a.fs.length->∃g,fa=some ⟨g,0,none⟩):=n4 (B.at 3 rfl)
 have HL:=ar hlen;have Hs:=ar hes;have HO:=ar iZ;clear hlen hes iZ hl
 go_wp2_with (refine eG ?_;refine eP ?_)
 rename_i K hK
 refine lG (n:=210) (JB G w0 b c4 a T ⟨fa,a.fs.length,oG⟩ Iq E es) a.fs.length (fun f hJ=>lF _ hJ (qfL HL.out HO.out.up ?_)) ⟨0,-1,rfl,bZ _,by kernel_rfl,by kernel_rfl,by kernel_rfl,by kernel_rfl,by kernel_rfl,by kernel_rfl,by kernel_rfl,ar (.inl ⟨rfl,by simp⟩),B⟩
 clear B
 rintro g W ⟨j,z,hk,hj,g0,g4,g5,g6,-,-,-,HB,B⟩
 show K (cJ 210 g) W
 refine hK _ _ ?_
 obtain rfl:j=a.fs.length:=by omega
 have hb:=HB.out
 rw[dn] at hb
 rcases HR.out z hb with⟨hr,rfl⟩|⟨r',i,x,rfl,hx,hr⟩
 .have HX2:=ar (HX.out hr);clear HX HS HR hK hb hr HB hk hj
  simp only[cJ,aA,aF,aB,aI,g0,g4,g5,g6]
  clear g0 g4 g5 g6
  go_wp2
  exact rj HX2.out ⟨T,_,Iq,E,by kernel_rfl,by kernel_rfl,by kernel_rfl,B⟩
 .have hm:=List.mem_of_getElem? hx
  exact qfY HL.out HO.out.up hx Hs.out (qgA a.f a.g a.h T.v a.ms _ HO.out.good (HO.out.mem x hm)) (HO.out.mem x hm) (HO.out.good.maps.1 _ (HO.out.mem x hm)).2.2.2.1 (fun g W hO=>HS.out x r' hm hr g W hO) (fun g W hO=>HS.out x r' hm hr g W hO) g W g0 g4 g5 g6 B
def qgD(B:Dz (lc (bD b s T F Iq)) w w (bD b s T F Iq))(d:Int)(hd:1<=d/\d<=549755813888-s.now)(h:Ci s)(jr:s.logged<=50000):gR 25 #[V (some ⟨b,0,none⟩),I Z d] w b s T F Iq (.agg (s.tick d).1.cells) (s.tick d).2:=by
 have HR:s.tick d=(⟨0,ByteArray.empty,false,((eW (s.later d) (s.cK (s.now+d))).2.log (eW (s.later d) (s.cK (s.now+d))).1).1⟩,((eW (s.later d) (s.cK (s.now+d))).2.log (eW (s.later d) (s.cK (s.now+d))).1).2):=by
  unfold Nt.tick
  rw[aT om]
  rfl
 have hF:=qsn h d;(have M4:(eW (s.later d) (s.cK (s.now+d))).1.length<=64:=by have:=hF.es;have:=hF.len;have:=h.few;have e:(s.later d).fs.length=s.fs.length:=rfl;omega);(have M5:(eW (s.later d) (s.cK (s.now+d))).2.logged<=100000:=by rw[hF.rest.2.2.1];exact aw jr (by decide));have HF0:=ar (zA.start (s:=s.later d) (r:=s.cK (s.now+d)) ⟨h.good,h.up,(S7 h.good h.up h.mem _).nd,(S7 h.good h.up h.mem _).there,h.mem⟩)
 obtain⟨es,hes⟩:∃es,(eW (s.later d) (s.cK (s.now+d))).1=es:=⟨_,rfl⟩
 obtain⟨a,ha⟩:∃a,(eW (s.later d) (s.cK (s.now+d))).2=a:=⟨_,rfl⟩
 rw[hes] at M4
 rw[ha] at M5
 rw[HR,hes,ha];have Hs:=ar hes;have HA:=ar ha;clear HR hF hes ha
 unfold gR
 generalize lc (bD b s T F Iq)=G at B ⊢
 have HC:=ar h;have HD:=ar hd;have M6:=ar M4;have Wd:=ar M5;(have hw:bK (s.now+d)=s.now+d:=by have:=h.now;unfold bK;omega);clear h M4 M5 jr
 unfold bD at B
 go_enter func25,ntmps25
 go_wp2_with (first|(refine iz ?_;refine iN ?_;clear B;intro c4 W B)|(refine eMi ?_;refine dMn ?_))
 rename_i K hK
 refine lG (n:=210) (JR G w b c4 s T F Iq d) (min d 4).toNat (fun f hJ=>lF _ hJ (qfO HD.out.1 HC.out.left ?_)) ⟨0,rfl,bZ _,by kernel_rfl,by kernel_rfl,by kernel_rfl,by kernel_rfl,by kernel_rfl,?_⟩
 rotate_left
 .rw[show min (s.left+0) 4=s.left by have:=HC.out.left;omega];exact B
 clear B
 rintro g W ⟨j,hk,hj,g0,g1,g4,-,-,B⟩
 show K (cJ 210 g) W
 refine hK _ _ ?_;clear hK
 simp only[cJ,aA,aF,aB,aI,g0,g1,g4]
 clear g0 g1 g4;have HLF:aK (min (s.left+j) 4=min (s.left+d.toNat) 4):=ar (by have:=HD.out;omega);clear hk hj hd
 rw[HLF.out] at B
 unfold bD at B
 go_wp2_with (first|(refine eG ?_;refine eP ?_)|(refine fe ?_;refine ld B 1 _ ?_ (hy:=by exact congrArg (bO .i64) hw) (hd:=qcY _ _ _ _ _);clear B;intro W B))
 rename_i K2 hK2
 refine lG (n:=210) (JT G w b c4 (s.later d) (s.cK (s.now+d))) (s.cK (s.now+d)).length (fun f hJ=>lF _ hJ (qgC (s:=s) (u:=s.later d) rfl HC.out.few HC.out.up ?_)) ⟨[],_,rfl,HF0,rfl,T,F,Iq,⟨none,0,0⟩,by kernel_rfl,by kernel_rfl,by kernel_rfl,B.nil 100 5⟩
 clear B;rintro g W ⟨T',F',jG,E,g0,g4,g5,B⟩
 show K2 (cJ 210 g) W
 refine hK2 _ _ ?_;clear hK2
 simp only[cJ,aA,aF,aB,aI,g0,g4,g5]
 clear g0 g4 g5;have B:Dz G w W (vN b c4 (eW (s.later d) (s.cK (s.now+d))).2 T' F' jG E (eW (s.later d) (s.cK (s.now+d))).1):=B
 rw[Hs.out,HA.out] at B
 have CL:=Sv (B.only 2) E.v es (lU.at (base:=0) (B.at 0 rfl) (by have:=M6.out;omega)) M6.out Wd.out
 unfold gR at CL
 unfold vN at B
 clear HC HD hw HF0 HLF Hs HA
 go_wp2_with (first|(go_at_call 55;go_fit CL;rintro e W ⟨rfl,T2,F2,I2,hk⟩;replace B:=B.call 2 hk;clear hk)|(refine eB3 ?_;refine dB3 ?_)|(refine fe ?_;refine dD B 1 ?_;clear B;intro W B))
 exact jT ⟨rfl,T2,F2,I2,B.drop 2⟩
def XD(G:Nat->Prop)(w:af)(b c3 c4:Nat)(k:Ac)(t:Nt)(T F Iq:Sl)(v:Bool)(f:Nat->ag)(W:af):Prop:=∃c6,[f 0,f 3,f 4,f 5,f 6,f 7]=[V (some ⟨b,0,none⟩),V (some ⟨c3,0,none⟩),V (some ⟨c4,0,none⟩),.func (.func 22) #[] #[],V (some ⟨c6,0,none⟩),I Z (yI t.g k.n v)]/\Dz G w W (cR 38 c6 (pc t.f (BX t.g k.n v))::cR 29 c4 (eZ 0).cells::cR 32 c3 (ac k)::bD b t T F Iq)
def BZ(h:p:=by
 refine fQ 15 ?_;refine iG B 0 ?_;clear B A;intro W B A;refine er [16] ?_
 exact fM (endF ⟨c6,by rw[We.out];kernel_rfl,by rw[We.out];exact B⟩)):p:=h
def qgE(B:Dz G w w (bD b s T F Iq))(k:Ac)(v:Bool)(hv:(k.kd==4)=v)(HQ:aK (v=true\/v=false/\(k.kd==5)=true))(ha:((s.acts:Int)==300)=false)(hw:bK ((s.acts:Int)+1)=((s.acts+1:Nat):Int))(q1:(k.kd==1)=false)(q2:(k.kd==2)=false)(q3:(k.kd==3)=false):az prog 8 #[V (some ⟨b,0,none⟩),.agg (ac k)] w fun e w'=>e=.returned (.agg (eZ (yI s.g k.n v)).cells)/\∃T' F' jG,Dz G w w' (bD b { s with acts:=s.acts+1,g:=BX s.g k.n v } T' F' jG):=by
 unfold bD at B
 (have CD:=fun w=>qgF s.f s.g k.n v w)
 unfold qD gg at CD
 (have CN:=fun w=>FH (yI s.g k.n v) w)
 obtain⟨xv,hxv⟩:∃xv,xv=v:=⟨_,rfl⟩
 rcases HQ.out with rfl|⟨rfl,q5⟩
 all_goals
  have We:=ar hxv;clear HQ hxv
  go_enter func8,ntmps8
  go_upto_region 16 with(first|(refine se ?_;refine sf B ?_;clear B;intro c3 W B)|(refine iz ?_;refine iN ?_;clear B;intro c4 W B)|(refine eG ?_;first|refine gJ ?_|refine iF ?_|refine eP ?_)|(refine fe (t:=3) ?_;refine ld B 2 _ ?_ (hy:=by exact congrArg (bO .i64) hw) (hd:=vH _ _ _ _ _);clear B;intro W B)|(refine fe ?_;refine dD B 0 ?_;clear B;intro W B))
  (try simp only[aQ,aR] at B)
  rename_i K hK
  refine FN (n:=83) (XD G w b c3 c4 k { s with acts:=s.acts+1 } T F Iq xv) ?_ ?_
  .clear hK;refine nZ B 99 [] ?_;clear B;intro W B A;refine er [0,1,2,3] ?_;refine dTm (is:=[]) (i:=4) (hp:=by exact dcP _ _ _ _) ?_;refine er [5,6,7,8,9] ?_
   refine qw 10 14 (nx ?_) (nx ?_)
   .refine VU B (CD _) ?_;clear B A;intro W B A;refine er [11,12,13] ?_;refine fQ 14 ?_;refine tA B ?_;clear B A;intro c6 W B A;refine mi ?_
    exact BZ
   .refine tA B ?_;clear B A;intro c6 W B A;refine mi ?_;refine fQ 10 ?_;refine VU B (CD _) ?_;clear B A;intro W B A;refine er [11,12,13] ?_
    exact BZ
  .clear B CD;rintro f W ⟨c6,hS,B⟩
   obtain rfl:=We.out
   clear We
   simp only[aO,and_true] at hS
   obtain⟨f0,f3,f4,f5,f6,f7⟩:=hS;refine hK _ _ ?_;clear hK
   simp only[cJ,aA,aF,aB,aI,f0,f3,f4,f5,f6,f7]
   clear f0 f3 f4 f5 f6 f7
   unfold bD at B
   go_wp2_with (first|(go_at_call 22;go_fit (CN _);refine kg ?_;clear B;intro W B)|(refine eG ?_;first|refine gJ ?_|refine iF ?_|refine eP ?_)|(refine fe (t:=38) ?_;refine ld B 3 _ ?_ (v:=.agg (pc _ _)) (hd:=dsP _ _ _ _ _ _);clear B;intro W B)|(refine fe ?_;refine dD B 1 ?_;clear B;intro W B))
   exact jT ⟨rfl,T,F,Iq,B.drop 3⟩
def sw(h:p:=by
 go_enter func8,ntmps8
 go_wp2_with (first|(refine se ?_;refine sf B ?_;clear B;intro c3 W B)|(refine iz ?_;refine iN ?_;clear B;intro c4 W B)|(go_at_call 24;go_fit (H2.out (B.only 2));rintro e W ⟨rfl,T1,F1,I1,hk⟩;replace B:=B.call 2 hk;clear hk)|(go_at_call 23;go_fit (H1.out (B.only 2));rintro e W ⟨rfl,T1,F1,I1,hk⟩;replace B:=B.call 2 hk;clear hk)|(go_at_call 22;go_fit (CN _);refine kg ?_;clear B;intro W B)|(refine eG ?_;first|refine gJ ?_|refine iF ?_|refine eP ?_)|(refine fe (t:=3) ?_;refine ld B 2 _ ?_ (hy:=by exact congrArg (Value.int .i64) hw) (hd:=vH _ _ _ _ _);clear B;intro W B)|(refine fe ?_;refine dD B 0 ?_;clear B;intro W B))
 first
  | exact jT ⟨rfl,T,F,Iq,B.drop 2⟩
  | exact jT ⟨rfl,T1,F1,I1,B.drop 2⟩):p:=h
def B0(h:p:=by
 refine fM ?_
 go_wp2_with (first|(refine se ?_;refine sf B ?_;clear B;intro c3 W B)|(refine iz ?_;refine iN ?_;clear B;intro c4 W B)|(go_at_call 22;go_fit (CN _);refine kg ?_;clear B;intro W B)|(refine eG ?_;first|refine gJ ?_|refine iF ?_|refine eP ?_)|(refine fe (t:=3) ?_;refine ld B 2 _ ?_ (hy:=by exact congrArg (Value.int .i64) hw) (hd:=vH _ _ _ _ _);clear B;intro W B)|(refine fe ?_;refine dD B 0 ?_;clear B;intro W B))
 exact jT ⟨rfl,T,F,Iq,B.drop 2⟩):p:=h
def S8{q:Nat}(h:kh s q)(hq:q<=300)(B:Dz (lc (bD b s T F Iq)) w w (bD b s T F Iq))(k:Ac)(hk:k.ok):gR 8 #[V (some ⟨b,0,none⟩),.agg (ac k)] w b s T F Iq (.agg (s.act k).1.cells) (s.act k).2:=by
 unfold gR
 generalize lc (bD b s T F Iq)=G at B ⊢
 have U:s.act k=s.act k:=rfl
 conv at U=>rhs;unfold Nt.act
 by_cases FY:300<=s.acts
 .rw[aZ FY] at U
  rw[U];(have ha:((s.acts:Int)==300)=true:=by have:=h.acts;simp;omega);(have CN:=fun w=>FH 6 w)
  unfold bD at B
  clear U h FY hq hk
  exact sw
 .rw[aT FY] at U
  simp only at U
  (have ha:((s.acts:Int)==300)=false:=by simp;omega);(have hw:bK ((s.acts:Int)+1)=((s.acts+1:Nat):Int):=by unfold bK;omega);have Wf:Ci { s with acts:=s.acts+1 }:=h.ci.acts _;(have hbg:s.began<999:=by have:=h.began;omega);(have jr:s.logged<=50000:=by have:=h.logged;omega);obtain⟨qE,hk2,hk3,hk4⟩:=hk;have H5:aK (∀ {W T F Iq},Dz (lc (bD b { s with acts:=s.acts+1 } T F Iq)) W W (bD b { s with acts:=s.acts+1 } T F Iq)->1<=k.n/\k.n<=549755813888-s.now->gR 25 #[V (some ⟨b,0,none⟩),I Z k.n] W b { s with acts:=s.acts+1 } T F Iq (.agg ({ s with acts:=s.acts+1 }.tick k.n).1.cells) ({ s with acts:=s.acts+1 }.tick k.n).2):=ar (fun hB hd=>qgD hB k.n hd Wf jr);(have H1:aK (∀ {W T F Iq},Dz (lc (bD b { s with acts:=s.acts+1 } T F Iq)) W W (bD b { s with acts:=s.acts+1 } T F Iq)->gR 23 #[V (some ⟨b,0,none⟩),.agg (ac k)] W b { s with acts:=s.acts+1 } T F Iq (.agg ({ s with acts:=s.acts+1 }.out k.fr.data.toList k.dr).1.cells) ({ s with acts:=s.acts+1 }.out k.fr.data.toList k.dr).2):=ar (fun hB=>qfC Wf hbg (aw jr (by decide)) hB k hk4 hk3));(have H2:aK (∀ {W T F Iq},Dz (lc (bD b { s with acts:=s.acts+1 } T F Iq)) W W (bD b { s with acts:=s.acts+1 } T F Iq)->gR 24 #[V (some ⟨b,0,none⟩),.string k.fr] W b { s with acts:=s.acts+1 } T F Iq (.agg ({ s with acts:=s.acts+1 }.i7 k.fr.data.toList).1.cells) ({ s with acts:=s.acts+1 }.i7 k.fr.data.toList).2):=ar (fun hB=>FW Wf (by show s.began<1000;omega) b _ _ _ _ k.fr hB hk4));have SQ:=ar h.ci.now
  unfold gR at H1 H2 H5
  unfold bD at B
  clear h FY hq qE hk2 hk3 hk4 Wf hbg jr
  by_cases k1:k.kd=1
  .rw[aZ k1] at U
   rw[U];(have q1:(k.kd==1)=true:=by simp[k1]);clear U k1 H2 H5
   exact sw
  .rw[aT k1] at U
   (have q1:(k.kd==1)=false:=by simp[k1])
   by_cases k2:k.kd=2
   .rw[aZ k2] at U
    rw[U];(have q2:(k.kd==2)=true:=by simp[k2]);clear U k1 k2 H1 H5
    exact sw
   .rw[aT k2] at U
    (have q2:(k.kd==2)=false:=by simp[k2])
    by_cases k3:k.kd=3
    .rw[aZ k3] at U
     (have q3:(k.kd==3)=true:=by simp[k3]);(have Wh:IntKind.i64.wrap (549755813888-s.now)=549755813888-s.now:=by have:=SQ.out;exact wrap_i64 _ om om)
     by_cases hb:k.n<1\/549755813888-s.now<k.n
     ·(have U2:s.act k=(eZ 2,{ s with acts:=s.acts+1 }):=by rw[U];unfold Nt.tick;rw[aZ hb]);rw[U2];(have CN:=fun w=>FH 2 w);clear U U2 k1 k2 k3 H1 H2 H5
      by_cases h1:k.n<1
      ·(have d1:decide (k.n<1)=true:=by simpa using h1);clear hb h1
       go_enter func8,ntmps8
       go_upto_region 11 with(first|(refine se ?_;refine sf B ?_;clear B;intro c3 W B)|(refine iz ?_;refine iN ?_;clear B;intro c4 W B)|(refine eG ?_;first|refine gJ ?_|refine iF ?_|refine eP ?_)|(refine fe (t:=3) ?_;refine ld B 2 _ ?_ (hy:=by exact congrArg (bO .i64) hw) (hd:=vH _ _ _ _ _);clear B;intro W B)|(refine fe ?_;refine dD B 0 ?_;clear B;intro W B))
       refine nZ B 99 [] ?_;clear B;intro W B A;refine er [0,1,2,3] ?_;refine yE [4,5,6,7,8,9,10,11] ?_
       simp only[Ho,Act.put,ig,dN,dO,j4,aW,aQ,aR]
       refine er [12] ?_
       exact B0
      ·(have d1:decide (k.n<1)=false:=by simpa using h1);(have d2:decide (549755813888-s.now<k.n)=true:=by simp;omega);clear hb h1
       go_enter func8,ntmps8
       go_upto_region 11 with(first|(refine se ?_;refine sf B ?_;clear B;intro c3 W B)|(refine iz ?_;refine iN ?_;clear B;intro c4 W B)|(refine eG ?_;first|refine gJ ?_|refine iF ?_|refine eP ?_)|(refine fe (t:=3) ?_;refine ld B 2 _ ?_ (hy:=by exact congrArg (bO .i64) hw) (hd:=vH _ _ _ _ _);clear B;intro W B)|(refine fe ?_;refine dD B 0 ?_;clear B;intro W B))
       refine nZ B 99 [] ?_;clear B;intro W B A;refine er [0,1,2,3,4,5,6,7,8,9,10,11,12] ?_
       exact B0
     .rw[U];(have d1:decide (k.n<1)=false:=by simp;omega);(have d2:decide (549755813888-s.now<k.n)=false:=by simp;omega);have HB:=ar (show 1<=k.n/\k.n<=549755813888-s.now by omega);clear U k1 k2 k3 H1 H2 hb
      go_enter func8,ntmps8
      go_upto_region 11 with(first|(refine se ?_;refine sf B ?_;clear B;intro c3 W B)|(refine iz ?_;refine iN ?_;clear B;intro c4 W B)|(refine eG ?_;first|refine gJ ?_|refine iF ?_|refine eP ?_)|(refine fe (t:=3) ?_;refine ld B 2 _ ?_ (hy:=by exact congrArg (bO .i64) hw) (hd:=vH _ _ _ _ _);clear B;intro W B)|(refine fe ?_;refine dD B 0 ?_;clear B;intro W B))
      refine nZ B 99 [] ?_;clear B;intro W B A;refine er [0,1,2,3,4,5,6,7,8,9,10,11,12] ?_;refine fM ?_
      (try simp only[aQ,aR] at B)
      go_wp2_with (first|(refine se ?_;refine sf B ?_;clear B;intro c3 W B)|(refine iz ?_;refine iN ?_;clear B;intro c4 W B)|(go_at_call 25;go_fit (H5.out (B.only 2) HB.out);rintro e W ⟨rfl,T1,F1,I1,hk⟩;replace B:=B.call 2 hk;clear hk)|(refine eG ?_;first|refine gJ ?_|refine iF ?_|refine eP ?_)|(refine fe (t:=3) ?_;refine ld B 2 _ ?_ (hy:=by exact congrArg (bO .i64) hw) (hd:=vH _ _ _ _ _);clear B;intro W B)|(refine fe ?_;refine dD B 0 ?_;clear B;intro W B))
      exact jT ⟨rfl,T1,F1,I1,B.drop 2⟩
    .rw[aT k3] at U
     (have q3:(k.kd==3)=false:=by simp[k3]);clear k1 k2 k3 H1 H2 H5
     by_cases Pg:k.kd=4\/k.kd=5
     .obtain⟨v,hv⟩:∃v,(k.kd==4)=v:=⟨_,rfl⟩
      have U2:s.act k={ s with acts:=s.acts+1 }.drain k.n v:=by
       rw[U]
       rcases Pg with e|e
       .rw[aZ e,←hv,e];rfl
       .rw[aT om,aZ e,←hv,e];rfl
      rw[U2]
      exact qgE B k v hv (ar (by cases v;exact .inr ⟨rfl,by simp at hv ⊢;omega⟩;exact .inl rfl)) ha hw q1 q2 q3
     .rw[aT (fun e=>Pg (.inl e)),aT (fun e=>Pg (.inr e))] at U
      rw[U];(have q4:(k.kd==4)=false:=by simp;exact fun e=>Pg (.inl e));(have q5:(k.kd==5)=false:=by simp;exact fun e=>Pg (.inr e));(have CN:=fun w=>FH 4 w);clear U Pg
      exact sw
def tC:Sl:=⟨none,0,0⟩
theorem qgG(l:Bool)(w:af):(Instr.build 46 #[(6,I Z 4),(8,.bool l)]).run prog w=.ok (.agg (i5 (gu l) tC tC tC)) w:=by kernel_rfl
section
variable {ops:Array Oper} {rest:List Oper} {o:Oper} {a:Act} {w:World} {Q:Exit->Act->World->Prop} {x y:Operand}
def eBn{pz:Prop}(h:pz)(c:qQ (.build 46 #[(6,x),(8,y)]) pz:=by exact rz (by with_unfolding_none exact rfl) (by with_reducible exact rfl)):pz:=h
def dBn{l:Bool}(hr:wpList prog ops Q rest (a.put o.dst (.agg (i5 (gu l) tC tC tC))) w)(ho:o.op=.build 46 #[(6,x),(8,y)]:=by exact rfl)(hx:a.eval x=I Z 4:=by exact rfl)(hy:a.eval y=.bool l:=by exact rfl)(hgd:o.guard=none:=by exact rfl):wpList prog ops Q (o::rest) a w:=
 wpList_plain hgd fun K hK=>by
  unfold Oper.wp execOp
  simp only[ho,List.map_toArray,List.map_nil,List.map_cons,hx,hy,Sem.run_bind,qgG,Result.andThen_ok,Sem.run_pure]
  exact hK _ _ hr
end
def Dz.M7{F0:Nat->Prop}(h:Dz F0 w0 W L):Dz F0 w0 W (cM (.slice none 0 0) []::L):=
 h.add _ (Below.refl _ _) (RA (cE.nil _) (fun n c e=>by injection e with _ _ e;exact e.symm)) (fun c hc=>absurd hc.1 zm)
def S9(loose:Bool)(w:af):az prog 6 #[.bool loose] w fun e w'=>∃b,e=.returned (V (some ⟨b,0,none⟩))/\Dz (fun _=>False) w w' (bD b (gu loose) tC tC tC):=by
 have B:=(((Dz.start w).M7).nil 3 1).nil 75 10
 go_enter func6,ntmps6
 go_wp2_with (first|(refine eBn ?_;refine dBn ?_)|(refine se ?_;refine sf B ?_;clear B;intro c W B))
 go_ret
 exact⟨c,rfl,B⟩
section
variable {ops:Array Oper} {Q:Exit->Act->World->Prop} {R:List Cp} {lt:List Nat} {n:Nat} {oi:Oper} {l:Array Bool} {a:Act} {w:World} {x y:Operand} {t e:TypeId} {g f m cap k:Nat} {ys xs:List Value}
def Ph(i:Nat)(c:Array Value)(hY:∀w,fE R w->w.rangeAt g f c.toList)(h:jo ops Q (fE R) lt n (l.setIfInBounds i true) (a.put oi.dst (.agg c)) w)(hi:ops[i]?=some oi:=by exact rfl)(ho:oi.op=.load t x:=by exact rfl)(hx:a.eval x=V (some ⟨g,f,none⟩):=by exact rfl)(hu:(prog.underlying t).map TypeDesc.isRow=some true:=by kernel_rfl)(hz:(prog.info? t).map (·.size)=some c.size:=by kernel_rfl)(hw:Region.wanted oi (yielded ops a.tmps)=true:=by kernel_rfl)(hS:fE R w:=by exact A)(hs:Region.noSelect ops=true:=by kernel_rfl)(hf:Region.free .any ops l i=true:=by kernel_rfl)(hr:(Region.ready .any ops l).contains i=true:=by kernel_rfl)(hl:sg ops lt i=true:=by kernel_rfl)(kF:uf ops l=true:=by kernel_rfl)(hQ:∀p a w,Q (.panic p) (a.put oi.dst (.agg c)) w->Q (.panic p) a w:=by exact fun _ _ _ h=>h):jo ops Q (fE R) lt (n+1) l a w:=by
 obtain⟨d,h1,h2⟩:=Option.map_eq_some_iff.1 hu;have hy:=Zl (ops:=ops) t x ho hw g f hx c.toList hY d h1 h2 (by simpa using hz)
 rw[Array.toArray_toList] at hy
 exact OY (is:=[]) hy hS h hi hs hf hr hl kF hQ
def dTn(i:Nat){c:Array Value}(hg:prog.eqGuardType prog.depth t=false)(he:∀w:World,(Op.equalIn 10000 t (.agg c) (.agg c)).run prog w=.ok true w)(h:jo ops Q (fE R) lt n (l.setIfInBounds i true) (a.put oi.dst (.bool false)) w)(hi:ops[i]?=some oi:=by exact rfl)(ho:oi.op=.binOp .neq t x y t:=by exact rfl)(hx:a.eval x=.agg c:=by exact rfl)(hy:a.eval y=.agg c:=by exact rfl)(hw:Region.wanted oi (yielded ops a.tmps)=true:=by kernel_rfl)(hs:Region.noSelect ops=true:=by kernel_rfl)(hf:Region.free .any ops l i=true:=by kernel_rfl)(hr:(Region.ready .any ops l).contains i=true:=by kernel_rfl)(hQ:∀c a w,Q (.panic c) (a.put oi.dst (.bool false)) w->Q (.panic c) a w:=by exact fun _ _ _ h=>h):jo ops Q (fE R) lt (n+1) l a w:=
 OX (is:=[]) h hi (qry t x y ho hw c c hx hy hg true false he rfl) hs hf hr hQ
end
def sA(W:af)(v:ag)(ks:List Fl):Prop:=W.ownsRow 0 75 10 v ks.length (ks.flatMap fun k=>(fc k).toList)
def sA.below{W':af}{ks:List Fl}(h:sA W v ks)(hb:aq W.heap.size W W'):sA W' v ks:=yy h (fun g hg=>hb.block g (World.ownsRow.lt h g hg).2)
def Tb(r:Rp)(w:af):(Op.equalIn 10000 29 (.agg r.cells) (.agg r.cells)).run prog w=.ok true w:=by
 rw[show(10000:Nat)=9999+1 from rfl,run_equalIn_struct w 9999 29 _ _ kr kr]
 unfold Rp.cells rcN
 simp[go_sem,underlying29]
structure vO(w0 W:af)(b:Nat)(s:Nt)(F:Nat->Prop)(b':Nat)(s':Nt)(T F' jG:Sl):Prop where
 nat:cC W b s (dI s.fs) F
 bd:∀c,F c->c<W.heap.size
 new:∀c,F c->w0.heap.size<=c
 doc:Dz (fun _=>False) w0 W (bD b' s' T F' jG)
 ap:∀c,F c->¬lc (bD b' s' T F' jG) c
section
variable {w0 W W':World} {b b':Nat} {s s' s1:Nt} {F F1:Nat->Prop} {T F' jG T2 F2 I2:Sl}
def vO.below(h:vO w0 W b s F b' s' T F' jG)(hb:aq W.heap.size W W'):vO w0 W' b s F b' s' T F' jG:=
 ⟨h.nat.below hb,fun c hc=>bi (h.bd c hc) hb.size,h.new,h.doc.below hb,h.ap⟩
def vO.prog(h:vO w0 W b s F b' s' T F' jG)(hn:cC W' b s1 (dI s1.fs) F1)(hg:Gr F W W')(hF:∀c,F1 c->F c\/W.heap.size<=c):vO w0 W' b s1 (fun c=>F1 c/\c<W'.heap.size) b' s' T F' jG:=
 ⟨hn.bound,fun c hc=>hc.2,fun c hc=>(hF c hc.1).elim (h.new c) (aw h.doc.gr.size),h.doc.keep (h.doc.gr.trans hg fun c hc=>.inr (h.new c hc)) (fun c hc=>hg.block c (h.doc.lt hc) fun hf=>h.ap c hf hc) hg.size,fun c hc hf=>(hF c hc.1).elim (fun q=>h.ap c q hf) fun q=>by have:=h.doc.lt hf;omega⟩
def vO.zero(h:vO w0 W b s F b' s' T F' jG)(hT:jv w0):¬F 0:=fun q=>by have:=h.new 0 q;have:=hT.lt;omega
end
def cW(P:af->Prop):Cp:=⟨fun _=>False,P⟩
section
variable (w:World) (b b':Nat) (loose:Bool) (sl:Value) (es:List Ac)
end
theorem Dz.from(h:Dz (fun _=>False) w1 W L)(hb:aq w.heap.size w w1):Dz (fun _=>False) w W L:=
 ⟨(Gr.cU (F:=fun _=>False) hb).trans h.gr fun _ h=>h.elim,h.apart,fun y hy=>⟨(h.ok y hy).1,fun c hc=>((h.ok y hy).2 c hc).imp id (aw hb.size)⟩⟩
def vO.start{w2:af}(hN:cC w1 b (gu loose) (dI (gu loose).fs) (fun c=>c=b))(hb:w.heap.size<=b)(hB:aq w.heap.size w w1)(D:Dz (fun _=>False) w1 w2 (bD b' (gu loose) tC tC tC)):vO w w2 b (gu loose) (fun c=>c=b/\c<w1.heap.size) b' (gu loose) tC tC tC:=
 ⟨hN.bound.below D.iW,fun c hc=>bi hc.2 D.gr.size,fun c hc=>hc.1▸hb,D.from hB,fun c hc ⟨x,hx,hf⟩=>((D.ok x hx).2 c hf).elim id fun q=>by have:=hc.2;omega⟩
end Go.Proofs.YtnkpgdejagglaaaGreatDoor
