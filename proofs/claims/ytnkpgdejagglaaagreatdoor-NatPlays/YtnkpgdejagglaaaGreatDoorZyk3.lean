/-
  Of what a law stands on.
-/
import Derived.Test.YtnkpgdejagglaaaGreatDoorZyt3
import Derived.Test.YtnkpgdejagglaaaGreatDoorZyk2
set_option linter.all false
namespace Go.Proofs.YtnkpgdejagglaaaGreatDoor
open _root_.ByteArray renaming empty->ak
open _root_.Go renaming Calls->az,Value->ag,World->af
open _root_.Go.RowKit renaming Below->aq,Hid->aK,wrap64->bK
open _root_.List renaming getElem?_eq_some_iff->aJ,map_cons->aB,map_nil->aI,mem_append->dA,mem_of_getElem?->aH,pairwise_append->mV,pairwise_cons->jC,range->aA,take_length->bn,take_succ_eq_append_getElem->bz
open _root_.List.cons renaming injEq->aO
open _root_.List.range renaming loop->aF
open _root_.Nat renaming le_refl->au,le_trans->aw,lt_of_lt_of_le->bi,zero_add->bX,zero_le->bZ
open Go.Value renaming int → I,pointer → V
open Go.IntKind renaming i64 → Z
open _root_.Go.Proofs.Tryz Go.ChangeShapes Go.WideShapes Go.ChangeAt Go.RowKit Go.Maps
set_option maxHeartbeats 16000000
set_option maxRecDepth 100000
variable {p:Prop}{w:World}{a b:Nat}{s:Nt}{F Iq T:Sl}{Q:Exit->Act->World->Prop}{f h:Nat->Int}{g:Nat->Bool}{ms:List Mp}{d:Int}
def od(h:p:=by
 go_enter func23,ntmps23
 go_wp2_with (first|(refine se (t:=25) ?_;refine sf B ?_;clear B;intro c2 W B)|(refine se (t:=32) ?_;refine sf B ?_;clear B;intro c3 W B)|(refine iz (t:=29) ?_;refine iN ?_;clear B;intro c4 W B)|((with_reducible refine iz (t:=63) ?_);refine dAl B ?_ (hz:=Su);clear B;intro c5 W B)|((with_reducible refine fe (t:=63) ?_);refine ld B 0 #[.func (.func 47) #[] #[]] ?_;clear B;intro W B)|(refine iz (t:=77) ?_;refine iN ?_;clear B;intro c7 W B)|(go_at_call 50;go_fit (CP _);refine kg ?_;clear B;intro W B)|(go_at_call 47;go_fit (CN _);refine kg ?_;clear B;intro W B)|(refine eG ?_;first|refine gJ ?_|refine iF ?_|refine eP ?_)|(refine fe ?_;(first|refine dD B 0 ?_|refine dD B 1 ?_|refine dD B 2 ?_|refine dD B 3 ?_|refine dD B 4 ?_);clear B;intro W B))
 exact jT ⟨rfl,T,F,Iq,B.drop 5⟩):p:=h
def FU(B:Dz (lc (bD b s T F Iq)) w w (bD b s T F Iq))(k:Ac)(hs:k.fr.size<=140737488351232)(e:Int)(h:cj k.fr.data.toList≠0/\e=cj k.fr.data.toList\/cj k.fr.data.toList=0/\(¬(0<=(ba k.fr.data.toList).src-167772161/\(ba k.fr.data.toList).src-167772161<8)/\e=7\/(0<=(ba k.fr.data.toList).src-167772161/\(ba k.fr.data.toList).src-167772161<8)/\(((ba k.fr.data.toList).ae=1/\(ba k.fr.data.toList).flags=0)/\e=4\/¬((ba k.fr.data.toList).ae=1/\(ba k.fr.data.toList).flags=0)/\(ba k.fr.data.toList).aG=1/\e=12))):gR 23 #[V (some ⟨b,0,none⟩),.agg (ac k)] w b s T F Iq (.agg (eZ e).cells) s:=by
 unfold gR
 generalize lc (bD b s T F Iq)=G at B ⊢
 unfold bD at B
 (have CP:=fun w=>vA k.fr w hs)
 generalize hl:k.fr.data.toList=l at *
 rcases h with⟨hb,rfl⟩|⟨hb,h⟩
 .obtain⟨p,hp⟩:∃p,iw l=p:=⟨_,rfl⟩
  rw[hp] at CP
  (have hz:(cj l != 0)=true:=by simpa using hb)
  generalize cj l=e0 at *
  (have CN:=fun w=>yz e0 w);clear hb hp hl hs
  exact od
 .have hr:=(Hq hb).1;(have hw:bK ((ba l).src-167772161)=(ba l).src-167772161:=by unfold bK;omega);have hp:iw l=ba l:=aZ hb
  rw[hp,hb] at CP
  generalize ba l=p at *
  obtain⟨a,ha⟩:∃a,a=p.src-167772161:=⟨_,rfl⟩
  have hw':bK (p.src-167772161)=a:=hw.trans ha.symm
  rw[←ha] at h
  clear hw ha;clear hp hl hs hb hr
  rcases h with⟨h,rfl⟩|⟨h,h2⟩
  ·(have CN:=fun w=>yz 7 w)
   by_cases h0:a<0
   .clear h
    exact od
   ·(have h1:7<a:=by omega);clear h
    exact od
  ·(have h0:¬a<0:=by omega);(have h1:¬7<a:=by omega);clear h
   rcases h2 with⟨⟨h3,h4⟩,rfl⟩|⟨h3,h4,rfl⟩
   ·(have q1:(p.ae==1)=true:=by simp[h3]);(have q2:(p.flags==0)=true:=by simp[h4]);(have CN:=fun w=>yz 4 w);clear h3 h4
    exact od
   ·(have CN:=fun w=>yz 12 w);(have q3:(p.aG==1)=true:=by simp[h4])
    by_cases h5:p.ae=1
    ·(have q1:(p.ae==1)=true:=by simp[h5]);(have q2:(p.flags==0)=false:=by simp;exact fun h=>h3 ⟨h5,h⟩);clear h3 h4 h5
     exact od
    ·(have q1:(p.ae==1)=false:=by simp[h5]);clear h3 h4 h5
     exact od
def og(h:p:=by
 go_enter func24,ntmps24
 go_wp2_with (first|(refine iz ?_;refine iN ?_;clear B;intro c W B)|(refine eG ?_;first|refine gJ ?_|refine iF ?_|refine eP ?_)|(refine fe ?_;(first|refine dD B 0 ?_|refine dD B 1 ?_|refine dD B 2 ?_|refine dD B 3 ?_);clear B;intro W B)|(go_at_call 50;go_fit (CP _);refine kg ?_;clear B;intro W B)|(go_at_call 59;go_fit (CN _);refine kg ?_;clear B;intro W B))
 exact jT ⟨rfl,T,F,Iq,B.drop 2⟩):p:=h
def FV(B:Dz (lc (bD b s T F Iq)) w w (bD b s T F Iq))(fr:ByteArray)(hs:fr.size<=140737488351232)(e:Int)(h:cj fr.data.toList≠0/\e=cj fr.data.toList\/cj fr.data.toList=0/\(¬(0<=(ba fr.data.toList).dst-3405803777/\(ba fr.data.toList).dst-3405803777<3)/\e=7\/(0<=(ba fr.data.toList).dst-3405803777/\(ba fr.data.toList).dst-3405803777<3)/\(((ba fr.data.toList).ae=1/\(ba fr.data.toList).flags=8)/\e=4\/¬((ba fr.data.toList).ae=1/\(ba fr.data.toList).flags=8)/\(ba fr.data.toList).aG=1/\e=12))):gR 24 #[V (some ⟨b,0,none⟩),.string fr] w b s T F Iq (.agg (eZ e).cells) s:=by
 unfold gR
 generalize lc (bD b s T F Iq)=G at B ⊢
 unfold bD at B
 (have CP:=fun w=>vA fr w hs)
 generalize hl:fr.data.toList=l at *
 rcases h with⟨hb,rfl⟩|⟨hb,h⟩
 .obtain⟨p,hp⟩:∃p,iw l=p:=⟨_,rfl⟩
  rw[hp] at CP
  (have hz:(cj l != 0)=true:=by simpa using hb)
  generalize cj l=e0 at *
  (have CN:=fun w=>yA e0 w);clear hb hp hl hs
  exact og
 .have hr:=(Hq hb).2;(have hw:bK ((ba l).dst-3405803777)=(ba l).dst-3405803777:=by unfold bK;omega);have hp:iw l=ba l:=aZ hb
  rw[hp,hb] at CP
  generalize ba l=p at *
  obtain⟨a,ha⟩:∃a,a=p.dst-3405803777:=⟨_,rfl⟩
  have hw':bK (p.dst-3405803777)=a:=hw.trans ha.symm
  rw[←ha] at h
  clear hw ha;clear hp hl hs hb hr
  rcases h with⟨h,rfl⟩|⟨h,h2⟩
  ·(have CN:=fun w=>yA 7 w)
   by_cases h0:a<0
   .clear h
    exact og
   ·(have h1:2<a:=by omega);clear h
    exact og
  ·(have h0:¬a<0:=by omega);(have h1:¬2<a:=by omega);clear h
   rcases h2 with⟨⟨h3,h4⟩,rfl⟩|⟨h3,h4,rfl⟩
   ·(have q1:(p.ae==1)=true:=by simp[h3]);(have q2:(p.flags==8)=true:=by simp[h4]);(have CN:=fun w=>yA 4 w);clear h3 h4
    exact og
   ·(have CN:=fun w=>yA 12 w);(have q3:(p.aG==1)=true:=by simp[h4])
    by_cases h5:p.ae=1
    ·(have q1:(p.ae==1)=true:=by simp[h5]);(have q2:(p.flags==8)=false:=by simp;exact fun h=>h3 ⟨h5,h⟩);clear h3 h4 h5
     exact og
    ·(have q1:(p.ae==1)=false:=by simp[h5]);clear h3 h4 h5
     exact og
def BK(h:p:=by
 refine fQ 14 ?_;refine iG B 0 ?_;clear B A;intro W B A;refine er [15] ?_;refine fM ?_
 go_wp2
 go_meet
 case rel=>exact⟨_,rfl,rfl,B⟩):p:=h
def BL(h:p:=by
 refine nZ B 99 [] ?_;clear B;intro W B A;refine er [0,1,2,3,4,5,6,7,8] ?_
 refine qw 9 13 (nx ?_) (nx ?_)
 .refine VU B (CB _ (B.at 5 rfl).1) ?_;clear B A;intro W B A;refine er [10,11,12] ?_;refine fQ 13 ?_;refine tA B ?_;clear B A;intro c9 W B A
  exact BK
 .refine tA B ?_;clear B A;intro c9 W B A;refine mi ?_;refine fQ 9 ?_;refine VU B (CB _ (B.at 6 rfl).1) ?_;clear B A;intro W B A;refine er [10,11,12] ?_
  exact BK):p:=h
def BM(h:p:=by
 clear h3 h5
 go_wp2_with (first|(refine eG ?_;first|refine gJ ?_|refine iF ?_|refine eP ?_)|(refine fe ?_;(first|refine dD B 0 ?_|refine dD B 1 ?_|refine dD B 2 ?_|refine dD B 3 ?_);clear B;intro W B))
 go_meet
 case rel=>exact⟨rfl,B⟩):p:=h
def BN(h:p:=by
 by_cases h5:p.ae=1
 ·(have q1:(p.ae==1)=true:=by simp[h5]);(have q2:(p.flags==8)=false:=by simp;exact fun h=>h3 ⟨h5,h⟩)
  exact BM
 ·(have q1:(p.ae==1)=false:=by simp[h5])
  exact BM):p:=h
def qeP(B:Dz (lc (bD b s T F Iq)) w w (bD b s T F Iq))(fr:ByteArray)(hs:fr.size<=140737488351232)(p:bM)(hp:ba fr.data.toList=p)(hb:cj fr.data.toList=0)(a:Int)(ha:a=p.dst-3405803777)(h0:¬a<0)(h1:¬2<a)(h3:¬(p.ae=1/\p.flags=8))(q3:(p.aG==1)=false)(hf:s.ms.find? (gj p.ae a p.ai)=none):gR 24 #[V (some ⟨b,0,none⟩),.string fr] w b s T F Iq (.agg (eZ 7).cells) s:=by
 unfold gR
 generalize lc (bD b s T F Iq)=G at B ⊢
 unfold bD at B
 (have CP:=fun w=>vA fr w hs);(have CB:=fun w hM=>Jz s.f s.g s.h T.v s.ms p.ae a p.ai w hM);have hr:=(Hq hb).2;(have hw:bK (p.dst-3405803777)=a:=by rw[ha];rw[hp] at hr;unfold bK;omega)
 rw[show iw fr.data.toList=p from(aZ hb).trans hp,hb] at CP
 rw[hf] at CB
 unfold sZ at CB
 clear hp hb hr ha hf;(have CN:=fun w=>yA 7 w);clear hs
 go_enter func24,ntmps24
 go_upto_region 8 with(first|(refine iz (t:=29) ?_;refine iN ?_;clear B;intro c4 W B)|(refine iz (t:=77) ?_;refine iN ?_;clear B;intro c6 W B)|(go_at_call 50;go_fit (CP _);refine kg ?_;clear B;intro W B)|(refine eG ?_;first|refine gJ ?_|refine iF ?_|refine eP ?_)|(refine fe ?_;(first|refine dD B 0 ?_|refine dD B 1 ?_|refine dD B 2 ?_|refine dD B 3 ?_);clear B;intro W B))
 go_cut [45] (fun s45 W=>s45=.bool false/\Dz G w W [cR 77 c6 (dm p),cR 29 c4 (eZ 0).cells,cR 46 b (i5 s T F Iq),cL 75 10 F.v s.fs.length (iy s.fs),cL 3 1 Iq.v s.fs.length (gQ s.fs),cM T.v s.ms])
 case first=>
  exact BN
 clear B
 obtain⟨rfl,B⟩:=hcut
 go_upto_region 12 with(first|(refine eG ?_;first|refine gJ ?_|refine iF ?_|refine eP ?_)|(refine fe ?_;(first|refine dD B 0 ?_|refine dD B 1 ?_|refine dD B 2 ?_|refine dD B 3 ?_);clear B;intro W B))
 go_cut [9,10] (fun s9 s10 W=>∃c9,s9=V (some ⟨c9,0,none⟩)/\s10=.bool false/\Dz G w W [cR 72 c9 (mc fW),cR 77 c6 (dm p),cR 29 c4 (eZ 0).cells,cR 46 b (i5 s T F Iq),cL 75 10 F.v s.fs.length (iy s.fs),cL 3 1 Iq.v s.fs.length (gQ s.fs),cM T.v s.ms])
 case first=>
  exact BL
 clear B
 obtain⟨c9,rfl,rfl,B⟩:=hcut
 go_wp2_with (first|(go_at_call 59;go_fit (CN _);refine kg ?_;clear B;intro W B)|(refine eG ?_;first|refine gJ ?_|refine iF ?_|refine eP ?_)|(refine fe ?_;(first|refine dD B 0 ?_|refine dD B 1 ?_|refine dD B 2 ?_|refine dD B 3 ?_);clear B;intro W B))
 exact jT ⟨rfl,T,F,Iq,B.drop 3⟩
def sq(h:p:=by
 go_wp2_with (first|(refine iz (t:=75) ?_;refine iN ?_;clear B;intro mG W B)|(refine eG (t:=75) ?_;refine Bt 4 B HE.out ?_)|(refine eNe ?_;refine dNe ?_)|(refine eG ?_;first|refine gJ ?_|refine iF ?_|refine eP ?_)|(refine fe ?_;(first|refine dD B 0 ?_|refine dD B 1 ?_|refine dD B 2 ?_|refine dD B 3 ?_);clear B;intro W B))
 go_roundw
 case rel=>exact⟨j+1,hlt,by rw[HK.out];simp[n1],by rw[HQ.out];simp[n2],by go_num,by rw[HZ.out];exact B.drop 1⟩
 case measure=>first|exact HM.out|(rw[fU];exact HM.out)):p:=h
def vM(h:p:=by
 clear SR CT xk HU
 go_wp2_with (first|(go_at_call 59;go_fit (CN _);refine kg ?_;intro W B)|(refine eG ?_;first|refine gJ ?_|refine iF ?_|refine eP ?_)|(refine fe ?_;(first|refine dD B 0 ?_|refine dD B 1 ?_|refine dD B 2 ?_|refine dD B 3 ?_);clear B;intro W B))
 rw[SS.out]
 exact jT ⟨rfl,T,⟨fa,j,oG⟩,Iq,by obtain rfl:=EF.out;exact B.drop 3⟩):p:=h
def qeQ(B:Dz (lc (bD b s T F Iq)) w w (bD b s T F Iq))(fr:ByteArray)(hs:fr.size<=140737488351232)(p:bM)(hp:ba fr.data.toList=p)(hb:cj fr.data.toList=0)(a:Int)(ha:a=p.dst-3405803777)(h0:¬a<0)(h1:¬2<a)(h3:¬(p.ae=1/\p.flags=8))(q3:(p.aG==1)=false)(m:Mp)(hf:s.ms.find? (gj p.ae a p.ai)=some m)(hn:0<=s.now/\s.now<=549755813888)(uk:s.fs.length<=48)(hbg:s.began<1000)(hu:s.fs.Pairwise (fun x y=>x.1<y.1))(hap:s.fs.Pairwise (fun x y=>¬(lC p m x.2=true/\lC p m y.2=true)))(hm:0<=m.2.1/\m.2.1<8)(r:Rp×Nt)(hr:r=if (s.dK p m).1≠0 then(eZ (s.dK p m).1,(s.dK p m).2) else(⟨0,nI fr.data.toList 1 (167772161+m.2.1) m.2.2.1,true,ak⟩,(s.dK p m).2)):gR 24 #[V (some ⟨b,0,none⟩),.string fr] w b s T F Iq (.agg r.1.cells) r.2:=by
 (have SR:=fun W hB=>Mv (w:=W) (b:=b) (s:=s) (T:=T) (F:=F) (Iq:=Iq) hB (eV m p.src p.aj 2) hn (by unfold eV cV;simp;split<;>(try split)<;>omega) hbg om)
 unfold gR at SR
 unfold gR
 generalize lc (bD b s T F Iq)=G at B ⊢
 unfold bD at B
 (have CP:=fun w=>vA fr w hs);(have CB:=fun w hM=>Jz s.f s.g s.h T.v s.ms p.ae a p.ai w hM);have hrg:=(Hq hb).2;(have hw:bK (p.dst-3405803777)=a:=by rw[ha];rw[hp] at hrg;unfold bK;omega)
 rw[show iw fr.data.toList=p from(aZ hb).trans hp,hb] at CP
 rw[hf] at CB
 unfold sZ at CB
 clear hp hb hrg ha hf;(have CN:=fun w=>yA 11 w);(have CT:=fun w=>Rf fr 1 (167772161+m.2.1) m.2.2.1 w hs);(have ng:bK (167772161+m.2.1)=167772161+m.2.1:=by unfold bK;omega);have SQ:aK (0<=s.now):=hn.1;have HN1:aK (s.now<=1099511627776):=ar om;clear hs hm hbg hn
 go_enter func24,ntmps24
 go_upto_region 8 with(first|(refine iz (t:=29) ?_;refine iN ?_;clear B;intro c4 W B)|(refine iz (t:=77) ?_;refine iN ?_;clear B;intro c6 W B)|(go_at_call 50;go_fit (CP _);refine kg ?_;clear B;intro W B)|(refine eG ?_;first|refine gJ ?_|refine iF ?_|refine eP ?_)|(refine fe ?_;(first|refine dD B 0 ?_|refine dD B 1 ?_|refine dD B 2 ?_|refine dD B 3 ?_);clear B;intro W B))
 go_cut [45] (fun s45 W=>s45=.bool false/\Dz G w W [cR 77 c6 (dm p),cR 29 c4 (eZ 0).cells,cR 46 b (i5 s T F Iq),cL 75 10 F.v s.fs.length (iy s.fs),cL 3 1 Iq.v s.fs.length (gQ s.fs),cM T.v s.ms])
 case first=>
  exact BN
 clear B
 obtain⟨rfl,B⟩:=hcut
 go_upto_region 12 with(first|(refine eG ?_;first|refine gJ ?_|refine iF ?_|refine eP ?_)|(refine fe ?_;(first|refine dD B 0 ?_|refine dD B 1 ?_|refine dD B 2 ?_|refine dD B 3 ?_);clear B;intro W B))
 go_cut [9,10] (fun s9 s10 W=>∃c9,s9=V (some ⟨c9,0,none⟩)/\s10=.bool true/\Dz G w W [cR 72 c9 (mc m),cR 77 c6 (dm p),cR 29 c4 (eZ 0).cells,cR 46 b (i5 s T F Iq),cL 75 10 F.v s.fs.length (iy s.fs),cL 3 1 Iq.v s.fs.length (gQ s.fs),cM T.v s.ms])
 case first=>
  exact BL
 clear B
 obtain⟨c9,rfl,rfl,B⟩:=hcut
 obtain⟨fa,fn,oG⟩:=F
 obtain⟨rfl,hg⟩:fn=s.fs.length/\(0<s.fs.length->∃g,fa=some ⟨g,0,none⟩):=n4 (B.at 4 rfl)
 obtain⟨n,MO⟩:∃n,n=s.fs.length:=⟨_,rfl⟩
 unfold Sl.v at B
 simp only[←MO] at B hg SR ⊢
 have EF:aK (n=s.fs.length):=MO;have HL:aK (n<=48):=ar om;clear MO uk
 go_wp2_with (first|(refine eG ?_;first|refine gJ ?_|refine iF ?_|refine eP ?_)|(refine fe ?_;(first|refine dD B 0 ?_|refine dD B 1 ?_|refine dD B 2 ?_|refine dD B 3 ?_);clear B;intro W B))
 go_loopw [11,12,79] (fun v11 v12 i W=>∃j:Nat,j<=n/\v11=.bool (s.loose||(s.fs.take j).any (fun y=>lD p m y.2))/\v12=.bool ((s.fs.take j).any fun y=>lC p m y.2)/\i=I Z (j:Int)/\Dz G w W [cR 72 c9 (mc m),cR 77 c6 (dm p),cR 29 c4 (eZ 0).cells,cR 46 b (i5 s T ⟨fa,n,oG⟩ Iq),cL 75 10 (.slice fa n oG) n (iy (qi (lC p m) (fun k=>cq k p.flags true s.now) s.fs j)),cL 3 1 Iq.v n (gQ s.fs),cM T.v s.ms]) (fun _ _ i _=>n-(intOf i).toNat)
 case atStart=>exact⟨0,bZ _,by simp,by simp,rfl,by rw[Si];exact B⟩
 case round=>
  clear B
  obtain⟨j,hj,rfl,rfl,rfl,B⟩:=hrel
  by_cases hlt:j<n
  .obtain⟨g,rfl⟩:=hg om
   (have iu:j<s.fs.length:=by have:=EF.out;omega)
   obtain⟨x,hx⟩:∃x,s.fs[j]?=some x:=⟨_,List.getElem?_eq_getElem iu⟩
   have HE:aK (_=(fc x.2).toList):=ug _ 10 pN _ _ _ (Sk (P:=lC p m) (g:=fun k=>cq k p.flags true s.now) hx);(have sk:=fun w=>Hn g n oG j hlt w);(have kQ:(j:Int)<(n:Int):=by omega);have HM:=Hr hlt;have fU:=oQ (p:=j) (by have:=HL.out;omega);have HK:aK _:=FK (lD p m) hx;have HQ:aK _:=FK (lC p m) hx;have HX:aK _:=hx;clear iu hx hg;(have ne:∀u v:Int,(u==v)=false->(u != v)=true:=fun u v h=>by simp[bne,h]);(have eq:∀u v:Int,(u==v)=true->(u != v)=false:=fun u v h=>by simp[bne,h])
   cases e1:dZ x.2==m with
   | false=>
    (have n1:lD p m x.2=false:=by simp[lD,e1]);(have n2:lC p m x.2=false:=by simp[lC,n1]);have HZ:aK _:=FJ (g:=fun k=>cq k p.flags true s.now) HX.out n2;(have e0:(!(dZ x.2==m))=true:=by rw[e1];rfl);clear ne eq
    exact sq
   | true=>
    (have e0:(!(dZ x.2==m))=false:=by rw[e1];rfl)
    cases e2:x.2.rem==p.src with
    | false=>
     (have n1:lD p m x.2=false:=by simp[lD,e2]);(have n2:lC p m x.2=false:=by simp[lC,n1]);have HZ:aK _:=FJ (g:=fun k=>cq k p.flags true s.now) HX.out n2;have q2:=ne _ _ e2;clear ne eq
     exact sq
    | true=>
     (have n1:lD p m x.2=true:=by simp[lD,e1,e2]);have q2:=eq _ _ e2;clear ne eq
     cases e3:x.2.rp==p.aj with
     | false=>
      (have n2:lC p m x.2=false:=by simp[lC,e3]);have HZ:aK _:=FJ (g:=fun k=>cq k p.flags true s.now) HX.out n2
      exact sq
     | true=>
      (have n2:lC p m x.2=true:=by simp[lC,n1,e3]);have HZ:aK _:=Sm (g:=fun k=>cq k p.flags true s.now) HX.out n2;(have HS:aK _:=Sh (fun y:Nat×Fl=>(fc y.2).toList) 10 pN (qi (lC p m) (fun k=>cq k p.flags true s.now) s.fs j) j (x.1,cq x.2 p.flags true s.now) (by rw[Sj,←EF.out];exact hlt));have HJ:aK (j*10+10<=n*10):=ar om;(have CX:=fun W=>qeR x.2 p s.now SQ HN1 W)
      go_upto_region 22 with(first|(refine iz (t:=75) ?_;refine iN ?_;clear B;intro mG W B)|(refine eG (t:=75) ?_;refine Bt 4 B HE.out ?_)|(refine eNe ?_;refine dNe ?_)|(refine eG ?_;first|refine gJ ?_|refine iF ?_|refine eP ?_)|(refine fe ?_;(first|refine dD B 0 ?_|refine dD B 1 ?_|refine dD B 2 ?_|refine dD B 3 ?_);clear B;intro W B))
      refine nZ B 99 [13] ?_;clear B;intro W B A;refine SP ?_;refine OZ 11 B (CX _) ?_;clear B A;intro W B A;refine er [12] ?_;refine fQ 13 ?_
      refine kse B 5 ?_ HS.out HJ.out
      clear B A;intro W B;refine zv ?_;refine er [14] ?_;refine fM ?_
      exact sq
  ·(have kQ:¬(j:Int)<(n:Int):=by omega)
   obtain rfl:j=n:=by omega
   have hk:s.fs.take j=s.fs:=List.take_of_length_le (by have:=EF.out;omega);rw[hk];clear hk hj hlt hg;have a11:=yC (fs:=s.fs) (lD p m);have a12:=yC (fs:=s.fs) (lC p m);rw[a11,a12];clear a11 a12;have HA:aK _:=hap;have HUU:aK _:=hu;have HR:aK _:=hr;clear hap hu hr
   cases tT:s.fs.find? (fun y=>lC p m y.2) with
   | some x=>
    have HU:aK (qi (lC p m) (fun k=>cq k p.flags true s.now) s.fs j=fG s.fs x.1 (cq x.2 p.flags true s.now)):=ar (by rw[EF.out,Sn HUU.out HA.out,tT]);have xk:aK (r=(⟨0,nI fr.data.toList 1 (167772161+m.2.1) m.2.2.1,true,ak⟩,s.keep x.1 (cq x.2 p.flags true s.now))):=ar (by rw[HR.out];unfold Nt.dK Nt.find;rw[tT];simp);clear tT CN SR HR
    simp only[Option.isSome_some]
    go_wp2_with (first|(go_at_call 58;go_fit (CT _);refine kg ?_;clear B;intro W B)|(refine eG ?_;first|refine gJ ?_|refine iF ?_|refine eP ?_)|(refine fe ?_;(first|refine dD B 0 ?_|refine dD B 1 ?_|refine dD B 2 ?_|refine dD B 3 ?_);clear B;intro W B))
    rw[HU.out] at B
    rw[xk.out]
    exact jT ⟨rfl,T,⟨fa,j,oG⟩,Iq,by unfold Nt.keep;rw[qdG,Ss,show(fG s.fs x.1 (cq x.2 p.flags true s.now)).length=j by unfold fG;rw[List.length_map,EF.out]];exact B.drop 3⟩
   | none=>
    have HU:aK (qi (lC p m) (fun k=>cq k p.flags true s.now) s.fs j=s.fs):=ar (by rw[EF.out,Sp tT]);have xk:aK _:=ar (HR.out.trans (qdH _ tT));clear tT HR
    rw[HU.out] at B
    simp only[Option.isSome_none]
    cases h11:s.loose||(s.fs.find? fun y=>lD p m y.2).isSome with
    | false=>
     have SS:aK (r=(eZ 11,s)):=ar (by rw[xk.out,aZ h11])
     exact vM
    | true=>
     rw[aT (by simp[h11])] at xk
     cases qg:p.ae != 17 with
     | true=>
      have SS:aK (r=(eZ 11,s)):=ar (by rw[xk.out,qg];rfl)
      exact vM
     | false=>
      cases yG:(j:Int)==48 with
      | true=>
       have SS:aK (r=(eZ 11,s)):=ar (by rw[xk.out,qg,show s.full=true by unfold Nt.full;rw[←EF.out];simp at yG ⊢;omega];rfl)
       exact vM
      | false=>
       have SS:aK (r=(⟨0,nI fr.data.toList 1 (167772161+m.2.1) m.2.2.1,true,ak⟩,s.begin (eV m p.src p.aj 2))):=ar (by rw[xk.out,qg,show s.full=false by unfold Nt.full;rw[←EF.out];have:=HL.out;simp at yG ⊢;omega];rfl);clear CN xk HU
       obtain rfl:=EF.out
       go_wp2_with (first|(go_at_call 58;go_fit (CT _);refine kg ?_;clear B;intro W B)|(go_at_call 56;go_fit (SR _ (B.only 3));rintro e W ⟨rfl,T1,F1,I1,hk⟩;replace B:=B.call 3 hk;clear hk)|(refine eBf ?_;refine dBf ?_)|(refine eG ?_;first|refine gJ ?_|refine iF ?_|refine eP ?_)|(refine fe ?_;(first|refine dD B 0 ?_|refine dD B 1 ?_|refine dD B 2 ?_|refine dD B 3 ?_);clear B;intro W B))
       rw[SS.out]
       exact jT ⟨rfl,T1,F1,I1,B.drop 3⟩
def qeS(hn:0<=s.now/\s.now<=549755813888)(uk:s.fs.length<=48)(hbg:s.began<1000)(hu:s.fs.Pairwise (fun x y=>x.1<y.1))(hap:∀p m,s.fs.Pairwise (fun x y=>¬(lC p m x.2=true/\lC p m y.2=true)))(uF:∀m∈s.ms,(0<=m.2.1/\m.2.1<8)/\(0<=m.2.2.1/\m.2.2.1<=65535)):FM b s:=by
 intro W T F Iq fr B hs;have U:s.i7 fr.data.toList=s.i7 fr.data.toList:=rfl
 conv at U=>rhs;unfold Nt.i7
 by_cases hb:cj fr.data.toList=0
 .rw[aT (by simpa using hb)] at U
  by_cases ha:0<=(ba fr.data.toList).dst-3405803777/\(ba fr.data.toList).dst-3405803777<3
  .rw[aT (by simpa using ha)] at U
   have hk:=Sq hb
   by_cases hp:((ba fr.data.toList).ae==1&&(ba fr.data.toList).flags != 0)=true
   .rw[aZ hp] at U
    rw[U]
    simp at hp
    exact FV B fr hs 4 (.inr ⟨hb,.inr ⟨ha,.inl ⟨⟨hp.1,(hk.2.2.2.1 hp.1).elim id fun q=>absurd q hp.2⟩,rfl⟩⟩⟩)
   .rw[aT hp] at U
    (have h3:¬((ba fr.data.toList).ae=1/\(ba fr.data.toList).flags=8):=fun q=>hp (by simp[q.1,q.2]))
    by_cases ht:(ba fr.data.toList).aG=1
    .rw[aZ ht] at U
     rw[U]
     exact FV B fr hs 12 (.inr ⟨hb,.inr ⟨ha,.inr ⟨h3,ht,rfl⟩⟩⟩)
    .rw[aT ht] at U
     cases hf:s.ms.find? (gj (ba fr.data.toList).ae ((ba fr.data.toList).dst-3405803777) (ba fr.data.toList).ai) with
     | none=>
      rw[hf] at U
      rw[U]
      exact qeP B fr hs _ rfl hb _ rfl om om h3 (by simpa using ht) hf
     | some m=>
      rw[hf] at U
      have hm:=uF m (List.mem_of_find?_eq_some hf)
      simp only[q5l hb hp ht hm.1 hm.2] at U
      exact qeQ B fr hs _ rfl hb _ rfl om om h3 (by simpa using ht) m hf hn uk hbg hu (hap _ m) hm.1 _ U
  .rw[aZ (by simpa using ha)] at U
   rw[U]
   exact FV B fr hs 7 (.inr ⟨hb,.inl ⟨ha,rfl⟩⟩)
 .rw[aZ hb] at U
  rw[U]
  exact FV B fr hs _ (.inl ⟨hb,rfl⟩)
def SU{n:Nat}(h:n<10):IntKind.i64.wrap (n:Int)=n:=QT om
def MP{x:Int}{l:Nat}(h:0<=x/\x<=l)(hl:l<=1000):IntKind.i64.wrap (x+1)=x+1/\o8 (x+1):=⟨QT om,oN om⟩
section
variable (w:World) (f:Nat->Int) (g:Nat->Bool) (h:Nat->Int) (sl:Value) (ms:List Mp) (b1 b3 b4 b5 b6:Nat)
def MQ(N:Nat)(l:List Mp):List Cp:=[cR 42 b1 (tc f g h sl),cG b6 N (mI 3 G4 o8 b6 (zl l)),cG b5 N (mI 199 k2 Ju b5 (wV l)),cG b4 N (mB 198 k3 Ew b4 (Oq l)),cG b3 N (mB 196 k3 Ew b3 (ya l))]
def po(u:Nat->ag):Prop:=[u 1,u 3,u 4,u 5,u 6]=[V (some ⟨b1,0,none⟩),.map (some b3),.map (some b4),.map (some b5),.map (some b6)]
def V1(q:Nat)(u:Nat->ag)(W:af):Prop:=∃j:Nat,q=ms.length-j/\j<=ms.length/\po b1 b3 b4 b5 b6 u/\[u 28,u 29,u 30]=[sl,I Z (ms.length:Int),I Z (j:Int)]/\Dz (fun _=>False) w W (MQ f g h sl b1 b3 b4 b5 b6 j (ms.take j))
end
section
variable {w:World} {f:Nat->Int} {g:Nat->Bool} {h:Nat->Int} {sl:Value} {ms:List Mp} {b1 b3 b4 b5 b6:Nat}
def qeT(hM:cE w sl ms)(hl:ms.length<=1000)(hG:gM f h ms)(hx:∀u W,V1 w f g h sl ms b1 b3 b4 b5 b6 0 u W->Q (.exit 0) (cJ 203 u) W)(q:Nat)(u:Nat->ag)(W:af)(hJ:V1 w f g h sl ms b1 b3 b4 b5 b6 q u W):
  (uh f113 0).wp prog (Exit.then (ri 203 (V1 w f g h sl ms b1 b3 b4 b5 b6) q) Q) (cJ 203 u) W:=by
 obtain⟨j,hk,hj,hS,hV,B⟩:=hJ
 unfold po at hS
 simp only[aO,and_true] at hS hV
 obtain⟨f1,f3,f4,f5,f6⟩:=hS;obtain⟨f28,f29,f30⟩:=hV
 unfold MQ at B
 conv=>arg 2;whnf
 simp only[cJ,aA,aF,aB,aI,f1,f3,f4,f5,f6,f28,f29,f30]
 clear f1 f3 f4 f5 f6 f28 f29 f30;have HX:=ar hx;have HK:=ar hk;clear hx hk
 by_cases hlt:j<ms.length
 .obtain⟨⟨p,s,i,a,q'⟩,hm⟩:∃m,ms[j]=m:=⟨_,rfl⟩
  have iv:=hM.keep B.iW hM.lt;have hrg:=iv.at j hlt hm
  have h0:jM f h (ms.take j++[(p,s,i,a,q')]):=by
   have:=ZM hG.maps (j+1)
   rwa [bz hlt,hm] at this
  rw[UT,ZL,Bool.or_eq_false_iff] at h0
  obtain⟨-,⟨SV,hs,hi,hq,ha,e5,e6⟩,e4,e3⟩:=h0
  simp only at SV hs hi hq ha e5 e3 e4
  (have HT:=ar (show ms.take (j+1)=ms.take j++[(p,s,i,a,q')] by rw[bz hlt,hm]));(have CB:=fun w=>yb q' w hq);(have CI:=fun w=>QN p w)
  rw[SV] at CI
  obtain⟨s,rfl⟩:∃n:Nat,s=(n:Int):=⟨s.toNat,by omega⟩
  obtain⟨a,rfl⟩:∃n:Nat,a=(n:Int):=⟨a.toNat,by omega⟩
  obtain⟨k,hk⟩:∃n:Nat,fL q'=(n:Int):=⟨(fL q').toNat,by unfold fL;omega⟩
  (have qo:k<6:=by unfold fL at hk;omega);replace e6:f (eu (p,(s:Int),i,(a:Int),q'))=(s:Int)+1:=e6
  rw[qaB hk] at e6
  simp only[Int.toNat_natCast] at e5 e6
  have HA:=ar (show a<3 by omega);have ui:=ar (show s<8 by omega);have HK6:=ar qo;(have HP:aK (Ew (p,(a:Int),q')):=ar ⟨QR SV,oN (by show -9223372036854775808<=(a:Int)/\(a:Int)<=_;omega),oN (by show -9223372036854775808<=q'/\q'<=_;omega)⟩);(have HR:aK (Ew (p,(s:Int),i)):=ar ⟨QR SV,oN (by show -9223372036854775808<=(s:Int)/\(s:Int)<=_;omega),oN (by show -9223372036854775808<=i/\i<=_;omega)⟩);(have H2:aK (Ju ((a:Int),(k:Int))):=ar ⟨oN (by show -9223372036854775808<=(a:Int)/\(a:Int)<=_;omega),oN (by show -9223372036854775808<=(k:Int)/\(k:Int)<=_;omega)⟩);have H1:aK (o8 (s:Int)):=ar (oN om);(have I8:=fun b w=>QO b 21 s ui.out w);(have I3:=fun b w=>MI b 0 a HA.out w);(have I6:=fun b w=>MJ b (6*a) k qo w)
  simp only[bX] at I3
  (have HC:=ar fun v=>Af f g h v s ui.out);(have HF:=ar fun v=>I9 f g h v (6*a+k) om)
  rw[e5] at HC
  rw[e6] at HF
  have d1:decide ((s:Int)<0)=false:=decide_eq_false om;have d2:decide (7<(s:Int))=false:=decide_eq_false om;have d3:decide (i<0)=false:=decide_eq_false om;have d4:decide (65535<i)=false:=decide_eq_false om;have d5:decide ((a:Int)<0)=false:=decide_eq_false om;have d6:decide (2<(a:Int))=false:=decide_eq_false om;(have cz:(ms.take j).length<=1000:=by rw[List.length_take];omega);have HW1:=ar (MP (ZJ (ms.take j) ((a:Int),(k:Int))) cz);have HW2:=ar (MP (ZK (ms.take j) (s:Int)) cz);have HU3:=ar (ZF (ms.take j) (p,(s:Int),i,(a:Int),q'));have HU4:=ar (ZG (ms.take j) (p,(s:Int),i,(a:Int),q'));have HU5:=ar (ZH (ms.take j) (p,(s:Int),i,(a:Int),q'));have HU6:=ar (ZI (ms.take j) (p,(s:Int),i,(a:Int),q'))
  simp only[hk] at HU5
  rw[hk] at CB
  (have kQ:(j:Int)<(ms.length:Int):=by omega);have HJ:aK (j<=1000):=ar om;have fU:=oQ (p:=j) om;have hws:=SU (n:=s) (bi ui.out (by decide));have hwa:=SU (n:=a) (bi HA.out (by decide));have my:=HW1.out.1;have hw2:=HW2.out.1;have fR:aK _:=hlt
  generalize ms.take j=D at *
  have E3:=ar e3;have E4:=ar e4;clear hj hl SV hs hi hq ha e5 e6 e3 e4 hk qo cz hm hG
  go_upto_region 12 with(first|(refine qU rfl (.tmp 28) (.tmp 30) rfl _ ms iv rfl j rfl hlt ?_)|(refine iz ?_;refine iN ?_;clear B;intro b8 W B)|(refine wpList_load_mid rfl 72 (.tmp 32) rfl _ _ rfl (jn (p,(s:Int),i,(a:Int),q')) _ hrg underlying72 rfl (xR _) ?_;rw[Ag];clear hrg iv)|(refine eG ?_;refine eP ?_)|(go_at_call 54;go_fit (CB _);refine Bx ?_)|(go_at_call 114;go_fit (CI _);refine Bx ?_)|(refine fe ?_;refine dD B 0 ?_;clear B;intro W B))
  clear d1 d2 d3 d4 d5 d6
  (try simp only[List.set_cons_zero,List.set_cons_succ] at B)
  rename_i K hK
  refine FN (n:=203) (fun u W=>∃j7 MR,[u 1,u 3,u 4,u 5,u 6]=[V (some ⟨b1,0,none⟩),.map (some b3),.map (some b4),.map (some b5),.map (some b6)]/\[u 8,u 9,u 12,u 13,u 28,u 29,u 30]=[V (some ⟨b8,0,none⟩),I Z (k:Int),V (some ⟨j7,0,none⟩),V (some ⟨MR,0,none⟩),sl,I Z (ms.length:Int),I Z (j:Int)]/\Dz (fun _=>False) w W (cR 196 j7 #[I Z p,I Z (a:Int),I Z q']::cR 198 MR #[I Z p,I Z (s:Int),I Z i]::cR 72 b8 (mc (p,(s:Int),i,(a:Int),q'))::MQ f g h sl b1 b3 b4 b5 b6 j D)) ?_ ?_
  .clear hK;refine nZ B 1 [] ?_;clear B;intro W B A;refine er [0,1,2,3,4,5,6,7,8,9,10,11,12,13] ?_
   refine qw 14 15 (nx ?_) (nx ?_)
   .refine tA B ?_ (hz:=QP)
    clear B A;intro j7 W B A;refine fQ 15 ?_
    refine tA B ?_ (hz:=QQ)
    clear B A;intro MR W B A;refine fQ 16 ?_;refine iG B 1 ?_;clear B A;intro W B A;refine fQ 17 ?_;refine iG B 0 ?_;clear B A;intro W B A
    exact fM (endF ⟨j7,MR,by kernel_rfl,by kernel_rfl,B.swap⟩)
   .refine tA B ?_ (hz:=QQ)
    clear B A;intro MR W B A;refine fQ 14 ?_
    refine tA B ?_ (hz:=QP)
    clear B A;intro j7 W B A;refine fQ 16 ?_;refine iG B 0 ?_;clear B A;intro W B A;refine fQ 17 ?_;refine iG B 1 ?_;clear B A;intro W B A
    exact fM (endF ⟨j7,MR,by kernel_rfl,by kernel_rfl,B⟩)
  .clear B;rintro u W ⟨j7,MR,hS,hV,B⟩
   simp only[aO,and_true] at hS hV
   obtain⟨f1,f3,f4,f5,f6⟩:=hS;obtain⟨f8,f9,f12,f13,f28,f29,f30⟩:=hV;refine hK _ _ ?_;clear hK
   simp only[cJ,aA,aF,aB,aI,f1,f3,f4,f5,f6,f8,f9,f12,f13,f28,f29,f30]
   clear f1 f3 f4 f5 f6 f8 f9 f12 f13 f28 f29 f30
   unfold MQ at B
   go_upto_region 13 with fail
   refine nZ B 99 [] ?_;clear B;intro W B A;refine er [0,1] ?_
   refine O7 2 (v:=.bool false) (fun w h=>lkB (h.at 7 rfl) QJ (p,(a:Int),q') HP.out E3.out) ?_
   refine er [3,4,5] ?_
   refine O7 6 (v:=.bool false) (fun w h=>lkB (h.at 6 rfl) QK (p,(s:Int),i) HR.out E4.out) ?_
   refine er [7,8,9,10,11,12] ?_
   refine VS (is:=[]) (i:=13) ?_ (hc:=HC.out _)
   refine er [14,15,16,17,18,19,20,21,22,23,24,25,26] ?_
   refine VS (is:=[]) (i:=27) ?_ (hc:=HF.out _)
   refine er [28,29,30,31,32] ?_;refine fM ?_
   go_upto_region 15 with fail
   refine nZ B 2 [] ?_;clear B;intro W B A;refine er [0,1,2,3] ?_;refine fQ 4 ?_;refine kmB B 7 QJ (p,(a:Int),q') HP.out true HJ.out HU3.out ?_;clear B A;intro W B;refine nJ ?_;intro A;refine fQ 5 ?_;refine kmB B 6 QK (p,(s:Int),i) HR.out true HJ.out HU4.out ?_;clear B A;intro W B;refine nJ ?_;intro A;refine fM ?_
   go_upto_region 16 with fail
   replace B:=B.drew;(refine BF [cR 72 b8 (mc (p,(s:Int),i,(a:Int),q')),cG b5 (j+1) (mI 199 k2 Ju b5 (wV D))] [9] ⟨B.at 2 rfl,by obtain⟨n,hn,hh⟩:=B.at 5 rfl;exact⟨n,by omega,hh⟩,trivial⟩ ?_);intro A;refine er [0,1,2,3,4] ?_
   refine O7 5 (fun w h=>SK (h.at 1 rfl) Fc ((a:Int),(k:Int)) H2.out) ?_
   refine er [6] ?_;refine fQ 7 ?_;refine kme B 5 Fc QI ((a:Int),(k:Int)) H2.out HJ.out ?_;clear B A;intro v st W B HST;refine nJ ?_;intro A;refine er [8] ?_;refine fQ 9 ?_;obtain⟨W3,hr,B3⟩:=HST _ _ HW1.out.2 HU5.out;(refine qaA _ _ _ _ rfl _ _ _ rfl rfl (by first|exact rfl|exact congrArg (Value.int .i64) my) hr ?_);clear B HST hr A;have B:=B3;clear B3;refine zv ?_;refine fM ?_
   go_wp2_with (first|(refine eG ?_;refine eP ?_)|((with_reducible refine VY ?_);refine VZ 4 vh (s:Int) H1.out B ?_)|((with_reducible refine eMu ?_);refine dMu B 4 vh (s:Int) H1.out _ HW2.out.2 HJ.out HU6.out ?_ (hz:=by first|exact rfl|exact congrArg (Value.int .i64) hw2);clear B;intro W B))
   (try simp only[fU])
   exact je (ms.length-(j+1)) (by have:=HK.out;have:=fR.out;omega) ⟨j+1,rfl,fR.out,by unfold po;kernel_rfl,by kernel_rfl,by rw[HT.out];exact B.drop 3⟩
 ·(have kQ:¬(j:Int)<(ms.length:Int):=by omega)
  obtain rfl:j=ms.length:=by omega
  clear hlt hj hl hG
  go_wp2
  exact rj HX.out ⟨ms.length,by omega,au _,by unfold po;kernel_rfl,by kernel_rfl,B⟩
end
section
variable (w:World) (f:Nat->Int) (g:Nat->Bool) (h:Nat->Int) (sl:Value) (ms:List Mp) (b1 b3 b4 b5 b6 nu:Nat)
def SX(q:Nat):List Cp:=cG nu q (mI 3 G4 o8 nu (jO f q))::MQ f g h sl b1 b3 b4 b5 b6 ms.length ms
def V2(q:Nat)(u:Nat->ag)(W:af):Prop:=∃a:Nat,q=3-a/\a<=3/\po b1 b3 b4 b5 b6 u/\[u 14,u 146]=[.map (some nu),I Z (a:Int)]/\Dz (fun _=>False) w W (SX f g h sl ms b1 b3 b4 b5 b6 nu (6*a))
def V3(a q:Nat)(u:Nat->ag)(W:af):Prop:=∃k:Nat,q=6-k/\k<=6/\po b1 b3 b4 b5 b6 u/\[u 14,u 15,u 146,u 149]=[.map (some nu),I Z (a:Int),I Z (a:Int),I Z (k:Int)]/\Dz (fun _=>False) w W (SX f g h sl ms b1 b3 b4 b5 b6 nu (6*a+k))
def V4(q:Nat)(u:Nat->ag)(W:af):Prop:=∃s:Nat,q=8-s/\s<=8/\po b1 b3 b4 b5 b6 u/\[u 14,u 177]=[.map (some nu),I Z (s:Int)]/\Dz (fun _=>False) w W (SX f g h sl ms b1 b3 b4 b5 b6 nu 18)
end
def qeU{k:Nat}(ha:a<3)(hk:k<6):Ju ((a:Int),(k:Int)):=⟨oN (by show -9223372036854775808<=(a:Int)/\(a:Int)<=_;omega),oN (by show -9223372036854775808<=(k:Int)/\(k:Int)<=_;omega)⟩
section
variable {w:World} {f:Nat->Int} {g:Nat->Bool} {h:Nat->Int} {sl:Value} {ms:List Mp} {b1 b3 b4 b5 b6 nu:Nat}
def qeV(hG:gM f h ms)(ha:a<3)(hx:∀u W,V3 w f g h sl ms b1 b3 b4 b5 b6 nu a 0 u W->Q (.exit 4) (cJ 203 u) W)(q:Nat)(u:Nat->ag)(W:af)(hJ:V3 w f g h sl ms b1 b3 b4 b5 b6 nu a q u W):
  (uh f113 2).wp prog (Exit.then (ri 203 (V3 w f g h sl ms b1 b3 b4 b5 b6 nu a) q) Q) (cJ 203 u) W:=by
 obtain⟨k,hk,qo,hS,hV,B⟩:=hJ
 unfold po at hS
 simp only[aO,and_true] at hS hV
 obtain⟨f1,f3,f4,f5,f6⟩:=hS;obtain⟨f14,f15,f146,f149⟩:=hV
 unfold SX MQ at B
 conv=>arg 2;whnf
 simp only[cJ,aA,aF,aB,aI,f1,f3,f4,f5,f6,f14,f15,f146,f149]
 clear f1 f3 f4 f5 f6 f14 f15 f146 f149;have HX:=ar hx;have HK:=ar hk;clear hx hk
 by_cases hlt:k<6
 ·(have hki:(k:Int)<6:=by omega);have MS:aK (6*a+k<18):=ar om;(have I3:=fun b w=>MI b 0 a ha w);(have I6:=fun b w=>MJ b (6*a) k hlt w)
  simp only[bX] at I3
  (have HF:=ar fun v=>I9 f g h v (6*a+k) MS.out);have H2:=ar (qeU ha hlt);have qA:aK (6*a+k<=1000):=ar om;have hp:=GN hG.iP (6*a+k) MS.out;have hd:=(QM.1 hG).2.2.1 _ MS.out
  unfold Jx at hd
  rw[show(6*a+k)/6=a by omega,show(6*a+k)%6=k by omega] at hd
  have Pa:decide (0<f (6*a+k))=decide (0<wV ms ((a:Int),(k:Int))):=decide_eq_decide.2 hd;(have HW:=ar (MP (x:=jO f (6*a+k) (f (6*a+k)-1)) (l:=18) (by have:=ZP f (6*a+k) (f (6*a+k)-1);have:=MS.out;omega) (by decide)));have hw2:=HW.out.1;have my:=(QU hp).1;have HO:=ar (QU hp).2;have fU:=oQ (p:=k) om;have fR:aK _:=hlt;clear qo hlt hp hd hG ha
  cases g1:decide (0<wV ms ((a:Int),(k:Int))) with
  | true=>
   rw[g1] at Pa
   have HU:=ar (ZN f (6*a+k) (of_decide_eq_true Pa))
   go_wp2_with (first|(refine eG ?_;refine eP ?_ (hc:=HF.out _))|((with_reducible refine VY (t:=56) ?_);refine VZ 0 vh (f (6*a+k)-1) HO.out B ?_ (hy:=by first|exact rfl|exact congrArg (Value.int .i64) my))|((with_reducible refine VY ?_);refine VZ 3 Fc ((a:Int),(k:Int)) H2.out B ?_)|((with_reducible refine eMu ?_);refine dMu B 0 vh (f (6*a+k)-1) HO.out _ HW.out.2 qA.out HU.out ?_ (hy:=by first|exact rfl|exact congrArg (Value.int .i64) my) (hz:=by first|exact rfl|exact congrArg (Value.int .i64) hw2);clear B;intro W B))
   (try simp only[fU])
   exact je (6-(k+1)) (by have:=HK.out;have:=fR.out;omega) ⟨k+1,rfl,fR.out,by unfold po;kernel_rfl,by kernel_rfl,B⟩
  | false=>
   rw[g1] at Pa
   have HU:aK (jO f (6*a+(k+1))=_):=ar (ZO f (6*a+k) (of_decide_eq_false Pa))
   go_wp2_with (first|(refine eG ?_;refine eP ?_ (hc:=HF.out _))|((with_reducible refine VY ?_);refine VZ 3 Fc ((a:Int),(k:Int)) H2.out B ?_))
   (try simp only[fU])
   exact je (6-(k+1)) (by have:=HK.out;have:=fR.out;omega) ⟨k+1,rfl,fR.out,by unfold po;kernel_rfl,by kernel_rfl,by
    refine B.put 0 rfl (cG nu (6*a+(k+1)) _) (Gr.refl _ _) ?_ fun c hc=>.inl hc
    obtain⟨n,hn,hh⟩:=B.at 0 rfl;rw[HU.out]
    exact MM vL hh om⟩
 .obtain rfl:k=6:=by omega
  clear hlt qo hG ha
  go_wp2
  exact rj HX.out ⟨6,rfl,au _,by unfold po;kernel_rfl,by kernel_rfl,B⟩
def qeW(hG:gM f h ms)(hx:∀u W,V2 w f g h sl ms b1 b3 b4 b5 b6 nu 0 u W->Q (.exit 2) (cJ 203 u) W)(q:Nat)(u:Nat->ag)(W:af)(hJ:V2 w f g h sl ms b1 b3 b4 b5 b6 nu q u W):
  (uh f113 1).wp prog (Exit.then (ri 203 (V2 w f g h sl ms b1 b3 b4 b5 b6 nu) q) Q) (cJ 203 u) W:=by
 obtain⟨a,hk,ha,hS,hV,B⟩:=hJ
 unfold po at hS
 simp only[aO,and_true] at hS hV
 obtain⟨f1,f3,f4,f5,f6⟩:=hS;obtain⟨f14,f146⟩:=hV
 conv=>arg 2;whnf
 simp only[cJ,aA,aF,aB,aI,f1,f3,f4,f5,f6,f14,f146]
 clear f1 f3 f4 f5 f6 f14 f146;have HX:=ar hx;have HK:=ar hk;clear hx hk
 by_cases hlt:a<3
 ·(have hai:(a:Int)<3:=by omega);have fU:=oQ (p:=a) om;have fR:aK _:=hlt;clear ha hlt
  go_wp2
  rename_i K hK
  refine lG (n:=203) (V3 w f g h sl ms b1 b3 b4 b5 b6 nu a) 6 (fun u hJ=>lF _ hJ (qeV hG fR.out ?_)) ⟨0,rfl,bZ _,by unfold po;kernel_rfl,by kernel_rfl,B⟩
  clear B;rintro u W ⟨k,hk,qo,hS,hV,B⟩
  obtain rfl:k=6:=by omega
  unfold po at hS
  simp only[aO,and_true] at hS hV
  obtain⟨f1,f3,f4,f5,f6⟩:=hS;obtain⟨f14,f15,f146,f149⟩:=hV
  show K (cJ 203 u) W
  refine hK _ _ ?_;clear hK
  simp only[cJ,aA,aF,aB,aI,f1,f3,f4,f5,f6,f14,f15,f146,f149]
  clear f1 f3 f4 f5 f6 f14 f15 f146 f149 hk qo
  go_wp2
  (try simp only[fU])
  exact je (3-(a+1)) (by have:=HK.out;have:=fR.out;omega) ⟨a+1,rfl,fR.out,by unfold po;kernel_rfl,by kernel_rfl,B⟩
 .obtain rfl:a=3:=by omega
  clear hlt ha hG
  go_wp2
  exact rj HX.out ⟨3,rfl,au _,by unfold po;kernel_rfl,by kernel_rfl,B⟩
def qeX(hG:gM f h ms)(hx:∀u W,V4 w f g h sl ms b1 b3 b4 b5 b6 nu 0 u W->Q (.exit 6) (cJ 203 u) W)(q:Nat)(u:Nat->ag)(W:af)(hJ:V4 w f g h sl ms b1 b3 b4 b5 b6 nu q u W):
  (uh f113 3).wp prog (Exit.then (ri 203 (V4 w f g h sl ms b1 b3 b4 b5 b6 nu) q) Q) (cJ 203 u) W:=by
 obtain⟨s,hk,hs,hS,hV,B⟩:=hJ
 unfold po at hS
 simp only[aO,and_true] at hS hV
 obtain⟨f1,f3,f4,f5,f6⟩:=hS;obtain⟨f14,f177⟩:=hV
 unfold SX MQ at B
 conv=>arg 2;whnf
 simp only[cJ,aA,aF,aB,aI,f1,f3,f4,f5,f6,f14,f177]
 clear f1 f3 f4 f5 f6 f14 f177;have HX:=ar hx;have HK:=ar hk;clear hx hk
 by_cases hlt:s<8
 ·(have hsi:(s:Int)<8:=by omega);(have I8:=fun b w=>QO b 21 s hlt w);(have HC:=ar fun v=>Af f g h v s hlt);have H1:aK (o8 (s:Int)):=ar (oN om);obtain⟨c1,c2,c3⟩:=(QM.1 hG).2.2.2 s hlt;have d1:decide (2<jO f 18 (s:Int))=false:=decide_eq_false om;have d2:decide (12<zl ms (s:Int))=false:=decide_eq_false om;(have d3:(h s==0)=(jO f 18 (s:Int)==0):=by rw[Bool.eq_iff_iff];simpa using c3);have fU:=oQ (p:=s) om;have fR:aK _:=hlt;clear hs hlt c1 c2 c3 hG
  obtain⟨e,d4⟩:∃e,(jO f 18 (s:Int)==0)=e:=⟨_,rfl⟩
  rw[d4] at d3
  go_upto_region 36 with fail
  refine nZ B 99 [] ?_;clear B;intro W B A;refine er [0,1] ?_
  refine O7 2 (fun w h=>SK (h.at 0 rfl) vh (s:Int) H1.out) ?_
  refine er [3,4,5,6] ?_
  refine O7 7 (fun w h=>SK (h.at 2 rfl) vh (s:Int) H1.out) ?_
  refine er [8,9,10,11,12,13] ?_
  refine VS (is:=[]) (i:=14) ?_ (hc:=HC.out _)
  refine er [15,16,17] ?_
  refine O7 18 (fun w h=>SK (h.at 0 rfl) vh (s:Int) H1.out) ?_
  refine er [19,20,21] ?_;refine fM ?_
  go_wp2
  (try simp only[fU])
  exact je (8-(s+1)) (by have:=HK.out;have:=fR.out;omega) ⟨s+1,rfl,fR.out,by unfold po;kernel_rfl,by kernel_rfl,B⟩
 .obtain rfl:s=8:=by omega
  clear hlt hs hG
  go_wp2
  exact rj HX.out ⟨8,rfl,au _,by unfold po;kernel_rfl,by kernel_rfl,B⟩
end
def SY{sl:ag}(hG:gM f h ms)(hM:cE w sl ms):
  az prog 113 #[.agg (tc f g h sl)] w fun e w'=>e=.returned (.bool true)/\aq w.heap.size w w':=by
 have B:=Dz.start w
 obtain⟨a0,cap,dB,-⟩:=id hM
 subst dB
 (have CG:=fun w=>MT f g w)
 unfold gg at CG
 rw[hG.iP] at CG
 have qA:=ar (aw hG.len (by decide):ms.length<=1000);have HG:=ar hG;have HM:=ar hM;clear hG hM
 go_enter func113,ntmps113
 go_wp2_with (first|(refine se ?_;refine sf B ?_;clear B;intro c W B)|(refine eG ?_;first|refine iF ?_ (hp:=VW _ _ _ _)|refine eP ?_ (hc:=ma _ _ _ _))|(go_at_call 167;go_fit (CG _);refine kg ?_;clear B;intro W B)|((with_reducible refine SI (t:=192) ?_);refine SJ (fun b=>mB 196 k3 Ew b fun _=>false) B (fun _=>ML) (fun w=>QF w _ _ _) ?_;clear B;intro b3 W B)|((with_reducible refine SI (t:=193) ?_);refine SJ (fun b=>mB 198 k3 Ew b fun _=>false) B (fun _=>ML) (fun w=>QF w _ _ _) ?_;clear B;intro b4 W B)|((with_reducible refine SI (t:=194) ?_);refine SJ (fun b=>mI 199 k2 Ju b fun _=>0) B (fun _=>vL) (fun w=>Jt w _ _ _) ?_;clear B;intro b5 W B)|((with_reducible refine SI (t:=56) ?_);refine SJ (fun b=>mI 3 G4 o8 b fun _=>0) B (fun _=>vL) (fun w=>Jt w _ _ _) ?_;clear B;intro b6 W B))
 rename_i K hK
 refine lG (n:=203) (V1 w f g h (.slice a0 ms.length cap) ms _ _ _ _ _) ms.length (fun u hJ=>lF _ hJ (qeT HM.out qA.out HG.out ?_)) ⟨0,rfl,bZ _,by unfold po;kernel_rfl,by kernel_rfl,B.pick [4,0,1,2,3]⟩
 clear B;rintro u W ⟨j,hk,hj,hS,hV,B⟩
 obtain rfl:j=ms.length:=by omega
 rw[bn] at B
 unfold po at hS
 simp only[aO,and_true] at hS hV
 obtain⟨f1,f3,f4,f5,f6⟩:=hS
 show K (cJ 203 u) W
 refine hK _ _ ?_;clear hK hV hk hj
 simp only[cJ,aA,aF,aB,aI,f1,f3,f4,f5,f6]
 clear f1 f3 f4 f5 f6
 go_wp2_with ((with_reducible refine SI ?_);refine SJ (fun b=>mI 3 G4 o8 b fun _=>0) B (fun _=>vL) (fun w=>Jt w _ _ _) ?_;clear B;intro nu W B)
 rename_i K2 hK2
 refine lG (n:=203) (V2 w f g h (.slice a0 ms.length cap) ms _ _ _ _ _ _) 3 (fun u hJ=>lF _ hJ (qeW HG.out ?_)) ⟨0,rfl,bZ _,by unfold po;kernel_rfl,by kernel_rfl,B⟩
 clear B;rintro u W ⟨j,hk,hj,hS,hV,B⟩
 obtain rfl:j=3:=by omega
 unfold po at hS
 simp only[aO,and_true] at hS hV
 obtain⟨f1,f3,f4,f5,f6⟩:=hS;obtain⟨f14,f146⟩:=hV
 show K2 (cJ 203 u) W
 refine hK2 _ _ ?_;clear hK2 hk hj
 simp only[cJ,aA,aF,aB,aI,f1,f3,f4,f5,f6,f14,f146]
 clear f1 f3 f4 f5 f6 f14 f146
 go_wp2
 rename_i K3 hK3
 refine lG (n:=203) (V4 w f g h (.slice a0 ms.length cap) ms _ _ _ _ _ _) 8 (fun u hJ=>lF _ hJ (qeX HG.out ?_)) ⟨0,rfl,bZ _,by unfold po;kernel_rfl,by kernel_rfl,B⟩
 clear B;rintro u W ⟨j,hk,hj,hS,hV,B⟩
 show K3 (cJ 203 u) W
 refine hK3 _ _ ?_;clear hK3 hk hj
 simp only[cJ,aA,aF,aB,aI]
 go_wp2
 go_ret
 exact⟨rfl,B.iW⟩
structure MU(w:af)(f:Nat->Int)(g:Nat->Bool)(h:Nat->Int)(sl:ag)(ms:List Mp)(p s i d:Int)(e:Ending)(w':af):Prop where
 found:∀m,ms.find? (kf p s i)=some m->e=.returned (GX f g h sl m false 0)
 full:ms.find? (kf p s i)=none->bV ms s=12->e=.returned (GX f g h sl fW false 6)
 room:ms.find? (kf p s i)=none->bV ms s≠12->yc w f g h sl ms p s i (fg f g h ms p s d) w' e
 iW:aq w.heap.size w w'
def J0(w:af)(f:Nat->Int)(g:Nat->Bool)(h:Nat->Int)(sl:ag)(ms:List Mp)(p s i d:Int)(c5 c10 c11 mG q:Nat)(u:Nat->ag)(W:af):Prop:=u 23=I Z 1024/\X2 w f g h sl ms p s i d c5 c10 c11 mG (-1) 0 u W
def qeY{sl:ag}{p s i:Int}{c5 c10 c11 mG:Nat}(hx:∀u W,X2 w f g h sl ms p s i d c5 c10 c11 mG (-1) 0 u W->Q (.exit 2) (cJ 206 u) W)(q:Nat)(u:Nat->ag)(W:af)(hJ:J0 w f g h sl ms p s i d c5 c10 c11 mG q u W):
  (uh f53 1).wp prog (Exit.then (ri 206 (J0 w f g h sl ms p s i d c5 c10 c11 mG) q) Q) (cJ 206 u) W:=by
 obtain⟨f23,xP,v,hS,hV,B⟩:=hJ
 unfold uL at hS
 simp only[aO,and_true] at hS hV
 obtain⟨f1,f2,f3,f4,f5,f10,f11,f14⟩:=hS;obtain⟨f18,f21,f22⟩:=hV
 conv=>arg 2;whnf
 simp only[cJ,aA,aF,aB,aI,f1,f2,f3,f4,f5,f10,f11,f14,f18,f21,f22,f23]
 clear f1 f2 f3 f4 f5 f10 f11 f14 f18 f21 f22 f23;have HX:=ar hx;clear hx
 go_wp2
 exact rj HX.out ⟨xP,v,by unfold uL;kernel_rfl,by kernel_rfl,B⟩
def BP(h:p:=by
 refine dRe B ?_;clear B;intro W B A;refine er [0,1] ?_;refine fQ 2 ?_
 (first|refine iG B 3 ?_|refine iG B 5 ?_|refine iG B 6 ?_|refine iG B 7 ?_|refine iG B 8 ?_|refine iG B 9 ?_|refine iG B 4 ?_);clear B A;intro W B A
 refine fQ 3 ?_
 (first|refine iG B 2 ?_|refine iG B 4 ?_|refine iG B 5 ?_|refine iG B 6 ?_|refine iG B 7 ?_|refine iG B 8 ?_|refine iG B 3 ?_);clear B A;intro W B A
 refine er [4,5] ?_;refine fM ?_
 go_wp2
 first
  | exact vJ ⟨fun m' e=>(by rw[hf] at e;cases e;rfl),fun e=>(by rw[hf] at e;cases e),fun e=>(by rw[hf] at e;cases e),B.iW⟩
  | exact vJ ⟨fun m' e=>(by rw[HF.out] at e;cases e),fun _ _=>rfl,fun _ e=>absurd hc e,B.iW⟩):p:=h
def qeZ(f:Nat->Int)(g:Nat->Bool)(h:Nat->Int)(sl:ag)(ms:List Mp)(p s i d:Int)(j8:qh h)(hno:jw sl)(hd:(Lit.int .i64 d).wf=true)(hP:vd f h ms p s i)(w:af)(hM:cE w sl ms):
  az prog 53 #[.agg (tc f g h sl),.int .i64 p,.int .i64 s,.int .i64 i,.int .i64 d] w (MU w f g h sl ms p s i d):=by
 have B:=Dz.start w
 obtain⟨a0,cap,dB,-⟩:=id hM
 subst dB
 (have CI:=fun w=>QN p w);obtain⟨G,hp,hs,hi⟩:=hP;(have CG:=fun w hM=>SY (g:=g) (sl:=.slice a0 ms.length cap) G (w:=w) hM);have HG:=ar G;have HM:=ar hM
 rw[hp] at CI
 have d1:decide (s<0)=false:=decide_eq_false om;have d2:decide (7<s)=false:=decide_eq_false om;have d3:decide (i<0)=false:=decide_eq_false om;have d4:decide (65535<i)=false:=decide_eq_false om;(have CF:=fun w hM=>ZU f g h (.slice a0 ms.length cap) ms p s i w hM);have qA:=ar (aw G.len (by decide):ms.length<=1000);(have CC:=fun w hM=>qaF f g h (.slice a0 ms.length cap) ms hno (by have:=qA.out;omega) w hM);have HS:=ar hs
 obtain⟨sN,SZ⟩:∃sN:Nat,s=(sN:Int):=⟨s.toNat,by omega⟩
 subst SZ
 have ui:aK (sN<8):=ar om;(have I8:=fun b w=>QO b 21 sN ui.out w);(have Pb:=ar fun v=>Af f g h v sN ui.out);have HD:=ar hd;have dR:=G.mH hs;clear hi hs hd hM hno j8
 cases hf:ms.find? (kf p (sN:Int) i) with
 | some m=>
  rw[hf] at CF
  unfold sZ at CF
  go_enter func53,ntmps53
  go_upto_region 6 with(first|(refine se ?_;refine sf B ?_;clear B;intro c W B)|(refine iz ?_;refine iN ?_;clear B;intro c W B)|(refine Fe rfl rfl ?_)|(go_at_call 113;refine S0 ?_;refine kg ?_;clear B;intro W B)|(go_at_call 114;go_fit (CI _);refine Bx ?_)|(go_at_call 115;go_fit (CF _ (HM.out.keep B.iW HM.out.lt));refine kg ?_;clear B;intro W B)|(go_at_call 116;go_fit (CC _ (HM.out.keep B.iW HM.out.lt));rintro e W ⟨v,rfl,ho,hb⟩;obtain⟨qa,qc,rfl⟩:=wO ho;replace B:=B.FP hb ho;clear hb ho)|(refine eG ?_;first|refine gJ ?_|refine eP ?_ (hc:=ma _ _ _ _)|refine eP ?_ (hc:=Pb.out _))|(refine fe ?_;refine dD B 0 ?_;clear B;intro W B))
  replace B:=B.pick [0,1,4,2,3]
  simp only[List.filterMap_cons,List.filterMap_nil,List.getElem?_cons_zero,List.getElem?_cons_succ] at B
  exact BP
 | none=>
  rw[hf] at CF
  unfold sZ at CF
  have HF:=ar hf;clear hf
  go_enter func53,ntmps53
  go_wp2_with (first|(refine se ?_;refine sf B ?_;clear B;intro c W B)|(refine iz ?_;refine iN ?_;clear B;intro c W B)|(refine Fe rfl rfl ?_)|(go_at_call 113;refine S0 ?_;refine kg ?_;clear B;intro W B)|(go_at_call 114;go_fit (CI _);refine Bx ?_)|(go_at_call 115;go_fit (CF _ (HM.out.keep B.iW HM.out.lt));refine kg ?_;clear B;intro W B)|(go_at_call 116;go_fit (CC _ (HM.out.keep B.iW HM.out.lt));rintro e W ⟨v,rfl,ho,hb⟩;obtain⟨qa,qc,rfl⟩:=wO ho;replace B:=B.FP hb ho;clear hb ho)|(refine eG ?_;first|refine gJ ?_|refine eP ?_ (hc:=ma _ _ _ _)|refine eP ?_ (hc:=Pb.out _))|(refine fe ?_;refine dD B 0 ?_;clear B;intro W B))
  rename_i K hK
  refine lG (n:=206) (J1 w f g h (.slice a0 ms.length cap) ms p (sN:Int) i d _ _ _ _) ms.length (fun u hJ=>lF _ hJ (qdT HM.out qA.out ?_)) ⟨0,rfl,bZ _,by unfold uL;kernel_rfl,by kernel_rfl,B.pick [1,4,2,3]⟩
  clear B;rintro u W ⟨j,hk,hj,hS,hV,B⟩
  show K (cJ 206 u) W
  refine hK _ _ ?_
  obtain rfl:j=ms.length:=by omega
  rw[bn] at hV
  unfold uL at hS
  simp only[aO,and_true] at hS hV
  obtain⟨f1,f2,f3,f4,f5,f10,f11,f14⟩:=hS
  obtain⟨f17,f18,-,-,-⟩:=hV
  simp only[cJ,aA,aF,aB,aI,f1,f2,f3,f4,f5,f10,f11,f14,f17,f18]
  clear f1 f2 f3 f4 f5 f10 f11 f14 f17 f18 hK hk hj CF CI CG
  unfold O5 at B
  by_cases hc:bV ms (sN:Int)=12
  .rw[hc]
   go_upto_region 15 with fail
   exact BP
  ·(have c12:(((bV ms (sN:Int):Nat):Int)==12)=false:=by simp;omega);(have MV:aK (∀e W,yc w f g h (.slice a0 ms.length cap) ms p (sN:Int) i (fg f g h ms p (sN:Int) d) W e->aq w.heap.size w W->MU w f g h (.slice a0 ms.length cap) ms p (sN:Int) i d e W):=ar fun e W h1 h2=>⟨fun m' e=>(by rw[HF.out] at e;cases e),fun _ e=>absurd e hc,fun _ _=>h1,h2⟩);clear hc HF
   generalize bV ms (sN:Int)=cm at *
   by_cases h0:h sN=0
   .have Pc:=ar (qaJ (g:=g) (p:=p) (d:=d) HG.out HS.out h0)
    rw[h0] at Pb
    clear h0
    go_wp2_with (first|(refine se ?_;refine sf B ?_;clear B;intro c W B)|(refine iz ?_;refine iN ?_;clear B;intro c W B)|(refine Fe rfl rfl ?_)|(go_at_call 113;refine S0 ?_;refine kg ?_;clear B;intro W B)|(go_at_call 114;go_fit (CI _);refine Bx ?_)|(go_at_call 115;go_fit (CF _ (HM.out.keep B.iW HM.out.lt));refine kg ?_;clear B;intro W B)|(go_at_call 116;go_fit (CC _ (HM.out.keep B.iW HM.out.lt));rintro e W ⟨v,rfl,ho,hb⟩;obtain⟨qa,qc,rfl⟩:=wO ho;replace B:=B.FP hb ho;clear hb ho)|(refine eG ?_;first|refine gJ ?_|refine eP ?_ (hc:=ma _ _ _ _)|refine eP ?_ (hc:=Pb.out _))|(refine fe ?_;refine dD B 0 ?_;clear B;intro W B))
    rename_i K2 hK2
    refine lG (n:=206) (J0 w f g h (.slice a0 ms.length cap) ms p (sN:Int) i d _ _ _ _) 0 (fun u hJ=>lF _ hJ (qeY fun u W hX=>?_)) ⟨by kernel_rfl,_,_,by unfold uL;kernel_rfl,by kernel_rfl,B.pick [1,0,2,3,4,5]⟩
    show K2 (cJ 206 u) W
    refine hK2 _ _ ?_
    exact SF HD.out qA.out ui.out (by decide) (by decide) (fun e=>absurd e (by decide)) (fun _ _ e W hb=>MV.out _ _ (Ff (by rw[Pc.out,aT e]) e) hb) (fun _ A hA=>by
     rcases hA with⟨hA,-⟩|⟨-,hp,rfl⟩
     .omega
     .exact⟨fun e W hb=>MV.out _ _ (Ff (by rw[Pc.out,aZ hp,aT e]) e) hb,fun e v W hM hm hb=>MV.out _ _ (JA (by rw[Pc.out,aZ hp,aZ e];rfl) (by simp[upd]) hM hm) hb⟩) (fun _ _ h=>h) _ _ hX
   .obtain⟨aN,Jj⟩:∃aN:Nat,h sN=(aN:Int)+1:=⟨(h sN-1).toNat,by have:(sN:Int).toNat=sN:=rfl;rw[this] at dR;omega⟩
    (have wN:aN<3:=by have:(sN:Int).toNat=sN:=rfl;rw[this] at dR;omega);(have HA:=ar fun(j:Nat) hf=>qaG (g:=g) (p:=p) (d:=d) (j:=j) HG.out HS.out Jj hf);(have Pc:=ar fun hf=>qaI (g:=g) (p:=p) (d:=d) HG.out HS.out Jj hf);(have xk:=ar fun hf=>qaH (g:=g) (p:=p) (d:=d) HG.out HS.out Jj hf);(have Pd:bK ((aN:Int)+1-1)=(aN:Int):=by unfold bK;omega);have HH:=ar Jj
    rw[Jj] at Pb
    clear h0 Jj dR
    go_wp2_with (first|(refine se ?_;refine sf B ?_;clear B;intro c W B)|(refine iz ?_;refine iN ?_;clear B;intro c W B)|(refine Fe rfl rfl ?_)|(go_at_call 113;refine S0 ?_;refine kg ?_;clear B;intro W B)|(go_at_call 114;go_fit (CI _);refine Bx ?_)|(go_at_call 115;go_fit (CF _ (HM.out.keep B.iW HM.out.lt));refine kg ?_;clear B;intro W B)|(go_at_call 116;go_fit (CC _ (HM.out.keep B.iW HM.out.lt));rintro e W ⟨v,rfl,ho,hb⟩;obtain⟨qa,qc,rfl⟩:=wO ho;replace B:=B.FP hb ho;clear hb ho)|(refine eG ?_;first|refine gJ ?_|refine eP ?_ (hc:=ma _ _ _ _)|refine eP ?_ (hc:=Pb.out _))|(refine fe ?_;refine dD B 0 ?_;clear B;intro W B))
    rename_i K2 hK2
    refine lG (n:=206) (J2 w f g h (.slice a0 ms.length cap) ms p (sN:Int) i d _ _ _ _ aN) 48 (fun u hJ=>lF _ hJ (qdV (R:=MU w f g h (.slice a0 ms.length cap) ms p (sN:Int) i d) HM.out qA.out wN HS.out (fun u W hfn hX=>?_) (fun j v W jS hM hm hb=>MV.out _ _ (JA (HA.out j jS) (by show h sN-1=_;have:=HH.out;omega) hM hm) hb) (fun _ _ h=>h))) ⟨0,rfl,by decide,by kernel_rfl,rfl,_,_,by unfold uL;kernel_rfl,by kernel_rfl,B.pick [1,0,2,3,4,5]⟩
    show K2 (cJ 206 u) W
    refine hK2 _ _ ?_
    exact SF HD.out qA.out ui.out om (QA _ _ _ _) (fun e W hb=>MV.out _ _ (Ff (xk.out hfn e) (by decide)) hb) (fun _ e=>by omega) (fun e2 A hA=>by
     rcases hA with⟨-,rfl⟩|⟨hA,-⟩
     .exact⟨fun e W hb=>MV.out _ _ (Ff (by rw[Pc.out hfn e2,aT e]) e) hb,fun e v W hM hm hb=>MV.out _ _ (JA (by rw[Pc.out hfn e2,aZ e];rfl) (by simp[upd]) hM hm) hb⟩
     .omega) (fun _ _ h=>h) _ _ hX
def qe4{p:bM}{a:Int}(hP:vd s.f s.h s.ms p.ae a p.aj)(hd:(Lit.int .i64 d).wf=true):OpC s p a d (eR s.f s.g s.h s.ms p.ae a p.aj d):=by
 intro v W hM hN;have hr:=qeZ s.f s.g s.h v s.ms p.ae a p.aj d hP.1.wf hN hd hP W hM
 have key:∀(m:Mp) (t:Bool) (E:Int),eR s.f s.g s.h s.ms p.ae a p.aj d=⟨E,s.f,s.h,s.ms,m,t⟩->(az prog 53 #[.agg (tc s.f s.g s.h v),.int .i64 p.ae,.int .i64 a,.int .i64 p.aj,.int .i64 d] W fun e w'=>e=.returned (GX s.f s.g s.h v m t E)/\aq W.heap.size W w')->az prog 53 #[.agg (tc s.f s.g s.h v),.int .i64 p.ae,.int .i64 a,.int .i64 p.aj,.int .i64 d] W fun e w2=>∃sa n c,e=.returned (.tuple #[.agg (tc (eR s.f s.g s.h s.ms p.ae a p.aj d).f s.g (eR s.f s.g s.h s.ms p.ae a p.aj d).h (.slice sa n c)),.agg (mc (eR s.f s.g s.h s.ms p.ae a p.aj d).m),.bool (eR s.f s.g s.h s.ms p.ae a p.aj d).took,.int .i64 (eR s.f s.g s.h s.ms p.ae a p.aj d).e])/\cE w2 (.slice sa n c) (eR s.f s.g s.h s.ms p.ae a p.aj d).ms/\jw (.slice sa n c)/\(0<(eR s.f s.g s.h s.ms p.ae a p.aj d).ms.length->W.heap.size<=mb (.slice sa n c)\/(mb (.slice sa n c)=mb v/\0<s.ms.length))/\aq W.heap.size W w2:=by
  intro m t E he hc;rw[he];refine hc.mono ?_;rintro e w' ⟨rfl,hb⟩
  obtain⟨q,c,hv,-⟩:=id hM
  subst hv
  exact⟨_,_,_,rfl,hM.below hb,hN,fun h0=>.inr ⟨rfl,h0⟩,hb⟩
 cases hf:s.ms.find? (kf p.ae a p.aj) with
 | some m=>exact key m false 0 (by unfold eR;rw[aZ hP,hf]) (hr.mono fun e w' q=>⟨q.found m hf,q.iW⟩)
 | none=>
  by_cases hc:bV s.ms a=12
  .exact key fW false 6 (by unfold eR;rw[aZ hP,hf];simp only;rw[aZ hc]) (hr.mono fun e w' q=>⟨q.full hf hc,q.iW⟩)
  ·(replace hr:=hr.mono fun e w' q=>And.intro (q.room hf hc) q.iW)
   by_cases he:(fg s.f s.g s.h s.ms p.ae a d).e=0
   rotate_left
   .exact key fW false (fg s.f s.g s.h s.ms p.ae a d).e (by unfold eR;rw[aZ hP,hf];simp only;rw[aT hc,aZ he]) (hr.mono fun e w' q=>⟨q.1.1 he,q.2⟩)
   ·(have ho:eR s.f s.g s.h s.ms p.ae a p.aj d=⟨0,(fg s.f s.g s.h s.ms p.ae a d).f,(fg s.f s.g s.h s.ms p.ae a d).h,s.ms++[(p.ae,a,p.aj,(fg s.f s.g s.h s.ms p.ae a d).h a.toNat-1,(fg s.f s.g s.h s.ms p.ae a d).q)],(p.ae,a,p.aj,(fg s.f s.g s.h s.ms p.ae a d).h a.toNat-1,(fg s.f s.g s.h s.ms p.ae a d).q),(fg s.f s.g s.h s.ms p.ae a d).took⟩:=by unfold eR;rw[aZ hP,hf];simp only;rw[aT hc,aT (fun h=>h he)]);rw[ho];refine hr.mono ?_;rintro e w' ⟨hq,hb⟩
    obtain⟨u,rfl,hMu,hl⟩:=hq.2 he
    obtain⟨q,c,hv,h1,-⟩:=id hMu
    have hq:=h1 zm
    subst hv
    exact⟨_,_,_,rfl,hMu,(fun n c e=>by injection e with e1;rw[hq] at e1;cases e1),fun _=>.inl hl,hb⟩
def FW(h:Ci s)(hb:s.began<1000)(b:Nat):FM b s:=
 qeS h.now h.few hb h.up (fun p m=>h.apart.imp fun hn q=>by
  unfold lC lD at q
  simp at q
  exact hn ⟨q.1.1.1.trans q.2.1.1.symm,q.1.1.2.trans q.2.1.2.symm,q.1.2.trans q.2.2.symm⟩) (fun m hm=>⟨(h.good.maps.1 m hm).2.1,(h.good.maps.1 m hm).2.2.1⟩)
theorem S3(s:Nt)(l:List UInt8)(d a q:Int):si (s.lv l d a q) ak=s.lv l d a q:=by
 have:=(SM s l d a q).1
 unfold si
 rw[←this]
def qfA(h:Ci s)(p:bM)(a:Int):s.fs.Pairwise (fun x y=>¬(cX p a x.2=true/\cX p a y.2=true)):=by
 have hm:=h.mem;have G:=h.good;have ha:=h.apart;clear h
 rw[List.pairwise_iff_forall_sublist] at ha ⊢
 intro x y hs q;refine ha hs ?_;have hx:x∈s.fs:=hs.subset zm;have hy:y∈s.fs:=hs.subset zm;obtain⟨q1,q2⟩:=q
 unfold cX at q1 q2
 simp at q1 q2
 (have e:∀u v:Mp,u.1=v.1->u.2.1=v.2.1->u.2.2.1=v.2.2.1->¬rB [u] v=false:=fun u v h1 h2 h3=>by simp[rB,kf,h1,h2,h3]);(have e1:(dZ x.2).1=(dZ y.2).1:=by show x.2.pr=y.2.pr;omega);(have e2:(dZ x.2).2.1=(dZ y.2).2.1:=by show x.2.s=y.2.s;omega);(have e3:(dZ x.2).2.2.1=(dZ y.2).2.2.1:=by show x.2.i=y.2.i;omega)
 exact⟨MB G.maps.2 (hm x hx) (hm y hy) (e _ _ e1 e2 e3) (e _ _ e1.symm e2.symm e3.symm),by omega,by omega⟩
theorem Ci.told(h:Ci s)(n:Nat):Ci (s.told n):=⟨h.good,h.left,h.now,h.few,h.rem,h.mem,h.up,h.num,h.due,h.used,h.apart⟩
theorem qfB{t:Nt}(h:s.logged=t.logged)(es:List Ev):(s.log es).1=(t.log es).1:=by
 unfold Nt.log
 split
 .rfl
 .simp only[h]
def qfC(h:Ci s)(hbg:s.began<999)(jr:s.logged<=100000)(B:Dz (lc (bD b s T F Iq)) w w (bD b s T F Iq))(k:Ac)(hs:k.fr.size<=140737488351232)(hd:(Lit.int .i64 k.dr).wf=true):gR 23 #[.pointer (some ⟨b,0,none⟩),.agg (ac k)] w b s T F Iq (.agg (s.out k.fr.data.toList k.dr).1.cells) (s.out k.fr.data.toList k.dr).2:=by
 have U:s.out k.fr.data.toList k.dr=s.out k.fr.data.toList k.dr:=rfl
 conv at U=>rhs;unfold Nt.out
 by_cases hb:cj k.fr.data.toList=0
 .rw[aT (by simpa using hb)] at U
  have hk:=Sq hb;have hr:=Hq hb
  by_cases ha:0<=(ba k.fr.data.toList).src-167772161/\(ba k.fr.data.toList).src-167772161<8
  .rw[aT (by simpa using ha)] at U
   by_cases hp:((ba k.fr.data.toList).ae==1&&(ba k.fr.data.toList).flags != 8)=true
   .rw[aZ hp] at U
    rw[U]
    simp at hp
    exact FU B k hs 4 (.inr ⟨hb,.inr ⟨ha,.inl ⟨⟨hp.1,(hk.2.2.2.1 hp.1).elim (fun q=>absurd q hp.2) id⟩,rfl⟩⟩⟩)
   .rw[aT hp] at U
    (have h3:¬((ba k.fr.data.toList).ae=1/\(ba k.fr.data.toList).flags=0):=fun q=>hp (by simp[q.1,q.2]))
    by_cases ht:(ba k.fr.data.toList).aG=1
    .rw[aZ ht] at U
     rw[U]
     exact FU B k hs 12 (.inr ⟨hb,.inr ⟨ha,.inr ⟨h3,ht,rfl⟩⟩⟩)
    .rw[aT ht] at U
     generalize hl:k.fr.data.toList=l at *
     generalize V5:ba l=p at *
     (have hfo:=fun x hx=>(h.good.maps.1 (dZ x.2) (h.mem x hx)));(have lvE:∀(t:Nt) (q:Fl),(0<=q.a/\q.a<3)->(1024<=q.port/\q.port<1072)->t.leave l q=t.lv l q.rem q.a q.port:=fun t q h1 h2=>qeB (q5h hb (by rw[V5];exact hp) (by rw[V5];exact ht) h1 om));(have qfD:uU p.ae=true:=by rcases hk.2.2.2.2 with q|q|q<;>rw[q]<;>rfl)
     refine qeN B k hs p (hl▸V5) (hl▸hb) (p.src-167772161) rfl om om h3 (by simpa using ht) h.now h.few h.up (qfA h p _) h.left om jr (by have:=qvu p.ae (eI p.ae);omega) hk.1 (eR s.f s.g s.h s.ms p.ae (p.src-167772161) p.aj k.dr) (qe4 ⟨h.good,qfD,ha,hk.2.1⟩ hd) _ ?_ ?_ ?_ ?_ ?_
     .intro x hx;have hm:=List.mem_of_find?_eq_some hx
      obtain⟨-,-,-,h4,h5,-⟩:=hfo x hm
      obtain⟨e1,e2,e3⟩:=V6 x.2 p.flags s.now false;have ea:(cq x.2 p.flags false s.now).a=x.2.a:=congrArg (fun m:Mp=>m.2.2.2.1) e1;have eq:(cq x.2 p.flags false s.now).port=x.2.port:=congrArg (fun m:Mp=>m.2.2.2.2) e1;have hq:=List.find?_some hx
      unfold cX at hq
      simp at hq
      refine⟨FW (h.keep hm (V6 _ _ _ _) (qod (h.due x hm))) (by show s.began<_;omega) b,h5,?_⟩
      rw[U,S3,show s.find (cX p (p.src-167772161))=some x from hx,hl]
      show(s.keep x.1 (cq x.2 p.flags false s.now)).leave l (cq x.2 p.flags false s.now)=_
      rw[lvE _ _ (by rw[ea];exact h5) (by rw[eq];exact h4),ea,eq,e2,hq.1.2]
     .intro hf hb;rw[U,show s.find (cX p (p.src-167772161))=none from hf]
      exact aZ hb
     all_goals
      intro hf hb yG
      have U2:s.out l k.dr=s.first l p (p.src-167772161) k.dr:=by
       rw[U,show s.find (cX p (p.src-167772161))=none from hf]
       exact aT (by rw[hb];decide)
      unfold Nt.first Nt.full at U2
      clear U
     .rw[aZ (by simpa using yG)] at U2
      rw[U2,hl]
     .intro he
      rw[aT (by simpa using yG)] at U2
      simp only at U2
      rw[aZ he] at U2
      rw[U2,hl]
     .intro he
      rw[aT (by simpa using yG)] at U2
      simp only at U2
      rw[aT (fun q=>q he)] at U2
      obtain⟨G,hm,-⟩:=V7 he
      obtain⟨m1,m2,m3,-⟩:=qsb he
      have hCi:=q1q h (V5▸hr.2) hf yG he
      obtain⟨-,-,-,h4,h5,-⟩:=G.maps.1 _ hm
      generalize eR s.f s.g s.h s.ms p.ae (p.src - 167772161) p.aj k.dr=o at *
      have lvF:((s.dF o.f o.h o.ms).begin (eV o.m p.dst p.ai (eI p.ae))).leave l (eV o.m p.dst p.ai (eI p.ae))=((s.dF o.f o.h o.ms).begin (eV o.m p.dst p.ai (eI p.ae))).lv l p.dst o.m.2.2.2.1 o.m.2.2.2.2:=lvE _ _ h5 h4
      rw[lvF] at U2
      refine⟨⟨h5,h4,m2,m1⟩,fun wP=>⟨FW hCi (by show s.began+1<_;omega) b,?_⟩,fun wP=>⟨FW (hCi.told _) (by show s.began+1<_;omega) b,?_⟩⟩
      .rw[aT (by rw[wP];decide)] at U2
       rw[U2,hl,S3]
      .rw[aZ wP] at U2
       rw[U2,hl,show(((s.dF o.f o.h o.ms).told (s.logged+1)).begin (eV o.m p.dst p.ai (eI p.ae)))=((s.dF o.f o.h o.ms).begin (eV o.m p.dst p.ai (eI p.ae))).told (s.logged+1) from rfl,qev]
       obtain⟨-,e1,e2⟩:=SM ((s.dF o.f o.h o.ms).begin (eV o.m p.dst p.ai (eI p.ae))) l p.dst o.m.2.2.2.1 o.m.2.2.2.2
       generalize((s.dF o.f o.h o.ms).begin (eV o.m p.dst p.ai (eI p.ae))).lv l p.dst o.m.2.2.2.1 o.m.2.2.2.2=q at *
       have e1':q.2.logged=s.logged:=e1;have e2':q.2.now=s.now:=e2
       show(Rp.mk q.1.code q.1.fr q.1.i7 (q.2.log [oF q.2.now o.m false]).1,(q.2.log [oF q.2.now o.m false]).2)=_
       rw[SL,e1',e2',qfB (t:=s.dF o.f o.h o.ms) e1']
       rfl
  .rw[aZ (by simpa using ha)] at U
   rw[U]
   exact FU B k hs 7 (.inr ⟨hb,.inl ⟨ha,rfl⟩⟩)
 .rw[aZ hb] at U
  rw[U]
  exact FU B k hs _ (.inl ⟨hb,rfl⟩)
def oT(fs:List (Nat×Fl))(t:Int)(j:Nat)(z:Int):Prop:=
 (z=-1/\∀y∈fs.take j,¬y.2.du<=t)\/∃(b:Nat) (x:Nat×Fl),z=(b:Int)/\b<j/\fs[b]?=some x/\x.2.du<=t/\∀y∈fs.take j,y.2.du<=t->x.2.du<=y.2.du/\(x.2.du=y.2.du->x.1<=y.1)
section
variable {fs:List (Nat×Fl)} {t z:Int} {j b:Nat} {x y:Nat×Fl}
def BR(hj:fs[j]?=some x){u:Nat×Fl}:u∈fs.take (j+1)↔u∈fs.take j\/u=x:=by
 obtain⟨h1,h2⟩:=aJ.1 hj;rw[bz h1,h2,dA,List.mem_singleton]
def qfE(h:oT fs t j z)(hj:fs[j]?=some x)(hx:¬x.2.du<=t):oT fs t (j+1) z:=by
 rcases h with⟨e,h⟩|⟨b,y,e,hb,hy,h1,h2⟩
 .exact .inl ⟨e,fun u hu=>((BR hj).1 hu).elim (h u) (fun q=>q▸hx)⟩
 .exact .inr ⟨b,y,e,by omega,hy,h1,fun u hu hl=>((BR hj).1 hu).elim (fun q=>h2 u q hl) (fun q=>absurd (q▸hl) hx)⟩
def qfF(h:∀y∈fs.take j,¬y.2.du<=t)(hj:fs[j]?=some x)(hx:x.2.du<=t):oT fs t (j+1) (j:Int):=
 .inr ⟨j,x,rfl,by omega,hj,hx,fun u hu hl=>((BR hj).1 hu).elim (fun q=>absurd hl (h u q)) (fun q=>by subst q;omega)⟩
def qfG(h2:∀u∈fs.take j,u.2.du<=t->y.2.du<=u.2.du/\(y.2.du=u.2.du->y.1<=u.1))(hj:fs[j]?=some x)(hx:x.2.du<=t)(hl:x.2.du<y.2.du):oT fs t (j+1) (j:Int):=
 .inr ⟨j,x,rfl,by omega,hj,hx,fun u hu hl=>((BR hj).1 hu).elim (fun q=>by have:=h2 u q hl;omega) (fun q=>by subst q;omega)⟩
def S4(hp:fs.Pairwise (fun x y=>x.1<y.1))(hb:fs[b]?=some y)(hj:fs[j]?=some x)(hl:b<j):y.1<x.1:=by
 obtain⟨h1,rfl⟩:=aJ.1 hb
 obtain⟨h2,rfl⟩:=aJ.1 hj
 exact List.pairwise_iff_getElem.1 hp b j h1 h2 hl
def qfH(hp:fs.Pairwise (fun x y=>x.1<y.1))(hb:fs[b]?=some y)(hbj:b<j)(h1:y.2.du<=t)(h2:∀u∈fs.take j,u.2.du<=t->y.2.du<=u.2.du/\(y.2.du=u.2.du->y.1<=u.1))(hj:fs[j]?=some x)(hl:¬x.2.du<y.2.du):oT fs t (j+1) (b:Int):=
 .inr ⟨b,y,rfl,by omega,hb,h1,fun u hu hl=>((BR hj).1 hu).elim (fun q=>h2 u q hl) (fun q=>by subst q;have:=S4 hp hb hj hbj;omega)⟩
def qfI(hp:fs.Pairwise (fun x y=>x.1<y.1))(hb:fs[b]?=some x):fs.filter (fun y=>decide ((y.1:Int)≠(x.1:Int)))=fs.take b++fs.drop (b+1):=by
 obtain⟨h1,h2⟩:=aJ.1 hb;(have e:fs=fs.take b++x::fs.drop (b+1):=by rw[←h2,←List.drop_eq_getElem_cons h1,List.take_append_drop])
 rw[e] at hp
 rw[mV,jC] at hp
 obtain⟨_,⟨h4,_⟩,h5⟩:=hp
 conv=>lhs;rw[e]
 rw[List.filter_append,List.filter_cons_of_neg zm,List.filter_eq_self.2,List.filter_eq_self.2]
 .intro y hy;have:=h4 y hy;simp;omega
 .intro y hy;have:=h5 y hy x zm;simp;omega
end
def qfJ(s:Nt)(t:Int):(s.cK t).Pairwise (fun a b=>tB (dz (dI s.fs)) a b=true):=
 List.pairwise_mergeSort (fun a b c h1 h2=>by unfold tB at *;simp only[decide_eq_true_eq] at *;omega) (fun a b=>by unfold tB;rw[Bool.or_eq_true,decide_eq_true_eq,decide_eq_true_eq];omega) _
theorem FX{fs:List (Nat×Fl)}(hp:fs.Pairwise (fun x y=>x.1<y.1)){x:Nat×Fl}(hx:x∈fs):dI fs (x.1:Int)=some x.2.du:=by
 rw[MW,zx hp hx];rfl
def qfK{u:Nt}{t z:Int}{l r:List Int}(hu:u.fs=s.fs)(hp:s.fs.Pairwise (fun x y=>x.1<y.1))(h:zA u l r)(hl:l++r=s.cK t)(hb:oT (eW u l).2.fs t (eW u l).2.fs.length z):(r=[]/\z=-1)\/∃(r':List Int) (b:Nat) (x:Nat×Fl),z=(b:Int)/\(eW u l).2.fs[b]?=some x/\r=(x.1:Int)::r':=by
 have jS:=h.fs
 rw[hu] at jS
 (have mem:∀x,x∈(eW u l).2.fs↔x∈s.fs/\(x.1:Int) ∉ l:=fun x=>by rw[jS,List.mem_filter,decide_eq_true_eq])
 have due:∀x∈s.fs,x.2.du<=t↔(x.1:Int)∈l\/(x.1:Int)∈r:=fun x hx=>by
  rw[←dA,hl,qvn hp]
  exact⟨fun h=>⟨_,FX hp hx,h⟩,fun⟨d,h1,h2⟩=>by rw[FX hp hx] at h1;cases h1;exact h2⟩
 have hs:=qfJ s t
 rw[←hl] at hs
 unfold oT at hb
 rw[bn] at hb
 cases r with
 | nil=>
  refine .inl ⟨rfl,?_⟩
  rcases hb with⟨e,_⟩|⟨b,x,e,hb,hx,h1,h2⟩
  .exact e
  .have hm:=(mem x).1 (aH hx)
   rcases(due x hm.1).1 h1 with q|q
   .exact absurd q hm.2
   .cases q
 | cons i r'=>
  obtain⟨y,hy,rfl⟩:=h.ok.there i zm
  have hys:=(mem y).1 hy;have hyd:=(due y hys.1).2 (.inr zm);refine .inr ?_
  rcases hb with⟨e,h2⟩|⟨b,x,e,hb,hx,h1,h2⟩
  .exact absurd hyd (h2 y hy)
  .have hm:=(mem x).1 (aH hx)
   refine⟨r',b,x,e,hx,?_⟩
   rcases(due x hm.1).1 h1 with q|q
   .exact absurd q hm.2
   rcases List.mem_cons.1 q with q|q
   .rw[q]
   have hle:tB (dz (dI s.fs)) (y.1:Int) (x.1:Int)=true:=(jC.1 (mV.1 hs).2.1).1 _ q
   unfold tB dz at hle
   rw[FX hp hys.1,FX hp hm.1] at hle
   simp at hle
   have:=h2 y hy hyd
   have:(y.1:Int)=x.1:=by omega
   rw[this]
end Go.Proofs.YtnkpgdejagglaaaGreatDoor
