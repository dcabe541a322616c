/-
  Of what a law stands on.
-/
import Derived.Test.YtnkpgdejagglaaaGreatDoorZyn9
set_option linter.all false
namespace Go.Proofs.YtnkpgdejagglaaaGreatDoor
open _root_.Array renaming getElem?_append_left->bY,getElem?_append_right->iO,size_append->eE
open _root_.Go renaming Calls->az,Operand->aU,Value->ag,World->af,bodyPost_ret->aL,execOp->bG,wpList->aM,wpList_plain->bP
open _root_.Go.RowKit renaming Below->aq,Hid->aK,wrap64->bK
open _root_.Go.Sem renaming run_bind->bB,run_pure->bH
open _root_.Go.Value renaming int->bO,ownBlock->bA,slice->jK
open _root_.List renaming drop_eq_getElem_cons->dJ,map_cons->aB,map_nil->aI,map_toArray->dx,mem_append->dA,mem_cons_self->jD,mem_map->bQ,mem_singleton->dG,pairwise_append->mV,take_length->bn,take_succ_eq_append_getElem->bz
open _root_.List.Pairwise renaming nil->ll
open _root_.Nat renaming add_sub_cancel_left->kJ,le_refl->au,zero_add->bX
open Go.Value renaming int → I,pointer → V
open Go.IntKind renaming i64 → Z
open _root_.Go.Proofs.Tryz Go.ChangeShapes Go.WideShapes Go.ChangeAt Go.RowKit Go.Maps
set_option maxHeartbeats 16000000
set_option maxRecDepth 100000
variable {p:Prop}{w:World}{b b' g':Nat}{F:Nat->Prop}{f h:Nat->Int}{g:Nat->Bool}{ms:List Mp}{d i s:Int}{ops:Array Oper}{rest:List Oper}{o:Oper}{a:Act}{Q:Exit->Act->World->Prop}{tm:Int->Option Int}{k:Fl}{loose:Bool}
def xq(h:p:=by
 go_enter func18,ntmps18
 go_wp2_with (first|(refine gA 29 ?_;refine EI ?_;intro b4 w9 N)|(go_at_call 9;go_fit (CN _ _ _ N.nat);refine qX ?_)|(go_at_call 15;go_fit (CF _);refine tE ?_;clear N;intro w5 N)|(refine gS 29 4 20 ?_;refine sx ((eZ 2).cells) (N.row 0 rfl) ?_;refine oH ?_;clear N;intro w9 N))
 ((try simp only[Exit.inBlock,Exit.then]);refine bodyPost_ret (mW (p:=4) rfl _ _ _ _ rfl (N.row 0 rfl) _ underlying29 rfl (ur _)) rfl ⟨rfl,_,N.nat,N.gr,N.sub⟩)):p:=h
def xr(h:p:=by
 first
  | exact⟨j+1,_,by omega,by go_num,T9⟩| ((repeat apply Exists.intro);exact⟨⟨j+1,_,by omega,by go_num,T9⟩,rfl⟩)):p:=h
def q6t{s:Nt}(h:cC w b s (dI s.fs) F)(n:Int)(Wh:(Lit.int .i64 n).wf=true)(hT:jv w)(h0:¬F 0)(dn:0<=s.now/\s.now<=549755813888)(oI:s.left<=4)(jr:s.logged<=100000)(G:gM s.f s.h s.ms)(hm:∀x∈s.fs,dZ x.2∈s.ms)(dU:s.fs.length<=64):az prog 18 #[.pointer (some ⟨b,0,none⟩),.int .i64 n] w fun e w'=>e=.returned (.agg (s.tick n).1.cells)/\∃F',cC w' b (s.tick n).2 (dI (s.tick n).2.fs) F'/\Gr F w w'/\∀c,F' c->F c\/w.heap.size<=c:=by
 have N:=h.start;(have CN:=fun W F (s:Nt) (hN:cC W b s (dI s.fs) F)=>Hu hN)
 unfold Nt.tick
 by_cases qs:n<1\/549755813888-s.now<n
 .rw[aZ qs];(have CF:=fun w=>xp 2 w)
  rw[←EM] at CF
  (have my:bK (549755813888-s.now)=549755813888-s.now:=by unfold bK;omega)
  by_cases h1:n<1
  .clear Wh hT h0 dn oI jr G hm dU qs
   exact xq
  ·(have h2:549755813888-s.now<n:=by omega);clear Wh hT h0 dn oI jr G hm dU qs
   exact xq
 .rw[aT qs];(have h1:¬n<1:=fun h=>qs (.inl h));(have h2:¬549755813888-s.now<n:=fun h=>qs (.inr h));(have my:bK (549755813888-s.now)=549755813888-s.now:=by unfold bK;omega);(have MN:bK ((s.left:Int)+n)=(s.left:Int)+n:=by unfold bK;omega);(have Wh:bK (s.now+n)=s.now+n:=by unfold bK;omega);have HWK:aK (IntKind.i64.wrap (s.now+n)=s.now+n):=ar (by rw[IntKind.wrap_i64];omega);have HV:aK (min ((s.left:Int)+n) 4=((min (s.left+n.toNat) 4:Nat):Int)):=ar om;have c2:=h.jX;(have s7:s.fs.Pairwise (fun x y=>x.1<y.1):=by obtain⟨cs,v,ov,fm,D,Fw,cnt,M,hF⟩:=h;exact M.up);(have CA:=fun W F (hN:cC W b { s with left:=min (s.left+n.toNat) 4 } (dI s.fs) F)=>q7s hN (s.now+n) (by show s.now<=_;omega) om);have iZ:=S7 G s7 hm (s.now+n);have Tw:=q7x s7 (s.now+n)
  obtain⟨s1,EO⟩:∃s1:Nt,s1={ s with left:=min (s.left+n.toNat) 4,now:=s.now+n }:=⟨_,rfl⟩
  (have yP:jY s1 (s.cK (s.now+n)):=by rw[EO];exact⟨iZ.good,iZ.up,iZ.nd,iZ.there,iZ.mem⟩);have WJ:aK (∀j,j<=(s.cK (s.now+n)).length->zA s1 ((s.cK (s.now+n)).take j) ((s.cK (s.now+n)).drop j)):=ar (qng yP);have oW:=WJ.out _ (au _)
  rw[bn] at oW
  have WK:aK (s1.fs.length=s.fs.length):=ar (by rw[EO]);(have xW:(s.cK (s.now+n)).length<=s.fs.length:=by have:=oW.len;have:=WK.out;omega)
  change ∀W F,cC W b { s with left:=min (s.left+n.toNat) 4 } (dI s.fs) F->az prog 41 _ W (fun e w'=>∃sa c F' cnt',e=.returned (.tuple #[.slice sa (s.cK (s.now+n)).length c,.int .i64 0])/\gT w' (.slice sa (s.cK (s.now+n)).length c) (s.cK (s.now+n))/\fT w' b { s with left:=min (s.left+n.toNat) 4,now:=s.now+n } (Cl (s.now+n) (dI s.fs)) F' cnt'/\cnt'+(s.cK (s.now+n)).length<=s.fs.length/\Gr F W w'/\(∀c,F' c->F c\/W.heap.size<=c)/\(∀k,(jK sa (s.cK (s.now+n)).length c).ownBlock=some k->¬F' k/\W.heap.size<=k)) at CA
  rw[←EO] at CA
  (have yQ:s1.fs=s.fs:=by rw[EO]);have tT:=oW.fs
  rw[yQ,] at tT
  have xt:=oW.rest;have hes:=oW.es
  show az prog 18 _ w fun e w'=>e=.returned (.agg (Rp.cells ⟨0,ByteArray.empty,false,((eW { s with left:=min (s.left+n.toNat) 4,now:=s.now+n } (s.cK (s.now+n))).2.log (eW { s with left:=min (s.left+n.toNat) 4,now:=s.now+n } (s.cK (s.now+n))).1).1⟩))/\∃F',cC w' b ((eW { s with left:=min (s.left+n.toNat) 4,now:=s.now+n } (s.cK (s.now+n))).2.log (eW { s with left:=min (s.left+n.toNat) 4,now:=s.now+n } (s.cK (s.now+n))).1).2 (dI ((eW { s with left:=min (s.left+n.toNat) 4,now:=s.now+n } (s.cK (s.now+n))).2.log (eW { s with left:=min (s.left+n.toNat) 4,now:=s.now+n } (s.cK (s.now+n))).1).2.fs) F'/\Gr F w w'/\∀c,F' c->F c\/w.heap.size<=c
  rw[←EO]
  rw[←tT] at Tw
  generalize s.cK (s.now+n)=l at *
  obtain⟨N9,Ny⟩:∃N9,N9=l.length:=⟨_,rfl⟩
  have Nz:aK (N9=l.length):=Ny;have NA:aK (N9<=64):=ar om
  generalize Tx:Cl (s.now+n) (dI s.fs)=Ij at *
  obtain⟨re,rs,HRE⟩:∃re rs,eW s1 l=(re,rs):=⟨_,_,rfl⟩
  have HR:aK (eW s1 l=(re,rs)):=HRE
  rw[HRE] at Tw xt hes ⊢
  simp only at Tw xt hes ⊢
  (have Ty:rs.logged<=100000:=by rw[xt.2.2.1,EO];exact jr);(have CG:=fun W F (hN:cC W b rs Ij F) (hT:jv W) sl hE=>qxx hN hT sl re hE om Ty);have HE9:aK (re.length<=3518437208780):=ar om;(have Tz:(rs.log re).2.fs=rs.fs:=by unfold Nt.log;split<;>rfl);have HTM:aK (Ij=dI (rs.log re).2.fs):=ar (by rw[Tz];exact Tw)
  generalize rs.log re=lgg at *
  obtain⟨Pz,lg2⟩:=lgg
  simp only at *
  rw[←Ny] at CA
  clear qs dn oI jr G hm dU iZ Tw yP oW xW yQ tT xt hes HRE Ty Tz Tx s7 h Ny
  go_enter func18,ntmps18
  go_upto_region 4 with(first|(refine gA 29 ?_;refine EI ?_;clear N;intro b4 w9 N;clear c2;have c2:=N.nat.jX)|(go_at_call 9;go_fit (CN _ _ _ N.nat);refine qX ?_)|((with_reducible refine iE (.call { callee:=.builtin .min,args:=#[.tmp 27,.const (.int .i64 4)],argTypes:=#[3,3] }) rfl ?_);refine qpz rfl (.tmp 27) rfl _ rfl ?_)|(refine gS 3 30 28 ?_;refine qn2 N rfl (.tmp 30) (.tmp 28) rfl rfl (min (s.left+n.toNat) 4) (by first|exact congrArg (bO .i64) HV.out|(rw[MN];exact congrArg (bO .i64) HV.out)) ?_;clear N c2;intro w9 F9 N))
  refine RD (fun _=>True) trivial (fun _=>?_)
  refine tq 0 (.pointer (some ⟨b,0,none⟩)) rfl trivial (tq 1 (.pointer (some ⟨b,0,none⟩)) rfl trivial (tq 2 (.pointer (some ⟨b,37,none⟩)) rfl trivial ?_));simp only[ZZ];refine tq 3 (.pointer (some ⟨b,0,none⟩)) rfl trivial (tq 5 (.int .i64 n) rfl trivial ?_);simp only[ZZ];refine AR [4] ?_
  refine AC (fun K hK=>?_) AZ
  go_simp
  go_at_call 9;(first|refine(CN _ _ _ N.nat).mono ?_|refine(CN _ _ _ N.drew.nat).mono ?_);rintro e w8 ⟨rfl,hw⟩;rw[hw];clear hw w8
  go_wp2_with fail
  refine hh ?_
  clear hK K;refine tk 6 (.int .i64 (s.now+n)) rfl (Or.inl ⟨by kernel_rfl,by intro w hS;go_simp;exact HWK.out⟩) trivial ?_;simp only[ZZ];refine AR [7] ?_
  refine AC (fun K hK=>?_) AZ
  go_simp
  go_at_call 41;(first|refine(CA _ _ N.nat).mono ?_|refine(CA _ _ N.drew.nat).mono ?_);rintro e w8 ⟨sa,kp,F8,cnt,rfl,Gi,hn8,wM,yR,hf8,nR⟩;(first|replace yR:=WL yR|skip)
  go_wp2_with fail
  refine hh ?_
  clear hK K;refine tq 8 (.tuple #[.slice sa N9 kp,.int .i64 0]) rfl trivial (tq 9 (.slice sa N9 kp) rfl trivial (tq 10 (.int .i64 0) rfl trivial ?_));simp only[ZZ];refine tq 11 (.slice sa N9 kp) rfl trivial (tq 12 (.int .i64 0) rfl trivial ?_);refine oM ?_;obtain⟨Lx,T,HLX⟩:=N.adv hn8 yR hf8 (l:=l) (Nz.out▸Gi) (Nz.out▸nR);clear yR hf8 Gi nR hn8 N;have HLX:aK _:=ar HLX;have HC8:aK _:=ar wM;clear wM
  go_wp2_with fail
  go_loopw [7,44] (fun gv i W=>∃(j:Nat) (F8:Nat->Prop),j<=N9/\i=.int .i64 (j:Int)/\Tk w W b (eW s1 (l.take j)).2 Ij F F8 cnt ((b4,ob 29 (eZ 0).cells)::Lx) gv (eW s1 (l.take j)).1) (fun _ i _=>N9-(intOf i).toNat)
  case atStart=>exact⟨0,_,Nat.zero_le _,rfl,T⟩
  case round=>
   clear T
   obtain⟨j,F9',hj,rfl,T⟩:=hrel
   by_cases hlt:j<N9
   ·(have iu:j<l.length:=by have:=Nz.out;omega);(have kQ:(j:Int)<(N9:Int):=by omega);have HM:=Hr hlt;have fU:=oQ (p:=j) (by have:=NA.out;omega);have FO:=WJ.out j om
    rw[dJ iu] at FO
    obtain⟨x,hx,ex⟩:=FO.ok.there l[j] jD
    obtain⟨g,cur,rfl,kO,Gj⟩:=HLX.out j iu
    rw[←ex] at Gj
    have TA:=((show aP 3 _ g cur from(T.nc.nb.rows _ (List.mem_cons_of_mem _ kO)).1).cell j).trans Gj;(have sk:=fun w=>Ii g N9 kp j hlt w);have hst:=Ht s1 (l.take j) l[j]
    rw[←bz iu,←ex,show eW s1 (l.take j)=((eW s1 (l.take j)).1,(eW s1 (l.take j)).2) from rfl,S6 _ FO.ok.up hx] at hst
    have FL:=FO.ok.less
    rw[←ex] at FL
    have uV:=FO.ok.mem x hx;have NB:=(FO.ok.good.maps.1 _ uV).2.2.2.1
    have pU:cnt+1<=(eW s1 (l.take j)).2.fs.length:=by
     have h1:=FO.len;have h2:=HC8.out;have h3:=Nz.out;have h4:=WK.out
     rw[List.length_take_of_le om] at h1
     omega
    have WN:aK ((eW s1 (l.take j)).1.length<=5000000000):=ar (by have:=FO.es;have:=NA.out;rw[List.length_take_of_le om] at *;omega)
    generalize(eW s1 (l.take j)).2=sj at *
    generalize(eW s1 (l.take j)).1=ej at *
    (have CE:=fun W F (hN:fT W b sj Ij F cnt)=>q83 hN x hx pU);(have CC:=fun W F (hN:fT W b (sj.less (x.1:Int)) Ij F cnt)=>qzy hN (dZ x.2) FL.good FL.good.wf uV)
    change ∀W F,fT W b sj Ij F cnt->az prog 42 _ W (fun e w'=>e=.returned (.agg (mc (dZ x.2)))/\∃F',fT w' b (sj.less (x.1:Int)) Ij F' cnt/\Gr F W w'/\∀c,F' c->F c\/W.heap.size<=c) at CE
    generalize dZ x.2=m9 at *
    generalize sj.less (x.1:Int)=sl at *
    (have CV:=fun W F (hN:cC W b (sl.cu m9).2 Ij F)=>qtn hN m9 true NB)
    generalize kF:sl.cu m9=r at *
    obtain⟨cb,s3⟩:=r
    simp only at CC CV hst
    have hxn:((x.1:Nat):Int)=((x.1:Nat):Int):=rfl
    cases cb with
    | true=>
     rw[aZ rfl] at hst
     have HST:aK (eW s1 (l.take (j+1))=(ej++[oF s3.now m9 true],s3)):=hst
     generalize oF s3.now m9 true=e9 at *
     clear hst hx ex FO FL uV pU NB kF kO Gj iu hxn
     go_wp2_with (first|(go_at_call 42;go_fit (CE _ _ T.nc.nc);rintro e w5 ⟨rfl,F9,fY,dX,fH⟩;clear CE;replace T:=T.call fY dX fH;clear fY dX fH)|(refine gA 72 ?_;refine ax 10 72 OT ?_;intro nS w9 l9 R9 h9;replace T:=T.alloc (o:=ob 72 (mc fW)) l9 R9 h9;clear R9 h9 l9)|(refine gS 72 10 50 ?_;refine sx (mc m9) (T.row 0 rfl) ?_;intro w9 R9 t9;replace T:=T.turn 0 rfl R9 t9;clear R9 t9)|(refine gL 72 10 ?_;refine lx 72 (.tmp 10) (mc m9) (T.row 0 rfl) ?_)|(go_at_call 43;go_fit (CC _ _ T.nc.nc);rintro e w5 ⟨rfl,F9,fY,dX,fH⟩;clear CC;replace T:=T.call fY dX fH;clear fY dX fH)|(go_at_call 44;go_fit (CV _ _ T.nc.nc.nat);rintro e w5 ⟨rfl,df⟩;clear CV;replace T:=T.below df;clear df)|((with_reducible refine iE (.buildSlice 96 1 #[(0,.tmp 57)]) rfl ?_);refine qbj rfl (.tmp 57) rfl e9 rfl ?_;intro b58 w9 l9 R9 h9;replace T:=T.alloc (o:=ob 100 (ec e9)) l9 R9 h9;clear R9 h9 l9)|((with_reducible refine iE (.call { callee:=.builtin .append,args:=#[.tmp 54,.tmp 58],argTypes:=#[96,96] }) rfl ?_);refine qwb rfl (.tmp 54) (.tmp 58) rfl T.ev (T.row 0 rfl) rfl rfl WN.out T.nc.gr.size ?_;intro gv9 w9 he9 dX;replace T:=T.push he9 dX;clear he9 dX))
     go_roundw
     case rel=>
      have T9:=(T.tail.tail).cast HST.out
      exact xr
     case measure=>first|exact HM.out|(rw[fU];exact HM.out)
    | false=>
     rw[aT zm] at hst
     have HST:aK (eW s1 (l.take (j+1))=(ej,s3)):=hst;clear hst hx ex FO FL uV pU NB kF kO Gj iu CV hxn
     go_wp2_with (first|(go_at_call 42;go_fit (CE _ _ T.nc.nc);rintro e w5 ⟨rfl,F9,fY,dX,fH⟩;clear CE;replace T:=T.call fY dX fH;clear fY dX fH)|(refine gA 72 ?_;refine ax 10 72 OT ?_;intro nS w9 l9 R9 h9;replace T:=T.alloc (o:=ob 72 (mc fW)) l9 R9 h9;clear R9 h9 l9)|(refine gS 72 10 50 ?_;refine sx (mc m9) (T.row 0 rfl) ?_;intro w9 R9 t9;replace T:=T.turn 0 rfl R9 t9;clear R9 t9)|(refine gL 72 10 ?_;refine lx 72 (.tmp 10) (mc m9) (T.row 0 rfl) ?_)|(go_at_call 43;go_fit (CC _ _ T.nc.nc);rintro e w5 ⟨rfl,F9,fY,dX,fH⟩;clear CC;replace T:=T.call fY dX fH;clear fY dX fH))
     go_roundw
     case rel=>
      have T9:=(T.tail).cast HST.out
      exact xr
     case measure=>first|exact HM.out|(rw[fU];exact HM.out)
   ·(have kQ:¬(j:Int)<(N9:Int):=by omega)
    obtain rfl:j=N9:=by omega
    have e:l.take j=l:=List.take_of_length_le (by have:=Nz.out;omega)
    rw[e] at T
    rw[HR.out] at T
    simp only at T
    clear e hj hlt
    go_wp2_with (first|(go_at_call 45;go_fit (CG _ _ T.nc.nc.nat (hT.gr T.nc.gr h0) _ (T.ev.at HE9.out));rintro e w5 ⟨rfl,F9,fY,dX,fH⟩;clear CG;replace N:=T.nc.nb.call fY dX fH;clear fY dX fH T)|((with_reducible refine iE (.build 29 #[(0,.tmp 61),(3,.tmp 64)]) rfl ?_);refine qwk (.tmp 61) (.tmp 64) rfl rfl 0 Pz rfl rfl ?_)|(refine gS 29 4 65 ?_;refine sx (Rp.cells ⟨0,ByteArray.empty,false,Pz⟩) (N.row 0 rfl) ?_;refine oH ?_;clear N;intro w9 N))
    ((try simp only[Exit.inBlock,Exit.then]);refine aL (mW (p:=4) rfl _ _ _ _ rfl (N.row 0 rfl) _ underlying29 rfl (ur _)) rfl ⟨rfl,_,HTM.out▸N.nat,N.gr,N.sub⟩)
def V7{p:Int}(he:(eR f g h ms p s i d).e=0):gM (eR f g h ms p s i d).f (eR f g h ms p s i d).h (eR f g h ms p s i d).ms/\(eR f g h ms p s i d).m∈(eR f g h ms p s i d).ms/\∀m∈ms,m∈(eR f g h ms p s i d).ms:=by
 by_cases hP:vd f h ms p s i
 rotate_left
 ·(have ho:eR f g h ms p s i d=⟨2,f,h,ms,fW,false⟩:=by unfold eR;rw[aT hP])
  rw[ho] at he;simp at he
 have G:=hP.1
 cases hf:ms.find? (kf p s i) with
 | some m=>
  (have ho:eR f g h ms p s i d=⟨0,f,h,ms,m,false⟩:=by unfold eR;rw[aZ hP,hf]);rw[ho]
  exact⟨G,List.mem_of_find?_eq_some hf,fun _ h=>h⟩
 | none=>
  by_cases hc:bV ms s=12
  ·(have ho:eR f g h ms p s i d=⟨6,f,h,ms,fW,false⟩:=by unfold eR;rw[aZ hP,hf];simp only;rw[aZ hc])
   rw[ho] at he;simp at he
  .by_cases hr:(fg f g h ms p s d).e=0
   rotate_left
   ·(have ho:eR f g h ms p s i d=⟨(fg f g h ms p s d).e,f,h,ms,fW,false⟩:=by unfold eR;rw[aZ hP,hf];simp only;rw[aT hc,aZ hr])
    rw[ho] at he;exact absurd he hr
   .refine m2v ?_;intro ho;(have E7:ms.any (kf p s i)=false:=by rw[←List.isSome_find?,hf];rfl)
    obtain⟨hG,-,-⟩:=qya (g:=g) (d:=d) G hP.2.1 hP.2.2.1 ⟨hP.2.2.2.1,hP.2.2.2.2⟩ E7 hc hr
    rw[ho]
    exact⟨hG,by simp,fun m hm=>by simp[hm]⟩
def qy7(f:Nat->Int)(g:Nat->Bool)(h:Nat->Int)(ms:List Mp)(p s i d:Int):WO (eR f g h ms p s i d):=fun he=>by
 obtain⟨G,hm,-⟩:=V7 he
 have hs:=G.maps.1 _ hm
 exact⟨fun m hm=>(G.maps.1 m hm).2.1,hs.2.2.2.2.1,hs.2.2.2.1⟩
section
variable {w0 W W':World} {b:Nat} {cs:Array Value} {v ov:Value} {fm:Option Nat} {D:DataW Unit} {Fw F0:Nat->Prop} {cnt:Nat} {s:Nt} {tm:Int->Option Int} {is:List Int} {L:List (Nat×Obj)}
theorem EP(f:Nat->Int)(g:Nat->Bool):(pc f g).toList.length=21:=by simp[Ae]
theorem Nm.iP(h:Nm w0 W b cs v ov fm D Fw cnt s tm is F0 L)(g':Nat->Bool)(R:aP 62 W' b (jb cs 4 (pc s.f g').toList))(T:gG b W W'):Nm w0 W' b (jb cs 4 (pc s.f g').toList) v ov fm D Fw cnt { s with g:=g' } tm is F0 L:=by
 have:=h.Ca s.f g' s.h v s.ms (pc s.f g').toList (by rw[EP];omega) R T (fun k hk=>?_) h.m.maps h.m.nil (fun h0=>.inl ⟨rfl,h0⟩) (fun h0 y hy e=>(h.k.rows y hy).2.2 (.inr (.inr (.inr ⟨h0,e⟩))))
 .omega
 .rw[←YF s.f s.f s.g g' s.h v]
  by_cases hk2:k<21
  .rw[TB _ _ _ _ (by rw[EP];exact hk2) (by rw[EP,h.m.size];omega)]
   have:=TB (pc s.f g').toList 0 (tc s.f s.g s.h v) k (by rw[EP];exact hk2) (by rw[EP,ze];omega)
   grind
  .rw[TC _ _ _ _ (by rw[EP];omega),TC _ _ _ _ (by rw[EP];omega)]
   exact h.m.ct k hk
def bE.yL(h:bE W b cs v ov fm D Fw cnt s tm is):W.rangeAt b 4 (pc s.f s.g).toList:=fun j u hu=>by
 (have hj:j<21:=by have:=(List.getElem?_eq_some_iff.1 hu).1;simpa[Ae] using this);rw[h.cell,h.ct j om,←hu]
 have:=TB (pc s.f s.g).toList 0 (tc s.f s.g s.h v) j (by rw[EP];exact hj) (by rw[EP,ze];omega)
 rw[bX,YF] at this
 exact this
end
def qty(f:Nat->Int)(g:Nat->Bool):(prog.info? 38).map (·.size)=some (pc f g).toList.length:=by rw[EP];kernel_rfl
def qms(hgd:o.guard=none)(x y:aU)(ho:o.op=.store 38 x y)(b:Nat)(cs:Array ag)(R:aP 62 w b cs)(hsz:cs.size=487)(hx:a.eval x=V (some ⟨b,4,none⟩))(f:Nat->Int)(g:Nat->Bool)(hy:a.eval y=.agg (pc f g))(hr:∀w',aP 62 w' b (jb cs 4 (pc f g).toList)->gG b w w'->aM prog ops Q rest (a.put o.dst undef) w'):aM prog ops Q (o::rest) a w:=by
 have ht:w.there b 4 (pc f g).size:=fun j hj=>by
  (have hj':j<21:=by rw[Ae] at hj;exact hj)
  refine⟨?_,R.free _⟩
  rw[R.cell,Array.getElem?_eq_getElem (by rw[hsz];omega)];rfl
 refine wpList_store_mid hgd 38 x y ho b 4 _ hx hy ht (En _ _) (Ql _ _) ?_
 exact hr _ (aP.rG _ 4 w _ R) (Vb b _ 4 w)
def qp3(x:aU)(hgd:o.guard=none)(ho:o.op=.build 29 #[(0,x)])(c:Int)(hx:a.eval x=I Z c)(hr:aM prog ops Q rest (a.put o.dst (.agg (eZ c).cells)) w):aM prog ops Q (o::rest) a w:=
 bP hgd fun K hK=>by
  rw[EM] at hr
  unfold Oper.wp bG
  simp only[ho,dx,aI,aB,hx,bB,qp0,Result.andThen_ok,bH]
  exact hK _ _ hr
def quh{s:Nt}(h:cC w b s tm F)(a:Int):az prog 19 #[V (some ⟨b,0,none⟩),.func (.func 20) #[] #[],I Z a] w fun e w'=>e=.returned (.agg (s.drain a true).1.cells)/\∃F',cC w' b (s.drain a true).2 tm F'/\Gr F w w'/\∀c,F' c->F c\/w.heap.size<=c:=by
 obtain⟨cs,v,ov,fm,D,zO,cnt,M,hF⟩:=h;have N:=Nm.start M hF;(have CD:=fun w=>q2r s.f s.g a w)
 unfold qD gg at CD
 unfold Nt.drain
 generalize BX s.g a true=g9 at *
 generalize yI s.g a true=e9 at *
 clear M hF
 generalize(fun c=>zO c/\c<w.heap.size)=Fw at *
 go_enter func19,ntmps19
 go_wp2_with (first|(refine gA 29 ?_;refine ax 6 29 EB ?_;intro b6 w9 l9 R9 h9;replace N:=N.alloc (o:=ob 29 (eZ 0).cells) l9 R9 h9;clear R9 h9 l9)|(refine gL 38 14 ?_;refine m5j ?_;refine xZ ?_)|(go_at_call 20;go_fit (CD _);rintro e w5 ⟨rfl,bh⟩;replace N:=N.below bh;clear bh CD)|(refine gS 38 22 18 ?_;refine qms rfl (.tmp 22) (.tmp 18) rfl b cs N.m.row N.m.size rfl s.f g9 rfl ?_;intro w9 R9 t9;replace N:=N.iP g9 R9 t9;clear R9 t9)|((with_reducible refine iE (.build 29 #[(0,.tmp 23)]) rfl ?_);refine qp3 (.tmp 23) rfl rfl e9 rfl ?_)|(refine gS 29 6 24 ?_;refine sx ((eZ e9).cells) (N.row 0 rfl) ?_;refine oH ?_;clear N;intro w9 N))
 (refine aL (mW (p:=6) rfl _ _ _ _ rfl (N.row 0 rfl) _ underlying29 rfl (ur _)) rfl ⟨rfl,_,N.nb.nat,N.nb.gr,N.nb.sub⟩)
def qso{s:Nt}(h:cC w b s tm F)(a:Int):az prog 19 #[V (some ⟨b,0,none⟩),.func (.func 21) #[] #[],I Z a] w fun e w'=>e=.returned (.agg (s.drain a false).1.cells)/\∃F',cC w' b (s.drain a false).2 tm F'/\Gr F w w'/\∀c,F' c->F c\/w.heap.size<=c:=by
 obtain⟨cs,v,ov,fm,D,zO,cnt,M,hF⟩:=h;have N:=Nm.start M hF;(have CD:=fun w=>qxg s.f s.g a w)
 unfold qD gg at CD
 unfold Nt.drain
 generalize BX s.g a false=g9 at *
 generalize yI s.g a false=e9 at *
 clear M hF
 generalize(fun c=>zO c/\c<w.heap.size)=Fw at *
 go_enter func19,ntmps19
 go_wp2_with (first|(refine gA 29 ?_;refine ax 6 29 EB ?_;intro b6 w9 l9 R9 h9;replace N:=N.alloc (o:=ob 29 (eZ 0).cells) l9 R9 h9;clear R9 h9 l9)|(refine gL 38 14 ?_;refine m5j ?_;refine xZ ?_)|(go_at_call 21;go_fit (CD _);rintro e w5 ⟨rfl,bh⟩;replace N:=N.below bh;clear bh CD)|(refine gS 38 22 18 ?_;refine qms rfl (.tmp 22) (.tmp 18) rfl b cs N.m.row N.m.size rfl s.f g9 rfl ?_;intro w9 R9 t9;replace N:=N.iP g9 R9 t9;clear R9 t9)|((with_reducible refine iE (.build 29 #[(0,.tmp 23)]) rfl ?_);refine qp3 (.tmp 23) rfl rfl e9 rfl ?_)|(refine gS 29 6 24 ?_;refine sx ((eZ e9).cells) (N.row 0 rfl) ?_;refine oH ?_;clear N;intro w9 N))
 (refine aL (mW (p:=6) rfl _ _ _ _ rfl (N.row 0 rfl) _ underlying29 rfl (ur _)) rfl ⟨rfl,_,N.nb.nat,N.nb.gr,N.nb.sub⟩)
structure WQ(s:Nt):Prop where
 good:gM s.f s.h s.ms
 acts:s.acts<=300
 left:s.left<=4
 logged:s.logged<=64*s.acts
 now:0<=s.now/\s.now<=549755813888
 few:s.fs.length<=48
 began:s.began<=2*s.acts
 rem:∀x∈s.fs,0<=x.2.rem/\x.2.rem<=4294967295
 mem:∀x∈s.fs,dZ x.2∈s.ms
def WQ.fu{s:Nt}(h:WQ s):∀x∈s.fs,(0<=x.2.rem/\x.2.rem<=4294967295)/\(0<=x.2.a/\x.2.a<3):=fun x hx=>⟨h.rem x hx,(h.good.maps.1 _ (h.mem x hx)).2.2.2.2.1⟩
def Wk(b:Nat)(w:af):(binOp .eql 23 (V (some ⟨b,0,none⟩)) (V none)).run prog w=.ok (.bool false) w:=by kernel_rfl
def kn(h:p:=by
 go_enter func7,ntmps7
 go_wp2_with (first|(refine gB 32 1 ?_;refine bx 32 (.tmp 1) (ac a) ?_;intro b3 w9 l9 R9 h9;replace N:=N.alloc (o:=ob 32 ((ac a))) l9 R9 h9;clear R9 h9 l9;clear c1;have c1:=N.nat.pV)|(refine gA 29 ?_;refine EI ?_;clear N;intro b4 w9 N;clear c1;have c1:=N.nat.pV)|(refine gS 3 20 18 ?_;refine qfn N rfl (.tmp 20) (.tmp 18) rfl rfl (s.acts+1) (by first|exact qfs _ ) ?_;clear N c1;intro w9 F9 N)|(refine gL 3 21 ?_;refine fx (N.row 1 rfl) (a.kd) ?_)|(refine gL 3 52 ?_;refine fx (N.row 1 rfl) (a.n) ?_)|(refine gL 3 46 ?_;refine fx (N.row 1 rfl) (a.n) ?_)|(go_at_call 19;go_fit (CK _ _ N.nat);refine WE ?_;clear CK N;intro w5 F9 N)|(refine gS 29 4 54 ?_;refine Tq ?_;refine oH ?_;clear N;intro w9 N)|(refine gS 29 4 48 ?_;refine Tq ?_;refine oH ?_;clear N;intro w9 N)|(refine gL 3 40 ?_;refine fx (N.row 1 rfl) (a.n) ?_)|(go_at_call 18;go_fit (CK _ _ N.nat (TD.out N));refine WE ?_;clear CK N;intro w5 F9 N)|(refine gS 29 4 42 ?_;refine Tq ?_;refine oH ?_;clear N;intro w9 N)|(refine gL 9 34 ?_;refine qcm (N.row 1 rfl) (.tmp 34) rfl kr 3 rfl a.fr rfl ?_)|(go_at_call 17;go_fit (CK _ _ N.nat);refine WE ?_;clear CK N;intro w5 F9 N)|(refine gS 29 4 36 ?_;refine Tq ?_;refine oH ?_;clear N;intro w9 N)|(refine gL 9 26 ?_;refine qcm (N.row 1 rfl) (.tmp 26) rfl kr 3 rfl a.fr rfl ?_)|(refine gL 3 28 ?_;refine fx (N.row 1 rfl) (a.dr) ?_)|(go_at_call 16;go_fit (CK _ _ N.nat (TD.out N));refine WE ?_;clear CK N;intro w5 F9 N)|(refine gS 29 4 30 ?_;refine Tq ?_;refine oH ?_;clear N;intro w9 N)|(go_at_call 15;go_fit (CF _);refine tE ?_;clear N;intro w5 N)|(refine gS 29 4 55 ?_;refine sx ((eZ 4).cells) (N.row 0 rfl) ?_;refine oH ?_;clear N;intro w9 N)|(refine gS 29 4 13 ?_;refine sx ((eZ 6).cells) (N.row 0 rfl) ?_;refine oH ?_;clear N;intro w9 N))
 (refine bodyPost_ret (mW (p:=4) rfl _ _ _ _ rfl (N.row 0 rfl) _ underlying29 rfl (ur _)) rfl ⟨rfl,_,N.nat,N.gr,N.sub⟩)):p:=h
def qos{s:Nt}(h:cC w b s (dI s.fs) F)(hT:jv w)(h0:¬F 0)(ok:WQ s)(a:Ac)(ha:a.ok):az prog 7 #[V (some ⟨b,0,none⟩),.agg (ac a)] w fun e w'=>e=.returned (.agg (s.act a).1.cells)/\∃F',cC w' b (s.act a).2 (dI (s.act a).2.fs) F'/\Gr F w w'/\∀c,F' c->F c\/w.heap.size<=c:=by
 have N:=h.start;have c1:=h.pV;(have hq:=fun w=>Wk b w)
 unfold Nt.act
 by_cases hf:300<=s.acts
 .rw[aZ hf];(have hg:(300:Int)<=(s.acts:Int):=by omega);(have CF:=fun w=>xp 6 w)
  rw[←EM] at CF
  clear hf hT h0 ok ha
  exact kn
 rw[aT hf];(have hg:¬(300:Int)<=(s.acts:Int):=by omega)
 simp only
 (have jr:s.logged<=100000:=by have:=ok.logged;have:=ok.acts;omega);(have hbg:s.began+1<700:=by have:=ok.began;have:=ok.acts;omega);(have hfw:s.fs.length+1<400:=by have:=ok.few;omega);(have hst:∀m∈s.ms,0<=m.2.1/\m.2.1<8:=fun m hm=>(ok.good.maps.1 m hm).2.1);(have TE:∀ {W:af} {F':Nat->Prop} {s':Nt} {tm:Int->Option Int} {L:List (Nat×Obj)},Nb w W b s' tm F F' L->jv W/\¬F' 0:=fun N=>⟨hT.gr N.gr h0,N.zero hT h0⟩);have TD:aK (∀ {W:af} {F':Nat->Prop} {s':Nt} {tm:Int->Option Int} {L:List (Nat×Obj)},Nb w W b s' tm F F' L->jv W/\¬F' 0):=ar TE;clear TE
 by_cases k1:a.kd=1
 .rw[aZ k1];(have e1:(a.kd==1)=true:=by simp[k1]);(have CK:=fun W F (hN:cC W b { s with acts:=s.acts+1 } (dI s.fs) F) (hp:jv W/\¬F 0)=>q76 hN a.fr ha.2.2.2 a.dr ha.2.2.1 hp.1 hp.2 ok.good.wf ok.good (by have:=ok.left;show s.left<=100;omega) ok.now hbg hfw jr hst ok.fu (fun _ _ _=>qy7 _ _ _ _ _ _ _ _))
  generalize Nt.out { s with acts:=s.acts+1 } a.fr.data.toList a.dr=r at *
  obtain⟨r1,r2⟩:=r
  simp only at CK ⊢
  clear hf hT h0 ok ha k1 jr hbg hfw hst
  exact kn
 rw[aT k1];(have e1:(a.kd==1)=false:=by simp[k1])
 by_cases k2:a.kd=2
 .rw[aZ k2];(have e2:(a.kd==2)=true:=by simp[k2]);(have CK:=fun W F (hN:cC W b { s with acts:=s.acts+1 } (dI s.fs) F)=>q1g hN a.fr ha.2.2.2 ok.now (by show s.began<700;omega) (by show s.fs.length<400;omega) hst)
  generalize Nt.i7 { s with acts:=s.acts+1 } a.fr.data.toList=r at *
  obtain⟨r1,r2⟩:=r
  simp only at CK ⊢
  clear hf hT h0 ok ha k1 k2 jr hbg hfw hst
  exact kn
 rw[aT k2];(have e2:(a.kd==2)=false:=by simp[k2])
 by_cases k3:a.kd=3
 .rw[aZ k3];(have e3:(a.kd==3)=true:=by simp[k3]);(have CK:=fun W F (hN:cC W b { s with acts:=s.acts+1 } (dI s.fs) F) (hp:jv W/\¬F 0)=>q6t hN a.n ha.2.1 hp.1 hp.2 ok.now ok.left jr ok.good ok.mem (by have:=ok.few;show s.fs.length<=64;omega))
  generalize Nt.tick { s with acts:=s.acts+1 } a.n=r at *
  obtain⟨r1,r2⟩:=r
  simp only at CK ⊢
  clear hf hT h0 ok ha k1 k2 k3 jr hbg hfw hst
  exact kn
 rw[aT k3];(have e3:(a.kd==3)=false:=by simp[k3])
 by_cases k4:a.kd=4
 .rw[aZ k4];(have e4:(a.kd==4)=true:=by simp[k4]);(have CK:=fun W F (hN:cC W b { s with acts:=s.acts+1 } (dI s.fs) F)=>quh hN a.n);have jS:(Nt.drain { s with acts:=s.acts+1 } a.n true).2.fs=s.fs:=rfl;rw[jS]
  generalize Nt.drain { s with acts:=s.acts+1 } a.n true=r at *
  obtain⟨r1,r2⟩:=r
  simp only at CK ⊢
  clear hf hT h0 ok ha k1 k2 k3 k4 jr hbg hfw hst jS
  exact kn
 rw[aT k4];(have e4:(a.kd==4)=false:=by simp[k4])
 by_cases k5:a.kd=5
 .rw[aZ k5];(have e5:(a.kd==5)=true:=by simp[k5]);(have CK:=fun W F (hN:cC W b { s with acts:=s.acts+1 } (dI s.fs) F)=>qso hN a.n);have jS:(Nt.drain { s with acts:=s.acts+1 } a.n false).2.fs=s.fs:=rfl;rw[jS]
  generalize Nt.drain { s with acts:=s.acts+1 } a.n false=r at *
  obtain⟨r1,r2⟩:=r
  simp only at CK ⊢
  clear hf hT h0 ok ha k1 k2 k3 k4 k5 jr hbg hfw hst jS
  exact kn
 rw[aT k5];(have e5:(a.kd==5)=false:=by simp[k5]);(have CF:=fun w=>xp 4 w)
 rw[←EM] at CF
 clear hf hT h0 ok ha k1 k2 k3 k4 k5 jr hbg hfw hst
 exact kn
structure Ci(s:Nt):Prop where
 good:gM s.f s.h s.ms
 left:s.left<=4
 now:0<=s.now/\s.now<=549755813888
 few:s.fs.length<=48
 rem:∀x∈s.fs,0<=x.2.rem/\x.2.rem<=4294967295
 mem:∀x∈s.fs,dZ x.2∈s.ms
 up:s.fs.Pairwise (fun x y=>x.1<y.1)
 num:∀x∈s.fs,x.1<=s.began
 due:∀x∈s.fs,s.now<x.2.du/\x.2.du<=s.now+60
 used:∀m∈s.ms,∃x∈s.fs,dZ x.2=m
 apart:s.fs.Pairwise (fun x y=>¬(dZ x.2=dZ y.2/\x.2.rem=y.2.rem/\x.2.rp=y.2.rp))
def qvu(p s:Int):1<=cV p s/\cV p s<=60:=by unfold cV;split<;>(try split)<;>(try split)<;>(try split)<;>omega
def qza(k:Fl)(x:Int)(inw:Bool):dZ (jf k x inw).1=dZ k/\(jf k x inw).1.rem=k.rem/\(jf k x inw).1.rp=k.rp:=by
 unfold jf gK
 (repeat' split)<;>exact⟨rfl,rfl,rfl⟩
def V6(k:Fl)(x now:Int)(inw:Bool):dZ (cq k x inw now)=dZ k/\(cq k x inw now).rem=k.rem/\(cq k x inw now).rp=k.rp:=by
 have:=qza k x inw
 unfold cq
 split
 .exact this
 .exact this
def qod{x now:Int}{inw:Bool}(h:now<k.du/\k.du<=now+60):now<(cq k x inw now).du/\(cq k x inw now).du<=now+60:=by
 have key:=qvb k x inw
 unfold cq
 split
 .have:=qvu (jf k x inw).1.pr (jf k x inw).1.st
  simp only
  omega
 .rw[key];exact h
def WR{fs:List (Nat×Fl)}{n:Nat}{P:Nat×Fl->Prop}(h:∀x∈fs,P x)(hk:P (n,k)):∀x∈fG fs n k,P x:=by
 intro x hx
 unfold fG at hx
 obtain⟨y,hy,rfl⟩:=bQ.1 hx
 split
 .exact hk
 .exact h y hy
def xu(h:p:=by
 have h1:=zx h.up hy;have h2:=zx h.up hx
 rw[e,h2] at h1
 exact(Option.some.inj h1).symm):p:=h
def Ci.keep{s:Nt}(h:Ci s){x:Nat×Fl}(hx:x∈s.fs)(hm:dZ k=dZ x.2/\k.rem=x.2.rem/\k.rp=x.2.rp)(hd:s.now<k.du/\k.du<=s.now+60):Ci (s.keep x.1 k):=by
 have Gk:=qwi s.fs x.1 k
 have pW:∀y∈s.fs,y.1=x.1->y.2=x.2:=fun y hy e=>by
  exact xu
 refine⟨h.good,h.left,h.now,by show(fG s.fs x.1 k).length<=48;rw[qwo];exact h.few,WR h.rem (by show 0<=k.rem/\k.rem<=4294967295;rw[hm.2.1];exact h.rem x hx),WR h.mem (by show dZ k∈s.ms;rw[hm.1];exact h.mem x hx),qum Gk h.up,WR h.num (h.num x hx),WR h.due hd,fun m El=>?_,?_⟩
 .obtain⟨y,hy,e⟩:=h.used m El
  by_cases e2:y.1=x.1
  .exact⟨(x.1,k),qvd hx k,by show dZ k=m;rw[hm.1,←pW y hy e2];exact e⟩
  .exact⟨y,by show y∈fG s.fs x.1 k;unfold fG;exact bQ.2 ⟨y,hy,by rw[aT e2]⟩,e⟩
 .show(fG s.fs x.1 k).Pairwise _
  unfold fG
  rw[List.pairwise_map]
  refine List.Pairwise.imp_of_mem ?_ h.apart
  intro a b ha hb hab
  by_cases ea:a.1=x.1
  .have e1:=pW a ha ea
   by_cases eb:b.1=x.1
   .have e2:=pW b hb eb
    exact absurd ⟨by rw[e1,e2],by rw[e1,e2],by rw[e1,e2]⟩ hab
   .rw[aZ ea,aT eb];simp only;rw[hm.1,hm.2.1,hm.2.2,←e1];exact hab
  .by_cases eb:b.1=x.1
   .have e2:=pW b hb eb
    rw[aT ea,aZ eb];simp only;rw[hm.1,hm.2.1,hm.2.2,←e2];exact hab
   .rw[aT ea,aT eb];exact hab
def Ci.add{s:Nt}(h:Ci s){f' h':Nat->Int}{ms':List Mp}(G:gM f' h' ms')(hk:dZ k∈ms')(hs:∀m∈s.ms,m∈ms')(hn:∀m∈ms',m∈s.ms\/m=dZ k)(gq:s.fs.length<48)(vZ:0<=k.rem/\k.rem<=4294967295)(hne:∀x∈s.fs,¬(dZ x.2=dZ k/\x.2.rem=k.rem/\x.2.rp=k.rp)):Ci ((s.dF f' h' ms').begin k):=by
 have hlp:=qvu k.pr k.st;have GW:dZ (kP (s.dF f' h' ms') k)=dZ k:=rfl
 refine⟨G,h.left,h.now,by show(s.fs++[_]).length<=48;simp;omega,?_,?_,?_,?_,?_,?_,?_⟩
 .intro x hx
  rcases dA.1 (show x∈s.fs++[_] from hx) with h1|h1
  .exact h.rem x h1
  .obtain rfl:=dG.1 h1;exact vZ
 .intro x hx
  rcases dA.1 (show x∈s.fs++[_] from hx) with h1|h1
  .exact hs _ (h.mem x h1)
  .obtain rfl:=dG.1 h1;exact hk
 .show(s.fs++[(s.began+1,_)]).Pairwise _
  rw[mV]
  refine⟨h.up,by simp,fun x hx y hy=>?_⟩
  obtain rfl:=dG.1 hy
  have:=h.num x hx
  simp only;omega
 .intro x hx
  show x.1<=s.began+1
  rcases dA.1 (show x∈s.fs++[_] from hx) with h1|h1
  .exact Nat.le_succ_of_le (h.num x h1)
  .obtain rfl:=dG.1 h1;exact au _
 .intro x hx
  show s.now<x.2.du/\x.2.du<=s.now+60
  rcases dA.1 (show x∈s.fs++[_] from hx) with h1|h1
  .exact h.due x h1
  .obtain rfl:=dG.1 h1
   show s.now<s.now+cV k.pr k.st/\s.now+cV k.pr k.st<=s.now+60
   omega
 .intro m hm
  rcases hn m hm with h1|h1
  .obtain⟨x,hx,e⟩:=h.used m h1
   exact⟨x,dA.2 (.inl hx),e⟩
  .exact⟨_,dA.2 (.inr (dG.2 rfl)),h1.symm▸GW⟩
 .show(s.fs++[(s.began+1,_)]).Pairwise _
  rw[mV]
  refine⟨h.apart,by simp,fun x hx y hy=>?_⟩
  obtain rfl:=dG.1 hy
  exact hne x hx
def qqq{s:Nt}{P:Fl->Bool}(h:s.find P=none):∀x∈s.fs,P x.2=false:=fun x hx=>by
 have:=List.find?_eq_none.1 h x hx
 simpa using this
def Ci.dK{s:Nt}(h:Ci s){p:bM}(hp:0<=p.src/\p.src<=4294967295){m:Mp}(hm:m∈s.ms):Ci (s.dK p m).2:=by
 unfold Nt.dK
 cases hf:s.find (lC p m) with
 | some x=>
  have hx:=TG hf
  exact h.keep hx.1 (V6 _ _ _ _) (qod (h.due x hx.1))
 | none=>
  simp only
  split
  .exact h
  .split
   .exact h
   .rename_i hu
    (have k7:s.full=false:=by cases e:s.full with|false=>rfl|true=>rw[e] at hu;simp at hu)
    refine h.add (f':=s.f) (h':=s.h) (ms':=s.ms) h.good hm (fun _ h=>h) (fun _ h=>.inl h) (by unfold Nt.full at k7;simpa using k7) hp (fun x hx hh=>?_)
    have:=qqq hf x hx
    unfold lC lD at this
    rw[hh.1,hh.2.1,hh.2.2] at this
    have e1:dZ (eV m p.src p.aj 2)=m:=rfl
    rw[e1] at this
    simp[eV] at this
def Hq{l:List UInt8}(hb:cj l=0):(0<=(ba l).src/\(ba l).src<=4294967295)/\(0<=(ba l).dst/\(ba l).dst<=4294967295):=by
 have hrg:=(yg _).1 (uJ _ (Sr hb)).2.1
 exact⟨⟨hrg.1,hrg.2.1⟩,hrg.2.2.1,hrg.2.2.2.1⟩
def Ci.i7{s:Nt}(h:Ci s)(l:List UInt8):Ci (s.i7 l).2:=by
 unfold Nt.i7
 split
 .exact h
 .rename_i hb
  (have hb0:cj l=0:=by omega)
  (repeat' split)<;>first
   | exact h
   | (rename_i m hm _;exact h.dK (Hq hb0).1 (List.mem_of_find?_eq_some hm))
def Ci.leave{s:Nt}(h:Ci s)(l:List UInt8)(k:Fl):Ci (s.leave l k).2:=by
 unfold Nt.leave
 split
 .exact h.i7 _
 .exact h
def Ci.refuse{s:Nt}(h:Ci s)(l:List UInt8)(why:Int):Ci (s.refuse l why).2:=by
 unfold Nt.refuse
 split
 .exact h
 .exact⟨h.good,by show s.left-1<=4;have:=h.left;omega,h.now,h.few,h.rem,h.mem,h.up,h.num,h.due,h.used,h.apart⟩
def Ci.log{s:Nt}(h:Ci s)(es:List Ev):Ci (s.log es).2:=by
 unfold Nt.log
 split
 .exact h
 .exact⟨h.good,h.left,h.now,h.few,h.rem,h.mem,h.up,h.num,h.due,h.used,h.apart⟩
def qsb{p:Int}(he:(eR f g h ms p s i d).e=0):(eR f g h ms p s i d).m.1=p/\(eR f g h ms p s i d).m.2.1=s/\(eR f g h ms p s i d).m.2.2.1=i/\∀m∈(eR f g h ms p s i d).ms,m∈ms\/m=(eR f g h ms p s i d).m:=by
 by_cases hP:vd f h ms p s i
 rotate_left
 ·(have ho:eR f g h ms p s i d=⟨2,f,h,ms,fW,false⟩:=by unfold eR;rw[aT hP])
  rw[ho] at he;simp at he
 cases hf:ms.find? (kf p s i) with
 | some m=>
  (have ho:eR f g h ms p s i d=⟨0,f,h,ms,m,false⟩:=by unfold eR;rw[aZ hP,hf]);rw[ho]
  have:=(XZ _ _ _ _).1 (List.find?_some hf)
  exact⟨this.1,this.2.1,this.2.2,fun _ h=>.inl h⟩
 | none=>
  by_cases hc:bV ms s=12
  ·(have ho:eR f g h ms p s i d=⟨6,f,h,ms,fW,false⟩:=by unfold eR;rw[aZ hP,hf];simp only;rw[aZ hc])
   rw[ho] at he;simp at he
  .by_cases hr:(fg f g h ms p s d).e=0
   rotate_left
   ·(have ho:eR f g h ms p s i d=⟨(fg f g h ms p s d).e,f,h,ms,fW,false⟩:=by unfold eR;rw[aZ hP,hf];simp only;rw[aT hc,aZ hr])
    rw[ho] at he;exact absurd he hr
   .refine m2v ?_;intro ho;rw[ho]
    exact⟨rfl,rfl,rfl,fun m hm=>by simpa using hm⟩
theorem PA(m:Mp)(x y z:Int):dZ (eV m x y z)=m:=rfl
def Ci.first{s:Nt}(h:Ci s)(l:List UInt8){p:bM}(hp:0<=p.dst/\p.dst<=4294967295){sub:Int}(hf:s.find (cX p sub)=none)(draw:Int):Ci (s.first l p sub draw).2:=by
 unfold Nt.first
 split
 .exact h.refuse _ _
 .rename_i gq
  (have hlen:s.fs.length<48:=by unfold Nt.full at gq;simpa using gq)
  simp only
  split
  .exact h.refuse _ _
  .rename_i he
   (have TH:(eR s.f s.g s.h s.ms p.ae sub p.aj draw).e=0:=by omega);obtain⟨G,hm,hs⟩:=V7 TH;obtain⟨m1,m2,m3,hn⟩:=qsb TH
   generalize eR s.f s.g s.h s.ms p.ae sub p.aj draw=o at *
   have key:Ci ((s.dF o.f o.h o.ms).begin (eV o.m p.dst p.ai (eI p.ae))):=by
    refine h.add G (by rw[PA];exact hm) hs (fun m El=>by rw[PA];exact hn m El) hlen hp (fun x hx hh=>?_)
    have:=qqq hf x hx
    rw[PA] at hh
    refine m5f ?_;intro e1 e2 e3 e4 e5
    unfold cX at this
    rw[e1,e2,e3,e4,e5] at this
    simp at this
   split
   .exact(key.leave _ _).log _
   .exact key.leave _ _
def Ci.out{s:Nt}(h:Ci s)(l:List UInt8)(draw:Int):Ci (s.out l draw).2:=by
 unfold Nt.out
 split
 .exact h
 .rename_i hb
  (have hb0:cj l=0:=by omega)
  split
  .exact h
  .split
   .exact h
   .split
    .exact h
    .cases hf:s.find (cX (ba l) ((ba l).src-167772161)) with
     | some x=>
      have hx:=TG hf
      exact(h.keep hx.1 (V6 _ _ _ _) (qod (h.due x hx.1))).leave _ _
     | none=>
      simp only
      split
      .exact h
      .exact h.first l (Hq hb0).2 hf draw
def qws{a:Nt}{r:List Int}(h:jY a (i::r))(es:List Ev)(u:∀m∈a.ms,∃x∈a.fs,dZ x.2=m):∀m∈(qC (es,a) i).2.ms,∃x∈(qC (es,a) i).2.fs,dZ x.2=m:=by
 obtain⟨x,hx,e⟩:=h.there i (jD)
 subst e
 have pW:∀y∈a.fs,y.1=x.1->y.2=x.2:=fun y hy e=>by
  exact xu
 have keep:∀m,(∃y∈a.fs,dZ y.2=m)->m≠dZ x.2->∃y∈(a.less (x.1:Int)).fs,dZ y.2=m:=by
  rintro m ⟨y,hy,e⟩ hne
  refine⟨y,List.mem_filter.2 ⟨hy,decide_eq_true (fun e2=>hne ?_)⟩,e⟩
  rw[←e,pW y hy om]
 rw[S6 es h.up hx];intro m hm
 simp only at hm ⊢
 unfold Nt.cu at hm ⊢
 cases hf:(a.less (x.1:Int)).find (pq (dZ x.2)) with
 | some y=>
  rw[hf,aZ (by rfl)] at hm
  rw[aZ (by rfl)];have hy:=TG hf;(have ey:dZ y.2=dZ x.2:=by have:=hy.2;unfold pq at this;simpa using this)
  by_cases e:m=dZ x.2
  .exact⟨y,hy.1,by rw[ey,e]⟩
  .exact keep m (u m hm) e
 | none=>
  rw[hf,aT zm] at hm
  rw[aT zm]
  have xn:m∈a.ms/\m≠dZ x.2:=by
   have:m∈dH a.ms (dZ x.2):=hm
   unfold dH at this
   simpa using this
  exact keep m (u m xn.1) xn.2
theorem vu{s:Nt}(u:∀m∈s.ms,∃x∈s.fs,dZ x.2=m){l:List Int}(h:jY s l):∀j,j<=l.length->∀m∈(eW s (l.take j)).2.ms,∃x∈(eW s (l.take j)).2.fs,dZ x.2=m:=by
 intro j
 induction j with
 | zero=>intro _;rw[List.take_zero];exact u
 | succ j ih=>
  intro hj;have h1:=qng h j om
  rw[dJ om] at h1
  rw[bz om,Ht]
  exact qws h1.ok _ (ih om)
def Nt.later(s:Nt)(n:Int):Nt:={ s with left:=min (s.left+n.toNat) 4,now:=s.now+n }
def qsn{s:Nt}(h:Ci s)(n:Int):zA (s.later n) (s.cK (s.now+n)) []:=by
 have iZ:=S7 h.good h.up h.mem (s.now+n);have yP:jY (s.later n) (s.cK (s.now+n)):=⟨iZ.good,iZ.up,iZ.nd,iZ.there,iZ.mem⟩
 have:=qng yP _ (au _)
 rw[bn,List.drop_length] at this
 exact this
def Ci.fold{s:Nt}(h:Ci s){n:Int}(hn:1<=n)(hm:n<=549755813888-s.now):Ci (eW (s.later n) (s.cK (s.now+n))).2:=by
 have F:=qsn h n;have iZ:=S7 h.good h.up h.mem (s.now+n);have yP:jY (s.later n) (s.cK (s.now+n)):=⟨iZ.good,iZ.up,iZ.nd,iZ.there,iZ.mem⟩;have hu:=vu (s:=s.later n) h.used yP _ (au _)
 rw[bn] at hu
 obtain⟨r1,r2,r3,r4,r5,r6,r7⟩:=F.rest;(have jS:(eW (s.later n) (s.cK (s.now+n))).2.fs=s.fs.filter fun x=>decide ((x.1:Int) ∉ s.cK (s.now+n)):=F.fs);(have NC:∀x∈(eW (s.later n) (s.cK (s.now+n))).2.fs,x∈s.fs/\(x.1:Int) ∉ s.cK (s.now+n):=fun x hx=>by rw[jS] at hx;simpa using hx)
 refine⟨F.ok.good,?_,?_,?_,fun x hx=>h.rem x (NC x hx).1,F.ok.mem,F.ok.up,fun x hx=>?_,fun x hx=>?_,hu,?_⟩
 .rw[r2];show min (s.left+n.toNat) 4<=4;omega
 .rw[r1];have:=h.now;show 0<=s.now+n/\s.now+n<=549755813888;omega
 .have h1:=F.len;have h2:=h.few;have h3:(s.later n).fs.length=s.fs.length:=rfl
  omega
 .rw[r4];exact h.num x (NC x hx).1
 .obtain⟨hx1,hx2⟩:=NC x hx;rw[r1]
  show s.now+n<x.2.du/\x.2.du<=s.now+n+60
  have hd:=h.due x hx1
  refine⟨?_,by omega⟩
  rw[qvn h.up] at hx2
  (have h3:dI s.fs (x.1:Int)=some x.2.du:=by rw[MW,zx h.up hx1];rfl)
  by_cases hle:x.2.du<=s.now+n
  .exact absurd ⟨_,h3,hle⟩ hx2
  .omega
 .rw[jS];exact h.apart.filter _
def Ci.tick{s:Nt}(h:Ci s)(n:Int):Ci (s.tick n).2:=by
 unfold Nt.tick
 split
 .exact h
 .exact(h.fold (n:=n) om om).log _
def Ci.drain{s:Nt}(h:Ci s)(a:Int)(b:Bool):Ci (s.drain a b).2:=⟨h.good,h.left,h.now,h.few,h.rem,h.mem,h.up,h.num,h.due,h.used,h.apart⟩
def Ci.acts{s:Nt}(h:Ci s)(k:Nat):Ci { s with acts:=k }:=⟨h.good,h.left,h.now,h.few,h.rem,h.mem,h.up,h.num,h.due,h.used,h.apart⟩
def Ci.act{s:Nt}(h:Ci s)(a:Ac):Ci (s.act a).2:=by
 unfold Nt.act
 split
 .exact h
 .have h1:=h.acts (s.acts+1)
  simp only
  split
  .exact h1.out _ _
  .split
   .exact h1.i7 _
   .split
    .exact h1.tick _
    .split
     .exact h1.drain _ _
     .split
      .exact h1.drain _ _
      .exact h1
structure Cn(s t:Nt)(b g:Nat):Prop where
 acts:t.acts=s.acts
 began:s.began<=t.began/\t.began<=s.began+b
 logged:s.logged<=t.logged/\t.logged<=s.logged+g
def Cn.refl(s:Nt)(b g:Nat):Cn s s b g:=⟨rfl,⟨au _,by omega⟩,⟨au _,by omega⟩⟩
theorem Cn.trans{s t u:Nt}{g:Nat}(h:Cn s t b g)(k:Cn t u b' g'):Cn s u (b+b') (g+g'):=by
 obtain⟨h1,h2,h3⟩:=h;obtain⟨k1,k2,k3⟩:=k
 exact⟨k1.trans h1,by omega,by omega⟩
def q4r(s:Nt)(p:bM)(m:Mp):Cn s (s.dK p m).2 1 0:=by
 unfold Nt.dK Nt.keep Nt.begin
 (repeat' split)<;>exact⟨rfl,by simp only;omega,by simp only;omega⟩
def q37(s:Nt)(l:List UInt8):Cn s (s.i7 l).2 1 0:=by
 unfold Nt.i7
 (repeat' split)<;>first|exact Cn.refl _ _ _|exact q4r _ _ _
def qvp(s:Nt)(l:List UInt8)(k:Fl):Cn s (s.leave l k).2 1 0:=by
 unfold Nt.leave
 split
 .exact q37 _ _
 .exact Cn.refl _ _ _
def xw(h:p:=by
 split
 .exact Cn.refl _ _ _
 .exact⟨rfl,by simp only;omega,by simp only;omega⟩):p:=h
def qs9(s:Nt)(l:List UInt8)(why:Int):Cn s (s.refuse l why).2 0 0:=by
 unfold Nt.refuse
 exact xw
def q4g(s:Nt)(es:List Ev):Cn s (s.log es).2 0 es.length:=by
 unfold Nt.log
 exact xw
def Cn.mono{s t:Nt}{g:Nat}(h:Cn s t b g)(hb:b<=b')(hg:g<=g'):Cn s t b' g':=⟨h.acts,by have:=h.began;omega,by have:=h.logged;omega⟩
def q5p(s:Nt)(l:List UInt8)(p:bM)(sub draw:Int):Cn s (s.first l p sub draw).2 2 1:=by
 unfold Nt.first
 split
 .exact(qs9 _ _ _).mono om om
 .simp only
  split
  .exact(qs9 _ _ _).mono om om
  .generalize eR s.f s.g s.h s.ms p.ae sub p.aj draw=o
   (have h1:Cn s ((s.dF o.f o.h o.ms).begin (eV o.m p.dst p.ai (eI p.ae))) 1 0:=⟨rfl,by show s.began<=s.began+1/\s.began+1<=s.began+1;omega,by show s.logged<=s.logged/\s.logged<=s.logged+0;omega⟩);have h2:=h1.trans (qvp _ l (eV o.m p.dst p.ai (eI p.ae)))
   split
   .exact(h2.trans (q4g _ _)).mono om zm
   .exact h2.mono om om
def q98(s:Nt)(l:List UInt8)(draw:Int):Cn s (s.out l draw).2 2 1:=by
 unfold Nt.out
 split
 .exact Cn.refl _ _ _
 .split
  .exact Cn.refl _ _ _
  .split
   .exact Cn.refl _ _ _
   .split
    .exact Cn.refl _ _ _
    .cases hf:s.find (cX (ba l) ((ba l).src-167772161)) with
     | some x=>
      (have h1:Cn s (s.keep x.1 (cq x.2 (ba l).flags false s.now)) 0 0:=⟨rfl,by show s.began<=s.began/\s.began<=s.began+0;omega,by show s.logged<=s.logged/\s.logged<=s.logged+0;omega⟩)
      exact(h1.trans (qvp _ _ _)).mono om om
     | none=>
      simp only
      split
      .exact Cn.refl _ _ _
      .exact q5p _ _ _ _ _
def q8m{s:Nt}(h:Ci s)(n:Int):Cn s (s.tick n).2 0 48:=by
 unfold Nt.tick
 split
 .exact Cn.refl _ _ _
 .have F:=qsn h n;obtain⟨r1,r2,r3,r4,r5,r6,r7⟩:=F.rest;have hlen:=F.len;have hes:=F.es;have dU:=h.few;have h3:(s.later n).fs.length=s.fs.length:=rfl;(have h1:Cn s (eW (s.later n) (s.cK (s.now+n))).2 0 0:=⟨r5,by rw[r4];show s.began<=s.began/\s.began<=s.began+0;omega,by rw[r3];show s.logged<=s.logged/\s.logged<=s.logged+0;omega⟩)
  exact(h1.trans (q4g _ _)).mono om (by show 0+(eW (s.later n) (s.cK (s.now+n))).1.length<=48;omega)
def q9x{s:Nt}(h:Ci s)(a:Ac)(ha:s.acts<300):Cn { s with acts:=s.acts+1 } (s.act a).2 2 48:=by
 unfold Nt.act
 rw[aT om];have h1:=h.acts (s.acts+1)
 simp only
 split
 .exact(q98 _ _ _).mono om om
 .split
  .exact(q37 _ _).mono om om
  .split
   .exact(q8m h1 _).mono om om
   .split
    .exact⟨rfl,by simp only[Nt.drain];omega,by simp only[Nt.drain];omega⟩
    .split
     .exact⟨rfl,by simp only[Nt.drain];omega,by simp only[Nt.drain];omega⟩
     .exact Cn.refl _ _ _
structure kh(s:Nt)(k:Nat):Prop where
 ci:Ci s
 acts:s.acts=k
 logged:s.logged<=64*k
 began:s.began<=2*k
def kh.ok{s:Nt}{k:Nat}(h:kh s k)(hk:k<=300):WQ s:=⟨h.ci.good,by rw[h.acts];exact hk,h.ci.left,by rw[h.acts];exact h.logged,h.ci.now,h.ci.few,by rw[h.acts];exact h.began,h.ci.rem,h.ci.mem⟩
def kh.act{s:Nt}{k:Nat}(h:kh s k)(hk:k<300)(a:Ac):kh (s.act a).2 (k+1):=by
 have c:=q9x h.ci a (by rw[h.acts];exact hk);have h1:(s.act a).2.acts=s.acts+1:=c.acts;have h2:(s.act a).2.began<=s.began+2:=c.began.2;have h3:(s.act a).2.logged<=s.logged+48:=c.logged.2
 have:=h.acts
 have:=h.logged
 have:=h.began
 exact⟨h.ci.act a,by omega,by omega,by omega⟩
def q7g:gM (fun _=>0) (fun _=>0) []:=⟨by decide,qvg _ _,fun k hk h=>absurd rfl h,fun s hs h=>absurd rfl h,fun s hs=>by
 constructor
 .have:fI (fun _=>0) (s:Int)=[]:=by
   unfold fI
   rw[List.filter_eq_nil_iff];intro k hk
   simp
   omega
  rw[this];simp
 .simp[bV]⟩
def kh.new(loose:Bool):kh (gu loose) 0:=by
 (have no:∀x:Nat×Fl,¬x∈(gu loose).fs:=fun x hx=>by simp[gu] at hx)
 refine⟨⟨q7g,?_,?_,?_,fun x hx=>absurd hx (no x),fun x hx=>absurd hx (no x),ll,fun x hx=>absurd hx (no x),fun x hx=>absurd hx (no x),fun m hm=>by simp[gu] at hm,ll⟩,rfl,?_,?_⟩
 .show(4:Nat)<=4;omega
 .show(0:Int)<=0/\(0:Int)<=549755813888;omega
 .show(0:Nat)<=48;omega
 .show(0:Nat)<=64*0;omega
 .show(0:Nat)<=2*0;omega
def ND(loose:Bool):Array ag:=#[.bool loose,I Z 0,I Z 4,I Z 0]
def NE:Array ag:=#[.map none,.slice none 0 0,I Z 0,I Z 0,.map none]
def NF(loose:Bool):Array ag:=ND loose++tz++NE
def uN(loose:Bool):Array ag:=NF loose++((List.range 448).map fun _=>jK none 0 0).toArray
theorem TI:tz.size=30:=ze _ _ _ _
theorem Ik(loose:Bool):(ND loose).size=4:=rfl
theorem q3w:NE.size=5:=rfl
theorem WS(loose:Bool):(NF loose).size=39:=by unfold NF;rw[eE,eE,Ik,q3w,TI]
theorem qq3(loose:Bool):(uN loose).size=487:=by unfold uN;rw[eE,WS];simp
theorem qoi(loose:Bool)(i:Nat)(h:i<39):(uN loose)[i]?=(NF loose)[i]?:=by unfold uN;rw[bY (by rw[WS];exact h)]
def qz2(loose:Bool)(k:Nat)(h:k<448):(uN loose)[39+k]?=some (.slice none 0 0):=by
 unfold uN
 rw[iO (by rw[WS];omega),WS,kJ]
 simp[h]
def WT(loose:Bool)(k:Nat)(h:k<4):(uN loose)[k]?=(ND loose)[k]?:=by
 rw[qoi _ _ om]
 unfold NF
 rw[bY (by rw[eE,Ik,TI];omega),bY (by rw[Ik];exact h)]
def TJ(loose:Bool)(k:Nat)(h:k<5):(uN loose)[34+k]?=NE[k]?:=by
 rw[qoi _ _ om]
 unfold NF
 rw[iO (by rw[eE,Ik,TI];omega),eE,Ik,TI,kJ]
def qxa(loose:Bool)(k:Nat)(h:k<30):(uN loose)[4+k]?=tz[k]?:=by
 rw[qoi _ _ om]
 unfold NF
 rw[bY (by rw[eE,Ik,TI];omega),iO (by rw[Ik];omega),Ik,kJ]
def q1t(loose:Bool):prog.built 62 [(0,.bool loose),(2,I Z 4)]=some (uN loose):=by kernel_rfl
def qyz(R:aP 62 w b (uN loose)):j9 w b 62 (uN loose) 37 0 (fun _=>none) 0 (fun c=>c=b):=by
 refine⟨none,.map [],fun _=>.slice none 0 0,fun _=>[],⟨R,by rw[qq3];omega,TJ loose 3 om,TJ loose 4 om,fun k hk=>by rw[show 37+2+k=39+k by omega];exact qz2 _ k hk,fun k hk=>World.ownsRow_nil _ _ _ _,fun _ _ _=>rfl,fun j k c _ _ hc=>by simp[bA] at hc,fun k hk hc=>by simp[bA] at hc,.inl ⟨rfl,rfl⟩⟩,q2f,⟨by omega,fun _ _ h=>(by cases h),fun _=>List.nodup_nil,fun k i=>zm⟩,fun _ _ h=>(by cases h),?_,rfl,by omega,fun c hc=>?_⟩
 .have:∀n,oX n (fun _=>[])=0:=fun n=>by induction n with|zero=>rfl|succ n ih=>rw[PC,ih];rfl
  exact this 448
 .rcases hc with rfl|hc|⟨k,hk,hc⟩
  .rfl
  .cases hc
  .simp[bA] at hc
def q72(R:aP 62 w b (uN loose)):cC w b (gu loose) (dI (gu loose).fs) (fun c=>c=b):=by
 refine⟨uN loose,.slice none 0 0,.slice none 0 0,none,.map [],fun c=>c=b,0,⟨?_,qq3 _,WT loose 0 om,WT loose 1 om,WT loose 2 om,WT loose 3 om,fun k hk=>?_,TJ loose 0 om,TJ loose 1 om,TJ loose 2 om,cE.nil w,(fun n c h=>by cases h;rfl),World.ownsRow_nil _ _ _ _,.inl ⟨rfl,rfl⟩,qyy,rfl,au _,(fun c hc=>by cases hc),(fun c hc=>by simp[bA] at hc),fun h0=>absurd h0 (by simp[gu]),ll,fun x hx=>by simp[gu] at hx,by show(0:Nat)<=700;omega⟩,fun c hc=>?_⟩
 .exact qyz R
 .exact qxa loose k hk
 .rcases hc with h1|h1|h1|⟨h1,_⟩
  .exact h1
  .cases h1
  .simp[bA] at h1
  .simp[gu] at h1
def qt7(hgd:o.guard=none)(x:aU)(ho:o.op=.build 62 #[(0,x),(2,.const (I Z 4))])(loose:Bool)(hx:a.eval x=.bool loose)(hr:aM prog ops Q rest (a.put o.dst (.agg (uN loose))) w):aM prog ops Q (o::rest) a w:=
 bP hgd fun K hK=>by
  have hz:a.eval (.const (I Z 4))=I Z 4:=rfl;have hb:=run_build (P:=prog) w 62 #[(0,.bool loose),(2,I Z 4)] _ (q1t loose)
  unfold Oper.wp bG
  simp only[ho,dx,aB,aI,hx,hz,bB,hb,Result.andThen_ok,bH]
  exact hK _ _ hr
def qu0(loose:Bool)(w:af):az prog 5 #[.bool loose] w fun e w'=>∃b,e=.returned (V (some ⟨b,0,none⟩))/\w.heap.size<=b/\cC w' b (gu loose) (dI (gu loose).fs) (fun c=>c=b)/\aq w.heap.size w w':=by
 go_enter func5,ntmps5
 go_wp2_with (first|((with_reducible refine iE (.build 62 #[(0,.tmp 3),(2,.const (I Z 4))]) rfl ?_);refine qt7 rfl (.tmp 3) rfl loose rfl ?_)|(refine gB 62 4 ?_;refine bx 62 (.tmp 4) (uN loose) ?_;intro b5 w9 l9 R9 h9))
 go_ret
 exact⟨b5,rfl,l9,q72 R9,h9⟩
def qqc(a:Option Addr)(n c:Nat)(w:af):(binOp .eql 40 (.slice a n c) (.slice none 0 0)).run prog w=.ok (.bool a.isNone) w:=Lib.run_eql_slice_nil w _ _ a n c 0 0 underlying40
theorem q4l(w:af):(Instr.buildSlice 40 0 #[]).run prog w=.ok (.slice (some ⟨w.heap.size,0,none⟩) 0 0) (w.alloc (.cells #[] 72)):=by kernel_rfl
def qvv(hgd:o.guard=none)(ho:o.op=.buildSlice 40 0 #[])(hr:∀b w',w.heap.size<=b->w'.ownsRow w.heap.size 72 5 (.slice (some ⟨b,0,none⟩) 0 0) 0 []->aq w.heap.size w w'->aM prog ops Q rest (a.put o.dst (.slice (some ⟨b,0,none⟩) 0 0)) w'):aM prog ops Q (o::rest) a w:=
 bP hgd fun K hK=>by
  (have h':=hr w.heap.size (w.alloc (.cells #[] 72)) (au _) ⟨by simp,.inr ⟨w.heap.size,0,#[],rfl,au _,aP.new 72 w #[],au _,by unfold maxLen;omega,by simp,by simp⟩⟩ ((Below.refl _ _).alloc (au _) _))
  unfold Oper.wp bG
  simp only[ho,dx,aI,bB,q4l,Result.andThen_ok,bH]
  exact hK _ _ h'
def qy5{v:ag}(hM:cE w v ms)(hno:jw v)(hl:ms.length<=1000):az prog 28 #[v] w fun e w'=>∃sa c,e=.returned (.slice sa ms.length c)/\cE w' (.slice sa ms.length c) ms/\jw (.slice sa ms.length c)/\(0<ms.length->w.heap.size<=mb (.slice sa ms.length c))/\aq w.heap.size w w':=by
 obtain⟨i0,hi,hz0,hz1,hz2⟩:=info_parts Oi;have fh:=hM
 obtain⟨a0,cap,dB,ha0,-⟩:=fh
 have hlt:=hM.lt
 have HF:aK (∀(v':ag) (w':af),w'.ownsRow w.heap.size 72 5 v' ms.length (eF ms)->aq w.heap.size w w'->∃sa c,Ending.returned v'=.returned (.slice sa ms.length c)/\cE w' (.slice sa ms.length c) ms/\jw (.slice sa ms.length c)/\(0<ms.length->w.heap.size<=mb (.slice sa ms.length c))/\aq w.heap.size w w'):=ar (fun v' w' ho hb=>by
  obtain⟨m1,m2,m3⟩:=Qh ho om
  obtain⟨sa,c,hv,-⟩:=id m1
  subst hv
  exact⟨sa,c,rfl,m1,m2,m3,hb⟩)
 obtain⟨n,hn⟩:∃n,n=ms.length:=⟨_,rfl⟩
 have HN:aK (n=ms.length):=hn;have HL:aK (ms.length<=1000):=hl
 rw[←hn] at dB
 (have hq:=fun a c w=>qqc a n c w)
 cases a0 with
 | none=>
  have h0:ms=[]:=by
   cases ms with
   | nil=>rfl
   | cons m r=>have:=ha0 zm;cases this
  subst h0
  obtain rfl:n=0:=hn
  subst dB
  (have ZQ:=fun w=>qqc none 0 cap w);clear ha0 hlt hl hno HF HN HL hi hz0 hz1 hz2 hq hM
  go_enter func28,ntmps28
  go_wp2
  go_ret
  exact⟨none,0,rfl,cE.nil _,fun n c h=>by cases h;rfl,fun h=>absurd h zm,Below.refl _ _⟩
 | some ad=>
  have src:∀ {W:af},aq w.heap.size w W->∀k u,(eF ms)[k]?=some u->W.cell? (ad.add k)=some u:=by
   intro W hb k u hu;refine U8 ?_;intro hk;have had:ad=⟨mb v,mo v,none⟩:=Option.some.inj (ha0 om);rw[had,Addr.add_lit]
   refine Yu (fun j hj=>?_) k u hu
   exact(hM.keep hb hlt).at j hj rfl
  subst dB
  (have ZQ:=fun w=>qqc (some ad) n cap w);clear ha0 hno hn hq hl
  go_enter func28,ntmps28
  go_wp2_with (first|((with_reducible refine iE (.buildSlice 40 0 #[]) rfl ?_);refine qvv rfl rfl ?_;intro b5 w5 l5 ho5 bh)|((with_reducible refine iE (.call { callee:=.builtin .append,args:=#[.tmp 5,.tmp 6],argTypes:=#[40,40] }) rfl ?_);refine wpList_append_own _ rfl (.tmp 5) (.tmp 6) 40 rfl w.heap.size 72 i0 (.agg (mc fW)) 5 40 underlying40 hi hz0 hz1 hz2 rfl (by decide) _ _ _ rfl ho5 ad n cap (eF ms) rfl (by rw[U5,HN.out]) (src bh) (Yv ms) (by have:=HL.out;have:=HN.out;unfold maxLen;omega) (by have:=HL.out;have:=HN.out;omega) bh.size ?_;intro v2 w2 hown2 hg2 Ji;clear Ji;simp only[bX,List.nil_append] at hown2;rw[HN.out] at hown2;replace hg2:aq w.heap.size w w2:=bh.trans ⟨hg2.os,hg2.tape,hg2.output,hg2.size,fun k hk=>hg2.block k (Nat.lt_of_lt_of_le hk bh.size) (fun e=>by have:k=b5:=Option.some.inj e;omega)⟩))
  go_ret
  exact HF.out _ _ hown2 hg2
end Go.Proofs.YtnkpgdejagglaaaGreatDoor
