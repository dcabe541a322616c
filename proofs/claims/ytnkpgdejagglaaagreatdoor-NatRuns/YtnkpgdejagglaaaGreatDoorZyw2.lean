/-
  Of what a law stands on.
-/
import Derived.Shelf.SlSortCmp.NoneTotal
import Derived.Shelf.SlicesG.Cmp
import Derived.Test.YtnkpgdejagglaaaGreatDoorZyw1
set_option linter.all false
namespace Go.Proofs.YtnkpgdejagglaaaGreatDoor
open _root_.Go renaming Calls->az,DataW->mF,TypeId->bt,Value->ag,World->af,execOp->bG
open _root_.Go.Lit renaming int->bR
open _root_.Go.Maps renaming size->cZ
open _root_.Go.Proofs.Tryz renaming prog->ah
open _root_.Go.RowKit renaming Hid->aK,intOf->cY
open _root_.Go.World renaming block_lt_of_cell?->dP,cell?_alloc_mark->en,cell?_of_block->fK
open _root_.List renaming getElem?_map->eh,length_append->aY,length_cons->bU,length_nil->lZ,range->aA,range_succ->hZ
open _root_.Nat renaming le_refl->au,zero_le->bZ
open _root_.Subtype renaming val->jm
open Go.Value renaming int → I,pointer → V
open Go.IntKind renaming i64 → Z
open _root_.Go.Proofs.Tryz
set_option maxHeartbeats 16000000
set_option maxRecDepth 100000
variable {A T b bm cnt sX g m n o p tn:Nat}{s:(Nat->List Int)×List Int}{w w' w1 w2:World}{t:TypeId}{cs cs1:Array Value}{d i now:Int}{D D':DataW Unit}{vs ql:Nat->Value}{L L1:Nat->List Int}{v:Value}{du:Int->Option Int}{l:List Int}{a:Act}{F G:Nat->Prop}
section
open Go.ChangeShapes Go.WideShapes Go.ChangeAt Go.RowKit Go.Maps
def oX(n:Nat)(L:Nat->List Int):Nat:=((aA n).map fun k=>(L k).length).sum
theorem PC(n:Nat)(L:Nat->List Int):oX (n+1) L=oX n L+(L n).length:=by simp[oX,hZ]
theorem q56(n k:Nat)(L:Nat->List Int)(l:List Int)(h:n<=k):oX n (dw L k l)=oX n L:=by
 induction n with
 | zero=>rfl
 | succ n ih=>rw[PC,PC,ih om];simp[dw,show n≠k by omega]
def Xo(n k:Nat)(L:Nat->List Int)(l:List Int)(h:k<n):oX n (dw L k l)+(L k).length=oX n L+l.length:=by
 induction n with
 | zero=>omega
 | succ n ih=>
  rw[PC,PC]
  by_cases e:k=n
  .subst e;rw[q56 k k L l (au _)];simp[dw];omega
  .have:=ih om;simp[dw,show n≠k by omega];omega
def qr8(n k:Nat)(L:Nat->List Int)(h:k<n):(L k).length<=oX n L:=by
 induction n with
 | zero=>omega
 | succ n ih=>
  rw[PC]
  by_cases e:k=n
  .subst e;omega
  .have:=ih om;omega
structure uz(T:Nat)(s:(Nat->List Int)×List Int):Prop where
 sum:oX 448 s.1+s.2.length=T
 beyond:∀m,448<=m->s.1 m=[]
 wf:∀k i,i∈s.1 k->(bR .i64 i).wf=true
def uz.le(h:uz T s)(m:Nat):(s.1 m).length<=T:=by
 have:=h.sum
 by_cases hm:m<448
 .have:=qr8 448 m s.1 hm;omega
 .rw[h.beyond m om];simp
def uz.off(h:uz T s):s.2.length<=T:=by have:=h.sum;omega
def q2h(now:Int)(z:Int->Int)(hn:0<=now/\now<=1099511627776)(hz:∀i,0<=z i/\z i<=1099511627776)(l:List Int)(s:(Nat->List Int)×List Int)(h:uz T s)(hl:∀i∈l,(bR .i64 i).wf=true):uz (T+l.length) (l.foldl (io now z) s):=by
 induction l generalizing s T with
 | nil=>exact h
 | cons i r ih=>
  (rw[List.foldl_cons,bU,show T+(r.length+1)=(T+1)+r.length by omega])
  apply ih
  .unfold io
   by_cases hd:z i<=now
   .rw[aZ hd]
    exact⟨by have:=h.sum;simp;omega,h.beyond,h.wf⟩
   .rw[aT hd];have hp:pk now.toNat (z i).toNat<448:=Xf _ _ om (by have:=hz i;omega)
    refine⟨?_,fun m hm=>?_,fun k j hj=>?_⟩
    .have:=Xo 448 _ s.1 (s.1 (pk now.toNat (z i).toNat)++[i]) hp
     have:=h.sum
     simp only[p8,aY,bU,lZ] at *
     omega
    .simp only[p8,dw,aT (show m≠pk now.toNat (z i).toNat by omega)]
     exact h.beyond m hm
    .simp only[p8,dw] at hj
     split at hj
     .rcases List.mem_append.1 hj with h1|h1
      .exact h.wf _ j h1
      .have:j=i:=by simpa using h1
       subst this;exact hl j zm
     .exact h.wf k j hj
  .exact fun j hj=>hl j (by simp[hj])
theorem qyj(now:Int)(z:Int->Int)(hn:0<=now/\now<=1099511627776)(hz:∀i,0<=z i/\z i<=1099511627776)(s:(Nat->List Int)×List Int)(h:uz T s)(k:Nat)(hk:k<448):uz T (iq now z s k):=by
 have hs:=Xo 448 k s.1 [] hk
 have h0:uz (T-(s.1 k).length) (dw s.1 k [],s.2):=by
  refine⟨by have:=h.sum;simp at *;omega,fun m hm=>?_,fun j i hi=>?_⟩
  .simp only[dw,aT (show m≠k by omega)];exact h.beyond m hm
  .simp only[dw] at hi
   split at hi
   .grind
   .exact h.wf j i hi
 have h1:=q2h now z hn hz (s.1 k) _ h0 (fun i hi=>h.wf k i hi);(have e:T-(s.1 k).length+(s.1 k).length=T:=by have:=h.le k;omega)
 grind [iq]
theorem WM.NZ{mb:Option Nat}(h:WM w b t cs o now mb D vs L)(n:Int):
  WM (w.setCell ⟨b,o,none⟩ (I Z n)) b t (cs.setIfInBounds o (I Z n)) o n mb D vs L/\lV o cs (cs.setIfInBounds o (I Z n))/\Gr (Fp b mb vs) w (w.setCell ⟨b,o,none⟩ (I Z n)):=by
 have hsz:=h.size;have hg:Gr (fun c=>c=b) w (w.setCell ⟨b,o,none⟩ (I Z n)):=Gr.setCell w b o _ rfl
 refine⟨⟨heap_setCell_same w b _ _ t _ h.row,by simpa using hsz,?_,?_,fun j hj=>?_,fun j hj=>?_,h.nil,h.apart,h.mM,?_⟩,lV.set o _ cs _ om om,hg.mono (fun x hx=>.inl hx)⟩
 .grind
 .refine Pt ?_;exact h.c1
 .refine Pt ?_;exact h.cl j hj
 .exact(h.own j hj).ib hg (fun c hc e=>h.mM j hj (by rw[hc,e]))
 .rcases h.map with h1|⟨bm,k,h1,h2,h3⟩
  .grind
  .exact .inr ⟨bm,k,h1,h2,h3.setCell (h3.pS h.row) _⟩
def GA(w W:af)(b:Nat)(t:bt)(cs:Array ag)(o:Nat)(now:Int)(mb:Option Nat)(D:mF Unit)(vs:Nat->ag)(T:Nat)(s:(Nat->List Int)×List Int)(tv:ag):Prop:=
 ∃cs' kT,NX W b t cs' o now mb D kT s.1 tv s.2/\lV o cs cs'/\Gr (Fp b mb vs) w W/\(∀c,Fp b mb kT c->Fp b mb vs c\/w.heap.size<=c)/\(∀c,tv.ownBlock=some c->w.heap.size<=c)/\uz T s/\(mb=none->∀k,s.1 k=[])
theorem q6y(now:Int)(z:Int->Int)(s:(Nat->List Int)×List Int)(k:Nat)(h:∀k,s.1 k=[]):∀m,(iq now z s k).1 m=[]:=by simp_all[iq,dw]
section
variable {w W:World} {b:Nat} {t:TypeId} {cs:Array Value} {o:Nat} {now:Nat} {mb:Option Nat} {D:DataW Unit} {vs:Nat->Value} {T:Nat} {s:(Nat->List Int)×List Int} {tv:Value}
theorem GA.spread(h:GA w W b t cs o (now:Int) mb D vs T s tv)(z:Int->Int)(hz:uy D z)(hzz:∀i,0<=z i/\z i<=1099511627776)(hn:now<=1099511627776)(hT:T<=1000000)(l a:Nat)(hl:l<7)(ha:a<64):
  az ah 150 #[V (some ⟨b,o,none⟩),I Z (l:Int),I Z (a:Int),tv] W fun e w'=>∃qI,e=.returned qI/\GA w w' b t cs o (now:Int) mb D vs T (iq (now:Int) z s (64*l+a)) qI:=by
 obtain⟨cs',kT,hm,tu,hgr,EX,Uq,mR,wJ⟩:=h;(have hle:=fun m=>mR.le m);have hof:=mR.off
 refine(qzn hm z hz mR.wf hn l a hl ha (fun m=>by have:=hle m;have:=hle (64*l+a);omega) (by have:=hle (64*l+a);omega) wJ).mono ?_
 rintro e w' ⟨tH,uP,qI,rfl,xn,wC,hg2,y4,GC⟩
 refine⟨qI,rfl,tH,uP,xn,tu.trans wC,hgr.trans hg2 (fun x hx=>?_),fun c hc=>?_,fun c hc=>?_,qyj _ z om hzz s mR _ om,fun h0=>q6y _ z s _ (wJ h0)⟩
 .grind
 .rcases y4 c hc with h1|h1
  .grind
  .have:=hgr.size;exact .inr om
 .rcases GC c hc with h1|h1
  .grind
  .have:=hgr.size;omega
end
theorem qu{p:Prop}(h:p):Hid p:=h
def Hr(h:p<n):Hid (n-((p:Int)+1).toNat<n-((p:Int)).toNat):=(by omega:n-((p:Int)+1).toNat<n-((p:Int)).toNat)
def qxu(d q:Nat):aK (((d+q:Nat):Int)+1=((d+(q+1):Nat):Int)):=(by omega:((d+q:Nat):Int)+1=((d+(q+1):Nat):Int))
def oQ(h:p<1000000000000):wrap64 ((p:Int)+1)=(p:Int)+1:=by unfold wrap64;omega
theorem q1k(l d i:Nat):jg l d (i+1)=jg l d i++[64*l+(d+i)]:=by unfold jg;rw[hZ,List.map_append];rfl
theorem qtf(now:Int)(z:Int->Int)(s:(Nat->List Int)×List Int)(l d i:Nat):(jg l d (i+1)).foldl (iq now z) s=iq now z ((jg l d i).foldl (iq now z) s) (64*l+(d+i)):=by grind [q1k,jg,iq]
def qsz(a:Nat)(now:Int)(z:Int->Int)(s:(Nat->List Int)×List Int)(l:Nat):(aA (l+1)).foldl (p9 a now z) s=p9 a now z ((aA l).foldl (p9 a now z) s) l:=by rw[hZ,List.foldl_append];rfl
def q2w{mb:Option Nat}(h:WM w b t cs o (A:Int) mb D vs L)(z:Int->Int)(hz:uy D z)(hzz:∀i,0<=z i/\z i<=1099511627776)(hA:A<=tn)(Ed:tn<=1099511627776)(hT:T<=1000000)(mR:uz T (L,[]))(wJ:mb=none->∀k,L k=[]):
  az ah 89 #[V (some ⟨b,o,none⟩),I Z (tn:Int)] w fun e w'=>∃ov,e=.returned ov/\GA w w' b t cs o (tn:Int) mb D vs T (qL (A:Int) (tn:Int) z L) ov:=by
 have c0:=(h.cell o).trans h.c0;have f0:=h.free o;(have CP:=fun w h=>qoh b o A tn om Ed w h);have Uv:=Tp tn A Ed om;have pR:=Hz tn (lv tn A);have hturn:qL (A:Int) (tn:Int) z L=(jg (lv tn A) (dg A (lv tn A)) (dg tn (lv tn A)+1-dg A (lv tn A))).foldl (iq (tn:Int) z) ((aA (lv tn A)).foldl (p9 A (tn:Int) z) (L,[])):=rfl;rw[hturn];have hle:dg A (lv tn A)<=dg tn (lv tn A):=(Xh A tn om om hA).1;obtain⟨my,nz,hg1⟩:=h.NZ (tn:Int)
 have h1:GA w (w.setCell ⟨b,o,none⟩ (I Z (tn:Int))) b t cs o (tn:Int) mb D vs T (L,[]) (.slice none 0 0):=
  ⟨_,_,⟨my,World.ownsRow_nil _ _ _ _,fun c hc=>by simp[Value.ownBlock] at hc⟩,nz,hg1,fun c hc=>.inl hc,fun c hc=>by simp[Value.ownBlock] at hc,mR,wJ⟩
 clear my nz hg1 hturn h wJ mR
 generalize lv tn A=EY at *
 generalize dg tn EY=last at *
 (have DG:=fun l (hl:l<=6) w=>qsu A l om hl w);(have Uw:=fun w=>DG EY Uv w)
 generalize dg A EY=d1 at *
 go_enter func89,ntmps89
 go_wp2_with ((go_at_call 148;refine(CP _ c0).mono ?_;refine gy ?_))
 go_loopw [8,27] (fun tv i W=>∃l:Nat,l<=EY/\i=I Z (l:Int)/\GA w W b t cs o (tn:Int) mb D vs T ((aA l).foldl (p9 A (tn:Int) z) (L,[])) tv) (fun _ i _=>EY-(cY i).toNat)
 case atStart=>exact⟨0,bZ _,rfl,h1⟩
 case round=>
  clear h1 c0 f0
  obtain⟨l,hl,rfl,hR⟩:=hrel
  by_cases hlt:l<EY
  ·(have N0:(l:Int)<(EY:Int):=by omega);have hlw:=oQ (p:=l) om;(have DGl:=fun w=>DG l om w);have Ux:=Hz A l;have HM:=Hr hlt;have Uy:=qsz A (tn:Int) z (L,[]) l
   unfold p9 at Uy
   obtain⟨sl,dB⟩:∃sl,sl=(aA l).foldl (p9 A (tn:Int) z) (L,[]):=⟨_,rfl⟩
   (have M3:aK ((aA (l+1)).foldl (p9 A (tn:Int) z) (L,[])=(jg l (dg A l) (64-dg A l)).foldl (iq (tn:Int) z) sl):=by show _=_;rw[dB];exact qsz A (tn:Int) z (L,[]) l)
   rw[←dB] at hR
   clear dB Uy
   generalize dg A l=d0 at *
   go_wp2_with ((go_at_call 149;refine(DGl _).mono ?_;refine gy ?_))
   go_loopw [8,10] (fun tv i W=>∃q:Nat,q<=64-d0/\i=I Z ((d0+q:Nat):Int)/\GA w W b t cs o (tn:Int) mb D vs T ((jg l (d0) q).foldl (iq (tn:Int) z) sl) tv) (fun _ i _=>64-(cY i).toNat)
   case atStart=>exact⟨0,bZ _,rfl,hR⟩
   case round=>
    clear hR
    obtain⟨q,hq,rfl,hR⟩:=hrel
    by_cases IK:d0+q<64
    ·(have hqi:((d0+q:Nat):Int)<64:=by omega);have HM2:=Hr IK;have HQ:aK (q+1<=64-d0):=qu om;have HE:=qxu (d0) q;have CS:=hR.spread z hz hzz Ed hT l (d0+q) om IK
     rw[←qtf] at CS
     have hqw:=oQ (p:=d0+q) om;clear hR
     generalize(d0+q)=p at *
     clear hlw N0 hlt hl HM M3 DGl DG Uw hle pR Uv hA Ed hT hzz hz CP Ux hq IK
     go_wp2_with ((go_at_call 150;go_fit CS;rintro e w2 ⟨ov2,rfl,hR2⟩))
     go_roundw
     case rel=>exact⟨q+1,HQ.out,congrArg (Value.int IntKind.i64) (by first|exact HE.out ),hR2⟩
     case measure=>first|exact HM2.out 
    ·(have hqi:¬((d0+q:Nat):Int)<64:=by omega)
     obtain rfl:q=64-d0:=by omega
     rw[←M3.out] at hR
     generalize((d0+(64 - d0):Nat):Int)=p at *
     have WK:aK (l+1<=EY):=qu hlt;clear N0 hlt hl M3 DGl DG Uw hle pR Uv hA Ed hT hzz hz CP Ux hq IK
     go_wp2
     go_roundw
     case rel=>exact⟨l+1,WK.out,by go_num,hR⟩
     case measure=>first|(rw[hlw];exact HM.out)
  ·(have N0:¬(l:Int)<(EY:Int):=by omega)
   obtain rfl:l=EY:=by omega
   go_wp2_with ((go_at_call 149;refine(Uw _).mono ?_;refine gy ?_))
   go_loopw [8,11] (fun tv i W=>∃q:Nat,q<=last+1-d1/\i=I Z ((d1+q:Nat):Int)/\GA w W b t cs o (tn:Int) mb D vs T ((jg l (d1) q).foldl (iq (tn:Int) z) ((aA l).foldl (p9 A (tn:Int) z) (L,[]))) tv) (fun _ i _=>last+1-(cY i).toNat)
   case atStart=>exact⟨0,bZ _,rfl,hR⟩
   case round=>
    clear hR
    obtain⟨q,hq,rfl,hR⟩:=hrel
    by_cases IK:d1+q<=last
    ·(have hqi:((d1+q:Nat):Int)<=(last:Int):=by omega);have HM2:=Hr (Nat.lt_succ_of_le IK);have HQ:aK (q+1<=last+1-d1):=qu om;have HE:=qxu (d1) q;have CS:=hR.spread z hz hzz Ed hT l (d1+q) om om
     rw[←qtf] at CS
     have hqw:=oQ (p:=d1+q) om;clear hR
     generalize(d1+q)=p at *
     clear N0 hl DG Uw hle pR Uv hA Ed hT hzz hz CP hq IK
     go_wp2_with ((go_at_call 150;go_fit CS;rintro e w2 ⟨ov2,rfl,hR2⟩))
     go_roundw
     case rel=>exact⟨q+1,HQ.out,congrArg (Value.int IntKind.i64) (by first|exact hqw.trans HE.out),hR2⟩
     case measure=>first|(rw[hqw];exact HM2.out)
    ·(have hqi:¬((d1+q:Nat):Int)<=(last:Int):=by omega)
     obtain rfl:q=last+1-d1:=by omega
     generalize((d1+(last+1 - d1):Nat):Int)=p at *
     clear N0 hl DG Uw hle pR Uv hA Ed hT hzz hz CP hq IK
     go_wp2
     go_ret
     exact⟨_,rfl,hR⟩
end
section
open Go.Shelf
def qs1:Go.Shelf.Ren:=⟨fun|6=>90|15=>152|14=>151|28=>202|29=>203|20=>194|21=>195|22=>196|23=>197|24=>198|25=>199|26=>200|27=>201|46=>215|47=>216|48=>217|49=>218|50=>219|57=>221|n=>n,fun|22=>44|24=>3|25=>140|3=>3|39=>169|0=>0|53=>226|55=>228|4=>4|46=>220|45=>219|50=>80|5=>5|9=>9|66=>234|70=>238|76=>241|77=>170|n=>n,fun|n=>n⟩
def q7a:Go.Proofs.SlLaysF.n6 ah qs1:={
 mixed:=by kernel_rfl
 f6:=⟨f90.name,by decide,func90.trans (congrArg some kr)⟩
 f14:=⟨f151.name,by decide,func151.trans (congrArg some kr)⟩
 f15:=func152.trans (congrArg some kr)
 f20:=⟨f194.name,by decide,func194.trans (congrArg some kr)⟩
 f21:=⟨f195.name,by decide,func195.trans (congrArg some kr)⟩
 f22:=⟨f196.name,by decide,func196.trans (congrArg some kr)⟩
 f23:=⟨f197.name,by decide,func197.trans (congrArg some kr)⟩
 f24:=⟨f198.name,by decide,func198.trans (congrArg some kr)⟩
 f25:=⟨f199.name,by decide,func199.trans (congrArg some kr)⟩
 f26:=⟨f200.name,by decide,func200.trans (congrArg some kr)⟩
 f27:=⟨f201.name,by decide,func201.trans (congrArg some kr)⟩
 f28:=func202.trans (congrArg some kr)
 f29:=func203.trans (congrArg some kr)
 f46:=⟨f215.name,by decide,func215.trans (congrArg some kr)⟩
 f47:=func216.trans (congrArg some kr)
 f48:=func217.trans (congrArg some kr)
 f49:=⟨f218.name,by decide,func218.trans (congrArg some kr)⟩
 f50:=⟨f219.name,by decide,func219.trans (congrArg some kr)⟩
 f57:=⟨f221.name,by decide,func221.trans (congrArg some kr)⟩
 t0:=underlying0
 a0:=isAgg0
 z0:=sizeOf0
 v0:=zeroValue0
 t3:=underlying3
 a3:=isAgg3
 z3:=sizeOf3
 v3:=zeroValue3
 t4:=underlying4
 a4:=isAgg4
 z4:=sizeOf4
 v4:=zeroValue4
 t5:=underlying5
 a5:=isAgg5
 z5:=sizeOf5
 v5:=zeroValue5
 t9:=underlying9
 a9:=isAgg9
 z9:=sizeOf9
 v9:=zeroValue9
 t22:=underlying44
 a22:=isAgg44
 z22:=sizeOf44
 v22:=zeroValue44
 a24:=isAgg3
 z24:=sizeOf3
 t25:=underlying140
 a25:=isAgg140
 z25:=sizeOf140
 v25:=zeroValue140
 t39:=underlying169
 a39:=isAgg169
 z39:=sizeOf169
 v39:=zeroValue169
 t45:=underlying219
 a45:=isAgg219
 z45:=sizeOf219
 v45:=zeroValue219
 t46:=underlying220
 a46:=isAgg220
 z46:=sizeOf220
 v46:=zeroValue220
 t50:=underlying80
 a50:=isAgg80
 z50:=sizeOf80
 v50:=zeroValue80
 t53:=underlying226
 a53:=isAgg226
 z53:=sizeOf226
 v53:=zeroValue226
 t55:=underlying228
 a55:=isAgg228
 z55:=sizeOf228
 v55:=zeroValue228
 t66:=underlying234
 a66:=isAgg234
 z66:=sizeOf234
 v66:=zeroValue234
 t70:=underlying238
 a70:=isAgg238
 z70:=sizeOf238
 v70:=zeroValue238
 t76:=underlying241
 a76:=isAgg241
 z76:=sizeOf241
 v76:=zeroValue241
 t77:=underlying170
 a77:=isAgg170
 z77:=sizeOf170
 v77:=zeroValue170 }
def q5b:Go.Shelf.Ren:=⟨fun|5=>93|7=>153|n=>n,fun|22=>3|3=>3|4=>4|n=>n,fun|n=>n⟩
def qiX:Go.Proofs.SlLaysC2.n5 ah q5b:={
 mixed:=by kernel_rfl
 f5:=⟨f93.name,by decide,func93.trans (congrArg some kr)⟩
 f7:=⟨f153.name,by decide,func153.trans (congrArg some kr)⟩
 t3:=underlying3
 a3:=isAgg3
 z3:=sizeOf3
 v3:=zeroValue3
 t4:=underlying4
 a4:=isAgg4
 z4:=sizeOf4
 v4:=zeroValue4
 t22:=underlying3
 a22:=isAgg3
 z22:=sizeOf3
 v22:=zeroValue3 }
end
section
open Go.ChangeShapes Go.WideShapes Go.ChangeAt Go.RowKit Go.Maps
def GD(a b:Int):Int:=if a=0 then b else a
def q96(c:Nat)(a b:Int)(w:af)(h0:w.cell? ⟨c,0,none⟩=some (I Z a))(h1:w.cell? ⟨c,1,none⟩=some (I Z b)):
  az ah 92 #[.slice (some ⟨c,0,none⟩) 2 2] w fun e w'=>e=.returned (I Z (GD a b))/\w'=w:=by
 go_enter func92,ntmps92
 go_wp2
 go_loop [8] (fun i=>∃j:Nat,j<=2/\i=I Z (j:Int)/\(1<=j->a=0)/\(2<=j->b=0)) (fun i=>2-(cY i).toNat)
 case atStart=>exact⟨0,by omega,rfl,fun h=>by omega,fun h=>by omega⟩
 case round=>
  obtain⟨j,hj,rfl,ha,hb⟩:=hrel
  (have hc:j=0\/j=1\/j=2:=by omega)
  rcases hc with rfl|rfl|rfl
  .clear ha hb hj
   by_cases e:a=0
   ·(have hn:(a != 0)=false:=by simp[e]);have HE:aK (a=0):=e;clear e
    go_wp2
    go_round
    case rel=>exact⟨1,by omega,rfl,fun _=>HE.out,fun h=>by omega⟩
    case measure=>simp[cY]
   ·(have hn:(a != 0)=true:=by simp[e]);have HE:aK (a≠0):=e;clear e
    go_wp2
    go_ret
    exact⟨Xk (by unfold GD;rw[aT HE.out]),rfl⟩
  .have HA:aK (a=0):=ha om;clear ha hb hj
   by_cases e:b=0
   ·(have hn:(b != 0)=false:=by simp[e]);have HE:aK (b=0):=e;clear e
    go_wp2
    go_round
    case rel=>exact⟨2,by omega,rfl,fun _=>HA.out,fun _=>HE.out⟩
    case measure=>simp[cY]
   ·(have hn:(b != 0)=true:=by simp[e]);clear e
    go_wp2
    go_ret
    exact⟨Xk (by unfold GD;rw[aZ HA.out]),rfl⟩
  .have HA:aK (a=0):=ha om;have HB:aK (b=0):=hb om;clear ha hb hj
   go_wp2
   go_ret
   exact⟨Xk (by unfold GD;rw[aZ HA.out,HB.out]),rfl⟩
def qxv(x y:Int)(W:af):az ah 93 #[I Z x,I Z y] W fun e w'=>e=.returned (I Z (Lib.compareInt x y))/\w'=W:=AnyG.cmp_Compare_int qiX x y W
def y5(z:Int->Int)(x y:Int):Int:=GD (Lib.compareInt (z x) (z y)) (Lib.compareInt x y)
def Xp(h:w.cell? ⟨b,o,none⟩=some v)(x:Obj):(w.alloc x).cell? ⟨b,o,none⟩=some v:=by
 have hl:=World.block_lt_of_cell? w _ h;rw[←h]
 exact World.cell?_of_block (Below.heap_alloc _ _ _ hl)
theorem qiY{z:Int->Int}{x y p q:Int}(hp:Lib.compareInt (z x) (z y)=p)(hq:Lib.compareInt x y=q):y5 z x y=GD p q:=by grind [y5,GD]
def q5n{bx:Nat}(z:Int->Int)(x y:Int)(hx:(bR .i64 x).wf=true)(hy:(bR .i64 y).wf=true)(hzx:nC D x (z x))(hzy:nC D y (z y))(W:af)(hb:W.cell? ⟨bx,0,none⟩=some (.pointer (some ⟨b,o,none⟩)))(c1:W.cell? ⟨b,o+1,none⟩=some (.map (some bm)))(hm:j1 W bm n D):
  az ah 91 #[.int .i64 x,.int .i64 y,.pointer (some ⟨bx,0,none⟩)] W fun e w'=>e=.returned (.int .i64 (y5 z x y))/\∃q os',w'=Sort.grow (W.drewN q) os':=by
 have kx:=keyOf_int_mk (P:=ah) (q:=.i64) (a:=x) underlying3 hx;have ky:=keyOf_int_mk (P:=ah) (q:=.i64) (a:=y) underlying3 hy
 have hlx:∀W,j1 W bm n D->(Instr.lookup 56 (.map (some bm)) (.int .i64 x) false).run ah W=.ok (.int .i64 (z x)) W:=by
  intro W hW
  obtain⟨c,h1,h2,_⟩:=hW.lookup_int oh underlying56 underlying3 (Nh _) kx
  rw[h1,PR hzx h2]
 have hly:∀W,j1 W bm n D->(Instr.lookup 56 (.map (some bm)) (.int .i64 y) false).run ah W=.ok (.int .i64 (z y)) W:=by
  intro W hW
  obtain⟨c,h1,h2,_⟩:=hW.lookup_int oh underlying56 underlying3 (Nh _) ky
  rw[h1,PR hzy h2]
 (have C1:=fun w=>qxv (z x) (z y) w);(have C2:=fun w=>qxv x y w)
 obtain⟨p,hp⟩:∃p,Lib.compareInt (z x) (z y)=p:=⟨_,rfl⟩
 obtain⟨q,hq⟩:∃q,Lib.compareInt x y=q:=⟨_,rfl⟩
 rw[hp] at C1
 rw[hq] at C2
 rw[qiY hp hq];clear hp hq kx ky hzx hzy hx hy
 go_enter func91,ntmps91
 go_wp2_with fail
 refine RD (fun W=>W.cell? ⟨bx,0,none⟩=some (.pointer (some ⟨b,o,none⟩))/\W.cell? ⟨b,o+1,none⟩=some (.map (some bm))/\j1 W bm n D) ⟨hb,c1,hm⟩ (fun _=>?_)
 refine tk 0 (.pointer (some ⟨b,o,none⟩)) rfl (Or.inl ⟨by kernel_rfl,by intro w hS;have hc:=hS.1;go_simp⟩) ⟨hb,c1,hm⟩ (tq 1 (.pointer (some ⟨b,o,none⟩)) rfl ⟨hb,c1,hm⟩ (tq 2 (.pointer (some ⟨b,o+1,none⟩)) rfl ⟨hb,c1,hm⟩ ?_));simp only[ZZ];refine tk 3 (.map (some bm)) rfl (Or.inl ⟨by kernel_rfl,by intro w hS;have hc:=hS.2.1;go_simp⟩) ⟨hb,c1,hm⟩ (tq 4 (.int .i64 x) rfl ⟨hb,c1,hm⟩ (tk 5 (.int .i64 (z x)) rfl (Or.inl ⟨by kernel_rfl,by intro w hS;have hc:=hlx w hS.2.2;go_simp⟩) ⟨hb,c1,hm⟩ ?_));simp only[ZZ];refine tk 6 (.pointer (some ⟨b,o,none⟩)) rfl (Or.inl ⟨by kernel_rfl,by intro w hS;have hc:=hS.1;go_simp⟩) ⟨hb,c1,hm⟩ (tq 7 (.pointer (some ⟨b,o,none⟩)) rfl ⟨hb,c1,hm⟩ (tq 8 (.pointer (some ⟨b,o+1,none⟩)) rfl ⟨hb,c1,hm⟩ ?_));simp only[ZZ];refine tk 9 (.map (some bm)) rfl (Or.inl ⟨by kernel_rfl,by intro w hS;have hc:=hS.2.1;go_simp⟩) ⟨hb,c1,hm⟩ (tq 10 (.int .i64 y) rfl ⟨hb,c1,hm⟩ (tk 11 (.int .i64 (z y)) rfl (Or.inl ⟨by kernel_rfl,by intro w hS;have hc:=hly w hS.2.2;go_simp⟩) ⟨hb,c1,hm⟩ ?_));simp only[ZZ];refine tq 13 (.int .i64 x) rfl ⟨hb,c1,hm⟩ (tq 14 (.int .i64 y) rfl ⟨hb,c1,hm⟩ ?_);simp only[ZZ];refine AR [12] ?_
 refine AC (fun K hK=>?_) AZ
 go_simp;go_at_call 93;refine(C1 _).mono ?_;refine gy ?_
 go_wp2_with fail
 refine hK.out _ _ ⟨hb,c1,hm⟩ (fun _=>?_)
 clear hK K;refine AR [15] ?_
 refine AC (fun K hK=>?_) AZ
 go_simp;go_at_call 93;refine(C2 _).mono ?_;refine gy ?_
 go_wp2_with fail
 refine hK.out _ _ ⟨hb,c1,hm⟩ (fun _=>?_)
 clear hK K;refine AR [16] ?_
 refine AP (fun K hK=>?_) AZ
 (unfold Oper.wp bG;go_simp);have k0:=en W #[.int .i64 p,.int .i64 q] 3 (0,0) 0;have k1:=en W #[.int .i64 p,.int .i64 q] 3 (0,0) 1;replace hb:=Xp hb (.cells #[.int .i64 p,.int .i64 q] 3);replace c1:=Xp c1 (.cells #[.int .i64 p,.int .i64 q] 3);replace hm:=hm.alloc (.cells #[.int .i64 p,.int .i64 q] 3)
 refine hK.out _ _ ⟨hb,c1,hm⟩ (fun _=>?_)
 clear hK K;refine AR [17] ?_
 refine AC (fun K hK=>?_) AZ
 go_simp
 go_at_call 92;refine(q96 _ p q _ ?_ ?_).mono ?_;exact k0;exact k1;refine gy ?_
 go_wp2_with fail
 refine hK.out _ _ ⟨hb,c1,hm⟩ (fun _=>?_)
 clear hK K;refine tq 18 (.int .i64 (GD p q)) rfl ⟨hb,c1,hm⟩ ?_;refine oM ?_
 go_wp2
 go_ret
 exact⟨rfl,1,#[.cells #[.int .i64 p,.int .i64 q] 3],Sort.alloc_eq_grow (W.drewN 1) _⟩
end
section
open Go.ChangeShapes Go.WideShapes Go.ChangeAt Go.RowKit Go.Maps
open Go.Sort (grow ahead putRow Holds putCells SWO)
abbrev y6:={ x:Int // (bR .i64 x).wf=true }
def wf0:y6:=⟨0,by decide⟩
def qN(x:y6):ag:=I Z x.val
def GF(z:Int->Int)(x y:Int):Bool:=decide (z x<z y\/z x=z y/\x<y)
def tB(z:Int->Int)(x y:Int):Bool:=decide (z x<z y\/z x=z y/\x<=y)
def js(z:Int->Int)(l:List Int):List Int:=l.mergeSort (tB z)
theorem qiZ(z:Int->Int)(x y:Int):decide (y5 z x y<0)=GF z x y:=by
 unfold y5 GD GF Lib.compareInt
 grind
theorem q9z(z:Int->Int)(x y:Int):(!GF z y x)=tB z x y:=by grind [GF,tB]
def qO(z:Int->Int)(x y:y6):Int:=y5 z x.val y.val
theorem Uz(z:Int->Int)(x y:y6):ltOf (qO z) x y=GF z x.val y.val:=qiZ z x.val y.val
def swo(z:Int->Int):SWO (ltOf (qO z)) where
 irrefl x:=by rw[Uz];unfold GF;simp
 trans x y u h1 h2:=by rw[Uz] at *;unfold GF at *;simp only[decide_eq_true_eq] at *;omega
 ntrans x y u h1 h2:=by rw[Uz] at *;unfold GF at *;simp only[decide_eq_false_iff_not] at *;omega
theorem qi2(z:Int->Int)(x y:y6)(h1:ltOf (qO z) x y=false)(h2:ltOf (qO z) y x=false):x=y:=by
 rw[Uz] at *
 unfold GF at *
 grind
theorem q66(z:Int->Int)(l:List y6):(l.mergeSort fun x y=>!(ltOf (qO z)) y x).map jm=js z (l.map jm):=by
 unfold js
 apply List.map_mergeSort
 grind [Uz,q9z]
section
variable [Inhabited y6]
theorem Xq{c:Nat}(d:Array y6)(os:Array Obj)(hc:c≠g)(hlt:c<w.heap.size):(sortWorld qN w g 0 m d os).heap[c]?=w.heap[c]?:=by
 unfold sortWorld grow putRow Sort.mapBlock
 show((w.heap.modify g _)++os)[c]?=_
 grind
def q3s{cur:Array ag}{e:bt}{fr:Nat×Nat}(d:Array y6)(os:Array Obj)(hb:w.heap[g]?=some (.cells cur e fr)):(sortWorld qN w g 0 m d os).heap[g]?=some (.cells (putCells qN 0 d cur) e fr):=by
 have hlt:g<w.heap.size:=(Array.getElem?_eq_some_iff.1 hb).1
 unfold sortWorld grow putRow Sort.mapBlock
 show((w.heap.modify g _)++os)[g]?=_
 rw[Array.getElem?_append_left (by simpa using hlt),Array.getElem?_modify,aZ rfl,hb]
 rfl
def qy6(d:Array y6)(os:Array Obj):w.grownBy (sortWorld qN w g 0 m d os) (some g):=by
 refine⟨rfl,rfl,rfl,?_,fun k hk hne=>Xq d os (fun e=>hne (by rw[e])) hk⟩
 unfold sortWorld grow putRow Sort.mapBlock
 simp
theorem q4v(cur:Array ag)(ts:List y6)(h:ts.length<=cur.size):(putCells qN 0 ts.toArray cur).toList.take ts.length=(ts.map jm).map (Value.int .i64):=by
 apply List.ext_getElem?
 intro i;rw[List.getElem?_take,eh,eh]
 by_cases hi:i<ts.length
 .rw[aZ hi,Array.getElem?_toList]
  unfold putCells
  grind [qN]
 grind
theorem q6v{off:List Int}(h:gT w v off)(hl:0<off.length)(hm:off.length<=1000000000)(tL:∀i∈off,(bR .i64 i).wf=true)(z:Int->Int){bx:Nat}(hz:uy D z)(hb:w.cell? ⟨bx,0,none⟩=some (.pointer (some ⟨b,o,none⟩)))(c1:w.cell? ⟨b,o+1,none⟩=some (.map (some bm)))(hmap:j1 w bm n D)(nx:v.ownBlock≠some bx)(nb:v.ownBlock≠some b):
  az ah 90 #[v,.func (.func 91) #[] #[.pointer (some ⟨bx,0,none⟩)]] w fun e w'=>e=.returned (.tuple #[])/\gT w' v (js z off)/\w.grownBy w' v.ownBlock:=by
 obtain⟨g,cap,cur,rfl,hg,hlc,hcm,hcs,ht⟩:=h.shape hl
 obtain⟨d,hd⟩:∃d:List y6,d.map jm=off:=⟨off.attachWith _ tL,by simp⟩
 (have xW:d.length=off.length:=by rw[←hd];simp);have hlt:g<w.heap.size:=(Array.getElem?_eq_some_iff.1 hg).1;have Gk:=h.qb hmap;(have gx:bx≠g:=fun e=>nx (by rw[e];rfl));(have gb:b≠g:=fun e=>nb (by rw[e];rfl));(have gm:bm≠g:=fun e=>Gk (by rw[e];rfl));have lx:=dP w _ hb;have lb:=dP w _ c1;have lm:=hmap.lt
 have hH:Holds qN w g 0 d.toArray:=by
  intro j hj;(have hj':j<off.length:=by simpa[xW] using hj);(have hjd:j<d.length:=by omega)
  have e:off[j]=(d[j]).val:=by
   have:(d.map jm)[j]'(by simpa using hjd)=off[j]:=by congr 1
   rw[←this];simp
  rw[Nat.zero_add]
  refine⟨(Py hg j).trans ((Gf ht j hj').trans ?_),qnv hg j⟩
  simp[hjd,qN,e]
 have qjp:CmpLays1 ah 91 #[.pointer (some ⟨bx,0,none⟩)] qN (qO z) g 0 d.toArray.size w:=by
  intro m os dk _ x y
  have e1:=Xq (m:=m) dk os gx lx;have e2:=Xq (m:=m) dk os gb lb;have e3:=Xq (m:=m) dk os gm lm;have hx:=hz x.val x.property;have hy:=hz y.val y.property
  refine q5n z x.val y.val x.property y.property hx.1 hy.1 _ ((fK e1).trans hb) ((fK e2).trans c1) (n:=n) (D:=D) ?_
  obtain⟨es,clock,h1,h2⟩:=hmap
  exact⟨es,clock,e3.trans h1,h2⟩
 have eg:∀args w,(callFunc 91 args).run ah w=.ok (.enter 91 args) w:=enters_of func91 kr rfl;have hS:=Any.slices_SortFunc_total q7a qN (fun _=>rfl) (qO z) (swo z) 91 #[.pointer (some ⟨bx,0,none⟩)] g 0 cap d.toArray w eg qjp hH hlt (by simp[xW];omega) (qi2 z);(have hsz:d.toArray.size=off.length:=by simpa using xW)
 rw[hsz] at hS
 refine Calls.mono hS ?_
 rintro e w' ⟨rfl,q,os,rfl⟩
 (have dB:(d.toArray.toList.mergeSort fun x y=>!(ltOf (qO z)) y x).map jm=js z off:=by rw[q66];simp[hd]);(have nV:(d.toArray.toList.mergeSort fun x y=>!(ltOf (qO z)) y x).length=off.length:=by simp[xW])
 generalize(d.toArray.toList.mergeSort fun x y=>!(ltOf (qO z)) y x)=ts at *
 (have hl2:(js z off).length=off.length:=by rw[←dB];simpa using nV)
 refine⟨rfl,⟨by simp,.inr ⟨g,cap,_,by rw[hl2],bZ _,q3s ts.toArray os hg,by omega,hcm,by unfold putCells;simp[hcs],?_⟩⟩,qy6 ts.toArray os⟩
 rw[Nat.mul_one,hl2,←nV,q4v cur ts om,dB]
end
end
section
open Go.ChangeShapes Go.WideShapes Go.ChangeAt Go.RowKit Go.Maps
abbrev kI(i:Int):Lit:=.int .i64 i
structure wD(D:mF Unit)(du:Int->Option Int):Prop where
 tidy:Tidy D
 has:∀i,Maps.has D (kI i)=(du i).isSome
 time:∀i,nC D i (dz du i)
theorem Ie{j:Int}(h:i≠j):kI i≠kI j:=fun e=>h (by cases e;rfl)
theorem Pv(i:Int):WideAt.IsKeyLit (kI i):=by simp[WideAt.IsKeyLit]
def lL(du:Int->Option Int)(i:Int):Int->Option Int:=fun j=>if j=i then none else du j
def jz(du:Int->Option Int)(i d:Int):Int->Option Int:=fun j=>if j=i then some d else du j
def q2f:wD (.map []) (fun _=>none):=⟨tidy_empty,fun i=>rfl,fun i=>rfl⟩
def wD.del(h:wD D du)(i:Int):wD (D.del (kI i)) (lL du i):=by
 refine⟨h.tidy.del _,fun j=>?_,fun j=>?_⟩
 .by_cases e:j=i
  .subst e;rw[has_del_same];simp[lL]
  .rw[has_del_other (Ie e),h.has];simp[lL,e]
 .unfold nC
  by_cases e:j=i
  .subst e
   rw[atKey_del_same];simp[dz,lL]
  .have:=h.time j
   unfold nC at this
   rw[atKey_del_other (Ie e),this];simp[dz,lL,e]
def wD.put(h:wD D du)(i d:Int):wD (D.put (kI i) (.lit (.int .i64 d))) (jz du i d):=by
 refine⟨h.tidy.put (Pv i) _,fun j=>?_,fun j=>?_⟩
 .by_cases e:j=i
  .subst e;rw[has_put_same h.tidy.isMap (Pv _)];simp[jz]
  .rw[has_put_other (Ie e),h.has];simp[jz,e]
 .unfold nC
  by_cases e:j=i
  .subst e
   rw[atKey_put_same h.tidy.isMap (Pv _)];simp[dz,jz]
  .have:=h.time j
   unfold nC at this
   rw[atKey_put_other (Ie e),this];simp[dz,jz,e]
def qP(D:mF Unit)(l:List Int):mF Unit:=l.foldl (fun D i=>D.del (kI i)) D
def IL(du:Int->Option Int)(l:List Int):Int->Option Int:=fun j=>if j∈l then none else du j
def qzp(l:List Int)(h:wD D du):wD (qP D l) (IL du l):=by
 induction l generalizing D du with
 | nil=>
  (have e:IL du []=du:=by funext j;simp[IL])
  rw[e];exact h
 | cons i r ih=>
  have:=ih (h.del i)
  have e:IL (lL du i) r=IL du (i::r):=by
   funext j
   simp only[IL,lL,List.mem_cons]
   by_cases e1:j=i<;>by_cases e2:j∈r<;>simp[e1,e2]
  rw[←e]
  exact this
def q3h(l:List Int)(h:wD D du)(hn:l.Nodup)(hl:∀i∈l,(du i).isSome=true):cZ (qP D l)+l.length=cZ D:=by
 induction l generalizing D du with
 | nil=>rfl
 | cons i r ih=>
  have Gw:=List.nodup_cons.1 hn
  have h1:=ih (h.del i) Gw.2 (fun j hj=>by
   have:j≠i:=fun e=>Gw.1 (e▸hj)
   simp only[lL,aT this];exact hl j (by simp[hj]))
  have h2:=size_del (k:=kI i) h.tidy
  rw[h.has,hl i zm] at h2
  simp only[if_true] at h2
  show cZ (qP (D.del (kI i)) r)+(r.length+1)=_
  omega
def wD.says(h:wD D du)(hz:∀i,0<=dz du i/\dz du i<=1099511627776):uy D (dz du):=fun i _=>⟨h.time i,hz i⟩
def qjA(h:j1 w b n D):j1 w b (Maps.size D) D:=by
 obtain⟨es,clock,h1,h2,h3,h4⟩:=h
 refine⟨es,clock,h1,h2,?_,h4⟩
 rw[h4]
 show es.size<=List.length _
 rw[length_sorted]
 simp
def WM.B8(h:WM w b t cs o now (some bm) D vs L)(hg:w.grownBy w' (some bm))(hn:n<=1000000)(hm:j1 w' bm n D'):WM w' b t cs o now (some bm) D' vs L:=by
 obtain⟨k,_,UA⟩:=h.lK
 have hne:=UA.pS h.row
 refine⟨ql7 h.row hg (fun e=>hne (by cases e;rfl)),h.size,h.c0,h.c1,h.cl,fun j hj=>?_,h.nil,h.apart,h.mM,.inr ⟨bm,n,rfl,hn,hm⟩⟩
 exact(h.own j hj).ib (F:=fun c=>c=bm) (Gr.ep hg (fun c hc=>by cases hc;rfl)) (fun c hc e=>(h.own j hj).qb UA (by rw[hc,e]))
def j9(w:af)(b:Nat)(t:bt)(cs:Array ag)(o:Nat)(now:Int)(du:Int->Option Int)(cnt:Nat)(F:Nat->Prop):Prop:=
 ∃mb D vs L,WM w b t cs o now mb D vs L/\wD D du/\yX now du L/\(∀i d,du i=some d->(bR .i64 i).wf=true)/\oX 448 L=cnt/\cZ D=cnt/\cnt<=400/\(∀c,Fp b mb vs c->F c)
theorem qor(h:yX now du L)(m:Nat)(hm:448<=m):L m=[]:=by
 rcases hl:L m with _|⟨i,r⟩
 .rfl
 .exfalso
  obtain⟨d,h1,h2⟩:=(h.mem m i).1 (by rw[hl];simp);have h3:=h.due i d h1
  grind [Xf]
theorem q6q(h:yX now du L)(hw:∀i d,du i=some d->(Lit.int .i64 i).wf=true)(k:Nat)(i:Int)(hi:i∈L k):(Lit.int .i64 i).wf=true:=by
 obtain⟨d,h1,_⟩:=(h.mem k i).1 hi
 grind
theorem q0b(h:yX now du L)(hd:∀i,du i=none)(k:Nat):L k=[]:=by
 rcases hl:L k with _|⟨i,r⟩
 .rfl
 .exfalso
  obtain⟨d,h1,h2⟩:=(h.mem k i).1 (by rw[hl];simp)
  grind
def qwx(h:wD (.map []) du)(i:Int):du i=none:=by
 have:=h.has i
 rcases hd:du i with _|d
 .rfl
 .rw[hd] at this;simp[Maps.has] at this
theorem q0q{t:Int}(h:∀i,i∈l↔∃d,du i=some d/\d<=t):IL du l=Cl t du:=by grind [IL,Cl]
theorem qzx(n:Int)(w:af):az ah 88 #[I Z n] w fun e w'=>e=.returned (.bool (decide (0<=n)&&decide (n<=1099511627776)))/\w'=w:=by
 by_cases h0:0<=n
 .by_cases h1:n<=1099511627776
  .go_enter func88,ntmps88
   go_wp2
   go_ret
   exact⟨by simp[h0,h1],rfl⟩
  .go_enter func88,ntmps88
   go_wp2
   go_ret
   exact⟨by simp[h0,h1],rfl⟩
 .go_enter func88,ntmps88
  go_wp2
  go_ret
  exact⟨by rw[show decide (0<=n)=false by simpa using h0];rfl,rfl⟩
theorem qrq(n:Int)(w:af)(h:0<=n/\n<=1099511627776):az ah 88 #[I Z n] w fun e w'=>e=.returned (.bool true)/\w'=w:=by grind [qzx]
def q4a(p:Option Addr)(c:Nat)(fv:ag)(w:af):az ah 90 #[.slice p 0 c,fv] w fun e w'=>e=.returned (.tuple #[])/\w'=w:=
 AnyF.slices_SortFunc_none (P:=ah) (ρ:=qs1) { q7a with } p c fv w
theorem q42{off:List Int}(h:gT w v off)(hm:off.length<=1000000000)(tL:∀i∈off,(bR .i64 i).wf=true)(z:Int->Int){bx:Nat}(hz:uy D z)(hb:w.cell? ⟨bx,0,none⟩=some (.pointer (some ⟨b,o,none⟩)))(hmap:off≠[]->∃bm n,w.cell? ⟨b,o+1,none⟩=some (.map (some bm))/\j1 w bm n D)(nx:v.ownBlock≠some bx)(nb:v.ownBlock≠some b):
  az ah 90 #[v,.func (.func 91) #[] #[.pointer (some ⟨bx,0,none⟩)]] w fun e w'=>e=.returned (.tuple #[])/\gT w' v (js z off)/\w.grownBy w' v.ownBlock:=by
 by_cases hl:off=[]
 .subst hl
  have pd:∃a c,v=.slice a 0 c:=by
   rcases h.2 with⟨e,_⟩|⟨g,cap,cur,e,_⟩
   .grind
   grind
  obtain⟨a,c,rfl⟩:=pd
  refine(q4a a c _ w).mono ?_
  rintro e w' ⟨rfl,rfl⟩
  (have hs:js z []=[]:=by simp[js]);rw[hs]
  exact⟨rfl,h,rfl,rfl,rfl,au _,fun _ _ _=>rfl⟩
 .obtain⟨bm,n,c1,xn⟩:=hmap hl
  haveI:Inhabited y6:=⟨wf0⟩
  grind [q6v,List.length_pos_iff]
def Ee(w0 W:af)(b:Nat)(t:bt)(cs:Array ag)(o:Nat)(now:Int)(mb:Option Nat)(D:mF Unit)(vs:Nat->ag)(L:Nat->List Int)(bx:Nat)(v:ag)(l:List Int):Prop:=
 WM W b t cs o now mb D vs L/\gT W v l/\W.cell? ⟨bx,0,none⟩=some (.pointer (some ⟨b,o,none⟩))/\Gr (fun c=>mb=some c) w0 W
theorem Ee.step{w0 W:af}{bx:Nat}(h:Ee w0 W b t cs o now (some bm) D vs L bx v l)(hn:n<=1000000)(hm:j1 w' bm n D')(ht:W.mapTurned w' bm):Ee w0 w' b t cs o now (some bm) D' vs L bx v l:=by
 obtain⟨hw,ho,hb,hg⟩:=h
 obtain⟨k,_,UA⟩:=hw.lK
 have hgr:=ht.grown;have g1:Gr (fun c=>some bm=some c) W w':=Gr.ep hgr (fun c hc=>hc)
 refine⟨hw.B8 hgr hn hm,ho.ib g1 (fun c hc e=>ho.qb UA (by rw[hc,←e])),?_,hg.trans g1 (fun x hx=>.inl hx)⟩
 have hlt:=dP W _ hb
 have hne:bx≠bm:=by
  rintro rfl
  obtain⟨es,clock,h1,_⟩:=UA
  simp[World.cell?,h1] at hb
 rw[←hb]
 exact fK (hgr.block bx hlt (by simpa using hne))
theorem Gg(h:gT w v l):∃a c,v=.slice a l.length c:=by
 rcases h.2 with⟨e,n0⟩|⟨g,cap,cur,e,_⟩
 .grind
 grind
def q38(D:mF Unit)(l:List Int)(j:Nat)(hj:j<l.length):qP D (l.take (j+1))=(qP D (l.take j)).del (kI l[j]):=qta (fun D i=>DataW.del D (kI i)) D l j hj
theorem q46{mb:Option Nat}{TF:(Nat->List Int)×List Int}{ov:ag}(h:GA w1 w2 b t cs o now mb D vs T TF ov)(z:Int->Int)(hz:uy D z)(hT:T<=1000000)(tW:mb=none->TF.2=[])(tL:∀i∈TF.2,(bR .i64 i).wf=true){bx:Nat}(Mn:w1.cell? ⟨bx,0,none⟩=some (.pointer (some ⟨b,o,none⟩)))(hnf:¬Fp b mb vs bx):
  az ah 90 #[ov,.func (.func 91) #[] #[.pointer (some ⟨bx,0,none⟩)]] w2 fun e w3=>e=.returned (.tuple #[])/\∃tH uP,Ee w3 w3 b t tH o now mb D uP TF.1 bx ov (js z TF.2)/\lV o cs tH/\Gr (Fp b mb vs) w1 w3/\(∀c,Fp b mb uP c->Fp b mb vs c\/w1.heap.size<=c)/\IH ov (Fp b mb uP)/\(∀c,ov.ownBlock=some c->w1.heap.size<=c):=by
 obtain⟨tH,uP,hm,tu,hgr,EX,iA,mR,wJ⟩:=h;have hbl:=dP w1 _ Mn;have hb2:w2.cell? ⟨bx,0,none⟩=some (.pointer (some ⟨b,o,none⟩)):=(fK (hgr.block bx hbl hnf)).trans Mn;(have nx:ov.ownBlock≠some bx:=fun e=>by have:=iA bx e;simp only at hbl;omega);(have nb:ov.ownBlock≠some b:=fun e=>hm.out b e (.inl rfl));have hof:=mR.off
 refine(q42 hm.own om tL z hz hb2 (fun hne=>?_) nx nb).mono ?_
 .rcases hm.wm.map with⟨h1,_⟩|⟨bm,n,h1,_,h3⟩
  .grind
  .refine⟨bm,n,?_,h3⟩
   rw[←h1]
   exact(hm.wm.cell _).trans hm.wm.c1
 .rintro e w3 ⟨rfl,ho3,hg3⟩;have g3:Gr (fun c=>ov.ownBlock=some c) w2 w3:=Gr.ep hg3 (fun c hc=>hc)
  refine⟨rfl,tH,uP,⟨hm.wm.keep g3 (fun c hc hd=>hm.out c hd hc),ho3,?_,Gr.refl _ _⟩,tu,hgr.trans g3 (fun x hx=>.inr (iA x hx)),EX,hm.out,iA⟩
  have hl2:=dP w2 _ hb2;rw[←hb2]
  exact fK (g3.block bx hl2 nx)
def qxb{mb:Option Nat}(h:WM w b t cs o (A:Int) mb D vs L)(z:Int->Int)(hz:uy D z)(hzz:∀i,0<=z i/\z i<=1099511627776)(hA:A<=tn)(Ed:tn<=1099511627776)(hT:T<=1000000)(mR:uz T (L,[]))(wJ:mb=none->∀k,L k=[])(hTL:(qL (A:Int) (tn:Int) z L).2.length<=1000000)(tW:mb=none->(qL (A:Int) (tn:Int) z L).2=[])(tL:∀i∈(qL (A:Int) (tn:Int) z L).2,(bR .i64 i).wf=true):
  az ah 41 #[.pointer (some ⟨b,o,none⟩),.int .i64 (tn:Int)] w fun e w'=>∃v,e=.returned (.tuple #[v,.int .i64 0])/\∃cs' kT,WM w' b t cs' o (tn:Int) mb (qP D (js z (qL (A:Int) (tn:Int) z L).2)) kT (qL (A:Int) (tn:Int) z L).1/\gT w' v (js z (qL (A:Int) (tn:Int) z L).2)/\IH v (Fp b mb kT)/\lV o cs cs'/\Gr (Fp b mb vs) w w'/\(∀c,Fp b mb kT c->Fp b mb vs c\/w.heap.size<=c)/\(∀c,v.ownBlock=some c->w.heap.size<=c):=by
 (have N0:¬(tn:Int)<(A:Int):=by omega);have c0:=Xp ((h.cell o).trans h.c0) (.cells #[.pointer (some ⟨b,o,none⟩)] 114);have CT:=q2w (h.alloc (.cells #[.pointer (some ⟨b,o,none⟩)] 114)) z hz hzz hA Ed hT mR wJ;have bx0:(w.alloc (.cells #[.pointer (some ⟨b,o,none⟩)] 114)).cell? ⟨w.heap.size,0,none⟩=some (.pointer (some ⟨b,o,none⟩)):=en w #[.pointer (some ⟨b,o,none⟩)] 114 (0,0) 0;(have CI:=fun w=>qrq (tn:Int) w om);(have k7:∀c,Fp b mb vs c->c<w.heap.size:=fun c hc=>NX.II h hc);(have hws:(w.alloc (.cells #[.pointer (some ⟨b,o,none⟩)] 114)).heap.size=w.heap.size+1:=by simp)
 generalize qL (A:Int) (tn:Int) z L=TF at *
 (have hlen:(js z TF.2).length=TF.2.length:=by simp[js]);(have qjB:∀i∈js z TF.2,(bR .i64 i).wf=true:=fun i hi=>tL i (by simpa[js] using hi));(have qjC:aK ((js z TF.2).length<=1000000):=by rw[hlen];exact hTL);clear h mR hTL hlen
 generalize my:w.alloc (.cells #[.pointer (some ⟨b,o,none⟩)] 114)=w1 at *
 (have HB1:aK (Below w.heap.size w w1):=by rw[←my];exact(Below.refl _ _).alloc (au _) _);have HTL:aK ((js z TF.2).length<=1000000):=qjC;have ED:aK (w1.heap.size=w.heap.size+1):=hws;(have HNF:aK (¬Fp b mb vs w.heap.size):=fun hf=>by have:=k7 _ hf;omega);clear hws
 go_enter func41,ntmps41
 go_wp2_with (first|(go_at_call 88;refine(CI _).mono ?_;refine gy ?_)|(go_at_call 89;refine CT.mono ?_;rintro e w2 ⟨ov,rfl,hTR⟩)|(go_at_call 90;have CS:=q46 hTR z hz hT tW tL bx0 HNF.out;go_fit CS;rintro e w3 ⟨rfl,tH,uP,GG,wC,yZ,y4,Ir,GC⟩;clear CS hTR;obtain⟨al,kp,hal⟩:=Gg GG.2.1;subst hal))
 obtain⟨N,hN⟩:∃N,N=(js z TF.2).length:=⟨_,rfl⟩
 rw[←hN] at GG Ir GC ⊢
 have HN:aK (N=(js z TF.2).length):=hN;(have hNb:N<=1000000:=by have:=HTL.out;omega);clear hN
 go_loopw [30] (fun i W=>∃j:Nat,j<=N/\i=.int .i64 (j:Int)/\Ee w3 W b t tH o (tn:Int) mb (qP D ((js z TF.2).take j)) uP TF.1 w.heap.size (.slice al N kp) (js z TF.2)) (fun i _=>N-(cY i).toNat)
 case atStart=>exact⟨0,bZ _,rfl,GG⟩
 case round=>
  clear GG
  obtain⟨j,hj,rfl,GG⟩:=hrel
  by_cases hlt:j<N
  ·(have iu:j<(js z TF.2).length:=by have:=HN.out;omega)
   obtain⟨bm,rfl⟩:∃bm,mb=some bm:=by
    rcases mb with _|bm
    .have h0:=tW rfl
     have:=HN.out
     rw[h0] at this
     simp[js] at this
     omega
    .exact⟨bm,rfl⟩
   (have kQ:(j:Int)<(N:Int):=by omega);have HM:=Hr hlt;obtain⟨ng,hown,Mn,hgd⟩:=id GG
   obtain⟨g,WH,cur,pd,hg,_,_,_,ht⟩:=hown.shape om
   obtain⟨rfl,_,rfl⟩:al=some ⟨g,0,none⟩/\N=(js z TF.2).length/\kp=WH:=by simpa using pd
   have TA:=(Py hg j).trans (Gf ht j iu);have hwx:=qjB _ (List.getElem_mem iu);have hkey:=keyOf_int_mk (P:=ah) (q:=.i64) (a:=(js z TF.2)[j]) underlying3 hwx;have hsn:=q38 D (js z TF.2) j iu;have M3:aK (qP D ((js z TF.2).take (j+1))=(qP D ((js z TF.2).take j)).del (kI (js z TF.2)[j])):=hsn;obtain⟨n,hn,hm⟩:=ng.lK;have c1:=(ng.cell (o+1)).trans ng.c1;have HJ:aK (j+1<=N):=qu om;have fU:=oQ (p:=j) om
   generalize(js z TF.2)[j]=x at *
   clear pd ht hsn hwx iu hj hlt ng hown hgd N0 hzz hA Ed hT k7 hNb
   go_wp2_with ((at_delete;refine wpList_delete_own _ rfl _ _ 56 3 rfl 3 oh underlying56 _ bm n _ rfl hm _ _ rfl hkey ?_;intro w4 hm4 ht4;simp only[Act.put,List.setIfInBounds_toArray,List.set_cons_succ,List.set_cons_zero]))
   go_roundw
   case rel=>
    refine⟨j+1,HJ.out,by go_num,?_⟩
    rw[M3.out]
    exact GG.step hn hm4 ht4
   case measure=>first|(rw[fU];exact HM.out)
  ·(have kQ:¬(j:Int)<(N:Int):=by omega)
   obtain rfl:j=N:=by omega
   have e:(js z TF.2).take j=js z TF.2:=List.take_of_length_le (by have:=HN.out;omega)
   rw[e] at GG
   clear e hj hlt
   go_wp2
   go_ret2
   obtain⟨ng,hown,Mn,hgd⟩:=GG;have hsz:=ED.out;have hb1:=HB1.out
   refine⟨_,rfl,tH,uP,ng,hown,Ir,wC,?_,fun c hc=>?_,fun c hc=>?_⟩
   .exact((Gr.cU hb1).trans yZ (fun x hx=>.inl hx)).trans hgd (fun x hx=>(y4 x (.inr (.inl hx))).imp id (fun h=>by omega))
   .exact(y4 c hc).imp id (fun h=>by omega)
   .have:=GC c hc;omega
def qu9(now:Int)(z:Int->Int)(hn:0<=now/\now<=1099511627776)(hz:∀i,0<=z i/\z i<=1099511627776)(ks:List Nat)(hk:∀k∈ks,k<448)(s:(Nat->List Int)×List Int)(h:uz T s):uz T (ks.foldl (iq now z) s):=by
 induction ks generalizing s with
 | nil=>exact h
 | cons k r ih=>exact ih (fun q hq=>hk q (by simp[hq])) _ (qyj now z hn hz s h k (hk k zm))
theorem q6o{a t:Nat}(z:Int->Int)(hat:a<=t)(ht:t<=1099511627776)(hz:∀i,0<=z i/\z i<=1099511627776)(L:Nat->List Int)(h:uz T (L,[])):uz T (qL (a:Int) (t:Int) z L):=by
 have h6:=Tp t a ht om;have hl:=Hz t (lv t a);have hle:dg a (lv t a)<=dg t (lv t a):=(Xh a t om om hat).1
 unfold qL
 simp only[Int.toNat_natCast]
 rw[qtu]
 refine qu9 _ z om hz _ (fun k hk=>?_) _ (qu9 _ z om hz _ (fun k hk=>?_) _ h)
 .obtain⟨q,rfl,h1,h2⟩:=EW.1 hk;omega
 .obtain⟨l,hl',hk'⟩:=List.mem_flatMap.1 hk
  obtain⟨q,rfl,h1,h2⟩:=EW.1 hk'
  grind
theorem qoo(z:Int->Int)(l:List Int)(i:Int):i∈js z l↔i∈l:=by unfold js;simp
def qpy(z:Int->Int)(l:List Int)(h:l.Nodup):(js z l).Nodup:=((List.mergeSort_perm l (tB z)).nodup_iff).2 h
theorem qo1(z:Int->Int)(l:List Int):(js z l).length=l.length:=by simp[js]
theorem qys{tn:Int}(h:j9 w b t cs o now du cnt F)(h1:now<=tn)(h2:tn<=1099511627776):
  az ah 41 #[V (some ⟨b,o,none⟩),I Z tn] w fun e w'=>∃v,e=.returned (.tuple #[v,I Z 0])/\∃off cs' F' cnt',off.Nodup/\(∀i,i∈off↔∃d,du i=some d/\d<=tn)/\gT w' v (js (dz du) off)/\IH v F'/\j9 w' b t cs' o tn (Cl tn du) cnt' F'/\lV o cs cs'/\Gr F w w'/\(∀c,F' c->F c\/w.heap.size<=c)/\(∀c,v.ownBlock=some c->w.heap.size<=c)/\cnt'+off.length=cnt:=by
 obtain⟨mb,D,vs,L,ng,na,hwt,tL,jd,hsize,pU,hF⟩:=h;have ht:=hwt.time
 obtain⟨A,rfl⟩:∃A:Nat,now=A:=⟨now.toNat,by omega⟩
 obtain⟨T,rfl⟩:∃T:Nat,tn=T:=⟨tn.toNat,by omega⟩
 have hz:=hwt.z;have UB:=na.says hz;(have mR:uz cnt (L,[]):=⟨by simpa using jd,fun m hm=>qor hwt m hm,fun k i hi=>q6q hwt tL k i hi⟩)
 have wJ:mb=none->∀i,du i=none:=fun e i=>by
  rcases ng.map with⟨_,hD⟩|⟨bm,n,e2,_⟩
  .rw[hD] at na;exact qwx na i
  grind
 obtain⟨g1,g2,g3⟩:=q4u hwt h1 h2;have Mh:=q6o (dz du) (by omega:A<=T) om hz L mR
 have tW:mb=none->(qL (A:Int) (T:Int) (dz du) L).2=[]:=fun e=>by
  rcases hl:(qL (A:Int) (T:Int) (dz du) L).2 with _|⟨i,r⟩
  .rfl
  .obtain⟨d,hd,_⟩:=(g3 i).1 (by rw[hl];simp)
   grind
 refine(qxb ng (dz du) UB hz om om om mR (fun e k=>q0b hwt (wJ e) k) (by have:=Mh.off;omega) tW (fun i hi=>by obtain⟨d,hd,_⟩:=(g3 i).1 hi;exact tL i d hd)).mono ?_
 rintro e w' ⟨v,rfl,cs',kT,hw',hown,hout,tu,hgr,EX,iA⟩
 have hsm:=qoo (dz du) (qL (A:Int) (T:Int) (dz du) L).2;have hrl:=qzp (js (dz du) (qL (A:Int) (T:Int) (dz du) L).2) na
 rw[q0q (t:=(T:Int)) (fun i=>(hsm i).trans (g3 i))] at hrl
 (have hsz:=q3h _ na (qpy (dz du) _ g2) (fun i hi=>by obtain⟨d,hd,_⟩:=(g3 i).1 ((hsm i).1 hi);rw[hd];rfl))
 rw[qo1] at hsz
 have hs2:=Mh.sum
 refine⟨v,rfl,_,cs',Fp b mb kT,cZ (qP D (js (dz du) (qL (A:Int) (T:Int) (dz du) L).2)),g2,g3,hown,hout,⟨mb,_,kT,_,hw',hrl,g1,fun i d hd=>tL i d (Xi.1 hd).1,by omega,rfl,by omega,fun c hc=>hc⟩,tu,hgr.mono hF,fun c hc=>(EX c hc).imp (hF c) id,iA,by omega⟩
theorem q36(l:List Int)(i:Int):l.eraseIdx (l.idxOf i)=l.erase i:=by
 induction l with
 | nil=>rfl
 | cons b r ih=>
  by_cases e:b=i
  .subst e;simp
  ·(have e':(b==i)=false:=by simpa using e)
   rw[List.idxOf_cons,e',List.erase_cons,aT (by simp[e'])]
   simp[ih]
theorem q06(h:yX now du L)(i:Int)(hi:du i=none)(h1:now<=d)(h2:d<=1099511627776):yX now (jz du i d) (dw L (pk now.toNat d.toNat) (L (pk now.toNat d.toNat)++[i])):=by
 (have hni:∀k,i ∉ L k:=fun k hk=>by obtain⟨e,he,_⟩:=(h.mem k i).1 hk;rw[hi] at he;cases he)
 refine⟨h.time,fun j e he=>?_,fun k=>?_,fun k j=>?_⟩
 .unfold jz at he
  split at he
  .grind
  .exact h.due j e he
 .unfold dw
  split
  .rw[List.nodup_append]
   exact⟨h.nodup _,by simp,fun x hx y hy e=>by have e2:y=i:=(by simpa using hy);rw[e,e2] at hx;exact hni _ hx⟩
  .exact h.nodup k
 .unfold dw jz
  by_cases ej:j=i
  .grind
  .simp only[aT ej]
   constructor
   .intro hm
    split at hm
    .rename_i e
     rcases List.mem_append.1 hm with h3|h3
     .have:=(h.mem _ j).1 h3;rw[e];exact this
     grind
    .exact(h.mem k j).1 hm
   .intro hm
    have:=(h.mem k j).2 hm
    grind
theorem q2t(h:yX now du L)(i:Int)(hi:du i=some d):yX now (lL du i) (dw L (pk now.toNat d.toNat) ((L (pk now.toNat d.toNat)).eraseIdx ((L (pk now.toNat d.toNat)).idxOf i))):=by
 rw[q36]
 refine⟨h.time,fun j e he=>?_,fun k=>?_,fun k j=>?_⟩
 .unfold lL at he
  split at he
  .grind
  .exact h.due j e he
 .unfold dw
  split
  .exact(h.nodup _).erase _
  .exact h.nodup k
 .unfold dw lL
  by_cases ej:j=i
  .subst ej
   simp only[if_true]
   constructor
   .intro hm
    split at hm
    .exact absurd hm (by rw[(h.nodup _).mem_erase_iff];simp)
    .rename_i e
     obtain⟨e',he',hp⟩:=(h.mem k j).1 hm
     grind
   simp
  .simp only[aT ej]
   constructor
   .intro hm
    split at hm
    .rename_i e
     have:=(h.mem _ j).1 (List.mem_of_mem_erase hm)
     grind
    .exact(h.mem k j).1 hm
   .intro hm
    have:=(h.mem k j).2 hm
    grind
theorem q7w(x y:Int)(ts:Array bt)(ty:bt)(w:af):(Builtin.max_ ts ty #[I Z x,I Z y]).run ah w=.ok (I Z (max x y)) w:=by
 simp only[Builtin.max_,List.foldlM,Builtin.max2]
 by_cases h:x<y
 ·(have e:max x y=y:=by omega)
  simp[h,e]
 ·(have e:max x y=x:=by omega)
  simp[h,e]
def qnp{ops:Array Oper}{S:af->Prop}{o:Oper}(p q:Operand)(ts:Array bt)(ho:o.op=.call { callee:=.builtin .max,args:=#[p,q],argTypes:=ts })(hw:Region.wanted o (yielded ops a.tmps)=true)(x y:Int)(hx:a.eval p=I Z x)(hy:a.eval q=I Z y):YieldsIf ah ops S o (I Z (max x y)) a:=
 .inl ⟨hw,fun w _=>by
  unfold bG
  simp only[ho,resolve,invoke,builtin,Sem.run_bind,Sem.run_pure,Result.andThen_ok,List.map_toArray,List.map_cons,List.map_nil,hx,hy,q7w]⟩
def qd3{H:Type}{P:Program}(w:af){o:Oper}{K':Act->af->Prop}{Q:Exit->Act->af->Prop}(m x v:Operand)(t:bt)(hop:o.op=Op.mapUpdate t m x v)(k e:bt)(K:Keyed P k)(ht:P.underlying t=some (.map k e))(R:ag->Option (mF H×List MemPlace))(b n:Nat)(D:mF H)(hm:a.eval m=.map (some b))(hown:w.ownsMap P k R b n D)(hn:n<maxLen)(key val:ag)(kl:Lit)(hx:a.eval x=key)(hv:a.eval v=val)(hkey:keyOf P k key=some kl)(d:mF H)(ps:List MemPlace)(hval:R val=some (d,ps))(hK:∀w',w'.ownsMap P k R b (n+1) (D.put kl d)->w.grownBy w' (some b)->K' (a.put o.dst undef) w'):o.wp P a w K' Q:=by
 obtain⟨w',hrun,r1,r2⟩:=hown.update K ht hn hkey hval
 unfold Oper.wp
 simp[bG,hop,hm,hx,hv,hrun,Result.andThen]
 exact hK w' r1 r2
def WM.N1(h:WM w b t cs o now none D vs L):
  WM ((w.alloc (.map #[] 0)).setCell ⟨b,o+1,none⟩ (.map (some w.heap.size))) b t (cs.setIfInBounds (o+1) (.map (some w.heap.size))) o now (some w.heap.size) D vs L/\lV o cs (cs.setIfInBounds (o+1) (.map (some w.heap.size)))/\Gr (Fp b none vs) w ((w.alloc (.map #[] 0)).setCell ⟨b,o+1,none⟩ (.map (some w.heap.size)))/\∀c,Fp b (some w.heap.size) vs c->Fp b none vs c\/w.heap.size<=c:=by
 have hsz:=h.size;have hlt:=h.lt;have ha:=h.alloc (.map #[] 0);have hg1:Gr (fun c=>c=b) (w.alloc (.map #[] 0)) ((w.alloc (.map #[] 0)).setCell ⟨b,o+1,none⟩ (.map (some w.heap.size))):=Gr.setCell _ b _ _ rfl;have hg2:Gr (fun c=>c=b) w ((w.alloc (.map #[] 0)).setCell ⟨b,o+1,none⟩ (.map (some w.heap.size))):=(Gr.cU (F:=fun c=>c=b) ((Below.refl _ _).alloc (au _) _)).trans hg1 (fun x hx=>.inl hx);(have hD:D=.map []:=by rcases h.map with⟨_,hD⟩|⟨_,_,e,_⟩;exact hD;cases e)
 refine⟨⟨heap_setCell_same _ b _ _ t _ ha.row,by simpa using hsz,?_,?_,fun j hj=>?_,fun j hj=>?_,h.nil,h.apart,h.mM,?_⟩,lV.set o _ cs _ om om,hg2.mono (fun x hx=>.inl hx),fun c hc=>?_⟩
 .refine Pt ?_;exact h.c0
 .rw[Array.getElem?_setIfInBounds_self_of_lt om]
 .refine Pt ?_;exact h.cl j hj
 .exact(h.own j hj).ib hg2 (fun c hc e=>h.mM j hj (by rw[hc,e]))
 .refine .inr ⟨w.heap.size,0,rfl,by omega,?_⟩
  rw[hD]
  exact(World.ownsMap_made (H:=Unit) w ah 3 (plainElem ah 3)).setCell (by simp only;omega) _
 .rcases hc with rfl|hc|hc
  .exact .inl (.inl rfl)
  .cases hc;exact .inr (au _)
  .exact .inl (.inr (.inr hc))
def vS(w w1:af)(b:Nat)(t:bt)(cs:Array ag)(o:Nat)(now:Nat)(du:Int->Option Int)(sX:Nat)(F:Nat->Prop)(i:Int)(cs1:Array ag)(bm:Nat)(D:mF Unit)(ql:Nat->ag)(L1:Nat->List Int):Prop:=
 WM w1 b t cs1 o (now:Int) (some bm) D ql L1/\wD D du/\yX (now:Int) (lL du i) L1/\oX 448 L1=sX/\lV o cs cs1/\Gr F w w1/\(∀c,Fp b (some bm) ql c->F c\/w.heap.size<=c)
theorem q5c(du:Int->Option Int)(i d:Int):jz (lL du i) i d=jz du i d:=by grind [jz,lL]
theorem vS.fin{w3:af}{now:Nat}(h:vS w w1 b t cs o now du sX F i cs1 bm D ql L1)(d:Nat)(hd:now<=d/\d<=1099511627776)(hi:(bR .i64 i).wf=true)(tL:∀i d,du i=some d->(bR .i64 i).wf=true)(hc:sX<400)(hsz:cZ (D.put (kI i) (.lit (.int .i64 (d:Int))))=sX+1)(hg2:w1.grownBy w2 (some bm)){PU:Array ag}{N3:Nat->ag}(hw3:WM w3 b t PU o (now:Int) (some bm) (D.put (kI i) (.lit (.int .i64 (d:Int)))) N3 (dw L1 (pk now d) (L1 (pk now d)++[i])))(tu:lV o cs1 PU)(hg3:Gr (Fp b (some bm) ql) w2 w3)(hf3:∀c,Fp b (some bm) N3 c->Fp b (some bm) ql c\/w2.heap.size<=c):
  ∃cs' F',j9 w3 b t cs' o (now:Int) (jz du i (d:Int)) (sX+1) F'/\lV o cs cs'/\Gr F w w3/\(∀c,F' c->F c\/w.heap.size<=c):=by
 obtain⟨ng,na,hwt,jd,nz,hg1,uA⟩:=h;(have hwp:=q06 hwt i (by simp[lL]) om (by omega:(d:Int)<=1099511627776))
 rw[q5c] at hwp
 have hp:pk now d<448:=Xf now d om hd.2;have hss:=Xo 448 (pk now d) L1 (L1 (pk now d)++[i]) hp
 simp only[aY,bU,lZ] at hss
 have qkD:=hg2.size;have my:=hg1.size;have g2:Gr (fun c=>c=bm) w1 w2:=Gr.ep hg2 (fun c hc=>by cases hc;rfl)
 refine⟨PU,Fp b (some bm) N3,⟨some bm,_,N3,_,hw3,na.put i d,hwp,fun j e he=>?_,by omega,hsz,by omega,fun c hc=>hc⟩,nz.trans tu,?_,fun c hc=>?_⟩
 .grind [jz]
 .refine(hg1.trans g2 (fun x hx=>?_)).trans hg3 (fun x hx=>uA x hx)
  rw[hx];exact uA bm (.inr (.inl rfl))
 grind
theorem UC{now:Nat}(h:vS w w1 b t cs o now du sX F i cs1 bm D ql L1)(hc:sX<400)(hs:cZ D<=sX+1):
  (∃n,j1 w1 bm n D)/\j1 w1 bm (cZ D) D/\cZ D<=400/\(∀m,(L1 m).length<=1000000000):=by
 obtain⟨ng,na,hwt,jd,nz,hg1,uA⟩:=h
 obtain⟨n,_,hm⟩:=ng.lK
 refine⟨⟨n,hm⟩,qjA hm,by omega,fun m=>?_⟩
 by_cases hm:m<448
 .have:=qr8 448 m L1 hm;omega
 grind [qor]
def q90{Ef:Int}(h:j9 w b t cs o Ef du cnt F)(i due:Int)(hi:(bR .i64 i).wf=true)(h0:0<=due)(h1:due<=1099511627776)(hroom:du i=none->cnt<400):
  az ah 131 #[.pointer (some ⟨b,o,none⟩),.int .i64 i,.int .i64 due] w fun e w'=>e=.returned (.int .i64 0)/\∃cs' F',j9 w' b t cs' o Ef (jz du i (max due Ef)) (if (du i).isSome then cnt else cnt+1) F'/\lV o cs cs'/\Gr F w w'/\(∀c,F' c->F c\/w.heap.size<=c):=by
 obtain⟨mb,D,vs,L,hW0,na,hwt,tL,jd,hsize,pU,hF⟩:=h;have Tx:=hwt.time
 obtain⟨now,rfl⟩:∃now:Nat,Ef=now:=⟨Ef.toNat,by omega⟩
 (have hn:now<=1099511627776:=by omega);have hkey:=keyOf_int_mk (P:=ah) (q:=.i64) (a:=i) underlying3 hi;(have CI:=fun w=>qrq due w om)
 obtain⟨d,hd⟩:∃d:Nat,max due (now:Int)=d:=⟨(max due (now:Int)).toNat,by omega⟩
 have HD:aK (now<=d/\d<=1099511627776):=qu om;have NI:aK (max due (now:Int)=(d:Int)):=hd;have ng:(bR .i64 (max due (now:Int))).wf=true:=WalkArith.wf_i64 om
 have HAT:aK (nC (D.put (kI i) (.lit (.int .i64 (d:Int)))) i (d:Int)):=by
  have:=(na.put i d).time i
  exact qu (by simpa[dz,jz] using this)
 have HSP:aK (cZ (D.put (kI i) (.lit (.int .i64 (d:Int))))=if Maps.has D (kI i) then cZ D else cZ D+1):=size_put na.tidy _;rw[hd];clear hd
 rcases GH:du i with _|e0
 ·(have Eg:Maps.has D (kI i)=false:=by rw[na.has,GH];rfl);(have ED:aK (cZ (D.put (kI i) (.lit (.int .i64 (d:Int))))=cnt+1):=by have:=HSP.out;rw[Eg] at this;rw[this,hsize];rfl);have hlt:=hroom GH;(have hwd:lL du i=du:=by funext j;unfold lL;split;(rename_i ej;rw[ej,GH]);rfl)
  rcases mb with _|bm
  .obtain⟨hW,nz,hg1,uA⟩:=hW0.N1;(have HR:aK (vS w _ b t cs o now du cnt F i _ w.heap.size D vs L):=⟨hW,na,by rw[hwd];exact hwt,jd,nz,hg1.mono hF,fun c hc=>(uA c hc).imp (hF c) id⟩)
   obtain⟨_,Pd,zK,jP⟩:=UC HR.out hlt om
   have HC:aK (cZ D<=400):=zK;have IM:aK (cnt<400):=hlt;have Nk:aK (∀m,(L m).length<=1000000000):=jP;have Hw:=look_nil (w:=w) true oh underlying56 (Nh _) hkey;have hlen:=len_nil (P:=ah) (w:=w) underlying56 3;have uV:=@run_makeMap ah;(have MO:∀w:af,(binOp .eql 56 (.map none) (.map none)).run ah w=.ok (.bool true) w:=fun _=>by kernel_rfl);have k1:w.cell? ⟨b,o+1,none⟩=some (.map none):=(hW0.cell _).trans hW0.c1;have k1':(w.alloc (.map #[] 0)).cell? ⟨b,o+1,none⟩=some (.map none):=Xp k1 _;have k2':(w.alloc (.map #[] 0)).frozen? ⟨b,o+1,none⟩=false:=(hW0.alloc (.map #[] 0)).free _;have c0:=(hW.cell o).trans hW.c0;have c1:=(hW.cell (o+1)).trans hW.c1;clear hW0 hwt Tx jd hsize pU hF hlt jP zK nz hg1 uA na hroom h0 h1
   generalize Fb:w.heap.size=bm at *
   go_enter func131,ntmps131
   go_wp2_with (first|(at_lookup;refine m2c ?_;intro cv)|(go_at_call 88;refine(CI _).mono ?_;refine gy ?_)|(go_at_call 177;refine m46 ?_;intro w1 cs1 ql hW nz hg1 uA HR;obtain⟨_,Pd,zK,jP⟩:=UC HR.out IM.out EO.out;refine m3g ?_;intro HC Nk c0 c1;clear zK jP))
   refine RD (fun W=>W.cell? ⟨b,o,none⟩=some (.int .i64 (now:Int))/\W.cell? ⟨b,o+1,none⟩=some (.map (some bm))) ⟨c0,c1⟩ (fun _=>?_)
   refine m07 ?_
   refine AP (fun K hK=>?_) AZ
   refine m0y ?_;clear c0 c1;intro w2 xn hg2 hW2 c0 c1
   refine hK.out _ _ ⟨c0,c1⟩ (fun _=>?_)
   clear hK K;(try simp only[ZZ]);refine AN ?_
   rw[NI.out] at hW2 xn
   go_wp2_with ((go_at_call 178;refine m6h ?_;rintro e w3 ⟨rfl,PU,N3,hw3,Eh,hg3,hf3⟩))
   go_ret
   have q:=HR.out.fin d HD.out hi tL IM.out ED.out hg2 hw3 Eh hg3 hf3
   first|(rw[Fb] at q;exact⟨rfl,q⟩) 
  .have hW:=hW0;(have HR:aK (vS w w b t cs o now du cnt F i cs bm D vs L):=⟨hW,na,by rw[hwd];exact hwt,jd,lV.refl _ _,Gr.refl _ _,fun c hc=>.inl (hF c hc)⟩);obtain⟨⟨n,hm⟩,Pd,zK,jP⟩:=UC HR.out hlt om;have HC:aK (cZ D<=400):=zK;have IM:aK (cnt<400):=hlt;have Nk:aK (∀m,(L m).length<=1000000000):=jP;(have MO:∀w:af,(binOp .eql 56 (.map (some bm)) (.map none)).run ah w=.ok (.bool false) w:=fun _=>by kernel_rfl);(have fq:¬(400:Int)<=(cZ D:Int):=by omega);have hlen:=hm.len underlying56 3;have c0:=(hW.cell o).trans hW.c0;have c1:=(hW.cell (o+1)).trans hW.c1;clear hW0 hwt Tx jd hsize pU hF hlt jP zK na hroom h0 h1
   go_enter func131,ntmps131
   go_wp2_with (first|(at_lookup;refine m2c ?_;intro cv)|(go_at_call 88;refine(CI _).mono ?_;refine gy ?_)|(go_at_call 177;refine m46 ?_;intro w1 cs1 ql hW nz hg1 uA HR;obtain⟨_,Pd,zK,jP⟩:=UC HR.out IM.out EO.out;refine m3g ?_;intro HC Nk c0 c1;clear zK jP))
   refine RD (fun W=>W.cell? ⟨b,o,none⟩=some (.int .i64 (now:Int))/\W.cell? ⟨b,o+1,none⟩=some (.map (some bm))) ⟨c0,c1⟩ (fun _=>?_)
   refine m07 ?_
   refine AP (fun K hK=>?_) AZ
   refine m0y ?_;clear c0 c1;intro w2 xn hg2 hW2 c0 c1
   refine hK.out _ _ ⟨c0,c1⟩ (fun _=>?_)
   clear hK K;(try simp only[ZZ]);refine AN ?_
   rw[NI.out] at hW2 xn
   go_wp2_with ((go_at_call 178;refine m6h ?_;rintro e w3 ⟨rfl,PU,N3,hw3,Eh,hg3,hf3⟩))
   go_ret
   have q:=HR.out.fin d HD.out hi tL IM.out ED.out hg2 hw3 Eh hg3 hf3
   first|exact⟨rfl,q⟩ 
 ·(have Eg:Maps.has D (kI i)=true:=by rw[na.has,GH];rfl);obtain⟨he1,he2⟩:=hwt.due i e0 GH
  obtain⟨e,rfl⟩:∃e:Nat,e0=e:=⟨e0.toNat,by omega⟩
  (have kO:i∈L (pk now e):=(hwt.mem _ i).2 ⟨e,GH,by simp⟩);have Cb:pk now e<448:=Xf now e hn om;have hle:=qr8 448 _ L Cb;have hlp:=List.length_pos_of_mem kO
  rcases mb with _|bm
  .exfalso
   rcases hW0.map with⟨_,hD⟩|⟨_,_,e2,_⟩
   .rw[hD] at Eg;simp[Maps.has] at Eg
   .cases e2
  (have UD:nC D i (e:Int):=by have:=na.time i;unfold dz at this;rw[GH] at this;exact this);have CT:=qwr hW0 i e hi UD hn om kO om;have hse:=Xo 448 _ L ((L (pk now e)).eraseIdx ((L (pk now e)).idxOf i)) Cb
  rw[List.length_eraseIdx,aZ (List.idxOf_lt_length_of_mem kO)] at hse
  have hwd:=q2t hwt i GH
  simp only[Int.toNat_natCast] at hwd
  (have HRX:aK (∀w1 cs1 ql,WM w1 b t cs1 o (now:Int) (some bm) D ql (dw L (pk now e) ((L (pk now e)).eraseIdx ((L (pk now e)).idxOf i)))->lV o cs cs1->Gr (Fp b (some bm) vs) w w1->(∀c,Fp b (some bm) ql c->Fp b (some bm) vs c\/w.heap.size<=c)->vS w w1 b t cs o now du (cnt-1) F i cs1 bm D ql (dw L (pk now e) ((L (pk now e)).eraseIdx ((L (pk now e)).idxOf i)))):=qu fun w1 cs1 ql x1 x2 x3 x4=>⟨x1,na,hwd,by omega,x2,x3.mono hF,fun c hc=>(x4 c hc).imp (hF c) id⟩);(have ED:aK (cZ (D.put (kI i) (.lit (.int .i64 (d:Int))))=cnt-1+1):=by have:=HSP.out;rw[Eg] at this;exact qu (by rw[this,hsize];simp only[if_true];omega));have IM:aK (cnt-1<400):=qu om;have Io:aK (cnt-1+1=cnt):=qu om;have EO:aK (cZ D<=cnt-1+1):=qu om
  obtain⟨n,_,hm⟩:=hW0.lK
  (have MO:∀w:af,(binOp .eql 56 (.map (some bm)) (.map none)).run ah w=.ok (.bool false) w:=fun _=>by kernel_rfl);have k1:=(hW0.cell (o+1)).trans hW0.c1;clear hW0 hwt Tx jd hsize pU hF na hroom h0 h1 hwd hse hle hlp kO Cb he1 he2 GH UD
  generalize dw L (pk now e) ((L (pk now e)).eraseIdx ((L (pk now e)).idxOf i))=L1 at *
  go_enter func131,ntmps131
  go_wp2_with (first|(at_lookup;refine m2c ?_;intro cv)|(go_at_call 88;refine(CI _).mono ?_;refine gy ?_)|(go_at_call 177;refine m46 ?_;intro w1 cs1 ql hW nz hg1 uA HR;obtain⟨_,Pd,zK,jP⟩:=UC HR.out IM.out EO.out;refine m3g ?_;intro HC Nk c0 c1;clear zK jP))
  refine RD (fun W=>W.cell? ⟨b,o,none⟩=some (.int .i64 (now:Int))/\W.cell? ⟨b,o+1,none⟩=some (.map (some bm))) ⟨c0,c1⟩ (fun _=>?_)
  refine m07 ?_
  refine AP (fun K hK=>?_) AZ
  refine m0y ?_;clear c0 c1;intro w2 xn hg2 hW2 c0 c1
  refine hK.out _ _ ⟨c0,c1⟩ (fun _=>?_)
  clear hK K;(try simp only[ZZ]);refine AN ?_
  rw[NI.out] at hW2 xn
  go_wp2_with ((go_at_call 178;refine m6h ?_;rintro e w3 ⟨rfl,PU,N3,hw3,Eh,hg3,hf3⟩))
  go_ret
  have q:=HR.out.fin d HD.out hi tL IM.out ED.out hg2 hw3 Eh hg3 hf3
  first|(rw[Io.out] at q;exact⟨rfl,q⟩)
section
variable {w:World} {b o:Nat} {t:TypeId} {cs:Array Value} {now:Int} {du:Int->Option Int} {cnt:Nat} {F:Nat->Prop}
def j9.keep(h:j9 w b t cs o now du cnt F)(hg:Gr G w w')(hG:∀c,F c->¬G c):j9 w' b t cs o now du cnt F:=by
 obtain⟨mb,D,vs,L,hW,h2,h3,h4,h5,h6,h7,hF⟩:=h
 exact⟨mb,D,vs,L,hW.keep hg (fun c hc=>hG c (hF c hc)),h2,h3,h4,h5,h6,h7,hF⟩
def j9.below(h:j9 w b t cs o now du cnt F)(hb:Below w.heap.size w w'):j9 w' b t cs o now du cnt F:=h.keep (Gr.cU (F:=fun _=>False) hb) (fun _ _=>id)
theorem j9.mono(h:j9 w b t cs o now du cnt F)(hG:∀c,F c->G c):j9 w b t cs o now du cnt G:=by grind [j9]
def j9.time(h:j9 w b t cs o now du cnt F):0<=now/\now<=1099511627776:=by obtain⟨_,_,_,_,_,_,h3,_⟩:=h;exact h3.time
def j9.due(h:j9 w b t cs o now du cnt F)(hd:du i=some d):now<=d/\d<=1099511627776:=by obtain⟨_,_,_,_,_,_,h3,_⟩:=h;exact h3.due i d hd
theorem j9.wf(h:j9 w b t cs o now du cnt F)(hd:du i=some d):(bR .i64 i).wf=true:=by grind [j9]
theorem j9.many(h:j9 w b t cs o now du cnt F):cnt<=400:=by grind [j9]
def j9.row(h:j9 w b t cs o now du cnt F):w.heap[b]?=some (.cells cs t (0,0)):=by obtain⟨_,_,_,_,h1,_⟩:=h;exact h1.row
def j9.own(h:j9 w b t cs o now du cnt F):F b:=by obtain⟨_,_,_,_,_,_,_,_,_,_,_,hF⟩:=h;exact hF b (.inl rfl)
def q7r(h:j9 w b t cs o now du cnt F):Calls prog 27 #[V (some ⟨b,o,none⟩)] w fun e w'=>e=.returned (I Z now)/\w'=w:=by
 obtain⟨mb,D,vs,L,hW,_⟩:=h
 have c0:=(hW.cell o).trans hW.c0
 go_enter func27,ntmps27
 go_wp2
 go_ret
 exact⟨rfl,rfl⟩
end
end
end Go.Proofs.YtnkpgdejagglaaaGreatDoor
