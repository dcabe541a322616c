/-
  Of what a law stands on.
-/
import Derived.Shelf.SlSortCmp.NoneTotal
import Derived.Shelf.SlicesG.Cmp
import Derived.Test.YtonnjgmognbnbaaGreatDoorZtw1
set_option linter.unusedSimpArgs false
set_option linter.unusedVariables false
namespace Go.Proofs.YtonnjgmognbnbaaGreatDoor
open Go.Value renaming int → I,pointer → V
open Go.IntKind renaming i64 → Z
open _root_.Go.Proofs.Tryz
set_option maxHeartbeats 16000000
set_option maxRecDepth 100000
variable {A T b bm cnt cnt0 g m n o tn:Nat}{s:(Nat->List Int)×List Int}{w w' w1 w2:World}{t:TypeId}{cs cs1:Array Value}{d i now:Int}{D D':DataW Unit}{vs vs1:Nat->Value}{L L1:Nat->List Int}{p:Prop}{v:Value}{du:Int->Option Int}{l:List Int}{a:Act}{F G:Nat->Prop}
section
open Go.ChangeShapes Go.WideShapes Go.ChangeAt Go.RowKit Go.Maps
def sumR(n:Nat)(L:Nat->List Int):Nat:=((List.range n).map fun k=>(L k).length).sum
theorem qib(n:Nat)(L:Nat->List Int):sumR (n+1) L=sumR n L+(L n).length:=by simp[sumR,List.range_succ]
theorem q56(n k:Nat)(L:Nat->List Int)(l:List Int)(h:n<=k):sumR n (setL L k l)=sumR n L:=by
 induction n with
 | zero=>rfl
 | succ n ih=>rw[qib,qib,ih om];simp[setL,show n≠k by omega]
theorem qnh(n k:Nat)(L:Nat->List Int)(l:List Int)(h:k<n):sumR n (setL L k l)+(L k).length=sumR n L+l.length:=by
 induction n with
 | zero=>omega
 | succ n ih=>
  rw[qib,qib]
  by_cases e:k=n
  ·subst e;rw[q56 k k L l (Nat.le_refl _)];simp[setL];omega
  ·have:=ih om;simp[setL,show n≠k by omega];omega
theorem qr8(n k:Nat)(L:Nat->List Int)(h:k<n):(L k).length<=sumR n L:=by
 induction n with
 | zero=>omega
 | succ n ih=>
  rw[qib]
  by_cases e:k=n
  ·subst e;omega
  ·have:=ih om;omega
structure Tot(T:Nat)(s:(Nat->List Int)×List Int):Prop where
 sum:sumR 448 s.1+s.2.length=T
 beyond:∀m,448<=m->s.1 m=[]
 wf:∀k i,i∈s.1 k->(Lit.int .i64 i).wf=true
theorem Tot.le(h:Tot T s)(m:Nat):(s.1 m).length<=T:=by
 have:=h.sum
 by_cases hm:m<448
 ·have:=qr8 448 m s.1 hm;omega
 ·rw[h.beyond m om];simp
theorem Tot.off(h:Tot T s):s.2.length<=T:=by have:=h.sum;omega
theorem q2h(now:Int)(z:Int->Int)(hn:0<=now/\now<=1099511627776)(hz:∀i,0<=z i/\z i<=1099511627776)(l:List Int)(s:(Nat->List Int)×List Int)(h:Tot T s)(hl:∀i∈l,(Lit.int .i64 i).wf=true):Tot (T+l.length) (l.foldl (sprS now z) s):=by
 induction l generalizing s T with
 | nil=>exact h
 | cons i r ih=>
  (rw[List.foldl_cons,List.length_cons,show T+(r.length+1)=(T+1)+r.length by omega])
  apply ih
  ·unfold sprS
   by_cases hd:z i<=now
   ·rw[if_pos hd]
    exact⟨by have:=h.sum;simp;omega,h.beyond,h.wf⟩
   ·rw[if_neg hd];have hp:pk now.toNat (z i).toNat<448:=qug _ _ om (by have:=hz i;omega)
    refine⟨?_,fun m hm=>?_,fun k j hj=>?_⟩
    ·have:=qnh 448 _ s.1 (s.1 (pk now.toNat (z i).toNat)++[i]) hp
     have:=h.sum
     simp only[putF,List.length_append,List.length_cons,List.length_nil] at *
     omega
    ·simp only[putF,setL,if_neg (show m≠pk now.toNat (z i).toNat by omega)]
     exact h.beyond m hm
    ·simp only[putF,setL] at hj
     split at hj
     ·rcases List.mem_append.1 hj with h1|h1
      ·exact h.wf _ j h1
      ·have:j=i:=by simpa using h1
       subst this;exact hl j zm
     ·exact h.wf k j hj
  ·exact fun j hj=>hl j (by simp[hj])
theorem qyj(now:Int)(z:Int->Int)(hn:0<=now/\now<=1099511627776)(hz:∀i,0<=z i/\z i<=1099511627776)(s:(Nat->List Int)×List Int)(h:Tot T s)(k:Nat)(hk:k<448):Tot T (sprF now z s k):=by
 have hs:=qnh 448 k s.1 [] hk
 have h0:Tot (T-(s.1 k).length) (setL s.1 k [],s.2):=by
  refine⟨by have:=h.sum;simp at *;omega,fun m hm=>?_,fun j i hi=>?_⟩
  ·simp only[setL,if_neg (show m≠k by omega)];exact h.beyond m hm
  ·simp only[setL] at hi
   split at hi
   ·cases hi
   ·exact h.wf j i hi
 have h1:=q2h now z hn hz (s.1 k) _ h0 (fun i hi=>h.wf k i hi);(have e:T-(s.1 k).length+(s.1 k).length=T:=by have:=h.le k;omega)
 rw[e] at h1
 exact h1
theorem WM.setNow{mb:Option Nat}(h:WM w b t cs o now mb D vs L)(n:Int):
  WM (w.setCell ⟨b,o,none⟩ (I Z n)) b t (cs.setIfInBounds o (I Z n)) o n mb D vs L/\qb7 o cs (cs.setIfInBounds o (I Z n))/\Gr (Fp b mb vs) w (w.setCell ⟨b,o,none⟩ (I Z n)):=by
 have hsz:=h.size;have hg:Gr (fun c=>c=b) w (w.setCell ⟨b,o,none⟩ (I Z n)):=Gr.setCell w b o _ rfl
 refine⟨⟨heap_setCell_same w b _ _ t _ h.row,by simpa using hsz,?_,?_,fun j hj=>?_,fun j hj=>?_,h.nil,h.apart,h.notb,?_⟩,qb7.set o _ cs _ om om,hg.mono (fun x hx=>.inl hx)⟩
 ·rw[Array.getElem?_setIfInBounds_self_of_lt om]
 ·refine m7w ?_;exact h.c1
 ·refine m7w ?_;exact h.cl j hj
 ·exact(h.own j hj).keepGr hg (fun c hc e=>h.notb j hj (by rw[hc,e]))
 ·rcases h.map with h1|⟨bm,k,h1,h2,h3⟩
  ·exact .inl h1
  ·exact .inr ⟨bm,k,h1,h2,h3.setCell (h3.ne_row h.row) _⟩
def TuR(w W:World)(b:Nat)(t:TypeId)(cs:Array Value)(o:Nat)(now:Int)(mb:Option Nat)(D:DataW Unit)(vs:Nat->Value)(T:Nat)(s:(Nat->List Int)×List Int)(tv:Value):Prop:=
 ∃cs' vs',Mid W b t cs' o now mb D vs' s.1 tv s.2/\qb7 o cs cs'/\Gr (Fp b mb vs) w W/\(∀c,Fp b mb vs' c->Fp b mb vs c\/w.heap.size<=c)/\(∀c,tv.ownBlock=some c->w.heap.size<=c)/\Tot T s/\(mb=none->∀k,s.1 k=[])
theorem q6y(now:Int)(z:Int->Int)(s:(Nat->List Int)×List Int)(k:Nat)(h:∀k,s.1 k=[]):∀m,(sprF now z s k).1 m=[]:=by
 intro m
 unfold sprF
 rw[h k]
 simp only[List.foldl_nil,setL]
 split
 ·rfl
 ·exact h m
section
variable {w W:World} {b:Nat} {t:TypeId} {cs:Array Value} {o:Nat} {now:Nat} {mb:Option Nat} {D:DataW Unit} {vs:Nat->Value} {T:Nat} {s:(Nat->List Int)×List Int} {tv:Value}
theorem TuR.spread(h:TuR w W b t cs o (now:Int) mb D vs T s tv)(z:Int->Int)(hz:Says D z)(hzz:∀i,0<=z i/\z i<=1099511627776)(hn:now<=1099511627776)(hT:T<=1000000)(l a:Nat)(hl:l<7)(ha:a<64):
  Calls prog 173 #[V (some ⟨b,o,none⟩),I Z (l:Int),I Z (a:Int),tv] W fun e w'=>∃ov',e=.returned ov'/\TuR w w' b t cs o (now:Int) mb D vs T (sprF (now:Int) z s (64*l+a)) ov':=by
 obtain⟨cs',vs',hm,hso,hgr,hfp,htv,htot,hmb⟩:=h;(have hle:=fun m=>htot.le m);have hof:=htot.off
 refine(qzn hm z hz htot.wf hn l a hl ha (fun m=>by have:=hle m;have:=hle (64*l+a);omega) (by have:=hle (64*l+a);omega) hmb).mono ?_
 rintro e w' ⟨cs2,vs2,ov',rfl,hm2,hso2,hg2,hfp2,hov2⟩
 refine⟨ov',rfl,cs2,vs2,hm2,hso.trans hso2,hgr.trans hg2 (fun x hx=>?_),fun c hc=>?_,fun c hc=>?_,qyj _ z om hzz s htot _ om,fun h0=>q6y _ z s _ (hmb h0)⟩
 ·rcases hx with hx|hx
  ·exact hfp x hx
  ·exact .inr (htv x hx)
 ·rcases hfp2 c hc with h1|h1
  ·exact hfp c h1
  ·have:=hgr.size;exact .inr om
 ·rcases hov2 c hc with h1|h1
  ·exact htv c h1
  ·have:=hgr.size;omega
end
theorem hid(h:p):Hid p:=h
theorem qha{p:Nat}(h:p<n):Hid (n-((p:Int)+1).toNat<n-((p:Int)).toNat):=(by omega:n-((p:Int)+1).toNat<n-((p:Int)).toNat)
theorem qxu(d q:Nat):Hid (((d+q:Nat):Int)+1=((d+(q+1):Nat):Int)):=(by omega:((d+q:Nat):Int)+1=((d+(q+1):Nat):Int))
theorem qhl{p:Nat}(h:p<1000000000000):wrap64 ((p:Int)+1)=(p:Int)+1:=by unfold wrap64;omega
theorem q1k(l d i:Nat):rowP l d (i+1)=rowP l d i++[64*l+(d+i)]:=by unfold rowP;rw[List.range_succ,List.map_append];rfl
theorem qtf(now:Int)(z:Int->Int)(s:(Nat->List Int)×List Int)(l d i:Nat):(rowP l d (i+1)).foldl (sprF now z) s=sprF now z ((rowP l d i).foldl (sprF now z) s) (64*l+(d+i)):=by rw[q1k,List.foldl_append];rfl
theorem qsz(a:Nat)(now:Int)(z:Int->Int)(s:(Nat->List Int)×List Int)(l:Nat):(List.range (l+1)).foldl (levF a now z) s=levF a now z ((List.range l).foldl (levF a now z) s) l:=by rw[List.range_succ,List.foldl_append];rfl
theorem sZtw22(h:p:=by
 go_wp2_with (first|(go_at_call 173;go_fit CS;rintro e w2 ⟨ov2,rfl,hR2⟩))
 go_roundw
 case rel=>exact⟨q+1,HQ.out,congrArg (Value.int IntKind.i64) (by first|exact HE.out|exact hqw.trans HE.out),hR2⟩
 case measure=>first|exact HM2.out|(rw[hqw];exact HM2.out)):p:=h
theorem q2w{mb:Option Nat}(h:WM w b t cs o (A:Int) mb D vs L)(z:Int->Int)(hz:Says D z)(hzz:∀i,0<=z i/\z i<=1099511627776)(hA:A<=tn)(hto:tn<=1099511627776)(hT:T<=1000000)(htot:Tot T (L,[]))(hmb:mb=none->∀k,L k=[]):
  Calls prog 140 #[V (some ⟨b,o,none⟩),I Z (tn:Int)] w fun e w'=>∃ov,e=.returned ov/\TuR w w' b t cs o (tn:Int) mb D vs T (qex (A:Int) (tn:Int) z L) ov:=by
 have c0:=(h.cell o).trans h.c0;have f0:=h.free o;(have CP:=fun w h=>qoh b o A tn om hto w h);have htp:=qpa tn A hto om;have hl64:=qgt tn (lv tn A);have hturn:qex (A:Int) (tn:Int) z L=(rowP (lv tn A) (dg A (lv tn A)) (dg tn (lv tn A)+1-dg A (lv tn A))).foldl (sprF (tn:Int) z) ((List.range (lv tn A)).foldl (levF A (tn:Int) z) (L,[])):=rfl;rw[hturn];have hle:dg A (lv tn A)<=dg tn (lv tn A):=(qnt A tn om om hA).1;obtain⟨hw1,hso1,hg1⟩:=h.setNow (tn:Int)
 have h1:TuR w (w.setCell ⟨b,o,none⟩ (I Z (tn:Int))) b t cs o (tn:Int) mb D vs T (L,[]) (.slice none 0 0):=
  ⟨_,_,⟨hw1,World.ownsRow_nil _ _ _ _,fun c hc=>by simp[Value.ownBlock] at hc⟩,hso1,hg1,fun c hc=>.inl hc,fun c hc=>by simp[Value.ownBlock] at hc,htot,hmb⟩
 clear hw1 hso1 hg1 hturn h hmb htot
 generalize lv tn A=top at *
 generalize dg tn top=last at *
 (have DG:=fun l (hl:l<=6) w=>qsu A l om hl w);(have DGt:=fun w=>DG top htp w);have hd1:=qgt A top
 generalize dg A top=d1 at *
 go_enter func140,ntmps140
 go_wp2_with (first|(go_at_call 171;refine(CP _ c0).mono ?_;refine m04 ?_))
 go_loopw [8,27] (fun tv i W=>∃l:Nat,l<=top/\i=I Z (l:Int)/\TuR w W b t cs o (tn:Int) mb D vs T ((List.range l).foldl (levF A (tn:Int) z) (L,[])) tv) (fun _ i _=>top-(intOf i).toNat)
 case atStart=>exact⟨0,Nat.zero_le _,rfl,h1⟩
 case round=>
  clear h1 c0 f0
  obtain⟨l,hl,rfl,hR⟩:=hrel
  by_cases hlt:l<top
  ·(have hli:(l:Int)<(top:Int):=by omega);have hlw:=qhl (p:=l) om;(have DGl:=fun w=>DG l om w);have hd64:=qgt A l;have HM:=qha hlt;have hsn0:=qsz A (tn:Int) z (L,[]) l
   unfold levF at hsn0
   obtain⟨sl,hsl⟩:∃sl,sl=(List.range l).foldl (levF A (tn:Int) z) (L,[]):=⟨_,rfl⟩
   (have HSN:Hid ((List.range (l+1)).foldl (levF A (tn:Int) z) (L,[])=(rowP l (dg A l) (64-dg A l)).foldl (sprF (tn:Int) z) sl):=by show _=_;rw[hsl];exact qsz A (tn:Int) z (L,[]) l)
   rw[←hsl] at hR
   clear hsl hsn0
   generalize dg A l=d0 at *
   go_wp2_with (first|(go_at_call 172;refine(DGl _).mono ?_;refine m04 ?_))
   go_loopw [8,10] (fun tv i W=>∃q:Nat,q<=64-d0/\i=I Z ((d0+q:Nat):Int)/\TuR w W b t cs o (tn:Int) mb D vs T ((rowP l (d0) q).foldl (sprF (tn:Int) z) sl) tv) (fun _ i _=>64-(intOf i).toNat)
   case atStart=>exact⟨0,Nat.zero_le _,rfl,hR⟩
   case round=>
    clear hR
    obtain⟨q,hq,rfl,hR⟩:=hrel
    by_cases hqt:d0+q<64
    ·(have hqi:((d0+q:Nat):Int)<64:=by omega);have HM2:=qha hqt;have HQ:Hid (q+1<=64-d0):=hid om;have HE:=qxu (d0) q;have CS:=hR.spread z hz hzz hto hT l (d0+q) om hqt
     rw[←qtf] at CS
     have hqw:=qhl (p:=d0+q) om;clear hR
     generalize(d0+q)=p at *
     clear hlw hli hlt hl HM HSN DGl DG DGt hle hl64 hd1 htp hA hto hT hzz hz CP hd64 hq hqt
     exact sZtw22
    ·(have hqi:¬((d0+q:Nat):Int)<64:=by omega)
     obtain rfl:q=64-d0:=by omega
     rw[←HSN.out] at hR
     generalize((d0+(64 - d0):Nat):Int)=p at *
     have HL1:Hid (l+1<=top):=hid hlt;clear hli hlt hl HSN DGl DG DGt hle hl64 hd1 htp hA hto hT hzz hz CP hd64 hq hqt
     go_wp2
     go_roundw
     case rel=>exact⟨l+1,HL1.out,by go_num,hR⟩
     case measure=>first|exact HM.out|(rw[hlw];exact HM.out)
  ·(have hli:¬(l:Int)<(top:Int):=by omega)
   obtain rfl:l=top:=by omega
   go_wp2_with (first|(go_at_call 172;refine(DGt _).mono ?_;refine m04 ?_))
   go_loopw [8,11] (fun tv i W=>∃q:Nat,q<=last+1-d1/\i=I Z ((d1+q:Nat):Int)/\TuR w W b t cs o (tn:Int) mb D vs T ((rowP l (d1) q).foldl (sprF (tn:Int) z) ((List.range l).foldl (levF A (tn:Int) z) (L,[]))) tv) (fun _ i _=>last+1-(intOf i).toNat)
   case atStart=>exact⟨0,Nat.zero_le _,rfl,hR⟩
   case round=>
    clear hR
    obtain⟨q,hq,rfl,hR⟩:=hrel
    by_cases hqt:d1+q<=last
    ·(have hqi:((d1+q:Nat):Int)<=(last:Int):=by omega);have HM2:=qha (Nat.lt_succ_of_le hqt);have HQ:Hid (q+1<=last+1-d1):=hid om;have HE:=qxu (d1) q;have CS:=hR.spread z hz hzz hto hT l (d1+q) om om
     rw[←qtf] at CS
     have hqw:=qhl (p:=d1+q) om;clear hR
     generalize(d1+q)=p at *
     clear hli hl DG DGt hle hl64 hd1 htp hA hto hT hzz hz CP hq hqt
     exact sZtw22
    ·(have hqi:¬((d1+q:Nat):Int)<=(last:Int):=by omega)
     obtain rfl:q=last+1-d1:=by omega
     generalize((d1+(last+1 - d1):Nat):Int)=p at *
     clear hli hl DG DGt hle hl64 hd1 htp hA hto hT hzz hz CP hq hqt
     go_wp2
     go_ret
     exact⟨_,rfl,hR⟩
end
section
open Go.Shelf
def qs1:Go.Shelf.Ren:=⟨fun|6=>141|15=>175|14=>174|28=>199|29=>200|20=>191|21=>192|22=>193|23=>194|24=>195|25=>196|26=>197|27=>198|46=>209|47=>210|48=>211|49=>212|50=>213|57=>215|n=>n,fun|22=>86|24=>3|25=>68|3=>3|39=>177|0=>0|53=>176|55=>237|4=>4|46=>230|45=>229|50=>135|5=>5|9=>9|66=>243|70=>247|76=>250|77=>209|n=>n,fun|n=>n⟩
theorem q7a:Go.Proofs.SlLaysF.n6 prog qs1:={
 mixed:=by kernel_rfl
 f6:=⟨f141.name,by decide,func141.trans (congrArg some kr)⟩
 f14:=⟨f174.name,by decide,func174.trans (congrArg some kr)⟩
 f15:=func175.trans (congrArg some kr)
 f20:=⟨f191.name,by decide,func191.trans (congrArg some kr)⟩
 f21:=⟨f192.name,by decide,func192.trans (congrArg some kr)⟩
 f22:=⟨f193.name,by decide,func193.trans (congrArg some kr)⟩
 f23:=⟨f194.name,by decide,func194.trans (congrArg some kr)⟩
 f24:=⟨f195.name,by decide,func195.trans (congrArg some kr)⟩
 f25:=⟨f196.name,by decide,func196.trans (congrArg some kr)⟩
 f26:=⟨f197.name,by decide,func197.trans (congrArg some kr)⟩
 f27:=⟨f198.name,by decide,func198.trans (congrArg some kr)⟩
 f28:=func199.trans (congrArg some kr)
 f29:=func200.trans (congrArg some kr)
 f46:=⟨f209.name,by decide,func209.trans (congrArg some kr)⟩
 f47:=func210.trans (congrArg some kr)
 f48:=func211.trans (congrArg some kr)
 f49:=⟨f212.name,by decide,func212.trans (congrArg some kr)⟩
 f50:=⟨f213.name,by decide,func213.trans (congrArg some kr)⟩
 f57:=⟨f215.name,by decide,func215.trans (congrArg some kr)⟩
 t0:=underlying0
 a0:=isAgg0
 z0:=sizeOf0
 v0:=zeroValue0
 t3:=underlying3
 a3:=isAgg3
 z3:=sizeOf3
 v3:=zeroValue3
 t4:=underlying4
 a4:=isAgg4
 z4:=sizeOf4
 v4:=zeroValue4
 t5:=underlying5
 a5:=isAgg5
 z5:=sizeOf5
 v5:=zeroValue5
 t9:=underlying9
 a9:=isAgg9
 z9:=sizeOf9
 v9:=zeroValue9
 t22:=underlying86
 a22:=isAgg86
 z22:=sizeOf86
 v22:=zeroValue86
 a24:=isAgg3
 z24:=sizeOf3
 t25:=underlying68
 a25:=isAgg68
 z25:=sizeOf68
 v25:=zeroValue68
 t39:=underlying177
 a39:=isAgg177
 z39:=sizeOf177
 v39:=zeroValue177
 t45:=underlying229
 a45:=isAgg229
 z45:=sizeOf229
 v45:=zeroValue229
 t46:=underlying230
 a46:=isAgg230
 z46:=sizeOf230
 v46:=zeroValue230
 t50:=underlying135
 a50:=isAgg135
 z50:=sizeOf135
 v50:=zeroValue135
 t53:=underlying176
 a53:=isAgg176
 z53:=sizeOf176
 v53:=zeroValue176
 t55:=underlying237
 a55:=isAgg237
 z55:=sizeOf237
 v55:=zeroValue237
 t66:=underlying243
 a66:=isAgg243
 z66:=sizeOf243
 v66:=zeroValue243
 t70:=underlying247
 a70:=isAgg247
 z70:=sizeOf247
 v70:=zeroValue247
 t76:=underlying250
 a76:=isAgg250
 z76:=sizeOf250
 v76:=zeroValue250
 t77:=underlying209
 a77:=isAgg209
 z77:=sizeOf209
 v77:=zeroValue209 }
def q5b:Go.Shelf.Ren:=⟨fun|5=>144|7=>176|n=>n,fun|22=>3|3=>3|4=>4|n=>n,fun|n=>n⟩
theorem cmpL:Go.Proofs.SlLaysC2.n5 prog q5b:={
 mixed:=by kernel_rfl
 f5:=⟨f144.name,by decide,func144.trans (congrArg some kr)⟩
 f7:=⟨f176.name,by decide,func176.trans (congrArg some kr)⟩
 t3:=underlying3
 a3:=isAgg3
 z3:=sizeOf3
 v3:=zeroValue3
 t4:=underlying4
 a4:=isAgg4
 z4:=sizeOf4
 v4:=zeroValue4
 t22:=underlying3
 a22:=isAgg3
 z22:=sizeOf3
 v22:=zeroValue3 }
end
section
open Go.ChangeShapes Go.WideShapes Go.ChangeAt Go.RowKit Go.Maps
def orZ(a b:Int):Int:=if a=0 then b else a
theorem q96(c:Nat)(a b:Int)(w:World)(h0:w.cell? ⟨c,0,none⟩=some (I Z a))(h1:w.cell? ⟨c,1,none⟩=some (I Z b)):
  Calls prog 143 #[.slice (some ⟨c,0,none⟩) 2 2] w fun e w'=>e=.returned (I Z (orZ a b))/\w'=w:=by
 (have I0:=fun w=>ixI c 2 2 0 om w);(have I1:=fun w=>ixI c 2 2 1 om w)
 go_enter func143,ntmps143
 go_wp2
 go_loop [8] (fun i=>∃j:Nat,j<=2/\i=I Z (j:Int)/\(1<=j->a=0)/\(2<=j->b=0)) (fun i=>2-(intOf i).toNat)
 case atStart=>exact⟨0,by omega,rfl,fun h=>by omega,fun h=>by omega⟩
 case round=>
  obtain⟨j,hj,rfl,ha,hb⟩:=hrel
  (have hc:j=0\/j=1\/j=2:=by omega)
  rcases hc with rfl|rfl|rfl
  ·clear ha hb hj
   by_cases e:a=0
   ·(have hn:(a != 0)=false:=by simp[e]);have HE:Hid (a=0):=e;clear e
    go_wp2
    go_round
    case rel=>exact⟨1,by omega,rfl,fun _=>HE.out,fun h=>by omega⟩
    case measure=>simp[intOf]
   ·(have hn:(a != 0)=true:=by simp[e]);have HE:Hid (a≠0):=e;clear e
    go_wp2
    go_ret
    exact⟨qny (by unfold orZ;rw[if_neg HE.out]),rfl⟩
  ·have HA:Hid (a=0):=ha om;clear ha hb hj
   by_cases e:b=0
   ·(have hn:(b != 0)=false:=by simp[e]);have HE:Hid (b=0):=e;clear e
    go_wp2
    go_round
    case rel=>exact⟨2,by omega,rfl,fun _=>HA.out,fun _=>HE.out⟩
    case measure=>simp[intOf]
   ·(have hn:(b != 0)=true:=by simp[e]);clear e
    go_wp2
    go_ret
    exact⟨qny (by unfold orZ;rw[if_pos HA.out]),rfl⟩
  ·have HA:Hid (a=0):=ha om;have HB:Hid (b=0):=hb om;clear ha hb hj
   go_wp2
   go_ret
   exact⟨qny (by unfold orZ;rw[if_pos HA.out,HB.out]),rfl⟩
theorem qxv(x y:Int)(W:World):Calls prog 144 #[I Z x,I Z y] W fun e w'=>e=.returned (I Z (Lib.compareInt x y))/\w'=W:=AnyG.cmp_Compare_int cmpL x y W
def cmpZ(z:Int->Int)(x y:Int):Int:=orZ (Lib.compareInt (z x) (z y)) (Lib.compareInt x y)
theorem qkw(h:w.cell? ⟨b,o,none⟩=some v)(x:Obj):(w.alloc x).cell? ⟨b,o,none⟩=some v:=by
 have hl:=World.block_lt_of_cell? w _ h;rw[←h]
 exact World.cell?_of_block (Below.heap_alloc _ _ _ hl)
theorem cmpS{z:Int->Int}{x y p q:Int}(hp:Lib.compareInt (z x) (z y)=p)(hq:Lib.compareInt x y=q):cmpZ z x y=orZ p q:=by unfold cmpZ;rw[hp,hq]
theorem q5n{bx:Nat}(z:Int->Int)(x y:Int)(hx:(Lit.int .i64 x).wf=true)(hy:(Lit.int .i64 y).wf=true)(hzx:atW' D x (z x))(hzy:atW' D y (z y))(W:World)(hb:W.cell? ⟨bx,0,none⟩=some (.pointer (some ⟨b,o,none⟩)))(c1:W.cell? ⟨b,o+1,none⟩=some (.map (some bm)))(hm:MapI W bm n D):
  Calls prog 142 #[.int .i64 x,.int .i64 y,.pointer (some ⟨bx,0,none⟩)] W fun e w'=>e=.returned (.int .i64 (cmpZ z x y))/\∃q os',w'=Sort.grow (W.drewN q) os':=by
 have kx:=keyOf_int_mk (P:=prog) (q:=.i64) (a:=x) underlying3 hx;have ky:=keyOf_int_mk (P:=prog) (q:=.i64) (a:=y) underlying3 hy
 have hlx:∀W,MapI W bm n D->(Instr.lookup 87 (.map (some bm)) (.int .i64 x) false).run prog W=.ok (.int .i64 (z x)) W:=by
  intro W hW
  obtain⟨c,h1,h2,_⟩:=hW.lookup_int lawI underlying87 underlying3 (qjv _) kx
  rw[h1,qm8 hzx h2]
 have hly:∀W,MapI W bm n D->(Instr.lookup 87 (.map (some bm)) (.int .i64 y) false).run prog W=.ok (.int .i64 (z y)) W:=by
  intro W hW
  obtain⟨c,h1,h2,_⟩:=hW.lookup_int lawI underlying87 underlying3 (qjv _) ky
  rw[h1,qm8 hzy h2]
 (have C1:=fun w=>qxv (z x) (z y) w);(have C2:=fun w=>qxv x y w)
 obtain⟨p,hp⟩:∃p,Lib.compareInt (z x) (z y)=p:=⟨_,rfl⟩
 obtain⟨q,hq⟩:∃q,Lib.compareInt x y=q:=⟨_,rfl⟩
 rw[hp] at C1
 rw[hq] at C2
 rw[cmpS hp hq];clear hp hq kx ky hzx hzy hx hy
 go_enter func142,ntmps142
 go_wp2_with fail
 refine RD (fun W=>W.cell? ⟨bx,0,none⟩=some (.pointer (some ⟨b,o,none⟩))/\W.cell? ⟨b,o+1,none⟩=some (.map (some bm))/\MapI W bm n D) ⟨hb,c1,hm⟩ (fun _=>?_)
 refine tk 0 (.pointer (some ⟨b,o,none⟩)) rfl (Or.inl ⟨by kernel_rfl,by intro w hS;have hc:=hS.1;go_simp⟩) ⟨hb,c1,hm⟩ (tq 1 (.pointer (some ⟨b,o,none⟩)) rfl ⟨hb,c1,hm⟩ (tq 2 (.pointer (some ⟨b,o+1,none⟩)) rfl ⟨hb,c1,hm⟩ ?_));refine m5i ?_;refine tk 3 (.map (some bm)) rfl (Or.inl ⟨by kernel_rfl,by intro w hS;have hc:=hS.2.1;go_simp⟩) ⟨hb,c1,hm⟩ (tq 4 (.int .i64 x) rfl ⟨hb,c1,hm⟩ (tk 5 (.int .i64 (z x)) rfl (Or.inl ⟨by kernel_rfl,by intro w hS;have hc:=hlx w hS.2.2;go_simp⟩) ⟨hb,c1,hm⟩ ?_));refine m5i ?_;refine tk 6 (.pointer (some ⟨b,o,none⟩)) rfl (Or.inl ⟨by kernel_rfl,by intro w hS;have hc:=hS.1;go_simp⟩) ⟨hb,c1,hm⟩ (tq 7 (.pointer (some ⟨b,o,none⟩)) rfl ⟨hb,c1,hm⟩ (tq 8 (.pointer (some ⟨b,o+1,none⟩)) rfl ⟨hb,c1,hm⟩ ?_));refine m5i ?_;refine tk 9 (.map (some bm)) rfl (Or.inl ⟨by kernel_rfl,by intro w hS;have hc:=hS.2.1;go_simp⟩) ⟨hb,c1,hm⟩ (tq 10 (.int .i64 y) rfl ⟨hb,c1,hm⟩ (tk 11 (.int .i64 (z y)) rfl (Or.inl ⟨by kernel_rfl,by intro w hS;have hc:=hly w hS.2.2;go_simp⟩) ⟨hb,c1,hm⟩ ?_));refine m5i ?_;refine tq 13 (.int .i64 x) rfl ⟨hb,c1,hm⟩ (tq 14 (.int .i64 y) rfl ⟨hb,c1,hm⟩ ?_);refine m5i ?_;refine AR [12] ?_
 refine AC (fun K hK=>?_) AZ
 go_simp;go_at_call 144;refine(C1 _).mono ?_;refine m04 ?_
 go_wp2_with fail
 refine hK.out _ _ ⟨hb,c1,hm⟩ (fun _=>?_)
 clear hK K;(try simp only[ZZ]);refine AR [15] ?_
 refine AC (fun K hK=>?_) AZ
 go_simp;go_at_call 144;refine(C2 _).mono ?_;refine m04 ?_
 go_wp2_with fail
 refine hK.out _ _ ⟨hb,c1,hm⟩ (fun _=>?_)
 clear hK K;(try simp only[ZZ]);refine AR [16] ?_
 refine AP (fun K hK=>?_) AZ
 (unfold Oper.wp execOp;go_simp);have k0:=World.cell?_alloc_mark W #[.int .i64 p,.int .i64 q] 3 (0,0) 0;have k1:=World.cell?_alloc_mark W #[.int .i64 p,.int .i64 q] 3 (0,0) 1;replace hb:=qkw hb (.cells #[.int .i64 p,.int .i64 q] 3);replace c1:=qkw c1 (.cells #[.int .i64 p,.int .i64 q] 3);replace hm:=hm.alloc (.cells #[.int .i64 p,.int .i64 q] 3)
 refine hK.out _ _ ⟨hb,c1,hm⟩ (fun _=>?_)
 clear hK K;(try simp only[ZZ]);refine AR [17] ?_
 refine AC (fun K hK=>?_) AZ
 go_simp
 go_at_call 143;refine(q96 _ p q _ ?_ ?_).mono ?_;exact k0;exact k1;refine m04 ?_
 go_wp2_with fail
 refine hK.out _ _ ⟨hb,c1,hm⟩ (fun _=>?_)
 clear hK K;(try simp only[ZZ]);refine tq 18 (.int .i64 (orZ p q)) rfl ⟨hb,c1,hm⟩ ?_;refine m1f ?_
 go_wp2
 go_ret
 exact⟨rfl,1,#[.cells #[.int .i64 p,.int .i64 q] 3],Sort.alloc_eq_grow (W.drewN 1) _⟩
end
section
open Go.ChangeShapes Go.WideShapes Go.ChangeAt Go.RowKit Go.Maps
open Go.Sort (grow ahead putRow Holds putCells SWO)
abbrev WfI:={ x:Int // (Lit.int .i64 x).wf=true }
def wf0:WfI:=⟨0,by decide⟩
def encW(x:WfI):Value:=I Z x.val
def ltZ(z:Int->Int)(x y:Int):Bool:=decide (z x<z y\/z x=z y/\x<y)
def leZ(z:Int->Int)(x y:Int):Bool:=decide (z x<z y\/z x=z y/\x<=y)
def qcc(z:Int->Int)(l:List Int):List Int:=l.mergeSort (leZ z)
theorem qaab(z:Int->Int)(x y:Int):decide (cmpZ z x y<0)=ltZ z x y:=by
 unfold cmpZ orZ ltZ Lib.compareInt
 rw[decide_eq_decide]
 by_cases h1:z x<z y
 ·simp[h1]
 ·by_cases h2:z x>z y
  ·have:¬z x=z y:=by omega
   simp[h1,h2,this]
  ·(have h3:z x=z y:=by omega)
   by_cases h4:x<y
   ·simp[h3,h4]
   ·by_cases h5:x>y
    ·simp[h3,h4,h5]
    ·simp[h3,h4,h5]
theorem q9z(z:Int->Int)(x y:Int):(!ltZ z y x)=leZ z x y:=by
 unfold ltZ leZ
 rw[←decide_not,decide_eq_decide]
 omega
def cmpW(z:Int->Int)(x y:WfI):Int:=cmpZ z x.val y.val
theorem qon(z:Int->Int)(x y:WfI):ltOf (cmpW z) x y=ltZ z x.val y.val:=qaab z x.val y.val
theorem swo(z:Int->Int):SWO (ltOf (cmpW z)) where
 irrefl x:=by rw[qon];unfold ltZ;simp
 trans x y u h1 h2:=by rw[qon] at *;unfold ltZ at *;simp only[decide_eq_true_eq] at *;omega
 ntrans x y u h1 h2:=by rw[qon] at *;unfold ltZ at *;simp only[decide_eq_false_iff_not] at *;omega
theorem totW(z:Int->Int)(x y:WfI)(h1:ltOf (cmpW z) x y=false)(h2:ltOf (cmpW z) y x=false):x=y:=by
 rw[qon] at *
 unfold ltZ at *
 simp only[decide_eq_false_iff_not] at *
 exact Subtype.ext om
theorem q66(z:Int->Int)(l:List WfI):(l.mergeSort fun x y=>!(ltOf (cmpW z)) y x).map Subtype.val=qcc z (l.map Subtype.val):=by
 unfold qcc
 apply List.map_mergeSort
 intro a _ b _
 rw[qon,q9z]
section
variable [Inhabited WfI]
theorem qk5{c:Nat}(d:Array WfI)(os:Array Obj)(hc:c≠g)(hlt:c<w.heap.size):(sortWorld encW w g 0 m d os).heap[c]?=w.heap[c]?:=by
 unfold sortWorld grow putRow Sort.mapBlock
 show((w.heap.modify g _)++os)[c]?=_
 rw[Array.getElem?_append_left (by simpa using hlt),Array.getElem?_modify,if_neg om]
theorem q3s{cur:Array Value}{e:TypeId}{fr:Nat×Nat}(d:Array WfI)(os:Array Obj)(hb:w.heap[g]?=some (.cells cur e fr)):(sortWorld encW w g 0 m d os).heap[g]?=some (.cells (putCells encW 0 d cur) e fr):=by
 have hlt:g<w.heap.size:=(Array.getElem?_eq_some_iff.1 hb).1
 unfold sortWorld grow putRow Sort.mapBlock
 show((w.heap.modify g _)++os)[g]?=_
 rw[Array.getElem?_append_left (by simpa using hlt),Array.getElem?_modify,if_pos rfl,hb]
 rfl
theorem qy6(d:Array WfI)(os:Array Obj):w.grownBy (sortWorld encW w g 0 m d os) (some g):=by
 refine⟨rfl,rfl,rfl,?_,fun k hk hne=>qk5 d os (fun e=>hne (by rw[e])) hk⟩
 unfold sortWorld grow putRow Sort.mapBlock
 show _<=((w.heap.modify g _)++os).size
 simp
theorem q4v(cur:Array Value)(ts:List WfI)(h:ts.length<=cur.size):(putCells encW 0 ts.toArray cur).toList.take ts.length=(ts.map Subtype.val).map (Value.int .i64):=by
 apply List.ext_getElem?
 intro i;rw[List.getElem?_take,List.getElem?_map,List.getElem?_map]
 by_cases hi:i<ts.length
 ·rw[if_pos hi,Array.getElem?_toList]
  unfold putCells
  rw[Array.getElem?_mapIdx,Array.getElem?_eq_getElem om,List.getElem?_eq_getElem hi]
  have:(ts.toArray)[i-0]! = ts[i]:=by simp[hi]
  simp[hi,encW]
 ·rw[if_neg hi,List.getElem?_eq_none om];rfl
theorem q6v{off:List Int}(h:Own w v off)(hl:0<off.length)(hm:off.length<=1000000000)(hwf:∀i∈off,(Lit.int .i64 i).wf=true)(z:Int->Int){bx:Nat}(hz:Says D z)(hb:w.cell? ⟨bx,0,none⟩=some (.pointer (some ⟨b,o,none⟩)))(c1:w.cell? ⟨b,o+1,none⟩=some (.map (some bm)))(hmap:MapI w bm n D)(nx:v.ownBlock≠some bx)(nb:v.ownBlock≠some b):
  Calls prog 141 #[v,.func (.func 142) #[] #[.pointer (some ⟨bx,0,none⟩)]] w fun e w'=>e=.returned (.tuple #[])/\Own w' v (qcc z off)/\w.grownBy w' v.ownBlock:=by
 obtain⟨g,cap,cur,rfl,hg,hlc,hcm,hcs,ht⟩:=h.shape hl
 obtain⟨d,hd⟩:∃d:List WfI,d.map Subtype.val=off:=⟨off.attachWith _ hwf,by simp⟩
 (have hdl:d.length=off.length:=by rw[←hd];simp);have hlt:g<w.heap.size:=(Array.getElem?_eq_some_iff.1 hg).1;have hnm:=h.ne_map hmap;(have gx:bx≠g:=fun e=>nx (by rw[e];rfl));(have gb:b≠g:=fun e=>nb (by rw[e];rfl));(have gm:bm≠g:=fun e=>hnm (by rw[e];rfl));have lx:=World.block_lt_of_cell? w _ hb;have lb:=World.block_lt_of_cell? w _ c1;have lm:=hmap.lt
 have hH:Holds encW w g 0 d.toArray:=by
  intro j hj;(have hj':j<off.length:=by simpa[hdl] using hj);(have hjd:j<d.length:=by omega)
  have e:off[j]=(d[j]).val:=by
   have:(d.map Subtype.val)[j]'(by simpa using hjd)=off[j]:=by congr 1
   rw[←this];simp
  rw[Nat.zero_add]
  refine⟨(qia hg j).trans ((qis ht j hj').trans ?_),qnv hg j⟩
  simp[hjd,encW,e]
 have hcmp:CmpLays1 prog 142 #[.pointer (some ⟨bx,0,none⟩)] encW (cmpW z) g 0 d.toArray.size w:=by
  intro m os dk _ x y
  have e1:=qk5 (m:=m) dk os gx lx;have e2:=qk5 (m:=m) dk os gb lb;have e3:=qk5 (m:=m) dk os gm lm;have hx:=hz x.val x.property;have hy:=hz y.val y.property
  refine q5n z x.val y.val x.property y.property hx.1 hy.1 _ ((World.cell?_of_block e1).trans hb) ((World.cell?_of_block e2).trans c1) (n:=n) (D:=D) ?_
  obtain⟨es,clock,h1,h2⟩:=hmap
  exact⟨es,clock,e3.trans h1,h2⟩
 have eg:∀args w,(callFunc 142 args).run prog w=.ok (.enter 142 args) w:=enters_of func142 kr rfl;have hS:=Any.slices_SortFunc_total q7a encW (fun _=>rfl) (cmpW z) (swo z) 142 #[.pointer (some ⟨bx,0,none⟩)] g 0 cap d.toArray w eg hcmp hH hlt (by simp[hdl];omega) (totW z);(have hsz:d.toArray.size=off.length:=by simpa using hdl)
 rw[hsz] at hS
 refine Calls.mono hS ?_
 rintro e w' ⟨rfl,q,os,rfl⟩
 (have hsl:(d.toArray.toList.mergeSort fun x y=>!(ltOf (cmpW z)) y x).map Subtype.val=qcc z off:=by rw[q66];simp[hd]);(have hln:(d.toArray.toList.mergeSort fun x y=>!(ltOf (cmpW z)) y x).length=off.length:=by simp[hdl])
 generalize(d.toArray.toList.mergeSort fun x y=>!(ltOf (cmpW z)) y x)=ts at *
 (have hl2:(qcc z off).length=off.length:=by rw[←hsl];simpa using hln)
 refine⟨rfl,⟨by simp,.inr ⟨g,cap,_,by rw[hl2],Nat.zero_le _,q3s ts.toArray os hg,by omega,hcm,by unfold putCells;simp[hcs],?_⟩⟩,qy6 ts.toArray os⟩
 rw[Nat.mul_one,hl2,←hln,q4v cur ts om,hsl]
end
end
section
open Go.ChangeShapes Go.WideShapes Go.ChangeAt Go.RowKit Go.Maps
abbrev kI(i:Int):Lit:=.int .i64 i
structure qfm(D:DataW Unit)(du:Int->Option Int):Prop where
 tidy:Tidy D
 has:∀i,Maps.has D (kI i)=(du i).isSome
 time:∀i,atW' D i (dz du i)
theorem qmc{j:Int}(h:i≠j):kI i≠kI j:=fun e=>h (by cases e;rfl)
theorem qmu(i:Int):WideAt.IsKeyLit (kI i):=by simp[WideAt.IsKeyLit]
def delD(du:Int->Option Int)(i:Int):Int->Option Int:=fun j=>if j=i then none else du j
def setD(du:Int->Option Int)(i d:Int):Int->Option Int:=fun j=>if j=i then some d else du j
theorem q2f:qfm (.map []) (fun _=>none):=⟨tidy_empty,fun i=>rfl,fun i=>rfl⟩
theorem qfm.del(h:qfm D du)(i:Int):qfm (D.del (kI i)) (delD du i):=by
 refine⟨h.tidy.del _,fun j=>?_,fun j=>?_⟩
 ·by_cases e:j=i
  ·subst e;rw[has_del_same];simp[delD]
  ·rw[has_del_other (qmc e),h.has];simp[delD,e]
 ·unfold atW'
  by_cases e:j=i
  ·subst e
   rw[atKey_del_same];simp[dz,delD]
  ·have:=h.time j
   unfold atW' at this
   rw[atKey_del_other (qmc e),this];simp[dz,delD,e]
theorem qfm.put(h:qfm D du)(i d:Int):qfm (D.put (kI i) (.lit (.int .i64 d))) (setD du i d):=by
 refine⟨h.tidy.put (qmu i) _,fun j=>?_,fun j=>?_⟩
 ·by_cases e:j=i
  ·subst e;rw[has_put_same h.tidy.isMap (qmu _)];simp[setD]
  ·rw[has_put_other (qmc e),h.has];simp[setD,e]
 ·unfold atW'
  by_cases e:j=i
  ·subst e
   rw[atKey_put_same h.tidy.isMap (qmu _)];simp[dz,setD]
  ·have:=h.time j
   unfold atW' at this
   rw[atKey_put_other (qmc e),this];simp[dz,setD,e]
def delF(D:DataW Unit)(l:List Int):DataW Unit:=l.foldl (fun D i=>D.del (kI i)) D
def ql9(du:Int->Option Int)(l:List Int):Int->Option Int:=fun j=>if j∈l then none else du j
theorem qzp(l:List Int)(h:qfm D du):qfm (delF D l) (ql9 du l):=by
 induction l generalizing D du with
 | nil=>
  (have e:ql9 du []=du:=by funext j;simp[ql9])
  rw[e];exact h
 | cons i r ih=>
  have:=ih (h.del i)
  have e:ql9 (delD du i) r=ql9 du (i::r):=by
   funext j
   simp only[ql9,delD,List.mem_cons]
   by_cases e1:j=i<;>by_cases e2:j∈r<;>simp[e1,e2]
  rw[←e]
  exact this
theorem q3h(l:List Int)(h:qfm D du)(hn:l.Nodup)(hl:∀i∈l,(du i).isSome=true):Maps.size (delF D l)+l.length=Maps.size D:=by
 induction l generalizing D du with
 | nil=>rfl
 | cons i r ih=>
  have hn':=List.nodup_cons.1 hn
  have h1:=ih (h.del i) hn'.2 (fun j hj=>by
   have:j≠i:=fun e=>hn'.1 (e▸hj)
   simp only[delD,if_neg this];exact hl j (by simp[hj]))
  have h2:=size_del (k:=kI i) h.tidy
  rw[h.has,hl i zm] at h2
  simp only[if_true] at h2
  show Maps.size (delF (D.del (kI i)) r)+(r.length+1)=_
  omega
theorem qfm.says(h:qfm D du)(hz:∀i,0<=dz du i/\dz du i<=1099511627776):Says D (dz du):=fun i _=>⟨h.time i,hz i⟩
theorem qarb(h:MapI w b n D):MapI w b (Maps.size D) D:=by
 obtain⟨es,clock,h1,h2,h3,h4⟩:=h
 refine⟨es,clock,h1,h2,?_,h4⟩
 rw[h4]
 show es.size<=List.length _
 rw[length_sorted]
 simp
theorem WM.setMap(h:WM w b t cs o now (some bm) D vs L)(hg:w.grownBy w' (some bm))(hn:n<=1000000)(hm:MapI w' bm n D'):WM w' b t cs o now (some bm) D' vs L:=by
 obtain⟨k,_,hm0⟩:=h.theMap
 have hne:=hm0.ne_row h.row
 refine⟨ql7 h.row hg (fun e=>hne (by cases e;rfl)),h.size,h.c0,h.c1,h.cl,fun j hj=>?_,h.nil,h.apart,h.notb,.inr ⟨bm,n,rfl,hn,hm⟩⟩
 exact(h.own j hj).keepGr (F:=fun c=>c=bm) (Gr.of_grown hg (fun c hc=>by cases hc;rfl)) (fun c hc e=>(h.own j hj).ne_map hm0 (by rw[hc,e]))
def qca(w:World)(b:Nat)(t:TypeId)(cs:Array Value)(o:Nat)(now:Int)(du:Int->Option Int)(cnt:Nat)(F:Nat->Prop):Prop:=
 ∃mb D vs L,WM w b t cs o now mb D vs L/\qfm D du/\qhg now du L/\(∀i d,du i=some d->(Lit.int .i64 i).wf=true)/\sumR 448 L=cnt/\Maps.size D=cnt/\cnt<=400/\(∀c,Fp b mb vs c->F c)
theorem qor(h:qhg now du L)(m:Nat)(hm:448<=m):L m=[]:=by
 rcases hl:L m with _|⟨i,r⟩
 ·rfl
 ·exfalso
  obtain⟨d,h1,h2⟩:=(h.mem m i).1 (by rw[hl];simp);have h3:=h.due i d h1;have h4:=h.time
  have:=qug now.toNat d.toNat om om
  omega
theorem q6q(h:qhg now du L)(hw:∀i d,du i=some d->(Lit.int .i64 i).wf=true)(k:Nat)(i:Int)(hi:i∈L k):(Lit.int .i64 i).wf=true:=by
 obtain⟨d,h1,_⟩:=(h.mem k i).1 hi
 exact hw i d h1
theorem q0b(h:qhg now du L)(hd:∀i,du i=none)(k:Nat):L k=[]:=by
 rcases hl:L k with _|⟨i,r⟩
 ·rfl
 ·exfalso
  obtain⟨d,h1,h2⟩:=(h.mem k i).1 (by rw[hl];simp)
  rw[hd i] at h1
  cases h1
theorem qwx(h:qfm (.map []) du)(i:Int):du i=none:=by
 have:=h.has i
 rcases hd:du i with _|d
 ·rfl
 ·rw[hd] at this;simp[Maps.has] at this
theorem q0q{t:Int}(h:∀i,i∈l↔∃d,du i=some d/\d<=t):ql9 du l=qiv t du:=by
 funext i
 unfold ql9 qiv
 by_cases hi:i∈l
 ·obtain⟨d,h1,h2⟩:=(h i).1 hi
  simp[hi,h1,h2]
 ·rw[if_neg hi]
  rcases hd:du i with _|d
  ·rfl
  ·have:¬d<=t:=fun hle=>hi ((h i).2 ⟨d,hd,hle⟩)
   simp[this]
theorem qzx(n:Int)(w:World):Calls prog 139 #[I Z n] w fun e w'=>e=.returned (.bool (decide (0<=n)&&decide (n<=1099511627776)))/\w'=w:=by
 by_cases h0:0<=n
 ·by_cases h1:n<=1099511627776
  ·go_enter func139,ntmps139
   go_wp2
   go_ret
   exact⟨by simp[h0,h1],rfl⟩
  ·go_enter func139,ntmps139
   go_wp2
   go_ret
   exact⟨by simp[h0,h1],rfl⟩
 ·go_enter func139,ntmps139
  go_wp2
  go_ret
  exact⟨by rw[show decide (0<=n)=false by simpa using h0];rfl,rfl⟩
theorem qrq(n:Int)(w:World)(h:0<=n/\n<=1099511627776):Calls prog 139 #[I Z n] w fun e w'=>e=.returned (.bool true)/\w'=w:=by
 have:=qzx n w
 rw[show(decide (0<=n)&&decide (n<=1099511627776))=true by simp[h.1,h.2]] at this
 exact this
theorem q4a(p:Option Addr)(c:Nat)(fv:Value)(w:World):Calls prog 141 #[.slice p 0 c,fv] w fun e w'=>e=.returned (.tuple #[])/\w'=w:=
 AnyF.slices_SortFunc_none (P:=prog) (ρ:=qs1) { q7a with } p c fv w
theorem q42{off:List Int}(h:Own w v off)(hm:off.length<=1000000000)(hwf:∀i∈off,(Lit.int .i64 i).wf=true)(z:Int->Int){bx:Nat}(hz:Says D z)(hb:w.cell? ⟨bx,0,none⟩=some (.pointer (some ⟨b,o,none⟩)))(hmap:off≠[]->∃bm n,w.cell? ⟨b,o+1,none⟩=some (.map (some bm))/\MapI w bm n D)(nx:v.ownBlock≠some bx)(nb:v.ownBlock≠some b):
  Calls prog 141 #[v,.func (.func 142) #[] #[.pointer (some ⟨bx,0,none⟩)]] w fun e w'=>e=.returned (.tuple #[])/\Own w' v (qcc z off)/\w.grownBy w' v.ownBlock:=by
 by_cases hl:off=[]
 ·subst hl
  have hsh:∃a c,v=.slice a 0 c:=by
   rcases h.2 with⟨e,_⟩|⟨g,cap,cur,e,_⟩
   ·exact⟨_,_,e⟩
   ·exact⟨_,_,e⟩
  obtain⟨a,c,rfl⟩:=hsh
  refine(q4a a c _ w).mono ?_
  rintro e w' ⟨rfl,rfl⟩
  (have hs:qcc z []=[]:=by simp[qcc]);rw[hs]
  exact⟨rfl,h,rfl,rfl,rfl,Nat.le_refl _,fun _ _ _=>rfl⟩
 ·obtain⟨bm,n,c1,hm2⟩:=hmap hl
  haveI:Inhabited WfI:=⟨wf0⟩
  exact q6v h (List.length_pos_iff.2 hl) hm hwf z hz hb c1 hm2 nx nb
def DelR(w0 W:World)(b:Nat)(t:TypeId)(cs:Array Value)(o:Nat)(now:Int)(mb:Option Nat)(D:DataW Unit)(vs:Nat->Value)(L:Nat->List Int)(bx:Nat)(v:Value)(l:List Int):Prop:=
 WM W b t cs o now mb D vs L/\Own W v l/\W.cell? ⟨bx,0,none⟩=some (.pointer (some ⟨b,o,none⟩))/\Gr (fun c=>mb=some c) w0 W
theorem DelR.step{w0 W:World}{bx:Nat}(h:DelR w0 W b t cs o now (some bm) D vs L bx v l)(hn:n<=1000000)(hm:MapI w' bm n D')(ht:W.mapTurned w' bm):DelR w0 w' b t cs o now (some bm) D' vs L bx v l:=by
 obtain⟨hw,ho,hb,hg⟩:=h
 obtain⟨k,_,hm0⟩:=hw.theMap
 have hgr:=ht.grown;have g1:Gr (fun c=>some bm=some c) W w':=Gr.of_grown hgr (fun c hc=>hc)
 refine⟨hw.setMap hgr hn hm,ho.keepGr g1 (fun c hc e=>ho.ne_map hm0 (by rw[hc,←e])),?_,hg.trans g1 (fun x hx=>.inl hx)⟩
 have hlt:=World.block_lt_of_cell? W _ hb
 have hne:bx≠bm:=by
  rintro rfl
  obtain⟨es,clock,h1,_⟩:=hm0
  simp[World.cell?,h1] at hb
 rw[←hb]
 exact World.cell?_of_block (hgr.block bx hlt (by simpa using hne))
theorem qeh(h:Own w v l):∃a c,v=.slice a l.length c:=by
 rcases h.2 with⟨e,n0⟩|⟨g,cap,cur,e,_⟩
 ·exact⟨none,0,by rw[e,n0]⟩
 ·exact⟨_,_,e⟩
theorem q38(D:DataW Unit)(l:List Int)(j:Nat)(hj:j<l.length):delF D (l.take (j+1))=(delF D (l.take j)).del (kI l[j]):=qta (fun D i=>DataW.del D (kI i)) D l j hj
theorem q46{mb:Option Nat}{TF:(Nat->List Int)×List Int}{ov:Value}(h:TuR w1 w2 b t cs o now mb D vs T TF ov)(z:Int->Int)(hz:Says D z)(hT:T<=1000000)(hoff:mb=none->TF.2=[])(hwf:∀i∈TF.2,(Lit.int .i64 i).wf=true){bx:Nat}(hbx:w1.cell? ⟨bx,0,none⟩=some (.pointer (some ⟨b,o,none⟩)))(hnf:¬Fp b mb vs bx):
  Calls prog 141 #[ov,.func (.func 142) #[] #[.pointer (some ⟨bx,0,none⟩)]] w2 fun e w3=>e=.returned (.tuple #[])/\∃cs2 vs2,DelR w3 w3 b t cs2 o now mb D vs2 TF.1 bx ov (qcc z TF.2)/\qb7 o cs cs2/\Gr (Fp b mb vs) w1 w3/\(∀c,Fp b mb vs2 c->Fp b mb vs c\/w1.heap.size<=c)/\ql5 ov (Fp b mb vs2)/\(∀c,ov.ownBlock=some c->w1.heap.size<=c):=by
 obtain⟨cs2,vs2,hm,hso,hgr,hfp,hov,htot,hmb⟩:=h;have hbl:=World.block_lt_of_cell? w1 _ hbx;have hb2:w2.cell? ⟨bx,0,none⟩=some (.pointer (some ⟨b,o,none⟩)):=(World.cell?_of_block (hgr.block bx hbl hnf)).trans hbx;(have nx:ov.ownBlock≠some bx:=fun e=>by have:=hov bx e;simp only at hbl;omega);(have nb:ov.ownBlock≠some b:=fun e=>hm.out b e (.inl rfl));have hof:=htot.off
 refine(q42 hm.own om hwf z hz hb2 (fun hne=>?_) nx nb).mono ?_
 ·rcases hm.wm.map with⟨h1,_⟩|⟨bm,n,h1,_,h3⟩
  ·exact absurd (hoff h1) hne
  ·refine⟨bm,n,?_,h3⟩
   rw[←h1]
   exact(hm.wm.cell _).trans hm.wm.c1
 ·rintro e w3 ⟨rfl,ho3,hg3⟩;have g3:Gr (fun c=>ov.ownBlock=some c) w2 w3:=Gr.of_grown hg3 (fun c hc=>hc)
  refine⟨rfl,cs2,vs2,⟨hm.wm.keep g3 (fun c hc hd=>hm.out c hd hc),ho3,?_,Gr.refl _ _⟩,hso,hgr.trans g3 (fun x hx=>.inr (hov x hx)),hfp,hm.out,hov⟩
  have hl2:=World.block_lt_of_cell? w2 _ hb2;rw[←hb2]
  exact World.cell?_of_block (g3.block bx hl2 nx)
theorem qxb{mb:Option Nat}(h:WM w b t cs o (A:Int) mb D vs L)(z:Int->Int)(hz:Says D z)(hzz:∀i,0<=z i/\z i<=1099511627776)(hA:A<=tn)(hto:tn<=1099511627776)(hT:T<=1000000)(htot:Tot T (L,[]))(hmb:mb=none->∀k,L k=[])(hTL:(qex (A:Int) (tn:Int) z L).2.length<=1000000)(hoff:mb=none->(qex (A:Int) (tn:Int) z L).2=[])(hwf:∀i∈(qex (A:Int) (tn:Int) z L).2,(Lit.int .i64 i).wf=true):
  Calls prog 95 #[.pointer (some ⟨b,o,none⟩),.int .i64 (tn:Int)] w fun e w'=>∃v,e=.returned (.tuple #[v,.int .i64 0])/\∃cs' vs',WM w' b t cs' o (tn:Int) mb (delF D (qcc z (qex (A:Int) (tn:Int) z L).2)) vs' (qex (A:Int) (tn:Int) z L).1/\Own w' v (qcc z (qex (A:Int) (tn:Int) z L).2)/\ql5 v (Fp b mb vs')/\qb7 o cs cs'/\Gr (Fp b mb vs) w w'/\(∀c,Fp b mb vs' c->Fp b mb vs c\/w.heap.size<=c)/\(∀c,v.ownBlock=some c->w.heap.size<=c):=by
 (have hli:¬(tn:Int)<(A:Int):=by omega);have c0:=qkw ((h.cell o).trans h.c0) (.cells #[.pointer (some ⟨b,o,none⟩)] 152);have CT:=q2w (h.alloc (.cells #[.pointer (some ⟨b,o,none⟩)] 152)) z hz hzz hA hto hT htot hmb;have bx0:(w.alloc (.cells #[.pointer (some ⟨b,o,none⟩)] 152)).cell? ⟨w.heap.size,0,none⟩=some (.pointer (some ⟨b,o,none⟩)):=World.cell?_alloc_mark w #[.pointer (some ⟨b,o,none⟩)] 152 (0,0) 0;(have CI:=fun w=>qrq (tn:Int) w om);(have hfl:∀c,Fp b mb vs c->c<w.heap.size:=fun c hc=>Mid.fp_lt h hc);(have hws:(w.alloc (.cells #[.pointer (some ⟨b,o,none⟩)] 152)).heap.size=w.heap.size+1:=by simp)
 generalize qex (A:Int) (tn:Int) z L=TF at *
 (have hlen:(qcc z TF.2).length=TF.2.length:=by simp[qcc]);(have hwf':∀i∈qcc z TF.2,(Lit.int .i64 i).wf=true:=fun i hi=>hwf i (by simpa[qcc] using hi));(have HTL0:Hid ((qcc z TF.2).length<=1000000):=by rw[hlen];exact hTL);clear h htot hTL hlen
 generalize hw1:w.alloc (.cells #[.pointer (some ⟨b,o,none⟩)] 152)=w1 at *
 have HW1:Hid (w.alloc (.cells #[.pointer (some ⟨b,o,none⟩)] 152)=w1):=hw1;(have HB1:Hid (Below w.heap.size w w1):=by rw[←hw1];exact(Below.refl _ _).alloc (Nat.le_refl _) _);have HTL:Hid ((qcc z TF.2).length<=1000000):=HTL0;have HSZ:Hid (w1.heap.size=w.heap.size+1):=hws;(have HNF:Hid (¬Fp b mb vs w.heap.size):=fun hf=>by have:=hfl _ hf;omega);clear hws
 go_enter func95,ntmps95
 go_wp2_with (first|(go_at_call 139;refine(CI _).mono ?_;refine m04 ?_)|(go_at_call 140;refine CT.mono ?_;rintro e w2 ⟨ov,rfl,hTR⟩)|(go_at_call 141;have CS:=q46 hTR z hz hT hoff hwf bx0 HNF.out;go_fit CS;rintro e w3 ⟨rfl,cs2,vs2,hDR,hso2,hgr2,hfp2,hon,hov2⟩;clear CS hTR;obtain⟨al,kp,hal⟩:=qeh hDR.2.1;subst hal))
 obtain⟨N,hN⟩:∃N,N=(qcc z TF.2).length:=⟨_,rfl⟩
 rw[←hN] at hDR hon hov2 ⊢
 have HN:Hid (N=(qcc z TF.2).length):=hN;(have hNb:N<=1000000:=by have:=HTL.out;omega);clear hN
 go_loopw [30] (fun i W=>∃j:Nat,j<=N/\i=.int .i64 (j:Int)/\DelR w3 W b t cs2 o (tn:Int) mb (delF D ((qcc z TF.2).take j)) vs2 TF.1 w.heap.size (.slice al N kp) (qcc z TF.2)) (fun i _=>N-(intOf i).toNat)
 case atStart=>exact⟨0,Nat.zero_le _,rfl,hDR⟩
 case round=>
  clear hDR
  obtain⟨j,hj,rfl,hDR⟩:=hrel
  by_cases hlt:j<N
  ·(have hjl:j<(qcc z TF.2).length:=by have:=HN.out;omega)
   obtain⟨bm,rfl⟩:∃bm,mb=some bm:=by
    rcases mb with _|bm
    ·have h0:=hoff rfl
     have:=HN.out
     rw[h0] at this
     simp[qcc] at this
     omega
    ·exact⟨bm,rfl⟩
   (have hji:(j:Int)<(N:Int):=by omega);have HM:=qha hlt;obtain⟨hwm,hown,hbx,hgd⟩:=id hDR
   obtain⟨g,kp',cur,hsh,hg,_,_,_,ht⟩:=hown.shape om
   obtain⟨rfl,_,rfl⟩:al=some ⟨g,0,none⟩/\N=(qcc z TF.2).length/\kp=kp':=by simpa using hsh
   (have hix:=fun w=>ixI g N kp j hlt w);have hcx:=(qia hg j).trans (qis ht j hjl);have hwx:=hwf' _ (List.getElem_mem hjl);have hkey:=keyOf_int_mk (P:=prog) (q:=.i64) (a:=(qcc z TF.2)[j]) underlying3 hwx;have hsn:=q38 D (qcc z TF.2) j hjl;have HSN:Hid (delF D ((qcc z TF.2).take (j+1))=(delF D ((qcc z TF.2).take j)).del (kI (qcc z TF.2)[j])):=hsn;obtain⟨n,hn,hm⟩:=hwm.theMap;have c1:=(hwm.cell (o+1)).trans hwm.c1;have HJ:Hid (j+1<=N):=hid om;have hjw:=qhl (p:=j) om
   generalize(qcc z TF.2)[j]=x at *
   clear hsh ht hsn hwx hjl hj hlt hwm hown hgd hli hzz hA hto hT hfl hNb
   go_wp2_with (first|(at_delete;refine wpList_delete_own _ rfl _ _ 87 3 rfl 3 lawI underlying87 _ bm n _ rfl hm _ _ rfl hkey ?_;intro w4 hm4 ht4;simp only[Act.put,List.setIfInBounds_toArray,List.set_cons_succ,List.set_cons_zero]))
   go_roundw
   case rel=>
    refine⟨j+1,HJ.out,by go_num,?_⟩
    rw[HSN.out]
    exact hDR.step hn hm4 ht4
   case measure=>first|exact HM.out|(rw[hjw];exact HM.out)
  ·(have hji:¬(j:Int)<(N:Int):=by omega)
   obtain rfl:j=N:=by omega
   have e:(qcc z TF.2).take j=qcc z TF.2:=List.take_of_length_le (by have:=HN.out;omega)
   rw[e] at hDR
   clear e hj hlt
   go_wp2
   go_ret2
   obtain⟨hwm,hown,hbx,hgd⟩:=hDR;have hsz:=HSZ.out;have hb1:=HB1.out
   refine⟨_,rfl,cs2,vs2,hwm,hown,hon,hso2,?_,fun c hc=>?_,fun c hc=>?_⟩
   ·exact((Gr.of_below hb1).trans hgr2 (fun x hx=>.inl hx)).trans hgd (fun x hx=>(hfp2 x (.inr (.inl hx))).imp id (fun h=>by omega))
   ·exact(hfp2 c hc).imp id (fun h=>by omega)
   ·have:=hov2 c hc;omega
theorem qu9(now:Int)(z:Int->Int)(hn:0<=now/\now<=1099511627776)(hz:∀i,0<=z i/\z i<=1099511627776)(ks:List Nat)(hk:∀k∈ks,k<448)(s:(Nat->List Int)×List Int)(h:Tot T s):Tot T (ks.foldl (sprF now z) s):=by
 induction ks generalizing s with
 | nil=>exact h
 | cons k r ih=>exact ih (fun q hq=>hk q (by simp[hq])) _ (qyj now z hn hz s h k (hk k zm))
theorem q6o{a t:Nat}(z:Int->Int)(hat:a<=t)(ht:t<=1099511627776)(hz:∀i,0<=z i/\z i<=1099511627776)(L:Nat->List Int)(h:Tot T (L,[])):Tot T (qex (a:Int) (t:Int) z L):=by
 have h6:=qpa t a ht om;have hl:=qgt t (lv t a);have hle:dg a (lv t a)<=dg t (lv t a):=(qnt a t om om hat).1
 unfold qex
 simp only[Int.toNat_natCast]
 rw[qtu]
 refine qu9 _ z om hz _ (fun k hk=>?_) _ (qu9 _ z om hz _ (fun k hk=>?_) _ h)
 ·obtain⟨q,rfl,h1,h2⟩:=qfy.1 hk;omega
 ·obtain⟨l,hl',hk'⟩:=List.mem_flatMap.1 hk
  obtain⟨q,rfl,h1,h2⟩:=qfy.1 hk'
  have:=qgt a l
  have:l<lv t a:=by simpa using hl'
  omega
theorem qoo(z:Int->Int)(l:List Int)(i:Int):i∈qcc z l↔i∈l:=by unfold qcc;simp
theorem qpy(z:Int->Int)(l:List Int)(h:l.Nodup):(qcc z l).Nodup:=((List.mergeSort_perm l (leZ z)).nodup_iff).2 h
theorem qo1(z:Int->Int)(l:List Int):(qcc z l).length=l.length:=by simp[qcc]
theorem qys{tn:Int}(h:qca w b t cs o now du cnt F)(h1:now<=tn)(h2:tn<=1099511627776):
  Calls prog 95 #[V (some ⟨b,o,none⟩),I Z tn] w fun e w'=>∃v,e=.returned (.tuple #[v,I Z 0])/\∃off cs' F' cnt',off.Nodup/\(∀i,i∈off↔∃d,du i=some d/\d<=tn)/\Own w' v (qcc (dz du) off)/\ql5 v F'/\qca w' b t cs' o tn (qiv tn du) cnt' F'/\qb7 o cs cs'/\Gr F w w'/\(∀c,F' c->F c\/w.heap.size<=c)/\(∀c,v.ownBlock=some c->w.heap.size<=c)/\cnt'+off.length=cnt:=by
 obtain⟨mb,D,vs,L,hwm,hrd,hwt,hwf,hsum,hsize,hcnt,hF⟩:=h;have ht:=hwt.time
 obtain⟨A,rfl⟩:∃A:Nat,now=A:=⟨now.toNat,by omega⟩
 obtain⟨T,rfl⟩:∃T:Nat,tn=T:=⟨tn.toNat,by omega⟩
 have hz:=hwt.z;have hsays:=hrd.says hz;(have htot:Tot cnt (L,[]):=⟨by simpa using hsum,fun m hm=>qor hwt m hm,fun k i hi=>q6q hwt hwf k i hi⟩)
 have hmb:mb=none->∀i,du i=none:=fun e i=>by
  rcases hwm.map with⟨_,hD⟩|⟨bm,n,e2,_⟩
  ·rw[hD] at hrd;exact qwx hrd i
  ·rw[e] at e2;cases e2
 obtain⟨g1,g2,g3⟩:=q4u hwt h1 h2;have htt:=q6o (dz du) (by omega:A<=T) om hz L htot
 have hoff:mb=none->(qex (A:Int) (T:Int) (dz du) L).2=[]:=fun e=>by
  rcases hl:(qex (A:Int) (T:Int) (dz du) L).2 with _|⟨i,r⟩
  ·rfl
  ·obtain⟨d,hd,_⟩:=(g3 i).1 (by rw[hl];simp)
   rw[hmb e i] at hd;cases hd
 refine(qxb hwm (dz du) hsays hz om om om htot (fun e k=>q0b hwt (hmb e) k) (by have:=htt.off;omega) hoff (fun i hi=>by obtain⟨d,hd,_⟩:=(g3 i).1 hi;exact hwf i d hd)).mono ?_
 rintro e w' ⟨v,rfl,cs',vs',hw',hown,hout,hso,hgr,hfp,hov⟩
 have hsm:=qoo (dz du) (qex (A:Int) (T:Int) (dz du) L).2;have hrl:=qzp (qcc (dz du) (qex (A:Int) (T:Int) (dz du) L).2) hrd
 rw[q0q (t:=(T:Int)) (fun i=>(hsm i).trans (g3 i))] at hrl
 (have hsz:=q3h _ hrd (qpy (dz du) _ g2) (fun i hi=>by obtain⟨d,hd,_⟩:=(g3 i).1 ((hsm i).1 hi);rw[hd];rfl))
 rw[qo1] at hsz
 have hs2:=htt.sum
 refine⟨v,rfl,_,cs',Fp b mb vs',Maps.size (delF D (qcc (dz du) (qex (A:Int) (T:Int) (dz du) L).2)),g2,g3,hown,hout,⟨mb,_,vs',_,hw',hrl,g1,fun i d hd=>hwf i d (qku.1 hd).1,by omega,rfl,by omega,fun c hc=>hc⟩,hso,hgr.mono hF,fun c hc=>(hfp c hc).imp (hF c) id,hov,by omega⟩
theorem q36(l:List Int)(i:Int):l.eraseIdx (l.idxOf i)=l.erase i:=by
 induction l with
 | nil=>rfl
 | cons b r ih=>
  by_cases e:b=i
  ·subst e;simp
  ·(have e':(b==i)=false:=by simpa using e)
   rw[List.idxOf_cons,e',List.erase_cons,if_neg (by simp[e'])]
   simp[ih]
theorem q06(h:qhg now du L)(i:Int)(hi:du i=none)(h1:now<=d)(h2:d<=1099511627776):qhg now (setD du i d) (setL L (pk now.toNat d.toNat) (L (pk now.toNat d.toNat)++[i])):=by
 (have hni:∀k,i ∉ L k:=fun k hk=>by obtain⟨e,he,_⟩:=(h.mem k i).1 hk;rw[hi] at he;cases he)
 refine⟨h.time,fun j e he=>?_,fun k=>?_,fun k j=>?_⟩
 ·unfold setD at he
  split at he
  ·cases he;exact⟨h1,h2⟩
  ·exact h.due j e he
 ·unfold setL
  split
  ·rw[List.nodup_append]
   exact⟨h.nodup _,by simp,fun x hx y hy e=>by have e2:y=i:=(by simpa using hy);rw[e,e2] at hx;exact hni _ hx⟩
  ·exact h.nodup k
 ·unfold setL setD
  by_cases ej:j=i
  ·subst ej
   constructor
   ·intro hm
    refine⟨d,by simp,?_⟩
    split at hm
    ·rename_i e;exact e.symm
    ·exact absurd hm (hni k)
   ·rintro⟨e,he,hp⟩
    simp at he
    subst he
    rw[if_pos hp.symm];simp
  ·simp only[if_neg ej]
   constructor
   ·intro hm
    split at hm
    ·rename_i e
     rcases List.mem_append.1 hm with h3|h3
     ·have:=(h.mem _ j).1 h3;rw[e];exact this
     ·exact absurd (by simpa using h3) ej
    ·exact(h.mem k j).1 hm
   ·intro hm
    have:=(h.mem k j).2 hm
    split
    ·rename_i e;rw[←e];exact List.mem_append_left _ this
    ·exact this
theorem q2t(h:qhg now du L)(i:Int)(hi:du i=some d):qhg now (delD du i) (setL L (pk now.toNat d.toNat) ((L (pk now.toNat d.toNat)).eraseIdx ((L (pk now.toNat d.toNat)).idxOf i))):=by
 rw[q36]
 refine⟨h.time,fun j e he=>?_,fun k=>?_,fun k j=>?_⟩
 ·unfold delD at he
  split at he
  ·cases he
  ·exact h.due j e he
 ·unfold setL
  split
  ·exact(h.nodup _).erase _
  ·exact h.nodup k
 ·unfold setL delD
  by_cases ej:j=i
  ·subst ej
   simp only[if_true]
   constructor
   ·intro hm
    split at hm
    ·exact absurd hm (by rw[(h.nodup _).mem_erase_iff];simp)
    ·rename_i e
     obtain⟨e',he',hp⟩:=(h.mem k j).1 hm
     rw[hi] at he';cases he'
     exact absurd hp.symm e
   ·rintro⟨e,he,_⟩;cases he
  ·simp only[if_neg ej]
   constructor
   ·intro hm
    split at hm
    ·rename_i e
     have:=(h.mem _ j).1 (List.mem_of_mem_erase hm)
     rw[e];exact this
    ·exact(h.mem k j).1 hm
   ·intro hm
    have:=(h.mem k j).2 hm
    split
    ·rename_i e
     rw[(h.nodup _).mem_erase_iff]
     exact⟨ej,by rw[←e];exact this⟩
    ·exact this
theorem q7w(x y:Int)(ts:Array TypeId)(ty:TypeId)(w:World):(Builtin.max_ ts ty #[I Z x,I Z y]).run prog w=.ok (I Z (max x y)) w:=by
 simp only[Builtin.max_,List.foldlM,Builtin.max2]
 by_cases h:x<y
 ·(have e:max x y=y:=by omega)
  simp[h,e]
 ·(have e:max x y=x:=by omega)
  simp[h,e]
theorem qnp{ops:Array Oper}{S:World->Prop}{o:Oper}(p q:Operand)(ts:Array TypeId)(ho:o.op=.call { callee:=.builtin .max,args:=#[p,q],argTypes:=ts })(hw:Region.wanted o (yielded ops a.tmps)=true)(x y:Int)(hx:a.eval p=I Z x)(hy:a.eval q=I Z y):YieldsIf prog ops S o (I Z (max x y)) a:=
 .inl ⟨hw,fun w _=>by
  unfold execOp
  simp only[ho,resolve,invoke,builtin,Sem.run_bind,Sem.run_pure,Result.andThen_ok,List.map_toArray,List.map_cons,List.map_nil,hx,hy,q7w]⟩
theorem qd3{H:Type}{P:Program}(w:World){o:Oper}{K':Act->World->Prop}{Q:Exit->Act->World->Prop}(m x v:Operand)(t:TypeId)(hop:o.op=Op.mapUpdate t m x v)(k e:TypeId)(K:Keyed P k)(ht:P.underlying t=some (.map k e))(R:Value->Option (DataW H×List MemPlace))(b n:Nat)(D:DataW H)(hm:a.eval m=.map (some b))(hown:w.ownsMap P k R b n D)(hn:n<maxLen)(key val:Value)(kl:Lit)(hx:a.eval x=key)(hv:a.eval v=val)(hkey:keyOf P k key=some kl)(d:DataW H)(ps:List MemPlace)(hval:R val=some (d,ps))(hK:∀w',w'.ownsMap P k R b (n+1) (D.put kl d)->w.grownBy w' (some b)->K' (a.put o.dst undef) w'):o.wp P a w K' Q:=by
 obtain⟨w',hrun,r1,r2⟩:=hown.update K ht hn hkey hval
 unfold Oper.wp
 simp[execOp,hop,hm,hx,hv,hrun,Result.andThen]
 exact hK w' r1 r2
theorem WM.newMap(h:WM w b t cs o now none D vs L):
  WM ((w.alloc (.map #[] 0)).setCell ⟨b,o+1,none⟩ (.map (some w.heap.size))) b t (cs.setIfInBounds (o+1) (.map (some w.heap.size))) o now (some w.heap.size) D vs L/\qb7 o cs (cs.setIfInBounds (o+1) (.map (some w.heap.size)))/\Gr (Fp b none vs) w ((w.alloc (.map #[] 0)).setCell ⟨b,o+1,none⟩ (.map (some w.heap.size)))/\∀c,Fp b (some w.heap.size) vs c->Fp b none vs c\/w.heap.size<=c:=by
 have hsz:=h.size;have hlt:=h.lt;have ha:=h.alloc (.map #[] 0);have hg1:Gr (fun c=>c=b) (w.alloc (.map #[] 0)) ((w.alloc (.map #[] 0)).setCell ⟨b,o+1,none⟩ (.map (some w.heap.size))):=Gr.setCell _ b _ _ rfl;have hg2:Gr (fun c=>c=b) w ((w.alloc (.map #[] 0)).setCell ⟨b,o+1,none⟩ (.map (some w.heap.size))):=(Gr.of_below (F:=fun c=>c=b) ((Below.refl _ _).alloc (Nat.le_refl _) _)).trans hg1 (fun x hx=>.inl hx);(have hD:D=.map []:=by rcases h.map with⟨_,hD⟩|⟨_,_,e,_⟩;exact hD;cases e)
 refine⟨⟨heap_setCell_same _ b _ _ t _ ha.row,by simpa using hsz,?_,?_,fun j hj=>?_,fun j hj=>?_,h.nil,h.apart,h.notb,?_⟩,qb7.set o _ cs _ om om,hg2.mono (fun x hx=>.inl hx),fun c hc=>?_⟩
 ·refine m7w ?_;exact h.c0
 ·rw[Array.getElem?_setIfInBounds_self_of_lt om]
 ·refine m7w ?_;exact h.cl j hj
 ·exact(h.own j hj).keepGr hg2 (fun c hc e=>h.notb j hj (by rw[hc,e]))
 ·refine .inr ⟨w.heap.size,0,rfl,by omega,?_⟩
  rw[hD]
  exact(World.ownsMap_made (H:=Unit) w prog 3 (plainElem prog 3)).setCell (by simp only;omega) _
 ·rcases hc with rfl|hc|hc
  ·exact .inl (.inl rfl)
  ·cases hc;exact .inr (Nat.le_refl _)
  ·exact .inl (.inr (.inr hc))
def ArmR(w w1:World)(b:Nat)(t:TypeId)(cs:Array Value)(o:Nat)(now:Nat)(du:Int->Option Int)(cnt0:Nat)(F:Nat->Prop)(i:Int)(cs1:Array Value)(bm:Nat)(D:DataW Unit)(vs1:Nat->Value)(L1:Nat->List Int):Prop:=
 WM w1 b t cs1 o (now:Int) (some bm) D vs1 L1/\qfm D du/\qhg (now:Int) (delD du i) L1/\sumR 448 L1=cnt0/\qb7 o cs cs1/\Gr F w w1/\(∀c,Fp b (some bm) vs1 c->F c\/w.heap.size<=c)
theorem q5c(du:Int->Option Int)(i d:Int):setD (delD du i) i d=setD du i d:=by funext j;unfold setD delD;split<;>rfl
theorem ArmR.fin{w3:World}{now:Nat}(h:ArmR w w1 b t cs o now du cnt0 F i cs1 bm D vs1 L1)(d:Nat)(hd:now<=d/\d<=1099511627776)(hi:(Lit.int .i64 i).wf=true)(hwf:∀i d,du i=some d->(Lit.int .i64 i).wf=true)(hc:cnt0<400)(hsz:Maps.size (D.put (kI i) (.lit (.int .i64 (d:Int))))=cnt0+1)(hg2:w1.grownBy w2 (some bm)){cs3:Array Value}{vs3:Nat->Value}(hw3:WM w3 b t cs3 o (now:Int) (some bm) (D.put (kI i) (.lit (.int .i64 (d:Int)))) vs3 (setL L1 (pk now d) (L1 (pk now d)++[i])))(hso:qb7 o cs1 cs3)(hg3:Gr (Fp b (some bm) vs1) w2 w3)(hf3:∀c,Fp b (some bm) vs3 c->Fp b (some bm) vs1 c\/w2.heap.size<=c):
  ∃cs' F',qca w3 b t cs' o (now:Int) (setD du i (d:Int)) (cnt0+1) F'/\qb7 o cs cs'/\Gr F w w3/\(∀c,F' c->F c\/w.heap.size<=c):=by
 obtain⟨hwm,hrd,hwt,hsum,hso1,hg1,hf1⟩:=h;(have hwp:=q06 hwt i (by simp[delD]) om (by omega:(d:Int)<=1099511627776))
 rw[q5c] at hwp
 have hp:pk now d<448:=qug now d om hd.2;have hss:=qnh 448 (pk now d) L1 (L1 (pk now d)++[i]) hp
 simp only[List.length_append,List.length_cons,List.length_nil] at hss
 have hw12:=hg2.size;have hw1:=hg1.size;have g2:Gr (fun c=>c=bm) w1 w2:=Gr.of_grown hg2 (fun c hc=>by cases hc;rfl)
 refine⟨cs3,Fp b (some bm) vs3,⟨some bm,_,vs3,_,hw3,hrd.put i d,hwp,fun j e he=>?_,by omega,hsz,by omega,fun c hc=>hc⟩,hso1.trans hso,?_,fun c hc=>?_⟩
 ·unfold setD at he
  split at he
  ·rename_i ej;rw[ej];exact hi
  ·exact hwf j e he
 ·refine(hg1.trans g2 (fun x hx=>?_)).trans hg3 (fun x hx=>hf1 x hx)
  rw[hx];exact hf1 bm (.inr (.inl rfl))
 ·rcases hf3 c hc with h1|h1
  ·exact hf1 c h1
  ·exact .inr om
theorem qjk{now:Nat}(h:ArmR w w1 b t cs o now du cnt0 F i cs1 bm D vs1 L1)(hc:cnt0<400)(hs:Maps.size D<=cnt0+1):
  (∃n,MapI w1 bm n D)/\MapI w1 bm (Maps.size D) D/\Maps.size D<=400/\(∀m,(L1 m).length<=1000000000):=by
 obtain⟨hwm,hrd,hwt,hsum,hso1,hg1,hf1⟩:=h
 obtain⟨n,_,hm⟩:=hwm.theMap
 refine⟨⟨n,hm⟩,qarb hm,by omega,fun m=>?_⟩
 by_cases hm:m<448
 ·have:=qr8 448 m L1 hm;omega
 ·rw[qor hwt m om];simp
theorem sZtw21(h:p:=by
 refine RD (fun W=>W.cell? ⟨b,o,none⟩=some (I Z (now:Int))/\W.cell? ⟨b,o+1,none⟩=some (.map (some bm))) ⟨c0,c1⟩ (fun _=>?_)
 refine tq 0 (V (some ⟨b,o,none⟩)) rfl ⟨c0,c1⟩ (tq 1 (V (some ⟨b,o,none⟩)) rfl ⟨c0,c1⟩ (tq 2 (V (some ⟨b,o+1,none⟩)) rfl ⟨c0,c1⟩ ?_));refine m5i ?_;refine tk 3 (.map (some bm)) rfl (Or.inl ⟨by kernel_rfl,by intro w hS;have hc:=hS.2;go_simp⟩) ⟨c0,c1⟩ (tq 4 (I Z i) rfl ⟨c0,c1⟩ (tq 5 (I Z due) rfl ⟨c0,c1⟩ ?_));refine m5i ?_;refine tq 6 (V (some ⟨b,o,none⟩)) rfl ⟨c0,c1⟩ (tq 7 (V (some ⟨b,o,none⟩)) rfl ⟨c0,c1⟩ (tq 8 (V (some ⟨b,o,none⟩)) rfl ⟨c0,c1⟩ ?_));refine m5i ?_;refine tk 9 (I Z (now:Int)) rfl (Or.inl ⟨by kernel_rfl,by intro w hS;have hc:=hS.1;go_simp⟩) ⟨c0,c1⟩ (tk 10 (I Z (max due (now:Int))) rfl (qnp (.tmp 51) (.tmp 55) _ rfl kr _ _ kr kr) ⟨c0,c1⟩ ?_);refine m5i ?_;refine AR [11] ?_
 refine AP (fun K hK=>?_) ?_
 ·refine qd3 _ _ _ _ 87 rfl 3 3 lawI underlying87 (plainElem prog 3) bm (Maps.size D) D rfl hm1 (by unfold maxLen;have:=HC.out;omega) _ _ _ rfl rfl hkey _ [] (plainElem_int underlying3 hwm) ?_;intro w2 hm2 hg2;replace hg2:=qf7 hg2;have hW2:=hW.setMap hg2 (by have:=HC.out;omega) hm2;replace c0:=(hW2.cell o).trans hW2.c0;replace c1:=(hW2.cell (o+1)).trans hW2.c1
  refine hK.out _ _ ⟨c0,c1⟩ (fun _=>?_)
  clear hK K;(try simp only[ZZ]);refine AN ?_
  rw[HMX.out] at hW2 hm2
  go_wp2_with (first|(go_at_call 185;refine(ql3 hW2 i d hi HAT.out hn HD.out.2 (HLL.out _)).mono ?_;rintro e w3 ⟨rfl,cs3,vs3,hw3,hso3,hg3,hf3⟩))
  go_ret
  have q:=HR.out.fin d HD.out hi hwf HC0.out HSZ.out hg2 hw3 hso3 hg3 hf3
  first|exact⟨rfl,q⟩|(rw[hbm] at q;exact⟨rfl,q⟩)|(rw[HCN.out] at q;exact⟨rfl,q⟩)
 exact AZ):p:=h
theorem q90{now0:Int}(h:qca w b t cs o now0 du cnt F)(i due:Int)(hi:(Lit.int .i64 i).wf=true)(h0:0<=due)(h1:due<=1099511627776)(hroom:du i=none->cnt<400):
  Calls prog 161 #[.pointer (some ⟨b,o,none⟩),.int .i64 i,.int .i64 due] w fun e w'=>e=.returned (.int .i64 0)/\∃cs' F',qca w' b t cs' o now0 (setD du i (max due now0)) (if (du i).isSome then cnt else cnt+1) F'/\qb7 o cs cs'/\Gr F w w'/\(∀c,F' c->F c\/w.heap.size<=c):=by
 obtain⟨mb,D,vs,L,hW0,hrd,hwt,hwf,hsum,hsize,hcnt,hF⟩:=h;have htm:=hwt.time
 obtain⟨now,rfl⟩:∃now:Nat,now0=now:=⟨now0.toNat,by omega⟩
 (have hn:now<=1099511627776:=by omega);have hkey:=keyOf_int_mk (P:=prog) (q:=.i64) (a:=i) underlying3 hi;(have CI:=fun w=>qrq due w om)
 obtain⟨d,hd⟩:∃d:Nat,max due (now:Int)=d:=⟨(max due (now:Int)).toNat,by omega⟩
 have HD:Hid (now<=d/\d<=1099511627776):=hid om;have HMX:Hid (max due (now:Int)=(d:Int)):=hd;have hwm:(Lit.int .i64 (max due (now:Int))).wf=true:=WalkArith.wf_i64 om
 have HAT:Hid (atW' (D.put (kI i) (.lit (.int .i64 (d:Int)))) i (d:Int)):=by
  have:=(hrd.put i d).time i
  exact hid (by simpa[dz,setD] using this)
 have HSP:Hid (Maps.size (D.put (kI i) (.lit (.int .i64 (d:Int))))=if Maps.has D (kI i) then Maps.size D else Maps.size D+1):=size_put hrd.tidy _;rw[hd];clear hd
 rcases hdi:du i with _|e0
 ·(have hhas:Maps.has D (kI i)=false:=by rw[hrd.has,hdi];rfl);(have HSZ:Hid (Maps.size (D.put (kI i) (.lit (.int .i64 (d:Int))))=cnt+1):=by have:=HSP.out;rw[hhas] at this;rw[this,hsize];rfl);have hlt:=hroom hdi;(have hwd:delD du i=du:=by funext j;unfold delD;split;(rename_i ej;rw[ej,hdi]);rfl)
  rcases mb with _|bm
  ·obtain⟨hW,hso1,hg1,hf1⟩:=hW0.newMap;(have HR:Hid (ArmR w _ b t cs o now du cnt F i _ w.heap.size D vs L):=⟨hW,hrd,by rw[hwd];exact hwt,hsum,hso1,hg1.mono hF,fun c hc=>(hf1 c hc).imp (hF c) id⟩)
   obtain⟨_,hm1,hs4,hll⟩:=qjk HR.out hlt om
   have HC:Hid (Maps.size D<=400):=hs4;have HC0:Hid (cnt<400):=hlt;have HLL:Hid (∀m,(L m).length<=1000000000):=hll;have hlook:=look_nil (w:=w) true lawI underlying87 (qjv _) hkey;have hlen:=len_nil (P:=prog) (w:=w) underlying87 3;have hmm:=@run_makeMap prog;(have hnn:∀w:World,(binOp .eql 87 (.map none) (.map none)).run prog w=.ok (.bool true) w:=fun _=>by kernel_rfl);have k1:w.cell? ⟨b,o+1,none⟩=some (.map none):=(hW0.cell _).trans hW0.c1;have k1':(w.alloc (.map #[] 0)).cell? ⟨b,o+1,none⟩=some (.map none):=qkw k1 _;have k2':(w.alloc (.map #[] 0)).frozen? ⟨b,o+1,none⟩=false:=(hW0.alloc (.map #[] 0)).free _;have c0:=(hW.cell o).trans hW.c0;have c1:=(hW.cell (o+1)).trans hW.c1;clear hW0 hwt htm hsum hsize hcnt hF hlt hll hs4 hso1 hg1 hf1 hrd hroom h0 h1
   generalize hbm:w.heap.size=bm at *
   go_enter func161,ntmps161
   go_wp2_with (first|(go_at_call 139;refine(CI _).mono ?_;refine m04 ?_))
   exact sZtw21
  ·have hW:=hW0;(have HR:Hid (ArmR w w b t cs o now du cnt F i cs bm D vs L):=⟨hW,hrd,by rw[hwd];exact hwt,hsum,qb7.refl _ _,Gr.refl _ _,fun c hc=>.inl (hF c hc)⟩);obtain⟨⟨n,hm⟩,hm1,hs4,hll⟩:=qjk HR.out hlt om;have HC:Hid (Maps.size D<=400):=hs4;have HC0:Hid (cnt<400):=hlt;have HLL:Hid (∀m,(L m).length<=1000000000):=hll;(have hnn:∀w:World,(binOp .eql 87 (.map (some bm)) (.map none)).run prog w=.ok (.bool false) w:=fun _=>by kernel_rfl);(have hge:¬(400:Int)<=(Maps.size D:Int):=by omega);have hlen:=hm.len underlying87 3;have c0:=(hW.cell o).trans hW.c0;have c1:=(hW.cell (o+1)).trans hW.c1;clear hW0 hwt htm hsum hsize hcnt hF hlt hll hs4 hrd hroom h0 h1
   go_enter func161,ntmps161
   go_wp2_with (first|(at_lookup;refine m6n ?_;intro cv hat hwc;clear hat hwc)|(go_at_call 139;refine(CI _).mono ?_;refine m04 ?_))
   exact sZtw21
 ·(have hhas:Maps.has D (kI i)=true:=by rw[hrd.has,hdi];rfl);obtain⟨he1,he2⟩:=hwt.due i e0 hdi
  obtain⟨e,rfl⟩:∃e:Nat,e0=e:=⟨e0.toNat,by omega⟩
  (have hmem:i∈L (pk now e):=(hwt.mem _ i).2 ⟨e,hdi,by simp⟩);have hpk:pk now e<448:=qug now e hn om;have hle:=qr8 448 _ L hpk;have hlp:=List.length_pos_of_mem hmem
  rcases mb with _|bm
  ·exfalso
   rcases hW0.map with⟨_,hD⟩|⟨_,_,e2,_⟩
   ·rw[hD] at hhas;simp[Maps.has] at hhas
   ·cases e2
  (have hat0:atW' D i (e:Int):=by have:=hrd.time i;unfold dz at this;rw[hdi] at this;exact this);have CT:=qwr hW0 i e hi hat0 hn om hmem om;have hse:=qnh 448 _ L ((L (pk now e)).eraseIdx ((L (pk now e)).idxOf i)) hpk
  rw[List.length_eraseIdx,if_pos (List.idxOf_lt_length_of_mem hmem)] at hse
  have hwd:=q2t hwt i hdi
  simp only[Int.toNat_natCast] at hwd
  (have HRX:Hid (∀w1 cs1 vs1,WM w1 b t cs1 o (now:Int) (some bm) D vs1 (setL L (pk now e) ((L (pk now e)).eraseIdx ((L (pk now e)).idxOf i)))->qb7 o cs cs1->Gr (Fp b (some bm) vs) w w1->(∀c,Fp b (some bm) vs1 c->Fp b (some bm) vs c\/w.heap.size<=c)->ArmR w w1 b t cs o now du (cnt-1) F i cs1 bm D vs1 (setL L (pk now e) ((L (pk now e)).eraseIdx ((L (pk now e)).idxOf i)))):=hid fun w1 cs1 vs1 x1 x2 x3 x4=>⟨x1,hrd,hwd,by omega,x2,x3.mono hF,fun c hc=>(x4 c hc).imp (hF c) id⟩);(have HSZ:Hid (Maps.size (D.put (kI i) (.lit (.int .i64 (d:Int))))=cnt-1+1):=by have:=HSP.out;rw[hhas] at this;exact hid (by rw[this,hsize];simp only[if_true];omega));have HC0:Hid (cnt-1<400):=hid om;have HCN:Hid (cnt-1+1=cnt):=hid om;have HS1:Hid (Maps.size D<=cnt-1+1):=hid om
  obtain⟨n,_,hm⟩:=hW0.theMap
  (have hnn:∀w:World,(binOp .eql 87 (.map (some bm)) (.map none)).run prog w=.ok (.bool false) w:=fun _=>by kernel_rfl);have k0:=(hW0.cell o).trans hW0.c0;have k1:=(hW0.cell (o+1)).trans hW0.c1;clear hW0 hwt htm hsum hsize hcnt hF hrd hroom h0 h1 hwd hse hle hlp hmem hpk he1 he2 hdi hat0
  generalize setL L (pk now e) ((L (pk now e)).eraseIdx ((L (pk now e)).idxOf i))=L1 at *
  go_enter func161,ntmps161
  go_wp2_with (first|(at_lookup;refine m6n ?_;intro cv hat hwc;clear hat hwc)|(go_at_call 139;refine(CI _).mono ?_;refine m04 ?_)|(go_at_call 184;refine CT.mono ?_;rintro e1 w1 ⟨rfl,cs1,vs1,hW,hso1,hg1,hf1⟩;have HR:Hid (ArmR w w1 b t cs o now du (cnt-1) F i cs1 bm D vs1 L1):=HRX.out w1 cs1 vs1 hW hso1 hg1 hf1;obtain⟨_,hm1,hs4,hll⟩:=qjk HR.out HC0.out HS1.out;have HC:Hid (Maps.size D<=400):=hs4;have HLL:Hid (∀m,(L1 m).length<=1000000000):=hll;have c0:=(hW.cell o).trans hW.c0;have c1:=(hW.cell (o+1)).trans hW.c1;clear hs4 hll))
  exact sZtw21
section
variable {w:World} {b o:Nat} {t:TypeId} {cs:Array Value} {now:Int} {du:Int->Option Int} {cnt:Nat} {F:Nat->Prop}
theorem qca.keep(h:qca w b t cs o now du cnt F)(hg:Gr G w w')(hG:∀c,F c->¬G c):qca w' b t cs o now du cnt F:=by
 obtain⟨mb,D,vs,L,hW,h2,h3,h4,h5,h6,h7,hF⟩:=h
 exact⟨mb,D,vs,L,hW.keep hg (fun c hc=>hG c (hF c hc)),h2,h3,h4,h5,h6,h7,hF⟩
theorem qca.below(h:qca w b t cs o now du cnt F)(hb:Below w.heap.size w w'):qca w' b t cs o now du cnt F:=h.keep (Gr.of_below (F:=fun _=>False) hb) (fun _ _=>id)
theorem qca.mono(h:qca w b t cs o now du cnt F)(hG:∀c,F c->G c):qca w b t cs o now du cnt G:=by
 obtain⟨mb,D,vs,L,hW,h2,h3,h4,h5,h6,h7,hF⟩:=h
 exact⟨mb,D,vs,L,hW,h2,h3,h4,h5,h6,h7,fun c hc=>hG c (hF c hc)⟩
theorem qca.time(h:qca w b t cs o now du cnt F):0<=now/\now<=1099511627776:=by obtain⟨_,_,_,_,_,_,h3,_⟩:=h;exact h3.time
theorem qca.due(h:qca w b t cs o now du cnt F)(hd:du i=some d):now<=d/\d<=1099511627776:=by obtain⟨_,_,_,_,_,_,h3,_⟩:=h;exact h3.due i d hd
theorem qca.wf(h:qca w b t cs o now du cnt F)(hd:du i=some d):(Lit.int .i64 i).wf=true:=by obtain⟨_,_,_,_,_,_,_,h4,_⟩:=h;exact h4 i d hd
theorem qca.many(h:qca w b t cs o now du cnt F):cnt<=400:=by obtain⟨_,_,_,_,_,_,_,_,_,_,h7,_⟩:=h;exact h7
theorem qca.row(h:qca w b t cs o now du cnt F):w.heap[b]?=some (.cells cs t (0,0)):=by obtain⟨_,_,_,_,h1,_⟩:=h;exact h1.row
theorem qca.own(h:qca w b t cs o now du cnt F):F b:=by obtain⟨_,_,_,_,_,_,_,_,_,_,_,hF⟩:=h;exact hF b (.inl rfl)
theorem q7r(h:qca w b t cs o now du cnt F):Calls prog 60 #[V (some ⟨b,o,none⟩)] w fun e w'=>e=.returned (I Z now)/\w'=w:=by
 obtain⟨mb,D,vs,L,hW,_⟩:=h
 have c0:=(hW.cell o).trans hW.c0
 go_enter func60,ntmps60
 go_wp2
 go_ret
 exact⟨rfl,rfl⟩
end
end
end Go.Proofs.YtonnjgmognbnbaaGreatDoor
