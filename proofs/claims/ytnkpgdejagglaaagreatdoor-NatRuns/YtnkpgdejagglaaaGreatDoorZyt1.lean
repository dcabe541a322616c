/-
  Of what a law stands on.
-/
import Derived.Deep.Cut
import Derived.SizedLaws
import Derived.Test.YtnkpgdejagglaaaGreatDoorZyi1
set_option linter.all false
namespace Go.Proofs.YtnkpgdejagglaaaGreatDoor
open _root_.BitVec renaming ofInt->bW
open _root_.Go renaming Calls->az,Value->ag,World->af,bodyPost_ret->aL,wpList->aM
open _root_.Go.Ending renaming returned->kK
open _root_.Go.IntKind renaming bits->jI,i64->eJ,signed->iB,wrap->jH
open _root_.Go.Lit renaming int->bR
open _root_.Go.Proofs.Tryz renaming prog->ah
open _root_.Go.RowKit renaming Below->aq,Hid->aK,wrap64->bK
open _root_.Nat renaming le_refl->au,le_trans->aw,lt_of_lt_of_le->bi
open Go.Value renaming int → I,pointer → V
open Go.IntKind renaming i64 → Z
open _root_.Go.Proofs.Tryz Go.ChangeShapes Go.WideShapes Go.ChangeAt Go.RowKit
set_option maxHeartbeats 16000000
set_option maxRecDepth 100000
variable {a:Act}{b:Nat}{p:Prop}{x:Int}{i:Bool}{t:TypeId}{w w1 w2:World}{cs:Array Value}{ops:Array Oper}{rest:List Oper}{o:Oper}{Q:Exit->Act->World->Prop}
def fl(x:Int):Nat:=(x%64).toNat
def qiR(x:Int):fl x<64:=by unfold fl;omega
theorem q8e(n b:Nat)(hb:63 &&& b=b):n &&& b=(n%64) &&& b:=by
 have h:n &&& 63=n%64:=Nat.and_two_pow_sub_one_eq_mod n 6
 grind
theorem qx6(x:Int)(b:Nat)(hb:63 &&& b=b)(hl:b<64):bits .and .i64 x (b:Int)=((fl x &&& b:Nat):Int):=by
 have e1:(bW 64 x).toNat%64=fl x:=by
  rw[BitVec.toNat_ofInt]
  unfold fl
  omega
 have e2:(bW 64 (b:Int)).toNat=b:=by
  grind
 have e3:(bW 64 x &&& bW 64 (b:Int)).toNat=fl x &&& b:=by
  grind [q8e]
 have hle:fl x &&& b<=b:=Nat.and_le_right
 unfold bits
 show eJ.wrap ((bW 64 x &&& bW 64 (b:Int)).toNat:Int)=_
 rw[e3]
 simp[jH,jI,iB]
 omega
def has(x:Int)(b:Nat):Bool:=(fl x &&& b)==b
def Gs(x:Int)(b:Nat):Bool:=(fl x &&& b)==0
theorem q70(x:Int)(b:Nat):(((fl x &&& b:Nat):Int)==(b:Int))=has x b:=by grind [has]
theorem q65(x:Int)(b:Nat):(((fl x &&& b:Nat):Int)==(0:Int))=Gs x b:=by grind [Gs]
theorem NT(x:Int):has x 18=(has x 2&&has x 16):=by
 have h:=qiR x
 unfold has
 generalize fl x=n at h
 revert n;decide
def cV(p s:Int):Int:=if p=1 then 8 else if p=17 then 20 else if s=2 then 60 else if s=1 then 4 else 6
theorem q9b(p s:Int):0<=cV p s/\cV p s<=60:=by grind [cV]
structure Fl where
 pr:Int
 s:Int
 i:Int
 a:Int
 port:Int
 rem:Int
 rp:Int
 st:Int
 sd:Int
 du:Int
def fc(k:Fl):Array ag:=#[I Z k.pr,I Z k.s,I Z k.i,I Z k.a,I Z k.port,I Z k.rem,I Z k.rp,I Z k.st,I Z k.sd,I Z k.du]
def j0(b:Bool):Int:=if b then 1 else 0
def gK(k:Fl)(x:Int)(inw:Bool):Fl×Bool:=
 if has x 4 then({ k with st:=4 },k.st != 4)
 else if k.st=1/\inw=true/\has x 18=true then({ k with st:=2 },true)
 else if k.st=2/\has x 1=true then({ k with st:=3,sd:=j0 inw },true)
 else if k.st=3/\has x 1=true/\j0 inw≠k.sd then({ k with st:=4 },true)
 else if k.st=1 then(k,!inw&&has x 2)
 else(k,k.st==2)
def jf(k:Fl)(x:Int)(inw:Bool):Fl×Bool:=if k.pr=6 then gK k x inw else if k.pr=17 then(k,!inw) else(k,true)
def cq(k:Fl)(x:Int)(inw:Bool)(now:Int):Fl:=if (jf k x inw).2 then { (jf k x inw).1 with du:=now+cV (jf k x inw).1.pr (jf k x inw).1.st } else(jf k x inw).1
def qh6{k:IntKind}{a b:Int}(h:a=b):kK (.int k a)=.returned (.int k b):=by rw[h]
def qj6{a b:Bool}(h:a=b):kK (.bool a)=.returned (.bool b):=by rw[h]
def p3(h:p:=by
 go_enter func133,ntmps133
 go_wp2
 go_ret
 exact⟨qh6 H.out,rfl⟩):p:=h
def qvq(p s:Int)(w:af):az ah 133 #[I Z p,I Z s] w fun e w'=>e=.returned (I Z (cV p s))/\w'=w:=by
 by_cases h1:p=1
 ·(have H:aK ((8:Int)=cV p s):=by show(8:Int)=cV p s;simp[cV,h1]);(have d1:(p==1)=true:=by simp[h1]);clear h1
  exact p3
 ·(have d1:(p==1)=false:=by simp[h1])
  by_cases h2:p=17
  ·(have H:aK ((20:Int)=cV p s):=by show(20:Int)=cV p s;simp[cV,h2]);(have d2:(p==17)=true:=by simp[h2]);clear h1 h2
   exact p3
  ·(have d2:(p==17)=false:=by simp[h2])
   by_cases h3:s=2
   ·(have H:aK ((60:Int)=cV p s):=by show(60:Int)=cV p s;simp[cV,h1,h2,h3]);(have d3:(s==2)=true:=by simp[h3]);clear h1 h2 h3
    exact p3
   ·(have d3:(s==2)=false:=by simp[h3])
    by_cases h4:s=1
    ·(have H:aK ((4:Int)=cV p s):=by show(4:Int)=cV p s;simp[cV,h1,h2,h3,h4]);(have d4:(s==1)=true:=by simp[h4]);clear h1 h2 h3 h4
     exact p3
    ·(have H:aK ((6:Int)=cV p s):=by show(6:Int)=cV p s;simp[cV,h1,h2,h3,h4]);(have d4:(s==1)=false:=by simp[h4]);clear h1 h2 h3 h4
     exact p3
def p4(h:p:=by
 go_enter func111,ntmps111
 go_wp2
 go_ret
 exact⟨qh6 H.out,rfl⟩):p:=h
def Sd(p s:Int)(w:af):az ah 111 #[I Z p,I Z s] w fun e w'=>e=.returned (I Z (cV p s))/\w'=w:=by
 by_cases h1:p=1
 ·(have H:aK ((8:Int)=cV p s):=by show(8:Int)=cV p s;simp[cV,h1]);(have d1:(p==1)=true:=by simp[h1]);clear h1
  exact p4
 ·(have d1:(p==1)=false:=by simp[h1])
  by_cases h2:p=17
  ·(have H:aK ((20:Int)=cV p s):=by show(20:Int)=cV p s;simp[cV,h2]);(have d2:(p==17)=true:=by simp[h2]);clear h1 h2
   exact p4
  ·(have d2:(p==17)=false:=by simp[h2])
   by_cases h3:s=2
   ·(have H:aK ((60:Int)=cV p s):=by show(60:Int)=cV p s;simp[cV,h1,h2,h3]);(have d3:(s==2)=true:=by simp[h3]);clear h1 h2 h3
    exact p4
   ·(have d3:(s==2)=false:=by simp[h3])
    by_cases h4:s=1
    ·(have H:aK ((4:Int)=cV p s):=by show(4:Int)=cV p s;simp[cV,h1,h2,h3,h4]);(have d4:(s==1)=true:=by simp[h4]);clear h1 h2 h3 h4
     exact p4
    ·(have H:aK ((6:Int)=cV p s):=by show(6:Int)=cV p s;simp[cV,h1,h2,h3,h4]);(have d4:(s==1)=false:=by simp[h4]);clear h1 h2 h3 h4
     exact p4
def nB(h:p:=by
 go_wp2
 go_ret
 exact⟨rfl,rfl⟩):p:=h
theorem qz9(x:Int)(b:Nat)(hb:63 &&& b=b)(hl:b<64)(w:af):az ah 70 #[I Z x,I Z (b:Int)] w fun e w'=>e=.returned (.bool (has x b))/\w'=w:=by
 have hA:=qx6 x b hb hl;have hH:=q70 x b;clear hb hl
 go_enter func70,ntmps70
 exact nB
theorem qw1(x:Int)(b:Nat)(hb:63 &&& b=b)(hl:b<64)(w:af):az ah 71 #[I Z x,I Z (b:Int)] w fun e w'=>e=.returned (.bool (Gs x b))/\w'=w:=by
 have hA:=qx6 x b hb hl;have hH:=q65 x b;clear hb hl
 go_enter func71,ntmps71
 exact nB
def qct(b:Bool)(w:af):az ah 210 #[.bool b] w fun e w'=>e=.returned (I Z (j0 b))/\w'=w:=by
 cases b
 .go_enter func210,ntmps210
  exact nB
 .go_enter func210,ntmps210
  exact nB
def qiS(x:Int)(b:Nat)(hb:63 &&& b=b)(hl:b<64)(p:Nat)(w:af)(cs:Array ag)(R:aP 77 w p cs)(hx:cs[7]?=some (I Z x)):az ah 109 #[I Z (b:Int),V (some ⟨p,0,none⟩)] w fun e w'=>e=.returned (.bool (has x b))/\w'=w:=by
 have hA:=qx6 x b hb hl;have hH:=q70 x b;have hc:=(R.cell 7).trans hx;clear hb hl R hx
 go_enter func109,ntmps109
 exact nB
def yV(k:Fl):(ah.info? 75).map (·.size)=some (fc k).size:=by kernel_rfl
def qa5(k:Fl):(fc k).all (·.oneCell')=true:=by kernel_rfl
def noF:Fl:=⟨0,0,0,0,0,0,0,0,0,0⟩
def NU(w:af):(zeroValue 75).run ah w=.ok (.agg (fc noF)) w:=by kernel_rfl
theorem Gt(x:Int)(b:Nat)(hb:63 &&& b=b)(hl:b<64)(r:Bool)(h:has x b=r)(w:af):az ah 70 #[I Z x,I Z (b:Int)] w fun e w'=>e=.returned (.bool r)/\w'=w:=by grind [qz9,has]
def IC{k k':Fl}{r:Bool}(h:gK k x i=(k',r)):kK (.tuple #[.agg (fc k'),.bool r])=.returned (.tuple #[.agg (fc (gK k x i).1),.bool (gK k x i).2]):=by rw[h]
def aP.drew(h:aP t w b cs):aP t w.drew b cs:=h
def TM{B:Nat}{w0:af}(h:aq B w0 w):aq B w0 w.drew:=⟨h.os,h.tape,h.output,h.size,h.block⟩
def qK(h:p):Hid p:=h
def Ue{P:Program}(p:Op)(ho:o.op=p)(h:aM P ops Q (o::rest) a w):aM P ops Q (o::rest) a w:=h
def DY(h:p:=by
 clear h4 h1 e1 e2
 go_wp2_with (first|(go_at_call 70;first|(go_fit (C4 _);refine gy ?_)|(go_fit (C1 _);refine gy ?_))|(refine lx 75 (.tmp 3) _ R3 ?_)|(refine Nf ?_;clear R3;intro w6 R6 t6 R3 hB))
 (refine bodyPost_ret (uD (p:=6) (u:=7) rfl _ _ _ _ rfl R6 _ underlying75 rfl (yV _)) rfl ⟨IC HR.out,hB⟩)):p:=h
def DZ(h:p:=by
 go_wp2_with (first|(go_at_call 70;first|(go_fit (C4 _);refine gy ?_) )|(refine lx 75 (.tmp 3) _ R3 ?_)|(refine Nf ?_;clear R3;intro w6 R6 t6 R3 hB))
 (refine bodyPost_ret (uD (p:=6) (u:=7) rfl _ _ _ _ rfl R6 _ underlying75 rfl (yV _)) rfl ⟨IC HR.out,hB⟩)):p:=h
def D1(h:p:=by
 refine oM ?_
 go_wp2_with fail
 (refine bodyPost_ret (uD (p:=6) (u:=7) rfl _ _ _ _ rfl R6 _ underlying75 rfl (yV _)) rfl ⟨IC HR.out,hB⟩)):p:=h
def Uf(k:Fl)(x:Int)(inw:Bool)(w:af):az ah 179 #[.agg (fc k),I Z x,.bool inw] w fun e w'=>e=.returned (.tuple #[.agg (fc (gK k x inw).1),.bool (gK k x inw).2])/\aq w.heap.size w w':=by
 refine gP ?_;intro hB
 go_enter func179,ntmps179
 go_upto_region 1 with(first|(refine bx 75 _ _ ?_;intro b3 w1 l3 R3 hb1;replace l3:=aw hB.size l3;refine kZ ?_;clear hB;intro hB)|(refine ax 6 75 NU ?_;intro b6 w2 l6 R6 hb2;have rJ:=R3.ne l6;replace l6:=aw hB.size l6;replace R3:=R3.below hb2;replace hB:=hB.trans (hb2.mono hB.size)))
 refine RD (fun W=>aP 75 W b3 (fc k)) R3 (fun _=>?_)
 (refine tq 0 (V (some ⟨b3,7,none⟩)) rfl R3 (tk 1 (I Z k.st) rfl (Or.inl ⟨by kernel_rfl,by intro w hS;have hc:=(hS.cell 7).trans (show(fc k)[7]?=some (I Z k.st) from rfl);go_simp⟩) R3 (tq 2 (.bool inw) rfl R3 ?_)));simp only[ZZ];refine AR [3] ?_
 refine AC (fun K hK=>?_) AZ
 go_simp;go_at_call 210;refine(qct inw _).mono ?_;refine qX ?_
 go_wp2_with fail
 refine hK.out _ _ R3 (fun _=>?_)
 clear hK K;refine tq 4 (I Z k.st) rfl R3 (tq 5 (I Z (j0 inw)) rfl R3 ?_);refine oM ?_;replace R3:=R3.drew;replace R6:=R6.drew;replace hB:=TM hB
 cases h4:has x 4 with
 | true=>
  (have C4:=fun w=>Gt x 4 (by decide) (by decide) _ h4 w);have HR:aK (gK k x inw=({ k with st:=4 },k.st != 4)):=qK (by simp[gK,h4]);clear h4
  go_wp2_with (first|(go_at_call 70;first|(go_fit (C4 _);refine gy ?_) )|((with_reducible refine Ue (.store 3 (.tmp 17) (.const (I Z 4))) rfl ?_);refine wF R3 rfl (.tmp 17) (.const (I Z 4)) rfl 7 rfl _ rfl _ rfl (fc { k with st:=4 }) rfl ?_;intro w4 R3 t4;replace R6:=t4.row R6 rJ.symm;replace hB:=t4.below _ _ l3 hB)|(refine lx 75 (.tmp 3) _ R3 ?_)|(refine Nf ?_;clear R3 hB;intro w6 R6 t6 R3 hB))
  (refine aL (uD (p:=6) (u:=7) rfl _ _ _ _ rfl R6 _ underlying75 rfl (yV _)) rfl ⟨IC HR.out,hB⟩)
 | false=>
  (have C4:=fun w=>Gt x 4 (by decide) (by decide) _ h4 w)
  by_cases e1:k.st=1
  ·(have s1:(k.st==1)=true:=by simp[e1]);(have s2:(k.st==2)=false:=by simp[e1]);(have s3:(k.st==3)=false:=by simp[e1])
   cases inw with
   | true=>
    cases vT:has x 18 with
    | true=>
     (have C18:=fun w=>Gt x 18 (by decide) (by decide) _ vT w);have HR:aK (gK k x true=({ k with st:=2 },true)):=qK (by simp[gK,h4,e1,vT]);clear h4 vT e1
     go_wp2_with (first|(go_at_call 70;first|(go_fit (C4 _);refine gy ?_)|(go_fit (C18 _);refine gy ?_) )|((with_reducible refine Ue (.store 3 (.tmp 31) (.const (I Z 2))) rfl ?_);refine wF R3 rfl (.tmp 31) (.const (I Z 2)) rfl 7 rfl _ rfl _ rfl (fc { k with st:=2 }) rfl ?_;intro w4 R3 t4;replace R6:=t4.row R6 rJ.symm;replace hB:=t4.below _ _ l3 hB)|(refine lx 75 (.tmp 3) _ R3 ?_)|(refine Nf ?_;clear R3 hB;intro w6 R6 t6 R3 hB))
     (refine aL (uD (p:=6) (u:=7) rfl _ _ _ _ rfl R6 _ underlying75 rfl (yV _)) rfl ⟨IC HR.out,hB⟩)
    | false=>
     (have C18:=fun w=>Gt x 18 (by decide) (by decide) _ vT w);have HR:aK (gK k x true=(k,false)):=qK (by simp[gK,h4,e1,vT]);clear h4 vT e1
     go_upto_region 15 with((go_at_call 70;first|(go_fit (C4 _);refine gy ?_)|(go_fit (C18 _);refine gy ?_) ))
     refine RD (fun W=>aP 75 W b3 (fc k)) R3 (fun _=>?_)
     refine tk 0 (.agg (fc k)) rfl (yx (fun _ h=>h)) R3 (tq 1 (.bool true) rfl R3 (tq 2 (.bool false) rfl R3 ?_))
     simp only[ZZ];refine tq 3 (.bool false) rfl R3 (tk 4 undef rfl (Or.inr ⟨by kernel_rfl,rfl⟩) R3 ?_);simp only[ZZ];refine AR [5] ?_
     refine AC (fun K hK=>?_) AZ
     rw[aT (ne_true_of_eq_false kr)]
     refine hK.out _ _ R3 (fun _=>?_)
     clear hK K;(try simp only[ZZ]);refine tq 6 (.bool false) rfl R3 ?_;simp only[ZZ];refine AR [7] ?_
     refine AP (fun K hK=>?_) AZ
     refine sy (fc k) R6 ?_;intro Er R6 t10;(replace R3:=t10.row R3 rJ);(replace hB:=t10.below _ _ l6 (TM hB))
     refine hK.out _ _ R3 (fun _=>?_)
     clear hK K;(try simp only[ZZ]);refine tq 8 (.bool false) rfl R3 ?_
     exact D1
   | false=>
    obtain⟨B2,h2⟩:∃B,has x 2=B:=⟨_,rfl⟩
    (have C2:=fun w=>Gt x 2 (by decide) (by decide) _ h2 w);have HR:aK (gK k x false=(k,B2)):=qK (by simp[gK,h4,e1,h2]);clear h4 h2 e1
    go_upto_region 15 with((go_at_call 70;first|(go_fit (C4 _);refine gy ?_) ))
    refine RD (fun W=>aP 75 W b3 (fc k)) R3 (fun _=>?_)
    refine tk 0 (.agg (fc k)) rfl (yx (fun _ h=>h)) R3 (tq 1 (.bool false) rfl R3 (tq 2 (.bool true) rfl R3 ?_))
    simp only[ZZ];refine tq 3 (.bool true) rfl R3 (tq 4 (I Z x) rfl R3 ?_);simp only[ZZ];refine AR [5] ?_
    refine AC (fun K hK=>?_) AZ
    go_simp;go_at_call 70;refine(C2 _).mono ?_;refine qX ?_
    go_wp2_with fail
    refine hK.out _ _ R3 (fun _=>?_)
    clear hK K;refine tq 6 (.bool B2) rfl R3 ?_;simp only[ZZ];refine AR [7] ?_
    refine AP (fun K hK=>?_) AZ
    refine sy (fc k) R6 ?_;intro Er R6 t10;(replace R3:=t10.row R3 rJ);(replace hB:=t10.below _ _ l6 (TM hB))
    refine hK.out _ _ R3 (fun _=>?_)
    clear hK K;(try simp only[ZZ]);refine tq 8 (.bool B2) rfl R3 ?_
    exact D1
  ·(have s1:(k.st==1)=false:=by simp[e1])
   cases h1:has x 1 with
   | true=>
    (have C1:=fun w=>Gt x 1 (by decide) (by decide) _ h1 w)
    by_cases e2:k.st=2
    ·(have s2:(k.st==2)=true:=by simp[e2]);have HR:aK (gK k x inw=({ k with st:=3,sd:=j0 inw },true)):=qK (by simp[gK,h4,h1,e2]);clear h4 h1 e1 e2
     go_wp2_with (first|(go_at_call 70;first|(go_fit (C4 _);refine gy ?_)|(go_fit (C1 _);refine gy ?_))|((with_reducible refine Ue (.store 3 (.tmp 41) (.const (I Z 3))) rfl ?_);refine wF R3 rfl (.tmp 41) (.const (I Z 3)) rfl 7 rfl _ rfl _ rfl (fc { k with st:=3 }) rfl ?_;intro w4 R3 t4;replace R6:=t4.row R6 rJ.symm;replace hB:=t4.below _ _ l3 hB)|((with_reducible refine Ue (.store 3 (.tmp 42) (.tmp 40)) rfl ?_);refine wF R3 rfl (.tmp 42) (.tmp 40) rfl 8 rfl _ rfl _ rfl (fc { k with st:=3,sd:=j0 inw }) rfl ?_;intro w4 R3 t4;replace R6:=t4.row R6 rJ.symm;replace hB:=t4.below _ _ l3 hB)|(refine lx 75 (.tmp 3) _ R3 ?_)|(refine Nf ?_;clear R3 hB;intro w6 R6 t6 R3 hB))
     (refine aL (uD (p:=6) (u:=7) rfl _ _ _ _ rfl R6 _ underlying75 rfl (yV _)) rfl ⟨IC HR.out,hB⟩)
    ·(have s2:(k.st==2)=false:=by simp[e2])
     by_cases e3:k.st=3
     ·(have s3:(k.st==3)=true:=by simp[e3])
      by_cases e5:j0 inw=k.sd
      ·(have s5:(j0 inw != k.sd)=false:=by simp[e5]);have HR:aK (gK k x inw=(k,false)):=qK (by simp[gK,h4,h1,e3,e5]);clear h4 h1 e1 e2 e3 e5
       go_wp2_with (first|(go_at_call 70;first|(go_fit (C4 _);refine gy ?_)|(go_fit (C1 _);refine gy ?_))|(refine lx 75 (.tmp 3) _ R3 ?_)|(refine fx R3 _ ?_)|(refine Nf ?_;clear R3 hB;intro w6 R6 t6 R3 hB))
       (refine aL (uD (p:=6) (u:=7) rfl _ _ _ _ rfl R6 _ underlying75 rfl (yV _)) rfl ⟨IC HR.out,hB⟩)
      ·(have s5:(j0 inw != k.sd)=true:=by simp[e5]);have HR:aK (gK k x inw=({ k with st:=4 },true)):=qK (by simp[gK,h4,h1,e3,e5]);clear h4 h1 e1 e2 e3 e5
       go_wp2_with (first|(go_at_call 70;first|(go_fit (C4 _);refine gy ?_)|(go_fit (C1 _);refine gy ?_))|((with_reducible refine Ue (.store 3 (.tmp 57) (.const (I Z 4))) rfl ?_);refine wF R3 rfl (.tmp 57) (.const (I Z 4)) rfl 7 rfl _ rfl _ rfl (fc { k with st:=4 }) rfl ?_;intro w4 R3 t4;replace R6:=t4.row R6 rJ.symm;replace hB:=t4.below _ _ l3 hB)|(refine lx 75 (.tmp 3) _ R3 ?_)|(refine fx R3 _ ?_)|(refine Nf ?_;clear R3 hB;intro w6 R6 t6 R3 hB))
       (refine aL (uD (p:=6) (u:=7) rfl _ _ _ _ rfl R6 _ underlying75 rfl (yV _)) rfl ⟨IC HR.out,hB⟩)
     ·(have s3:(k.st==3)=false:=by simp[e3]);have HR:aK (gK k x inw=(k,false)):=qK (by simp[gK,h4,e1,e2,e3]);clear h4 h1 e1 e2 e3
      exact DZ
   | false=>
    (have C1:=fun w=>Gt x 1 (by decide) (by decide) _ h1 w)
    by_cases e2:k.st=2
    ·(have s2:(k.st==2)=true:=by simp[e2]);(have s3:(k.st==3)=false:=by simp[e2]);have HR:aK (gK k x inw=(k,true)):=qK (by simp[gK,h4,h1,e2])
     exact DY
    ·(have s2:(k.st==2)=false:=by simp[e2]);have HR:aK (gK k x inw=(k,false)):=qK (by simp[gK,h4,h1,e1,e2])
     cases s3:(k.st==3) with
     | true=>
      exact DY
     | false=>
      clear h4 h1 e1 e2
      exact DZ
theorem quk(k:Fl)(x:Int)(w:af):az ah 179 #[.agg (fc k),I Z x,.bool true] w fun e w'=>e=.returned (.tuple #[.agg (fc (gK k x true).1),.bool (gK k x true).2])/\aq w.heap.size w w':=Uf k x true w
theorem qub(k:Fl)(x:Int)(w:af):az ah 179 #[.agg (fc k),I Z x,.bool false] w fun e w'=>e=.returned (.tuple #[.agg (fc (gK k x false).1),.bool (gK k x false).2])/\aq w.heap.size w w':=Uf k x false w
theorem qzt(k:Fl)(x:Int)(inw:Bool)(k':Fl)(r:Bool)(h:gK k x inw=(k',r))(w:af):az ah 179 #[.agg (fc k),I Z x,.bool inw] w fun e w'=>e=.returned (.tuple #[.agg (fc k'),.bool r])/\aq w.heap.size w w':=by
 (have h1:k'=(gK k x inw).1:=by rw[h]);(have h2:r=(gK k x inw).2:=by rw[h]);rw[h1,h2]
 cases inw
 .grind [qub]
 grind [quk]
def D2(h:p:=by
 go_enter func132,ntmps132
 go_wp2_with (first|(refine bx 75 _ _ ?_;intro b3 w1 l3 R3 hb1;replace l3:=Nat.le_trans hB.size l3;refine kZ ?_;clear hB;intro hB)|(refine ax 6 75 NU ?_;intro b6 w2 l6 R6 hb2;have rJ:=R3.ne l6;replace l6:=Nat.le_trans hB.size l6;replace R3:=R3.below hb2;replace hB:=hB.trans (hb2.mono hB.size))|(refine fx R3 _ ?_)|(refine lx 75 (.tmp 3) (fc k) R3 ?_)|(refine sx (fc k) R6 ?_;intro w6 R6 t6;replace R3:=t6.row R3 rJ;replace hB:=t6.below _ _ l6 hB)|(refine sx (fc k') R6 ?_;intro w6 R6 t6;replace R3:=t6.row R3 rJ;replace hB:=t6.below _ _ l6 hB)|(go_at_call 179;go_fit (CT _);rintro e w5 ⟨rfl,bh⟩;replace R3:=R3.below bh;replace R6:=R6.below bh;refine gl ?_;clear hB;intro hB))
 (refine bodyPost_ret (uD (p:=6) (u:=7) rfl _ _ _ _ rfl R6 _ underlying75 rfl (yV _)) rfl ⟨rfl,hB⟩)):p:=h
def xM(h:p:=by
 obtain⟨rfl,rfl⟩:=Prod.mk.inj h
 clear h e6 iD
 exact D2):p:=h
def q78(k:Fl)(x:Int)(inw:Bool)(k':Fl)(r:Bool)(h:jf k x inw=(k',r))(w:af):az ah 132 #[.agg (fc k),I Z x,.bool inw] w fun e w'=>e=.returned (.tuple #[.agg (fc k'),.bool r])/\aq w.heap.size w w':=by
 refine gP ?_;intro hB
 unfold jf at h
 by_cases e6:k.pr=6
 .rw[aZ e6] at h
  (have d6:(k.pr==6)=true:=by simp[e6]);(have CT:=fun w=>qzt k x inw k' r h w);clear h e6
  exact D2
 .rw[aT e6] at h
  (have d6:(k.pr==6)=false:=by simp[e6])
  by_cases iD:k.pr=17
  .rw[aZ iD] at h
   (have d17:(k.pr==17)=true:=by simp[iD])
   exact xM
  .rw[aT iD] at h
   (have d17:(k.pr==17)=false:=by simp[iD])
   exact xM
def qu1{k k':Fl}{now:Int}(h:cq k x i now=k'):kK (.agg (fc k'))=.returned (.agg (fc (cq k x i now))):=by rw[h]
def D3(h:p:=by
 go_enter func69,ntmps69
 go_wp2_with (first|(refine bx 75 (.tmp 0) _ ?_;intro b4 w1 l4 R4 hb1;replace l4:=Nat.le_trans hB.size l4;refine kZ ?_;clear hB;intro hB)|(refine bx 77 (.tmp 1) _ ?_;intro b5 w1 l5 R5 hb1;replace R4:=R4.below hb1;refine kZ ?_;clear hB;intro hB)|(refine ax 8 75 NU ?_;intro b8 w2 l8 R8 hb2;replace l8:=Nat.le_trans hB.size l8;replace R4:=R4.below hb2;replace R5:=R5.below hb2;replace hB:=hB.trans (hb2.mono hB.size))|(refine fx R5 _ ?_)|(refine lx 75 (.tmp 4) (fc k) R4 ?_)|(go_at_call 132;go_fit (CS _);rintro e w5 ⟨rfl,bh⟩;replace R8:=R8.below bh;clear R4 R5;refine gl ?_;clear hB;intro hB)|(refine ax 9 75 NU ?_;intro b9 w3 l9 R9 hb3;have n89:=R8.ne l9;replace l9:=Nat.le_trans hB.size l9;replace R8:=R8.below hb3;replace hB:=hB.trans (hb3.mono hB.size))|(refine sx (fc k1) R9 ?_;intro w6 R9 t6;replace R8:=t6.row R8 n89;replace hB:=t6.below _ _ l9 hB)|(refine fx R9 _ ?_)|(go_at_call 133;go_fit (CL _);refine gy ?_)|(refine wF R9 rfl _ _ rfl _ rfl _ rfl _ rfl (fc { k1 with du:=now+cV k1.pr k1.st }) (by first|(rw[hww];rfl)) ?_;intro w4 R9 t4;replace R8:=t4.row R8 n89;replace hB:=t4.below _ _ l9 hB)|(refine lx 75 (.tmp 9) (fc { k1 with du:=now+cV k1.pr k1.st }) R9 ?_)|(refine sx (fc { k1 with du:=now+cV k1.pr k1.st }) R8 ?_;intro w7 R8 t7;replace hB:=t7.below _ _ l8 hB)|(refine lx 75 (.tmp 9) (fc k1) R9 ?_)|(refine sx (fc k1) R8 ?_;intro w7 R8 t7;replace hB:=t7.below _ _ l8 hB))
 (refine bodyPost_ret (mW (p:=8) rfl _ _ _ _ rfl R8 _ underlying75 rfl (yV _)) rfl ⟨qu1 H.out,hB⟩)):p:=h
def qqt(k:Fl)(p:bM)(inw:Bool)(now:Int)(h0:0<=now)(h1:now<=1099511627776)(w:af):az ah 69 #[.agg (fc k),pv p,.bool inw,I Z now] w fun e w'=>e=.returned (.agg (fc (cq k p.flags inw now)))/\aq w.heap.size w w':=by
 refine gP ?_;intro hB
 obtain⟨k1,r,hT⟩:∃k1 r,jf k p.flags inw=(k1,r):=⟨_,_,rfl⟩
 (have CS:=fun w=>q78 k p.flags inw k1 r hT w);(have CL:=fun w=>qvq k1.pr k1.st w);(have hww:bK (now+cV k1.pr k1.st)=now+cV k1.pr k1.st:=by have:=q9b k1.pr k1.st;unfold bK;omega)
 unfold pv
 cases r
 ·(have H:aK (cq k p.flags inw now=k1):=by show cq k p.flags inw now=k1;simp[cq,hT]);clear hT h0 h1 hww
  exact D3
 ·(have H:aK (cq k p.flags inw now={ k1 with du:=now+cV k1.pr k1.st }):=by show cq k p.flags inw now={ k1 with du:=now+cV k1.pr k1.st };simp[cq,hT]);clear hT h0 h1
  exact D3
structure tK(b:Nat)(w w':af):Prop where
 size:w.heap.size<=w'.heap.size
 other:∀r,r≠b->r<w.heap.size->w'.heap[r]?=w.heap[r]?
 below:∀B w0,B<=b->aq B w0 w->aq B w0 w'
def tK.refl(b:Nat)(w:af):tK b w w:=⟨au _,fun _ _ _=>rfl,fun _ _ _ h=>h⟩
def tK.grow(h:tK b w w1)(hlt:b<w.heap.size)(hb:aq w1.heap.size w1 w2):tK b w w2:=
 ⟨aw h.size hb.size,fun r hr hl=>(hb.block r (bi hl h.size)).trans (h.other r hr hl),fun B w0 hB h0=>(h.below B w0 hB h0).trans (hb.mono (aw (Nat.le_of_lt (Nat.lt_of_le_of_lt hB hlt)) h.size))⟩
def tK.turn(h:tK b w w1)(t:gG b w1 w2):tK b w w2:=
 ⟨t.size▸h.size,fun r hr hl=>(t.other r hr).trans (h.other r hr hl),fun B w0 hB h0=>t.below B w0 hB (h.below B w0 hB h0)⟩
def tK.Gu{c:Nat}(h:tK b w w1)(hlt:b<w.heap.size)(t:gG c w1 w2)(hc:w.heap.size<=c):tK b w w2:=
 ⟨t.size▸h.size,fun r hr hl=>(t.other r (Nat.ne_of_lt (bi hl hc))).trans (h.other r hr hl),fun B w0 hB h0=>t.below B w0 (aw (Nat.le_of_lt (Nat.lt_of_le_of_lt hB hlt)) hc) (h.below B w0 hB h0)⟩
def tK.drew(h:tK b w w1):tK b w w1.drew:=⟨h.size,h.other,fun B w0 hB h0=>TM (h.below B w0 hB h0)⟩
def tK.row{r:Nat}{w':af}(h:tK b w w')(R:aP t w r cs)(hne:r≠b):aP t w' r cs:=(h.other r hne R.lt).trans R
def qd4{K:Act->af->Prop}(R:aP t w b cs)(x y:Operand)(ho:o.op=.store 3 x y)(f:Nat)(hx:a.eval x=V (some ⟨b,f,none⟩))(n:Int)(hy:a.eval y=I Z n)(m:Int)(hc:cs[f]?=some (I Z m))(ds:Array ag)(hd:cs.setIfInBounds f (I Z n)=ds)(hr:∀w',aP t w' b ds->gG b w w'->K (a.put o.dst undef) w'):o.wp ah a w K Q:=by
 have hcell:=(R.cell f).trans hc;have oB:=R.free f
 unfold Oper.wp execOp
 simp only[ho,hx,hy]
 simp[go_sem,hcell,oB,underlying3]
 exact hr _ (hd▸R.set) (GL _ _ _ _)
def WX(hgd:o.guard=none)(x:Operand)(ho:o.op=.box 3 x)(n:Int)(hx:a.eval x=I Z n)(hr:∀b w',w.heap.size<=b->aP 3 w' b #[I Z n]->aq w.heap.size w w'->aM ah ops Q rest (a.put o.dst (V (some ⟨b,0,none⟩))) w'):aM ah ops Q (o::rest) a w:=
 wpList_plain hgd fun K hK=>by
  have h':=hr w.heap.size (w.alloc (.cells #[I Z n] 3)) (au _) (aP.new 3 w _) ((Below.refl _ _).alloc (au _) _)
  unfold Oper.wp execOp
  simp only[ho,hx,Instr.box,newVar,Value.cells]
  simp[go_sem]
  exact hK _ _ h'
def sU(k:Fl)(s now:Int)(h0:0<=now)(h1:now<=1099511627776)(b4 b7:Nat)(w:af)(R4:aP 75 w b4 (fc k))(R7:aP 3 w b7 #[I Z now])(wA:b7≠b4):
  az ah 110 #[I Z s,V (some ⟨b4,0,none⟩),V (some ⟨b7,0,none⟩)] w fun e w'=>e=.returned (.agg (fc { k with st:=s,du:=now+cV k.pr s }))/\aP 75 w' b4 (fc { k with st:=s,du:=now+cV k.pr s })/\tK b4 w w':=by
 have L:=tK.refl b4 w;have hlt:=R4.lt;(have hww:bK (now+cV k.pr s)=now+cV k.pr s:=by have:=q9b k.pr s;unfold bK;omega);(have hwi:eJ.wrap (now+cV k.pr s)=now+cV k.pr s:=by have:=q9b k.pr s;simp[jH,jI,iB];omega);clear h0 h1
 go_enter func110,ntmps110
 go_wp2_with (first|(refine ax 4 75 NU ?_;intro bN w2 lN RN hb2;have nN:bN≠b4:=(R4.ne lN).symm;replace lN:=aw L.size lN;replace R4:=R4.below hb2;replace R7:=R7.below hb2;replace L:=L.grow hlt hb2)|(refine wF R4 rfl _ _ rfl _ rfl _ rfl _ rfl (fc { k with st:=s }) rfl ?_;intro w4 R4 t4;replace R7:=t4.row R7 wA;replace RN:=t4.row RN nN;replace L:=L.turn t4))
 refine RD (fun W=>W.cell? ⟨b4,0,none⟩=some (I Z k.pr)/\W.cell? ⟨b7,0,none⟩=some (I Z now)) ⟨(R4.cell 0).trans rfl,(R7.cell 0).trans rfl⟩ (fun _=>?_)
 refine tk 0 (I Z now) rfl (Or.inl ⟨by kernel_rfl,by intro w hS;have hc:=hS.2;go_simp⟩) ⟨(R4.cell 0).trans rfl,(R7.cell 0).trans rfl⟩ (tq 1 (V (some ⟨b4,0,none⟩)) rfl ⟨(R4.cell 0).trans rfl,(R7.cell 0).trans rfl⟩ (tq 2 (V (some ⟨b4,0,none⟩)) rfl ⟨(R4.cell 0).trans rfl,(R7.cell 0).trans rfl⟩ ?_));simp only[ZZ];refine tk 3 (I Z k.pr) rfl (Or.inl ⟨by kernel_rfl,by intro w hS;have hc:=hS.1;go_simp⟩) ⟨(R4.cell 0).trans rfl,(R7.cell 0).trans rfl⟩ (tq 4 (I Z s) rfl ⟨(R4.cell 0).trans rfl,(R7.cell 0).trans rfl⟩ ?_);simp only[ZZ];refine AR [5] ?_
 refine AC (fun K hK=>?_) AZ
 go_simp;go_at_call 111;refine(Sd k.pr s _).mono ?_;refine qX ?_
 go_wp2_with fail
 refine hK.out _ _ ⟨(R4.cell 0).trans rfl,(R7.cell 0).trans rfl⟩ (fun _=>?_)
 clear hK K;refine tq 6 (I Z (now+cV k.pr s)) rfl ⟨(R4.cell 0).trans rfl,(R7.cell 0).trans rfl⟩ (tq 7 (V (some ⟨b4,9,none⟩)) rfl ⟨(R4.cell 0).trans rfl,(R7.cell 0).trans rfl⟩ ?_);simp only[ZZ];refine AR [8] ?_
 refine AP (fun K hK=>?_) AZ
 refine qd4 R4 (.tmp 14) (.tmp 13) rfl 9 rfl (now+cV k.pr s) rfl _ rfl (fc { k with st:=s,du:=now+cV k.pr s }) rfl ?_;intro Er R4 t10;replace R7:=t10.row R7 wA;replace RN:=t10.row RN nN;(replace L:=L.drew.turn t10)
 refine hK.out _ _ ⟨(R4.cell 0).trans rfl,(R7.cell 0).trans rfl⟩ (fun _=>?_)
 clear hK K;(try simp only[ZZ]);refine AN ?_
 go_wp2_with (first|(refine lx 75 (.tmp 1) (fc { k with st:=s,du:=now+cV k.pr s }) R4 ?_)|(refine sx (fc { k with st:=s,du:=now+cV k.pr s }) RN ?_;intro w7 RN t7;replace R4:=t7.row R4 nN.symm;replace L:=L.Gu hlt t7 lN))
 (refine aL (mW (p:=4) rfl _ _ _ _ rfl RN _ underlying75 rfl (yV _)) rfl ⟨rfl,R4,L⟩)
theorem Ug(k:Fl)(x now:Int)(i:Bool)(e6:k.pr=6)(h4:has x 4=true)(e4:k.st=4):cq k x i now=k:=by
 obtain⟨c0,c1,c2,c3,c4,c5,c6,c7,c8,c9⟩:=k
 grind [cq,jf,gK,has]
def dm(p:bM):Array ag:=#[I Z p.ae,I Z p.src,I Z p.aj,I Z p.dst,I Z p.ai,I Z p.aG,I Z p.id,I Z p.flags,I Z p.seq,I Z p.bo,I Z p.br,.string p.body]
def MC(p:bM):pv p=.agg (dm p):=rfl
def NJ(p:bM):(ah.info? 77).map (·.size)=some (dm p).size:=by kernel_rfl
def pQ(x:Int)(b:Nat)(hb:63 &&& b=b)(hl:b<64)(r:Bool)(h:has x b=r)(q:Nat)(w:af)(p:bM)(R:aP 77 w q (dm p))(hx:p.flags=x):az ah 109 #[I Z (b:Int),V (some ⟨q,0,none⟩)] w fun e w'=>e=.returned (.bool r)/\w'=w:=by
 subst hx
 rw[←h]
 exact qiS p.flags b hb hl q w _ R rfl
def eI(p:Int):Int:=if p=6 then 1 else 2
def D4(h:p:=by
 go_wp2_with (first|(refine bx 77 (.tmp 0) (dm p) ?_;intro b1 w1 l1 R1 hb1;refine kZ ?_;intro hB)|(refine o6 R1 _ rfl ?_ _ rfl _ rfl ?_;· rfl))
 go_ret
 exact⟨qh6 HF.out,hB⟩):p:=h
def xN(h:p:=by
 clear e6
 go_enter func75,ntmps75
 exact D4):p:=h
def WZ(p:bM)(w:af):az ah 75 #[.agg (dm p)] w fun e w'=>e=.returned (I Z (eI p.ae))/\aq w.heap.size w w':=by
 refine gP ?_;intro hB
 by_cases e6:p.ae=6
 ·(have d6:(p.ae==6)=true:=by simp[e6]);(have HF:aK ((1:Int)=eI p.ae):=by show(1:Int)=eI p.ae;simp[eI,e6])
  exact xN
 ·(have d6:(p.ae==6)=false:=by simp[e6]);(have HF:aK ((2:Int)=eI p.ae):=by show(2:Int)=eI p.ae;simp[eI,e6])
  exact xN
def xO(h:p:=by
 clear e6
 go_enter func57,ntmps57
 exact D4):p:=h
def qeH(p:bM)(w:af):az ah 57 #[.agg (dm p)] w fun e w'=>e=.returned (I Z (eI p.ae))/\aq w.heap.size w w':=by
 refine gP ?_;intro hB
 by_cases e6:p.ae=6
 ·(have d6:(p.ae==6)=true:=by simp[e6]);(have HF:aK ((1:Int)=eI p.ae):=by show(1:Int)=eI p.ae;simp[eI,e6])
  exact xO
 ·(have d6:(p.ae==6)=false:=by simp[e6]);(have HF:aK ((2:Int)=eI p.ae):=by show(2:Int)=eI p.ae;simp[eI,e6])
  exact xO
def mj(p:bM):Bool:=p.ae==17||(p.ae==1&&p.flags==8)||(p.ae==6&&has p.flags 2&&Gs p.flags 21)
theorem qyx(x:Int)(b:Nat)(hb:63 &&& b=b)(hl:b<64)(r:Bool)(h:Gs x b=r)(w:af):az ah 71 #[I Z x,I Z (b:Int)] w fun e w'=>e=.returned (.bool r)/\w'=w:=by grind [qw1,Gs]
def p5(h:p:=by
 go_enter func35,ntmps35
 go_wp2_with (first|(refine bx 77 (.tmp 0) (dm p) ?_;intro b1 w1 l1 R1 hb1;refine kZ ?_;intro hB)|(refine o6 R1 _ rfl ?_ _ rfl _ rfl ?_;· rfl)|(go_at_call 70;go_fit (C2 _);refine gy ?_)|(go_at_call 71;go_fit (C21 _);refine gy ?_))
 go_ret
 exact⟨qj6 HF.out,hB⟩):p:=h
def qzv(p:bM)(w:af):az ah 35 #[.agg (dm p)] w fun e w'=>e=.returned (.bool (mj p))/\aq w.heap.size w w':=by
 refine gP ?_;intro hB
 obtain⟨r,hr⟩:∃r,mj p=r:=⟨_,rfl⟩
 rw[hr]
 unfold mj at hr
 by_cases iD:p.ae=17
 ·(have d17:(p.ae==17)=true:=by simp[iD]);(have HF:aK (true=r):=by show true=r;rw[←hr];simp[iD]);clear hr iD
  exact p5
 ·(have d17:(p.ae==17)=false:=by simp[iD])
  by_cases e1:p.ae=1
  ·(have d1:(p.ae==1)=true:=by simp[e1]);(have HF:aK ((p.flags==8)=r):=by show(p.flags==8)=r;rw[←hr];simp[e1]);clear hr iD e1
   exact p5
  ·(have d1:(p.ae==1)=false:=by simp[e1])
   by_cases e6:p.ae=6
   ·(have d6:(p.ae==6)=true:=by simp[e6])
    cases h2:has p.flags 2 with
    | true=>
     (have C2:=fun w=>Gt p.flags 2 (by decide) (by decide) _ h2 w);(have C21:=fun w=>qyx p.flags 21 (by decide) (by decide) _ rfl w);(have HF:aK (Gs p.flags 21=r):=by show Gs p.flags 21=r;rw[←hr];simp[e6,h2]);clear hr iD e1 e6 h2
     exact p5
    | false=>
     (have C2:=fun w=>Gt p.flags 2 (by decide) (by decide) _ h2 w);(have HF:aK (false=r):=by show false=r;rw[←hr];simp[e6,h2]);clear hr iD e1 e6 h2
     exact p5
   ·(have d6:(p.ae==6)=false:=by simp[e6]);(have HF:aK (false=r):=by show false=r;rw[←hr];simp[iD,e1,e6]);clear hr iD e1 e6
    exact p5
def q7u(k:Fl)(w:af):(Op.equalIn 10000 75 (.agg (fc k)) (.agg (fc k))).run ah w=.ok true w:=by
 rw[show(10000:Nat)=9999+1 from rfl,run_equalIn_struct w 9999 75 _ _ kr kr]
 unfold fc
 simp[go_sem,underlying75,underlying72]
def Fl.wf(k:Fl):Prop:=(bR .i64 k.pr).wf=true/\(bR .i64 k.s).wf=true/\(bR .i64 k.i).wf=true/\(bR .i64 k.a).wf=true/\(bR .i64 k.port).wf=true/\(bR .i64 k.rem).wf=true/\(bR .i64 k.rp).wf=true/\(bR .i64 k.st).wf=true/\(bR .i64 k.sd).wf=true/\(bR .i64 k.du).wf=true
def fd(H:Type)(k:Fl):DataW H:=.agg [.agg [.lit (.int .i64 k.pr),.lit (.int .i64 k.s),.lit (.int .i64 k.i),.lit (.int .i64 k.a),.lit (.int .i64 k.port)],.lit (.int .i64 k.rem),.lit (.int .i64 k.rp),.lit (.int .i64 k.st),.lit (.int .i64 k.sd),.lit (.int .i64 k.du)]
end Go.Proofs.YtnkpgdejagglaaaGreatDoor
