/-
  Of what a law stands on.
-/
import Derived.Test.YtnkpgdejagglaaaGreatDoorZyt1
set_option linter.all false
namespace Go.Proofs.YtnkpgdejagglaaaGreatDoor
open Go.Value renaming int → I,pointer → V
open Go.IntKind renaming i64 → Z
open _root_.Go.Proofs.Tryz Go.ChangeShapes Go.WideShapes Go.ChangeAt Go.RowKit
set_option maxHeartbeats 16000000
set_option maxRecDepth 100000
variable {p:Prop}
def iU(h:p:=by
 go_enter func51,ntmps51
 go_wp2_with (first|(refine bx 75 (.tmp 0) _ ?_;intro b4 w1 l4 R4 hb1;replace l4:=Nat.le_trans hB.size l4;refine kZ ?_;clear hB;intro hB)|(refine bx 77 (.tmp 1) (dm p) ?_;intro b5 w1 l5 R5 hb1;have n54:b5≠b4:=(R4.ne l5).symm;replace R4:=R4.below hb1;refine kZ ?_;clear hB;intro hB)|(refine WX rfl (.tmp 3) rfl now rfl ?_;intro b7 w1 l7 R7 hb1;have wA:b7≠b4:=(R4.ne l7).symm;replace R4:=R4.below hb1;replace R5:=R5.below hb1;refine kZ ?_;clear hB;intro hB)|(refine ax 8 75 NU ?_;intro b8 w2 l8 R8 hb2;have WA:b8≠b4:=(R4.ne l8).symm;replace l8:=Nat.le_trans hB.size l8;replace R4:=R4.below hb2;replace R5:=R5.below hb2;replace R7:=R7.below hb2;replace hB:=hB.trans (hb2.mono hB.size))|(refine fx R4 _ ?_)|(go_at_call 110;go_fit (sU k k.st now h0.out h1.out b4 b7 _ R4 R7 wA);refine F7 ?_;clear R8 hB;intro w5 EL L5 R8 hB)|(refine sx (fc { k with st:=k.st,du:=now+cV k.pr k.st }) R8 ?_;intro w7 R8 t7;replace hB:=t7.below _ _ l8 hB)|(go_at_call 109;go_fit (C4 _ _ R5);refine gy ?_)|(go_at_call 109;go_fit (C1 _ _ R5);refine gy ?_)|(go_at_call 110;go_fit (sU k 2 now h0.out h1.out b4 b7 _ R4 R7 wA);refine F7 ?_;clear R8 hB;intro w5 EL L5 R8 hB)|(refine sx (fc { k with st:=2,du:=now+cV k.pr 2 }) R8 ?_;intro w7 R8 t7;replace hB:=t7.below _ _ l8 hB)|(refine wF R4 rfl _ _ rfl _ rfl _ rfl _ rfl (fc { k with sd:=j0 false }) rfl ?_;intro w4 R4 t4;replace R5:=t4.row R5 n54;replace R7:=t4.row R7 wA;replace R8:=t4.row R8 WA;replace hB:=t4.below _ _ l4 hB)|(go_at_call 110;go_fit (sU { k with sd:=j0 false } 3 now h0.out h1.out b4 b7 _ R4 R7 wA);refine F7 ?_;clear R8 hB;intro w5 EL L5 R8 hB)|(refine sx (fc { k with sd:=j0 false,st:=3,du:=now+cV k.pr 3 }) R8 ?_;intro w7 R8 t7;replace hB:=t7.below _ _ l8 hB)|(go_at_call 109;go_fit (C2 _ _ R5);refine gy ?_)|(go_at_call 110;go_fit (sU k 1 now h0.out h1.out b4 b7 _ R4 R7 wA);refine F7 ?_;clear R8 hB;intro w5 EL L5 R8 hB)|(refine sx (fc { k with st:=1,du:=now+cV k.pr 1 }) R8 ?_;intro w7 R8 t7;replace hB:=t7.below _ _ l8 hB)|(go_at_call 110;go_fit (sU k 4 now h0.out h1.out b4 b7 _ R4 R7 wA);refine F7 ?_;clear R8 hB;intro w5 EL L5 R8 hB)|(refine sx (fc { k with st:=4,du:=now+cV k.pr 4 }) R8 ?_;intro w7 R8 t7;replace hB:=t7.below _ _ l8 hB)|(refine lx 75 (.tmp 4) (fc k) R4 ?_)|(refine sx (fc k) R8 ?_;intro w7 R8 t7;replace hB:=t7.below _ _ l8 hB))
 (refine bodyPost_ret (mW (p:=8) rfl _ _ _ _ rfl R8 _ underlying75 rfl (yV _)) rfl ⟨qu1 H.out,hB⟩)):p:=h
def D5(h:p:=by
 (have H:Hid (cq k p.flags false now={ k with st:=k.st,du:=now+cV k.pr k.st }):=by show cq k p.flags false now={ k with st:=k.st,du:=now+cV k.pr k.st };simp[cq,jf,gK,j0,e6,iD]);clear e6 iD
 exact iU):p:=h
def qeM(k:Fl)(p:bM)(now:Int)(h0:Hid (0<=now))(h1:Hid (now<=1099511627776))(w:World):Calls prog 51 #[.agg (fc k),.agg (dm p),.bool false,I Z now] w fun e w'=>e=.returned (.agg (fc (cq k p.flags false now)))/\Below w.heap.size w w':=by
 refine gP ?_;intro hB
 by_cases e6:k.pr=6
 ·(have d6:(k.pr != 6)=false:=by simp[e6])
  cases h4:has p.flags 4 with
  | true=>
   (have C4:=fun q w R=>pQ p.flags 4 (by decide) (by decide) _ h4 q w p R rfl)
   by_cases e4:k.st=4
   ·(have s4:(k.st==4)=true:=by simp[e4]);(have H:Hid (cq k p.flags false now=k):=by show cq k p.flags false now=k;exact Ug k p.flags now false e6 h4 e4);clear e6 h4 e4
    exact iU
   ·(have s4:(k.st==4)=false:=by simp[e4]);(have H:Hid (cq k p.flags false now={ k with st:=4,du:=now+cV k.pr 4 }):=by show cq k p.flags false now={ k with st:=4,du:=now+cV k.pr 4 };simp[cq,jf,gK,j0,e6,h4,e4]);clear e6 h4 e4
    exact iU
  | false=>
   (have C4:=fun q w R=>pQ p.flags 4 (by decide) (by decide) _ h4 q w p R rfl)
   by_cases e1:k.st=1
   ·(have s1:(k.st==1)=true:=by simp[e1])
    cases h2:has p.flags 2 with
    | true=>
     (have C2:=fun q w R=>pQ p.flags 2 (by decide) (by decide) _ h2 q w p R rfl);(have H:Hid (cq k p.flags false now={ k with st:=1,du:=now+cV k.pr 1 }):=by show cq k p.flags false now={ k with st:=1,du:=now+cV k.pr 1 };simp[cq,jf,gK,j0,e6,h4,e1,h2]);clear e6 h4 e1 h2
     exact iU
    | false=>
     (have C2:=fun q w R=>pQ p.flags 2 (by decide) (by decide) _ h2 q w p R rfl);(have H:Hid (cq k p.flags false now=k):=by show cq k p.flags false now=k;simp[cq,jf,gK,j0,e6,h4,e1,h2]);clear e6 h4 e1 h2
     exact iU
   ·(have s1:(k.st==1)=false:=by simp[e1])
    by_cases e2:k.st=2
    ·(have s2:(k.st==2)=true:=by simp[e2])
     cases gY:has p.flags 1 with
     | true=>
      refine H8 ?_;intro C1;(have H:Hid (cq k p.flags false now={ k with sd:=j0 false,st:=3,du:=now+cV k.pr 3 }):=by show cq k p.flags false now={ k with sd:=j0 false,st:=3,du:=now+cV k.pr 3 };simp[cq,jf,gK,j0,e6,h4,e2,gY]);clear e6 h4 e1 e2 gY
      exact iU
     | false=>
      refine H8 ?_;intro C1;(have H:Hid (cq k p.flags false now={ k with st:=2,du:=now+cV k.pr 2 }):=by show cq k p.flags false now={ k with st:=2,du:=now+cV k.pr 2 };simp[cq,jf,gK,j0,e6,h4,e2,gY]);clear e6 h4 e1 e2 gY
      exact iU
    ·(have s2:(k.st==2)=false:=by simp[e2])
     by_cases e3:k.st=3
     ·(have s3:(k.st==3)=true:=by simp[e3])
      cases gY:has p.flags 1 with
      | true=>
       refine H8 ?_;intro C1
       by_cases e5:k.sd=0
       ·(have s5:(k.sd != 0)=false:=by simp[e5]);(have H:Hid (cq k p.flags false now=k):=by show cq k p.flags false now=k;simp[cq,jf,gK,j0,e6,h4,e3,gY,e5]);clear e6 h4 e1 e2 e3 gY e5
        exact iU
       ·(have s5:(k.sd != 0)=true:=by simp[e5]);(have Uh:¬(0=k.sd):=fun h=>e5 h.symm);(have H:Hid (cq k p.flags false now={ k with st:=4,du:=now+cV k.pr 4 }):=by show cq k p.flags false now={ k with st:=4,du:=now+cV k.pr 4 };simp[cq,jf,gK,j0,e6,h4,e3,gY,Uh]);clear e6 h4 e1 e2 e3 gY e5 Uh
        exact iU
      | false=>
       refine H8 ?_;intro C1;(have H:Hid (cq k p.flags false now=k):=by show cq k p.flags false now=k;simp[cq,jf,gK,j0,e6,h4,e3,gY]);clear e6 h4 e1 e2 e3 gY
       exact iU
     ·(have s3:(k.st==3)=false:=by simp[e3]);(have H:Hid (cq k p.flags false now=k):=by show cq k p.flags false now=k;simp[cq,jf,gK,j0,e6,h4,e1,e2,e3]);clear e6 h4 e1 e2 e3
      exact iU
 ·(have d6:(k.pr != 6)=true:=by simp[e6])
  by_cases iD:k.pr=17
  ·(have d17:(k.pr==17)=true:=by simp[iD])
   exact D5
  ·(have d17:(k.pr==17)=false:=by simp[iD])
   exact D5
theorem qiT(x:Int)(h:0<=x):0<=x.tmod 2/\x.tmod 2<=1:=by grind
def xT(x b:Int):Bool:=(x.tdiv b).tmod 2==1
def qiU(x:Int)(h0:0<=x)(h1:x<=63):(has x 2&&Gs x 21)=(xT x 2 && !xT x 1 && !xT x 4 && !xT x 16):=by
 obtain⟨n,rfl⟩:∃n:Nat,x=n:=⟨x.toNat,by omega⟩
 (have h:n<64:=by omega);clear h0 h1
 revert n;decide
def ux(x b:Int)(h0:0<=x)(h1:x<=63)(b0:1<=b)(b1:b<=16)(r:Bool)(h:xT x b=r)(q:Nat)(w:World)(p:bM)(R:aP 77 w q (dm p))(hx:p.flags=x):Calls prog 112 #[I Z b,V (some ⟨q,0,none⟩)] w fun e w'=>e=.returned (.bool r)/\w'=w:=by
 subst hx
 rw[←h];have hc:=(R.cell 7).trans (show(dm p)[7]?=some (I Z p.flags) from rfl);(have hz:¬b=0:=by omega);have hq:p.flags.tdiv b=p.flags/b:=Int.tdiv_eq_ediv_of_nonneg h0;have hq0:0<=p.flags/b:=Int.ediv_nonneg h0 om;have zn:p.flags/b<=p.flags:=Int.ediv_le_self _ h0;(have my:wrap64 (p.flags.tdiv b)=p.flags.tdiv b:=by rw[hq];unfold wrap64;omega);have ht:=qiT (p.flags.tdiv b) om;clear R h hq hq0 zn ht h0 h1 b0 b1
 go_enter func112,ntmps112
 go_wp2
 go_ret
 exact⟨rfl,rfl⟩
def qkA{ops:Array Oper}{rest:List Oper}{o:Oper}{a:Act}{w:World}{Q:Exit->Act->World->Prop}(p:Op)(ho:o.op=p)(h:wpList prog ops Q (o::rest) a w):wpList prog ops Q (o::rest) a w:=h
def lJ(h:p:=by
 go_enter func52,ntmps52
 go_wp2_with (first|((with_reducible refine gB 77 0 ?_);refine bx 77 (.tmp 0) (dm p) ?_;intro b1 w1 l1 R1 hb1;refine kZ ?_;intro hB;have c0:World.cell? _ ⟨b1,0,none⟩=some (I Z p.ae):=(R1.cell 0).trans rfl;have c7:World.cell? _ ⟨b1,7,none⟩=some (I Z p.flags):=(R1.cell 7).trans rfl)|(go_at_call 112;go_fit (C2 _ _ R1);refine gy ?_)|(go_at_call 112;go_fit (C1 _ _ R1);refine gy ?_)|(go_at_call 112;go_fit (C4 _ _ R1);refine gy ?_)|(go_at_call 112;go_fit (Ui _ _ R1);refine gy ?_))
 go_ret
 exact⟨qj6 HF.out,hB⟩):p:=h
def D6(h:p:=by
 clear hr h0 h1 iD e1 e6 g2 g1 g4 g16
 exact lJ):p:=h
def qeJ(p:bM)(h0:0<=p.flags)(h1:p.flags<=63)(w:World):Calls prog 52 #[.agg (dm p)] w fun e w'=>e=.returned (.bool (mj p))/\Below w.heap.size w w':=by
 refine gP ?_;intro hB
 obtain⟨r,hr⟩:∃r,mj p=r:=⟨_,rfl⟩
 rw[hr];have hbh:=qiU p.flags h0 h1
 unfold mj at hr
 rw[Bool.and_assoc,hbh] at hr
 clear hbh
 by_cases iD:p.ae=17
 ·(have d17:(p.ae==17)=true:=by simp[iD]);(have HF:Hid (true=r):=by show true=r;rw[←hr];simp[iD]);clear hr h0 h1 iD
  exact lJ
 ·(have d17:(p.ae==17)=false:=by simp[iD])
  by_cases e1:p.ae=1
  ·(have d1:(p.ae==1)=true:=by simp[e1]);(have d6:(p.ae==6)=false:=by simp[e1])
   by_cases e8:p.flags=8
   ·(have d8:(p.flags==8)=true:=by simp[e8]);(have HF:Hid (true=r):=by show true=r;rw[←hr];simp[e1,e8]);clear hr h0 h1 iD e1 e8
    exact lJ
   ·(have d8:(p.flags==8)=false:=by simp[e8]);(have HF:Hid (false=r):=by show false=r;rw[←hr];simp[e1,e8]);clear hr h0 h1 iD e1 e8
    exact lJ
  ·(have d1:(p.ae==1)=false:=by simp[e1])
   by_cases e6:p.ae=6
   ·(have d6:(p.ae==6)=true:=by simp[e6])
    cases g2:xT p.flags 2 with
    | false=>
     (have C2:=fun q w R=>ux p.flags 2 h0 h1 (by decide) (by decide) _ g2 q w p R rfl);(have HF:Hid (false=r):=by show false=r;rw[←hr];simp[e6,g2]);clear hr h0 h1 iD e1 e6 g2
     exact lJ
    | true=>
     (have C2:=fun q w R=>ux p.flags 2 h0 h1 (by decide) (by decide) _ g2 q w p R rfl)
     cases g1:xT p.flags 1 with
     | true=>
      (have C1:=fun q w R=>ux p.flags 1 h0 h1 (by decide) (by decide) _ g1 q w p R rfl);(have HF:Hid (false=r):=by show false=r;rw[←hr];simp[e6,g2,g1]);clear hr h0 h1 iD e1 e6 g2 g1
      exact lJ
     | false=>
      (have C1:=fun q w R=>ux p.flags 1 h0 h1 (by decide) (by decide) _ g1 q w p R rfl)
      cases g4:xT p.flags 4 with
      | true=>
       (have C4:=fun q w R=>ux p.flags 4 h0 h1 (by decide) (by decide) _ g4 q w p R rfl);(have HF:Hid (false=r):=by show false=r;rw[←hr];simp[e6,g2,g1,g4]);clear hr h0 h1 iD e1 e6 g2 g1 g4
       exact lJ
      | false=>
       (have C4:=fun q w R=>ux p.flags 4 h0 h1 (by decide) (by decide) _ g4 q w p R rfl)
       cases g16:xT p.flags 16 with
       | true=>
        (have Ui:=fun q w R=>ux p.flags 16 h0 h1 (by decide) (by decide) _ g16 q w p R rfl);(have HF:Hid (false=r):=by show false=r;rw[←hr];simp[e6,g2,g1,g4,g16])
        exact D6
       | false=>
        (have Ui:=fun q w R=>ux p.flags 16 h0 h1 (by decide) (by decide) _ g16 q w p R rfl);(have HF:Hid (true=r):=by show true=r;rw[←hr];simp[e6,g2,g1,g4,g16])
        exact D6
   ·(have d6:(p.ae==6)=false:=by simp[e6]);(have HF:Hid (false=r):=by show false=r;rw[←hr];simp[iD,e1,e6]);clear hr h0 h1 iD e1 e6
    exact lJ
end Go.Proofs.YtnkpgdejagglaaaGreatDoor
