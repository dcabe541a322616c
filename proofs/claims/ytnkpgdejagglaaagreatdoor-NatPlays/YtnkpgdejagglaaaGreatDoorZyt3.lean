/-
  Of what a law stands on.
-/
import Derived.Test.YtnkpgdejagglaaaGreatDoorZyt1
set_option linter.all false
namespace Go.Proofs.YtnkpgdejagglaaaGreatDoor
open Go.Value renaming int → I,pointer → V
open Go.IntKind renaming i64 → Z
open _root_.Go.Proofs.Tryz Go.ChangeShapes Go.WideShapes Go.ChangeAt Go.RowKit
set_option maxHeartbeats 16000000
set_option maxRecDepth 100000
def ie{p:Prop}(h:p:=by
 go_enter func51,ntmps51
 go_wp2_with (first|(refine bx 75 (.tmp 0) _ ?_;intro b4 w1 l4 R4 hb1;replace l4:=Nat.le_trans hB.size l4;refine kZ ?_;clear hB;intro hB)|(refine bx 77 (.tmp 1) (dm p) ?_;intro b5 w1 l5 R5 hb1;have n54:b5≠b4:=(R4.ne l5).symm;replace R4:=R4.below hb1;refine kZ ?_;clear hB;intro hB)|(refine WX rfl (.tmp 3) rfl now rfl ?_;intro b7 w1 l7 R7 hb1;have wA:b7≠b4:=(R4.ne l7).symm;replace R4:=R4.below hb1;replace R5:=R5.below hb1;refine kZ ?_;clear hB;intro hB)|(refine ax 8 75 NU ?_;intro b8 w2 l8 R8 hb2;have WA:b8≠b4:=(R4.ne l8).symm;replace l8:=Nat.le_trans hB.size l8;replace R4:=R4.below hb2;replace R5:=R5.below hb2;replace R7:=R7.below hb2;replace hB:=hB.trans (hb2.mono hB.size))|(refine fx R4 _ ?_)|(go_at_call 110;go_fit (sU k k.st now h0.out h1.out b4 b7 _ R4 R7 wA);refine F7 ?_;clear R8 hB;intro w5 EL L5 R8 hB)|(refine sx (fc { k with st:=k.st,du:=now+cV k.pr k.st }) R8 ?_;intro w7 R8 t7;replace hB:=t7.below _ _ l8 hB)|(go_at_call 109;go_fit (C4 _ _ R5);refine gy ?_)|(go_at_call 109;go_fit (C1 _ _ R5);refine gy ?_)|(refine wF R4 rfl _ _ rfl _ rfl _ rfl _ rfl (fc { k with sd:=j0 true }) rfl ?_;intro w4 R4 t4;replace R5:=t4.row R5 n54;replace R7:=t4.row R7 wA;replace R8:=t4.row R8 WA;replace hB:=t4.below _ _ l4 hB)|(go_at_call 110;go_fit (sU { k with sd:=j0 true } 3 now h0.out h1.out b4 b7 _ R4 R7 wA);refine F7 ?_;clear R8 hB;intro w5 EL L5 R8 hB)|(refine sx (fc { k with sd:=j0 true,st:=3,du:=now+cV k.pr 3 }) R8 ?_;intro w7 R8 t7;replace hB:=t7.below _ _ l8 hB)|(go_at_call 109;go_fit (C2 _ _ R5);refine gy ?_)|(go_at_call 109;go_fit (Ui _ _ R5);refine gy ?_)|(go_at_call 110;go_fit (sU k 2 now h0.out h1.out b4 b7 _ R4 R7 wA);refine F7 ?_;clear R8 hB;intro w5 EL L5 R8 hB)|(refine sx (fc { k with st:=2,du:=now+cV k.pr 2 }) R8 ?_;intro w7 R8 t7;replace hB:=t7.below _ _ l8 hB)|(go_at_call 110;go_fit (sU k 4 now h0.out h1.out b4 b7 _ R4 R7 wA);refine F7 ?_;clear R8 hB;intro w5 EL L5 R8 hB)|(refine sx (fc { k with st:=4,du:=now+cV k.pr 4 }) R8 ?_;intro w7 R8 t7;replace hB:=t7.below _ _ l8 hB)|(refine lx 75 (.tmp 4) (fc k) R4 ?_)|(refine sx (fc k) R8 ?_;intro w7 R8 t7;replace hB:=t7.below _ _ l8 hB))
 (refine bodyPost_ret (mW (p:=8) rfl _ _ _ _ rfl R8 _ underlying75 rfl (yV _)) rfl ⟨qu1 H.out,hB⟩)):p:=h
def qeR(k:Fl)(p:bM)(now:Int)(h0:Hid (0<=now))(h1:Hid (now<=1099511627776))(w:World):Calls prog 51 #[.agg (fc k),.agg (dm p),.bool true,I Z now] w fun e w'=>e=.returned (.agg (fc (cq k p.flags true now)))/\Below w.heap.size w w':=by
 refine gP ?_;intro hB
 by_cases e6:k.pr=6
 ·(have d6:(k.pr != 6)=false:=by simp[e6])
  cases h4:has p.flags 4 with
  | true=>
   (have C4:=fun q w R=>pQ p.flags 4 (by decide) (by decide) _ h4 q w p R rfl)
   by_cases e4:k.st=4
   ·(have s4:(k.st==4)=true:=by simp[e4]);(have H:Hid (cq k p.flags true now=k):=by show cq k p.flags true now=k;exact Ug k p.flags now true e6 h4 e4);clear e6 h4 e4
    exact ie
   ·(have s4:(k.st==4)=false:=by simp[e4]);(have H:Hid (cq k p.flags true now={ k with st:=4,du:=now+cV k.pr 4 }):=by show cq k p.flags true now={ k with st:=4,du:=now+cV k.pr 4 };simp[cq,jf,gK,j0,e6,h4,e4]);clear e6 h4 e4
    exact ie
  | false=>
   (have C4:=fun q w R=>pQ p.flags 4 (by decide) (by decide) _ h4 q w p R rfl)
   by_cases e1:k.st=1
   ·(have s1:(k.st==1)=true:=by simp[e1])
    cases h2:has p.flags 2 with
    | true=>
     (have C2:=fun q w R=>pQ p.flags 2 (by decide) (by decide) _ h2 q w p R rfl)
     cases Em:has p.flags 16 with
     | true=>
      (have Ui:=fun q w R=>pQ p.flags 16 (by decide) (by decide) _ Em q w p R rfl);(have H:Hid (cq k p.flags true now={ k with st:=2,du:=now+cV k.pr 2 }):=by show cq k p.flags true now={ k with st:=2,du:=now+cV k.pr 2 };simp[cq,jf,gK,j0,e6,h4,e1,NT,h2,Em]);clear e6 h4 e1 h2 Em
      exact ie
     | false=>
      (have Ui:=fun q w R=>pQ p.flags 16 (by decide) (by decide) _ Em q w p R rfl);(have H:Hid (cq k p.flags true now=k):=by show cq k p.flags true now=k;simp[cq,jf,gK,j0,e6,h4,e1,NT,h2,Em]);clear e6 h4 e1 h2 Em
      exact ie
    | false=>
     (have C2:=fun q w R=>pQ p.flags 2 (by decide) (by decide) _ h2 q w p R rfl);(have H:Hid (cq k p.flags true now=k):=by show cq k p.flags true now=k;simp[cq,jf,gK,j0,e6,h4,e1,NT,h2]);clear e6 h4 e1 h2
     exact ie
   ·(have s1:(k.st==1)=false:=by simp[e1])
    by_cases e2:k.st=2
    ·(have s2:(k.st==2)=true:=by simp[e2])
     cases gY:has p.flags 1 with
     | true=>
      refine H8 ?_;intro C1;(have H:Hid (cq k p.flags true now={ k with sd:=j0 true,st:=3,du:=now+cV k.pr 3 }):=by show cq k p.flags true now={ k with sd:=j0 true,st:=3,du:=now+cV k.pr 3 };simp[cq,jf,gK,j0,e6,h4,e2,gY]);clear e6 h4 e1 e2 gY
      exact ie
     | false=>
      refine H8 ?_;intro C1;(have H:Hid (cq k p.flags true now={ k with st:=2,du:=now+cV k.pr 2 }):=by show cq k p.flags true now={ k with st:=2,du:=now+cV k.pr 2 };simp[cq,jf,gK,j0,e6,h4,e2,gY]);clear e6 h4 e1 e2 gY
      exact ie
    ·(have s2:(k.st==2)=false:=by simp[e2])
     by_cases e3:k.st=3
     ·(have s3:(k.st==3)=true:=by simp[e3])
      cases gY:has p.flags 1 with
      | true=>
       refine H8 ?_;intro C1
       by_cases e5:k.sd=1
       ·(have s5:(k.sd != 1)=false:=by simp[e5]);(have H:Hid (cq k p.flags true now=k):=by show cq k p.flags true now=k;simp[cq,jf,gK,j0,e6,h4,e3,gY,e5]);clear e6 h4 e1 e2 e3 gY e5
        exact ie
       ·(have s5:(k.sd != 1)=true:=by simp[e5]);(have Uh:¬(1=k.sd):=fun h=>e5 h.symm);(have H:Hid (cq k p.flags true now={ k with st:=4,du:=now+cV k.pr 4 }):=by show cq k p.flags true now={ k with st:=4,du:=now+cV k.pr 4 };simp[cq,jf,gK,j0,e6,h4,e3,gY,Uh]);clear e6 h4 e1 e2 e3 gY e5 Uh
        exact ie
      | false=>
       refine H8 ?_;intro C1;(have H:Hid (cq k p.flags true now=k):=by show cq k p.flags true now=k;simp[cq,jf,gK,j0,e6,h4,e3,gY]);clear e6 h4 e1 e2 e3 gY
       exact ie
     ·(have s3:(k.st==3)=false:=by simp[e3]);(have H:Hid (cq k p.flags true now=k):=by show cq k p.flags true now=k;simp[cq,jf,gK,j0,e6,h4,e1,e2,e3]);clear e6 h4 e1 e2 e3
      exact ie
 ·(have d6:(k.pr != 6)=true:=by simp[e6])
  by_cases iD:k.pr=17
  ·(have d17:(k.pr==17)=true:=by simp[iD]);(have H:Hid (cq k p.flags true now=k):=by show cq k p.flags true now=k;simp[cq,jf,gK,j0,e6,iD]);clear e6 iD
   exact ie
  ·(have d17:(k.pr==17)=false:=by simp[iD]);(have H:Hid (cq k p.flags true now={ k with st:=k.st,du:=now+cV k.pr k.st }):=by show cq k p.flags true now={ k with st:=k.st,du:=now+cV k.pr k.st };simp[cq,jf,gK,j0,e6,iD]);clear e6 iD
   exact ie
end Go.Proofs.YtnkpgdejagglaaaGreatDoor
