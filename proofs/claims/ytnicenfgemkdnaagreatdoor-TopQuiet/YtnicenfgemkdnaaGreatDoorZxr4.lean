/-
  Of what a law stands on.
-/
import Derived.Test.YtnicenfgemkdnaaGreatDoorZxr3
set_option linter.unusedSimpArgs false
set_option linter.unusedVariables false
namespace Go.Proofs.YtnicenfgemkdnaaGreatDoor
open _root_.Go.Proofs.Tryz
set_option maxHeartbeats 16000000
set_option maxRecDepth 100000
open Go.ChangeShapes Go.WideShapes Go.ChangeAt Go.RowKit
theorem sZxr41{p:Prop}(h:p:=by
 go_enter func88,ntmps88
 go_wp2_with (first|((with_reducible refine gA 139 ?_);refine ax 2 139 qcrb ?_;intro b2 w2 g2 R2 hb2;have n2:b2≠p:=(fun e=>by have:=R.lt;omega);replace R:=Row.below R hb2;replace hM:=hM.trans (qfb.ofBelow hb2))|((with_reducible refine gA 139 ?_);refine ax 5 139 qcrb ?_;intro b5 w2 g5 R5 hb2;have n5:b5≠p:=(fun e=>by have:=R.lt;omega);have n25:=R2.ne g5;replace g5:=Nat.le_trans hM.size g5;replace R2:=R2.below hb2;replace R:=Row.below R hb2;replace hM:=hM.trans (qfb.ofBelow hb2))|((with_reducible refine gL 9 11 ?_);refine qcm R _ rfl rfl 0 rfl (txt l) rfl ?_)|(go_at_call 121;go_fit (qc0b _ R om hl);rintro x w5 ⟨rfl,R',hM5⟩;replace R:=R';clear R';replace hM:=hM.trans hM5;replace R2:=hM5.row R2 n2;replace R5:=hM5.row R5 n5;clear hM5)|(go_at_call 121;go_fit (qc1b _ R om hl);rintro x w5 ⟨rfl,R',hM5⟩;replace R:=R';clear R';replace hM:=hM.trans hM5;replace R2:=hM5.row R2 n2;replace R5:=hM5.row R5 n5;clear hM5)|((with_reducible refine gS 3 21 20 ?_);refine qbb R5 rfl _ _ rfl 0 rfl (nAt l 2 2) rfl _ rfl (hdc (nAt l 2 2) 0 0 0) rfl ?_;intro w6 R5 t6;replace R2:=t6.row R2 n25;replace R:=t6.row R n5.symm;replace hM:=hM.turned t6 g5)|((with_reducible refine gS 3 24 23 ?_);refine qbb R5 rfl _ _ rfl 1 rfl (nAt l 4 4) rfl _ rfl (hdc (nAt l 2 2) (nAt l 4 4) 0 0) rfl ?_;intro w6 R5 t6;replace R2:=t6.row R2 n25;replace R:=t6.row R n5.symm;replace hM:=hM.turned t6 g5)|((with_reducible refine gS 3 27 26 ?_);refine qbb R5 rfl _ _ rfl 2 rfl (nAt l 8 4) rfl _ rfl (hdc (nAt l 2 2) (nAt l 4 4) (nAt l 8 4) 0) rfl ?_;intro w6 R5 t6;replace R2:=t6.row R2 n25;replace R:=t6.row R n5.symm;replace hM:=hM.turned t6 g5)|((with_reducible refine gL 3 33 ?_);refine qae R5 _ rfl ?_ 0 rfl _ rfl ?_;· rfl)|((with_reducible refine gL 3 38 ?_);refine qae R5 _ rfl ?_ 0 rfl _ rfl ?_;· rfl)|((with_reducible refine atOp (.build 139 #[]) rfl ?_);refine qcvb 139 rfl rfl _ qc5b ?_)|((with_reducible refine gS 139 2 47 ?_);refine sx 139 (.tmp 2) (.tmp 47) (hdc 0 0 0 0) R2 ?_;intro w6 R2 t6;replace R:=t6.row R n2.symm;replace hM:=hM.turned t6 g2))
 ((try simp only[Exit.inBlock,Exit.then]);refine bodyPost_ret (qbf (p:=2) (u:=3) rfl _ _ _ _ rfl R2 _ underlying139 rfl (qcqb _ _ _ _)) rfl ⟨hM,.inl ⟨HB.out,rfl,_,R⟩⟩)):p:=h
theorem sZxr42{p:Prop}(h:p:=by
 go_enter func88,ntmps88
 go_wp2_with (first|((with_reducible refine gA 139 ?_);refine ax 2 139 qcrb ?_;intro b2 w2 g2 R2 hb2;have n2:b2≠p:=(fun e=>by have:=R.lt;omega);replace R:=Row.below R hb2;replace hM:=hM.trans (qfb.ofBelow hb2))|((with_reducible refine gA 139 ?_);refine ax 5 139 qcrb ?_;intro b5 w2 g5 R5 hb2;have n5:b5≠p:=(fun e=>by have:=R.lt;omega);have n25:=R2.ne g5;replace g5:=Nat.le_trans hM.size g5;replace R2:=R2.below hb2;replace R:=Row.below R hb2;replace hM:=hM.trans (qfb.ofBelow hb2))|((with_reducible refine gL 9 11 ?_);refine qcm R _ rfl rfl 0 rfl (txt l) rfl ?_)|(go_at_call 121;go_fit (qc0b _ R om hl);rintro x w5 ⟨rfl,R',hM5⟩;replace R:=R';clear R';replace hM:=hM.trans hM5;replace R2:=hM5.row R2 n2;replace R5:=hM5.row R5 n5;clear hM5)|(go_at_call 121;go_fit (qc1b _ R om hl);rintro x w5 ⟨rfl,R',hM5⟩;replace R:=R';clear R';replace hM:=hM.trans hM5;replace R2:=hM5.row R2 n2;replace R5:=hM5.row R5 n5;clear hM5)|((with_reducible refine gS 3 21 20 ?_);refine qbb R5 rfl _ _ rfl 0 rfl (nAt l 2 2) rfl _ rfl (hdc (nAt l 2 2) 0 0 0) rfl ?_;intro w6 R5 t6;replace R2:=t6.row R2 n25;replace R:=t6.row R n5.symm;replace hM:=hM.turned t6 g5)|((with_reducible refine gS 3 24 23 ?_);refine qbb R5 rfl _ _ rfl 1 rfl (nAt l 4 4) rfl _ rfl (hdc (nAt l 2 2) (nAt l 4 4) 0 0) rfl ?_;intro w6 R5 t6;replace R2:=t6.row R2 n25;replace R:=t6.row R n5.symm;replace hM:=hM.turned t6 g5)|((with_reducible refine gS 3 27 26 ?_);refine qbb R5 rfl _ _ rfl 2 rfl (nAt l 8 4) rfl _ rfl (hdc (nAt l 2 2) (nAt l 4 4) (nAt l 8 4) 0) rfl ?_;intro w6 R5 t6;replace R2:=t6.row R2 n25;replace R:=t6.row R n5.symm;replace hM:=hM.turned t6 g5)|((with_reducible refine gL 3 33 ?_);refine qae R5 _ rfl ?_ 0 rfl _ rfl ?_;· rfl)|((with_reducible refine gL 3 38 ?_);refine qae R5 _ rfl ?_ 0 rfl _ rfl ?_;· rfl)|((with_reducible refine gS 3 50 49 ?_);refine qbb R5 rfl _ _ rfl 3 rfl (nAt l 16 2) rfl _ rfl (hdc (nAt l 2 2) (nAt l 4 4) (nAt l 8 4) (nAt l 16 2)) rfl ?_;intro w6 R5 t6;replace R2:=t6.row R2 n25;replace R:=t6.row R n5.symm;replace hM:=hM.turned t6 g5)|((with_reducible refine gL 3 53 ?_);refine fx R5 _ 3 _ ?_)|((with_reducible refine gL 3 57 ?_);refine qae R5 _ rfl ?_ 3 rfl _ rfl ?_;· rfl)|((with_reducible refine gL 3 63 ?_);refine qae R5 _ rfl ?_ 0 rfl _ rfl ?_;· rfl)|((with_reducible refine atOp (.build 139 #[]) rfl ?_);refine qcvb 139 rfl rfl _ qc5b ?_)|((with_reducible refine gS 139 2 68 ?_);refine sx 139 (.tmp 2) (.tmp 68) (hdc 0 0 0 0) R2 ?_;intro w6 R2 t6;replace R:=t6.row R n2.symm;replace hM:=hM.turned t6 g2))
 ((try simp only[Exit.inBlock,Exit.then]);refine bodyPost_ret (qbf (p:=2) (u:=3) rfl _ _ _ _ rfl R2 _ underlying139 rfl (qcqb _ _ _ _)) rfl ⟨hM,.inl ⟨HB.out,rfl,_,R⟩⟩)):p:=h
theorem sZxr43{p:Prop}(h:p:=by
 go_enter func88,ntmps88
 go_wp2_with (first|((with_reducible refine gA 139 ?_);refine ax 2 139 qcrb ?_;intro b2 w2 g2 R2 hb2;have n2:b2≠p:=(fun e=>by have:=R.lt;omega);replace R:=Row.below R hb2;replace hM:=hM.trans (qfb.ofBelow hb2))|((with_reducible refine gA 139 ?_);refine ax 5 139 qcrb ?_;intro b5 w2 g5 R5 hb2;have n5:b5≠p:=(fun e=>by have:=R.lt;omega);have n25:=R2.ne g5;replace g5:=Nat.le_trans hM.size g5;replace R2:=R2.below hb2;replace R:=Row.below R hb2;replace hM:=hM.trans (qfb.ofBelow hb2))|((with_reducible refine gL 9 11 ?_);refine qcm R _ rfl rfl 0 rfl (txt l) rfl ?_)|(go_at_call 121;go_fit (qc0b _ R om hl);rintro x w5 ⟨rfl,R',hM5⟩;replace R:=R';clear R';replace hM:=hM.trans hM5;replace R2:=hM5.row R2 n2;replace R5:=hM5.row R5 n5;clear hM5)|(go_at_call 121;go_fit (qc1b _ R om hl);rintro x w5 ⟨rfl,R',hM5⟩;replace R:=R';clear R';replace hM:=hM.trans hM5;replace R2:=hM5.row R2 n2;replace R5:=hM5.row R5 n5;clear hM5)|((with_reducible refine gS 3 21 20 ?_);refine qbb R5 rfl _ _ rfl 0 rfl (nAt l 2 2) rfl _ rfl (hdc (nAt l 2 2) 0 0 0) rfl ?_;intro w6 R5 t6;replace R2:=t6.row R2 n25;replace R:=t6.row R n5.symm;replace hM:=hM.turned t6 g5)|((with_reducible refine gS 3 24 23 ?_);refine qbb R5 rfl _ _ rfl 1 rfl (nAt l 4 4) rfl _ rfl (hdc (nAt l 2 2) (nAt l 4 4) 0 0) rfl ?_;intro w6 R5 t6;replace R2:=t6.row R2 n25;replace R:=t6.row R n5.symm;replace hM:=hM.turned t6 g5)|((with_reducible refine gS 3 27 26 ?_);refine qbb R5 rfl _ _ rfl 2 rfl (nAt l 8 4) rfl _ rfl (hdc (nAt l 2 2) (nAt l 4 4) (nAt l 8 4) 0) rfl ?_;intro w6 R5 t6;replace R2:=t6.row R2 n25;replace R:=t6.row R n5.symm;replace hM:=hM.turned t6 g5)|((with_reducible refine gL 3 33 ?_);refine qae R5 _ rfl ?_ 0 rfl _ rfl ?_;· rfl)|((with_reducible refine gL 3 38 ?_);refine qae R5 _ rfl ?_ 0 rfl _ rfl ?_;· rfl)|((with_reducible refine gS 3 50 49 ?_);refine qbb R5 rfl _ _ rfl 3 rfl (nAt l 16 2) rfl _ rfl (hdc (nAt l 2 2) (nAt l 4 4) (nAt l 8 4) (nAt l 16 2)) rfl ?_;intro w6 R5 t6;replace R2:=t6.row R2 n25;replace R:=t6.row R n5.symm;replace hM:=hM.turned t6 g5)|((with_reducible refine gL 3 53 ?_);refine fx R5 _ 3 _ ?_)|((with_reducible refine gL 3 57 ?_);refine qae R5 _ rfl ?_ 3 rfl _ rfl ?_;· rfl)|((with_reducible refine gL 3 63 ?_);refine qae R5 _ rfl ?_ 0 rfl _ rfl ?_;· rfl)|((with_reducible refine gL 139 5 ?_);refine lx 139 (.tmp 5) _ R5 ?_)|((with_reducible refine gS 139 2 69 ?_);refine sx 139 (.tmp 2) (.tmp 69) (hdc (nAt l 2 2) (nAt l 4 4) (nAt l 8 4) (nAt l 16 2)) R2 ?_;intro w6 R2 t6;replace R:=t6.row R n2.symm;replace hM:=hM.turned t6 g2))
 ((try simp only[Exit.inBlock,Exit.then]);refine bodyPost_ret (qbf (p:=2) (u:=3) rfl _ _ _ _ rfl R2 _ underlying139 rfl (qcqb _ _ _ _)) rfl ⟨hM,.inr ⟨HB.out,rfl,R⟩⟩)):p:=h
theorem qeib(p:Nat)(l:List UInt8)(d:Bool)(v:Value)(w:World)(R:Rdr w p l d v)(hl:l.length<=140737488351232):
  Calls prog 88 #[.pointer (some ⟨p,0,none⟩)] w fun x w'=>qfb p w w'/\((qctb l=1/\x=.returned (.tuple #[.agg (hdc 0 0 0 0),.int .i64 1])/\∃l',Rdr w' p l' d v)\/(qctb l=0/\x=.returned (.tuple #[.agg (hdc (nAt l 2 2) (nAt l 4 4) (nAt l 8 4) (nAt l 16 2)),.int .i64 0])/\Rdr w' p (l.drop 20) d v)):=by
 have hM:=qfb.refl p w
 have hsz:(txt l).size=l.length:=qck l
 replace R:Rdr w p (l.drop 0) d v:=R
 have HH:Hid (qctb l=qctb l):=rfl
 have q0:=qc2b l 0 2 om
 have q1:=qc2b l 2 2 om
 have q2:=qc2b l 18 2 om
 by_cases h16:l.length<16
 ·have HB:Hid (qctb l=1):=by show _=_;unfold qctb;rw[if_pos h16]
  have g0:(l.length:Int)<16:=by omega
  go_enter func88,ntmps88
  go_wp2_with (first|((with_reducible refine gA 139 ?_);refine ax 2 139 qcrb ?_;intro b2 w2 g2 R2 hb2;have n2:b2≠p:=(fun e=>by have:=R.lt;omega);replace R:=Row.below R hb2;replace hM:=hM.trans (qfb.ofBelow hb2))|((with_reducible refine gA 139 ?_);refine ax 5 139 qcrb ?_;intro b5 w2 g5 R5 hb2;have n5:b5≠p:=(fun e=>by have:=R.lt;omega);have n25:=R2.ne g5;replace g5:=Nat.le_trans hM.size g5;replace R2:=R2.below hb2;replace R:=Row.below R hb2;replace hM:=hM.trans (qfb.ofBelow hb2))|((with_reducible refine gL 9 11 ?_);refine qcm R _ rfl rfl 0 rfl (txt l) rfl ?_)|((with_reducible refine atOp (.build 139 #[]) rfl ?_);refine qcvb 139 rfl rfl _ qc5b ?_)|((with_reducible refine gS 139 2 16 ?_);refine sx 139 (.tmp 2) (.tmp 16) (hdc 0 0 0 0) R2 ?_;intro w6 R2 t6;replace R:=t6.row R n2.symm;replace hM:=hM.turned t6 g2))
  ((try simp only[Exit.inBlock,Exit.then]);refine bodyPost_ret (qbf (p:=2) (u:=3) rfl _ _ _ _ rfl R2 _ underlying139 rfl (qcqb _ _ _ _)) rfl ?_)
  exact⟨hM,Or.inl ⟨HB.out,rfl,l.drop 0,R⟩⟩
 have g16:¬(l.length:Int)<16:=by omega
 by_cases c0:nAt l 0 2≠10
 ·have HB:Hid (qctb l=1):=by show _=_;unfold qctb;rw[if_neg h16,if_pos om]
  have t0:(nAt l 0 2 != 10)=true:=by simpa using c0
  clear c0
  exact sZxr41
 have f0:(nAt l 0 2 != 10)=false:=by simpa using c0
 by_cases c1:nAt l 2 2<20
 ·have HB:Hid (qctb l=1):=by show _=_;unfold qctb;rw[if_neg h16,if_pos om]
  have t1:decide (nAt l 2 2<20)=true:=by simpa using c1
  clear c1
  exact sZxr41
 have f1:decide (nAt l 2 2<20)=false:=by simpa using c1
 by_cases c2:(l.length:Int)<nAt l 2 2
 ·have HB:Hid (qctb l=1):=by show _=_;unfold qctb;rw[if_neg h16,if_pos om]
  have t2:decide ((l.length:Int)<nAt l 2 2)=true:=by simpa using c2
  clear c2
  exact sZxr41
 have f2:decide ((l.length:Int)<nAt l 2 2)=false:=by simpa using c2
 by_cases c3:nAt l 12 4≠1
 ·have HB:Hid (qctb l=1):=by show _=_;unfold qctb;rw[if_neg h16,if_pos om]
  have t3:(nAt l 12 4 != 1)=true:=by simpa using c3
  clear c3
  exact sZxr41
 have f3:(nAt l 12 4 != 1)=false:=by simpa using c3
 have hl20:20<=l.length:=by omega
 by_cases k0:nAt l 16 2=2
 ·have e0:(nAt l 16 2 != 2)=false:=by simpa using k0
  by_cases k1:nAt l 18 2=nAt l 2 2-16
  ·have e1:(nAt l 18 2 != nAt l 2 2-16)=false:=by simpa using k1
   have HB:Hid (qctb l=0):=by show _=_;unfold qctb;rw[if_neg h16,if_neg om,if_neg om]
   clear c0 c1 c2 c3 k0 k1
   exact sZxr43
  ·have e1:(nAt l 18 2 != nAt l 2 2-16)=true:=by simpa using k1
   have HB:Hid (qctb l=1):=by show _=_;unfold qctb;rw[if_neg h16,if_neg om,if_pos om]
   clear c0 c1 c2 c3 k0 k1
   exact sZxr42
 ·have e0:(nAt l 16 2 != 2)=true:=by simpa using k0
  by_cases k2:nAt l 16 2=300
  ·have e2:(nAt l 16 2 != 300)=false:=by simpa using k2
   by_cases k1:nAt l 18 2=nAt l 2 2-16
   ·have e1:(nAt l 18 2 != nAt l 2 2-16)=false:=by simpa using k1
    have HB:Hid (qctb l=0):=by show _=_;unfold qctb;rw[if_neg h16,if_neg om,if_neg om]
    clear c0 c1 c2 c3 k0 k1 k2
    exact sZxr43
   ·have e1:(nAt l 18 2 != nAt l 2 2-16)=true:=by simpa using k1
    have HB:Hid (qctb l=1):=by show _=_;unfold qctb;rw[if_neg h16,if_neg om,if_pos om]
    clear c0 c1 c2 c3 k0 k1 k2
    exact sZxr42
  ·have e2:(nAt l 16 2 != 300)=true:=by simpa using k2
   have HB:Hid (qctb l=1):=by show _=_;unfold qctb;rw[if_neg h16,if_neg om,if_pos om]
   clear c0 c1 c2 c3 k0 k2
   exact sZxr42
end Go.Proofs.YtnicenfgemkdnaaGreatDoor
