/-
  Of what a law stands on.
-/
import Derived.Test.YtnicenfgemkdnaaGreatDoorZxr1
set_option linter.unusedSimpArgs false
set_option linter.unusedVariables false
namespace Go.Proofs.YtnicenfgemkdnaaGreatDoor
open _root_.Go.Proofs.Tryz
set_option maxHeartbeats 16000000
set_option maxRecDepth 100000
open Go.ChangeShapes Go.WideShapes Go.ChangeAt Go.RowKit
theorem qfdb(sl:Value)(es:List Ev)(w:World)(hM:EvAt w sl es):Calls prog 25 #[sl] w fun x w'=>x=.returned (ownS es)/\Below w.heap.size w w':=by
 have hB:=Below.refl w.heap.size w
 have hM0:=hM
 obtain⟨a0,cap,hsl⟩:=hM0.slice
 obtain⟨n,hn⟩:∃n,n=es.length:=⟨_,rfl⟩
 rw[←hn] at hsl
 subst hsl
 have HN:Hid (n=es.length):=hn
 clear hn hM0
 have hlt:=hM.lt
 go_enter func25,ntmps25
 go_wp2_with (first|((with_reducible refine gA 35 ?_);refine ax 2 35 qebb ?_;intro b2 w1 l2 R2 hb1;replace hB:=hB.trans (hb1.mono hB.size))|((with_reducible refine gA 35 ?_);refine ax 4 35 qebb ?_;intro b4 w1 l4 R4 hb1;have n24:=R2.ne l4;replace R2:=R2.below hb1;replace l4:=Nat.le_trans hB.size l4;replace hB:=hB.trans (hb1.mono hB.size)))
 go_loopw [12] (fun i W=>∃j:Nat,j<=es.length/\i=.int .i64 (j:Int)/\∃F:Nat->Int,Hid (qcub z0 es=qcub F (es.drop j))/\Below w.heap.size w W/\Row 35 W b2 (pc z0 g0')/\Row 35 W b4 (pc F g0')) (fun i _=>n-(intOf i).toNat)
 case atStart=>exact⟨0,by omega,rfl,z0,rfl,hB,R2,R4⟩
 case round=>
  clear hB R2 R4
  obtain⟨j,hj,rfl,F,HW,hB,R2,R4⟩:=hrel
  by_cases hlj:j<es.length
  ·have hjn:(j:Int)<(n:Int):=by have:=HN.out;omega
   have hjw:=q8g hlj hM.len
   obtain⟨e,he⟩:∃e,es[j]=e:=⟨_,rfl⟩
   have hMW:=hM.keep hB hlt
   have hrg:=hMW.at j hlj he
   have IR:=fun w2=>hM.index j hlj w2
   by_cases hk:okE e
   ·have CG:∀w,Calls prog 59 #[.agg (ec e)] w fun x w'=>x=.returned (.int .i64 0)/\Below w.heap.size w w':=fun w=>by have:=qro e w;rw[qs0 hk] at this;exact this
    by_cases hbh:bhE (F (at6 e)) e=0
    ·have HW2:Hid (qcub z0 es=_):=HW.out.trans (qf7b F hlj he hk hbh)
     clear HW
     have HW:=HW2
     clear HW2
     obtain⟨A,Z,hA,hK,hA3,hK6⟩:∃A Z:Nat,e.a=(A:Int)/\e.b=(Z:Int)/\A<3/\Z<6:=⟨e.a.toNat,e.b.toNat,by have:=hk.2.2.1;omega,by have:=hk.2.2.2;omega,by have:=hk.2.2.1;omega,by have:=hk.2.2.2;omega⟩
     have hat:at6 e=6*A+Z:=by unfold at6;omega
     have h18:6*A+Z<18:=by omega
     have hs0:=hk.2.1.1
     have hs1:=hk.2.1.2
     rw[hat] at hbh HW
     have cA:(ec e)[2]?=some (.int .i64 (A:Int)):=by rw[←hA];rfl
     have cK:(ec e)[3]?=some (.int .i64 (Z:Int)):=by rw[←hK];rfl
     have CO:∀w,Calls prog 60 #[.int .i64 (F (6*A+Z)),.agg (ec e)] w fun x w'=>x=.returned (.tuple #[.int .i64 (ownN e),.int .i64 0])/\Below w.heap.size w w':=fun w=>by have:=qd0b (F (6*A+Z)) e w hs0 hs1;rw[show bhN (F (6*A+Z)) e=ownN e by unfold bhN;rw[if_pos hbh],hbh] at this;exact this
     clear hA hK hat hbh he hk
     go_upto_region 8 with(first|((with_reducible refine atOp (.indexAddr 52 (.tmp 10) (.tmp 12)) rfl ?_);refine qh0 52 (.tmp 10) (.tmp 12) rfl rfl _ _ _ rfl rfl (IR _) ?_)|((with_reducible refine gL 105 14 ?_);refine qlr (.tmp 14) rfl rfl _ _ rfl e hrg ?_)|((with_reducible refine gA 105 ?_);refine ax 6 105 qr3 ?_;intro b6 w3 l6 R6 hb3;have n26:=R2.ne l6;have n46:=R4.ne l6;replace l6:=Nat.le_trans hB.size l6;replace R2:=R2.below hb3;replace R4:=R4.below hb3;replace hB:=hB.trans (hb3.mono hB.size);clear hrg hMW)|((with_reducible refine gS 105 6 15 ?_);refine qab 105 rfl (.tmp 6) (.tmp 15) rfl b6 rfl (ec e) rfl _ R6 rfl (qf2 e) (qqy e) ?_;intro w4 R6 t4;replace R2:=t4.row R2 n26;replace R4:=t4.row R4 n46;replace hB:=t4.below _ _ l6 hB)|((with_reducible refine gL 105 6 ?_);refine qac 105 (.tmp 6) rfl rfl b6 rfl (ec e) R6 _ underlying105 rfl (qf2 e) ?_)|(go_at_call 59;go_fit (CG _);rintro x w5 ⟨rfl,hb5⟩;replace R6:=R6.below hb5;replace R2:=R2.below hb5;replace R4:=R4.below hb5;replace hB:=hB.trans (hb5.mono hB.size)))
     refine RD (fun W=>Row 105 W b6 (ec e)/\Row 35 W b4 (pc F g0')) ⟨R6,R4⟩ (fun _=>?_)
     refine tq 0 (.pointer (some ⟨b6,2,none⟩)) rfl ⟨R6,R4⟩ (tk 1 (.int .i64 (A:Int)) rfl (qim (.tmp 23) rfl kr b6 2 kr (A:Int) (fun w h=>(h.1.cell 2).trans cA)) ⟨R6,R4⟩ (tq 2 (.pointer (some ⟨b6,3,none⟩)) rfl ⟨R6,R4⟩ ?_))
     simp only[ZZ]
     refine tk 3 (.int .i64 (Z:Int)) rfl (qim (.tmp 25) rfl kr b6 3 kr (Z:Int) (fun w h=>(h.1.cell 3).trans cK)) ⟨R6,R4⟩ (tq 4 (.pointer (some ⟨b4,0,none⟩)) rfl ⟨R6,R4⟩ (tk 5 (.pointer (some ⟨b4,6*A,none⟩)) rfl (qgk 32 (.tmp 27) (.tmp 24) rfl kr _ _ _ kr kr (idxA b4 A hA3)) ⟨R6,R4⟩ ?_))
     simp only[ZZ]
     refine tk 6 (.pointer (some ⟨b4,6*A+Z,none⟩)) rfl (qgk 31 (.tmp 28) (.tmp 26) rfl kr _ _ _ kr kr (idxK b4 A Z hK6)) ⟨R6,R4⟩ (tk 7 (.int .i64 (F (6*A+Z))) rfl (qim (.tmp 29) rfl kr b4 (6*A+Z) kr (F (6*A+Z)) (fun w h=>(h.2.cell _).trans (q1x F g0' _ h18))) ⟨R6,R4⟩ (tk 8 (.agg (ec e)) rfl (qav 105 (.tmp 6) rfl kr b6 kr (ec e) (fun w h=>h.1) _ underlying105 rfl (qf2 e)) ⟨R6,R4⟩ ?_))
     simp only[ZZ]
     refine AR [9] ?_
     refine AC (fun K hK=>?_) ?_
     ·go_simp
      go_at_call 60;refine(CO _).mono ?_;rintro x w5 ⟨rfl,hb5⟩;replace hb5:=qmk hb5;replace R6:=R6.below hb5;replace R2:=R2.below hb5;replace R4:=R4.below hb5;replace hB:=hB.trans (hb5.mono hB.size)
      go_wp2_with fail
      refine hK.out _ _ ⟨R6,R4⟩ (fun _=>?_)
      clear hK K
      try simp only[ZZ]
      refine tq 10 (.tuple #[.int .i64 (ownN e),.int .i64 0]) rfl ⟨R6,R4⟩ (tq 11 (.int .i64 (ownN e)) rfl ⟨R6,R4⟩ (tq 12 (.int .i64 0) rfl ⟨R6,R4⟩ ?_))
      simp only[ZZ]
      refine tq 13 (.int .i64 (ownN e)) rfl ⟨R6,R4⟩ (tq 14 (.int .i64 0) rfl ⟨R6,R4⟩ ?_)
      simp only[ZZ]
      refine AN ?_
      go_upto_region 11 with fail
      refine RD (fun W=>Row 105 W b6 (ec e)) R6 (fun _=>?_)
      refine tq 0 (.pointer (some ⟨b6,2,none⟩)) rfl R6 (tk 1 (.int .i64 (A:Int)) rfl (qim (.tmp 39) rfl kr b6 2 kr (A:Int) (fun w h=>(h.cell 2).trans cA)) R6 (tq 2 (.pointer (some ⟨b6,3,none⟩)) rfl R6 ?_))
      simp only[ZZ]
      refine tk 3 (.int .i64 (Z:Int)) rfl (qim (.tmp 41) rfl kr b6 3 kr (Z:Int) (fun w h=>(h.cell 3).trans cK)) R6 (tq 4 (.int .i64 (ownN e)) rfl R6 (tq 5 (.pointer (some ⟨b4,0,none⟩)) rfl R6 ?_))
      simp only[ZZ]
      refine tk 6 (.pointer (some ⟨b4,6*A,none⟩)) rfl (qgk 32 (.tmp 44) (.tmp 40) rfl kr _ _ _ kr kr (idxA b4 A hA3)) R6 (tk 7 (.pointer (some ⟨b4,6*A+Z,none⟩)) rfl (qgk 31 (.tmp 45) (.tmp 42) rfl kr _ _ _ kr kr (idxK b4 A Z hK6)) R6 ?_)
      simp only[ZZ]
      refine AR [8] ?_
      refine AC (fun K hK=>?_) ?_
      ·rw[if_pos kr]
       refine qfzb R4 (.tmp 46) (.tmp 43) rfl (6*A+Z) kr (ownN e) kr _ (q1x F g0' _ h18) _ (q97 F g0' _ _ h18) ?_;intro w7 R4 t7;replace R6:=t7.row R6 n46.symm;replace R2:=t7.row R2 n24;replace hB:=t7.below _ _ l4 (qcxb hB)
       refine hK.out _ _ R6 (fun _=>?_)
       clear hK K
       try simp only[ZZ]
       refine AN ?_
       go_wp2
       go_roundw
       case rel=>first|exact⟨j+1,by omega,by go_num,_,HW,hB,R2,R4⟩|((repeat apply Exists.intro);exact⟨⟨j+1,by omega,by go_num,_,HW,hB,R2,R4⟩,rfl⟩)
       case measure=>(first|rw[hjw]|skip);exact q8s (HN.out.symm▸hlj)
      exact AZ
     exact AZ
    ·have HW2:Hid (qcub z0 es=_):=HW.out.trans (qfob F hlj he hk hbh)
     have HS:Hid (ownS es=_):=qdrb HW2
     clear HW2
     obtain⟨A,Z,hA,hK,hA3,hK6⟩:∃A Z:Nat,e.a=(A:Int)/\e.b=(Z:Int)/\A<3/\Z<6:=⟨e.a.toNat,e.b.toNat,by have:=hk.2.2.1;omega,by have:=hk.2.2.2;omega,by have:=hk.2.2.1;omega,by have:=hk.2.2.2;omega⟩
     have hat:at6 e=6*A+Z:=by unfold at6;omega
     have h18:6*A+Z<18:=by omega
     have hs0:=hk.2.1.1
     have hs1:=hk.2.1.2
     rw[hat] at hbh HS
     have cA:(ec e)[2]?=some (.int .i64 (A:Int)):=by rw[←hA];rfl
     have cK:(ec e)[3]?=some (.int .i64 (Z:Int)):=by rw[←hK];rfl
     obtain⟨E,hE⟩:∃E,bhE (F (6*A+Z)) e=E:=⟨_,rfl⟩
     have CO:∀w,Calls prog 60 #[.int .i64 (F (6*A+Z)),.agg (ec e)] w fun x w'=>x=.returned (.tuple #[.int .i64 0,.int .i64 E])/\Below w.heap.size w w':=fun w=>by have:=qd0b (F (6*A+Z)) e w hs0 hs1;rw[show bhN (F (6*A+Z)) e=0 by unfold bhN;rw[if_neg hbh],hE] at this;exact this
     rw[hE] at hbh HS
     have hE0:(E != 0)=true:=by simpa using hbh
     clear hA hK hat hbh he hk hE HW
     go_upto_region 8 with(first|((with_reducible refine atOp (.indexAddr 52 (.tmp 10) (.tmp 12)) rfl ?_);refine qh0 52 (.tmp 10) (.tmp 12) rfl rfl _ _ _ rfl rfl (IR _) ?_)|((with_reducible refine gL 105 14 ?_);refine qlr (.tmp 14) rfl rfl _ _ rfl e hrg ?_)|((with_reducible refine gA 105 ?_);refine ax 6 105 qr3 ?_;intro b6 w3 l6 R6 hb3;have n26:=R2.ne l6;have n46:=R4.ne l6;replace l6:=Nat.le_trans hB.size l6;replace R2:=R2.below hb3;replace R4:=R4.below hb3;replace hB:=hB.trans (hb3.mono hB.size);clear hrg hMW)|((with_reducible refine gS 105 6 15 ?_);refine qab 105 rfl (.tmp 6) (.tmp 15) rfl b6 rfl (ec e) rfl _ R6 rfl (qf2 e) (qqy e) ?_;intro w4 R6 t4;replace R2:=t4.row R2 n26;replace R4:=t4.row R4 n46;replace hB:=t4.below _ _ l6 hB)|((with_reducible refine gL 105 6 ?_);refine qac 105 (.tmp 6) rfl rfl b6 rfl (ec e) R6 _ underlying105 rfl (qf2 e) ?_)|(go_at_call 59;go_fit (CG _);rintro x w5 ⟨rfl,hb5⟩;replace R6:=R6.below hb5;replace R2:=R2.below hb5;replace R4:=R4.below hb5;replace hB:=hB.trans (hb5.mono hB.size)))
     refine RD (fun W=>Row 105 W b6 (ec e)/\Row 35 W b4 (pc F g0')) ⟨R6,R4⟩ (fun _=>?_)
     refine tq 0 (.pointer (some ⟨b6,2,none⟩)) rfl ⟨R6,R4⟩ (tk 1 (.int .i64 (A:Int)) rfl (qim (.tmp 23) rfl kr b6 2 kr (A:Int) (fun w h=>(h.1.cell 2).trans cA)) ⟨R6,R4⟩ (tq 2 (.pointer (some ⟨b6,3,none⟩)) rfl ⟨R6,R4⟩ ?_))
     simp only[ZZ]
     refine tk 3 (.int .i64 (Z:Int)) rfl (qim (.tmp 25) rfl kr b6 3 kr (Z:Int) (fun w h=>(h.1.cell 3).trans cK)) ⟨R6,R4⟩ (tq 4 (.pointer (some ⟨b4,0,none⟩)) rfl ⟨R6,R4⟩ (tk 5 (.pointer (some ⟨b4,6*A,none⟩)) rfl (qgk 32 (.tmp 27) (.tmp 24) rfl kr _ _ _ kr kr (idxA b4 A hA3)) ⟨R6,R4⟩ ?_))
     simp only[ZZ]
     refine tk 6 (.pointer (some ⟨b4,6*A+Z,none⟩)) rfl (qgk 31 (.tmp 28) (.tmp 26) rfl kr _ _ _ kr kr (idxK b4 A Z hK6)) ⟨R6,R4⟩ (tk 7 (.int .i64 (F (6*A+Z))) rfl (qim (.tmp 29) rfl kr b4 (6*A+Z) kr (F (6*A+Z)) (fun w h=>(h.2.cell _).trans (q1x F g0' _ h18))) ⟨R6,R4⟩ (tk 8 (.agg (ec e)) rfl (qav 105 (.tmp 6) rfl kr b6 kr (ec e) (fun w h=>h.1) _ underlying105 rfl (qf2 e)) ⟨R6,R4⟩ ?_))
     simp only[ZZ]
     refine AR [9] ?_
     refine AC (fun K hK=>?_) ?_
     ·go_simp
      go_at_call 60;refine(CO _).mono ?_;rintro x w5 ⟨rfl,hb5⟩;replace hb5:=qmk hb5;replace R6:=R6.below hb5;replace R2:=R2.below hb5;replace R4:=R4.below hb5;replace hB:=hB.trans (hb5.mono hB.size)
      go_wp2_with fail
      refine hK.out _ _ ⟨R6,R4⟩ (fun _=>?_)
      clear hK K
      try simp only[ZZ]
      refine tq 10 (.tuple #[.int .i64 0,.int .i64 E]) rfl ⟨R6,R4⟩ (tq 11 (.int .i64 0) rfl ⟨R6,R4⟩ (tq 12 (.int .i64 E) rfl ⟨R6,R4⟩ ?_))
      simp only[ZZ]
      refine tq 13 (.int .i64 0) rfl ⟨R6,R4⟩ (tq 14 (.int .i64 E) rfl ⟨R6,R4⟩ ?_)
      simp only[ZZ]
      refine AN ?_
      go_wp2_with (first|((with_reducible refine atOp (.build 35 #[]) rfl ?_);refine qcvb 35 rfl rfl _ qd1b ?_)|((with_reducible refine gS 35 2 37 ?_);refine sx 35 (.tmp 2) (.tmp 37) (pc z0 g0') R2 ?_;intro w6 R2 t6;replace hB:=t6.below _ _ l2 hB))
      ((try simp only[Exit.inBlock,Exit.then]);refine bodyPost_ret (qbf (p:=2) (u:=3) rfl _ _ _ _ rfl R2 _ underlying35 rfl (qfg _ _)) rfl ⟨?_,hB⟩)
      rw[HS.out];rfl
     exact AZ
   ·have HW2:Hid (qcub z0 es=_):=HW.out.trans (qf1b F hlj he hk)
    have HS:Hid (ownS es=_):=qdrb HW2
    have CG:∀w,Calls prog 59 #[.agg (ec e)] w fun x w'=>x=.returned (.int .i64 2)/\Below w.heap.size w w':=fun w=>by have:=qro e w;rw[qlh hk] at this;exact this
    clear HW HW2 hk he
    go_wp2_with (first|((with_reducible refine atOp (.indexAddr 52 (.tmp 10) (.tmp 12)) rfl ?_);refine qh0 52 (.tmp 10) (.tmp 12) rfl rfl _ _ _ rfl rfl (IR _) ?_)|((with_reducible refine gL 105 14 ?_);refine qlr (.tmp 14) rfl rfl _ _ rfl e hrg ?_)|((with_reducible refine gA 105 ?_);refine ax 6 105 qr3 ?_;intro b6 w3 l6 R6 hb3;have n26:=R2.ne l6;have n46:=R4.ne l6;replace l6:=Nat.le_trans hB.size l6;replace R2:=R2.below hb3;replace R4:=R4.below hb3;replace hB:=hB.trans (hb3.mono hB.size);clear hrg hMW)|((with_reducible refine gS 105 6 15 ?_);refine qab 105 rfl (.tmp 6) (.tmp 15) rfl b6 rfl (ec e) rfl _ R6 rfl (qf2 e) (qqy e) ?_;intro w4 R6 t4;replace R2:=t4.row R2 n26;replace R4:=t4.row R4 n46;replace hB:=t4.below _ _ l6 hB)|((with_reducible refine gL 105 6 ?_);refine qac 105 (.tmp 6) rfl rfl b6 rfl (ec e) R6 _ underlying105 rfl (qf2 e) ?_)|(go_at_call 59;go_fit (CG _);rintro x w5 ⟨rfl,hb5⟩;replace R6:=R6.below hb5;replace R2:=R2.below hb5;replace R4:=R4.below hb5;replace hB:=hB.trans (hb5.mono hB.size))|((with_reducible refine atOp (.build 35 #[]) rfl ?_);refine qcvb 35 rfl rfl _ qd1b ?_)|((with_reducible refine gS 35 2 20 ?_);refine sx 35 (.tmp 2) (.tmp 20) (pc z0 g0') R2 ?_;intro w6 R2 t6;replace hB:=t6.below _ _ l2 hB))
    ((try simp only[Exit.inBlock,Exit.then]);refine bodyPost_ret (qbf (p:=2) (u:=3) rfl _ _ _ _ rfl R2 _ underlying35 rfl (qfg _ _)) rfl ⟨?_,hB⟩)
    rw[HS.out];rfl
  ·have HS:Hid (ownS es=_):=qdrb (HW.out.trans (qfsb F es j om))
   have hjn:¬(j:Int)<(n:Int):=by have:=HN.out;omega
   clear HW
   go_wp2_with (first|((with_reducible refine gL 35 4 ?_);refine lx 35 (.tmp 4) (pc F g0') R4 ?_)|((with_reducible refine gS 35 2 48 ?_);refine sx 35 (.tmp 2) (.tmp 48) (pc F g0') R2 ?_;intro w6 R2 t6;replace hB:=t6.below _ _ l2 hB))
   ((try simp only[Exit.inBlock,Exit.then]);refine bodyPost_ret (qbf (p:=2) (u:=3) rfl _ _ _ _ rfl R2 _ underlying35 rfl (qfg _ _)) rfl ⟨?_,hB⟩)
   rw[HS.out];rfl
end Go.Proofs.YtnicenfgemkdnaaGreatDoor
