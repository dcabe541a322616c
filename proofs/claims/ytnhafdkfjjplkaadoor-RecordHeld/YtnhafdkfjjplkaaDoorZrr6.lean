/-
  Of what a law stands on.
-/
import Derived.Test.YtnhafdkfjjplkaaDoorZrr5
set_option linter.unusedSimpArgs false
set_option linter.unusedVariables false
namespace Go.Proofs.YtnhafdkfjjplkaaDoor
open Go.Value renaming int → I,pointer → V
open Go.IntKind renaming i64 → Z
open _root_.Go.Proofs.Tryd Go.ChangeShapes Go.WideShapes Go.ChangeAt Go.RowKit
set_option maxHeartbeats 16000000
set_option maxRecDepth 100000
variable {w:World}{p:Prop}{S:List UInt8}{all:List Ev}
theorem EvAt.drew{sl:Value}{es:List Ev}(h:EvAt w sl es):EvAt w.drew sl es:=h
theorem q01b(h:Tab w):Tab w.drew:=h
theorem recordReads_walk(s:ByteArray)(w:World)(hs:s.size<=140737488351232)(hT:Tab w):Calls prog 4 #[.string s] w fun x w'=>x=.returned (.bool true)/\Below w.heap.size w w':=by
 refine m2b ?_;intro hB
 obtain⟨l,rfl⟩:∃l,s=txt l:=⟨s.data.toList,(qmw s).symm⟩
 (have hl:l.length<=140737488351232:=by rw[←qck];exact hs);(have C1:=fun(w:World) (hT:Tab w)=>qf2b l w hT hl);(have C2:=fun(w:World)=>q1cb l w hl)
 unfold qg7b at C1
 generalize(runM l.length l false []).1=E at C1 C2
 generalize(runM l.length l false []).2=es at C1 C2
 clear hs
 go_enter func4,ntmps4
 go_upto_region 3 with(first|(go_at_call 15;refine(C1 _ hT).mono ?_;rintro x w5 ⟨⟨v1,rfl,h1⟩,hb5⟩;replace hT:=hT.below hb5;replace hB:=hB.trans (hb5.mono hB.size))|(go_at_call 16;refine(C2 _).mono ?_;rintro x w5 ⟨⟨v2,rfl,h2⟩,hb5⟩;replace h1:=h1.below hb5;replace hT:=hT.below hb5;replace hB:=hB.trans (hb5.mono hB.size)))
 obtain⟨n,hn⟩:∃n,n=es.length:=⟨_,rfl⟩
 have HN:Hid (n=es.length):=hn;obtain⟨a1,c1,e1⟩:=h1.slice;obtain⟨a2,c2,e2⟩:=h2.slice
 rw[←hn] at e1 e2
 subst e1
 subst e2
 clear hn
 go_wp2
 go_loopw [30] (fun i W=>∃j:Nat,j<=es.length/\i=I Z (j:Int)/\EvAt W (.slice a1 n c1) es/\EvAt W (.slice a2 n c2) es/\Tab W/\Below w.heap.size w W) (fun i _=>n-(intOf i).toNat)
 case atStart=>exact⟨0,by omega,rfl,h1,h2,hT,hB⟩
 case round=>
  clear h1 h2 hT hB
  obtain⟨j,hj,rfl,h1,h2,hT,hB⟩:=hrel
  by_cases hlj:j<es.length
  ·(have hjn:(j:Int)<(n:Int):=by have:=HN.out;omega);have hjw:=q8g hlj h1.len
   obtain⟨e,he⟩:∃e,es[j]=e:=⟨_,rfl⟩
   (have I1:=fun w2=>h1.index j hlj w2);(have I2:=fun w2=>h2.index j hlj w2)
   go_upto_region 8 with fail
   refine RD (fun W=>EvAt W (.slice a1 n c1) es/\EvAt W (.slice a2 n c2) es) ⟨h1,h2⟩ (fun _=>?_)
   refine tq 0 (.slice a1 n c1) rfl ⟨h1,h2⟩ (tq 1 (I Z (j:Int)) rfl ⟨h1,h2⟩ (tk 2 (V (some ⟨eb (.slice a1 n c1),eo (.slice a1 n c1)+5*j,none⟩)) rfl (qgk 22 (.tmp 33) (.tmp 34) rfl kr _ _ _ kr kr I1) ⟨h1,h2⟩ ?_));simp only[ZZ]
   refine tk 3 (.agg (ec e)) rfl (qz8b (.tmp 35) rfl kr _ _ kr e (fun w h=>h.1.at j hlj he)) ⟨h1,h2⟩ (tq 4 (.slice a2 n c2) rfl ⟨h1,h2⟩ (tq 5 (I Z (j:Int)) rfl ⟨h1,h2⟩ ?_))
   simp only[ZZ]
   refine tk 6 (V (some ⟨eb (.slice a2 n c2),eo (.slice a2 n c2)+5*j,none⟩)) rfl (qgk 22 (.tmp 37) (.tmp 38) rfl kr _ _ _ kr kr I2) ⟨h1,h2⟩ (tk 7 (.agg (ec e)) rfl (qz8b (.tmp 39) rfl kr _ _ kr e (fun w h=>h.2.at j hlj he)) ⟨h1,h2⟩ (tk 8 (.bool false) rfl (q0zb (.tmp 36) (.tmp 40) rfl kr e kr kr) ⟨h1,h2⟩ ?_))
   refine m1r ?_
   go_wp2
   go_roundw
   case rel=>first|exact⟨j+1,by omega,by go_num,h1.drew,h2.drew,q01b hT,qcxb hB⟩|((repeat apply Exists.intro);exact⟨⟨j+1,by omega,by go_num,h1.drew,h2.drew,q01b hT,qcxb hB⟩,rfl⟩)
   case measure=>(first|rw[hjw]|skip);exact q8s (HN.out.symm▸hlj)
  ·(have hjn:¬(j:Int)<(n:Int):=by have:=HN.out;omega)
   go_wp2_with (go_at_call 14;refine(q0db _ hT).mono ?_;refine m1k ?_;clear hB;intro w5 hb5 hB)
   go_ret
   exact⟨rfl,hB⟩
theorem sZrr61(h:p:=by
 go_roundw
 case rel=>first|exact⟨j+1,by omega,by go_num,_,HW,hB,R2,R4⟩|((repeat apply Exists.intro);exact⟨⟨j+1,by omega,by go_num,_,HW,hB,R2,R4⟩,rfl⟩)
 case measure=>(first|rw[hjw]|skip);exact q8s (HN.out.symm▸hlj)):p:=h
theorem sZrr62(h:p:=by
 clear hK K;(try simp only[ZZ]);refine AN ?_
 go_wp2
 exact sZrr61):p:=h
theorem qfdb(sl:Value)(es:List Ev)(w:World)(hM:EvAt w sl es):Calls prog 17 #[sl] w fun x w'=>x=.returned (ownS es)/\Below w.heap.size w w':=by
 refine m2b ?_;intro hB;have hM0:=hM;obtain⟨a0,cap,hsl⟩:=hM0.slice
 obtain⟨n,hn⟩:∃n,n=es.length:=⟨_,rfl⟩
 rw[←hn] at hsl
 subst hsl
 have HN:Hid (n=es.length):=hn;clear hn hM0;have hlt:=hM.lt
 go_enter func17,ntmps17
 go_wp2_with (first|((with_reducible refine gA 39 ?_);refine ax 2 39 qebb ?_;intro b2 w1 l2 R2 hb1;replace hB:=hB.trans (hb1.mono hB.size))|((with_reducible refine gA 39 ?_);refine ax 4 39 qebb ?_;intro b4 w1 l4 R4 hb1;have n24:=R2.ne l4;replace R2:=R2.below hb1;replace l4:=Nat.le_trans hB.size l4;replace hB:=hB.trans (hb1.mono hB.size)))
 go_loopw [12] (fun i W=>∃j:Nat,j<=es.length/\i=.int .i64 (j:Int)/\∃F:Nat->Int,Hid (qcub z0 es=qcub F (es.drop j))/\Below w.heap.size w W/\Row 39 W b2 (pc z0 g0')/\Row 39 W b4 (pc F g0')) (fun i _=>n-(intOf i).toNat)
 case atStart=>exact⟨0,by omega,rfl,z0,rfl,hB,R2,R4⟩
 case round=>
  clear hB R2 R4
  obtain⟨j,hj,rfl,F,HW,hB,R2,R4⟩:=hrel
  by_cases hlj:j<es.length
  ·refine m28 ?_;intro hjn hjw
   obtain⟨e,he⟩:∃e,es[j]=e:=⟨_,rfl⟩
   refine m20 ?_;intro hMW hrg IR
   by_cases hk:okE e
   ·(have CG:∀w,Calls prog 12 #[.agg (ec e)] w fun x w'=>x=.returned (.int .i64 0)/\Below w.heap.size w w':=fun w=>by have:=qro e w;rw[qs0 hk] at this;exact this)
    by_cases hbh:bhE (F (at6 e)) e=0
    ·have HW2:Hid (qcub z0 es=_):=HW.out.trans (qf7b F hlj he hk hbh);clear HW;have HW:=HW2;clear HW2
     obtain⟨A,Z,hA,hK,hA3,hK6⟩:∃A Z:Nat,e.a=(A:Int)/\e.b=(Z:Int)/\A<3/\Z<6:=⟨e.a.toNat,e.b.toNat,by have:=hk.2.2.1;omega,by have:=hk.2.2.2;omega,by have:=hk.2.2.1;omega,by have:=hk.2.2.2;omega⟩
     refine m15 ?_;intro hat h18 hs0 hs1
     rw[hat] at hbh HW
     (have cA:(ec e)[2]?=some (.int .i64 (A:Int)):=by rw[←hA];rfl);(have cK:(ec e)[3]?=some (.int .i64 (Z:Int)):=by rw[←hK];rfl);(have CO:∀w,Calls prog 30 #[.int .i64 (F (6*A+Z)),.agg (ec e)] w fun x w'=>x=.returned (.tuple #[.int .i64 (ownN e),.int .i64 0])/\Below w.heap.size w w':=fun w=>by have:=qd0b (F (6*A+Z)) e w hs0 hs1;rw[show bhN (F (6*A+Z)) e=ownN e by unfold bhN;rw[if_pos hbh],hbh] at this;exact this);clear hA hK hat hbh he hk
     go_upto_region 8 with(first|((with_reducible refine atOp (.indexAddr 22 (.tmp 10) (.tmp 12)) rfl ?_);refine m2l ?_)|((with_reducible refine gL 29 14 ?_);refine qlr (.tmp 14) rfl rfl _ _ rfl e hrg ?_)|((with_reducible refine gA 29 ?_);refine m08 ?_;clear R2 R4 hB hrg hMW;intro b6 w3 R6 hb3 n26 n46 l6 R2 R4 hB)|((with_reducible refine gS 29 6 15 ?_);refine m1p ?_;clear R2 R4 hB;intro w4 R6 t4 R2 R4 hB)|((with_reducible refine gL 29 6 ?_);refine m0j ?_)|(go_at_call 12;refine m0k ?_;clear R6 R2 R4 hB;intro w5 hb5 R6 R2 R4 hB))
     refine RD (fun W=>Row 29 W b6 (ec e)/\Row 39 W b4 (pc F g0')) ⟨R6,R4⟩ (fun _=>?_)
     refine tq 0 (.pointer (some ⟨b6,2,none⟩)) rfl ⟨R6,R4⟩ (tk 1 (.int .i64 (A:Int)) rfl (qim (.tmp 23) rfl kr b6 2 kr (A:Int) (fun w h=>(h.1.cell 2).trans cA)) ⟨R6,R4⟩ (tq 2 (.pointer (some ⟨b6,3,none⟩)) rfl ⟨R6,R4⟩ ?_))
     simp only[ZZ]
     refine tk 3 (.int .i64 (Z:Int)) rfl (qim (.tmp 25) rfl kr b6 3 kr (Z:Int) (fun w h=>(h.1.cell 3).trans cK)) ⟨R6,R4⟩ (tq 4 (.pointer (some ⟨b4,0,none⟩)) rfl ⟨R6,R4⟩ (tk 5 (.pointer (some ⟨b4,6*A,none⟩)) rfl (qgk 36 (.tmp 27) (.tmp 24) rfl kr _ _ _ kr kr (idxA b4 A hA3)) ⟨R6,R4⟩ ?_))
     simp only[ZZ]
     refine tk 6 (.pointer (some ⟨b4,6*A+Z,none⟩)) rfl (qgk 35 (.tmp 28) (.tmp 26) rfl kr _ _ _ kr kr (idxK b4 A Z hK6)) ⟨R6,R4⟩ (tk 7 (.int .i64 (F (6*A+Z))) rfl (qim (.tmp 29) rfl kr b4 (6*A+Z) kr (F (6*A+Z)) (fun w h=>(h.2.cell _).trans (q1x F g0' _ h18))) ⟨R6,R4⟩ (tk 8 (.agg (ec e)) rfl (qav 29 (.tmp 6) rfl kr b6 kr (ec e) (fun w h=>h.1) _ underlying29 rfl (qf2 e)) ⟨R6,R4⟩ ?_))
     simp only[ZZ];refine AR [9] ?_
     refine AC (fun K hK=>?_) AZ
     go_simp;go_at_call 30;refine(CO _).mono ?_;rintro x w5 ⟨rfl,hb5⟩;replace hb5:=qmk hb5;replace R6:=R6.below hb5;replace R2:=R2.below hb5;replace R4:=R4.below hb5;replace hB:=hB.trans (hb5.mono hB.size)
     go_wp2_with fail
     refine hK.out _ _ ⟨R6,R4⟩ (fun _=>?_)
     clear hK K;(try simp only[ZZ]);refine tq 10 (.tuple #[.int .i64 (ownN e),.int .i64 0]) rfl ⟨R6,R4⟩ (tq 11 (.int .i64 (ownN e)) rfl ⟨R6,R4⟩ (tq 12 (.int .i64 0) rfl ⟨R6,R4⟩ ?_));simp only[ZZ];refine tq 13 (.int .i64 (ownN e)) rfl ⟨R6,R4⟩ (tq 14 (.int .i64 0) rfl ⟨R6,R4⟩ ?_);refine m1r ?_
     go_upto_region 11 with fail
     refine RD (fun W=>Row 29 W b6 (ec e)) R6 (fun _=>?_)
     refine tq 0 (.pointer (some ⟨b6,2,none⟩)) rfl R6 (tk 1 (.int .i64 (A:Int)) rfl (qim (.tmp 39) rfl kr b6 2 kr (A:Int) (fun w h=>(h.cell 2).trans cA)) R6 (tq 2 (.pointer (some ⟨b6,3,none⟩)) rfl R6 ?_))
     simp only[ZZ]
     refine tk 3 (.int .i64 (Z:Int)) rfl (qim (.tmp 41) rfl kr b6 3 kr (Z:Int) (fun w h=>(h.cell 3).trans cK)) R6 (tq 4 (.int .i64 (ownN e)) rfl R6 (tq 5 (.pointer (some ⟨b4,0,none⟩)) rfl R6 ?_))
     simp only[ZZ];refine tk 6 (.pointer (some ⟨b4,6*A,none⟩)) rfl (qgk 36 (.tmp 44) (.tmp 40) rfl kr _ _ _ kr kr (idxA b4 A hA3)) R6 (tk 7 (.pointer (some ⟨b4,6*A+Z,none⟩)) rfl (qgk 35 (.tmp 45) (.tmp 42) rfl kr _ _ _ kr kr (idxK b4 A Z hK6)) R6 ?_);simp only[ZZ];refine AR [8] ?_
     refine AP (fun K hK=>?_) AZ
     refine qfzb R4 (.tmp 46) (.tmp 43) rfl (6*A+Z) kr (ownN e) kr _ (q1x F g0' _ h18) _ (q97 F g0' _ _ h18) ?_;refine m32 ?_;clear R6 R2 hB;intro w7 R4 t7 R6 R2 hB
     refine hK.out _ _ R6 (fun _=>?_)
     exact sZrr62
    ·have HW2:Hid (qcub z0 es=_):=HW.out.trans (qfob F hlj he hk hbh);have HS:Hid (ownS es=_):=qdrb HW2;clear HW2
     obtain⟨A,Z,hA,hK,hA3,hK6⟩:∃A Z:Nat,e.a=(A:Int)/\e.b=(Z:Int)/\A<3/\Z<6:=⟨e.a.toNat,e.b.toNat,by have:=hk.2.2.1;omega,by have:=hk.2.2.2;omega,by have:=hk.2.2.1;omega,by have:=hk.2.2.2;omega⟩
     refine m15 ?_;intro hat h18 hs0 hs1
     rw[hat] at hbh HS
     (have cA:(ec e)[2]?=some (.int .i64 (A:Int)):=by rw[←hA];rfl);(have cK:(ec e)[3]?=some (.int .i64 (Z:Int)):=by rw[←hK];rfl)
     obtain⟨E,hE⟩:∃E,bhE (F (6*A+Z)) e=E:=⟨_,rfl⟩
     (have CO:∀w,Calls prog 30 #[.int .i64 (F (6*A+Z)),.agg (ec e)] w fun x w'=>x=.returned (.tuple #[.int .i64 0,.int .i64 E])/\Below w.heap.size w w':=fun w=>by have:=qd0b (F (6*A+Z)) e w hs0 hs1;rw[show bhN (F (6*A+Z)) e=0 by unfold bhN;rw[if_neg hbh],hE] at this;exact this)
     rw[hE] at hbh HS
     (have hE0:(E != 0)=true:=by simpa using hbh);clear hA hK hat hbh he hk hE HW
     go_upto_region 8 with(first|((with_reducible refine atOp (.indexAddr 22 (.tmp 10) (.tmp 12)) rfl ?_);refine m2l ?_)|((with_reducible refine gL 29 14 ?_);refine qlr (.tmp 14) rfl rfl _ _ rfl e hrg ?_)|((with_reducible refine gA 29 ?_);refine m08 ?_;clear R2 R4 hB hrg hMW;intro b6 w3 R6 hb3 n26 n46 l6 R2 R4 hB)|((with_reducible refine gS 29 6 15 ?_);refine m1p ?_;clear R2 R4 hB;intro w4 R6 t4 R2 R4 hB)|((with_reducible refine gL 29 6 ?_);refine m0j ?_)|(go_at_call 12;refine m0k ?_;clear R6 R2 R4 hB;intro w5 hb5 R6 R2 R4 hB))
     refine RD (fun W=>Row 29 W b6 (ec e)/\Row 39 W b4 (pc F g0')) ⟨R6,R4⟩ (fun _=>?_)
     refine tq 0 (.pointer (some ⟨b6,2,none⟩)) rfl ⟨R6,R4⟩ (tk 1 (.int .i64 (A:Int)) rfl (qim (.tmp 23) rfl kr b6 2 kr (A:Int) (fun w h=>(h.1.cell 2).trans cA)) ⟨R6,R4⟩ (tq 2 (.pointer (some ⟨b6,3,none⟩)) rfl ⟨R6,R4⟩ ?_))
     simp only[ZZ]
     refine tk 3 (.int .i64 (Z:Int)) rfl (qim (.tmp 25) rfl kr b6 3 kr (Z:Int) (fun w h=>(h.1.cell 3).trans cK)) ⟨R6,R4⟩ (tq 4 (.pointer (some ⟨b4,0,none⟩)) rfl ⟨R6,R4⟩ (tk 5 (.pointer (some ⟨b4,6*A,none⟩)) rfl (qgk 36 (.tmp 27) (.tmp 24) rfl kr _ _ _ kr kr (idxA b4 A hA3)) ⟨R6,R4⟩ ?_))
     simp only[ZZ]
     refine tk 6 (.pointer (some ⟨b4,6*A+Z,none⟩)) rfl (qgk 35 (.tmp 28) (.tmp 26) rfl kr _ _ _ kr kr (idxK b4 A Z hK6)) ⟨R6,R4⟩ (tk 7 (.int .i64 (F (6*A+Z))) rfl (qim (.tmp 29) rfl kr b4 (6*A+Z) kr (F (6*A+Z)) (fun w h=>(h.2.cell _).trans (q1x F g0' _ h18))) ⟨R6,R4⟩ (tk 8 (.agg (ec e)) rfl (qav 29 (.tmp 6) rfl kr b6 kr (ec e) (fun w h=>h.1) _ underlying29 rfl (qf2 e)) ⟨R6,R4⟩ ?_))
     simp only[ZZ];refine AR [9] ?_
     refine AC (fun K hK=>?_) AZ
     go_simp;go_at_call 30;refine(CO _).mono ?_;rintro x w5 ⟨rfl,hb5⟩;replace hb5:=qmk hb5;replace R6:=R6.below hb5;replace R2:=R2.below hb5;replace R4:=R4.below hb5;replace hB:=hB.trans (hb5.mono hB.size)
     go_wp2_with fail
     refine hK.out _ _ ⟨R6,R4⟩ (fun _=>?_)
     clear hK K;(try simp only[ZZ]);refine tq 10 (.tuple #[.int .i64 0,.int .i64 E]) rfl ⟨R6,R4⟩ (tq 11 (.int .i64 0) rfl ⟨R6,R4⟩ (tq 12 (.int .i64 E) rfl ⟨R6,R4⟩ ?_));simp only[ZZ];refine tq 13 (.int .i64 0) rfl ⟨R6,R4⟩ (tq 14 (.int .i64 E) rfl ⟨R6,R4⟩ ?_);refine m1r ?_
     go_wp2_with (first|((with_reducible refine atOp (.build 39 #[]) rfl ?_);refine m29 ?_)|((with_reducible refine gS 39 2 37 ?_);refine sx 39 (.tmp 2) (.tmp 37) (pc z0 g0') R2 ?_;intro w6 R2 t6;replace hB:=t6.below _ _ l2 hB))
     (refine m0r ?_;refine bodyPost_ret (qbf (p:=2) (u:=3) rfl _ _ _ _ rfl R2 _ underlying39 rfl (qfg _ _)) rfl ⟨?_,hB⟩)
     rw[HS.out];rfl
   ·have HW2:Hid (qcub z0 es=_):=HW.out.trans (qf1b F hlj he hk);have HS:Hid (ownS es=_):=qdrb HW2;refine m2p ?_;intro CG;clear HW HW2 hk he
    go_wp2_with (first|((with_reducible refine atOp (.indexAddr 22 (.tmp 10) (.tmp 12)) rfl ?_);refine m2l ?_)|((with_reducible refine gL 29 14 ?_);refine qlr (.tmp 14) rfl rfl _ _ rfl e hrg ?_)|((with_reducible refine gA 29 ?_);refine m08 ?_;clear R2 R4 hB hrg hMW;intro b6 w3 R6 hb3 n26 n46 l6 R2 R4 hB)|((with_reducible refine gS 29 6 15 ?_);refine m1p ?_;clear R2 R4 hB;intro w4 R6 t4 R2 R4 hB)|((with_reducible refine gL 29 6 ?_);refine m0j ?_)|(go_at_call 12;refine m0k ?_;clear R6 R2 R4 hB;intro w5 hb5 R6 R2 R4 hB)|((with_reducible refine atOp (.build 39 #[]) rfl ?_);refine m29 ?_)|((with_reducible refine gS 39 2 20 ?_);refine sx 39 (.tmp 2) (.tmp 20) (pc z0 g0') R2 ?_;intro w6 R2 t6;replace hB:=t6.below _ _ l2 hB))
    (refine m0r ?_;refine bodyPost_ret (qbf (p:=2) (u:=3) rfl _ _ _ _ rfl R2 _ underlying39 rfl (qfg _ _)) rfl ⟨?_,hB⟩)
    rw[HS.out];rfl
  ·have HS:Hid (ownS es=_):=qdrb (HW.out.trans (qfsb F es j om));(have hjn:¬(j:Int)<(n:Int):=by have:=HN.out;omega);clear HW
   go_wp2_with (first|((with_reducible refine gL 39 4 ?_);refine lx 39 (.tmp 4) (pc F g0') R4 ?_)|((with_reducible refine gS 39 2 48 ?_);refine sx 39 (.tmp 2) (.tmp 48) (pc F g0') R2 ?_;intro w6 R2 t6;replace hB:=t6.below _ _ l2 hB))
   (refine m0r ?_;refine bodyPost_ret (qbf (p:=2) (u:=3) rfl _ _ _ _ rfl R2 _ underlying39 rfl (qfg _ _)) rfl ⟨?_,hB⟩)
   rw[HS.out];rfl
theorem q16b(f:Nat->Int)(n:Nat)(x y:Int):upd (upd f n x) n y=upd f n y:=by
 funext i;unfold upd;split<;>rfl
theorem q1wb(o:Int)(e:Ev):(bhE o e=0/\e.fr=false/\o=0)\/(bhE o e=0/\e.fr=true/\o=e.s+1)\/(bhE o e=8/\e.fr=false/\o≠0)\/(bhE o e=7/\e.fr=true/\o≠e.s+1):=by
 unfold bhE
 rcases hf:e.fr with _|_
 ·by_cases h:o=0
  ·exact .inl ⟨by simp[h],rfl,h⟩
  ·exact .inr (.inr (.inl ⟨by simp[h],rfl,h⟩))
 ·by_cases h:o=e.s+1
  ·exact .inr (.inl ⟨by simp[h],rfl,h⟩)
  ·exact .inr (.inr (.inr ⟨by simp[h],rfl,h⟩))
theorem q02b(sl:Value)(es:List Ev)(w:World)(hM:EvAt w sl es):Calls prog 18 #[sl] w fun x w'=>x=.returned (ownS es)/\Below w.heap.size w w':=by
 refine m2b ?_;intro hB;have hM0:=hM;obtain⟨a0,cap,hsl⟩:=hM0.slice
 obtain⟨n,hn⟩:∃n,n=es.length:=⟨_,rfl⟩
 rw[←hn] at hsl
 subst hsl
 have HN:Hid (n=es.length):=hn;clear hn hM0;have hlt:=hM.lt
 go_enter func18,ntmps18
 go_wp2_with (first|((with_reducible refine gA 39 ?_);refine ax 2 39 qebb ?_;intro b2 w1 l2 R2 hb1;replace hB:=hB.trans (hb1.mono hB.size))|((with_reducible refine gA 39 ?_);refine ax 4 39 qebb ?_;intro b4 w1 l4 R4 hb1;have n24:=R2.ne l4;replace R2:=R2.below hb1;replace l4:=Nat.le_trans hB.size l4;replace hB:=hB.trans (hb1.mono hB.size)))
 go_loopw [10] (fun i W=>∃j:Nat,j<=es.length/\i=.int .i64 (j:Int)/\∃F:Nat->Int,Hid (qcub z0 es=qcub F (es.drop j))/\Below w.heap.size w W/\Row 39 W b2 (pc z0 g0')/\Row 39 W b4 (pc F g0')) (fun i _=>n-(intOf i).toNat)
 case atStart=>exact⟨0,by omega,rfl,z0,rfl,hB,R2,R4⟩
 case round=>
  clear hB R2 R4
  obtain⟨j,hj,rfl,F,HW,hB,R2,R4⟩:=hrel
  by_cases hlj:j<es.length
  ·refine m28 ?_;intro hjn hjw
   obtain⟨e,he⟩:∃e,es[j]=e:=⟨_,rfl⟩
   refine m20 ?_;intro hMW hrg IR
   by_cases hk:okE e
   ·(have CG:∀w,Calls prog 13 #[.agg (ec e)] w fun x w'=>x=.returned (.int .i64 0)/\Below w.heap.size w w':=fun w=>by have:=qshb e w;rw[qs0 hk] at this;exact this)
    rcases q1wb (F (at6 e)) e with⟨hbh,hfr,ho⟩|⟨hbh,hfr,ho⟩|⟨hbh,hfr,ho⟩|⟨hbh,hfr,ho⟩
    ·have HW2:Hid (qcub z0 es=_):=HW.out.trans (qf7b F hlj he hk hbh)
     rw[show ownN e=(e.s+1) by unfold ownN;rw[hfr];rfl] at HW2
     clear HW;have HW:=HW2;clear HW2
     obtain⟨A,Z,hA,hK,hA3,hK6⟩:∃A Z:Nat,e.a=(A:Int)/\e.b=(Z:Int)/\A<3/\Z<6:=⟨e.a.toNat,e.b.toNat,by have:=hk.2.2.1;omega,by have:=hk.2.2.2;omega,by have:=hk.2.2.1;omega,by have:=hk.2.2.2;omega⟩
     refine m15 ?_;intro hat h18 hs0 hs1
     rw[hat] at ho HW
     refine m0f ?_;intro cA cK hws hws2;(have cF:(ec e)[4]?=some (.bool false):=by rw[←hfr];rfl);(have gO:(F (6*A+Z) != 0)=false:=by simp[ho]);clear hA hK hat hbh he hk ho hfr
     go_upto_region 7 with(first|((with_reducible refine atOp (.indexAddr 22 (.tmp 8) (.tmp 10)) rfl ?_);refine m1h ?_)|((with_reducible refine gL 29 12 ?_);refine m2m ?_)|((with_reducible refine gA 29 ?_);refine m08 ?_;clear R2 R4 hB hrg hMW;intro b6 w3 R6 hb3 n26 n46 l6 R2 R4 hB)|((with_reducible refine gS 29 6 13 ?_);refine m0n ?_;clear R2 R4 hB;intro w4 R6 t4 R2 R4 hB)|((with_reducible refine gL 29 6 ?_);refine m0j ?_)|(go_at_call 13;refine m0k ?_;clear R6 R2 R4 hB;intro w5 hb5 R6 R2 R4 hB))
     refine RD (fun W=>Row 29 W b6 (ec e)/\Row 39 W b4 (pc F g0')) ⟨R6,R4⟩ (fun _=>?_)
     refine tq 0 (.pointer (some ⟨b6,2,none⟩)) rfl ⟨R6,R4⟩ (tk 1 (.int .i64 (A:Int)) rfl (qim (.tmp 18) rfl kr b6 2 kr (A:Int) (fun w h=>(h.1.cell 2).trans cA)) ⟨R6,R4⟩ (tq 2 (.pointer (some ⟨b6,3,none⟩)) rfl ⟨R6,R4⟩ ?_))
     simp only[ZZ]
     refine tk 3 (.int .i64 (Z:Int)) rfl (qim (.tmp 20) rfl kr b6 3 kr (Z:Int) (fun w h=>(h.1.cell 3).trans cK)) ⟨R6,R4⟩ (tq 4 (.pointer (some ⟨b4,0,none⟩)) rfl ⟨R6,R4⟩ (tk 5 (.pointer (some ⟨b4,6*A,none⟩)) rfl (qgk 36 (.tmp 22) (.tmp 19) rfl kr _ _ _ kr kr (idxA b4 A hA3)) ⟨R6,R4⟩ ?_))
     simp only[ZZ]
     refine tk 6 (.pointer (some ⟨b4,6*A+Z,none⟩)) rfl (qgk 35 (.tmp 23) (.tmp 21) rfl kr _ _ _ kr kr (idxK b4 A Z hK6)) ⟨R6,R4⟩ (tk 7 (.int .i64 (F (6*A+Z))) rfl (qim (.tmp 24) rfl kr b4 (6*A+Z) kr (F (6*A+Z)) (fun w h=>(h.2.cell _).trans (q1x F g0' _ h18))) ⟨R6,R4⟩ (tq 8 (.int .i64 (F (6*A+Z))) rfl ⟨R6,R4⟩ ?_))
     refine m0u ?_;clear R2 R4 R6 hB;intro R2 R4 R6 hB
     go_upto_region 12 with(first|((with_reducible refine gL 4 26 ?_);refine m1n ?_)|((with_reducible refine gL 4 34 ?_);refine m1n ?_))
     refine RD (fun W=>Row 29 W b6 (ec e)/\True) ⟨R6,trivial⟩ (fun _=>?_)
     refine tq 0 (.pointer (some ⟨b6,2,none⟩)) rfl ⟨R6,trivial⟩ (tk 1 (.int .i64 (A:Int)) rfl (qim (.tmp 44) rfl kr b6 2 kr (A:Int) (fun w h=>(h.1.cell 2).trans cA)) ⟨R6,trivial⟩ (tq 2 (.pointer (some ⟨b6,3,none⟩)) rfl ⟨R6,trivial⟩ ?_))
     simp only[ZZ]
     refine tk 3 (.int .i64 (Z:Int)) rfl (qim (.tmp 46) rfl kr b6 3 kr (Z:Int) (fun w h=>(h.1.cell 3).trans cK)) ⟨R6,trivial⟩ (tq 4 (.pointer (some ⟨b6,1,none⟩)) rfl ⟨R6,trivial⟩ (tk 5 (.int .i64 e.s) rfl (qim (.tmp 48) rfl kr b6 1 kr e.s (fun w h=>(h.1.cell 1).trans rfl)) ⟨R6,trivial⟩ ?_))
     refine m0m ?_
     refine AP (fun K hK=>?_) AZ
     refine qfzb R4 (.tmp 53) (.tmp 50) rfl (6*A+Z) kr (e.s+1) kr _ (q1x F g0' _ h18) _ (q97 F g0' _ _ h18) ?_;refine m32 ?_;clear R6 R2 hB;intro w7 R4 t7 R6 R2 hB
     refine hK.out _ _ ⟨R6,trivial⟩ (fun _=>?_)
     clear hK K;(try simp only[ZZ]);refine AN ?_
     go_wp2_with (first|((with_reducible refine gL 4 54 ?_);refine m1n ?_))
     exact sZrr61
    ·have HW2:Hid (qcub z0 es=_):=HW.out.trans (qf7b F hlj he hk hbh)
     rw[show ownN e=0 by unfold ownN;rw[hfr];rfl] at HW2
     clear HW;have HW:=HW2;clear HW2
     obtain⟨A,Z,hA,hK,hA3,hK6⟩:∃A Z:Nat,e.a=(A:Int)/\e.b=(Z:Int)/\A<3/\Z<6:=⟨e.a.toNat,e.b.toNat,by have:=hk.2.2.1;omega,by have:=hk.2.2.2;omega,by have:=hk.2.2.1;omega,by have:=hk.2.2.2;omega⟩
     refine m15 ?_;intro hat h18 hs0 hs1
     rw[hat] at ho HW
     refine m0f ?_;intro cA cK hws hws2;(have cF:(ec e)[4]?=some (.bool true):=by rw[←hfr];rfl)
     rw[←q16b F (6*A+Z) (e.s+1) 0] at HW
     (have gO:(F (6*A+Z) != e.s+1)=false:=by simp[ho]);clear hA hK hat hbh he hk ho hfr
     go_upto_region 7 with(first|((with_reducible refine atOp (.indexAddr 22 (.tmp 8) (.tmp 10)) rfl ?_);refine m1h ?_)|((with_reducible refine gL 29 12 ?_);refine m2m ?_)|((with_reducible refine gA 29 ?_);refine m08 ?_;clear R2 R4 hB hrg hMW;intro b6 w3 R6 hb3 n26 n46 l6 R2 R4 hB)|((with_reducible refine gS 29 6 13 ?_);refine m0n ?_;clear R2 R4 hB;intro w4 R6 t4 R2 R4 hB)|((with_reducible refine gL 29 6 ?_);refine m0j ?_)|(go_at_call 13;refine m0k ?_;clear R6 R2 R4 hB;intro w5 hb5 R6 R2 R4 hB))
     refine RD (fun W=>Row 29 W b6 (ec e)/\Row 39 W b4 (pc F g0')) ⟨R6,R4⟩ (fun _=>?_)
     refine tq 0 (.pointer (some ⟨b6,2,none⟩)) rfl ⟨R6,R4⟩ (tk 1 (.int .i64 (A:Int)) rfl (qim (.tmp 18) rfl kr b6 2 kr (A:Int) (fun w h=>(h.1.cell 2).trans cA)) ⟨R6,R4⟩ (tq 2 (.pointer (some ⟨b6,3,none⟩)) rfl ⟨R6,R4⟩ ?_))
     simp only[ZZ]
     refine tk 3 (.int .i64 (Z:Int)) rfl (qim (.tmp 20) rfl kr b6 3 kr (Z:Int) (fun w h=>(h.1.cell 3).trans cK)) ⟨R6,R4⟩ (tq 4 (.pointer (some ⟨b4,0,none⟩)) rfl ⟨R6,R4⟩ (tk 5 (.pointer (some ⟨b4,6*A,none⟩)) rfl (qgk 36 (.tmp 22) (.tmp 19) rfl kr _ _ _ kr kr (idxA b4 A hA3)) ⟨R6,R4⟩ ?_))
     simp only[ZZ]
     refine tk 6 (.pointer (some ⟨b4,6*A+Z,none⟩)) rfl (qgk 35 (.tmp 23) (.tmp 21) rfl kr _ _ _ kr kr (idxK b4 A Z hK6)) ⟨R6,R4⟩ (tk 7 (.int .i64 (F (6*A+Z))) rfl (qim (.tmp 24) rfl kr b4 (6*A+Z) kr (F (6*A+Z)) (fun w h=>(h.2.cell _).trans (q1x F g0' _ h18))) ⟨R6,R4⟩ (tq 8 (.int .i64 (F (6*A+Z))) rfl ⟨R6,R4⟩ ?_))
     refine m0u ?_;clear R2 R4 R6 hB;intro R2 R4 R6 hB
     go_upto_region 12 with(first|((with_reducible refine gL 4 26 ?_);refine m1n ?_)|((with_reducible refine gL 4 34 ?_);refine m1n ?_)|((with_reducible refine gL 3 38 ?_);refine fx R6 _ 1 _ ?_))
     refine RD (fun W=>Row 29 W b6 (ec e)/\True) ⟨R6,trivial⟩ (fun _=>?_)
     refine tq 0 (.pointer (some ⟨b6,2,none⟩)) rfl ⟨R6,trivial⟩ (tk 1 (.int .i64 (A:Int)) rfl (qim (.tmp 44) rfl kr b6 2 kr (A:Int) (fun w h=>(h.1.cell 2).trans cA)) ⟨R6,trivial⟩ (tq 2 (.pointer (some ⟨b6,3,none⟩)) rfl ⟨R6,trivial⟩ ?_))
     simp only[ZZ]
     refine tk 3 (.int .i64 (Z:Int)) rfl (qim (.tmp 46) rfl kr b6 3 kr (Z:Int) (fun w h=>(h.1.cell 3).trans cK)) ⟨R6,trivial⟩ (tq 4 (.pointer (some ⟨b6,1,none⟩)) rfl ⟨R6,trivial⟩ (tk 5 (.int .i64 e.s) rfl (qim (.tmp 48) rfl kr b6 1 kr e.s (fun w h=>(h.1.cell 1).trans rfl)) ⟨R6,trivial⟩ ?_))
     refine m0m ?_
     refine AP (fun K hK=>?_) AZ
     refine qfzb R4 (.tmp 53) (.tmp 50) rfl (6*A+Z) kr (e.s+1) kr _ (q1x F g0' _ h18) _ (q97 F g0' _ _ h18) ?_;refine m32 ?_;clear R6 R2 hB;intro w7 R4 t7 R6 R2 hB
     refine hK.out _ _ ⟨R6,trivial⟩ (fun _=>?_)
     clear hK K;(try simp only[ZZ]);refine AN ?_
     go_upto_region 14 with(first|((with_reducible refine gL 4 54 ?_);refine m1n ?_))
     refine RD (fun W=>Row 29 W b6 (ec e)/\True) ⟨R6,trivial⟩ (fun _=>?_)
     refine tq 0 (.pointer (some ⟨b6,2,none⟩)) rfl ⟨R6,trivial⟩ (tk 1 (.int .i64 (A:Int)) rfl (qim (.tmp 56) rfl kr b6 2 kr (A:Int) (fun w h=>(h.1.cell 2).trans cA)) ⟨R6,trivial⟩ (tq 2 (.pointer (some ⟨b6,3,none⟩)) rfl ⟨R6,trivial⟩ ?_))
     simp only[ZZ]
     refine tk 3 (.int .i64 (Z:Int)) rfl (qim (.tmp 58) rfl kr b6 3 kr (Z:Int) (fun w h=>(h.1.cell 3).trans cK)) ⟨R6,trivial⟩ (tq 4 (.pointer (some ⟨b4,0,none⟩)) rfl ⟨R6,trivial⟩ (tk 5 (.pointer (some ⟨b4,6*A,none⟩)) rfl (qgk 36 (.tmp 60) (.tmp 57) rfl kr _ _ _ kr kr (idxA b4 A hA3)) ⟨R6,trivial⟩ ?_))
     simp only[ZZ];refine tk 6 (.pointer (some ⟨b4,6*A+Z,none⟩)) rfl (qgk 35 (.tmp 61) (.tmp 59) rfl kr _ _ _ kr kr (idxK b4 A Z hK6)) ⟨R6,trivial⟩ ?_;simp only[ZZ];refine AR [7] ?_
     refine AP (fun K hK=>?_) AZ
     refine qfzb R4 (.tmp 62) (.const (.int .i64 0)) rfl (6*A+Z) kr 0 kr _ (q1x _ g0' _ h18) _ (q97 _ g0' _ _ h18) ?_;refine m32 ?_;clear R6 R2 hB;intro w7 R4 t7 R6 R2 hB
     refine hK.out _ _ ⟨R6,trivial⟩ (fun _=>?_)
     exact sZrr62
    ·have HS:Hid (ownS es=_):=qdrb (HW.out.trans (qfob F hlj he hk (by rw[hbh];decide)))
     rw[hbh] at HS
     obtain⟨A,Z,hA,hK,hA3,hK6⟩:∃A Z:Nat,e.a=(A:Int)/\e.b=(Z:Int)/\A<3/\Z<6:=⟨e.a.toNat,e.b.toNat,by have:=hk.2.2.1;omega,by have:=hk.2.2.2;omega,by have:=hk.2.2.1;omega,by have:=hk.2.2.2;omega⟩
     refine m15 ?_;intro hat h18 hs0 hs1
     rw[hat] at ho
     refine m0f ?_;intro cA cK hws hws2;(have cF:(ec e)[4]?=some (.bool false):=by rw[←hfr];rfl);(have gO:(F (6*A+Z) != 0)=true:=by simpa using ho);clear hA hK hat hbh he hk ho hfr HW
     go_upto_region 7 with(first|((with_reducible refine atOp (.indexAddr 22 (.tmp 8) (.tmp 10)) rfl ?_);refine m1h ?_)|((with_reducible refine gL 29 12 ?_);refine m2m ?_)|((with_reducible refine gA 29 ?_);refine m08 ?_;clear R2 R4 hB hrg hMW;intro b6 w3 R6 hb3 n26 n46 l6 R2 R4 hB)|((with_reducible refine gS 29 6 13 ?_);refine m0n ?_;clear R2 R4 hB;intro w4 R6 t4 R2 R4 hB)|((with_reducible refine gL 29 6 ?_);refine m0j ?_)|(go_at_call 13;refine m0k ?_;clear R6 R2 R4 hB;intro w5 hb5 R6 R2 R4 hB))
     refine RD (fun W=>Row 29 W b6 (ec e)/\Row 39 W b4 (pc F g0')) ⟨R6,R4⟩ (fun _=>?_)
     refine tq 0 (.pointer (some ⟨b6,2,none⟩)) rfl ⟨R6,R4⟩ (tk 1 (.int .i64 (A:Int)) rfl (qim (.tmp 18) rfl kr b6 2 kr (A:Int) (fun w h=>(h.1.cell 2).trans cA)) ⟨R6,R4⟩ (tq 2 (.pointer (some ⟨b6,3,none⟩)) rfl ⟨R6,R4⟩ ?_))
     simp only[ZZ]
     refine tk 3 (.int .i64 (Z:Int)) rfl (qim (.tmp 20) rfl kr b6 3 kr (Z:Int) (fun w h=>(h.1.cell 3).trans cK)) ⟨R6,R4⟩ (tq 4 (.pointer (some ⟨b4,0,none⟩)) rfl ⟨R6,R4⟩ (tk 5 (.pointer (some ⟨b4,6*A,none⟩)) rfl (qgk 36 (.tmp 22) (.tmp 19) rfl kr _ _ _ kr kr (idxA b4 A hA3)) ⟨R6,R4⟩ ?_))
     simp only[ZZ]
     refine tk 6 (.pointer (some ⟨b4,6*A+Z,none⟩)) rfl (qgk 35 (.tmp 23) (.tmp 21) rfl kr _ _ _ kr kr (idxK b4 A Z hK6)) ⟨R6,R4⟩ (tk 7 (.int .i64 (F (6*A+Z))) rfl (qim (.tmp 24) rfl kr b4 (6*A+Z) kr (F (6*A+Z)) (fun w h=>(h.2.cell _).trans (q1x F g0' _ h18))) ⟨R6,R4⟩ (tq 8 (.int .i64 (F (6*A+Z))) rfl ⟨R6,R4⟩ ?_))
     refine m0u ?_;clear R2 R4 R6 hB;intro R2 R4 R6 hB
     go_wp2_with (first|((with_reducible refine gL 4 26 ?_);refine m1n ?_)|((with_reducible refine gL 4 34 ?_);refine m1n ?_)|((with_reducible refine gL 3 38 ?_);refine fx R6 _ 1 _ ?_)|((with_reducible refine atOp (.build 39 #[]) rfl ?_);refine m29 ?_)|((with_reducible refine gS 39 2 33 ?_);refine sx 39 (.tmp 2) (.tmp 33) (pc z0 g0') R2 ?_;intro w6 R2 t6;replace hB:=t6.below _ _ l2 hB))
     (refine m0r ?_;refine bodyPost_ret (qbf (p:=2) (u:=3) rfl _ _ _ _ rfl R2 _ underlying39 rfl (qfg _ _)) rfl ⟨?_,hB⟩)
     rw[HS.out];rfl
    ·have HS:Hid (ownS es=_):=qdrb (HW.out.trans (qfob F hlj he hk (by rw[hbh];decide)))
     rw[hbh] at HS
     obtain⟨A,Z,hA,hK,hA3,hK6⟩:∃A Z:Nat,e.a=(A:Int)/\e.b=(Z:Int)/\A<3/\Z<6:=⟨e.a.toNat,e.b.toNat,by have:=hk.2.2.1;omega,by have:=hk.2.2.2;omega,by have:=hk.2.2.1;omega,by have:=hk.2.2.2;omega⟩
     refine m15 ?_;intro hat h18 hs0 hs1
     rw[hat] at ho
     refine m0f ?_;intro cA cK hws hws2;(have cF:(ec e)[4]?=some (.bool true):=by rw[←hfr];rfl);(have gO:(F (6*A+Z) != e.s+1)=true:=by simpa using ho);clear hA hK hat hbh he hk ho hfr HW
     go_upto_region 7 with(first|((with_reducible refine atOp (.indexAddr 22 (.tmp 8) (.tmp 10)) rfl ?_);refine m1h ?_)|((with_reducible refine gL 29 12 ?_);refine m2m ?_)|((with_reducible refine gA 29 ?_);refine m08 ?_;clear R2 R4 hB hrg hMW;intro b6 w3 R6 hb3 n26 n46 l6 R2 R4 hB)|((with_reducible refine gS 29 6 13 ?_);refine m0n ?_;clear R2 R4 hB;intro w4 R6 t4 R2 R4 hB)|((with_reducible refine gL 29 6 ?_);refine m0j ?_)|(go_at_call 13;refine m0k ?_;clear R6 R2 R4 hB;intro w5 hb5 R6 R2 R4 hB))
     refine RD (fun W=>Row 29 W b6 (ec e)/\Row 39 W b4 (pc F g0')) ⟨R6,R4⟩ (fun _=>?_)
     refine tq 0 (.pointer (some ⟨b6,2,none⟩)) rfl ⟨R6,R4⟩ (tk 1 (.int .i64 (A:Int)) rfl (qim (.tmp 18) rfl kr b6 2 kr (A:Int) (fun w h=>(h.1.cell 2).trans cA)) ⟨R6,R4⟩ (tq 2 (.pointer (some ⟨b6,3,none⟩)) rfl ⟨R6,R4⟩ ?_))
     simp only[ZZ]
     refine tk 3 (.int .i64 (Z:Int)) rfl (qim (.tmp 20) rfl kr b6 3 kr (Z:Int) (fun w h=>(h.1.cell 3).trans cK)) ⟨R6,R4⟩ (tq 4 (.pointer (some ⟨b4,0,none⟩)) rfl ⟨R6,R4⟩ (tk 5 (.pointer (some ⟨b4,6*A,none⟩)) rfl (qgk 36 (.tmp 22) (.tmp 19) rfl kr _ _ _ kr kr (idxA b4 A hA3)) ⟨R6,R4⟩ ?_))
     simp only[ZZ]
     refine tk 6 (.pointer (some ⟨b4,6*A+Z,none⟩)) rfl (qgk 35 (.tmp 23) (.tmp 21) rfl kr _ _ _ kr kr (idxK b4 A Z hK6)) ⟨R6,R4⟩ (tk 7 (.int .i64 (F (6*A+Z))) rfl (qim (.tmp 24) rfl kr b4 (6*A+Z) kr (F (6*A+Z)) (fun w h=>(h.2.cell _).trans (q1x F g0' _ h18))) ⟨R6,R4⟩ (tq 8 (.int .i64 (F (6*A+Z))) rfl ⟨R6,R4⟩ ?_))
     refine m0u ?_;clear R2 R4 R6 hB;intro R2 R4 R6 hB
     go_wp2_with (first|((with_reducible refine gL 4 26 ?_);refine m1n ?_)|((with_reducible refine gL 4 34 ?_);refine m1n ?_)|((with_reducible refine gL 3 38 ?_);refine fx R6 _ 1 _ ?_)|((with_reducible refine atOp (.build 39 #[]) rfl ?_);refine m29 ?_)|((with_reducible refine gS 39 2 43 ?_);refine sx 39 (.tmp 2) (.tmp 43) (pc z0 g0') R2 ?_;intro w6 R2 t6;replace hB:=t6.below _ _ l2 hB))
     (refine m0r ?_;refine bodyPost_ret (qbf (p:=2) (u:=3) rfl _ _ _ _ rfl R2 _ underlying39 rfl (qfg _ _)) rfl ⟨?_,hB⟩)
     rw[HS.out];rfl
   ·have HW2:Hid (qcub z0 es=_):=HW.out.trans (qf1b F hlj he hk);have HS:Hid (ownS es=_):=qdrb HW2;refine m2e ?_;intro CG;clear HW HW2 hk he
    go_wp2_with (first|((with_reducible refine atOp (.indexAddr 22 (.tmp 8) (.tmp 10)) rfl ?_);refine m1h ?_)|((with_reducible refine gL 29 12 ?_);refine m2m ?_)|((with_reducible refine gA 29 ?_);refine m08 ?_;clear R2 R4 hB hrg hMW;intro b6 w3 R6 hb3 n26 n46 l6 R2 R4 hB)|((with_reducible refine gS 29 6 13 ?_);refine m0n ?_;clear R2 R4 hB;intro w4 R6 t4 R2 R4 hB)|((with_reducible refine gL 29 6 ?_);refine m0j ?_)|(go_at_call 13;refine m0k ?_;clear R6 R2 R4 hB;intro w5 hb5 R6 R2 R4 hB)|((with_reducible refine atOp (.build 39 #[]) rfl ?_);refine m29 ?_)|((with_reducible refine gS 39 2 17 ?_);refine sx 39 (.tmp 2) (.tmp 17) (pc z0 g0') R2 ?_;intro w6 R2 t6;replace hB:=t6.below _ _ l2 hB))
    (refine m0r ?_;refine bodyPost_ret (qbf (p:=2) (u:=3) rfl _ _ _ _ rfl R2 _ underlying39 rfl (qfg _ _)) rfl ⟨?_,hB⟩)
    rw[HS.out];rfl
  ·have HS:Hid (ownS es=_):=qdrb (HW.out.trans (qfsb F es j om));(have hjn:¬(j:Int)<(n:Int):=by have:=HN.out;omega);clear HW
   go_wp2_with (first|((with_reducible refine gL 39 4 ?_);refine lx 39 (.tmp 4) (pc F g0') R4 ?_)|((with_reducible refine gS 39 2 64 ?_);refine sx 39 (.tmp 2) (.tmp 64) (pc F g0') R2 ?_;intro w6 R2 t6;replace hB:=t6.below _ _ l2 hB))
   (refine m0r ?_;refine bodyPost_ret (qbf (p:=2) (u:=3) rfl _ _ _ _ rfl R2 _ underlying39 rfl (qfg _ _)) rfl ⟨?_,hB⟩)
   rw[HS.out];rfl
theorem q1yb(es:List Ev)(f:Nat->Int)(h:∀i,0<=f i/\f i<=8):∀i,0<=(qcub f es).2 i/\(qcub f es).2 i<=8:=by
 induction es generalizing f with
 | nil=>exact h
 | cons e r ih=>
  unfold qcub
  by_cases hk:okE e
  ·rw[if_pos hk]
   by_cases hE:bhE (f (at6 e)) e=0
   ·rw[if_pos hE]
    refine ih _ (fun i=>?_)
    unfold upd
    split
    ·unfold ownN;have:=hk.2.1;split<;>omega
    ·exact h i
   ·rw[if_neg hE];intro i;simp[z0]
  ·rw[if_neg hk];intro i;simp[z0]
theorem q1qb(es:List Ev):wfF (qcub z0 es).2:=by
 intro i _
 have:=q1yb es z0 (fun i=>by simp[z0]) i
 simp[Lit.wf,IntKind.min,IntKind.max,IntKind.bits,IntKind.signed];omega
theorem recordOwners_walk(sl:Value)(es:List Ev)(w:World)(hM:EvAt w sl es)(hT:Tab w):Calls prog 5 #[sl] w fun x w'=>x=.returned (.bool true)/\Below w.heap.size w w':=by
 refine m2b ?_;intro hB;have hwf:=q1qb es;(have C1:=fun(sl:Value) (w:World) (h:EvAt w sl es)=>qfdb sl es w h);(have C2:=fun(sl:Value) (w:World) (h:EvAt w sl es)=>q02b sl es w h)
 unfold ownS at C1 C2
 generalize(qcub z0 es).1=E at C1 C2
 generalize(qcub z0 es).2=F at C1 C2 hwf
 obtain⟨a0,cap,hsl⟩:=hM.slice
 subst hsl
 generalize es.length=n at *
 go_enter func5,ntmps5
 go_wp2_with (first|(at_builtin;refine q0pb rfl (.const (.slice none 0 0)) (.tmp 8) rfl _ es hM rfl rfl ?_;intro v2 w2 hM2 hb2;replace hB:=hB.trans (hb2.mono hB.size))|(go_at_call 17;refine(C1 _ _ hM2).mono ?_;refine m1k ?_;clear hB;intro w5 hb5 hB)|((with_reducible refine gA 39 ?_);refine m33 ?_;clear hB;intro b3 w3 R3 hb3 l3 hB)|((with_reducible refine gS 39 3 11 ?_);refine sx 39 (.tmp 3) (.tmp 11) (pc F g0') R3 ?_;intro w6 R3 t6;replace hB:=t6.below _ _ l3 hB)|(go_at_call 18;refine(C2 _ _ (hM.keep hB hM.lt)).mono ?_;rintro x w5 ⟨rfl,hb5⟩;replace R3:=R3.below hb5;replace hB:=hB.trans (hb5.mono hB.size))|((with_reducible refine gA 39 ?_);refine ax 5 39 qebb ?_;intro b5 w3 l5 R5 hb3;have n35:=R3.ne l5;replace l5:=Nat.le_trans hB.size l5;replace R3:=R3.below hb3;replace hB:=hB.trans (hb3.mono hB.size))|((with_reducible refine gS 39 5 16 ?_);refine sx 39 (.tmp 5) (.tmp 16) (pc F g0') R5 ?_;intro w6 R5 t6;replace R3:=t6.row R3 n35;replace hB:=t6.below _ _ l5 hB)|((with_reducible refine gL 39 3 ?_);refine lx 39 (.tmp 3) (pc F g0') R3 ?_)|((with_reducible refine gL 39 5 ?_);refine lx 39 (.tmp 5) (pc F g0') R5 ?_)|((with_reducible refine atOp (.binOp .eql 39 (.tmp 18) (.tmp 19) 39) rfl ?_);refine qb1 39 (.tmp 18) (.tmp 19) rfl rfl (pc F g0') (pc F g0') rfl rfl eqGuardType39 _ true (q84 F g0' hwf _) rfl ?_)|(go_at_call 14;refine(q0db _ (hT.keep hB hT.lt)).mono ?_;refine m1k ?_;clear hB;intro w5 hb5 hB))
 go_ret
 exact⟨rfl,hB⟩
theorem q1ib(l:List UInt8)(N a k:Nat)(h:a+k<=N):((l.take N).drop a).take k=(l.drop a).take k:=by
 rw[List.drop_take,List.take_take];congr 1;omega
theorem qgnb(t q k:Int)(l z:List UInt8)(hl:l.length<=60000)(hq0:0<=q)(hq1:q<=4294967295)(hk0:0<=k)(hk1:k<=300):nAt (msgB t q k l++z) 0 2=10:=by
 have h:=qc4b ([]) (be 10 2) (be (20+(l.length:Int)) 2++(be (t%4294967296) 4++(be q 4++(be 1 4++(be k 2++(be (4+(l.length:Int)) 2++(l++z))))))) 2 (qd8 _ _) 0 (by simp[qd8])
 rw[qc9b] at h
 rw[show msgB t q k l++z=([])++(be 10 2++(be (20+(l.length:Int)) 2++(be (t%4294967296) 4++(be q 4++(be 1 4++(be k 2++(be (4+(l.length:Int)) 2++(l++z)))))))) by simp[msgB],h]
 omega
theorem qd6b(t q k:Int)(l z:List UInt8)(hl:l.length<=60000)(hq0:0<=q)(hq1:q<=4294967295)(hk0:0<=k)(hk1:k<=300):nAt (msgB t q k l++z) 2 2=20+(l.length:Int):=by
 have h:=qc4b (be 10 2) (be (20+(l.length:Int)) 2) (be (t%4294967296) 4++(be q 4++(be 1 4++(be k 2++(be (4+(l.length:Int)) 2++(l++z)))))) 2 (qd8 _ _) 2 (by simp[qd8])
 rw[qc9b] at h
 rw[show msgB t q k l++z=(be 10 2)++(be (20+(l.length:Int)) 2++(be (t%4294967296) 4++(be q 4++(be 1 4++(be k 2++(be (4+(l.length:Int)) 2++(l++z))))))) by simp[msgB],h]
 omega
theorem qgzb(t q k:Int)(l z:List UInt8)(hl:l.length<=60000)(hq0:0<=q)(hq1:q<=4294967295)(hk0:0<=k)(hk1:k<=300):nAt (msgB t q k l++z) 4 4=t%4294967296:=by
 have h:=qc4b (be 10 2++be (20+(l.length:Int)) 2) (be (t%4294967296) 4) (be q 4++(be 1 4++(be k 2++(be (4+(l.length:Int)) 2++(l++z))))) 4 (qd8 _ _) 4 (by simp[qd8])
 rw[qc9b] at h
 rw[show msgB t q k l++z=(be 10 2++be (20+(l.length:Int)) 2)++(be (t%4294967296) 4++(be q 4++(be 1 4++(be k 2++(be (4+(l.length:Int)) 2++(l++z)))))) by simp[msgB],h]
 omega
theorem qe1b(t q k:Int)(l z:List UInt8)(hl:l.length<=60000)(hq0:0<=q)(hq1:q<=4294967295)(hk0:0<=k)(hk1:k<=300):nAt (msgB t q k l++z) 8 4=q:=by
 have h:=qc4b (be 10 2++be (20+(l.length:Int)) 2++be (t%4294967296) 4) (be q 4) (be 1 4++(be k 2++(be (4+(l.length:Int)) 2++(l++z)))) 4 (qd8 _ _) 8 (by simp[qd8])
 rw[qc9b] at h
 rw[show msgB t q k l++z=(be 10 2++be (20+(l.length:Int)) 2++be (t%4294967296) 4)++(be q 4++(be 1 4++(be k 2++(be (4+(l.length:Int)) 2++(l++z))))) by simp[msgB],h]
 omega
theorem qgvb(t q k:Int)(l z:List UInt8)(hl:l.length<=60000)(hq0:0<=q)(hq1:q<=4294967295)(hk0:0<=k)(hk1:k<=300):nAt (msgB t q k l++z) 12 4=1:=by
 have h:=qc4b (be 10 2++be (20+(l.length:Int)) 2++be (t%4294967296) 4++be q 4) (be 1 4) (be k 2++(be (4+(l.length:Int)) 2++(l++z))) 4 (qd8 _ _) 12 (by simp[qd8])
 rw[qc9b] at h
 rw[show msgB t q k l++z=(be 10 2++be (20+(l.length:Int)) 2++be (t%4294967296) 4++be q 4)++(be 1 4++(be k 2++(be (4+(l.length:Int)) 2++(l++z)))) by simp[msgB],h]
 omega
theorem qd8b(t q k:Int)(l z:List UInt8)(hl:l.length<=60000)(hq0:0<=q)(hq1:q<=4294967295)(hk0:0<=k)(hk1:k<=300):nAt (msgB t q k l++z) 16 2=k:=by
 have h:=qc4b (be 10 2++be (20+(l.length:Int)) 2++be (t%4294967296) 4++be q 4++be 1 4) (be k 2) (be (4+(l.length:Int)) 2++(l++z)) 2 (qd8 _ _) 16 (by simp[qd8])
 rw[qc9b] at h
 rw[show msgB t q k l++z=(be 10 2++be (20+(l.length:Int)) 2++be (t%4294967296) 4++be q 4++be 1 4)++(be k 2++(be (4+(l.length:Int)) 2++(l++z))) by simp[msgB],h]
 omega
theorem qgrb(t q k:Int)(l z:List UInt8)(hl:l.length<=60000)(hq0:0<=q)(hq1:q<=4294967295)(hk0:0<=k)(hk1:k<=300):nAt (msgB t q k l++z) 18 2=4+(l.length:Int):=by
 have h:=qc4b (be 10 2++be (20+(l.length:Int)) 2++be (t%4294967296) 4++be q 4++be 1 4++be k 2) (be (4+(l.length:Int)) 2) (l++z) 2 (qd8 _ _) 18 (by simp[qd8])
 rw[qc9b] at h
 rw[show msgB t q k l++z=(be 10 2++be (20+(l.length:Int)) 2++be (t%4294967296) 4++be q 4++be 1 4++be k 2)++(be (4+(l.length:Int)) 2++(l++z)) by simp[msgB],h]
 omega
theorem qeub(t q k:Int)(l z:List UInt8)(hl:l.length<=60000)(hq0:0<=q)(hq1:q<=4294967295)(hk:k=2\/k=300):qctb (msgB t q k l++z)=0:=by
 (have hk0:0<=k:=by omega);(have hk1:k<=300:=by omega);(have hlen:(msgB t q k l++z).length=20+l.length+z.length:=by rw[List.length_append,qlj])
 unfold qctb
 rw[qgnb t q k l z hl hq0 hq1 hk0 hk1,qd6b t q k l z hl hq0 hq1 hk0 hk1,qgvb t q k l z hl hq0 hq1 hk0 hk1,qd8b t q k l z hl hq0 hq1 hk0 hk1,qgrb t q k l z hl hq0 hq1 hk0 hk1,hlen];rw[if_neg om,if_neg om,if_neg om]
theorem qetb(t q k:Int)(l z:List UInt8):(msgB t q k l++z).drop (20+l.length)=z:=by
 rw[←qlj t q k l,List.drop_left]
theorem qf3b(t q k:Int)(l z:List UInt8):(msgB t q k l++z).take (20+l.length)=msgB t q k l:=by
 rw[←qlj t q k l,List.take_left]
theorem qe5b(t q k:Int)(l z:List UInt8):(msgB t q k l++z).drop 20=l++z:=by
 have:msgB t q k l++z=(be 10 2++be (20+(l.length:Int)) 2++be (t%4294967296) 4++be q 4++be 1 4++be k 2++be (4+(l.length:Int)) 2)++(l++z):=by simp[msgB]
 rw[this];(have h20:(be 10 2++be (20+(l.length:Int)) 2++be (t%4294967296) 4++be q 4++be 1 4++be k 2++be (4+(l.length:Int)) 2).length=20:=by simp[qd8]);rw[←h20,List.drop_left]
theorem qgfb(z:List UInt8):qcsb (msgB 0 0 2 (tplB 6)++z) false []=(0,z,true,[]):=by
 have hl:(tplB 6).length=28:=qqi
 unfold qcsb
 rw[if_neg (by rw[qeub 0 0 2 (tplB 6) z om om om (.inl rfl)];decide),qe1b 0 0 2 (tplB 6) z om om om om om,qd8b 0 0 2 (tplB 6) z om om om om om,qd6b 0 0 2 (tplB 6) z om om om om om]
 (rw[if_neg zm,if_pos rfl,show(20+((tplB 6).length:Int)).toNat=20+(tplB 6).length by omega,qf3b,qetb,if_pos zm])
theorem qggb(t:Int)(ps:List Ev)(z:List UInt8)(es:List Ev)(hp:∀e∈ps,okE e/\e.t=t)(hla:qcyb es t=false):evs (t%4294967296) ps.length (setB ps++z) es=some (es++ps):=by
 induction ps generalizing es with
 | nil=>simp[evs]
 | cons e r ih=>
  obtain⟨hk,ht⟩:=hp e zm;(have e1:setB (e::r)++z=evB e++(setB r++z):=by simp[setB]);have hr:=qg6b e hk (setB r++z)
  have hok:okR (evB e++(setB r++z)):=by
   unfold okR;rw[hr];exact⟨hk,by rw[←q80 e,List.take_left]⟩
  rw[e1,List.length_cons,qd4b ⟨hok,by rw[hr,ht],by rw[hr,ht];exact hla⟩,hr,←q80 e,List.drop_left,ih (es++[e]) (fun x hx=>hp x (by simp[hx])) ?_]
  ·simp
  ·unfold qcyb;simp[ht]
theorem qg0b(t:Int)(ps es:List Ev)(z:List UInt8)(hp:∀e∈ps,okE e/\e.t=t)(h0:0<ps.length)(h64:ps.length<=64)(hes:es.length<=100000)(hla:qcyb es t=false):qcsb (msgB t (es.length:Int) 300 (setB ps)++z) true es=(0,z,true,es++ps):=by
 have hl:(setB ps).length=21*ps.length:=qnn ps;(have q0:(0:Int)<=(es.length:Int):=by omega);(have q1:(es.length:Int)<=4294967295:=by omega);have a1:=qd6b t (es.length:Int) 300 (setB ps) z om q0 q1 om om
 unfold qcsb
 rw[if_neg (by rw[qeub t _ 300 (setB ps) z om q0 q1 (.inr rfl)];decide),qe1b t _ 300 (setB ps) z om q0 q1 om om,qd8b t _ 300 (setB ps) z om q0 q1 om om,a1,qgzb t _ 300 (setB ps) z om q0 q1 om om]
 (rw[if_neg zm,if_neg (by decide),if_neg zm,if_neg om,show((20+((setB ps).length:Int)-20)/21).toNat=ps.length by omega,qe5b,qggb t ps z es hp hla,show(20+((setB ps).length:Int)).toNat=20+(setB ps).length by omega,qetb])
theorem q1rb(t q k:Int)(l:List UInt8)(hl:l.length<=60000)(hl1:0<l.length)(hq0:0<=q)(hq1:q<=4294967295)(hk:k=2\/k=300)(d:Bool)(es:List Ev):qcsb ((msgB t q k l).take (20+l.length-1)) d es=(1,[],false,[]):=by
 have a1:=qd6b t q k l [] hl hq0 hq1 om om
 rw[List.append_nil] at a1
 have e1:nAt ((msgB t q k l).take (20+l.length-1)) 2 2=20+(l.length:Int):=by
  rw[←a1];unfold nAt;rw[q1ib _ _ _ _ om]
 (have hlen:((msgB t q k l).take (20+l.length-1)).length=20+l.length-1:=by rw[List.length_take,qlj];omega)
 have hh:qctb ((msgB t q k l).take (20+l.length-1))=1:=by
  unfold qctb
  rw[hlen,if_neg om,e1,if_pos om]
 unfold qcsb
 rw[if_pos (by rw[hh];decide),hh]
def qdyb(S:List UInt8)(all:List Ev):Prop:=
 ∃P m d0 es0 t q k l,S=P++msgB t q k l/\m<=P.length/\(∀n z,runM (n+m) (P++z) false []=runM n z d0 es0)/\(∀z,qcsb (msgB t q k l++z) d0 es0=(0,z,true,all))/\0<l.length/\l.length<=60000/\0<=q/\q<=4294967295/\(k=2\/k=300)
theorem qf9b:qdyb (msgB 0 0 2 (tplB 6)) []:=by
 have hl:(tplB 6).length=28:=qqi
 exact⟨[],0,false,[],0,0,2,tplB 6,rfl,Nat.le_refl _,fun n z=>rfl,qgfb,by omega,by omega,by omega,by omega,.inl rfl⟩
theorem qenb(t q k:Int)(l z:List UInt8)(d:Bool)(es all:List Ev)(h:qcsb (msgB t q k l++z) d es=(0,z,true,all))(n:Nat):runM (n+1) (msgB t q k l++z) d es=runM n z true all:=
 qd9b n _ d es (by rw[List.length_append,qlj];omega) h
theorem qeab(h:qdyb S all)(t:Int)(ps:List Ev)(hp:∀e∈ps,okE e/\e.t=t)(h0:0<ps.length)(h64:ps.length<=64)(hes:all.length<=100000)(hla:qcyb all t=false):qdyb (S++msgB t (all.length:Int) 300 (setB ps)) (all++ps):=by
 obtain⟨P,m,d0,es0,t0,q0,k0,l0,hS,hm,hP,hst,_⟩:=h
 have hl:(setB ps).length=21*ps.length:=qnn ps
 refine⟨S,m+1,true,all,t,(all.length:Int),300,setB ps,rfl,?_,fun n z=>?_,fun z=>qg0b t ps all z hp h0 h64 hes hla,by omega,by omega,by omega,by omega,.inr rfl⟩
 ·rw[hS,List.length_append,qlj];omega
 ·(rw[hS,List.append_assoc,show n+(m+1)=(n+1)+m by omega,hP,qenb _ _ _ _ _ _ _ _ (hst z)])
theorem qfyb(h:qdyb S all):runM S.length S false []=(0,all):=by
 obtain⟨P,m,d0,es0,t,q,k,l,hS,hm,hP,hst,_⟩:=h
 (have hlen:S.length=P.length+(20+l.length):=by rw[hS,List.length_append,qlj])
 obtain⟨n,hn⟩:∃n,S.length=(n+1)+m:=⟨S.length-m-1,by omega⟩
 rw[hn,hS,hP]
 have:=qenb t q k l [] d0 es0 all (hst []) n
 rw[List.append_nil] at this
 rw[this,qelb _ _ _ _ rfl]
theorem q1ob(h:qdyb S all):(runM (S.length-1) (S.take (S.length-1)) false []).1=1:=by
 obtain⟨P,m,d0,es0,t,q,k,l,hS,hm,hP,hst,hl0,hl1,hq0,hq1,hk⟩:=h;(have hlen:S.length=P.length+(20+l.length):=by rw[hS,List.length_append,qlj])
 obtain⟨n,hn⟩:∃n,S.length-1=(n+1)+m:=⟨S.length-1-m-1,by omega⟩
 have e1:S.take (S.length-1)=P++(msgB t q k l).take (20+l.length-1):=by
  rw[hS,List.take_append,List.take_of_length_le (by rw[List.length_append,qlj];omega)]
  congr 1
  rw[List.length_append,qlj];congr 1;omega
 have hs:=q1rb t q k l hl1 hl0 hq0 hq1 hk d0 es0
 rw[e1,hn,hP,qgbb n _ d0 es0 (by rw[List.length_take,qlj];omega) (by rw[hs];decide),hs]
end Go.Proofs.YtnhafdkfjjplkaaDoor
