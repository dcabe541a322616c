/-
  Of what a law stands on.
-/
import Derived.BigQuiet
import Derived.Deep.Slices
import Derived.Test.YtonnjgmognbnbaaGreatDoorZtd3
set_option linter.unusedSimpArgs false
set_option linter.unusedVariables false
namespace Go.Proofs.YtonnjgmognbnbaaGreatDoor
open Go.Value renaming int → I,pointer → V
open Go.IntKind renaming i64 → Z
open _root_.Go.Proofs.Tryz Go.ChangeShapes Go.WideShapes Go.ChangeAt Go.RowKit
set_option maxHeartbeats 16000000
set_option maxRecDepth 100000
variable {w:World}{b j:Nat}{v:Value}{ms:List Mp}{m o:Mp}{p:Prop}{f h:Nat->Int}{a:Int}{t:TypeId}{cs:Array Value}
theorem qmo{w':World}(h:qaz w v ms)(hne:mb v≠b)(t:qbl b w w'):qaz w' v ms:=by
 obtain⟨a,cap,e,h1,h2,h3⟩:=h
 refine⟨a,cap,e,h1,fun j hj i u hu=>?_,h3⟩
 have:=h2 j hj i u hu
 unfold World.cell? at *
 rw[t.other _ hne]
 exact this
theorem qzj{o:Nat}:qbl b w (w.setCell ⟨b,o,none⟩ v):=⟨by simp,fun r hr=>Below.heap_setCell _ _ _ _ hr,fun B w0 hB hb=>hb.setCell (p:=⟨b,o,none⟩) hB v⟩
theorem q6u(f:Nat->Int)(g:Nat->Bool)(h:Nat->Int)(sl:Value)(ms:List Mp)(p s i d:Int)(w:World)(hM:qaz w sl ms)(hwH:wfH h)(hno:qcs sl)(hd:(Lit.int .i64 d).wf=true)(hP:qjy f h ms p s i)(hf:ms.find? (inS p s i)=none)(hc:cntM ms s≠12)(he:(qbe f g h ms p s d).e=0):
  Calls prog 130 #[.agg (tc f g h sl),.int .i64 p,.int .i64 s,.int .i64 i,.int .i64 d] w fun e w'=>∃v,e=.returned (qpm (qbe f g h ms p s d).f g (qbe f g h ms p s d).h v (p,s,i,(qbe f g h ms p s d).h s.toNat-1,(qbe f g h ms p s d).q) (qbe f g h ms p s d).took 0)/\qaz w' v (ms++[(p,s,i,(qbe f g h ms p s d).h s.toNat-1,(qbe f g h ms p s d).q)])/\qcs v/\w.heap.size<=mb v/\Below w.heap.size w w':=by
 refine m2a ?_;intro hB;have hM0:=hM
 obtain⟨a0,cap,hsl,-⟩:=hM0
 obtain⟨n,hn⟩:∃n,n=ms.length:=⟨_,rfl⟩
 rw[←hn] at hsl
 subst hsl
 refine m0t ?_;clear hn;intro HN hlt CG G hp hs hi0 hi1 hs0 hs8 hs8n C1 C2 C3 e2 e3
 rw[hp] at C1
 rw[e2] at C2
 rw[e3] at C3
 refine m6a ?_;intro HG CF
 rw[hf] at CF
 unfold qhw at CF
 (have hany:ms.any (inS p s i)=false:=by rw[←List.isSome_find?,hf];rfl);have hrk:=(qya (g:=g) (d:=d) G hp hs ⟨hi0,hi1⟩ hany hc he).1.homeIn hs;refine m81 ?_;intro CC dc CR
 unfold q00 at CR
 have hlen:=G.len
 generalize qbe f g h ms p s d=r at *
 obtain⟨rf,rh,rq,rt,re⟩:=r
 simp only at CR he hrk ⊢
 subst he
 obtain⟨ra,hra⟩:∃ra,ra=rh s.toNat-1:=⟨_,rfl⟩
 (have hraw:wrap64 (rh s.toNat-1)=ra:=by rw[hra];unfold wrap64;omega);rw[←hra];(have CW:=fun w hM=>q50 (.slice a0 n cap) ms (p,s,i,ra,rq) w hM hno hlen)
 generalize cntM ms s=cc at *
 clear G hp hs hi0 hi1 e2 e3 hf hc hany hrk hlen hra
 go_enter func130,ntmps130
 go_wp2_with (first|(refine m30 ?_;clear hB;intro b5 w1 R5 hb1 l5 hB)|(refine m1u ?_;clear R5 hB;intro b10 w2 R10 hb2 n5a l10 R5 hB)|(refine m19 ?_;clear R5 R10 hB;intro b11 w3 R11 hb3 n5b nab l11 R5 R10 hB)|(refine lx 39 (.tmp 5) (tc f g h (.slice a0 n cap)) R5 ?_)|(go_at_call 25;refine m7a ?_;rintro e w5 ⟨r,hr,rfl,hb5⟩;obtain rfl:r=true:=(hr.2 HG.out);clear hr;refine m0v ?_;clear R5 R10 R11 hB;intro R5 R10 R11 hB)|(go_at_call 101;go_fit (C1 _);refine m04 ?_)|(go_at_call 102;go_fit (C2 _);refine m04 ?_)|(go_at_call 103;go_fit (C3 _);refine m04 ?_)|(go_at_call 32;go_fit (CF _ (hM.keep hB hlt));rintro e w5 ⟨rfl,hb5⟩;refine m0v ?_;clear R5 R10 R11 hB;intro R5 R10 R11 hB)|(refine m28 ?_;clear R5 R10 R11 hB;intro b14 w8 R14 hb8 n5c nac nbc l14 R5 R10 R11 hB)|(refine m78 ?_;clear R5 R10 R11 hB;intro w9 R14 t9 R5 R10 R11 hB)|(go_at_call 105;go_fit (CC _ (hM.keep hB hlt));rintro e w5 ⟨rfl,hb5⟩;(try clear R14);refine m0v ?_;clear R5 R10 R11 hB;intro R5 R10 R11 hB)|(go_at_call 165;go_fit (CR _ (hM.keep hB hlt));rintro e w5 ⟨rfl,hb5⟩;refine m0v ?_;clear R5 R10 R11 hB;intro R5 R10 R11 hB)|(refine ax 16 39 qb8 ?_;intro b16 w10 l16 R16 hb10;have n5d:=R5.ne l16;have nad:=R10.ne l16;have nbd:=R11.ne l16;replace l16:=Nat.le_trans hB.size l16;replace R5:=R5.below hb10;replace R10:=R10.below hb10;replace R11:=R11.below hb10;replace hB:=hB.trans (hb10.mono hB.size))|(refine m4g ?_;clear R5 R10 R11 hB;intro w11 R16 t11 R5 R10 R11 hB c16)|(refine ax 20 50 qa4 ?_;intro b20 w12 l20 R20 hb12;have n5e:=R5.ne l20;have nae:=R10.ne l20;have nbe:=R11.ne l20;have nde:=R16.ne l20;replace l20:=Nat.le_trans hB.size l20;replace R5:=R5.below hb12;replace R10:=R10.below hb12;replace R11:=R11.below hb12;replace R16:=R16.below hb12;replace hB:=hB.trans (hb12.mono hB.size))|(refine sx 50 (.tmp 20) _ (mc (p,s,i,ra,rq)) R20 ?_;intro w13 R20 t13;replace R5:=t13.row R5 n5e;replace R10:=t13.row R10 nae;replace R11:=t13.row R11 nbe;replace R16:=t13.row R16 nde;replace hB:=t13.below _ _ l20 hB;clear c16;have c5:World.cell? _ ⟨b5,29,none⟩=some (.slice a0 n cap):=(R5.cell _).trans (qdw _ _ _ _))|(refine lx 50 (.tmp 20) (mc (p,s,i,ra,rq)) R20 ?_)|(go_at_call 166;go_fit (CW _ (hM.keep hB hlt));rintro e w14 ⟨v,rfl,hMv,hNv,hbv,hb14⟩;clear c5;have hle0:=Nat.le_trans hB.size hbv;have x10:=Nat.ne_of_gt (Nat.lt_of_lt_of_le R10.lt hbv);have x11:=Nat.ne_of_gt (Nat.lt_of_lt_of_le R11.lt hbv);have x16:=Nat.ne_of_gt (Nat.lt_of_lt_of_le R16.lt hbv);clear hbv;replace R10:=R10.below hb14;replace R11:=R11.below hb14;replace R16:=R16.below hb14;replace R20:=R20.below hb14;replace hB:=hB.trans (hb14.mono hB.size);(obtain⟨av,cv,hv,-⟩:=id hMv);(generalize(ms++[(p,s,i,ra,rq)]).length=ln at hv);subst hv;have f16:=R16.free 29;have c16:World.cell? _ ⟨b16,29,none⟩=some (.slice a0 n cap):=(R16.cell _).trans (qdw _ _ _ _)))
 replace R10:=R10.other (b:=b16) (o:=29) (v:=.slice av ln cv) nad;replace R11:=R11.other (b:=b16) (o:=29) (v:=.slice av ln cv) nbd;replace R20:=R20.other (b:=b16) (o:=29) (v:=.slice av ln cv) nde.symm;replace R16:=R16.set (o:=29) (v:=.slice av ln cv)
 rw[qm0] at R16
 have hM2:=qmo hMv x16 (qzj (o:=29) (v:=.slice av ln cv));replace hB:=hB.setCell (p:=⟨b16,29,none⟩) l16 (.slice av ln cv)
 refine RD (fun W=>Row 39 W b16 (tc rf g rh (.slice av ln cv))/\Row 50 W b20 (mc (p,s,i,ra,rq))) ⟨R16,R20⟩ (fun _=>?_)
 refine tk 0 (.agg (tc rf g rh (.slice av ln cv))) rfl (yx 39 (.tmp 16) (tc rf g rh (.slice av ln cv)) (fun _ h=>h.1)) ⟨R16,R20⟩ (tk 1 (.agg (mc (p,s,i,ra,rq))) rfl (qav 50 (.tmp 20) rfl kr b20 kr (mc (p,s,i,ra,rq)) (fun _ h=>h.2) _ underlying50 rfl (qak (p,s,i,ra,rq))) ⟨R16,R20⟩ (tq 2 (.bool rt) rfl ⟨R16,R20⟩ ?_))
 refine m5i ?_;refine AR [3] ?_
 refine AP (fun K hK=>?_) AZ
 refine qau 39 (.tmp 10) (.tmp 88) rfl b10 rfl (tc rf g rh (.slice av ln cv)) rfl _ R10 (qen _ _ _ _ _ _ _ _) (qaq _ _ _ _) (qbm _ _ _ _ _ _) ?_;intro w16 R10 t16;(try replace t16:=qhp t16);replace R16:=t16.row R16 nad.symm;replace R11:=t16.row R11 nab.symm;replace R20:=t16.row R20 nae.symm;replace hM2:=qmo hM2 x10 t16;replace hB:=t16.below _ _ l10 hB
 refine hK.out _ _ ⟨R16,R20⟩ (fun _=>?_)
 clear hK K;(try simp only[ZZ]);refine AR [4] ?_
 refine AP (fun K hK=>?_) AZ
 refine sy 50 (.tmp 11) (.tmp 89) (mc (p,s,i,ra,rq)) R11 ?_;intro w17 R11 t17;(try replace t17:=qhp t17);replace R16:=t17.row R16 nbd.symm;replace R10:=t17.row R10 nab;replace R20:=t17.row R20 nbe.symm;replace hM2:=qmo hM2 x11 t17;replace hB:=t17.below _ _ l11 hB
 refine hK.out _ _ ⟨R16,R20⟩ (fun _=>?_)
 clear hK K;(try simp only[ZZ]);refine tq 5 (.bool rt) rfl ⟨R16,R20⟩ (tq 6 (.int .i64 0) rfl ⟨R16,R20⟩ ?_);refine m1f ?_
 go_wp2
 (refine m03 ?_;refine bodyPost_ret (qej rfl _ _ _ _ _ _ rfl rfl R10 R11 _ _ underlying39 underlying50 rfl rfl (qaq _ _ _ _) (qak _)) rfl ⟨.slice av ln cv,?_⟩)
 exact⟨rfl,hM2,hNv,hle0,by first|exact hB|exact qea hB⟩
theorem sZtd43(h:p:=by
 rcases List.mem_cons.1 hm with h|h
 ·exact absurd h.symm e
 ·exact h):p:=h
theorem q35(hp:ms.Pairwise (fun o m=>qc0 [o] m=false))(hm:m∈ms):ms.find? (inS m.1 m.2.1 m.2.2.1)=some m:=by
 induction ms with
 | nil=>simp at hm
 | cons o r ih=>
  rw[List.pairwise_cons] at hp
  by_cases e:o=m
  ·subst e
   have:inS o.1 o.2.1 o.2.2.1 o=true:=(qsm _ _ _ _).2 ⟨rfl,rfl,rfl⟩
   rw[List.find?_cons_of_pos this]
  ·have hm':m∈r:=by
    exact sZtd43
   have h1:=hp.1 m hm'
   have h2:inS m.1 m.2.1 m.2.2.1 o=false:=by
    simp only[qc0,List.any_cons,List.any_nil,Bool.or_false,Bool.or_eq_false_iff] at h1
    exact h1.1
   rw[List.find?_cons_of_neg (by rw[h2];simp)]
   exact ih hp.2 hm'
theorem qbq.wf(G:qbq f h ms):wfH h:=fun i hi=>by
 have:=G.homeIn (s:=(i:Int)) om
 simp only[Int.toNat_natCast] at this
 exact qlt om om
theorem qbeb(hp:ms.Pairwise (fun o m=>qc0 [o] m=false))(hm:m∈ms):ms.find? (outS m.1 m.2.2.2.1 m.2.2.2.2)=some m:=by
 induction ms with
 | nil=>simp at hm
 | cons o r ih=>
  rw[List.pairwise_cons] at hp
  by_cases e:o=m
  ·subst e
   have:outS o.1 o.2.2.2.1 o.2.2.2.2 o=true:=(qup _ _ _ _).2 ⟨rfl,rfl,rfl⟩
   rw[List.find?_cons_of_pos this]
  ·have hm':m∈r:=by
    exact sZtd43
   have h1:=hp.1 m hm'
   have h2:outS m.1 m.2.2.2.1 m.2.2.2.2 o=false:=by
    simp only[qc0,List.any_cons,List.any_nil,Bool.or_false,Bool.or_eq_false_iff] at h1
    exact h1.2
   rw[List.find?_cons_of_neg (by rw[h2];simp)]
   exact ih hp.2 hm'
theorem qer(a b:Int):(prog.info? 104).map (·.size)=some (ic2 a b).size:=by kernel_rfl
theorem qlf(a b:Int):(ic2 a b).all (·.oneCell')=true:=by kernel_rfl
def qfr(ms:List Mp)(a b:Int):Bool:=ms.any fun o=>inP o&&(plA o==a&&plB o==b)
theorem q3j{b:Int}(hlj:j<ms.length)(hm:ms[j]=o)(h1:inP o=true)(h2:(plA o==a&&plB o==b)=true):qfr ms a b=true:=by
 unfold qfr;rw[List.any_eq_true];exact⟨o,hm▸List.getElem_mem hlj,by rw[h1,h2];rfl⟩
theorem qp5{b:Int}(hno:qfr (ms.take j) a b=false)(hlj:j<ms.length)(hm:ms[j]=o)(h:(inP o&&(plA o==a&&plB o==b))=false):qfr (ms.take (j+1)) a b=false:=by
 unfold qfr at *;rw[qic hlj hm,List.any_append,hno];simp[h]
theorem sZtd41(h:p:=by
 go_roundw
 case rel=>first|exact⟨j+1,by omega,by go_num,HF.out,hB,R3⟩|((repeat apply Exists.intro);exact⟨⟨j+1,by omega,by go_num,HF.out,hB,R3⟩,rfl⟩)
 case measure=>(first|rw[hjw]|skip);exact qek (HN.out.symm▸hlj)):p:=h
theorem qoa(sl:Value)(ms:List Mp)(x y:Int)(w:World)(hM:qaz w sl ms):
  Calls prog 179 #[sl,.agg (ic2 x y)] w fun e w'=>e=.returned (.bool (qfr ms x y))/\Below w.heap.size w w':=by
 refine m2a ?_;intro hB;have hM0:=hM
 obtain⟨a0,cap,hsl,-⟩:=hM0
 obtain⟨n,hn⟩:∃n,n=ms.length:=⟨_,rfl⟩
 rw[←hn] at hsl
 subst hsl
 refine m4n ?_;clear hn;intro HN hlt
 go_enter func179,ntmps179
 go_wp2_with ((with_reducible refine gB 104 1 ?_);refine bx 104 _ _ ?_;intro b3 w1 l3 R3 hb1;refine m5a ?_;clear hB;intro hB)
 go_loopw [11] (fun i W=>∃j:Nat,j<=ms.length/\i=I Z j/\qfr (ms.take j) x y=false/\Below w.heap.size w W/\Row 104 W b3 (ic2 x y)) (fun i _=>n-(intOf i).toNat)
 case atStart=>exact⟨0,by omega,rfl,by simp[qfr],hB,R3⟩
 case round=>
  clear hB R3 hb1
  obtain⟨j,hj,rfl,hno,hB,R3⟩:=hrel
  by_cases hlj:j<ms.length
  ·refine m3l ?_;intro hjn hjw
   obtain⟨o,hm⟩:∃o,ms[j]=o:=⟨_,rfl⟩
   refine m96 ?_;intro hMW hrg;(have CPl:=fun w=>qgp o w)
   cases hin:inP o with
   | false=>
    simp only[hin] at CPl
    have HF:Hid (qfr (ms.take (j+1)) x y=false):=qp5 hno hlj hm (by rw[hin];rfl);clear hno hm hin
    go_wp2_with (first|((with_reducible refine qaa (.indexAddr 37 (.tmp 9) (.tmp 11)) rfl ?_);refine m7n ?_)|((with_reducible refine gL 50 13 ?_);refine m56 ?_)|((with_reducible refine gA 50 ?_);refine ax 6 50 qa4 ?_;intro b6 w3 l6 R6 hb3;have n36:=R3.ne l6;refine m4o ?_;clear l6 R3 hB;intro l6 R3 hB)|((with_reducible refine gS 50 6 14 ?_);refine sx 50 (.tmp 6) _ (mc o) R6 ?_;intro w4 R6 t4;replace R3:=t4.row R3 n36;replace hB:=t4.below _ _ l6 hB)|((with_reducible refine gL 50 6 ?_);refine lx 50 (.tmp 6) (mc o) R6 ?_)|(go_at_call 65;go_fit (CPl _);rintro e w5 ⟨rfl,hb5⟩;clear R6;replace R3:=R3.below hb5;refine m2s ?_;clear hB;intro hB)|((with_reducible refine gA 104 ?_);refine m6u ?_;clear R3 hB;intro b7 w6 R7 hb6 n37 l7 R3 hB)|((with_reducible refine gS 104 7 18 ?_);refine m8g ?_;clear R3 hB;intro w8 R7 t8 R3 hB))
    exact sZtd41
   | true=>
    simp only[hin] at CPl
    cases dE:(plA o==x&&plB o==y) with
    | true=>
     have HF:Hid (qfr ms x y=true):=q3j hlj hm hin dE;clear hno hm hin
     go_wp2_with (first|((with_reducible refine qaa (.indexAddr 37 (.tmp 9) (.tmp 11)) rfl ?_);refine m7n ?_)|((with_reducible refine gL 50 13 ?_);refine m56 ?_)|((with_reducible refine gA 50 ?_);refine ax 6 50 qa4 ?_;intro b6 w3 l6 R6 hb3;have n36:=R3.ne l6;refine m4o ?_;clear l6 R3 hB;intro l6 R3 hB)|((with_reducible refine gS 50 6 14 ?_);refine sx 50 (.tmp 6) _ (mc o) R6 ?_;intro w4 R6 t4;replace R3:=t4.row R3 n36;replace hB:=t4.below _ _ l6 hB)|((with_reducible refine gL 50 6 ?_);refine lx 50 (.tmp 6) (mc o) R6 ?_)|(go_at_call 65;go_fit (CPl _);rintro e w5 ⟨rfl,hb5⟩;clear R6;replace R3:=R3.below hb5;refine m2s ?_;clear hB;intro hB)|((with_reducible refine gA 104 ?_);refine m6u ?_;clear R3 hB;intro b7 w6 R7 hb6 n37 l7 R3 hB)|((with_reducible refine gS 104 7 18 ?_);refine m8g ?_;clear R3 hB;intro w8 R7 t8 R3 hB)|((with_reducible refine gL 104 7 ?_);refine qac 104 (.tmp 7) rfl ?_ b7 rfl (ic2 (plA o) (plB o)) R7 _ underlying104 rfl (qer _ _) ?_;· kernel_rfl)|((with_reducible refine gL 104 3 ?_);refine qac 104 (.tmp 3) rfl ?_ b3 rfl (ic2 x y) R3 _ underlying104 rfl (qer _ _) ?_;· kernel_rfl;(try dsimp only[Act.put]);(try simp only[List.setIfInBounds_toArray,List.set_cons_zero,List.set_cons_succ]))|((with_reducible refine qaa (.binOp .eql 104 (.tmp 22) (.tmp 23) 104) rfl ?_);refine qb1 104 (.tmp 22) (.tmp 23) rfl ?_ (ic2 (plA o) (plB o)) (ic2 x y) kr kr eqGuardType104 _ _ (quq (plA o) (plB o) x y _) dE ?_;· kernel_rfl))
     go_ret
     exact⟨by rw[HF.out];rfl,hB⟩
    | false=>
     have HF:Hid (qfr (ms.take (j+1)) x y=false):=qp5 hno hlj hm (by rw[hin,dE];rfl);clear hno hm hin
     go_wp2_with (first|((with_reducible refine qaa (.indexAddr 37 (.tmp 9) (.tmp 11)) rfl ?_);refine m7n ?_)|((with_reducible refine gL 50 13 ?_);refine m56 ?_)|((with_reducible refine gA 50 ?_);refine ax 6 50 qa4 ?_;intro b6 w3 l6 R6 hb3;have n36:=R3.ne l6;refine m4o ?_;clear l6 R3 hB;intro l6 R3 hB)|((with_reducible refine gS 50 6 14 ?_);refine sx 50 (.tmp 6) _ (mc o) R6 ?_;intro w4 R6 t4;replace R3:=t4.row R3 n36;replace hB:=t4.below _ _ l6 hB)|((with_reducible refine gL 50 6 ?_);refine lx 50 (.tmp 6) (mc o) R6 ?_)|(go_at_call 65;go_fit (CPl _);rintro e w5 ⟨rfl,hb5⟩;clear R6;replace R3:=R3.below hb5;refine m2s ?_;clear hB;intro hB)|((with_reducible refine gA 104 ?_);refine m6u ?_;clear R3 hB;intro b7 w6 R7 hb6 n37 l7 R3 hB)|((with_reducible refine gS 104 7 18 ?_);refine m8g ?_;clear R3 hB;intro w8 R7 t8 R3 hB)|((with_reducible refine gL 104 7 ?_);refine qac 104 (.tmp 7) rfl ?_ b7 rfl (ic2 (plA o) (plB o)) R7 _ underlying104 rfl (qer _ _) ?_;· kernel_rfl)|((with_reducible refine gL 104 3 ?_);refine qac 104 (.tmp 3) rfl ?_ b3 rfl (ic2 x y) R3 _ underlying104 rfl (qer _ _) ?_;· kernel_rfl;(try dsimp only[Act.put]);(try simp only[List.setIfInBounds_toArray,List.set_cons_zero,List.set_cons_succ]))|((with_reducible refine qaa (.binOp .eql 104 (.tmp 22) (.tmp 23) 104) rfl ?_);refine qb1 104 (.tmp 22) (.tmp 23) rfl ?_ (ic2 (plA o) (plB o)) (ic2 x y) kr kr eqGuardType104 _ _ (quq (plA o) (plB o) x y _) dE ?_;· kernel_rfl))
     exact sZtd41
  ·(have e:j=ms.length:=by omega);refine m6c ?_;intro hjn
   rw[e,List.take_length] at hno
   have HF:Hid (qfr ms x y=false):=hno;clear e hj hlj hno
   go_wp2
   go_ret
   exact⟨by rw[HF.out];rfl,hB⟩
theorem qmn(sl:Value)(ms:List Mp)(m:Mp)(w:World)(hM:qaz w sl ms)(hl:ms.length<=1000):
  Calls prog 178 #[sl,.agg (mc m)] w fun e w'=>∃v,e=.returned v/\qaz w' v (qa6 ms m)/\qcs v/\(0<(qa6 ms m).length->w.heap.size<=mb v)/\Below w.heap.size w w':=by
 refine m2a ?_;intro hB;have hM0:=hM
 obtain⟨a0,cap,hsl,-⟩:=hM0
 obtain⟨n,hn⟩:∃n,n=ms.length:=⟨_,rfl⟩
 rw[←hn] at hsl
 subst hsl
 refine m4n ?_;clear hn;intro HN hlt;obtain⟨i0,hi,hz0,hz1,hz2⟩:=info_parts qnm
 go_enter func178,ntmps178
 go_wp2_with (refine m8w ?_;intro b3 w1 l3 R3 hb1;replace l3:=Nat.le_trans hB.size l3;refine m5a ?_;clear hB;intro hB)
 go_loopw [5,10] (fun v i W=>∃(j:Nat) (ao:Option Addr) (cv:Nat),j<=ms.length/\i=I Z j/\v=.slice ao (qa6 (ms.take j) m).length cv/\W.ownsRow w.heap.size 50 5 v (qa6 (ms.take j) m).length (flat (qa6 (ms.take j) m))/\v.ownBlock≠some b3/\Below w.heap.size w W/\Row 50 W b3 (mc m)) (fun _ i _=>n-(intOf i).toNat)
 case atStart=>exact⟨0,none,0,by omega,rfl,by simp[qa6],by simpa[qa6,flat] using World.ownsRow_nil _ _ _ _,by simp[Value.ownBlock],hB,R3⟩
 case round=>
  clear hB R3 hb1
  obtain⟨j,ao,cv,hj,rfl,hv,hown,hn3,hB,R3⟩:=hrel
  have hdl:=q5x ms m j
  by_cases hlj:j<ms.length
  ·refine m3l ?_;intro hjn hjw
   obtain⟨o,hm⟩:∃o,ms[j]=o:=⟨_,rfl⟩
   refine m96 ?_;intro hMW hrg;have hst:=qzu (m:=m) hlj hm
   obtain⟨D,hD⟩:∃D,D=qa6 (ms.take j) m:=⟨_,rfl⟩
   rw[←hD] at hown hst hdl hv
   obtain⟨dl,hdl0⟩:∃dl,Hid (dl=D.length):=⟨_,rfl⟩
   rw[←hdl0.out] at hown hdl hv
   subst hv
   by_cases hom:o=m
   ·rw[if_pos hom,List.append_nil] at hst
    have HS:Hid (qa6 (ms.take (j+1)) m=D):=hst;(have dz:(!(o==m))=false:=by simp[hom]);clear hst hom hD
    go_wp2_with (first|((with_reducible refine qaa (.indexAddr 37 (.tmp 8) (.tmp 10)) rfl ?_);refine qb5 rfl (.tmp 8) (.tmp 10) rfl (.slice a0 n cap) ms hMW rfl j rfl hlj ?_)|((with_reducible refine gL 50 12 ?_);refine m98 ?_)|((with_reducible refine gA 50 ?_);refine ax 7 50 qa4 ?_;intro b7 w3 l7 R7 hb3;have n37:=R3.ne l7;have n7:=qs6 hown l7;replace l7:=Nat.le_trans hB.size l7;replace hown:=qrb hown hb3;replace R3:=R3.below hb3;replace hB:=hB.trans (hb3.mono hB.size))|((with_reducible refine gS 50 7 13 ?_);refine sx 50 (.tmp 7) _ (mc o) R7 ?_;intro w4 R7 t4;replace R3:=t4.row R3 n37;replace hown:=qpt hown t4 n7;replace hB:=t4.below _ _ l7 hB)|((with_reducible refine gL 50 7 ?_);refine lx 50 (.tmp 7) (mc o) R7 ?_)|((with_reducible refine gL 50 3 ?_);refine m89 ?_)|((with_reducible refine qaa (.binOp .neq 50 (.tmp 14) (.tmp 15) 50) rfl ?_);refine m9d ?_))
    go_roundw
    case rel=>
     first
      | exact⟨j+1,ao,cv,by omega,by go_num,by rw[HS.out,←hdl0.out],by rw[HS.out,←hdl0.out];exact hown,hn3,hB,R3⟩
      | ((repeat apply Exists.intro);exact⟨⟨j+1,ao,cv,by omega,by go_num,by rw[HS.out,←hdl0.out],by rw[HS.out,←hdl0.out];exact hown,hn3,hB,R3⟩,rfl⟩)
    case measure=>(first|rw[hjw]|skip);exact qek (HN.out.symm▸hlj)
   ·rw[if_neg hom] at hst
    have HS:Hid (qa6 (ms.take (j+1)) m=D++[o]):=hst;(have dz:(!(o==m))=true:=by simp[hom]);clear hst hom hD
    go_wp2_with (first|((with_reducible refine qaa (.indexAddr 37 (.tmp 8) (.tmp 10)) rfl ?_);refine qb5 rfl (.tmp 8) (.tmp 10) rfl (.slice a0 n cap) ms hMW rfl j rfl hlj ?_)|((with_reducible refine gL 50 12 ?_);refine m98 ?_)|((with_reducible refine gA 50 ?_);refine ax 7 50 qa4 ?_;intro b7 w3 l7 R7 hb3;have n37:=R3.ne l7;have n7:=qs6 hown l7;replace l7:=Nat.le_trans hB.size l7;replace hown:=qrb hown hb3;replace R3:=R3.below hb3;replace hB:=hB.trans (hb3.mono hB.size))|((with_reducible refine gS 50 7 13 ?_);refine sx 50 (.tmp 7) _ (mc o) R7 ?_;intro w4 R7 t4;replace R3:=t4.row R3 n37;replace hown:=qpt hown t4 n7;replace hB:=t4.below _ _ l7 hB)|((with_reducible refine gL 50 7 ?_);refine lx 50 (.tmp 7) (mc o) R7 ?_)|((with_reducible refine gL 50 3 ?_);refine m89 ?_)|((with_reducible refine qaa (.binOp .neq 50 (.tmp 14) (.tmp 15) 50) rfl ?_);refine m9d ?_)|((with_reducible refine q5i ?_);refine qkl rfl (.tmp 18) rfl o rfl ?_)|((with_reducible refine qaa (.call { callee:=.builtin .append,args:=#[.tmp 17,.tmp 19],argTypes:=#[37,37] }) rfl ?_);refine wpList_append_own_at _ rfl (.tmp 17) (.tmp 19) 37 rfl w.heap.size 50 i0 (.agg (mc noM)) 5 40 underlying37 hi hz0 hz1 hz2 rfl (by decide) (.slice ao dl cv) dl (flat D) kr (hown.alloc _) ⟨_,0,none⟩ 1 1 (mcl o) rfl rfl (qql _ _ _) (qmp o) (by unfold maxLen;omega) om (by have:=hB.size;simp;omega) ?_;intro v4 w8 hown4 hg4 hn4 hloc;clear hn4;have hR3:=R3.alloc (.cells (mc o) 50);replace R3:=q0k hR3 hn3 hg4;have hn4:v4.ownBlock≠some b3:=(by rcases hloc with h|h;(rw[h];exact hn3);(rw[h];intro h2;have:=hR3.lt;have:=Option.some.inj h2;omega));clear hloc;replace hB:=qhq (hown.alloc _) (hB.alloc hB.size _) (by have:=hB.size;simp;omega) hg4;obtain⟨a4,c4,rfl⟩:=qkx hown4))
    go_roundw
    case rel=>
     (have hf:flat (D++[o])=flat D++mcl o:=by rw[qvh,qtx]);(have hl2:(D++[o]).length=dl+1:=by rw[List.length_append,←hdl0.out];rfl)
     first
      | exact⟨j+1,a4,c4,by omega,by go_num,by rw[HS.out,hl2],by rw[HS.out,hl2,hf];exact hown4,hn4,hB,R3⟩
      | ((repeat apply Exists.intro);exact⟨⟨j+1,a4,c4,by omega,by go_num,by rw[HS.out,hl2],by rw[HS.out,hl2,hf];exact hown4,hn4,hB,R3⟩,rfl⟩)
    case measure=>(first|rw[hjw]|skip);exact qek (HN.out.symm▸hlj)
  ·(have e:j=ms.length:=by omega);refine m6c ?_;intro hjn
   rw[e,List.take_length] at hown hv
   have hf:=qqm hown (by have:=hdl;rw[e,List.take_length] at this;omega);clear e hj hlj hown hdl
   subst hv
   go_wp2
   go_ret
   exact⟨_,rfl,hf.1,hf.2.1,hf.2.2,hB⟩
theorem qml{l:List Mp}(hall:∀o∈l,qdb f h o)(hs:qdb f h m):qfr l (plA m) (plB m)=l.any (fun o=>qa7 o==qa7 m):=by
 (have hin:∀o,qdb f h o->inP o=true:=fun o x=>by unfold inP;exact decide_eq_true ⟨x.2.2.2.1,x.2.2.2.2.1⟩);rw[Bool.eq_iff_iff]
 unfold qfr
 simp only[List.any_eq_true]
 constructor
 ·rintro⟨o,ho,h1⟩
  refine⟨o,ho,?_⟩
  have x:=hall o ho
  rw[hin o x] at h1
  unfold plA plB at h1
  rw[hin o x,hin m hs] at h1
  simp at h1
  have:=(qrg x.2.2.2.2.1 x.2.2.2.1 hs.2.2.2.2.1 hs.2.2.2.1).2 h1
  simp[qa7,this]
 ·rintro⟨o,ho,h1⟩
  refine⟨o,ho,?_⟩
  have x:=hall o ho;(have h2:qa7 o=qa7 m:=by simpa using h1)
  have:=(qrg x.2.2.2.2.1 x.2.2.2.1 hs.2.2.2.2.1 hs.2.2.2.1).1 h2
  rw[hin o x]
  unfold plA plB
  rw[hin o x,hin m hs]
  simp[this]
theorem qqd(h:o∈qa6 ms m):o∈ms:=(List.mem_filter.1 h).1
def qdx(f:Nat->Int)(m:Mp):Nat->Int:=upd f (qa7 m) 0
def qux(f h:Nat->Int)(m:Mp):Nat->Int:=if (qbk (qdx f m) m.2.1).length=0 then upd h m.2.1.toNat 0 else h
theorem qqx(G:qbq f h ms)(hs:qdb f h m)(g:Nat->Bool):qgh f g m.2.1 (plA m) (plB m)=.tuple #[plv (qdx f m) g,I Z 0]:=by
 (have hin:inP m=true:=by unfold inP;exact decide_eq_true ⟨hs.2.2.2.1,hs.2.2.2.2.1⟩);(have ha:plA m=((m.2.2.2.1.toNat:Nat):Int):=by unfold plA;rw[if_pos hin];have:=hs.2.2.2.2.1;omega);(have hb:plB m=((((m.2.2.2.2-1024)/8).toNat:Nat):Int):=by unfold plB;rw[if_pos hin];have:=hs.2.2.2.1;omega);have e0:=qno (f:=f) (s:=m.2.1) (a:=m.2.2.2.1.toNat) (k:=((m.2.2.2.2-1024)/8).toNat) G.pool (by have:=hs.2.2.2.2.1;omega) (by have:=hs.2.2.2.1;omega) (qed hs.2.1.1 hs.2.1.2) hs.2.2.2.2.2.2
 unfold qgh que
 rw[ha,hb,e0,if_pos rfl,Int.toNat_natCast,Int.toNat_natCast]
 rfl
theorem qh1{ops:Array Oper}{rest:List Oper}{o:Oper}{a:Act}{Q:Exit->Act->World->Prop}(R:Row t w b cs)(hgd:o.guard=none)(x y:Operand)(ho:o.op=.store 37 x y)(f:Nat)(hx:a.eval x=V (some ⟨b,f,none⟩))(p:Option Addr)(n c:Nat)(hy:a.eval y=.slice p n c)(old:Value)(hc:cs[f]?=some old)(ds:Array Value)(hd:cs.setIfInBounds f (.slice p n c)=ds)(hr:∀w',Row t w' b ds->qbl b w w'->wpList prog ops Q rest (a.put o.dst undef) w'):wpList prog ops Q (o::rest) a w:=
 wpList_plain hgd fun K hK=>by
  refine m6s ?_;intro hcell hfr
  unfold Oper.wp execOp
  simp only[ho,hx,hy]
  simp[go_sem,hcell,hfr,underlying37]
  exact hK _ _ (hr _ (hd▸R.set) (qfx _ _ _ _))
theorem sZtd42(h:p:=by
 have h1:=qnu (qqg G.maps) hm;have h2:=HN.out
 have:(ln:Int)≠(n:Int):=by omega
 simpa using this):p:=h
theorem q67(f:Nat->Int)(g:Nat->Bool)(h:Nat->Int)(sl:Value)(ms:List Mp)(m:Mp)(hwH:wfH h)(w:World)(hM:qaz w sl ms)(G:qbq f h ms)(hm:m∈ms)(ha:(qa6 ms m).any (fun o=>qa7 o==qa7 m)=true):
  Calls prog 148 #[.agg (tc f g h sl),.agg (mc m)] w fun e w'=>∃v,e=.returned (.tuple #[.agg (tc f g h v),.bool false,I Z 0])/\qaz w' v (qa6 ms m)/\qcs v/\(0<(qa6 ms m).length->w.heap.size<=mb v)/\Below w.heap.size w w':=by
 refine m2a ?_;intro hB;have hM0:=hM
 obtain⟨a0,cap,hsl,-⟩:=hM0
 obtain⟨n,hn⟩:∃n,n=ms.length:=⟨_,rfl⟩
 rw[←hn] at hsl
 subst hsl
 refine m4n ?_;clear hn;intro HN hlt
 obtain⟨ln,hln⟩:∃ln,ln=(qa6 ms m).length:=⟨_,rfl⟩
 have HL:Hid (ln=(qa6 ms m).length):=hln;have HG:Hid (qbq f h ms):=G
 have hlne:((ln:Int)==(n:Int))=false:=by
  exact sZtd42
 refine m27 ?_;intro hst hin CG CW CPl
 simp only[hin] at CPl
 (have CA:=fun sl w hM=>qoa sl (qa6 ms m) (plA m) (plB m) w hM)
 rw[qml (fun o ho=>G.maps.1 o (qqd ho)) hst,ha] at CA
 clear hln G hm ha hst hin
 go_enter func148,ntmps148
 go_wp2_with (first|((with_reducible refine gB 39 0 ?_);refine m9j ?_;intro b2 w1 l2 R2 hb1;refine m5a ?_;clear hB;intro hB)|((with_reducible refine gB 50 1 ?_);refine m7e ?_;intro b3 w1 l3 R3 hb1;replace R2:=R2.below hb1;refine m5a ?_;clear hB;intro hB)|((with_reducible refine gA 39 ?_);refine m5e ?_;clear R2 R3 hB;intro b4 w2 R4 hb2 n24 n34 l4 R2 R3 hB)|((with_reducible refine gL 39 2 ?_);refine m8y ?_)|(go_at_call 25;refine m7a ?_;rintro e w5 ⟨r,hr,rfl,hb5⟩;obtain rfl:r=true:=(hr.2 HG.out);clear hr;replace R2:=R2.below hb5;replace R3:=R3.below hb5;replace R4:=R4.below hb5;refine m2s ?_;clear hB;intro hB;refine m2w ?_;intro cM)|((with_reducible refine gL 50 3 ?_);refine m89 ?_)|(go_at_call 178;go_fit (CW _ (hM.keep hB hlt));rintro e w6 ⟨v,rfl,hMv,hNv,hbv,hb6⟩;refine m2e ?_;clear cM hbv R2 R3 R4 hB;intro x4 hbv R2 R3 R4 hB;(obtain⟨av,cv,hv,-⟩:=id hMv);rw[←HL.out] at hv;subst hv;refine m2w ?_;intro cM)|(go_at_call 65;refine m6k ?_;clear cM R2 R3 R4 hMv hB;intro w7 hb7 R2 R3 R4 hMv hB)|((with_reducible refine gA 104 ?_);refine m3c ?_;clear R2 R3 R4 hMv hB;intro b8 w8 R8 hb8 n28 n38 n48 x8 l8 R2 R3 R4 hMv hB)|((with_reducible refine gS 104 8 29 ?_);refine m5c ?_;clear R2 R3 R4 hMv hB;intro w9 R8 t9 R2 R3 R4 hMv hB)|((with_reducible refine gA 39 ?_);refine m2p ?_;clear R2 R3 R4 R8 hMv hB;intro b10 w10 R10 hb10 n210 n310 n410 n810 x10 l10 R2 R3 R4 R8 hMv hB)|((with_reducible refine gS 39 10 31 ?_);refine m10 ?_;intro w11 R10 t11;refine m7g ?_;clear R2 R3 R4 R8 hMv hB;intro R2 R3 R4 R8 hMv hB)|((with_reducible refine gS 37 33 32 ?_);refine m2x ?_;clear R2 R3 R4 R8 hMv hB;intro w12 R10 t12 R2 R3 R4 R8 hMv hB)|((with_reducible refine gL 104 8 ?_);refine lx 104 (.tmp 8) (ic2 (plA m) (plB m)) R8 ?_)|(go_at_call 179;refine m6f ?_;clear R2 R3 R4 R8 R10 hMv;intro w13 hb13 R2 R3 R4 R8 R10 hMv;replace hB:=hB.trans (hb13.mono hB.size) )|((with_reducible refine gL 39 10 ?_);refine lx 39 (.tmp 10) (tc f g h (.slice av ln cv)) R10 ?_)|((with_reducible refine gS 39 4 37 ?_);refine qab 39 rfl (.tmp 4) _ rfl b4 rfl (tc f g h (.slice av ln cv)) rfl _ R4 (qen _ _ _ _ _ _ _ _) (qaq _ _ _ _) (qbm _ _ _ _ _ _) ?_;intro w14 R4 t14;replace hMv:=qcl hMv x4 t14;replace hB:=t14.below _ _ l4 hB))
 (refine m03 ?_;refine bodyPost_ret (qlv (p:=4) (u:=5) (v:=6) rfl _ _ _ _ rfl R4 _ underlying39 rfl (qaq _ _ _ _)) rfl ⟨_,rfl,hMv,hNv,hbv,hB⟩)
theorem qzw(f:Nat->Int)(g:Nat->Bool)(h:Nat->Int)(sl:Value)(ms:List Mp)(m:Mp)(hwH:wfH h)(w:World)(hM:qaz w sl ms)(G:qbq f h ms)(hm:m∈ms)(ha:(qa6 ms m).any (fun o=>qa7 o==qa7 m)=false)(hz:(qbk (qdx f m) m.2.1).length=0):
  Calls prog 148 #[.agg (tc f g h sl),.agg (mc m)] w fun e w'=>∃v,e=.returned (.tuple #[.agg (tc (qdx f m) g (upd h m.2.1.toNat 0) v),.bool true,I Z 0])/\qaz w' v (qa6 ms m)/\qcs v/\(0<(qa6 ms m).length->w.heap.size<=mb v)/\Below w.heap.size w w':=by
 refine m2a ?_;intro hB;have hM0:=hM
 obtain⟨a0,cap,hsl,-⟩:=hM0
 obtain⟨n,hn⟩:∃n,n=ms.length:=⟨_,rfl⟩
 rw[←hn] at hsl
 subst hsl
 refine m4n ?_;clear hn;intro HN hlt
 obtain⟨ln,hln⟩:∃ln,ln=(qa6 ms m).length:=⟨_,rfl⟩
 have HL:Hid (ln=(qa6 ms m).length):=hln;have HG:Hid (qbq f h ms):=G
 have hlne:((ln:Int)==(n:Int))=false:=by
  exact sZtd42
 refine m27 ?_;intro hst hin CG CW CPl
 simp only[hin] at CPl
 (have CA:=fun sl w hM=>qoa sl (qa6 ms m) (plA m) (plB m) w hM)
 rw[qml (fun o ho=>G.maps.1 o (qqd ho)) hst,ha] at CA
 (have CGi:=fun w=>quv f g m.2.1 (plA m) (plB m) w)
 rw[qqx G hst] at CGi
 (have CB:=fun av w=>qiq (qdx f m) g h av m.2.1 hst.2.1.1 hst.2.1.2 w);(have hs8n:m.2.1.toNat<8:=by have:=hst.2.1;omega);have hs0:0<=m.2.1:=hst.2.1.1;have hs8:m.2.1<8:=hst.2.1.2
 rw[hz] at CB
 clear hln G hm ha hst hin hz
 go_enter func148,ntmps148
 go_wp2_with (first|((with_reducible refine gB 39 0 ?_);refine m9j ?_;intro b2 w1 l2 R2 hb1;refine m5a ?_;clear hB;intro hB)|((with_reducible refine gB 50 1 ?_);refine m7e ?_;intro b3 w1 l3 R3 hb1;replace R2:=R2.below hb1;refine m5a ?_;clear hB;intro hB)|((with_reducible refine gA 39 ?_);refine m5e ?_;clear R2 R3 hB;intro b4 w2 R4 hb2 n24 n34 l4 R2 R3 hB)|((with_reducible refine gL 39 2 ?_);refine m8y ?_)|(go_at_call 25;refine m7a ?_;rintro e w5 ⟨r,hr,rfl,hb5⟩;obtain rfl:r=true:=(hr.2 HG.out);clear hr;replace R2:=R2.below hb5;replace R3:=R3.below hb5;replace R4:=R4.below hb5;refine m2s ?_;clear hB;intro hB;refine m2w ?_;intro cM)|((with_reducible refine gL 50 3 ?_);refine m89 ?_)|(go_at_call 178;go_fit (CW _ (hM.keep hB hlt));rintro e w6 ⟨v,rfl,hMv,hNv,hbv,hb6⟩;refine m2e ?_;clear cM hbv R2 R3 R4 hB;intro x4 hbv R2 R3 R4 hB;(obtain⟨av,cv,hv,-⟩:=id hMv);rw[←HL.out] at hv;subst hv;refine m2w ?_;intro cM)|(go_at_call 65;refine m6k ?_;clear cM R2 R3 R4 hMv hB;intro w7 hb7 R2 R3 R4 hMv hB)|((with_reducible refine gA 104 ?_);refine m3c ?_;clear R2 R3 R4 hMv hB;intro b8 w8 R8 hb8 n28 n38 n48 x8 l8 R2 R3 R4 hMv hB)|((with_reducible refine gS 104 8 29 ?_);refine m5c ?_;clear R2 R3 R4 hMv hB;intro w9 R8 t9 R2 R3 R4 hMv hB)|((with_reducible refine gA 39 ?_);refine m2p ?_;clear R2 R3 R4 R8 hMv hB;intro b10 w10 R10 hb10 n210 n310 n410 n810 x10 l10 R2 R3 R4 R8 hMv hB)|((with_reducible refine gS 39 10 31 ?_);refine m10 ?_;intro w11 R10 t11;refine m7g ?_;clear R2 R3 R4 R8 hMv hB;intro R2 R3 R4 R8 hMv hB)|((with_reducible refine gS 37 33 32 ?_);refine m2x ?_;clear R2 R3 R4 R8 hMv hB;intro w12 R10 t12 R2 R3 R4 R8 hMv hB)|((with_reducible refine gL 104 8 ?_);refine lx 104 (.tmp 8) (ic2 (plA m) (plB m)) R8 ?_)|(go_at_call 179;refine m6f ?_;clear R2 R3 R4 R8 R10 hMv;intro w13 hb13 R2 R3 R4 R8 R10 hMv;replace hB:=hB.trans (hb13.mono hB.size);have c31:=m1 R3;have c80:=p0B R8;have c81:=p1 R8;have hrp:=R2.pool)|((with_reducible refine gL 35 39 ?_);refine m82 ?_;refine m2h ?_)|(go_at_call 180;go_fit (CGi _);rintro e w15 ⟨rfl,hb15⟩;clear c31 c80 c81 hrp;replace R2:=R2.below hb15;replace R3:=R3.below hb15;replace R4:=R4.below hb15;replace R8:=R8.below hb15;replace R10:=R10.below hb15;replace hMv:=hMv.below hb15;replace hB:=hB.trans (hb15.mono hB.size))|((with_reducible refine gS 35 50 48 ?_);refine qkk rfl (.tmp 50) (.tmp 48) rfl b10 rfl (qdx f m) g rfl f g h (.slice av ln cv) R10 ?_;intro w16 R10 t16;replace R3:=t16.row R3 n310;replace R4:=t16.row R4 n410;replace hMv:=qcl hMv x10 t16;replace hB:=t16.below _ _ l10 hB;have c31:=m1 R3)|(go_at_call 104;go_fit (CB _ _);rintro e w17 ⟨vb,rfl,⟨ab,cb,rfl⟩,hpl,hb17⟩;clear hpl c31;replace R3:=R3.below hb17;replace R4:=R4.below hb17;replace R10:=R10.below hb17;replace hMv:=hMv.below hb17;replace hB:=hB.trans (hb17.mono hB.size);have c31:=m1 R3)|((with_reducible refine qaa (.store 3 (.tmp 60) (.const (I Z 0))) rfl ?_);refine qbb R10 rfl _ _ rfl (21+m.2.1.toNat) rfl _ rfl _ (qhc _ _ _ _ _ hs8n) (tc (qdx f m) g (upd h m.2.1.toNat 0) (.slice av ln cv)) (qsk _ _ _ _ _ _ hs8n) ?_;intro w18 R10 t18;clear c31;replace R4:=t18.row R4 n410;replace hMv:=qcl hMv x10 t18;replace hB:=t18.below _ _ l10 hB)|((with_reducible refine gL 39 10 ?_);first|refine lx 39 (.tmp 10) (tc (qdx f m) g (upd h m.2.1.toNat 0) (.slice av ln cv)) R10 ?_|refine lx 39 (.tmp 10) (tc (qdx f m) g h (.slice av ln cv)) R10 ?_)|((with_reducible refine gS 39 4 61 ?_);refine qab 39 rfl (.tmp 4) _ rfl b4 rfl (tc (qdx f m) g (upd h m.2.1.toNat 0) (.slice av ln cv)) rfl _ R4 (qen _ _ _ _ _ _ _ _) (qaq _ _ _ _) (qbm _ _ _ _ _ _) ?_;intro w19 R4 t19;replace hMv:=qcl hMv x4 t19;replace hB:=t19.below _ _ l4 hB))
 (refine m03 ?_;refine bodyPost_ret (qlv (p:=4) (u:=5) (v:=6) rfl _ _ _ _ rfl R4 _ underlying39 rfl (qaq _ _ _ _)) rfl ⟨_,rfl,hMv,hNv,hbv,hB⟩)
theorem qy2(f:Nat->Int)(g:Nat->Bool)(h:Nat->Int)(sl:Value)(ms:List Mp)(m:Mp)(hwH:wfH h)(w:World)(hM:qaz w sl ms)(G:qbq f h ms)(hm:m∈ms)(ha:(qa6 ms m).any (fun o=>qa7 o==qa7 m)=false)(hz:(qbk (qdx f m) m.2.1).length≠0):
  Calls prog 148 #[.agg (tc f g h sl),.agg (mc m)] w fun e w'=>∃v,e=.returned (.tuple #[.agg (tc (qdx f m) g h v),.bool true,I Z 0])/\qaz w' v (qa6 ms m)/\qcs v/\(0<(qa6 ms m).length->w.heap.size<=mb v)/\Below w.heap.size w w':=by
 refine m2a ?_;intro hB;have hM0:=hM
 obtain⟨a0,cap,hsl,-⟩:=hM0
 obtain⟨n,hn⟩:∃n,n=ms.length:=⟨_,rfl⟩
 rw[←hn] at hsl
 subst hsl
 refine m4n ?_;clear hn;intro HN hlt
 obtain⟨ln,hln⟩:∃ln,ln=(qa6 ms m).length:=⟨_,rfl⟩
 have HL:Hid (ln=(qa6 ms m).length):=hln;have HG:Hid (qbq f h ms):=G
 have hlne:((ln:Int)==(n:Int))=false:=by
  exact sZtd42
 refine m27 ?_;intro hst hin CG CW CPl
 simp only[hin] at CPl
 (have CA:=fun sl w hM=>qoa sl (qa6 ms m) (plA m) (plB m) w hM)
 rw[qml (fun o ho=>G.maps.1 o (qqd ho)) hst,ha] at CA
 (have CGi:=fun w=>quv f g m.2.1 (plA m) (plB m) w)
 rw[qqx G hst] at CGi
 (have CB:=fun av w=>qiq (qdx f m) g h av m.2.1 hst.2.1.1 hst.2.1.2 w);(have hs8n:m.2.1.toNat<8:=by have:=hst.2.1;omega);have hs0:0<=m.2.1:=hst.2.1.1;have hs8:m.2.1<8:=hst.2.1.2
 obtain⟨lb,hlb⟩:∃lb,lb=(qbk (qdx f m) m.2.1).length:=⟨_,rfl⟩
 rw[←hlb] at CB hz
 (have dz:((lb:Int)==0)=false:=by simpa using hz);clear hln G hm ha hst hin hz hlb
 go_enter func148,ntmps148
 go_wp2_with (first|((with_reducible refine gB 39 0 ?_);refine m9j ?_;intro b2 w1 l2 R2 hb1;refine m5a ?_;clear hB;intro hB)|((with_reducible refine gB 50 1 ?_);refine m7e ?_;intro b3 w1 l3 R3 hb1;replace R2:=R2.below hb1;refine m5a ?_;clear hB;intro hB)|((with_reducible refine gA 39 ?_);refine m5e ?_;clear R2 R3 hB;intro b4 w2 R4 hb2 n24 n34 l4 R2 R3 hB)|((with_reducible refine gL 39 2 ?_);refine m8y ?_)|(go_at_call 25;refine m7a ?_;rintro e w5 ⟨r,hr,rfl,hb5⟩;obtain rfl:r=true:=(hr.2 HG.out);clear hr;replace R2:=R2.below hb5;replace R3:=R3.below hb5;replace R4:=R4.below hb5;refine m2s ?_;clear hB;intro hB;refine m2w ?_;intro cM)|((with_reducible refine gL 50 3 ?_);refine m89 ?_)|(go_at_call 178;go_fit (CW _ (hM.keep hB hlt));rintro e w6 ⟨v,rfl,hMv,hNv,hbv,hb6⟩;refine m2e ?_;clear cM hbv R2 R3 R4 hB;intro x4 hbv R2 R3 R4 hB;(obtain⟨av,cv,hv,-⟩:=id hMv);rw[←HL.out] at hv;subst hv;refine m2w ?_;intro cM)|(go_at_call 65;refine m6k ?_;clear cM R2 R3 R4 hMv hB;intro w7 hb7 R2 R3 R4 hMv hB)|((with_reducible refine gA 104 ?_);refine m3c ?_;clear R2 R3 R4 hMv hB;intro b8 w8 R8 hb8 n28 n38 n48 x8 l8 R2 R3 R4 hMv hB)|((with_reducible refine gS 104 8 29 ?_);refine m5c ?_;clear R2 R3 R4 hMv hB;intro w9 R8 t9 R2 R3 R4 hMv hB)|((with_reducible refine gA 39 ?_);refine m2p ?_;clear R2 R3 R4 R8 hMv hB;intro b10 w10 R10 hb10 n210 n310 n410 n810 x10 l10 R2 R3 R4 R8 hMv hB)|((with_reducible refine gS 39 10 31 ?_);refine m10 ?_;intro w11 R10 t11;refine m7g ?_;clear R2 R3 R4 R8 hMv hB;intro R2 R3 R4 R8 hMv hB)|((with_reducible refine gS 37 33 32 ?_);refine m2x ?_;clear R2 R3 R4 R8 hMv hB;intro w12 R10 t12 R2 R3 R4 R8 hMv hB)|((with_reducible refine gL 104 8 ?_);refine lx 104 (.tmp 8) (ic2 (plA m) (plB m)) R8 ?_)|(go_at_call 179;refine m6f ?_;clear R2 R3 R4 R8 R10 hMv;intro w13 hb13 R2 R3 R4 R8 R10 hMv;replace hB:=hB.trans (hb13.mono hB.size);have c31:=m1 R3;have c80:=p0B R8;have c81:=p1 R8;have hrp:=R2.pool)|((with_reducible refine gL 35 39 ?_);refine m82 ?_;refine m2h ?_)|(go_at_call 180;go_fit (CGi _);rintro e w15 ⟨rfl,hb15⟩;clear c31 c80 c81 hrp;replace R2:=R2.below hb15;replace R3:=R3.below hb15;replace R4:=R4.below hb15;replace R8:=R8.below hb15;replace R10:=R10.below hb15;replace hMv:=hMv.below hb15;replace hB:=hB.trans (hb15.mono hB.size))|((with_reducible refine gS 35 50 48 ?_);refine qkk rfl (.tmp 50) (.tmp 48) rfl b10 rfl (qdx f m) g rfl f g h (.slice av ln cv) R10 ?_;intro w16 R10 t16;replace R3:=t16.row R3 n310;replace R4:=t16.row R4 n410;replace hMv:=qcl hMv x10 t16;replace hB:=t16.below _ _ l10 hB;have c31:=m1 R3)|(go_at_call 104;go_fit (CB _ _);rintro e w17 ⟨vb,rfl,⟨ab,cb,rfl⟩,hpl,hb17⟩;clear hpl c31;replace R3:=R3.below hb17;replace R4:=R4.below hb17;replace R10:=R10.below hb17;replace hMv:=hMv.below hb17;replace hB:=hB.trans (hb17.mono hB.size);have c31:=m1 R3)|((with_reducible refine gL 39 10 ?_);refine lx 39 (.tmp 10) (tc (qdx f m) g h (.slice av ln cv)) R10 ?_)|((with_reducible refine gS 39 4 61 ?_);refine qab 39 rfl (.tmp 4) _ rfl b4 rfl (tc (qdx f m) g h (.slice av ln cv)) rfl _ R4 (qen _ _ _ _ _ _ _ _) (qaq _ _ _ _) (qbm _ _ _ _ _ _) ?_;intro w19 R4 t19;replace hMv:=qcl hMv x4 t19;replace hB:=t19.below _ _ l4 hB))
 (refine m03 ?_;refine bodyPost_ret (qlv (p:=4) (u:=5) (v:=6) rfl _ _ _ _ rfl R4 _ underlying39 rfl (qaq _ _ _ _)) rfl ⟨_,rfl,hMv,hNv,hbv,hB⟩)
theorem qbrb(k n:Int)(hn:0<n):-n<k.tmod n/\k.tmod n<n/\(k.tmod n<0->k.tmod n+n=k%n)/\(0<=k.tmod n->k.tmod n=k%n):=by
 have h1:=Int.tmod_eq_emod (a:=k) (b:=n);have h2:=Int.emod_nonneg k (show n≠0 by omega);have h3:=Int.emod_lt_of_pos k hn;(have h4:(n.natAbs:Int)=n:=by omega)
 split at h1
 ·simp at h1;omega
 ·rename_i hd
  (have h5:k%n≠0:=fun e=>hd (.inr (Int.dvd_of_emod_eq_zero e)))
  omega
structure Bd(w W:World)(L:List (Nat×TypeId×Array Value))(Ms:List (Value×List Mp)):Prop where
 nodup:(L.map (·.1)).Nodup
 rows:∀y∈L,Row y.2.1 W y.1 y.2.2/\w.heap.size<=y.1
 maps:∀q∈Ms,qaz W q.1 q.2/\∀b∈L.map (·.1),0<q.2.length->mb q.1≠b
 base:Below w.heap.size w W
section
variable {w W W':World} {L:List (Nat×TypeId×Array Value)} {Ms:List (Value×List Mp)}
theorem Bd.start(w:World):Bd w w [] []:=⟨by simp,by simp,by simp,Below.refl _ _⟩
theorem Bd.row(h:Bd w W L Ms)(i:Nat)(hi:L[i]?=some (b,t,cs)):Row t W b cs:=(h.rows _ (List.mem_of_getElem? hi)).1
theorem Bd.map(h:Bd w W L Ms)(k:Nat)(hk:Ms[k]?=some (v,ms)):qaz W v ms:=(h.maps _ (List.mem_of_getElem? hk)).1
theorem Bd.below(h:Bd w W L Ms)(hb:Below W.heap.size W W'):Bd w W' L Ms:=
 ⟨h.nodup,fun y hy=>⟨(h.rows y hy).1.below hb,(h.rows y hy).2⟩,fun q hq=>⟨(h.maps q hq).1.below hb,(h.maps q hq).2⟩,h.base.trans (hb.mono h.base.size)⟩
theorem Bd.drew(h:Bd w W L Ms):Bd w W.drew L Ms:=h.below (Below.refl _ _).drew
theorem Bd.drewN(h:Bd w W L Ms)(n:Nat):Bd w (W.drewN n) L Ms:=h.below ⟨rfl,rfl,rfl,Nat.le_refl _,fun _ _=>rfl⟩
theorem Bd.lt(h:Bd w W L Ms)(hb:b∈L.map (·.1)):b<W.heap.size:=by
 obtain⟨y,hy,rfl⟩:=List.mem_map.1 hb
 exact(h.rows y hy).1.lt
theorem Bd.alloc(h:Bd w W L Ms)(hl:W.heap.size<=b)(R:Row t W' b cs)(hb:Below W.heap.size W W'):Bd w W' ((b,t,cs)::L) Ms:=by
 have h':=h.below hb
 refine⟨?_,fun y hy=>?_,fun q hq=>⟨(h'.maps q hq).1,fun c hc hl0=>?_⟩,h'.base⟩
 ·rw[List.map_cons,List.nodup_cons]
  exact⟨fun hm=>by have:=h.lt hm;simp only at *;omega,h.nodup⟩
 ·rcases List.mem_cons.1 hy with rfl|hy
  ·exact⟨R,Nat.le_trans h.base.size hl⟩
  ·exact h'.rows y hy
 ·rw[List.map_cons] at hc
  rcases List.mem_cons.1 hc with rfl|hc
  ·have:=(h.maps q hq).1.lt hl0;omega
  ·exact(h.maps q hq).2 c hc hl0
theorem Bd.turn(h:Bd w W L Ms)(i:Nat){cs':Array Value}(hi:L[i]?=some (b,t,cs))(R:Row t W' b cs')(T:qbl b W W'):Bd w W' (L.set i (b,t,cs')) Ms:=by
 have hlt:i<L.length:=(List.getElem?_eq_some_iff.1 hi).1;have hLi:L[i]=(b,t,cs):=(List.getElem?_eq_some_iff.1 hi).2
 have hm:(L.set i (b,t,cs')).map (·.1)=L.map (·.1):=by
  apply List.ext_getElem?
  intro j;refine m4t ?_
  by_cases hj:i=j
  ·subst hj;simp[hlt,hLi]
  ·simp[hj]
 have hbm:b∈L.map (·.1):=List.mem_map.2 ⟨_,List.mem_of_getElem? hi,rfl⟩
 refine⟨by rw[hm];exact h.nodup,fun y hy=>?_,fun q hq=>⟨qcl (h.maps q hq).1 (fun h0=>(h.maps q hq).2 b hbm h0) T,by rw[hm];exact(h.maps q hq).2⟩,T.below _ _ (h.rows _ (List.mem_of_getElem? hi)).2 h.base⟩
 obtain⟨j,hj⟩:=List.mem_iff_getElem?.1 hy
 rw[List.getElem?_set] at hj
 by_cases hij:i=j
 ·subst hij
  rw[if_pos rfl,if_pos hlt] at hj
  obtain rfl:=Option.some.inj hj
  exact⟨R,(h.rows _ (List.mem_of_getElem? hi)).2⟩
 ·rw[if_neg hij] at hj
  have hy':=List.mem_of_getElem? hj
  refine⟨T.row (h.rows y hy').1 (fun e=>hij ?_),(h.rows y hy').2⟩
  (have e1:(L.map (·.1))[i]?=some b:=by rw[List.getElem?_map,hi];rfl);(have e2:(L.map (·.1))[j]?=some b:=by rw[List.getElem?_map,hj];simp[e])
  exact(List.getElem?_inj (by simpa using hlt) h.nodup).1 (by rw[e1,e2])
theorem Bd.addNew(h:Bd w W L Ms)(hb:Below W.heap.size W W')(hM:qaz W' v ms)(hl:0<ms.length->W.heap.size<=mb v):Bd w W' L ((v,ms)::Ms):=by
 have h':=h.below hb
 refine⟨h'.nodup,h'.rows,fun q hq=>?_,h'.base⟩
 rcases List.mem_cons.1 hq with rfl|hq
 ·exact⟨hM,fun b hbm h0=>by have:=h.lt hbm;have:=hl h0;simp only at *;omega⟩
 ·exact h'.maps q hq
theorem Bd.two(h:Bd w W L Ms)(i j:Nat)(hij:i≠j){y1 y2:Nat×TypeId×Array Value}(hi:L[i]?=some y1)(hj:L[j]?=some y2)(k:Nat){q:Value×List Mp}(hk:Ms[k]?=some q):Bd w W [y1,y2] [q]:=by
 have m1:=List.mem_of_getElem? hi;have m2:=List.mem_of_getElem? hj;have b1:y1.1∈L.map (·.1):=List.mem_map.2 ⟨_,m1,rfl⟩;have b2:y2.1∈L.map (·.1):=List.mem_map.2 ⟨_,m2,rfl⟩
 have hne:y1.1≠y2.1:=fun e=>hij (by
  (have e1:(L.map (·.1))[i]?=some y1.1:=by rw[List.getElem?_map,hi];rfl);(have e2:(L.map (·.1))[j]?=some y1.1:=by rw[List.getElem?_map,hj];simp[e])
  exact(List.getElem?_inj (by simpa using(List.getElem?_eq_some_iff.1 hi).1) h.nodup).1 (by rw[e1,e2]))
 refine⟨by simp[hne],fun y hy=>?_,fun p hp=>?_,h.base⟩
 ·rcases List.mem_cons.1 hy with rfl|hy
  ·exact h.rows _ m1
  ·obtain rfl:=List.mem_singleton.1 hy
   exact h.rows _ m2
 ·obtain rfl:=List.mem_singleton.1 hp
  have hm:=h.maps _ (List.mem_of_getElem? hk)
  refine⟨hm.1,fun b hb=>?_⟩
  simp only[List.map_cons,List.map_nil,List.mem_cons,List.not_mem_nil,or_false] at hb
  rcases hb with rfl|rfl
  ·exact hm.2 _ b1
  ·exact hm.2 _ b2
end
end Go.Proofs.YtonnjgmognbnbaaGreatDoor
