/-
  Of what a law stands on.
-/
import Derived.Test.YtbboabfmoahipaaZbd13
set_option linter.unusedSimpArgs false
set_option linter.unusedVariables false
namespace Go.Proofs.Ytbboabfmoahipaa
open Go.Value renaming int → I,pointer → V
open Go.IntKind renaming i64 → Z
open _root_.Go.Proofs.Try Go.ChangeShapes Go.WideShapes Go.ChangeAt Go.RowKit
set_option maxHeartbeats 16000000
set_option maxRecDepth 100000
variable {p:Prop}{w:World}{b:Nat}{v:Value}{ms:List Mp}
theorem sZbd141(h:p:=by
 go_enter func6,ntmps6
 go_wp2_with (first|((with_reducible refine gB 30 0 ?_);refine m0v ?_;intro b5 w1 l5 R5 hb1;replace hB:=hB.trans (hb1.mono hB.size))|((with_reducible refine gL 30 5 ?_);refine qac 30 (.tmp 5) rfl ?_ b5 rfl (tc f g h (.slice a0 n cap)) R5 _ underlying30 rfl (qaq _ _ _ _) ?_;· kernel_rfl)|(go_at_call 9;go_fit (CF _ (hM.keep hB hlt));rintro e w2 ⟨rfl,hb2⟩;replace R5:=R5.below hb2;replace hB:=hB.trans (hb2.mono hB.size))|((with_reducible refine gA 32 ?_);refine ax 11 32 qa4 ?_;intro b11 w3 l11 R11 hb3;have n511:=R5.ne l11;(try have n1311:=R13.ne l11);replace l11:=Nat.le_trans hB.size l11;replace R5:=R5.below hb3;(try replace R13:=R13.below hb3);replace hB:=hB.trans (hb3.mono hB.size))|((with_reducible refine gS 32 11 26 ?_);refine sx 32 (.tmp 11) _ (mc mf) R11 ?_;intro w4 R11 t4;replace R5:=t4.row R5 n511;replace hB:=t4.below _ _ l11 hB;clear R11)|(go_at_call 19;go_fit (CO _ (hM.keep hB hlt));rintro e w5 ⟨rfl,hb5⟩;replace R5:=R5.below hb5;refine m40 ?_;clear hB;intro hB)|((with_reducible refine gA 30 ?_);refine ax 13 30 qb8 ?_;intro b13 w3 l13 R13 hb3;have n513:=R5.ne l13;(try have n1313:=R13.ne l13);(try have n1413:=R14.ne l13);replace l13:=Nat.le_trans hB.size l13;replace R5:=R5.below hb3;(try replace R13:=R13.below hb3);(try replace R14:=R14.below hb3);replace hB:=hB.trans (hb3.mono hB.size))|((with_reducible refine gA 32 ?_);refine ax 14 32 qa4 ?_;intro b14 w3 l14 R14 hb3;have n514:=R5.ne l14;(try have n1314:=R13.ne l14);replace l14:=Nat.le_trans hB.size l14;replace R5:=R5.below hb3;(try replace R13:=R13.below hb3);replace hB:=hB.trans (hb3.mono hB.size))|((with_reducible refine gS 30 13 35 ?_);refine qab 30 rfl (.tmp 13) _ rfl b13 rfl (tc f g h (.slice a0 n cap)) rfl _ R13 (qen _ _ _ _ _ _ _ _) (qaq _ _ _ _) (qbm _ _ _ _ _ _) ?_;intro w6 R13 t6;replace R5:=t6.row R5 n513;(try replace R14:=t6.row R14 n1314.symm);replace hB:=t6.below _ _ l13 hB)|((with_reducible refine gS 32 14 36 ?_);refine sx 32 (.tmp 14) _ (mc mo') R14 ?_;intro w7 R14 t7;replace R5:=t7.row R5 n514;replace hB:=t7.below _ _ l14 hB)|(go_at_call 24;go_fit (CB _);rintro e w8 ⟨rfl,hb8⟩;replace R5:=R5.below hb8;replace hB:=hB.trans (hb8.mono hB.size)))
 go_ret
 exact⟨rfl,hB⟩):p:=h
theorem qzfb(f:Nat->Int)(g:Nat->Bool)(h:Nat->Int)(sl:Value)(ms:List Mp)(p s i d:Int)(hwF:wfF f)(hwH:wfH h)(hno:qcs sl)(hd:(Lit.int .i64 d).wf=true)(w:World)(hM:qaz w sl ms):
  Calls prog 6 #[.agg (tc f g h sl),.int .i64 p,.int .i64 s,.int .i64 i,.int .i64 d] w fun e w'=>e=.returned (.bool true)/\Below w.heap.size w w':=by
 refine m1t ?_;intro hB hM0
 obtain⟨a0,cap,hsl,-⟩:=hM0
 obtain⟨n,hn⟩:∃n,n=ms.length:=⟨_,rfl⟩
 rw[←hn] at hsl
 subst hsl
 refine m2d ?_;clear hn;intro HN hlt;(have CB:=fun w=>qyib w);(have CF:=fun w hM=>qlo f g h (.slice a0 n cap) ms p s i w hM)
 obtain⟨mf,fb,hfs,hfb⟩:∃mf fb,qhw (ms.find? (inS p s i))=.tuple #[.agg (mc mf),.bool fb]/\(fb=true↔(ms.find? (inS p s i)).isSome=true):=by
  cases ms.find? (inS p s i) with
  | none=>exact⟨noM,false,rfl,by simp⟩
  | some m=>exact⟨m,true,rfl,by simp⟩
 rw[hfs] at CF
 have err:∀E:Int,(E != 0||fb)=true->∀mo':Mp,(∀w:World,qaz w (.slice a0 n cap) ms->Calls prog 19 #[.agg (tc f g h (.slice a0 n cap)),.int .i64 p,.int .i64 s,.int .i64 i,.int .i64 d] w fun e w'=>e=.returned (qpm f g h (.slice a0 n cap) mo' false E)/\Below w.heap.size w w')->
   Calls prog 6 #[.agg (tc f g h (.slice a0 n cap)),.int .i64 p,.int .i64 s,.int .i64 i,.int .i64 d] w fun e w'=>e=.returned (.bool true)/\Below w.heap.size w w':=by
  intro E hE mo' CO
  unfold qpm at CO
  clear hfb hfs
  cases hE0:(E != 0) with
  | true=>
   clear hE
   exact sZbd141
  | false=>
   rw[hE0,Bool.false_or] at hE
   subst hE
   exact sZbd141
 by_cases hP:qjy f h ms p s i
 rotate_left
 ·exact err 2 rfl noM (fun w hM=>q6m f g h _ ms p s i d w hM hwH hP)
 cases hf:ms.find? (inS p s i) with
 | some m=>
  have:fb=true:=hfb.2 (by rw[hf];rfl)
  exact err 0 (by rw[this];rfl) m (fun w hM=>q0s f g h _ ms p s i d w hM hwH hP m hf)
 | none=>
  by_cases hc:cntM ms s=12
  ·exact err 6 rfl noM (fun w hM=>q2q f g h _ ms p s i d w hM hwH hP hf hc)
  ·by_cases he:(qbe f g h ms p s d).e=0
   rotate_left
   ·exact err _ (by simp[he]) noM (fun w hM=>q4y f g h _ ms p s i d w hM hwH hd hP hf hc he)
   ·refine m42 ?_;intro hany;have hG:qbq (qbe f g h ms p s d).f (qbe f g h ms p s d).h (ms++[(p,s,i,(qbe f g h ms p s d).h s.toNat-1,(qbe f g h ms p s d).q)]):=(qya (g:=g) (d:=d) hP.1 hP.2.1 hP.2.2.1 ⟨hP.2.2.2.1,hP.2.2.2.2⟩ hany hc he).1
    have fb0:fb=false:=by
     cases fb with
     | false=>rfl
     | true=>rw[hf] at hfb;simp at hfb
    subst fb0
    (have CO:=fun w hM=>q6u f g h (.slice a0 n cap) ms p s i d w hM hwH hno hd hP hf hc he);(have CC:=fun v w hM=>qzab f g h ms p s i d hP hf hc he v w hM);(have CS:=fun sl w h1 h2=>qyvb f g h sl (.slice a0 n cap) ms hwF hwH w h1 h2);(have CG:=fun sl w hM=>qf8 (qbe f g h ms p s d).f g (qbe f g h ms p s d).h sl (ms++[(p,s,i,(qbe f g h ms p s d).h s.toNat-1,(qbe f g h ms p s d).q)]) hG.wf w hM);have HG:Hid (qbq (qbe f g h ms p s d).f (qbe f g h ms p s d).h (ms++[(p,s,i,(qbe f g h ms p s d).h s.toNat-1,(qbe f g h ms p s d).q)])):=hG;clear hG err hfb hfs hP hf hc he hany
    obtain⟨m,hm⟩:∃m:Mp,(p,s,i,(qbe f g h ms p s d).h s.toNat-1,(qbe f g h ms p s d).q)=m:=⟨_,rfl⟩
    rw[hm] at CO CC CG HG
    clear hm
    obtain⟨rf,hrf⟩:∃rf,(qbe f g h ms p s d).f=rf:=⟨_,rfl⟩
    obtain⟨rh,hrh⟩:∃rh,(qbe f g h ms p s d).h=rh:=⟨_,rfl⟩
    obtain⟨rt,hrt⟩:∃rt,(qbe f g h ms p s d).took=rt:=⟨_,rfl⟩
    rw[hrf,hrh] at CO CC CG HG
    rw[hrt] at CO CC
    clear hrf hrh hrt
    unfold qpm at CO
    obtain⟨ms',hms⟩:∃ms',ms++[m]=ms':=⟨_,rfl⟩
    rw[hms] at CO CC CG HG
    clear hms
    obtain⟨lv,hlv⟩:∃lv,lv=ms'.length:=⟨_,rfl⟩
    have HV:Hid (lv=ms'.length):=hlv;clear hlv;(have drt:(rt==rt)=true:=by simp)
    go_enter func6,ntmps6
    go_wp2_with (first|((with_reducible refine gB 30 0 ?_);refine m0v ?_;intro b5 w1 l5 R5 hb1;replace hB:=hB.trans (hb1.mono hB.size))|((with_reducible refine gL 30 5 ?_);refine qac 30 (.tmp 5) rfl ?_ b5 rfl (tc f g h (.slice a0 n cap)) R5 _ underlying30 rfl (qaq _ _ _ _) ?_;· kernel_rfl)|(go_at_call 9;go_fit (CF _ (hM.keep hB hlt));rintro e w2 ⟨rfl,hb2⟩;replace R5:=R5.below hb2;replace hB:=hB.trans (hb2.mono hB.size))|((with_reducible refine gA 32 ?_);refine ax 11 32 qa4 ?_;intro b11 w3 l11 R11 hb3;have n511:=R5.ne l11;(try have n1311:=R13.ne l11);(try have x11:=hMv.away3 l11);replace l11:=Nat.le_trans hB.size l11;replace R5:=R5.below hb3;(try replace R13:=R13.below hb3);(try replace hMv:=hMv.below hb3);replace hB:=hB.trans (hb3.mono hB.size))|((with_reducible refine gS 32 11 26 ?_);refine sx 32 (.tmp 11) _ (mc mf) R11 ?_;intro w4 R11 t4;replace R5:=t4.row R5 n511;replace hB:=t4.below _ _ l11 hB;clear R11)|(go_at_call 19;go_fit (CO _ (hM.keep hB hlt));rintro e w5 ⟨v,rfl,hMv,hNv,hbv,hb5⟩;clear hNv hbv;replace R5:=R5.below hb5;refine m40 ?_;clear hB;intro hB;(obtain⟨av,cv,hv,-⟩:=id hMv);rw[←HV.out] at hv;subst hv)|((with_reducible refine gA 30 ?_);refine ax 13 30 qb8 ?_;intro b13 w3 l13 R13 hb3;have n513:=R5.ne l13;(try have n1313:=R13.ne l13);(try have n1413:=R14.ne l13);(try have x13:=hMv.away3 l13);(try have y13:=hMc.away3 l13);replace l13:=Nat.le_trans hB.size l13;replace R5:=R5.below hb3;(try replace R13:=R13.below hb3);(try replace R14:=R14.below hb3);(try replace hMv:=hMv.below hb3);(try replace hMc:=hMc.below hb3);replace hB:=hB.trans (hb3.mono hB.size))|((with_reducible refine gA 32 ?_);refine ax 14 32 qa4 ?_;intro b14 w3 l14 R14 hb3;have n514:=R5.ne l14;(try have n1314:=R13.ne l14);(try have x14:=hMv.away3 l14);replace l14:=Nat.le_trans hB.size l14;replace R5:=R5.below hb3;(try replace R13:=R13.below hb3);(try replace hMv:=hMv.below hb3);replace hB:=hB.trans (hb3.mono hB.size))|((with_reducible refine gS 30 13 35 ?_);refine qab 30 rfl (.tmp 13) _ rfl b13 rfl (tc rf g rh (.slice av lv cv)) rfl _ R13 (qen _ _ _ _ _ _ _ _) (qaq _ _ _ _) (qbm _ _ _ _ _ _) ?_;intro w6 R13 t6;replace R5:=t6.row R5 n513;replace R14:=t6.row R14 n1314.symm;replace hMv:=qcl hMv x13 t6;replace hB:=t6.below _ _ l13 hB)|((with_reducible refine gS 32 14 36 ?_);refine sx 32 (.tmp 14) _ (mc m) R14 ?_;intro w7 R14 t7;replace R5:=t7.row R5 n514;replace R13:=t7.row R13 n1314;replace hMv:=qcl hMv x14 t7;replace hB:=t7.below _ _ l14 hB)|(go_at_call 24;go_fit (CB _);rintro e w8 ⟨rfl,hb8⟩;replace R13:=R13.below hb8;replace R14:=R14.below hb8;replace hMv:=hMv.below hb8;replace R5:=R5.below hb8;replace hB:=hB.trans (hb8.mono hB.size))|((with_reducible refine gL 30 13 ?_);refine qac 30 (.tmp 13) rfl ?_ b13 rfl (tc rf g rh (.slice av lv cv)) R13 _ underlying30 rfl (qaq _ _ _ _) ?_;· kernel_rfl)|((with_reducible refine gL 32 14 ?_);refine lx 32 (.tmp 14) (mc m) R14 ?_)|(go_at_call 22;go_fit (CC _ _ hMv);rintro e w9 ⟨v2,rfl,hMc,hN2,hl2,hb9⟩;clear hN2 hl2 R14;replace R5:=R5.below hb9;replace R13:=R13.below hb9;replace hMv:=hMv.below hb9;replace hB:=hB.trans (hb9.mono hB.size);(obtain⟨a2,c2,hv2,-⟩:=id hMc);rw[←HN.out] at hv2;subst hv2)|((with_reducible refine gA 30 ?_);refine ax 17 30 qb8 ?_;intro b17 w3 l17 R17 hb3;have n517:=R5.ne l17;(try have n1317:=R13.ne l17);(try have n1417:=R14.ne l17);(try have x17:=hMv.away3 l17);(try have y17:=hMc.away3 l17);replace l17:=Nat.le_trans hB.size l17;replace R5:=R5.below hb3;(try replace R13:=R13.below hb3);(try replace R14:=R14.below hb3);(try replace hMv:=hMv.below hb3);(try replace hMc:=hMc.below hb3);replace hB:=hB.trans (hb3.mono hB.size))|((with_reducible refine gS 30 17 53 ?_);refine qab 30 rfl (.tmp 17) _ rfl b17 rfl (tc f g h (.slice a2 n c2)) rfl _ R17 (qen _ _ _ _ _ _ _ _) (qaq _ _ _ _) (qbm _ _ _ _ _ _) ?_;intro w10 R17 t10;replace R5:=t10.row R5 n517;replace R13:=t10.row R13 n1317;replace hMv:=qcl hMv x17 t10;replace hMc:=qcl hMc y17 t10;replace hB:=t10.below _ _ l17 hB)|((with_reducible refine gL 30 17 ?_);refine qac 30 (.tmp 17) rfl ?_ b17 rfl (tc f g h (.slice a2 n c2)) R17 _ underlying30 rfl (qaq _ _ _ _) ?_;· kernel_rfl)|(go_at_call 25;go_fit (CS _ _ hMc (hM.keep hB hlt));rintro e w11 ⟨rfl,hb11⟩;replace R13:=R13.below hb11;replace hMv:=hMv.below hb11;replace hB:=hB.trans (hb11.mono hB.size))|(go_at_call 16;go_fit (CG _ _ hMv);rintro e w12 ⟨r',hr',rfl,hb12⟩;obtain rfl:r'=true:=(hr'.2 HG.out);clear hr';replace hB:=hB.trans (hb12.mono hB.size)))
    go_ret
    exact⟨rfl,hB⟩
theorem qygb{w':World}(h:qaz w v ms)(hne:0<ms.length->mb v≠b)(t:qbl b w w'):qaz w' v ms:=by
 obtain⟨a,cap,e,h1,h2,h3⟩:=h
 refine⟨a,cap,e,h1,fun j hj i u hu=>?_,h3⟩
 have:=h2 j hj i u hu
 unfold World.cell? at *
 rw[t.other _ (hne om)]
 exact this
theorem qaz.away2(h:qaz w v ms)(hb:w.heap.size<=b):0<ms.length->mb v≠b:=fun hl=>Nat.ne_of_lt (Nat.lt_of_lt_of_le (h.lt hl) hb)
theorem qzmb(h:Nat->Int)(u:Nat)(hu:u<8)(w:World):(Instr.index 27 (.agg (hc8 h)) (I Z (u:Int))).run prog w=.ok (I Z (h u)) w:=by
 rcases(show u=0\/u=1\/u=2\/u=3\/u=4\/u=5\/u=6\/u=7 by omega) with rfl|rfl|rfl|rfl|rfl|rfl|rfl|rfl<;>kernel_rfl
theorem sZbd142(h:p:=by
 go_wp2
 go_roundw
 case rel=>exact⟨u+1,by omega,by go_num,hB,R5,R11⟩
 case measure=>simp[intOf];omega):p:=h
theorem qy7b(f:Nat->Int)(g:Nat->Bool)(h:Nat->Int)(sl:Value)(ms:List Mp)(p s i d:Int)(hwH:wfH h)(hno:qcs sl)(hd:(Lit.int .i64 d).wf=true)(w:World)(hM:qaz w sl ms):
  Calls prog 7 #[.agg (tc f g h sl),.int .i64 p,.int .i64 s,.int .i64 i,.int .i64 d] w fun e w'=>e=.returned (.bool true)/\Below w.heap.size w w':=by
 refine m1t ?_;intro hB hM0
 obtain⟨a0,cap,hsl,-⟩:=hM0
 obtain⟨n,hn⟩:∃n,n=ms.length:=⟨_,rfl⟩
 rw[←hn] at hsl
 subst hsl
 refine m2d ?_;clear hn;intro HN hlt;(have CB:=fun w=>qyib w)
 rcases qy9b f g h (.slice a0 n cap) ms p s i d hwH hno hd with⟨E,hE,CO⟩|⟨hs,f',h',ms',m',took,hO,CO⟩
 ·(have dE:(E != 0)=true:=by simp[hE])
  unfold qpm at CO
  clear hE
  go_enter func7,ntmps7
  go_wp2_with (first|(refine m1c ?_;clear hB;intro b5 w1 R5 hb1 l5 hB)|(refine lx 30 (.tmp 5) (tc f g h (.slice a0 n cap)) R5 ?_)|(go_at_call 19;go_fit (CO _ (hM.keep hB hlt));rintro e w5 ⟨rfl,hb5⟩;refine m40 ?_;clear hB;intro hB)|(refine ax 11 30 qb8 ?_;intro b11 w2 l11 R11 hb2;replace l11:=Nat.le_trans hB.size l11;replace hB:=hB.trans (hb2.mono hB.size))|(refine ax 12 32 qa4 ?_;intro b12 w3 l12 R12 hb3;have n12:=R11.ne l12;replace l12:=Nat.le_trans hB.size l12;replace R11:=R11.below hb3;replace hB:=hB.trans (hb3.mono hB.size))|(refine qab 30 rfl (.tmp 11) _ rfl b11 rfl (tc f g h (.slice a0 n cap)) rfl _ R11 (qen _ _ _ _ _ _ _ _) (qaq _ _ _ _) (qbm _ _ _ _ _ _) ?_;intro w6 R11 t6;replace R12:=t6.row R12 n12.symm;replace hB:=t6.below _ _ l11 hB)|(refine sx 32 (.tmp 12) _ (mc noM) R12 ?_;intro w7 R12 t7;replace hB:=t7.below _ _ l12 hB)|(go_at_call 24;go_fit (CB _);rintro e w8 ⟨rfl,hb8⟩;replace hB:=hB.trans (hb8.mono hB.size)))
  go_ret
  exact⟨rfl,hB⟩
 ·have hs0:0<=s:=hs.1;have hs8:s<8:=hs.2;obtain⟨hGd,hWf,hHere,hHome,hLen⟩:=hO
  unfold qpm at CO
  clear hGd hs
  go_enter func7,ntmps7
  go_wp2_with (first|(refine m1c ?_;clear hB;intro b5 w1 R5 hb1 l5 hB)|(refine lx 30 (.tmp 5) (tc f g h (.slice a0 n cap)) R5 ?_)|(go_at_call 19;go_fit (CO _ (hM.keep hB hlt));rintro e w5 ⟨v,rfl,hMv,hNv,hb5⟩;clear hNv;replace R5:=R5.below hb5;refine m40 ?_;clear hB;intro hB;(obtain⟨av,cv,hv,-⟩:=id hMv);(obtain⟨ln,hln⟩:∃ln,Hid (ln=ms'.length):=⟨_,rfl⟩);rw[←hln.out] at hv;subst hv)|(refine ax 11 30 qb8 ?_;intro b11 w2 l11 R11 hb2;have n5:=R5.ne l11;have x11:=hMv.away2 l11;replace hMv:=hMv.below hb2;replace R5:=R5.below hb2;replace l11:=Nat.le_trans hB.size l11;replace hB:=hB.trans (hb2.mono hB.size))|(refine ax 12 32 qa4 ?_;intro b12 w3 l12 R12 hb3;have n12:=R11.ne l12;have n52:=R5.ne l12;have x12:=hMv.away2 l12;replace hMv:=hMv.below hb3;replace l12:=Nat.le_trans hB.size l12;replace R11:=R11.below hb3;replace R5:=R5.below hb3;replace hB:=hB.trans (hb3.mono hB.size))|(refine qab 30 rfl (.tmp 11) _ rfl b11 rfl (tc f' g h' (.slice av ln cv)) rfl _ R11 (qen _ _ _ _ _ _ _ _) (qaq _ _ _ _) (qbm _ _ _ _ _ _) ?_;intro w6 R11 t6;replace R12:=t6.row R12 n12.symm;replace R5:=t6.row R5 n5;replace hMv:=qygb hMv x11 t6;replace hB:=t6.below _ _ l11 hB)|(refine sx 32 (.tmp 12) _ (mc m') R12 ?_;intro w7 R12 t7;replace R11:=t7.row R11 n12;replace R5:=t7.row R5 n52;replace hMv:=qygb hMv x12 t7;replace hB:=t7.below _ _ l12 hB;clear R12)|(go_at_call 24;go_fit (CB _);rintro e w8 ⟨rfl,hb8⟩;replace hMv:=hMv.below hb8;replace R11:=R11.below hb8;replace R5:=R5.below hb8;replace hB:=hB.trans (hb8.mono hB.size);have cM:World.cell? _ ⟨b5,29,none⟩=some (.slice a0 n cap):=(R5.cell 29).trans (qdw _ _ _ _)))
  go_loopw [42] (fun i W=>∃j:Nat,j<=ms.length/\i=.int .i64 j/\Below w.heap.size w W/\Row 30 W b5 (tc f g h (.slice a0 n cap))/\Row 30 W b11 (tc f' g h' (.slice av ln cv))/\qaz W (.slice av ln cv) ms') (fun i _=>n-(intOf i).toNat)
  case atStart=>exact⟨0,by omega,rfl,hB,R5,R11,hMv⟩
  case round=>
   clear hB R5 R11 hMv cM
   obtain⟨j,hj,rfl,hB,R5,R11,hMv⟩:=hrel
   by_cases hlj:j<ms.length
   ·refine m0h ?_;intro hjn hjw
    obtain⟨m,hm⟩:∃m,ms[j]=m:=⟨_,rfl⟩
    refine m59 ?_;intro hMW hrg;have hfd:=hHere m (hm▸List.getElem_mem hlj);(have CF:=fun w hM=>qlo f' g h' (.slice av ln cv) ms' m.1 m.2.1 m.2.2.1 w hM)
    rw[hfd] at CF
    unfold qhw at CF
    clear hfd hm
    go_wp2_with (first|(refine qb5 rfl (.tmp 40) (.tmp 42) rfl (.slice a0 n cap) ms hMW rfl j rfl hlj ?_)|(refine wpList_load_mid rfl 32 (.tmp 44) rfl _ _ rfl (mcl m) _ hrg underlying32 rfl (qby m) ?_;rw[qc2])|(refine ax 16 32 qa4 ?_;intro b16 w3 l16 R16 hb3;have y5:=R5.ne l16;have y11:=R11.ne l16;have yv:=hMv.away2 l16;replace l16:=Nat.le_trans hB.size l16;replace hMv:=hMv.below hb3;replace R5:=R5.below hb3;replace R11:=R11.below hb3;replace hB:=hB.trans (hb3.mono hB.size))|(refine sx 32 (.tmp 16) _ (mc m) R16 ?_;intro w4 R16 t4;replace R5:=t4.row R5 y5;replace R11:=t4.row R11 y11;replace hMv:=qygb hMv yv t4;replace hB:=t4.below _ _ l16 hB;have c0:=m0 R16;have c1:=m1 R16;have c2:=m2 R16)|(refine lx 30 (.tmp 11) (tc f' g h' (.slice av ln cv)) R11 ?_)|(go_at_call 9;go_fit (CF _ hMv);rintro e w5 ⟨rfl,hb5⟩;clear c0 c1 c2;replace hMv:=hMv.below hb5;replace R5:=R5.below hb5;replace R11:=R11.below hb5;replace R16:=R16.below hb5;refine m40 ?_;clear hB;intro hB)|(refine ax 17 32 qa4 ?_;intro b17 w6 l17 R17 hb6;have z5:=R5.ne l17;have z11:=R11.ne l17;have z16:=R16.ne l17;have zv:=hMv.away2 l17;replace l17:=Nat.le_trans hB.size l17;replace hMv:=hMv.below hb6;replace R5:=R5.below hb6;replace R11:=R11.below hb6;replace R16:=R16.below hb6;replace hB:=hB.trans (hb6.mono hB.size))|(refine sx 32 (.tmp 17) _ (mc m) R17 ?_;intro w7 R17 t7;replace R5:=t7.row R5 z5;replace R11:=t7.row R11 z11;replace R16:=t7.row R16 z16;replace hMv:=qygb hMv zv t7;replace hB:=t7.below _ _ l17 hB)|(refine qac 32 (.tmp 17) rfl ?_ b17 rfl (mc m) R17 _ underlying32 rfl (qak _) ?_;· rfl)|(refine qac 32 (.tmp 16) rfl ?_ b16 rfl (mc m) R16 _ underlying32 rfl (qak _) ?_;· rfl)|(refine qk0 32 (.tmp 60) (.tmp 61) rfl ?_ (mc m) (mc m) rfl rfl eqGuardType32 _ false (qkb m m _) zm ?_;· rfl))
    go_roundw
    case rel=>exact⟨j+1,by omega,by go_num,hB,R5,R11,hMv⟩
    case measure=>(first|rw[hjw]|skip);exact qek (HN.out.symm▸hlj)
   ·refine m3r ?_;intro hjn;clear hj hlj
    go_wp2_with (first|(refine wpList_load_mid rfl 27 (.tmp 65) rfl b5 21 rfl (hcl h) _ R5.homes underlying27 rfl (qfd _) ?_;rw[qkf]))
    go_loopw [67] (fun i W=>∃u:Nat,u<=8/\i=.int .i64 u/\Below w.heap.size w W/\Row 30 W b5 (tc f g h (.slice a0 n cap))/\Row 30 W b11 (tc f' g h' (.slice av ln cv))) (fun i _=>8-(intOf i).toNat)
    case atStart=>exact⟨0,by omega,rfl,hB,R5,R11⟩
    case round=>
     clear hB R5 R11 hMv
     obtain⟨u,hu,rfl,hB,R5,R11⟩:=hrel
     by_cases hu8:u<8
     ·have iu:=qzmb h u hu8;have hhu:=hHome u hu8;(have hu0:(0:Int)<=(u:Int):=by omega);(have hu8':(u:Int)<8:=by omega);have cH:World.cell? _ ⟨b11,21+u,none⟩=some (.int .i64 (h' u)):=(R11.cell _).trans (qhc _ _ _ _ _ hu8)
      by_cases hus:(u:Int)=s
      ·(have d1:((u:Int) != s)=false:=by simp[hus]);(have d2:((u:Int)==s)=true:=by simp[hus])
       by_cases hz:h u=0
       ·(have d3:(h u != 0)=false:=by simp[hz]);clear hhu hus hz
        exact sZbd142
       ·(have d3:(h u != 0)=true:=by simp[hz]);(have d4:(h' u != h u)=false:=by rw[hhu.2 hz];simp);clear hhu hus hz
        exact sZbd142
      ·(have d1:((u:Int) != s)=true:=by simp[hus]);(have d2:((u:Int)==s)=false:=by simp[hus]);(have d4:(h' u != h u)=false:=by rw[hhu.1 om];simp);clear hhu hus
       exact sZbd142
     ·(have e:u=8:=by omega)
      subst e
      have cA:World.cell? _ ⟨b11,29,none⟩=some (.slice av ln cv):=(R11.cell 29).trans (qdw _ _ _ _);have cB:World.cell? _ ⟨b5,29,none⟩=some (.slice a0 n cap):=(R5.cell 29).trans (qdw _ _ _ _);(have hl1:(ln:Int)-(n:Int)<=1:=by have:=HN.out;have:=hln.out;omega);(have hlw:wrap64 ((ln:Int)-(n:Int))=(ln:Int)-(n:Int):=by have:=HN.out;have:=hln.out;have:=hM.len;unfold wrap64;omega)
      go_wp2
      go_ret
      exact⟨rfl,hB⟩
end Go.Proofs.Ytbboabfmoahipaa
