/-
  Of what a law stands on.
-/
import Derived.Maps.AppendAt
import Derived.Test.YtbboabfmoahipaaZbd3
set_option linter.unusedSimpArgs false
set_option linter.unusedVariables false
namespace Go.Proofs.Ytbboabfmoahipaa
open Go.Value renaming int → I,pointer → V
open Go.IntKind renaming i64 → Z
open _root_.Go.Proofs.Try Go.ChangeShapes Go.WideShapes Go.ChangeAt Go.RowKit
set_option maxHeartbeats 16000000
set_option maxRecDepth 100000
variable {p:Prop}{e t:TypeId}{w w':World}{b b7 base j n size:Nat}{v:Value}{ms:List Mp}{o:Oper}{m:Mp}{ops:Array Oper}{rest:List Oper}{a:Act}{Q:Exit->Act->World->Prop}{xs:List Value}
def qjy(f h:Nat->Int)(ms:List Mp)(p s i:Int):Prop:=qbq f h ms/\isP p=true/\(0<=s/\s<8)/\0<=i/\i<=65535
def qpm(f:Nat->Int)(g:Nat->Bool)(h:Nat->Int)(sl:Value)(m:Mp)(took:Bool)(e:Int):Value:=.tuple #[.agg (tc f g h sl),.agg (mc m),.bool took,I Z e]
theorem qej{fn:Func}{p q x y:Tmp}{u:TypeId}(hf:fn.results=#[.cell p t,.cell q u,.tmp x,.tmp y])(tmps:Array Value)(w:World)(b c:Nat)(cs ds:Array Value)(hp:tmps.getD p undef=V (some ⟨b,0,none⟩))(hq:tmps.getD q undef=V (some ⟨c,0,none⟩))(h:Row t w b cs)(h':Row u w c ds)(d d':TypeDesc)(hu:prog.underlying t=some d)(hu':prog.underlying u=some d')(hd:d.isRow=true)(hd':d'.isRow=true)(hi:(prog.info? t).map (·.size)=some cs.size)(hi':(prog.info? u).map (·.size)=some ds.size):
  (results fn tmps).run prog w=.ok (.tuple #[.agg cs,.agg ds,tmps.getD x undef,tmps.getD y undef]) w:=by
 (have hp':tmps[p]?.getD undef=V (some ⟨b,0,none⟩):=by simpa using hp);(have hq':tmps[q]?.getD undef=V (some ⟨c,0,none⟩):=by simpa using hq);have hl:=run_loadVar_mid (P:=prog) w b 0 t cs.toList d (h.range (fun j v hv=>by rw[Nat.zero_add];simpa using hv)) hu hd (by simpa using hi);have hl':=run_loadVar_mid (P:=prog) w c 0 u ds.toList d' (h'.range (fun j v hv=>by rw[Nat.zero_add];simpa using hv)) hu' hd' (by simpa using hi')
 simp only[Array.toArray_toList] at hl hl'
 simp[results,hf,hp',hq',asAddr,hl,hl']
theorem sZbd41(h:p:=by
 go_enter func19,ntmps19
 go_wp2_with (first|(refine m1c ?_;intro b5 w1 R5 hb1 l5 hB)|(refine m18 ?_;clear R5 hB;intro b10 w2 R10 hb2 n5a l10 R5 hB)|(refine m0x ?_;clear R5 R10 hB;intro b11 w3 R11 hb3 n5b nab l11 R5 R10 hB)|(refine lx 30 (.tmp 5) (tc f g h (.slice a0 n cap)) R5 ?_)|(go_at_call 16;refine m4n ?_;rintro e w5 ⟨r,hr,rfl,hb5⟩;obtain rfl:r=true:=(hr.2 HG.out);clear hr;refine m0o ?_;clear R5 R10 R11 hB;intro R5 R10 R11 hB)|(go_at_call 39;go_fit (C1 _);refine m03 ?_)|(go_at_call 40;go_fit (C2 _);refine m03 ?_)|(go_at_call 41;go_fit (C3 _);refine m03 ?_)|(refine m0q ?_;intro w6 R10 t6;replace R11:=t6.row R11 nab.symm;replace hB:=t6.below _ _ l10 hB)|(refine m45 ?_;clear R10 hB;intro w7 R11 t7 R10 hB))
 (refine m06 ?_;refine bodyPost_ret (qej rfl _ _ _ _ _ _ rfl rfl R10 R11 _ _ underlying30 underlying32 rfl rfl (qaq _ _ _ _) (qak _)) rfl ⟨rfl,hB⟩)):p:=h
theorem q6m(f:Nat->Int)(g:Nat->Bool)(h:Nat->Int)(sl:Value)(ms:List Mp)(p s i d:Int)(w:World)(hM:qaz w sl ms)(hwH:wfH h)(hP:¬qjy f h ms p s i):
  Calls prog 19 #[.agg (tc f g h sl),I Z p,I Z s,I Z i,I Z d] w fun e w'=>e=.returned (qpm f g h sl noM false 2)/\Below w.heap.size w w':=by
 refine m1t ?_;intro hB hM0
 obtain⟨a0,cap,hsl,-⟩:=hM0
 obtain⟨n,hn⟩:∃n,n=ms.length:=⟨_,rfl⟩
 rw[←hn] at hsl
 subst hsl
 refine m2d ?_;clear hn;intro HN hlt;(have CG:=fun w hM=>qf8 f g h (.slice a0 n cap) ms hwH w hM);(have C1:=fun w=>qfh p w);(have C2:=fun w=>qig s w);(have C3:=fun w=>qhe i w)
 by_cases G:qbq f h ms
 rotate_left
 ·have HG:Hid (¬qbq f h ms):=G;clear G hP
  go_enter func19,ntmps19
  go_wp2_with (first|(refine m1c ?_;clear hB;intro b5 w1 R5 hb1 l5 hB)|(refine m18 ?_;clear R5 hB;intro b10 w2 R10 hb2 n5a l10 R5 hB)|(refine m0x ?_;clear R5 R10 hB;intro b11 w3 R11 hb3 n5b nab l11 R5 R10 hB)|(refine lx 30 (.tmp 5) (tc f g h (.slice a0 n cap)) R5 ?_)|(go_at_call 16;refine m4n ?_;rintro e w5 ⟨r,hr,rfl,hb5⟩;obtain rfl:r=false:=(by cases r with|false=>rfl|true=>exact absurd (hr.1 rfl) HG.out);clear hr;refine m0o ?_;clear R5 R10 R11 hB;intro R5 R10 R11 hB)|(go_at_call 39;go_fit (C1 _);refine m03 ?_)|(go_at_call 40;go_fit (C2 _);refine m03 ?_)|(go_at_call 41;go_fit (C3 _);refine m03 ?_)|(refine m0q ?_;intro w6 R10 t6;replace R11:=t6.row R11 nab.symm;replace hB:=t6.below _ _ l10 hB)|(refine m45 ?_;clear R10 hB;intro w7 R11 t7 R10 hB))
  (refine m06 ?_;refine bodyPost_ret (qej rfl _ _ _ _ _ _ rfl rfl R10 R11 _ _ underlying30 underlying32 rfl rfl (qaq _ _ _ _) (qak _)) rfl ⟨rfl,hB⟩)
 have HG:Hid (qbq f h ms):=G
 cases hp:isP p with
 | false=>
  rw[hp] at C1
  clear G hP hp
  exact sZbd41
 | true=>
  rw[hp] at C1
  by_cases hs:0<=s/\s<8
  rotate_left
  ·(have e2:(decide (0<=s)&&decide (s<8))=false:=by rw[Bool.eq_false_iff];intro h;simp at h;exact hs h)
   rw[e2] at C2
   clear G hP hp hs e2
   exact sZbd41
  (have e2:(decide (0<=s)&&decide (s<8))=true:=by simp[hs.1,hs.2])
  rw[e2] at C2
  (have e3:(decide (0<=i)&&decide (i<=65535))=false:=by rw[Bool.eq_false_iff];intro h;simp at h;exact hP ⟨G,hp,hs,h⟩)
  rw[e3] at C3
  clear G hP hp hs e2 e3
  exact sZbd41
theorem q0s(f:Nat->Int)(g:Nat->Bool)(h:Nat->Int)(sl:Value)(ms:List Mp)(p s i d:Int)(w:World)(hM:qaz w sl ms)(hwH:wfH h)(hP:qjy f h ms p s i)(m:Mp)(hf:ms.find? (inS p s i)=some m):
  Calls prog 19 #[.agg (tc f g h sl),I Z p,I Z s,I Z i,I Z d] w fun e w'=>e=.returned (qpm f g h sl m false 0)/\Below w.heap.size w w':=by
 refine m1t ?_;intro hB hM0
 obtain⟨a0,cap,hsl,-⟩:=hM0
 obtain⟨n,hn⟩:∃n,n=ms.length:=⟨_,rfl⟩
 rw[←hn] at hsl
 subst hsl
 refine m0k ?_;clear hn;intro HN hlt CG G hp hs hi0 hi1 hs0 hs8 hs8n C1 C2 C3 e2 e3
 rw[hp] at C1
 rw[e2] at C2
 rw[e3] at C3
 refine m41 ?_;intro HG CF
 rw[hf] at CF
 unfold qhw at CF
 clear G hp hs hi0 hi1 e2 e3 hf
 go_enter func19,ntmps19
 go_wp2_with (first|(refine m1c ?_;clear hB;intro b5 w1 R5 hb1 l5 hB)|(refine m18 ?_;clear R5 hB;intro b10 w2 R10 hb2 n5a l10 R5 hB)|(refine m0x ?_;clear R5 R10 hB;intro b11 w3 R11 hb3 n5b nab l11 R5 R10 hB)|(refine lx 30 (.tmp 5) (tc f g h (.slice a0 n cap)) R5 ?_)|(go_at_call 16;refine m4n ?_;rintro e w5 ⟨r,hr,rfl,hb5⟩;obtain rfl:r=true:=(hr.2 HG.out);clear hr;refine m0o ?_;clear R5 R10 R11 hB;intro R5 R10 R11 hB)|(go_at_call 39;go_fit (C1 _);refine m03 ?_)|(go_at_call 40;go_fit (C2 _);refine m03 ?_)|(go_at_call 41;go_fit (C3 _);refine m03 ?_)|(go_at_call 9;go_fit (CF _ (hM.keep hB hlt));rintro e w5 ⟨rfl,hb5⟩;refine m0o ?_;clear R5 R10 R11 hB;intro R5 R10 R11 hB)|(refine m1i ?_;clear R5 R10 R11 hB;intro b14 w8 R14 hb8 n5c nac nbc l14 R5 R10 R11 hB)|(refine sx 32 (.tmp 14) _ (mc m) R14 ?_;intro w9 R14 t9;replace R5:=t9.row R5 n5c;replace R10:=t9.row R10 nac;replace R11:=t9.row R11 nbc;replace hB:=t9.below _ _ l14 hB))
 refine RD (fun W=>Row 30 W b5 (tc f g h (.slice a0 n cap))/\Row 32 W b14 (mc m)) ⟨R5,R14⟩ (fun _=>?_)
 refine tk 0 (.agg (tc f g h (.slice a0 n cap))) rfl (yx 30 (.tmp 5) (tc f g h (.slice a0 n cap)) (fun _ h=>h.1)) ⟨R5,R14⟩ (tk 1 (.agg (mc m)) rfl (qav 32 (.tmp 14) rfl kr b14 kr (mc m) (fun _ h=>h.2) _ underlying32 rfl (qak m)) ⟨R5,R14⟩ ?_)
 refine m3a ?_
 refine AP (fun K hK=>?_) AZ
 refine qau 30 (.tmp 10) (.tmp 50) rfl b10 rfl (tc f g h (.slice a0 n cap)) rfl _ R10 (qen _ _ _ _ _ _ _ _) (qaq _ _ _ _) (qbm _ _ _ _ _ _) ?_;intro w16 R10 t16;(try replace t16:=qhp t16);replace R5:=t16.row R5 n5a;replace R11:=t16.row R11 nab.symm;replace R14:=t16.row R14 nac.symm;replace hB:=t16.below _ _ l10 hB
 refine hK.out _ _ ⟨R5,R14⟩ (fun _=>?_)
 clear hK K;(try simp only[ZZ]);refine AR [3] ?_
 refine AP (fun K hK=>?_) AZ
 refine sy 32 (.tmp 11) (.tmp 51) (mc m) R11 ?_;intro w17 R11 t17;(try replace t17:=qhp t17);replace R5:=t17.row R5 n5b;replace R10:=t17.row R10 nab;replace R14:=t17.row R14 nbc.symm;replace hB:=t17.below _ _ l11 hB
 refine hK.out _ _ ⟨R5,R14⟩ (fun _=>?_)
 clear hK K;(try simp only[ZZ]);refine tq 4 (.bool false) rfl ⟨R5,R14⟩ (tq 5 (I Z 0) rfl ⟨R5,R14⟩ ?_);refine m2c ?_
 go_wp2
 (refine m06 ?_;refine bodyPost_ret (qej rfl _ _ _ _ _ _ rfl rfl R10 R11 _ _ underlying30 underlying32 rfl rfl (qaq _ _ _ _) (qak _)) rfl ⟨rfl,by first|exact hB|exact qea hB⟩)
theorem q2q(f:Nat->Int)(g:Nat->Bool)(h:Nat->Int)(sl:Value)(ms:List Mp)(p s i d:Int)(w:World)(hM:qaz w sl ms)(hwH:wfH h)(hP:qjy f h ms p s i)(hf:ms.find? (inS p s i)=none)(hc:cntM ms s=12):
  Calls prog 19 #[.agg (tc f g h sl),I Z p,I Z s,I Z i,I Z d] w fun e w'=>e=.returned (qpm f g h sl noM false 6)/\Below w.heap.size w w':=by
 refine m1t ?_;intro hB hM0
 obtain⟨a0,cap,hsl,-⟩:=hM0
 obtain⟨n,hn⟩:∃n,n=ms.length:=⟨_,rfl⟩
 rw[←hn] at hsl
 subst hsl
 refine m0k ?_;clear hn;intro HN hlt CG G hp hs hi0 hi1 hs0 hs8 hs8n C1 C2 C3 e2 e3
 rw[hp] at C1
 rw[e2] at C2
 rw[e3] at C3
 refine m41 ?_;intro HG CF
 rw[hf] at CF
 unfold qhw at CF
 (have CC:=fun w hM=>qh5 f g h (.slice a0 n cap) ms s w hM)
 rw[hc] at CC
 clear G hp hs hi0 hi1 e2 e3 hf hc
 go_enter func19,ntmps19
 go_wp2_with (first|(refine m1c ?_;clear hB;intro b5 w1 R5 hb1 l5 hB)|(refine m18 ?_;clear R5 hB;intro b10 w2 R10 hb2 n5a l10 R5 hB)|(refine m0x ?_;clear R5 R10 hB;intro b11 w3 R11 hb3 n5b nab l11 R5 R10 hB)|(refine lx 30 (.tmp 5) (tc f g h (.slice a0 n cap)) R5 ?_)|(go_at_call 16;refine m4n ?_;rintro e w5 ⟨r,hr,rfl,hb5⟩;obtain rfl:r=true:=(hr.2 HG.out);clear hr;refine m0o ?_;clear R5 R10 R11 hB;intro R5 R10 R11 hB)|(go_at_call 39;go_fit (C1 _);refine m03 ?_)|(go_at_call 40;go_fit (C2 _);refine m03 ?_)|(go_at_call 41;go_fit (C3 _);refine m03 ?_)|(go_at_call 9;go_fit (CF _ (hM.keep hB hlt));rintro e w5 ⟨rfl,hb5⟩;refine m0o ?_;clear R5 R10 R11 hB;intro R5 R10 R11 hB)|(refine m1i ?_;clear R5 R10 R11 hB;intro b14 w8 R14 hb8 n5c nac nbc l14 R5 R10 R11 hB)|(refine m4i ?_;clear R5 R10 R11 hB;intro w9 R14 t9 R5 R10 R11 hB)|(go_at_call 42;go_fit (CC _ (hM.keep hB hlt));rintro e w5 ⟨rfl,hb5⟩;(try clear R14);refine m0o ?_;clear R5 R10 R11 hB;intro R5 R10 R11 hB)|(refine m0q ?_;intro w6 R10 t6;replace R11:=t6.row R11 nab.symm;replace hB:=t6.below _ _ l10 hB)|(refine m45 ?_;clear R10 hB;intro w7 R11 t7 R10 hB))
 (refine m06 ?_;refine bodyPost_ret (qej rfl _ _ _ _ _ _ rfl rfl R10 R11 _ _ underlying30 underlying32 rfl rfl (qaq _ _ _ _) (qak _)) rfl ⟨rfl,hB⟩)
theorem q4y(f:Nat->Int)(g:Nat->Bool)(h:Nat->Int)(sl:Value)(ms:List Mp)(p s i d:Int)(w:World)(hM:qaz w sl ms)(hwH:wfH h)(hd:(Lit.int .i64 d).wf=true)(hP:qjy f h ms p s i)(hf:ms.find? (inS p s i)=none)(hc:cntM ms s≠12)(he:(qbe f g h ms p s d).e≠0):
  Calls prog 19 #[.agg (tc f g h sl),.int .i64 p,.int .i64 s,.int .i64 i,.int .i64 d] w fun e w'=>e=.returned (qpm f g h sl noM false (qbe f g h ms p s d).e)/\Below w.heap.size w w':=by
 refine m1t ?_;intro hB hM0
 obtain⟨a0,cap,hsl,-⟩:=hM0
 obtain⟨n,hn⟩:∃n,n=ms.length:=⟨_,rfl⟩
 rw[←hn] at hsl
 subst hsl
 refine m0k ?_;clear hn;intro HN hlt CG G hp hs hi0 hi1 hs0 hs8 hs8n C1 C2 C3 e2 e3
 rw[hp] at C1
 rw[e2] at C2
 rw[e3] at C3
 refine m41 ?_;intro HG CF
 rw[hf] at CF
 unfold qhw at CF
 refine m5h ?_;intro CC dc CR
 unfold q00 at CR
 (have dE:((qbe f g h ms p s d).e != 0)=true:=by simp[he])
 generalize qbe f g h ms p s d=r at *
 obtain⟨rf,rh,rq,rt,re⟩:=r
 simp only at CR dE he ⊢
 generalize cntM ms s=cc at *
 clear G hp hs hi0 hi1 e2 e3 hf hc he
 go_enter func19,ntmps19
 go_wp2_with (first|(refine m1c ?_;clear hB;intro b5 w1 R5 hb1 l5 hB)|(refine m18 ?_;clear R5 hB;intro b10 w2 R10 hb2 n5a l10 R5 hB)|(refine m0x ?_;clear R5 R10 hB;intro b11 w3 R11 hb3 n5b nab l11 R5 R10 hB)|(refine lx 30 (.tmp 5) (tc f g h (.slice a0 n cap)) R5 ?_)|(go_at_call 16;refine m4n ?_;rintro e w5 ⟨r,hr,rfl,hb5⟩;obtain rfl:r=true:=(hr.2 HG.out);clear hr;refine m0o ?_;clear R5 R10 R11 hB;intro R5 R10 R11 hB)|(go_at_call 39;go_fit (C1 _);refine m03 ?_)|(go_at_call 40;go_fit (C2 _);refine m03 ?_)|(go_at_call 41;go_fit (C3 _);refine m03 ?_)|(go_at_call 9;go_fit (CF _ (hM.keep hB hlt));rintro e w5 ⟨rfl,hb5⟩;refine m0o ?_;clear R5 R10 R11 hB;intro R5 R10 R11 hB)|(refine m1i ?_;clear R5 R10 R11 hB;intro b14 w8 R14 hb8 n5c nac nbc l14 R5 R10 R11 hB)|(refine m4i ?_;clear R5 R10 R11 hB;intro w9 R14 t9 R5 R10 R11 hB)|(go_at_call 42;go_fit (CC _ (hM.keep hB hlt));rintro e w5 ⟨rfl,hb5⟩;(try clear R14);refine m0o ?_;clear R5 R10 R11 hB;intro R5 R10 R11 hB)|(go_at_call 43;go_fit (CR _ (hM.keep hB hlt));rintro e w5 ⟨rfl,hb5⟩;refine m0o ?_;clear R5 R10 R11 hB;intro R5 R10 R11 hB)|(refine ax 16 30 qb8 ?_;intro b16 w10 l16 R16 hb10;have n5d:=R5.ne l16;have nad:=R10.ne l16;have nbd:=R11.ne l16;replace l16:=Nat.le_trans hB.size l16;replace R5:=R5.below hb10;replace R10:=R10.below hb10;replace R11:=R11.below hb10;replace hB:=hB.trans (hb10.mono hB.size))|(refine m2x ?_;clear R5 R10 R11 hB;intro w11 R16 t11 R5 R10 R11 hB c16)|(refine m0q ?_;intro w6 R10 t6;replace R11:=t6.row R11 nab.symm;replace hB:=t6.below _ _ l10 hB)|(refine m45 ?_;clear R10 hB;intro w7 R11 t7 R10 hB))
 (refine m06 ?_;refine bodyPost_ret (qej rfl _ _ _ _ _ _ rfl rfl R10 R11 _ _ underlying30 underlying32 rfl rfl (qaq _ _ _ _) (qak _)) rfl ⟨rfl,hB⟩)
theorem qmo(h:qaz w v ms)(hne:mb v≠b)(t:qbl b w w'):qaz w' v ms:=by
 obtain⟨a,cap,e,h1,h2,h3⟩:=h
 refine⟨a,cap,e,h1,fun j hj i u hu=>?_,h3⟩
 have:=h2 j hj i u hu
 unfold World.cell? at *
 rw[t.other _ hne]
 exact this
theorem qzj{o:Nat}:qbl b w (w.setCell ⟨b,o,none⟩ v):=⟨by simp,fun r hr=>Below.heap_setCell _ _ _ _ hr,fun B w0 hB hb=>hb.setCell (p:=⟨b,o,none⟩) hB v⟩
theorem q6u(f:Nat->Int)(g:Nat->Bool)(h:Nat->Int)(sl:Value)(ms:List Mp)(p s i d:Int)(w:World)(hM:qaz w sl ms)(hwH:wfH h)(hno:qcs sl)(hd:(Lit.int .i64 d).wf=true)(hP:qjy f h ms p s i)(hf:ms.find? (inS p s i)=none)(hc:cntM ms s≠12)(he:(qbe f g h ms p s d).e=0):
  Calls prog 19 #[.agg (tc f g h sl),.int .i64 p,.int .i64 s,.int .i64 i,.int .i64 d] w fun e w'=>∃v,e=.returned (qpm (qbe f g h ms p s d).f g (qbe f g h ms p s d).h v (p,s,i,(qbe f g h ms p s d).h s.toNat-1,(qbe f g h ms p s d).q) (qbe f g h ms p s d).took 0)/\qaz w' v (ms++[(p,s,i,(qbe f g h ms p s d).h s.toNat-1,(qbe f g h ms p s d).q)])/\qcs v/\w.heap.size<=mb v/\Below w.heap.size w w':=by
 refine m1t ?_;intro hB hM0
 obtain⟨a0,cap,hsl,-⟩:=hM0
 obtain⟨n,hn⟩:∃n,n=ms.length:=⟨_,rfl⟩
 rw[←hn] at hsl
 subst hsl
 refine m0k ?_;clear hn;intro HN hlt CG G hp hs hi0 hi1 hs0 hs8 hs8n C1 C2 C3 e2 e3
 rw[hp] at C1
 rw[e2] at C2
 rw[e3] at C3
 refine m41 ?_;intro HG CF
 rw[hf] at CF
 unfold qhw at CF
 refine m42 ?_;intro hany;have hrk:=(qya (g:=g) (d:=d) G hp hs ⟨hi0,hi1⟩ hany hc he).1.homeIn hs;refine m5h ?_;intro CC dc CR
 unfold q00 at CR
 have hlen:=G.len
 generalize qbe f g h ms p s d=r at *
 obtain⟨rf,rh,rq,rt,re⟩:=r
 simp only at CR he hrk ⊢
 subst he
 obtain⟨ra,hra⟩:∃ra,ra=rh s.toNat-1:=⟨_,rfl⟩
 (have hraw:wrap64 (rh s.toNat-1)=ra:=by rw[hra];unfold wrap64;omega);rw[←hra];(have CW:=fun w hM=>q50 (.slice a0 n cap) ms (p,s,i,ra,rq) w hM hno hlen)
 generalize cntM ms s=cc at *
 clear G hp hs hi0 hi1 e2 e3 hf hc hany hrk hlen hra
 go_enter func19,ntmps19
 go_wp2_with (first|(refine m1c ?_;clear hB;intro b5 w1 R5 hb1 l5 hB)|(refine m18 ?_;clear R5 hB;intro b10 w2 R10 hb2 n5a l10 R5 hB)|(refine m0x ?_;clear R5 R10 hB;intro b11 w3 R11 hb3 n5b nab l11 R5 R10 hB)|(refine lx 30 (.tmp 5) (tc f g h (.slice a0 n cap)) R5 ?_)|(go_at_call 16;refine m4n ?_;rintro e w5 ⟨r,hr,rfl,hb5⟩;obtain rfl:r=true:=(hr.2 HG.out);clear hr;refine m0o ?_;clear R5 R10 R11 hB;intro R5 R10 R11 hB)|(go_at_call 39;go_fit (C1 _);refine m03 ?_)|(go_at_call 40;go_fit (C2 _);refine m03 ?_)|(go_at_call 41;go_fit (C3 _);refine m03 ?_)|(go_at_call 9;go_fit (CF _ (hM.keep hB hlt));rintro e w5 ⟨rfl,hb5⟩;refine m0o ?_;clear R5 R10 R11 hB;intro R5 R10 R11 hB)|(refine m1i ?_;clear R5 R10 R11 hB;intro b14 w8 R14 hb8 n5c nac nbc l14 R5 R10 R11 hB)|(refine m4i ?_;clear R5 R10 R11 hB;intro w9 R14 t9 R5 R10 R11 hB)|(go_at_call 42;go_fit (CC _ (hM.keep hB hlt));rintro e w5 ⟨rfl,hb5⟩;(try clear R14);refine m0o ?_;clear R5 R10 R11 hB;intro R5 R10 R11 hB)|(go_at_call 43;go_fit (CR _ (hM.keep hB hlt));rintro e w5 ⟨rfl,hb5⟩;refine m0o ?_;clear R5 R10 R11 hB;intro R5 R10 R11 hB)|(refine ax 16 30 qb8 ?_;intro b16 w10 l16 R16 hb10;have n5d:=R5.ne l16;have nad:=R10.ne l16;have nbd:=R11.ne l16;replace l16:=Nat.le_trans hB.size l16;replace R5:=R5.below hb10;replace R10:=R10.below hb10;replace R11:=R11.below hb10;replace hB:=hB.trans (hb10.mono hB.size))|(refine m2x ?_;clear R5 R10 R11 hB;intro w11 R16 t11 R5 R10 R11 hB c16)|(refine ax 20 32 qa4 ?_;intro b20 w12 l20 R20 hb12;have n5e:=R5.ne l20;have nae:=R10.ne l20;have nbe:=R11.ne l20;have nde:=R16.ne l20;replace l20:=Nat.le_trans hB.size l20;replace R5:=R5.below hb12;replace R10:=R10.below hb12;replace R11:=R11.below hb12;replace R16:=R16.below hb12;replace hB:=hB.trans (hb12.mono hB.size))|(refine sx 32 (.tmp 20) _ (mc (p,s,i,ra,rq)) R20 ?_;intro w13 R20 t13;replace R5:=t13.row R5 n5e;replace R10:=t13.row R10 nae;replace R11:=t13.row R11 nbe;replace R16:=t13.row R16 nde;replace hB:=t13.below _ _ l20 hB;clear c16;have c5:World.cell? _ ⟨b5,29,none⟩=some (.slice a0 n cap):=(R5.cell _).trans (qdw _ _ _ _))|(refine lx 32 (.tmp 20) (mc (p,s,i,ra,rq)) R20 ?_)|(go_at_call 44;go_fit (CW _ (hM.keep hB hlt));rintro e w14 ⟨v,rfl,hMv,hNv,hbv,hb14⟩;clear c5;have hle0:=Nat.le_trans hB.size hbv;have x10:=Nat.ne_of_gt (Nat.lt_of_lt_of_le R10.lt hbv);have x11:=Nat.ne_of_gt (Nat.lt_of_lt_of_le R11.lt hbv);have x16:=Nat.ne_of_gt (Nat.lt_of_lt_of_le R16.lt hbv);clear hbv;replace R10:=R10.below hb14;replace R11:=R11.below hb14;replace R16:=R16.below hb14;replace R20:=R20.below hb14;replace hB:=hB.trans (hb14.mono hB.size);(obtain⟨av,cv,hv,-⟩:=id hMv);(generalize(ms++[(p,s,i,ra,rq)]).length=ln at hv);subst hv;have f16:=R16.free 29;have c16:World.cell? _ ⟨b16,29,none⟩=some (.slice a0 n cap):=(R16.cell _).trans (qdw _ _ _ _)))
 replace R10:=R10.other (b:=b16) (o:=29) (v:=.slice av ln cv) nad;replace R11:=R11.other (b:=b16) (o:=29) (v:=.slice av ln cv) nbd;replace R20:=R20.other (b:=b16) (o:=29) (v:=.slice av ln cv) nde.symm;replace R16:=R16.set (o:=29) (v:=.slice av ln cv)
 rw[qm0] at R16
 have hM2:=qmo hMv x16 (qzj (o:=29) (v:=.slice av ln cv));replace hB:=hB.setCell (p:=⟨b16,29,none⟩) l16 (.slice av ln cv)
 refine RD (fun W=>Row 30 W b16 (tc rf g rh (.slice av ln cv))/\Row 32 W b20 (mc (p,s,i,ra,rq))) ⟨R16,R20⟩ (fun _=>?_)
 refine tk 0 (.agg (tc rf g rh (.slice av ln cv))) rfl (yx 30 (.tmp 16) (tc rf g rh (.slice av ln cv)) (fun _ h=>h.1)) ⟨R16,R20⟩ (tk 1 (.agg (mc (p,s,i,ra,rq))) rfl (qav 32 (.tmp 20) rfl kr b20 kr (mc (p,s,i,ra,rq)) (fun _ h=>h.2) _ underlying32 rfl (qak (p,s,i,ra,rq))) ⟨R16,R20⟩ (tq 2 (.bool rt) rfl ⟨R16,R20⟩ ?_))
 simp only[ZZ];refine AR [3] ?_
 refine AP (fun K hK=>?_) AZ
 refine qau 30 (.tmp 10) (.tmp 88) rfl b10 rfl (tc rf g rh (.slice av ln cv)) rfl _ R10 (qen _ _ _ _ _ _ _ _) (qaq _ _ _ _) (qbm _ _ _ _ _ _) ?_;intro w16 R10 t16;(try replace t16:=qhp t16);replace R16:=t16.row R16 nad.symm;replace R11:=t16.row R11 nab.symm;replace R20:=t16.row R20 nae.symm;replace hM2:=qmo hM2 x10 t16;replace hB:=t16.below _ _ l10 hB
 refine hK.out _ _ ⟨R16,R20⟩ (fun _=>?_)
 clear hK K;(try simp only[ZZ]);refine AR [4] ?_
 refine AP (fun K hK=>?_) AZ
 refine sy 32 (.tmp 11) (.tmp 89) (mc (p,s,i,ra,rq)) R11 ?_;intro w17 R11 t17;(try replace t17:=qhp t17);replace R16:=t17.row R16 nbd.symm;replace R10:=t17.row R10 nab;replace R20:=t17.row R20 nbe.symm;replace hM2:=qmo hM2 x11 t17;replace hB:=t17.below _ _ l11 hB
 refine hK.out _ _ ⟨R16,R20⟩ (fun _=>?_)
 clear hK K;(try simp only[ZZ]);refine tq 5 (.bool rt) rfl ⟨R16,R20⟩ (tq 6 (.int .i64 0) rfl ⟨R16,R20⟩ ?_);refine m2c ?_
 go_wp2
 (refine m06 ?_;refine bodyPost_ret (qej rfl _ _ _ _ _ _ rfl rfl R10 R11 _ _ underlying30 underlying32 rfl rfl (qaq _ _ _ _) (qak _)) rfl ⟨.slice av ln cv,?_⟩)
 exact⟨rfl,hM2,hNv,hle0,by first|exact hB|exact qea hB⟩
theorem sZbd43(h:p:=by
 rcases List.mem_cons.1 hm with h|h
 ·exact absurd h.symm e
 ·exact h):p:=h
theorem q35(hp:ms.Pairwise (fun o m=>qc0 [o] m=false))(hm:m∈ms):ms.find? (inS m.1 m.2.1 m.2.2.1)=some m:=by
 induction ms with
 | nil=>simp at hm
 | cons o r ih=>
  rw[List.pairwise_cons] at hp
  by_cases e:o=m
  ·subst e
   have:inS o.1 o.2.1 o.2.2.1 o=true:=(qsm _ _ _ _).2 ⟨rfl,rfl,rfl⟩
   rw[List.find?_cons_of_pos this]
  ·have hm':m∈r:=by
    exact sZbd43
   have h1:=hp.1 m hm'
   have h2:inS m.1 m.2.1 m.2.2.1 o=false:=by
    simp only[qc0,List.any_cons,List.any_nil,Bool.or_false,Bool.or_eq_false_iff] at h1
    exact h1.1
   rw[List.find?_cons_of_neg (by rw[h2];simp)]
   exact ih hp.2 hm'
structure qzwb(f h:Nat->Int)(ms:List Mp)(s:Int)(f' h':Nat->Int)(ms':List Mp):Prop where
 good:qbq f' h' ms'
 wf:wfH h'
 here:∀m∈ms,ms'.find? (inS m.1 m.2.1 m.2.2.1)=some m
 home:∀u,u<8->(u≠s.toNat->h' u=h u)/\(h u≠0->h' u=h u)
 len:ms.length<=ms'.length/\ms'.length<=ms.length+1
theorem qbq.wf{f h:Nat->Int}(G:qbq f h ms):wfH h:=fun i hi=>by
 have:=G.homeIn (s:=(i:Int)) om
 simp only[Int.toNat_natCast] at this
 exact qlt om om
theorem qy9b(f:Nat->Int)(g:Nat->Bool)(h:Nat->Int)(sl:Value)(ms:List Mp)(p s i d:Int)(hwH:wfH h)(hno:qcs sl)(hd:(Lit.int .i64 d).wf=true):
  (∃E:Int,E≠0/\∀w:World,qaz w sl ms->Calls prog 19 #[.agg (tc f g h sl),.int .i64 p,.int .i64 s,.int .i64 i,.int .i64 d] w fun e w'=>e=.returned (qpm f g h sl noM false E)/\Below w.heap.size w w')\/
  ((0<=s/\s<8)/\∃(f' h':Nat->Int) (ms':List Mp) (m:Mp) (took:Bool),qzwb f h ms s f' h' ms'/\∀w:World,qaz w sl ms->Calls prog 19 #[.agg (tc f g h sl),.int .i64 p,.int .i64 s,.int .i64 i,.int .i64 d] w fun e w'=>∃v,e=.returned (qpm f' g h' v m took 0)/\qaz w' v ms'/\qcs v/\Below w.heap.size w w'):=by
 by_cases hP:qjy f h ms p s i
 rotate_left
 ·exact .inl ⟨2,by omega,fun w hM=>q6m f g h sl ms p s i d w hM hwH hP⟩
 have G:=hP.1;have hs:=hP.2.2.1
 cases hf:ms.find? (inS p s i) with
 | some m=>
  refine .inr ⟨hs,f,h,ms,m,false,⟨G,hwH,fun o ho=>q35 G.maps.2 ho,fun u hu=>⟨fun _=>rfl,fun _=>rfl⟩,by omega⟩,fun w hM=>?_⟩
  refine(q0s f g h sl ms p s i d w hM hwH hP m hf).mono ?_;rintro e w' ⟨rfl,hb⟩
  exact⟨sl,rfl,hM.below hb,hno,hb⟩
 | none=>
  by_cases hc:cntM ms s=12
  ·exact .inl ⟨6,by omega,fun w hM=>q2q f g h sl ms p s i d w hM hwH hP hf hc⟩
  ·by_cases he:(qbe f g h ms p s d).e=0
   rotate_left
   ·exact .inl ⟨_,he,fun w hM=>q4y f g h sl ms p s i d w hM hwH hd hP hf hc he⟩
   ·refine m42 ?_;intro hany;obtain⟨hG,h1,h2⟩:=qya (g:=g) (d:=d) G hP.2.1 hs ⟨hP.2.2.2.1,hP.2.2.2.2⟩ hany hc he
    refine .inr ⟨hs,(qbe f g h ms p s d).f,(qbe f g h ms p s d).h,ms++[(p,s,i,(qbe f g h ms p s d).h s.toNat-1,(qbe f g h ms p s d).q)],(p,s,i,(qbe f g h ms p s d).h s.toNat-1,(qbe f g h ms p s d).q),(qbe f g h ms p s d).took,⟨hG,hG.wf,fun o ho=>q35 hG.maps.2 (by simp[ho]),fun u hu=>?_,by simp⟩,fun w hM=>?_⟩
    ·cases ht:(qbe f g h ms p s d).took with
     | false=>obtain⟨_,e2,_⟩:=h1 ht;rw[e2];exact⟨fun _=>rfl,fun _=>rfl⟩
     | true=>
      obtain⟨_,_,⟨a,ha,_,e3,e4⟩,_⟩:=h2 ht
      rw[e3]
      unfold upd
      refine⟨fun hne=>by rw[if_neg hne],fun h0=>?_⟩
      split
      ·rename_i e
       rcases e4 with e4|e4
       ·rw[←e] at e4;exact absurd e4 h0
       ·rw[e];exact e4.symm
      ·rfl
    ·refine(q6u f g h sl ms p s i d w hM hwH hno hd hP hf hc he).mono ?_
     rintro e w' ⟨v,rfl,hMv,hNv,_,hb⟩
     exact⟨v,rfl,hMv,hNv,hb⟩
theorem qaz.away{os:List Mp}(h:qaz w v (os++[m]))(hb:w.heap.size<=b):mb v≠b:=Nat.ne_of_lt (Nat.lt_of_lt_of_le (h.lt zm) hb)
theorem qy1b:prog.built 30 []=some (tc (fun _=>0) (fun _=>false) (fun _=>0) (.slice none 0 0)):=by kernel_rfl
theorem qytb(hgd:o.guard=none)(ho:o.op=.build 30 #[])(hr:wpList prog ops Q rest (a.put o.dst (.agg (tc (fun _=>0) (fun _=>false) (fun _=>0) (.slice none 0 0)))) w):wpList prog ops Q (o::rest) a w:=
 wpList_plain hgd fun K hK=>by
  have hb:=run_build (P:=prog) w 30 #[] _ qy1b
  unfold Oper.wp execOp
  simp only[ho,List.map_toArray,List.map_nil,Sem.run_bind,hb,Result.andThen_ok,Sem.run_pure]
  exact hK _ _ hr
theorem qyfb:qbq (fun _=>0) (fun _=>0) []:=by
 refine⟨by decide,qvg _ _,fun k _ h=>absurd rfl h,fun k _ h=>absurd rfl h,fun s hs=>⟨?_,by simp[cntM]⟩⟩
 have:qbk (fun _=>0) (s:Int)=[]:=by
  rw[List.eq_nil_iff_forall_not_mem];intro n hn;have:=(qjt _ _ _).1 hn;omega
 rw[this];simp
def zr:qzo:=qbe (fun _=>0) (fun _=>false) (fun _=>0) [] 17 3 0
theorem zr_e:zr.e=0:=by decide
theorem zr_q:zr.q=1024:=by decide
theorem zr_t:zr.took=true:=by decide
theorem zr_h:zr.h 3=1:=by decide
theorem qyib(w:World):Calls prog 24 #[] w fun e w'=>e=.returned (.bool true)/\Below w.heap.size w w':=by
 refine m1g ?_;intro hB hP hok CO hG hwR q1 q2 q3
 unfold zr at q1 q2 q3
 generalize qbe (fun _=>0) (fun _=>false) (fun _=>0) [] 17 3 0=r at *
 obtain⟨rf,rh,rq,rt,re⟩:=r
 simp only at q1 q2 q3 CO hG hwR
 subst q1
 subst q2
 have HG:Hid (qbq rf rh ([]++[(17,3,99,rh (3:Int).toNat-1,1024)])):=hG
 unfold qpm at CO
 obtain⟨ra,hra⟩:∃ra,ra=rh (3:Int).toNat-1:=⟨_,rfl⟩
 rw[←hra] at CO HG
 clear hP hok hG hra
 go_enter func24,ntmps24
 go_wp2_with (first|(refine qytb rfl rfl ?_)|(go_at_call 19;go_fit (CO _);rintro e w5 ⟨v,rfl,hMv,hNv,hbv,hb5⟩;clear hNv hbv;refine m40 ?_;clear hB;intro hB;(obtain⟨av,cv,hv,-⟩:=id hMv);(generalize([]++[((17,3,99,ra,1024):Mp)]).length=ln at hv);subst hv;have hltv:=hMv.lt)|(refine ax 1 30 qb8 ?_;intro b1 w2 l1 R1 hb2;have hM2:=hMv.below hb2;have x1:=hMv.away l1;replace l1:=Nat.le_trans hB.size l1;replace hB:=hB.trans (hb2.mono hB.size))|(refine ax 2 32 qa4 ?_;intro b2 w3 l2 R2 hb3;have n12:=R1.ne l2;have x2:=hM2.away l2;replace hM2:=hM2.below hb3;replace l2:=Nat.le_trans hB.size l2;replace R1:=R1.below hb3;replace hB:=hB.trans (hb3.mono hB.size))|(refine qab 30 rfl (.tmp 1) _ rfl b1 rfl (tc rf (fun _=>false) rh (.slice av ln cv)) rfl _ R1 (qen _ _ _ _ _ _ _ _) (qaq _ _ _ _) (qbm _ _ _ _ _ _) ?_;intro w6 R1 t6;replace R2:=t6.row R2 n12.symm;replace hM2:=qmo hM2 x1 t6;replace hB:=t6.below _ _ l1 hB)|(refine m3h ?_;clear R1 hM2 hB;intro w7 R2 t7 R1 hM2 hB c2 c1)|(refine qac 30 (.tmp 1) rfl ?_ b1 rfl (tc rf (fun _=>false) rh (.slice av ln cv)) R1 _ underlying30 rfl (qaq _ _ _ _) ?_;· rfl)|(go_at_call 16;go_fit (qf8 rf (fun _=>false) rh (.slice av ln cv) _ hwR _ hM2);rintro e w8 ⟨r,hr,rfl,hb8⟩;obtain rfl:r=true:=hr.2 HG.out;clear hr;replace hB:=hB.trans (hb8.mono hB.size)))
 go_ret
 exact⟨rfl,hB⟩
theorem qbeb(hp:ms.Pairwise (fun o m=>qc0 [o] m=false))(hm:m∈ms):ms.find? (outS m.1 m.2.2.2.1 m.2.2.2.2)=some m:=by
 induction ms with
 | nil=>simp at hm
 | cons o r ih=>
  rw[List.pairwise_cons] at hp
  by_cases e:o=m
  ·subst e
   have:outS o.1 o.2.2.2.1 o.2.2.2.2 o=true:=(qup _ _ _ _).2 ⟨rfl,rfl,rfl⟩
   rw[List.find?_cons_of_pos this]
  ·have hm':m∈r:=by
    exact sZbd43
   have h1:=hp.1 m hm'
   have h2:outS m.1 m.2.2.2.1 m.2.2.2.2 o=false:=by
    simp only[qc0,List.any_cons,List.any_nil,Bool.or_false,Bool.or_eq_false_iff] at h1
    exact h1.2
   rw[List.find?_cons_of_neg (by rw[h2];simp)]
   exact ih hp.2 hm'
structure qzbb(f h:Nat->Int)(g:Nat->Bool)(p s i:Int)(f' h':Nat->Int)(ms':List Mp)(m:Mp)(took:Bool):Prop where
 good:qbq f' h' ms'
 find:ms'.find? (inS p s i)=some m
 back:ms'.find? (outS p m.2.2.2.1 m.2.2.2.2)=some m
 addr:0<=m.2.2.2.1/\m.2.2.2.1<3
 again:qjy f' h' ms' p s i
 fresh:took=true->g m.2.2.2.1.toNat=false
theorem qzib(f:Nat->Int)(g:Nat->Bool)(h:Nat->Int)(sl:Value)(ms:List Mp)(p s i d:Int)(hwH:wfH h)(hno:qcs sl)(hd:(Lit.int .i64 d).wf=true):
  (∃E:Int,E≠0/\∀w:World,qaz w sl ms->Calls prog 19 #[.agg (tc f g h sl),.int .i64 p,.int .i64 s,.int .i64 i,.int .i64 d] w fun e w'=>e=.returned (qpm f g h sl noM false E)/\Below w.heap.size w w')\/
  (∃(f' h':Nat->Int) (ms':List Mp) (m:Mp) (took:Bool),qzbb f h g p s i f' h' ms' m took/\∀w:World,qaz w sl ms->Calls prog 19 #[.agg (tc f g h sl),.int .i64 p,.int .i64 s,.int .i64 i,.int .i64 d] w fun e w'=>∃v,e=.returned (qpm f' g h' v m took 0)/\qaz w' v ms'/\qcs v/\(v=sl\/w.heap.size<=mb v)/\Below w.heap.size w w'):=by
 by_cases hP:qjy f h ms p s i
 rotate_left
 ·exact .inl ⟨2,by omega,fun w hM=>q6m f g h sl ms p s i d w hM hwH hP⟩
 have G:=hP.1;have hs:=hP.2.2.1
 have mk:∀ {f' h':Nat->Int} {ms':List Mp} {m:Mp} {took:Bool},qbq f' h' ms'->m∈ms'->m.1=p->m.2.1=s->m.2.2.1=i->(took=true->g m.2.2.2.1.toNat=false)->qzbb f h g p s i f' h' ms' m took:=by
  intro f' h' ms' m took G' hm e1 e2 e3 hfr;have st:=G'.maps.1 m hm
  refine⟨G',?_,?_,st.2.2.2.2.1,⟨G',hP.2⟩,hfr⟩
  ·have:=q35 G'.maps.2 hm;rw[e1,e2,e3] at this;exact this
  ·have:=qbeb G'.maps.2 hm;rw[e1] at this;exact this
 cases hf:ms.find? (inS p s i) with
 | some m=>
  have hm:=List.mem_of_find?_eq_some hf;have hi:=(qsm _ _ _ _).1 (List.find?_some hf)
  refine .inr ⟨f,h,ms,m,false,mk G hm hi.1 hi.2.1 hi.2.2 (fun h=>by cases h),fun w hM=>?_⟩
  refine(q0s f g h sl ms p s i d w hM hwH hP m hf).mono ?_;rintro e w' ⟨rfl,hb⟩
  exact⟨sl,rfl,hM.below hb,hno,.inl rfl,hb⟩
 | none=>
  by_cases hc:cntM ms s=12
  ·exact .inl ⟨6,by omega,fun w hM=>q2q f g h sl ms p s i d w hM hwH hP hf hc⟩
  ·by_cases he:(qbe f g h ms p s d).e=0
   rotate_left
   ·exact .inl ⟨_,he,fun w hM=>q4y f g h sl ms p s i d w hM hwH hd hP hf hc he⟩
   ·refine m42 ?_;intro hany;obtain⟨hG,h1,h2⟩:=qya (g:=g) (d:=d) G hP.2.1 hs ⟨hP.2.2.2.1,hP.2.2.2.2⟩ hany hc he
    refine .inr ⟨(qbe f g h ms p s d).f,(qbe f g h ms p s d).h,ms++[(p,s,i,(qbe f g h ms p s d).h s.toNat-1,(qbe f g h ms p s d).q)],(p,s,i,(qbe f g h ms p s d).h s.toNat-1,(qbe f g h ms p s d).q),(qbe f g h ms p s d).took,mk hG zm rfl rfl rfl (fun ht=>?_),fun w hM=>?_⟩
    ·obtain⟨_,_,⟨a,ha,hga,e3,_⟩,_⟩:=h2 ht
     (have e4:(qbe f g h ms p s d).h s.toNat=a+1:=by rw[e3];unfold upd;rw[if_pos rfl])
     show g ((qbe f g h ms p s d).h s.toNat-1).toNat=false
     (rw[e4,show a+1-1=a by omega])
     exact hga
    ·refine(q6u f g h sl ms p s i d w hM hwH hno hd hP hf hc he).mono ?_
     rintro e w' ⟨v,rfl,hMv,hNv,hle,hb⟩
     exact⟨v,rfl,hMv,hNv,.inr hle,hb⟩
theorem qcl(h:qaz w v ms)(hne:0<ms.length->mb v≠b)(t:qbl b w w'):qaz w' v ms:=by
 obtain⟨a,cap,e,h1,h2,h3⟩:=h
 refine⟨a,cap,e,h1,fun j hj i u hu=>?_,h3⟩
 have:=h2 j hj i u hu
 unfold World.cell? at *
 rw[t.other _ (hne om)]
 exact this
theorem qaz.away3(h:qaz w v ms)(hb:w.heap.size<=b):0<ms.length->mb v≠b:=fun hl=>Nat.ne_of_lt (Nat.lt_of_lt_of_le (h.lt hl) hb)
theorem qaa(p:Op)(ho:o.op=p)(h:wpList prog ops Q (o::rest) a w):wpList prog ops Q (o::rest) a w:=h
theorem q5i(h:wpList prog ops Q (o::rest) a w):wpList prog ops Q (o::rest) a w:=h
theorem qrb(h:w.ownsRow base e size v n xs)(hb:Below w.heap.size w w'):w'.ownsRow base e size v n xs:=by
 refine⟨h.1,?_⟩
 rcases h.2 with e|⟨b,cap,cur,hv,hbb,hh,r⟩
 ·exact .inl e
 ·exact .inr ⟨b,cap,cur,hv,hbb,(hb.block b (Array.getElem?_eq_some_iff.1 hh).1).trans hh,r⟩
theorem qpt(h:w.ownsRow base e size v n xs)(t:qbl b7 w w')(hn:v.ownBlock≠some b7):w'.ownsRow base e size v n xs:=by
 refine⟨h.1,?_⟩
 rcases h.2 with e|⟨b,cap,cur,hv,hbb,hh,r⟩
 ·exact .inl e
 ·exact .inr ⟨b,cap,cur,hv,hbb,(t.other b (fun e=>hn (by rw[hv,e];rfl))).trans hh,r⟩
theorem qs6(h:w.ownsRow base e size v n xs)(hb:w.heap.size<=b7):v.ownBlock≠some b7:=by
 rcases h.2 with⟨e,_⟩|⟨b,cap,cur,hv,hbb,hh,r⟩
 ·rw[e];simp[Value.ownBlock]
 ·rw[hv];intro e;have e':b=b7:=Option.some.inj e
  have:=(Array.getElem?_eq_some_iff.1 hh).1
  omega
theorem q0k{cs:Array Value}(R:Row t w b cs)(hne:v.ownBlock≠some b)(hg:w.grownBy w' v.ownBlock):Row t w' b cs:=(hg.block b R.lt (fun e=>hne e.symm)).trans R
theorem qzu{o:Mp}(hlj:j<ms.length)(hm:ms[j]=o):qa6 (ms.take (j+1)) m=qa6 (ms.take j) m++if o=m then [] else [o]:=by
 unfold qa6;rw[qic hlj hm,List.filter_append]
 by_cases e:o=m
 ·simp[e]
 ·simp[e]
theorem q5x(ms:List Mp)(m:Mp)(j:Nat):(qa6 (ms.take j) m).length<=ms.length:=by
 unfold qa6;exact Nat.le_trans (List.length_filter_le _ _) (by rw[List.length_take];omega)
theorem qer(a b:Int):(prog.info? 67).map (·.size)=some (ic2 a b).size:=by kernel_rfl
theorem qlf(a b:Int):(ic2 a b).all (·.oneCell')=true:=by kernel_rfl
def qfr(ms:List Mp)(a b:Int):Bool:=ms.any fun o=>inP o&&(plA o==a&&plB o==b)
theorem q3j{a b:Int}{o:Mp}(hlj:j<ms.length)(hm:ms[j]=o)(h1:inP o=true)(h2:(plA o==a&&plB o==b)=true):qfr ms a b=true:=by
 unfold qfr;rw[List.any_eq_true];exact⟨o,hm▸List.getElem_mem hlj,by rw[h1,h2];rfl⟩
theorem qp5{a b:Int}{o:Mp}(hno:qfr (ms.take j) a b=false)(hlj:j<ms.length)(hm:ms[j]=o)(h:(inP o&&(plA o==a&&plB o==b))=false):qfr (ms.take (j+1)) a b=false:=by
 unfold qfr at *;rw[qic hlj hm,List.any_append,hno];simp[h]
theorem sZbd42(h:p:=by
 go_roundw
 case rel=>first|exact⟨j+1,by omega,by go_num,HF.out,hB,R3⟩|((repeat apply Exists.intro);exact⟨⟨j+1,by omega,by go_num,HF.out,hB,R3⟩,rfl⟩)
 case measure=>(first|rw[hjw]|skip);exact qek (HN.out.symm▸hlj)):p:=h
theorem qoa(sl:Value)(ms:List Mp)(x y:Int)(w:World)(hM:qaz w sl ms):
  Calls prog 48 #[sl,.agg (ic2 x y)] w fun e w'=>e=.returned (.bool (qfr ms x y))/\Below w.heap.size w w':=by
 refine m1t ?_;intro hB hM0
 obtain⟨a0,cap,hsl,-⟩:=hM0
 obtain⟨n,hn⟩:∃n,n=ms.length:=⟨_,rfl⟩
 rw[←hn] at hsl
 subst hsl
 refine m2d ?_;clear hn;intro HN hlt
 go_enter func48,ntmps48
 go_wp2_with ((with_reducible refine gB 67 1 ?_);refine bx 67 _ _ ?_;intro b3 w1 l3 R3 hb1;replace hB:=hB.trans (hb1.mono hB.size))
 go_loopw [11] (fun i W=>∃j:Nat,j<=ms.length/\i=I Z j/\qfr (ms.take j) x y=false/\Below w.heap.size w W/\Row 67 W b3 (ic2 x y)) (fun i _=>n-(intOf i).toNat)
 case atStart=>exact⟨0,by omega,rfl,by simp[qfr],hB,R3⟩
 case round=>
  clear hB R3 hb1
  obtain⟨j,hj,rfl,hno,hB,R3⟩:=hrel
  by_cases hlj:j<ms.length
  ·refine m0h ?_;intro hjn hjw
   obtain⟨o,hm⟩:∃o,ms[j]=o:=⟨_,rfl⟩
   refine m59 ?_;intro hMW hrg;(have CPl:=fun w=>qgp o w)
   cases hin:inP o with
   | false=>
    simp only[hin] at CPl
    have HF:Hid (qfr (ms.take (j+1)) x y=false):=qp5 hno hlj hm (by rw[hin];rfl);clear hno hm hin
    go_wp2_with (first|((with_reducible refine qaa (.indexAddr 28 (.tmp 9) (.tmp 11)) rfl ?_);refine m54 ?_)|((with_reducible refine gL 32 13 ?_);refine m3b ?_)|((with_reducible refine gA 32 ?_);refine ax 6 32 qa4 ?_;intro b6 w3 l6 R6 hb3;have n36:=R3.ne l6;refine m32 ?_;clear l6 R3 hB;intro l6 R3 hB)|((with_reducible refine gS 32 6 14 ?_);refine sx 32 (.tmp 6) _ (mc o) R6 ?_;intro w4 R6 t4;replace R3:=t4.row R3 n36;replace hB:=t4.below _ _ l6 hB)|((with_reducible refine gL 32 6 ?_);refine lx 32 (.tmp 6) (mc o) R6 ?_)|(go_at_call 35;go_fit (CPl _);rintro e w5 ⟨rfl,hb5⟩;clear R6;replace R3:=R3.below hb5;refine m40 ?_;clear hB;intro hB)|((with_reducible refine gA 67 ?_);refine m49 ?_;clear R3 hB;intro b7 w6 R7 hb6 n37 l7 R3 hB)|((with_reducible refine gS 67 7 18 ?_);refine m5q ?_;clear R3 hB;intro w8 R7 t8 R3 hB))
    exact sZbd42
   | true=>
    simp only[hin] at CPl
    cases dE:(plA o==x&&plB o==y) with
    | true=>
     have HF:Hid (qfr ms x y=true):=q3j hlj hm hin dE;clear hno hm hin
     go_wp2_with (first|((with_reducible refine qaa (.indexAddr 28 (.tmp 9) (.tmp 11)) rfl ?_);refine m54 ?_)|((with_reducible refine gL 32 13 ?_);refine m3b ?_)|((with_reducible refine gA 32 ?_);refine ax 6 32 qa4 ?_;intro b6 w3 l6 R6 hb3;have n36:=R3.ne l6;refine m32 ?_;clear l6 R3 hB;intro l6 R3 hB)|((with_reducible refine gS 32 6 14 ?_);refine sx 32 (.tmp 6) _ (mc o) R6 ?_;intro w4 R6 t4;replace R3:=t4.row R3 n36;replace hB:=t4.below _ _ l6 hB)|((with_reducible refine gL 32 6 ?_);refine lx 32 (.tmp 6) (mc o) R6 ?_)|(go_at_call 35;go_fit (CPl _);rintro e w5 ⟨rfl,hb5⟩;clear R6;replace R3:=R3.below hb5;refine m40 ?_;clear hB;intro hB)|((with_reducible refine gA 67 ?_);refine m49 ?_;clear R3 hB;intro b7 w6 R7 hb6 n37 l7 R3 hB)|((with_reducible refine gS 67 7 18 ?_);refine m5q ?_;clear R3 hB;intro w8 R7 t8 R3 hB)|((with_reducible refine gL 67 7 ?_);refine qac 67 (.tmp 7) rfl ?_ b7 rfl (ic2 (plA o) (plB o)) R7 _ underlying67 rfl (qer _ _) ?_;· kernel_rfl)|((with_reducible refine gL 67 3 ?_);refine qac 67 (.tmp 3) rfl ?_ b3 rfl (ic2 x y) R3 _ underlying67 rfl (qer _ _) ?_;· kernel_rfl;(try dsimp only[Act.put]);(try simp only[List.setIfInBounds_toArray,List.set_cons_zero,List.set_cons_succ]))|((with_reducible refine qaa (.binOp .eql 67 (.tmp 22) (.tmp 23) 67) rfl ?_);refine qb1 67 (.tmp 22) (.tmp 23) rfl ?_ (ic2 (plA o) (plB o)) (ic2 x y) kr kr eqGuardType67 _ _ (quq (plA o) (plB o) x y _) dE ?_;· kernel_rfl))
     go_ret
     exact⟨by rw[HF.out];rfl,hB⟩
    | false=>
     have HF:Hid (qfr (ms.take (j+1)) x y=false):=qp5 hno hlj hm (by rw[hin,dE];rfl);clear hno hm hin
     go_wp2_with (first|((with_reducible refine qaa (.indexAddr 28 (.tmp 9) (.tmp 11)) rfl ?_);refine m54 ?_)|((with_reducible refine gL 32 13 ?_);refine m3b ?_)|((with_reducible refine gA 32 ?_);refine ax 6 32 qa4 ?_;intro b6 w3 l6 R6 hb3;have n36:=R3.ne l6;refine m32 ?_;clear l6 R3 hB;intro l6 R3 hB)|((with_reducible refine gS 32 6 14 ?_);refine sx 32 (.tmp 6) _ (mc o) R6 ?_;intro w4 R6 t4;replace R3:=t4.row R3 n36;replace hB:=t4.below _ _ l6 hB)|((with_reducible refine gL 32 6 ?_);refine lx 32 (.tmp 6) (mc o) R6 ?_)|(go_at_call 35;go_fit (CPl _);rintro e w5 ⟨rfl,hb5⟩;clear R6;replace R3:=R3.below hb5;refine m40 ?_;clear hB;intro hB)|((with_reducible refine gA 67 ?_);refine m49 ?_;clear R3 hB;intro b7 w6 R7 hb6 n37 l7 R3 hB)|((with_reducible refine gS 67 7 18 ?_);refine m5q ?_;clear R3 hB;intro w8 R7 t8 R3 hB)|((with_reducible refine gL 67 7 ?_);refine qac 67 (.tmp 7) rfl ?_ b7 rfl (ic2 (plA o) (plB o)) R7 _ underlying67 rfl (qer _ _) ?_;· kernel_rfl)|((with_reducible refine gL 67 3 ?_);refine qac 67 (.tmp 3) rfl ?_ b3 rfl (ic2 x y) R3 _ underlying67 rfl (qer _ _) ?_;· kernel_rfl;(try dsimp only[Act.put]);(try simp only[List.setIfInBounds_toArray,List.set_cons_zero,List.set_cons_succ]))|((with_reducible refine qaa (.binOp .eql 67 (.tmp 22) (.tmp 23) 67) rfl ?_);refine qb1 67 (.tmp 22) (.tmp 23) rfl ?_ (ic2 (plA o) (plB o)) (ic2 x y) kr kr eqGuardType67 _ _ (quq (plA o) (plB o) x y _) dE ?_;· kernel_rfl))
     exact sZbd42
  ·(have e:j=ms.length:=by omega);refine m3r ?_;intro hjn
   rw[e,List.take_length] at hno
   have HF:Hid (qfr ms x y=false):=hno;clear e hj hlj hno
   go_wp2
   go_ret
   exact⟨by rw[HF.out];rfl,hB⟩
theorem qmn(sl:Value)(ms:List Mp)(m:Mp)(w:World)(hM:qaz w sl ms)(hl:ms.length<=1000):
  Calls prog 47 #[sl,.agg (mc m)] w fun e w'=>∃v,e=.returned v/\qaz w' v (qa6 ms m)/\qcs v/\(0<(qa6 ms m).length->w.heap.size<=mb v)/\Below w.heap.size w w':=by
 refine m1t ?_;intro hB hM0
 obtain⟨a0,cap,hsl,-⟩:=hM0
 obtain⟨n,hn⟩:∃n,n=ms.length:=⟨_,rfl⟩
 rw[←hn] at hsl
 subst hsl
 refine m2d ?_;clear hn;intro HN hlt;obtain⟨i0,hi,hz0,hz1,hz2⟩:=info_parts qnm
 go_enter func47,ntmps47
 go_wp2_with (refine m62 ?_;intro b3 w1 l3 R3 hb1;replace l3:=Nat.le_trans hB.size l3;replace hB:=hB.trans (hb1.mono hB.size))
 go_loopw [5,10] (fun v i W=>∃(j:Nat) (ao:Option Addr) (cv:Nat),j<=ms.length/\i=I Z j/\v=.slice ao (qa6 (ms.take j) m).length cv/\W.ownsRow w.heap.size 32 5 v (qa6 (ms.take j) m).length (flat (qa6 (ms.take j) m))/\v.ownBlock≠some b3/\Below w.heap.size w W/\Row 32 W b3 (mc m)) (fun _ i _=>n-(intOf i).toNat)
 case atStart=>exact⟨0,none,0,by omega,rfl,by simp[qa6],by simpa[qa6,flat] using World.ownsRow_nil _ _ _ _,by simp[Value.ownBlock],hB,R3⟩
 case round=>
  clear hB R3 hb1
  obtain⟨j,ao,cv,hj,rfl,hv,hown,hn3,hB,R3⟩:=hrel
  have hdl:=q5x ms m j
  by_cases hlj:j<ms.length
  ·refine m0h ?_;intro hjn hjw
   obtain⟨o,hm⟩:∃o,ms[j]=o:=⟨_,rfl⟩
   refine m59 ?_;intro hMW hrg;have hst:=qzu (m:=m) hlj hm
   obtain⟨D,hD⟩:∃D,D=qa6 (ms.take j) m:=⟨_,rfl⟩
   rw[←hD] at hown hst hdl hv
   obtain⟨dl,hdl0⟩:∃dl,Hid (dl=D.length):=⟨_,rfl⟩
   rw[←hdl0.out] at hown hdl hv
   subst hv
   by_cases hom:o=m
   ·rw[if_pos hom,List.append_nil] at hst
    have HS:Hid (qa6 (ms.take (j+1)) m=D):=hst;(have dz:(!(o==m))=false:=by simp[hom]);clear hst hom hD
    go_wp2_with (first|((with_reducible refine qaa (.indexAddr 28 (.tmp 8) (.tmp 10)) rfl ?_);refine qb5 rfl (.tmp 8) (.tmp 10) rfl (.slice a0 n cap) ms hMW rfl j rfl hlj ?_)|((with_reducible refine gL 32 12 ?_);refine m6g ?_)|((with_reducible refine gA 32 ?_);refine ax 7 32 qa4 ?_;intro b7 w3 l7 R7 hb3;have n37:=R3.ne l7;have n7:=qs6 hown l7;replace l7:=Nat.le_trans hB.size l7;replace hown:=qrb hown hb3;replace R3:=R3.below hb3;replace hB:=hB.trans (hb3.mono hB.size))|((with_reducible refine gS 32 7 13 ?_);refine sx 32 (.tmp 7) _ (mc o) R7 ?_;intro w4 R7 t4;replace R3:=t4.row R3 n37;replace hown:=qpt hown t4 n7;replace hB:=t4.below _ _ l7 hB)|((with_reducible refine gL 32 7 ?_);refine lx 32 (.tmp 7) (mc o) R7 ?_)|((with_reducible refine gL 32 3 ?_);refine m5l ?_)|((with_reducible refine qaa (.binOp .neq 32 (.tmp 14) (.tmp 15) 32) rfl ?_);refine m6j ?_))
    go_roundw
    case rel=>
     first
      | exact⟨j+1,ao,cv,by omega,by go_num,by rw[HS.out,←hdl0.out],by rw[HS.out,←hdl0.out];exact hown,hn3,hB,R3⟩
      | ((repeat apply Exists.intro);exact⟨⟨j+1,ao,cv,by omega,by go_num,by rw[HS.out,←hdl0.out],by rw[HS.out,←hdl0.out];exact hown,hn3,hB,R3⟩,rfl⟩)
    case measure=>(first|rw[hjw]|skip);exact qek (HN.out.symm▸hlj)
   ·rw[if_neg hom] at hst
    have HS:Hid (qa6 (ms.take (j+1)) m=D++[o]):=hst;(have dz:(!(o==m))=true:=by simp[hom]);clear hst hom hD
    go_wp2_with (first|((with_reducible refine qaa (.indexAddr 28 (.tmp 8) (.tmp 10)) rfl ?_);refine qb5 rfl (.tmp 8) (.tmp 10) rfl (.slice a0 n cap) ms hMW rfl j rfl hlj ?_)|((with_reducible refine gL 32 12 ?_);refine m6g ?_)|((with_reducible refine gA 32 ?_);refine ax 7 32 qa4 ?_;intro b7 w3 l7 R7 hb3;have n37:=R3.ne l7;have n7:=qs6 hown l7;replace l7:=Nat.le_trans hB.size l7;replace hown:=qrb hown hb3;replace R3:=R3.below hb3;replace hB:=hB.trans (hb3.mono hB.size))|((with_reducible refine gS 32 7 13 ?_);refine sx 32 (.tmp 7) _ (mc o) R7 ?_;intro w4 R7 t4;replace R3:=t4.row R3 n37;replace hown:=qpt hown t4 n7;replace hB:=t4.below _ _ l7 hB)|((with_reducible refine gL 32 7 ?_);refine lx 32 (.tmp 7) (mc o) R7 ?_)|((with_reducible refine gL 32 3 ?_);refine m5l ?_)|((with_reducible refine qaa (.binOp .neq 32 (.tmp 14) (.tmp 15) 32) rfl ?_);refine m6j ?_)|((with_reducible refine q5i ?_);refine qkl rfl (.tmp 18) rfl o rfl ?_)|((with_reducible refine qaa (.call { callee:=.builtin .append,args:=#[.tmp 17,.tmp 19],argTypes:=#[28,28] }) rfl ?_);refine wpList_append_own_at _ rfl (.tmp 17) (.tmp 19) 28 rfl w.heap.size 32 i0 (.agg (mc noM)) 5 40 underlying28 hi hz0 hz1 hz2 rfl (by decide) (.slice ao dl cv) dl (flat D) kr (hown.alloc _) ⟨_,0,none⟩ 1 1 (mcl o) rfl rfl (qql _ _ _) (qmp o) (by unfold maxLen;omega) om (by have:=hB.size;simp;omega) ?_;intro v4 w8 hown4 hg4 hn4 hloc;clear hn4;have hR3:=R3.alloc (.cells (mc o) 32);replace R3:=q0k hR3 hn3 hg4;have hn4:v4.ownBlock≠some b3:=(by rcases hloc with h|h;(rw[h];exact hn3);(rw[h];intro h2;have:=hR3.lt;have:=Option.some.inj h2;omega));clear hloc;replace hB:=qhq (hown.alloc _) (hB.alloc hB.size _) (by have:=hB.size;simp;omega) hg4;obtain⟨a4,c4,rfl⟩:=qkx hown4))
    go_roundw
    case rel=>
     (have hf:flat (D++[o])=flat D++mcl o:=by rw[qvh,qtx]);(have hl2:(D++[o]).length=dl+1:=by rw[List.length_append,←hdl0.out];rfl)
     first
      | exact⟨j+1,a4,c4,by omega,by go_num,by rw[HS.out,hl2],by rw[HS.out,hl2,hf];exact hown4,hn4,hB,R3⟩
      | ((repeat apply Exists.intro);exact⟨⟨j+1,a4,c4,by omega,by go_num,by rw[HS.out,hl2],by rw[HS.out,hl2,hf];exact hown4,hn4,hB,R3⟩,rfl⟩)
    case measure=>(first|rw[hjw]|skip);exact qek (HN.out.symm▸hlj)
  ·(have e:j=ms.length:=by omega);refine m3r ?_;intro hjn
   rw[e,List.take_length] at hown hv
   have hf:=qqm hown (by have:=hdl;rw[e,List.take_length] at this;omega);clear e hj hlj hown hdl
   subst hv
   go_wp2
   go_ret
   exact⟨_,rfl,hf.1,hf.2.1,hf.2.2,hB⟩
end Go.Proofs.Ytbboabfmoahipaa
