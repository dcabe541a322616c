/-
  Of what a law stands on.
-/
import Derived.Test.YtbboabfmoahipaaZbd10
set_option linter.unusedSimpArgs false
set_option linter.unusedVariables false
namespace Go.Proofs.Ytbboabfmoahipaa
open Go.Value renaming int → I,pointer → V
open Go.IntKind renaming i64 → Z
open _root_.Go.Proofs.Try Go.ChangeShapes Go.WideShapes Go.ChangeAt Go.RowKit
set_option maxHeartbeats 16000000
set_option maxRecDepth 100000
variable {w w':World}{f h:Nat->Int}{g:Nat->Bool}{ms:List Mp}{d i p s:Int}{aN:Nat}{sl:Value}
theorem qq6b{wr:World}{b5 b10 b11 b14 b15 b21:Nat}{a0 av:Option Addr}{n cap cv:Nat}(j c:Nat)(X:Int)(mx:Mp)(B:Bo w wr [(b21,30,tc f g h (.slice av n cv)),(b15,32,mc noM),(b14,32,mc noM),(b11,32,mc noM),(b10,30,tc (fun _=>0) (fun _=>false) (fun _=>0) (.slice none 0 0)),(b5,30,tc f g h (.slice a0 n cap))] (.slice av n cv) ms)(HN:Hid (n=ms.length))(hM:qaz w (.slice a0 n cap) ms)(hj48:j<48)(ha3:aN<3)(hs:0<=s/\s<8)(hc:c<=48)(HX:Hid (f (6*aN+j/8)=X))(cx:(X != s+1)=false)(c0:((((j%8:Nat)):Int)==0)=false)(CK:∀w,qaz w (.slice a0 n cap) ms->Calls prog 13 #[.agg (tc f g h (.slice a0 n cap)),I Z p,I Z (aN:Int),I Z (1024+(j:Int))] w fun e w'=>e=.returned (.tuple #[.agg (mc mx),.bool false])/\Below w.heap.size w w')(hlm:ms.length<=1000)(R:Ending->World->Prop)(hR:∀v w',qaz w' v (ms++[(p,s,i,(aN:Int),1024+(j:Int))])->w.heap.size<=mb v->Below w.heap.size w w'->R (.returned (.tuple #[.agg (tc f g h v),.agg (mc (p,s,i,(aN:Int),1024+(j:Int))),.bool false,I Z 0])) w')(Q0:Exit->Act->World->Prop)(hret:∀a w',bodyPost prog f20 R .ret a w'->Q0 .ret a w'):
  stO2 w wr f g h ms p s i d b5 b10 b11 b14 b15 b21 aN a0 av n cap cv j c Q0:=by
 unfold stO2;intros
 conv=>arg 2;whnf
 refine m0a ?_;intro hlt hp1 ha0 hjw hlw hsw CB H18 HJ I3 I6
 simp only[Nat.zero_add] at I3
 obtain⟨i0,hi,hz0,hz1,hz2⟩:=info_parts qnm;have HLM:Hid (ms.length<=1000):=hlm;have HL2:Hid ((ms++[(p,s,i,(aN:Int),1024+(j:Int))]).length<=140737488355328):=hidB (by rw[List.length_append];simp;omega);clear hlm;clear hc hs ha3
 go_upto_region 29 with(first|(go_at_call 15;go_fit (CB _);refine m2v ?_)|((with_reducible refine gL 3 117 ?_);refine m25 ?_)|((with_reducible refine gL 30 5 ?_);refine m2m ?_)|(go_at_call 13;go_fit (CK _ (hM.keep B.base hlt));refine m0w ?_;clear B;intro w5 B)|((with_reducible refine gA 32 ?_);refine m51 ?_;clear B;intro b27 w9 B)|((with_reducible refine gS 32 27 132 ?_);refine m4x ?_;refine m09 ?_;clear B;intro w9 B)|((with_reducible refine qaa (.build 32 #[(0,.tmp 136),(1,.tmp 137),(2,.tmp 138),(3,.tmp 139),(4,.tmp 140)]) rfl ?_);refine m5w ?_)|((with_reducible refine gA 32 ?_);refine ax 29 32 qa4 ?_;intro b29 w9 l9 R9 h9;replace B:=B.alloc l9 R9 h9;clear R9 h9 l9)|((with_reducible refine gS 32 29 141 ?_);refine sx 32 (.tmp 29) _ (mc (p,s,i,(aN:Int),1024+(j:Int))) (B.row 0 rfl) ?_;refine m09 ?_;clear B;intro w9 B;refine m30 ?_;intro cM)|((with_reducible refine gL 32 29 ?_);refine lx 32 (.tmp 29) (mc (p,s,i,(aN:Int),1024+(j:Int))) (B.row 0 rfl) ?_)|((with_reducible refine q5i ?_);refine qkl rfl (.tmp 144) rfl (p,s,i,(aN:Int),1024+(j:Int)) rfl ?_)|((with_reducible refine qaa (.call { callee:=.builtin .append,args:=#[.tmp 143,.tmp 145],argTypes:=#[28,28] }) rfl ?_);refine m1a ?_;clear cM B;intro v4 w8 hown4 B;obtain⟨a4,c4,rfl⟩:=qkx hown4;clear hown4)|((with_reducible refine gS 28 147 146 ?_);refine m6c ?_;refine m5g ?_;clear B;intro w9 B))
 clear CB CK I3 I6;refine m6o ?_;intro RT RM
 refine RD (fun W=>Row 30 W b21 (tc f g h (.slice a4 (n+1) c4))/\Row 32 W b29 (mc (p,s,i,(aN:Int),1024+(j:Int)))) ⟨RT,RM⟩ (fun _=>?_)
 refine tk 0 (.agg (tc f g h (.slice a4 (n+1) c4))) rfl (yx 30 (.tmp 21) (tc f g h (.slice a4 (n+1) c4)) (fun _ h=>h.1)) ⟨RT,RM⟩ (tk 1 (.agg (mc (p,s,i,(aN:Int),1024+(j:Int)))) rfl (yx 32 (.tmp 29) (mc (p,s,i,(aN:Int),1024+(j:Int))) (fun _ h=>h.2)) ⟨RT,RM⟩ ?_)
 refine m3a ?_
 refine AP (fun K hK=>?_) AZ
 refine m4c ?_;refine m1o ?_;intro w9 R9 t9;replace B:=B.turn 6 rfl R9 t9;clear R9 t9;replace RT:=B.row 2 rfl;replace RM:=B.row 0 rfl
 refine hK.out _ _ ⟨RT,RM⟩ (fun _=>?_)
 clear hK K;(try simp only[ZZ]);refine AR [3] ?_
 refine AP (fun K hK=>?_) AZ
 refine sy 32 (.tmp 11) (.tmp 149) (mc (p,s,i,(aN:Int),1024+(j:Int))) (B.row 5 rfl) ?_;refine m1o ?_;intro w9 R9 t9;replace B:=B.turn 5 rfl R9 t9;clear R9 t9;replace RT:=B.row 2 rfl;replace RM:=B.row 0 rfl
 refine hK.out _ _ ⟨RT,RM⟩ (fun _=>?_)
 clear hK K;(try simp only[ZZ]);refine m4w ?_;refine m2c ?_;clear RT RM
 go_wp2_with fail
 (refine m06 ?_;first|(refine bodyPost_ret (qej (p:=10) (q:=11) (x:=12) (y:=13) rfl _ _ _ _ _ _ rfl rfl (B.row 6 rfl) (B.row 5 rfl) _ _ underlying30 underlying32 rfl rfl (qaq _ _ _ _) (qak _)) rfl (hR _ _ (qqm B.own HL2.out).1 ((qqm B.own HL2.out).2.2 zm) B.base))|(replace B:=B.drew;refine bodyPost_ret (qej (p:=10) (q:=11) (x:=12) (y:=13) rfl _ _ _ _ _ _ rfl rfl (B.row 6 rfl) (B.row 5 rfl) _ _ underlying30 underlying32 rfl rfl (qaq _ _ _ _) (qak _)) rfl (hR _ _ (qqm B.own HL2.out).1 ((qqm B.own HL2.out).2.2 zm) B.base)))
theorem qpcb{j:Nat}(G:qbq f h ms)(hs:0<=s/\s<8)(ha:h s.toNat=(aN:Int)+1)(hf:(List.range 48).find? (okQ f ms p s aN)=some j):qbe f g h ms p s d=⟨f,h,1024+(j:Int),false,0⟩:=by
 (have ha3:aN<3:=by have:=G.homeIn hs;omega);have hu:=qlwb ms p ha3 (s:=s) (fun n hn=>by have:=G.at hs hn;omega)
 rw[hf] at hu
 rw[qq1 hu];have hj:j<48:=List.mem_range.1 (List.mem_of_find?_eq_some hf)
 have:qe5 (6*aN+j/8) (j%8)=1024+(j:Int):=by unfold qe5;omega
 simp only[this]
theorem qpnb(G:qbq f h ms)(hs:0<=s/\s<8)(ha:h s.toNat=(aN:Int)+1)(hf:(List.range 48).find? (okQ f ms p s aN)=none)(h2:hadN f s aN 48=2):qbe f g h ms p s d=⟨f,h,0,false,6⟩:=by
 (have ha3:aN<3:=by have:=G.homeIn hs;omega);(have hall:∀n∈qbk f s,n/6=aN:=fun n hn=>by have:=G.at hs hn;omega);have hu:=qlwb ms p ha3 hall
 rw[hf] at hu
 exact qq6 hu ((qn2b ha3 hall).symm.trans h2)
theorem qotb(G:qbq f h ms)(hs:0<=s/\s<8)(ha:h s.toNat=(aN:Int)+1)(hf:(List.range 48).find? (okQ f ms p s aN)=none)(h2:hadN f s aN 48≠2):
  qbe f g h ms p s d=if qdh f g s (aN:Int)=0 then⟨qi1 f g s (aN:Int) d,upd h s.toNat ((aN:Int)+1),1024+8*(qft f g s (aN:Int) d:Int),true,0⟩ else⟨f,h,0,false,qdh f g s (aN:Int)⟩:=by
 (have ha3:aN<3:=by have:=G.homeIn hs;omega);(have hall:∀n∈qbk f s,n/6=aN:=fun n hn=>by have:=G.at hs hn;omega);have hu:=qlwb ms p ha3 hall
 rw[hf] at hu
 (have h1:(qbk f s).length≠2:=fun e=>h2 ((qn2b ha3 hall).trans e));(have e1:qgv f g h s=0:=by unfold qgv;rw[if_neg om]);(have e2:qdn f g h s d=(aN:Int):=by unfold qdn;rw[if_neg om];omega)
 split
 ·rename_i h3
  have:=quo (d:=d) hu h1 e1 (by rw[e2];exact h3)
  rw[e2] at this;exact this
 ·rename_i h3
  have:=qq2 (d:=d) hu h1 e1 (by rw[e2];exact h3)
  rw[e2] at this;exact this
theorem qplb(G:qbq f h ms)(hs:0<=s/\s<8)(ha:h s.toNat=0):
  qbe f g h ms p s d=if qk1 f g=0 then(if qdh f g s (qkr f g d)=0 then⟨qi1 f g s (qkr f g d) d,upd h s.toNat (qkr f g d+1),1024+8*(qft f g s (qkr f g d) d:Int),true,0⟩ else⟨f,h,0,false,qdh f g s (qkr f g d)⟩) else⟨f,h,0,false,qk1 f g⟩:=by
 have hb:=(G.homeless hs).1 ha;(have hu:qcy ms p (qbk f s)=none:=by rw[hb];rfl);(have h1:(qbk f s).length≠2:=by rw[hb];simp);(have e1:qgv f g h s=qk1 f g:=by unfold qgv;rw[if_pos ha]);(have e2:qdn f g h s d=qkr f g d:=by unfold qdn;rw[if_pos ha])
 split
 ·rename_i h2
  split
  ·rename_i h3
   have:=quo (d:=d) hu h1 (by rw[e1];exact h2) (by rw[e2];exact h3)
   rw[e2] at this;exact this
  ·rename_i h3
   have:=qq2 (d:=d) hu h1 (by rw[e1];exact h2) (by rw[e2];exact h3)
   rw[e2] at this;exact this
 ·rename_i h2
  have:=qrd (d:=d) hu h1 (by rw[e1];exact h2)
  rw[e1] at this;exact this
def qlab(w:World)(f:Nat->Int)(g:Nat->Bool)(h:Nat->Int)(sl:Value)(ms:List Mp)(p s i:Int)(r:qzo)(w':World)(e:Ending):Prop:=
 (r.e≠0->e=.returned (.tuple #[.agg (tc f g h sl),.agg (mc noM),.bool false,I Z r.e]))/\
 (r.e=0->∃v,e=.returned (.tuple #[.agg (tc r.f g r.h v),.agg (mc (p,s,i,r.h s.toNat-1,r.q)),.bool r.took,I Z 0])/\qaz w' v (ms++[(p,s,i,r.h s.toNat-1,r.q)])/\w.heap.size<=mb v)
theorem qkdb{E:Int}{r:qzo}(hr:r=⟨f,h,0,false,E⟩)(he:E≠0):qlab w f g h sl ms p s i r w' (.returned (.tuple #[.agg (tc f g h sl),.agg (mc noM),.bool false,I Z E])):=by
 subst hr;exact⟨fun _=>rfl,fun h=>absurd h he⟩
theorem qk6b{F H:Nat->Int}{v:Value}{A q:Int}{tk:Bool}{r:qzo}(hr:r=⟨F,H,q,tk,0⟩)(hA:H s.toNat-1=A)(hM:qaz w' v (ms++[(p,s,i,A,q)]))(hb:w.heap.size<=mb v):qlab w f g h sl ms p s i r w' (.returned (.tuple #[.agg (tc F g H v),.agg (mc (p,s,i,A,q)),.bool tk,I Z 0])):=by
 subst hr;subst hA;exact⟨fun h=>absurd rfl h,fun _=>⟨v,rfl,hM,hb⟩⟩
theorem qm8b(l:List Nat)(d:Int)(n:Nat)(hn:0<n)(h:∀k∈l,k<n):qep l d<n:=by
 by_cases hl:0<l.length
 ·exact h _ (qiu l d hl)
 ·have:l=[]:=List.eq_nil_of_length_eq_zero om
  subst this;simpa[qep] using hn
theorem qnlb(f:Nat->Int)(g:Nat->Bool)(s a d:Int):qft f g s a d<6:=by
 unfold qft
 split
 ·exact qm8b _ d 6 om (fun k hk=>(qj8 _ k hk).1)
 ·omega
theorem qppb(f:Nat->Int)(g:Nat->Bool)(d:Int):0<=qkr f g d/\qkr f g d<3:=by
 unfold qkr
 split
 ·split
  ·omega
  ·have:=qm8b (qi5 f g) d 3 om (fun k hk=>(qhgb f g k hk).1);omega
 ·omega
theorem sZbd111{p:Prop}(h:p:=by
 have RT:Row 30 _ b5 (tc f g h (.slice a0 n cap)):=B.row 6 rfl;have RM:Row 32 _ b14 (mc noM):=B.row 3 rfl
 refine RD (fun W=>Row 30 W b5 (tc f g h (.slice a0 n cap))/\Row 32 W b14 (mc noM)) ⟨RT,RM⟩ (fun _=>?_)
 refine tk 0 (.agg (tc f g h (.slice a0 n cap))) rfl (yx 30 (.tmp 5) (tc f g h (.slice a0 n cap)) (fun _ h=>h.1)) ⟨RT,RM⟩ (tk 1 (.agg (mc noM)) rfl (yx 32 (.tmp 14) (mc noM) (fun _ h=>h.2)) ⟨RT,RM⟩ (tq 2 (I Z E') rfl ⟨RT,RM⟩ ?_))
 simp only[ZZ];refine AR [3] ?_
 refine AP (fun K hK=>?_) ?_
 ·refine qau 30 (.tmp 10) (.tmp 180) rfl b10 kr (tc f g h (.slice a0 n cap)) kr _ (B.row 5 rfl) (qen _ _ _ _ _ _ _ _) (qaq _ _ _ _) (qbm _ _ _ _ _ _) ?_;refine m1o ?_;intro w9 R9 t9;replace B:=B.turn 5 rfl R9 t9;clear R9 t9;replace RT:=B.row 6 rfl;replace RM:=B.row 3 rfl
  refine hK.out _ _ ⟨RT,RM⟩ (fun _=>?_)
  clear hK K;(try simp only[ZZ]);refine AR [4] ?_
  refine AP (fun K hK=>?_) AZ
  refine sy 32 (.tmp 11) (.tmp 181) (mc noM) (B.row 4 rfl) ?_;refine m1o ?_;intro w9 R9 t9;replace B:=B.turn 4 rfl R9 t9;clear R9 t9;replace RT:=B.row 6 rfl;replace RM:=B.row 3 rfl
  refine hK.out _ _ ⟨RT,RM⟩ (fun _=>?_)
  clear hK K;(try simp only[ZZ]);refine tq 5 (.bool false) rfl ⟨RT,RM⟩ (tq 6 (I Z E') rfl ⟨RT,RM⟩ ?_);refine m2c ?_;clear RT RM
  go_wp2_with fail
  (refine m06 ?_;first|(refine bodyPost_ret (qej (p:=10) (q:=11) (x:=12) (y:=13) rfl _ _ _ _ _ _ rfl rfl (B.row 5 rfl) (B.row 4 rfl) _ _ underlying30 underlying32 rfl rfl (qaq _ _ _ _) (qak _)) rfl ⟨qkdb HRM.out HE0.out,B.base⟩)|(replace B:=B.drew;refine bodyPost_ret (qej (p:=10) (q:=11) (x:=12) (y:=13) rfl _ _ _ _ _ _ rfl rfl (B.row 5 rfl) (B.row 4 rfl) _ _ underlying30 underlying32 rfl rfl (qaq _ _ _ _) (qak _)) rfl ⟨qkdb HRM.out HE0.out,B.base⟩))
 exact AZ):p:=h
theorem sZbd112{p:Prop}(h:p:=by
 refine hK.out _ _ ⟨RT,RM⟩ (fun _=>?_)
 clear hK K;(try simp only[ZZ]);refine tq 4 (.bool true) rfl ⟨RT,RM⟩ (tq 5 (I Z 0) rfl ⟨RT,RM⟩ ?_);refine m2c ?_;clear RT RM
 go_wp2_with fail
 (refine m06 ?_;first|(refine bodyPost_ret (qej (p:=10) (q:=11) (x:=12) (y:=13) rfl _ _ _ _ _ _ rfl rfl (B.row 6 rfl) (B.row 5 rfl) _ _ underlying30 underlying32 rfl rfl (qaq _ _ _ _) (qak _)) rfl ⟨qk6b HRM.out (by simp[upd]) (qqm B.own HL2.out).1 ((qqm B.own HL2.out).2.2 zm),B.base⟩)|(replace B:=B.drew;refine bodyPost_ret (qej (p:=10) (q:=11) (x:=12) (y:=13) rfl _ _ _ _ _ _ rfl rfl (B.row 6 rfl) (B.row 5 rfl) _ _ underlying30 underlying32 rfl rfl (qaq _ _ _ _) (qak _)) rfl ⟨qk6b HRM.out (by simp[upd]) (qqm B.own HL2.out).1 ((qqm B.own HL2.out).2.2 zm),B.base⟩))):p:=h
theorem sZbd113{p:Prop}(h:p:=by
 have hle:=qnkb (ms.take j) (sN:Int);(have hle2:(ms.take j).length<=ms.length:=by rw[List.length_take];omega)
 obtain⟨c,hc⟩:∃c,c=cntM (ms.take j) (sN:Int):=⟨_,rfl⟩
 rw[←hc];(have hc9:c<=1000:=by have:=HL9.out;omega)
 cases g1:(q.2.1==(sN:Int)) with
 | true=>apply qoob j c q B HN hM hlj hm hc hc9 g1 _
 | false=>apply qokb j c q B HN hM hlj hm hc hc9 g1 _):p:=h
theorem qmqb(f:Nat->Int)(g:Nat->Bool)(h:Nat->Int)(sl:Value)(ms:List Mp)(p s i d:Int)(hwH:wfH h)(hno:qcs sl)(hd:(Lit.int .i64 d).wf=true)(hP:qjy f h ms p s i)(hf:ms.find? (inS p s i)=none)(hc:cntM ms s≠12)(aN:Nat)(hh0:h s.toNat=(aN:Int)+1)(w:World)(hM:qaz w sl ms):
  Calls prog 20 #[.agg (tc f g h sl),.int .i64 p,.int .i64 s,.int .i64 i,.int .i64 d] w fun e w'=>qlab w f g h sl ms p s i (qbe f g h ms p s d) w' e/\Below w.heap.size w w':=by
 have B:=Bd.start w;have hM0:=hM
 obtain⟨a0,cap,hsl,-⟩:=hM0
 obtain⟨n,hn⟩:∃n,n=ms.length:=⟨_,rfl⟩
 have HN:Hid (n=ms.length):=hn
 rw[←hn] at hsl
 subst hsl
 clear hn;refine m2a ?_;intro hlt CI G hp hs hi CG HG
 rw[hp] at CI
 refine m10 ?_;intro d1 d2 d3 d4 CF
 rw[hf] at CF
 unfold qhw at CF
 have hl9:ms.length<=1000:=Nat.le_trans G.len (by decide);have HL9:Hid (ms.length<=1000):=hl9;clear hf
 obtain⟨sN,hsN⟩:∃sN:Nat,s=(sN:Int):=⟨s.toNat,by omega⟩
 subst hsN
 refine m57 ?_;intro HS8 I8 HHD HNO hcc;clear hno hd;(have ha3:aN<3:=by have:=G.homeIn hs;omega);have HH0:Hid (h (sN:Int).toNat=(aN:Int)+1):=hh0;have HHS:Hid (h sN=(aN:Int)+1):=hidB (by simpa using hh0);(have CC:=fun w hM=>qlxb f g h (.slice a0 n cap) ms HNO.out (by have:=HL9.out;omega) w hM);obtain⟨i0,hi0,hz0,hz1,hz2⟩:=info_parts qnm;(have hm1:wrap64 ((aN:Int)+1-1)=(aN:Int):=by unfold wrap64;omega);(have hm2:(aN:Int)+1-1=(aN:Int):=by omega);clear hh0
 go_enter func20,ntmps20
 go_wp2_with (first|((with_reducible refine gB 30 0 ?_);refine m0v ?_;refine m4e ?_;clear B;intro b5 w9 B)|((with_reducible refine gA 30 ?_);refine m2o ?_;clear B;intro b10 w9 B)|((with_reducible refine gA 32 ?_);refine m1e ?_;clear B;intro b11 w9 B)|((with_reducible refine qaa (.build 32 #[]) rfl ?_);refine qkmb rfl rfl ?_)|((with_reducible refine gA 32 ?_);refine m15 ?_;clear B;intro b14 w9 B)|((with_reducible refine gS 32 14 35 ?_);refine m2y ?_;refine m09 ?_;clear B;intro w9 B)|((with_reducible refine gL 30 5 ?_);refine m1q ?_)|(go_at_call 17;refine m3k ?_;rintro e w5 ⟨r,hr,rfl,hb5⟩;obtain rfl:r=true:=(hr.2 HG.out);clear hr;replace B:=B.below hb5;clear hb5)|(go_at_call 38;go_fit (CI _);refine m03 ?_)|(go_at_call 11;go_fit (CF _ (hM.keep B.base hlt));refine m0w ?_;clear B;intro w5 B)|((with_reducible refine gA 32 ?_);refine m3q ?_;clear B;intro b15 w9 B)|((with_reducible refine gS 32 15 68 ?_);refine sx 32 (.tmp 15) _ (mc noM) (B.row 0 rfl) ?_;refine m09 ?_;clear B;intro w9 B;refine m4h ?_;intro cM))
 clear cM CI CF
 refine wp_loop (WO1 w f g h ms p (sN:Int) i d b5 b10 b11 b14 b15 a0 n cap) (qlsb n) ?_ ?_
 ·unfold WO1
  (repeat apply Exists.intro)
  refine⟨?_,rfl⟩
  exact⟨0,by omega,rfl,rfl,B⟩
 ·clear B;intro a W hI
  unfold WO1 at hI
  iterate 194 (obtain⟨_,hI⟩:=hI)
  obtain⟨hrel,rfl⟩:=hI
  obtain⟨j,hj,rfl,rfl,B⟩:=hrel
  by_cases hlj:j<ms.length
  ·obtain⟨q,hm⟩:∃q,ms[j]=q:=⟨_,rfl⟩
   exact sZbd113
  ·(have e:j=ms.length:=by omega)
   subst e
   refine m6n ?_;intro hjn;clear hj hlj;clear hp hi d1 d2 d3 d4
   go_wp2_with (first|((with_reducible refine gL 30 5 ?_);refine lx 30 (.tmp 5) (tc f g h (.slice a0 n cap)) (B.row 4 rfl) ?_)|(go_at_call 10;go_fit (CC _ (hM.keep B.base hlt));rintro e w5 ⟨v5,rfl,hown5,hb5⟩;clear CC;(obtain⟨av,cv,hv5⟩:=qkx hown5);rw[←HN.out] at hv5;subst hv5;replace B:=B.ownNew hown5 hb5;clear hown5 hb5)|((with_reducible refine gA 30 ?_);refine ax 21 30 qb8 ?_;intro b21 w9 l9 R9 h9;replace B:=B.alloc l9 R9 h9;clear R9 h9 l9)|((with_reducible refine gS 30 21 92 ?_);refine m4l ?_;refine m09 ?_;clear B;intro w9 B)|((with_reducible refine gL 3 95 ?_);refine qae (B.row 5 rfl) _ rfl kr (21+sN) rfl ((aN:Int)+1) (by rw[qhc _ _ _ _ _ HS8.out];exact congrArg (fun z=>some (Value.int .i64 z)) HHS.out) ?_))
   refine wp_loop (WO2 w f g h ms p (sN:Int) i d b5 b10 b11 b14 b15 a0 n cap b21 aN av cv) ql8b ?_ ?_
   ·unfold WO2
    (repeat apply Exists.intro)
    refine⟨?_,rfl⟩
    exact⟨0,by omega,rfl,rfl,rfl,B⟩
   ·clear B;intro a W hI
    unfold WO2 at hI
    iterate 195 (obtain⟨_,hI⟩:=hI)
    obtain⟨hrel,rfl⟩:=hI
    obtain⟨j,hj,rfl,rfl,hfn,B⟩:=hrel
    obtain⟨c,hc⟩:∃c,c=hadN f (sN:Int) aN j:=⟨_,rfl⟩
    have hcl:=qqnb f (sN:Int) aN j;rw[←hc]
    by_cases hj48:j<48
    ·obtain⟨X,hX⟩:∃X,f (6*aN+j/8)=X:=⟨_,rfl⟩
     have hst:=ql1b f (sN:Int) aN j
     rw[hX,←hc] at hst
     by_cases hXs:X=(sN:Int)+1
     ·(have cx:(X != (sN:Int)+1)=false:=by simp[hXs]);(have hx2:(X==(sN:Int)+1)=true:=by simp[hXs])
      rw[hx2,Bool.and_true] at hst
      (have CK:=fun w hM=>qmcb f g h (.slice a0 n cap) ms p (aN:Int) (1024+(j:Int)) w hM)
      cases hbk:ms.find? (outS p (aN:Int) (1024+(j:Int))) with
      | some mx=>
       rw[hbk] at CK
       unfold qhw at CK
       (have hus:qk7 ms p (aN:Int) (1024+(j:Int))=true:=by unfold qk7;rw[List.any_eq_true];exact⟨mx,List.mem_of_find?_eq_some hbk,List.find?_some hbk⟩);(have HF:=qm1b hfn (show okQ f ms p (sN:Int) aN j=false by unfold okQ;rw[hus];simp))
       by_cases h8:j%8=0
       ·rw[if_pos (by simp[h8])] at hst
        apply qq8b j c X mx B HN hM hj48 ha3 hs om hX cx (by simp[h8]) CK hst HF _
       ·rw[if_neg (by simp[h8])] at hst
        apply qqxb j c X mx B HN hM hj48 ha3 hs om hX cx (by simp;omega) CK hst HF _
      | none=>
       rw[hbk] at CK
       unfold qhw at CK
       (have hus:qk7 ms p (aN:Int) (1024+(j:Int))=false:=by unfold qk7;rw[List.any_eq_false];rw[List.find?_eq_none] at hbk;exact hbk);(have hhere:=qo5b (n:=48) hfn (show okQ f ms p (sN:Int) aN j=true by unfold okQ;rw[hus,hX,hXs];simp) hj48);have HRM:=qpcb (g:=g) (d:=d) G hs HH0.out hhere
       have hR:∀v w',qaz w' v (ms++[(p,(sN:Int),i,(aN:Int),1024+(j:Int))])->w.heap.size<=mb v->Below w.heap.size w w'->(qlab w f g h (.slice a0 n cap) ms p (sN:Int) i (qbe f g h ms p (sN:Int) d) w' (.returned (.tuple #[.agg (tc f g h v),.agg (mc (p,(sN:Int),i,(aN:Int),1024+(j:Int))),.bool false,.int .i64 0]))/\Below w.heap.size w w'):=
        fun v w' h1 h2 h3=>⟨qk6b HRM (by rw[HH0.out];omega) h1 h2,h3⟩
       by_cases h8:j%8=0
       ·refine qrab j c X noM B HN hM hj48 ha3 hs om hX cx (by simp[h8]) CK HL9.out (fun e w'=>qlab w f g h (.slice a0 n cap) ms p (sN:Int) i (qbe f g h ms p (sN:Int) d) w' e/\Below w.heap.size w w') hR _ ?_ _ _ _ _ _ _ _ _ _ _ _ _ _ _ _ _ _ _ _ _ _ _ _ _ _ _ _ _ _ _ _ _ _ _ _ _ _ _ _ _ _ _ _ _ _ _ _ _ _ _ _ _ _ _ _ _ _ _ _ _ _ _ _ _ _ _ _ _ _ _ _ _ _ _ _ _ _ _ _ _ _ _ _ _ _ _ _ _ _ _ _ _ _ _ _ _ _ _ _ _ _ _ _ _ _ _ _ _ _ _ _ _ _ _ _ _ _ _ _ _ _ _ _ _ _ _ _ _ _ _ _ _ _ _ _ _ _ _ _ _ _ _ _ _ _ _ _ _ _ _ _ _ _ _ _ _ _ _ _ _ _ _ _ _ _ _ _ _ _ _ _ _ _ _ _ _ _ _ _ _ _ _ _ _ _ _ _ _ _ _ _ _ _;exact fun a w' h=>h
       ·refine qq6b j c X noM B HN hM hj48 ha3 hs om hX cx (by simp;omega) CK HL9.out (fun e w'=>qlab w f g h (.slice a0 n cap) ms p (sN:Int) i (qbe f g h ms p (sN:Int) d) w' e/\Below w.heap.size w w') hR _ ?_ _ _ _ _ _ _ _ _ _ _ _ _ _ _ _ _ _ _ _ _ _ _ _ _ _ _ _ _ _ _ _ _ _ _ _ _ _ _ _ _ _ _ _ _ _ _ _ _ _ _ _ _ _ _ _ _ _ _ _ _ _ _ _ _ _ _ _ _ _ _ _ _ _ _ _ _ _ _ _ _ _ _ _ _ _ _ _ _ _ _ _ _ _ _ _ _ _ _ _ _ _ _ _ _ _ _ _ _ _ _ _ _ _ _ _ _ _ _ _ _ _ _ _ _ _ _ _ _ _ _ _ _ _ _ _ _ _ _ _ _ _ _ _ _ _ _ _ _ _ _ _ _ _ _ _ _ _ _ _ _ _ _ _ _ _ _ _ _ _ _ _ _ _ _ _ _ _ _ _ _ _ _ _ _ _ _ _ _ _ _ _ _ _;exact fun a w' h=>h
     ·(have cx:(X != (sN:Int)+1)=true:=by simp[hXs]);(have hx2:(X==(sN:Int)+1)=false:=by simp[hXs])
      rw[hx2,Bool.and_false,if_neg zm,Nat.add_zero] at hst
      (have HF:=qm1b hfn (show okQ f ms p (sN:Int) aN j=false by unfold okQ;rw[hX,hx2];rfl))
      apply qp0b j c X noM B HN hM hj48 ha3 hs om hX cx hst HF _
    ·(have e48:j=48:=by omega)
     subst e48
     (have hp1:¬(1024+((48:Nat):Int))<1072:=by omega);(have ha0:¬(aN:Int)<0:=by omega)
     by_cases h2:c=2
     ·have HRM:Hid _:=hidB (qpnb (g:=g) (d:=d) G hs HH0.out hfn (hc▸h2))
      subst h2
      clear hcl hc hfn hj hj48
      go_upto_region 31 with fail
      have RT:Row 30 _ b5 (tc f g h (.slice a0 n cap)):=B.row 5 rfl;have RM:Row 32 _ b14 (mc noM):=B.row 2 rfl
      refine RD (fun W=>Row 30 W b5 (tc f g h (.slice a0 n cap))/\Row 32 W b14 (mc noM)) ⟨RT,RM⟩ (fun _=>?_)
      refine tk 0 (.agg (tc f g h (.slice a0 n cap))) rfl (yx 30 (.tmp 5) (tc f g h (.slice a0 n cap)) (fun _ h=>h.1)) ⟨RT,RM⟩ (tk 1 (.agg (mc noM)) rfl (yx 32 (.tmp 14) (mc noM) (fun _ h=>h.2)) ⟨RT,RM⟩ ?_)
      refine m3a ?_
      refine AP (fun K hK=>?_) AZ
      refine qau 30 (.tmp 10) (.tmp 152) rfl b10 kr (tc f g h (.slice a0 n cap)) kr _ (B.row 4 rfl) (qen _ _ _ _ _ _ _ _) (qaq _ _ _ _) (qbm _ _ _ _ _ _) ?_;refine m1o ?_;intro w9 R9 t9;replace B:=B.turn 4 rfl R9 t9;clear R9 t9;replace RT:=B.row 5 rfl;replace RM:=B.row 2 rfl
      refine hK.out _ _ ⟨RT,RM⟩ (fun _=>?_)
      clear hK K;(try simp only[ZZ]);refine AR [3] ?_
      refine AP (fun K hK=>?_) AZ
      refine sy 32 (.tmp 11) (.tmp 153) (mc noM) (B.row 3 rfl) ?_;refine m1o ?_;intro w9 R9 t9;replace B:=B.turn 3 rfl R9 t9;clear R9 t9;replace RT:=B.row 5 rfl;replace RM:=B.row 2 rfl
      refine hK.out _ _ ⟨RT,RM⟩ (fun _=>?_)
      clear hK K;(try simp only[ZZ]);refine tq 4 (.bool false) rfl ⟨RT,RM⟩ (tq 5 (.int .i64 6) rfl ⟨RT,RM⟩ ?_);refine m2c ?_;clear RT RM
      go_wp2_with fail
      (refine m06 ?_;first|(refine bodyPost_ret (qej (p:=10) (q:=11) (x:=12) (y:=13) rfl _ _ _ _ _ _ rfl rfl (B.row 4 rfl) (B.row 3 rfl) _ _ underlying30 underlying32 rfl rfl (qaq _ _ _ _) (qak _)) rfl ⟨qkdb HRM.out (by decide),B.base⟩)|(replace B:=B.drew;refine bodyPost_ret (qej (p:=10) (q:=11) (x:=12) (y:=13) rfl _ _ _ _ _ _ rfl rfl (B.row 4 rfl) (B.row 3 rfl) _ _ underlying30 underlying32 rfl rfl (qaq _ _ _ _) (qak _)) rfl ⟨qkdb HRM.out (by decide),B.base⟩))
     ·(have hc2:((c:Int)==2)=false:=by simp;omega);(have HRR:Hid _:=hidB (qotb (g:=g) (d:=d) G hs HH0.out hfn (fun e=>h2 (hc.trans e))));(have hAw:wrap64 ((aN:Int)+1)=(aN:Int)+1:=by unfold wrap64;omega);clear hcl hc hfn hj hj48 h2
      obtain⟨F',hF'⟩:∃F',F'=qi1 f g (sN:Int) ((aN:Int)) d:=⟨_,rfl⟩
      obtain⟨K',hK'⟩:∃K',K'=qft f g (sN:Int) ((aN:Int)) d:=⟨_,rfl⟩
      obtain⟨E',hE'⟩:∃E',E'=qdh f g (sN:Int) ((aN:Int)):=⟨_,rfl⟩
      (have CT:=fun w=>qm2b f g (sN:Int) ((aN:Int)) d HHD.out w)
      unfold qet plv at CT
      rw[←hF',←hK',←hE'] at CT
      refine m6e ?_;intro hk6 hw8 hw9
      by_cases hE0:E'=0
      ·(have HRM:Hid (qbe f g h ms p (sN:Int) d=⟨F',upd h (sN:Int).toNat ((aN:Int)+1),1024+8*(K':Int),true,0⟩):=hidB (by rw[HRR.out,if_pos (hE'▸hE0),hF',hK']));(have hE0b:(E' != 0)=false:=by simp[hE0]);have HL2:Hid ((ms++[(p,(sN:Int),i,(aN:Int),1024+8*(K':Int))]).length<=140737488355328):=hidB (by have:=HL9.out;rw[List.length_append];simp;omega);clear hE' hF' hK' hk6
       subst hE0
       go_upto_region 44 with(first|((with_reducible refine gL 26 169 ?_);refine m13 ?_)|(go_at_call 46;go_fit (CT _);refine m0w ?_;clear B;intro w5 B)|((with_reducible refine gA 26 ?_);refine m4y ?_;clear B;intro b31 w9 B)|((with_reducible refine gS 26 31 175 ?_);refine m24 ?_;refine m09 ?_;clear B;intro w9 B)|((with_reducible refine qaa (.build 32 #[(0,.tmp 183),(1,.tmp 184),(2,.tmp 185),(3,.tmp 186),(4,.tmp 189)]) rfl ?_);refine qkob rfl (.tmp 183) (.tmp 184) (.tmp 185) (.tmp 186) (.tmp 189) rfl p (sN:Int) i ((aN:Int)) (1024+8*(K':Int)) rfl rfl rfl rfl (by first|rfl|exact congrArg (Value.int .i64) hw9|(rw[hw8];exact congrArg (Value.int .i64) hw9)) ?_)|((with_reducible refine gA 32 ?_);refine ax 34 32 qa4 ?_;intro b34 w9 l9 R9 h9;replace B:=B.alloc l9 R9 h9;clear R9 h9 l9)|((with_reducible refine gS 32 34 190 ?_);refine sx 32 (.tmp 34) _ (mc (p,(sN:Int),i,(aN:Int),1024+8*(K':Int))) (B.row 0 rfl) ?_;refine m09 ?_;clear B;intro w9 B)|((with_reducible refine gL 26 31 ?_);refine lx 26 (.tmp 31) (pc F' g) (B.row 1 rfl) ?_)|((with_reducible refine gS 26 192 191 ?_);refine qkk rfl (.tmp 192) _ rfl b21 rfl F' g rfl f g h (.slice av n cv) (B.row 2 rfl) ?_;refine m5g ?_;clear B;intro w9 B)|((with_reducible refine gS 3 197 195 ?_);refine qbb (B.row 2 rfl) rfl _ _ rfl (21+sN) rfl ((aN:Int)+1) (by first|rfl|exact congrArg (Value.int .i64) hAw) _ (qhc _ _ _ _ _ HS8.out) (tc F' g (upd h sN ((aN:Int)+1)) (.slice av n cv)) (qsk _ _ _ _ _ _ HS8.out) ?_;refine m5g ?_;clear B;intro w9 B;refine m30 ?_;intro cM)|((with_reducible refine gL 32 34 ?_);refine lx 32 (.tmp 34) (mc (p,(sN:Int),i,(aN:Int),1024+8*(K':Int))) (B.row 0 rfl) ?_)|((with_reducible refine q5i ?_);refine qkl rfl (.tmp 200) rfl (p,(sN:Int),i,(aN:Int),1024+8*(K':Int)) rfl ?_)|((with_reducible refine qaa (.call { callee:=.builtin .append,args:=#[.tmp 199,.tmp 201],argTypes:=#[28,28] }) rfl ?_);refine wpList_append_own_at _ rfl (.tmp 199) (.tmp 201) 28 rfl w.heap.size 32 i0 (.agg (mc noM)) 5 40 underlying28 hi0 hz0 hz1 hz2 rfl (by decide) (.slice av n cv) n (flat ms) kr (by rw[HN.out];have HO:=B.own;rw[HN.out] at HO;exact HO.alloc _) ⟨_,0,none⟩ 1 1 (mcl (p,(sN:Int),i,(aN:Int),1024+8*(K':Int))) rfl rfl (qql _ _ _) (qmp _) (by unfold maxLen;have:=HL9.out;have:=HN.out;omega) (by have:=HL9.out;have:=HN.out;omega) (by have:=B.base.size;simp;omega) ?_;intro v4 w8 hown4 hg4 hn4 hloc;clear hn4 cM;replace B:=B.push (by rw[←HN.out];exact hown4) hg4 hloc;clear hg4 hloc;obtain⟨a4,c4,rfl⟩:=qkx hown4;clear hown4)|((with_reducible refine gS 28 203 202 ?_);refine qh1 (B.row 2 rfl) rfl _ _ rfl 29 rfl _ _ _ rfl _ (qdw _ _ _ _) (tc F' g (upd h sN ((aN:Int)+1)) (.slice a4 (n+1) c4)) (qm0 _ _ _ _ _) ?_;refine m5g ?_;clear B;intro w9 B))
       have RT:Row 30 _ b21 (tc F' g (upd h sN ((aN:Int)+1)) (.slice a4 (n+1) c4)):=B.row 2 rfl;have RM:Row 32 _ b34 (mc (p,(sN:Int),i,(aN:Int),1024+8*(K':Int))):=B.row 0 rfl;refine wp_region_noPanic ?_
       refine wp_region_held_drew (S:=fun W=>Row 30 W b21 (tc F' g (upd h sN ((aN:Int)+1)) (.slice a4 (n+1) c4))/\Row 32 W b34 (mc (p,(sN:Int),i,(aN:Int),1024+8*(K':Int)))) kr ⟨RT,RM⟩ (fun _=>?_)
       refine tk 0 (.agg (tc F' g (upd h sN ((aN:Int)+1)) (.slice a4 (n+1) c4))) rfl (yx 30 (.tmp 21) (tc F' g (upd h sN ((aN:Int)+1)) (.slice a4 (n+1) c4)) (fun _ h=>h.1)) ⟨RT,RM⟩ (tk 1 (.agg (mc (p,(sN:Int),i,(aN:Int),1024+8*(K':Int)))) rfl (yx 32 (.tmp 34) (mc (p,(sN:Int),i,(aN:Int),1024+8*(K':Int))) (fun _ h=>h.2)) ⟨RT,RM⟩ ?_)
       refine m3a ?_
       refine AP (fun K hK=>?_) AZ
       refine qau 30 (.tmp 10) (.tmp 204) rfl b10 kr (tc F' g (upd h sN ((aN:Int)+1)) (.slice a4 (n+1) c4)) kr _ (B.row 6 rfl) (qen _ _ _ _ _ _ _ _) (qaq _ _ _ _) (qbm _ _ _ _ _ _) ?_;refine m1o ?_;intro w9 R9 t9;replace B:=B.turn 6 rfl R9 t9;clear R9 t9;replace RT:=B.row 2 rfl;replace RM:=B.row 0 rfl
       refine hK.out _ _ ⟨RT,RM⟩ (fun _=>?_)
       clear hK K;(try simp only[ZZ]);refine AR [3] ?_
       refine AP (fun K hK=>?_) AZ
       refine sy 32 (.tmp 11) (.tmp 205) (mc (p,(sN:Int),i,(aN:Int),1024+8*(K':Int))) (B.row 5 rfl) ?_;refine m1o ?_;intro w9 R9 t9;replace B:=B.turn 5 rfl R9 t9;clear R9 t9;replace RT:=B.row 2 rfl;replace RM:=B.row 0 rfl
       exact sZbd112
      ·refine m6m ?_;intro HRM hE0b HE0;clear hE' hF' hK' hk6 hE0 hw8 hw9
       go_upto_region 39 with(first|((with_reducible refine gL 26 169 ?_);refine m13 ?_)|(go_at_call 46;go_fit (CT _);refine m0w ?_;clear B;intro w5 B)|((with_reducible refine gA 26 ?_);refine m4y ?_;clear B;intro b31 w9 B)|((with_reducible refine gS 26 31 175 ?_);refine m24 ?_;refine m09 ?_;clear B;intro w9 B))
       exact sZbd111
theorem qmmb(f:Nat->Int)(g:Nat->Bool)(h:Nat->Int)(sl:Value)(ms:List Mp)(p s i d:Int)(hwH:wfH h)(hno:qcs sl)(hd:(Lit.int .i64 d).wf=true)(hP:qjy f h ms p s i)(hf:ms.find? (inS p s i)=none)(hc:cntM ms s≠12)(hh0:h s.toNat=0)(w:World)(hM:qaz w sl ms):
  Calls prog 20 #[.agg (tc f g h sl),.int .i64 p,.int .i64 s,.int .i64 i,.int .i64 d] w fun e w'=>qlab w f g h sl ms p s i (qbe f g h ms p s d) w' e/\Below w.heap.size w w':=by
 have B:=Bd.start w;have hM0:=hM
 obtain⟨a0,cap,hsl,-⟩:=hM0
 obtain⟨n,hn⟩:∃n,n=ms.length:=⟨_,rfl⟩
 have HN:Hid (n=ms.length):=hn
 rw[←hn] at hsl
 subst hsl
 clear hn;refine m2a ?_;intro hlt CI G hp hs hi CG HG
 rw[hp] at CI
 refine m10 ?_;intro d1 d2 d3 d4 CF
 rw[hf] at CF
 unfold qhw at CF
 have hl9:ms.length<=1000:=Nat.le_trans G.len (by decide);have HL9:Hid (ms.length<=1000):=hl9;clear hf
 obtain⟨sN,hsN⟩:∃sN:Nat,s=(sN:Int):=⟨s.toNat,by omega⟩
 subst hsN
 refine m57 ?_;intro HS8 I8 HHD HNO hcc;clear hno hd;have HRR0:Hid _:=hidB (qplb (g:=g) (p:=p) (d:=d) G hs hh0);have HHS:Hid (h sN=0):=hidB (by simpa using hh0);(have CC:=fun w hM=>qlxb f g h (.slice a0 n cap) ms HNO.out (by have:=HL9.out;omega) w hM);obtain⟨i0,hi0,hz0,hz1,hz2⟩:=info_parts qnm;clear hh0
 go_enter func20,ntmps20
 go_wp2_with (first|((with_reducible refine gB 30 0 ?_);refine m0v ?_;refine m4e ?_;clear B;intro b5 w9 B)|((with_reducible refine gA 30 ?_);refine m2o ?_;clear B;intro b10 w9 B)|((with_reducible refine gA 32 ?_);refine m1e ?_;clear B;intro b11 w9 B)|((with_reducible refine qaa (.build 32 #[]) rfl ?_);refine qkmb rfl rfl ?_)|((with_reducible refine gA 32 ?_);refine m15 ?_;clear B;intro b14 w9 B)|((with_reducible refine gS 32 14 35 ?_);refine m2y ?_;refine m09 ?_;clear B;intro w9 B)|((with_reducible refine gL 30 5 ?_);refine m1q ?_)|(go_at_call 17;refine m3k ?_;rintro e w5 ⟨r,hr,rfl,hb5⟩;obtain rfl:r=true:=(hr.2 HG.out);clear hr;replace B:=B.below hb5;clear hb5)|(go_at_call 38;go_fit (CI _);refine m03 ?_)|(go_at_call 11;go_fit (CF _ (hM.keep B.base hlt));refine m0w ?_;clear B;intro w5 B)|((with_reducible refine gA 32 ?_);refine m3q ?_;clear B;intro b15 w9 B)|((with_reducible refine gS 32 15 68 ?_);refine sx 32 (.tmp 15) _ (mc noM) (B.row 0 rfl) ?_;refine m09 ?_;clear B;intro w9 B;refine m4h ?_;intro cM))
 clear cM CI CF
 refine wp_loop (WO1 w f g h ms p (sN:Int) i d b5 b10 b11 b14 b15 a0 n cap) (qlsb n) ?_ ?_
 ·unfold WO1
  (repeat apply Exists.intro)
  refine⟨?_,rfl⟩
  exact⟨0,by omega,rfl,rfl,B⟩
 ·clear B;intro a W hI
  unfold WO1 at hI
  iterate 194 (obtain⟨_,hI⟩:=hI)
  obtain⟨hrel,rfl⟩:=hI
  obtain⟨j,hj,rfl,rfl,B⟩:=hrel
  by_cases hlj:j<ms.length
  ·obtain⟨q,hm⟩:∃q,ms[j]=q:=⟨_,rfl⟩
   exact sZbd113
  ·(have e:j=ms.length:=by omega)
   subst e
   refine m6n ?_;intro hjn;clear hj hlj;clear hp hi d1 d2 d3 d4;(have hm1:wrap64 ((0:Int)-1)=-1:=by unfold wrap64;omega)
   go_wp2_with (first|((with_reducible refine gL 30 5 ?_);refine lx 30 (.tmp 5) (tc f g h (.slice a0 n cap)) (B.row 4 rfl) ?_)|(go_at_call 10;go_fit (CC _ (hM.keep B.base hlt));rintro e w5 ⟨v5,rfl,hown5,hb5⟩;clear CC;(obtain⟨av,cv,hv5⟩:=qkx hown5);rw[←HN.out] at hv5;subst hv5;replace B:=B.ownNew hown5 hb5;clear hown5 hb5)|((with_reducible refine gA 30 ?_);refine ax 21 30 qb8 ?_;intro b21 w9 l9 R9 h9;replace B:=B.alloc l9 R9 h9;clear R9 h9 l9)|((with_reducible refine gS 30 21 92 ?_);refine m4l ?_;refine m09 ?_;clear B;intro w9 B)|((with_reducible refine gL 3 95 ?_);refine qae (B.row 5 rfl) _ rfl kr (21+sN) rfl (0) (by rw[qhc _ _ _ _ _ HS8.out];exact congrArg (fun z=>some (Value.int .i64 z)) HHS.out) ?_))
   go_loopw [18,23] (fun c q W=>c=.int .i64 0/\q=.int .i64 1024/\Bo w W [(b21,30,tc f g h (.slice av n cv)),(b15,32,mc noM),(b14,32,mc noM),(b11,32,mc noM),(b10,30,tc (fun _=>0) (fun _=>false) (fun _=>0) (.slice none 0 0)),(b5,30,tc f g h (.slice a0 n cap))] (.slice av n cv) ms) (fun _ _ _=>0)
   case atStart=>exact⟨rfl,rfl,B⟩
   case round=>
    clear B
    obtain⟨rfl,rfl,B⟩:=hrel
    (have CP:=fun w=>qpdb f g d HHD.out w)
    unfold plv at CP
    by_cases hpe:qk1 f g=0
    ·have HRR:Hid (qbe f g h ms p (sN:Int) d=if qdh f g (sN:Int) (qkr f g d)=0 then⟨qi1 f g (sN:Int) (qkr f g d) d,upd h (sN:Int).toNat (qkr f g d+1),1024+8*(qft f g (sN:Int) (qkr f g d) d:Int),true,0⟩ else⟨f,h,0,false,qdh f g (sN:Int) (qkr f g d)⟩):=hidB (by rw[HRR0.out,if_pos hpe])
     rw[hpe] at CP
     have hb:=qppb f g d
     obtain⟨A,hA⟩:∃A,A=qkr f g d:=⟨_,rfl⟩
     rw[←hA] at CP hb HRR
     (have hAw:wrap64 (A+1)=A+1:=by unfold wrap64;omega);clear hA hb hpe HRR0
     obtain⟨F',hF'⟩:∃F',F'=qi1 f g (sN:Int) (A) d:=⟨_,rfl⟩
     obtain⟨K',hK'⟩:∃K',K'=qft f g (sN:Int) (A) d:=⟨_,rfl⟩
     obtain⟨E',hE'⟩:∃E',E'=qdh f g (sN:Int) (A):=⟨_,rfl⟩
     (have CT:=fun w=>qm2b f g (sN:Int) (A) d HHD.out w)
     unfold qet plv at CT
     rw[←hF',←hK',←hE'] at CT
     refine m6e ?_;intro hk6 hw8 hw9
     by_cases hE0:E'=0
     ·(have HRM:Hid (qbe f g h ms p (sN:Int) d=⟨F',upd h (sN:Int).toNat (A+1),1024+8*(K':Int),true,0⟩):=hidB (by rw[HRR.out,if_pos (hE'▸hE0),hF',hK']));(have hE0b:(E' != 0)=false:=by simp[hE0]);have HL2:Hid ((ms++[(p,(sN:Int),i,A,1024+8*(K':Int))]).length<=140737488355328):=hidB (by have:=HL9.out;rw[List.length_append];simp;omega);clear hE' hF' hK' hk6
      subst hE0
      go_upto_region 44 with(first|((with_reducible refine gL 26 157 ?_);refine m1x ?_)|(go_at_call 45;go_fit (CP _);refine m0w ?_;clear B;intro w5 B)|((with_reducible refine gL 26 169 ?_);refine m13 ?_)|(go_at_call 46;go_fit (CT _);refine m0w ?_;clear B;intro w5 B)|((with_reducible refine gA 26 ?_);refine m4y ?_;clear B;intro b31 w9 B)|((with_reducible refine gS 26 31 175 ?_);refine m24 ?_;refine m09 ?_;clear B;intro w9 B)|((with_reducible refine qaa (.build 32 #[(0,.tmp 183),(1,.tmp 184),(2,.tmp 185),(3,.tmp 186),(4,.tmp 189)]) rfl ?_);refine qkob rfl (.tmp 183) (.tmp 184) (.tmp 185) (.tmp 186) (.tmp 189) rfl p (sN:Int) i (A) (1024+8*(K':Int)) rfl rfl rfl rfl (by first|rfl|exact congrArg (Value.int .i64) hw9|(rw[hw8];exact congrArg (Value.int .i64) hw9)) ?_)|((with_reducible refine gA 32 ?_);refine ax 34 32 qa4 ?_;intro b34 w9 l9 R9 h9;replace B:=B.alloc l9 R9 h9;clear R9 h9 l9)|((with_reducible refine gS 32 34 190 ?_);refine sx 32 (.tmp 34) _ (mc (p,(sN:Int),i,A,1024+8*(K':Int))) (B.row 0 rfl) ?_;refine m09 ?_;clear B;intro w9 B)|((with_reducible refine gL 26 31 ?_);refine lx 26 (.tmp 31) (pc F' g) (B.row 1 rfl) ?_)|((with_reducible refine gS 26 192 191 ?_);refine qkk rfl (.tmp 192) _ rfl b21 rfl F' g rfl f g h (.slice av n cv) (B.row 2 rfl) ?_;refine m5g ?_;clear B;intro w9 B)|((with_reducible refine gS 3 197 195 ?_);refine qbb (B.row 2 rfl) rfl _ _ rfl (21+sN) rfl (A+1) (by first|rfl|exact congrArg (Value.int .i64) hAw) _ (qhc _ _ _ _ _ HS8.out) (tc F' g (upd h sN (A+1)) (.slice av n cv)) (qsk _ _ _ _ _ _ HS8.out) ?_;refine m5g ?_;clear B;intro w9 B;refine m30 ?_;intro cM)|((with_reducible refine gL 32 34 ?_);refine lx 32 (.tmp 34) (mc (p,(sN:Int),i,A,1024+8*(K':Int))) (B.row 0 rfl) ?_)|((with_reducible refine q5i ?_);refine qkl rfl (.tmp 200) rfl (p,(sN:Int),i,A,1024+8*(K':Int)) rfl ?_)|((with_reducible refine qaa (.call { callee:=.builtin .append,args:=#[.tmp 199,.tmp 201],argTypes:=#[28,28] }) rfl ?_);refine wpList_append_own_at _ rfl (.tmp 199) (.tmp 201) 28 rfl w.heap.size 32 i0 (.agg (mc noM)) 5 40 underlying28 hi0 hz0 hz1 hz2 rfl (by decide) (.slice av n cv) n (flat ms) kr (by rw[HN.out];have HO:=B.own;rw[HN.out] at HO;exact HO.alloc _) ⟨_,0,none⟩ 1 1 (mcl (p,(sN:Int),i,A,1024+8*(K':Int))) rfl rfl (qql _ _ _) (qmp _) (by unfold maxLen;have:=HL9.out;have:=HN.out;omega) (by have:=HL9.out;have:=HN.out;omega) (by have:=B.base.size;simp;omega) ?_;intro v4 w8 hown4 hg4 hn4 hloc;clear hn4 cM;replace B:=B.push (by rw[←HN.out];exact hown4) hg4 hloc;clear hg4 hloc;obtain⟨a4,c4,rfl⟩:=qkx hown4;clear hown4)|((with_reducible refine gS 28 203 202 ?_);refine qh1 (B.row 2 rfl) rfl _ _ rfl 29 rfl _ _ _ rfl _ (qdw _ _ _ _) (tc F' g (upd h sN (A+1)) (.slice a4 (n+1) c4)) (qm0 _ _ _ _ _) ?_;refine m5g ?_;clear B;intro w9 B))
      have RT:Row 30 _ b21 (tc F' g (upd h sN (A+1)) (.slice a4 (n+1) c4)):=B.row 2 rfl;have RM:Row 32 _ b34 (mc (p,(sN:Int),i,A,1024+8*(K':Int))):=B.row 0 rfl
      refine RD (fun W=>Row 30 W b21 (tc F' g (upd h sN (A+1)) (.slice a4 (n+1) c4))/\Row 32 W b34 (mc (p,(sN:Int),i,A,1024+8*(K':Int)))) ⟨RT,RM⟩ (fun _=>?_)
      refine tk 0 (.agg (tc F' g (upd h sN (A+1)) (.slice a4 (n+1) c4))) rfl (yx 30 (.tmp 21) (tc F' g (upd h sN (A+1)) (.slice a4 (n+1) c4)) (fun _ h=>h.1)) ⟨RT,RM⟩ (tk 1 (.agg (mc (p,(sN:Int),i,A,1024+8*(K':Int)))) rfl (yx 32 (.tmp 34) (mc (p,(sN:Int),i,A,1024+8*(K':Int))) (fun _ h=>h.2)) ⟨RT,RM⟩ ?_)
      refine m3a ?_
      refine AP (fun K hK=>?_) AZ
      refine qau 30 (.tmp 10) (.tmp 204) rfl b10 kr (tc F' g (upd h sN (A+1)) (.slice a4 (n+1) c4)) kr _ (B.row 6 rfl) (qen _ _ _ _ _ _ _ _) (qaq _ _ _ _) (qbm _ _ _ _ _ _) ?_;refine m1o ?_;intro w9 R9 t9;replace B:=B.turn 6 rfl R9 t9;clear R9 t9;replace RT:=B.row 2 rfl;replace RM:=B.row 0 rfl
      refine hK.out _ _ ⟨RT,RM⟩ (fun _=>?_)
      clear hK K;(try simp only[ZZ]);refine AR [3] ?_
      refine AP (fun K hK=>?_) AZ
      refine sy 32 (.tmp 11) (.tmp 205) (mc (p,(sN:Int),i,A,1024+8*(K':Int))) (B.row 5 rfl) ?_;refine m1o ?_;intro w9 R9 t9;replace B:=B.turn 5 rfl R9 t9;clear R9 t9;replace RT:=B.row 2 rfl;replace RM:=B.row 0 rfl
      exact sZbd112
     ·refine m6m ?_;intro HRM hE0b HE0;clear hE' hF' hK' hk6 hE0 hw8 hw9
      go_upto_region 39 with(first|((with_reducible refine gL 26 157 ?_);refine m1x ?_)|(go_at_call 45;go_fit (CP _);refine m0w ?_;clear B;intro w5 B)|((with_reducible refine gL 26 169 ?_);refine m13 ?_)|(go_at_call 46;go_fit (CT _);refine m0w ?_;clear B;intro w5 B)|((with_reducible refine gA 26 ?_);refine m4y ?_;clear B;intro b31 w9 B)|((with_reducible refine gS 26 31 175 ?_);refine m24 ?_;refine m09 ?_;clear B;intro w9 B))
      exact sZbd111
    ·have HRM:Hid (qbe f g h ms p (sN:Int) d=⟨f,h,0,false,qk1 f g⟩):=hidB (by rw[HRR0.out,if_neg hpe])
     obtain⟨E',hE'⟩:∃E,E=qk1 f g:=⟨_,rfl⟩
     rw[←hE'] at CP HRM hpe
     (have hE0b:(E' != 0)=true:=by simp[hpe]);have HE0:Hid (E'≠0):=hpe;clear hE' hpe HRR0
     go_upto_region 36 with(first|((with_reducible refine gL 26 157 ?_);refine m1x ?_)|(go_at_call 45;go_fit (CP _);refine m0w ?_;clear B;intro w5 B))
     have RT:Row 30 _ b5 (tc f g h (.slice a0 n cap)):=B.row 5 rfl;have RM:Row 32 _ b14 (mc noM):=B.row 2 rfl
     refine RD (fun W=>Row 30 W b5 (tc f g h (.slice a0 n cap))/\Row 32 W b14 (mc noM)) ⟨RT,RM⟩ (fun _=>?_)
     refine tk 0 (.agg (tc f g h (.slice a0 n cap))) rfl (yx 30 (.tmp 5) (tc f g h (.slice a0 n cap)) (fun _ h=>h.1)) ⟨RT,RM⟩ (tk 1 (.agg (mc noM)) rfl (yx 32 (.tmp 14) (mc noM) (fun _ h=>h.2)) ⟨RT,RM⟩ (tq 2 (.int .i64 E') rfl ⟨RT,RM⟩ ?_))
     simp only[ZZ];refine AR [3] ?_
     refine AP (fun K hK=>?_) AZ
     refine qau 30 (.tmp 10) (.tmp 165) rfl b10 kr (tc f g h (.slice a0 n cap)) kr _ (B.row 4 rfl) (qen _ _ _ _ _ _ _ _) (qaq _ _ _ _) (qbm _ _ _ _ _ _) ?_;refine m1o ?_;intro w9 R9 t9;replace B:=B.turn 4 rfl R9 t9;clear R9 t9;replace RT:=B.row 5 rfl;replace RM:=B.row 2 rfl
     refine hK.out _ _ ⟨RT,RM⟩ (fun _=>?_)
     clear hK K;(try simp only[ZZ]);refine AR [4] ?_
     refine AP (fun K hK=>?_) AZ
     refine sy 32 (.tmp 11) (.tmp 166) (mc noM) (B.row 3 rfl) ?_;refine m1o ?_;intro w9 R9 t9;replace B:=B.turn 3 rfl R9 t9;clear R9 t9;replace RT:=B.row 5 rfl;replace RM:=B.row 2 rfl
     refine hK.out _ _ ⟨RT,RM⟩ (fun _=>?_)
     clear hK K;(try simp only[ZZ]);refine tq 5 (.bool false) rfl ⟨RT,RM⟩ (tq 6 (.int .i64 E') rfl ⟨RT,RM⟩ ?_);refine m2c ?_;clear RT RM
     go_wp2_with fail
     (refine m06 ?_;first|(refine bodyPost_ret (qej (p:=10) (q:=11) (x:=12) (y:=13) rfl _ _ _ _ _ _ rfl rfl (B.row 4 rfl) (B.row 3 rfl) _ _ underlying30 underlying32 rfl rfl (qaq _ _ _ _) (qak _)) rfl ⟨qkdb HRM.out HE0.out,B.base⟩)|(replace B:=B.drew;refine bodyPost_ret (qej (p:=10) (q:=11) (x:=12) (y:=13) rfl _ _ _ _ _ _ rfl rfl (B.row 4 rfl) (B.row 3 rfl) _ _ underlying30 underlying32 rfl rfl (qaq _ _ _ _) (qak _)) rfl ⟨qkdb HRM.out HE0.out,B.base⟩))
theorem qn7b(f:Nat->Int)(g:Nat->Bool)(h:Nat->Int)(sl:Value)(ms:List Mp)(p s i d:Int)(hwH:wfH h)(hno:qcs sl)(hd:(Lit.int .i64 d).wf=true)(hP:qjy f h ms p s i)(hf:ms.find? (inS p s i)=none)(hc:cntM ms s≠12)(w:World)(hM:qaz w sl ms):
  Calls prog 20 #[.agg (tc f g h sl),.int .i64 p,.int .i64 s,.int .i64 i,.int .i64 d] w fun e w'=>qlab w f g h sl ms p s i (qbe f g h ms p s d) w' e/\Below w.heap.size w w':=by
 by_cases h0:h s.toNat=0
 ·exact qmmb f g h sl ms p s i d hwH hno hd hP hf hc h0 w hM
 ·have:=hP.1.homeIn hP.2.2.1
  exact qmqb f g h sl ms p s i d hwH hno hd hP hf hc (h s.toNat-1).toNat om w hM
end Go.Proofs.Ytbboabfmoahipaa
