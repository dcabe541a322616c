/-
  Of what a law stands on.
-/
import Derived.Test.YtonnjgmognbnbaaGreatDoorZtTpM0
set_option linter.unusedSimpArgs false
set_option linter.unusedVariables false
namespace Go.Proofs.YtonnjgmognbnbaaGreatDoor
open _root_.Go.Proofs.Tryz Go.ChangeShapes Go.WideShapes Go.ChangeAt Go.RowKit Go.Maps
set_option maxHeartbeats 16000000
set_option maxRecDepth 100000
theorem sZtTpM1{p:Prop}(h:p:=by
 go_ret
 exact⟨rfl,N.gr.below (fun _ h=>h.elim) (Nat.le_refl _)⟩):p:=h
theorem topBack_walk(loose:Bool)(sl:Value)(es:List Ac)(a1 a2 a3 a4 draw:Int)(W:World)(hS:AcIn W sl es)(w1:(Lit.int .i64 a1).wf=true)(w2:(Lit.int .i64 a2).wf=true)(w3:(Lit.int .i64 a3).wf=true)(w4:(Lit.int .i64 a4).wf=true)(w5:(Lit.int .i64 draw).wf=true)(hT:Tab W):Calls prog 8 #[.bool loose,sl,.int .i64 a1,.int .i64 a2,.int .i64 a3,.int .i64 a4,.int .i64 draw] W fun e w'=>e=.returned (.bool true)/\Below W.heap.size W w':=by
 have HT:Hid (Tab W):=hT;have CP:=qjp (G0:=fun _=>False) (qq7 loose) sl es W hS.1 hS.2 hT id (fun _ h=>h) (fun _ h=>h);(have C8:=fun w=>qg8b a1 8 w om om);(have CP1:=fun w=>qg8b a2 65536 w om om);(have CP2:=fun w=>qg8b a4 65536 w om om);(have C24:=fun w=>qg8b a3 16777216 w om om);(have C24b:=fun w=>qg8b (a3%16777216+1) 16777216 w om om);(have rs:0<=a1%8/\a1%8<8:=by omega);(have rp:0<=a2%65536/\a2%65536<=65535:=by omega);(have rq:0<=a4%65536/\a4%65536<=65535:=by omega);(have rt:0<=a3%16777216/\a3%16777216<16777216:=by omega);obtain⟨x0,cap,hsl⟩:=hS.1.slice;have hinv:=qjr loose (es.take 100) (by rw[List.length_take];omega);refine m90 ?_;intro hk1
 generalize es.length=n at *
 subst hsl
 obtain⟨s,hs⟩:∃s,(nt0 loose).runs (es.take 100)=s:=⟨_,rfl⟩
 have HS1:Hid ((nt0 loose).runs (es.take 100)=s):=hs
 rw[hs] at hinv
 generalize(es.take 100).length=k0 at *
 generalize a1 % 8=sub at *
 generalize a2 % 65536=port at *
 generalize a4 % 65536=rport at *
 generalize a3 % 16777216=dst at *
 (have hws:wrap64 (167772161+sub)=167772161+sub:=by unfold wrap64;omega);(have hwd:wrap64 (dst+1)=dst+1:=by unfold wrap64;omega);have hB:=back_pure (draw:=draw) hinv om rs rp rt rq;have g1:=pU_good (b:=bThere) (from_:=167772161+sub) (sport:=port) (dst:=dst) (dport:=rport) om rp om rq (by decide);(have CF1:=fun w=>qyr (pU (167772161+sub) port dst rport bThere) w (by show bThere.size<=_;decide))
 rw[show built (pU (167772161+sub) port dst rport bThere)=txt (frame (pU (167772161+sub) port dst rport bThere)) by unfold built;rw[if_pos g1]] at CF1
 have l1:=qnk _ g1;(have CD1:=fun W b F (hN:qaw W b s (duF s.fs) F) (hT:Tab W) (h0:¬F 0)=>qos hN hT h0 (hinv.ok om) (bk1 sub port dst rport draw) ⟨rfl,rfl,w5,by show(txt (frame (pU (167772161+sub) port dst rport bThere))).size<=_;rw[qck];omega⟩);have n1:=hinv.act om (bk1 sub port dst rport draw)
 generalize hr1:s.act (bk1 sub port dst rport draw)=r1 at *
 obtain⟨⟨c1,fr1,in1,lg1⟩,s1⟩:=r1
 simp only at CD1 hB n1
 unfold bk1 at CD1
 have HB:Hid _:=hidN hB;have HN1:Hid _:=hidN n1;have HRG:Hid ((0<=sub/\sub<8)/\(0<=port/\port<=65535)/\(0<=rport/\rport<=65535)/\(0<=dst/\dst<16777216)/\k0<=100):=hidN ⟨rs,rp,rq,rt,hk1⟩;clear hB n1 g1 l1 hinv hk1 hS hT hs w1 w2 w3 w4 w5 rs rp rq rt hr1
 generalize txt (frame (pU (167772161+sub) port dst rport bThere))=tf1 at *
 go_enter func8,ntmps8
 go_upto_region 9 with(first|(go_at_call 23;go_fit CP;rintro e w1 ⟨b,rfl,F,G,hP⟩;clear CP;have N:=hP.nbB (L:=[]) (Below.refl _ _) (fun _ h=>h.elim) zm (fun y hy=>by cases hy);clear hP;rw[HS1.out] at N)|(go_at_call 37;first|(go_fit (C8 _);refine m0h ?_)|(go_fit (CP1 _);refine m0h ?_)|(go_fit (CP2 _);refine m0h ?_)|(go_fit (C24 _);refine m0h ?_))|((with_reducible refine qaa (.build 61 #[(0,.const (.int .i64 17)),(1,.tmp 49),(2,.tmp 50),(3,.tmp 51),(4,.tmp 52),(5,.const (.int .i64 9)),(11,.const (.string ⟨#[116,104,101,114,101]⟩))]) rfl ?_);refine qhab rfl (.tmp 49) (.tmp 50) (.tmp 51) (.tmp 52) ⟨#[116,104,101,114,101]⟩ rfl (167772161+sub) (port) (dst) (rport) rfl rfl rfl rfl ?_)|((with_reducible refine gA 61 ?_);refine ax 18 61 qbs ?_;intro b18 w9 l9 R9 h9;refine m1d ?_;clear N R9 h9 l9;intro N)|((with_reducible refine gS 61 18 53 ?_);refine sx 61 (.tmp 18) _ (pcl (pU (167772161+sub) port dst rport ⟨#[116,104,101,114,101]⟩)) (N.row 0 rfl) ?_;refine m0j ?_;clear N;intro w9 N)|((with_reducible refine gL 61 18 ?_);refine lx 61 (.tmp 18) (pcl (pU (167772161+sub) port dst rport ⟨#[116,104,101,114,101]⟩)) (N.row 0 rfl) ?_)|(go_at_call 38;go_fit (CF1 _);rintro e w5 ⟨rfl,hb5⟩;clear CF1;replace N:=N.below hb5;clear hb5)|((with_reducible refine qaa (.build 23 #[(0,.const (.int .i64 1)),(3,.tmp 56),(2,.tmp 57)]) rfl ?_);refine qhbb rfl (.tmp 56) (.tmp 57) rfl _ rfl _ rfl ?_)|(go_at_call 18;refine(CD1 _ _ _ N.nat (HT.out.gr N.gr id) (N.zero HT.out id)).mono ?_;rintro e w5 ⟨rfl,F9,hN9,hg9,hf9⟩;clear CD1;replace N:=N.call hN9 hg9 hf9;clear hN9 hg9 hf9)|((with_reducible refine gA 27 ?_);refine ax 19 27 qan ?_;intro b19 w9 l9 R9 h9;refine m3q ?_;clear N;intro N;clear R9 h9 l9)|((with_reducible refine gS 27 19 59 ?_);refine sx 27 (.tmp 19) _ (Rp.cells ⟨c1,fr1,in1,lg1⟩) (N.row 0 rfl) ?_;refine m0j ?_;clear N;intro w9 N))
 rcases HB.out with hc|⟨a,q,ra,rq',hc,hfr,hg1,hr2,hg2,hr3⟩
 ·clear C8 CP1 CP2 C24 C24b
  rcases hc with hc|hc|hc
  ·subst hc
   have k19:World.cell? _ ⟨b19,0,none⟩=some (.int .i64 6):=((N.row 0 rfl).cell 0).trans (qdt _)
   go_wp2_with fail
   exact sZtTpM1
  ·subst hc
   have k19:World.cell? _ ⟨b19,0,none⟩=some (.int .i64 9):=((N.row 0 rfl).cell 0).trans (qdt _)
   go_wp2_with fail
   exact sZtTpM1
  ·subst hc
   have k19:World.cell? _ ⟨b19,0,none⟩=some (.int .i64 10):=((N.row 0 rfl).cell 0).trans (qdt _)
   go_wp2_with fail
   exact sZtTpM1
 ·subst hc
  obtain⟨rs,rp,rq,rt,hk1⟩:=HRG.out;have n1:=HN1.out
  rw[qg9b] at hfr hg1
  rw[qheb] at hr2 hg2
  have l1:=qnk _ hg1;have l2:=qnk _ hg2;(have CW1:=fun w=>qch fr1 w (by rw[hfr,qck];omega))
  rw[hfr] at CW1
  simp only[qgx,qds,(qev _ hg1).1,(qev _ hg1).2] at CW1
  rw[←hfr] at CW1
  have g2:=pU_good (b:=bBack) (from_:=dst) (sport:=rport) (dst:=3405803777+a) (dport:=q) om rq om om (by decide);(have CF2:=fun w=>qyr (pU dst rport (3405803777+a) q bBack) w (by show bBack.size<=_;decide))
  rw[show built (pU dst rport (3405803777+a) q bBack)=txt (frame (pU dst rport (3405803777+a) q bBack)) by unfold built;rw[if_pos g2]] at CF2
  have l3:=qnk _ g2;(have CD2:=fun W b F (hN:qaw W b s1 (duF s1.fs) F) (hT:Tab W) (h0:¬F 0)=>qos hN hT h0 (n1.ok om) (bk2 dst rport a q) ⟨rfl,rfl,rfl,by show(txt (frame (pU dst rport (3405803777+a) q bBack))).size<=_;rw[qck];omega⟩);have n2:=n1.act om (bk2 dst rport a q)
  generalize hb2:s1.act (bk2 dst rport a q)=r2 at *
  obtain⟨rr2,s2⟩:=r2
  simp only at CD2 hr2 hr3 n2
  obtain⟨fr2,hfr2⟩:∃x,x=txt (frame (qU dst rport (167772161+sub) port bBack)):=⟨_,rfl⟩
  rw[←hfr2] at hr2
  subst hr2
  unfold bk2 at CD2
  (have CW2:=fun w=>qch fr2 w (by rw[hfr2,qck];omega))
  rw[hfr2] at CW2
  simp only[qgx,qds,(qev _ hg2).1,(qev _ hg2).2] at CW2
  rw[←hfr2] at CW2
  have g3:=pU_good (b:=bThere) (from_:=167772161+sub) (sport:=port) (dst:=(dst+1)%16777216) (dport:=7) om rp om om (by decide);(have CF3:=fun w=>qyr (pU (167772161+sub) port ((dst+1)%16777216) 7 bThere) w (by show bThere.size<=_;decide))
  rw[show built (pU (167772161+sub) port ((dst+1)%16777216) 7 bThere)=txt (frame (pU (167772161+sub) port ((dst+1)%16777216) 7 bThere)) by unfold built;rw[if_pos g3]] at CF3
  have l4:=qnk _ g3;(have CD3:=fun W b F (hN:qaw W b s2 (duF s2.fs) F) (hT:Tab W) (h0:¬F 0)=>qos hN hT h0 (n2.ok om) (bk3 sub port dst) ⟨rfl,rfl,rfl,by show(txt (frame (pU (167772161+sub) port ((dst+1)%16777216) 7 bThere))).size<=_;rw[qck];omega⟩);have hres:=qhdb (qtc s2 (bk3 sub port dst))
  generalize hb3:s2.act (bk3 sub port dst)=r3 at *
  obtain⟨⟨c3,fr3,in3,lg3⟩,s3⟩:=r3
  simp only at CD3 hr3 hres
  unfold bk3 at CD3
  generalize(dst+1) % 16777216=d3 at *
  (have e1:((167772161+sub) != (167772161+sub))=false:=by simp);(have e2:(port != port)=false:=by simp);(have e3:(dst != dst)=false:=by simp);(have e4:(rport != rport)=false:=by simp);clear hg1 hg2 g2 g3 l1 l2 l3 l4 hfr hfr2 n1 n2 rs rp rq rt hk1 ra rq' hb2 hb3
  generalize txt (frame (pU dst rport (3405803777+a) q bBack))=tf2 at *
  generalize txt (frame (pU (167772161+sub) port d3 7 bThere))=tf3 at *
  have k19:World.cell? _ ⟨b19,0,none⟩=some (.int .i64 0):=((N.row 0 rfl).cell 0).trans (qdt _);clear HB HN1 HRG C8 CP1 CP2 C24
  go_upto_region 16 with(first|((with_reducible refine gL 9 77 ?_);refine qcm (N.row 0 rfl) (.tmp 77) rfl kr 1 rfl (fr1) (qe4 _) ?_)|(go_at_call 29;go_fit (CW1 _);rintro e w5 ⟨rfl,hb5⟩;clear CW1;replace N:=N.below hb5;clear hb5)|((with_reducible refine gA 61 ?_);refine ax 20 61 qbs ?_;intro b20 w9 l9 R9 h9;refine m1d ?_;clear N R9 h9 l9;intro N)|((with_reducible refine gS 61 20 80 ?_);refine sx 61 (.tmp 20) _ (pcl (qU (3405803777+a) q dst rport ⟨#[116,104,101,114,101]⟩)) (N.row 0 rfl) ?_;refine m0j ?_;clear N;intro w9 N;have k1:World.cell? _ ⟨b20,1,none⟩=some (.int .i64 (3405803777+a)):=(N.row 0 rfl).cell 1;have k2:World.cell? _ ⟨b20,2,none⟩=some (.int .i64 q):=(N.row 0 rfl).cell 2)|((with_reducible refine qaa (.build 61 #[(0,.const (.int .i64 17)),(1,.tmp 85),(2,.tmp 86),(3,.tmp 88),(4,.tmp 90),(5,.const (.int .i64 9)),(11,.const (.string ⟨#[98,97,99,107]⟩))]) rfl ?_);refine qhab rfl (.tmp 85) (.tmp 86) (.tmp 88) (.tmp 90) ⟨#[98,97,99,107]⟩ rfl (dst) (rport) (3405803777+a) (q) rfl rfl rfl rfl ?_)|(go_at_call 38;go_fit (CF2 _);rintro e w5 ⟨rfl,hb5⟩;clear CF2;replace N:=N.below hb5;clear hb5)|((with_reducible refine qaa (.build 23 #[(0,.const (.int .i64 2)),(3,.tmp 92)]) rfl ?_);refine qhjb rfl (.tmp 92) rfl _ rfl ?_)|(go_at_call 18;refine(CD2 _ _ _ N.nat (HT.out.gr N.gr id) (N.zero HT.out id)).mono ?_;rintro e w5 ⟨rfl,F9,hN9,hg9,hf9⟩;clear CD2 k1 k2;replace N:=N.call hN9 hg9 hf9;clear hN9 hg9 hf9)|((with_reducible refine gA 27 ?_);refine ax 22 27 qan ?_;intro b22 w9 l9 R9 h9;refine m3q ?_;clear N;intro N;clear R9 h9 l9)|((with_reducible refine gS 27 22 94 ?_);refine sx 27 (.tmp 22) _ (Rp.cells ⟨0,fr2,true,ByteArray.empty⟩) (N.row 0 rfl) ?_;refine m0j ?_;clear N;intro w9 N)|((with_reducible refine gL 9 96 ?_);refine qcm (N.row 0 rfl) (.tmp 96) rfl kr 1 rfl (fr2) (qe4 _) ?_)|(go_at_call 29;go_fit (CW2 _);rintro e w5 ⟨rfl,hb5⟩;clear CW2;replace N:=N.below hb5;clear hb5)|((with_reducible refine gA 61 ?_);refine ax 23 61 qbs ?_;intro b23 w9 l9 R9 h9;refine m1d ?_;clear N R9 h9 l9;intro N)|((with_reducible refine gS 61 23 99 ?_);refine sx 61 (.tmp 23) _ (pcl (qU dst rport (167772161+sub) port ⟨#[98,97,99,107]⟩)) (N.row 0 rfl) ?_;refine m0j ?_;clear N;intro w9 N;have j3:World.cell? _ ⟨b23,3,none⟩=some (.int .i64 (167772161+sub)):=(N.row 0 rfl).cell 3;have j4:World.cell? _ ⟨b23,4,none⟩=some (.int .i64 port):=(N.row 0 rfl).cell 4;have j1:World.cell? _ ⟨b23,1,none⟩=some (.int .i64 dst):=(N.row 0 rfl).cell 1;have j2:World.cell? _ ⟨b23,2,none⟩=some (.int .i64 rport):=(N.row 0 rfl).cell 2;have j11:World.cell? _ ⟨b23,11,none⟩=some (.string ⟨#[98,97,99,107]⟩):=(N.row 0 rfl).cell 11;have i0:World.cell? _ ⟨b22,0,none⟩=some (.int .i64 0):=((N.row 1 rfl).cell 0).trans (qdt _);have i2:World.cell? _ ⟨b22,2,none⟩=some (.bool true):=((N.row 1 rfl).cell 2).trans (qhx _);have i1:World.cell? _ ⟨b18,1,none⟩=some (.int .i64 (167772161+sub)):=(N.row 4 rfl).cell 1))
  go_upto_region 20 with(first|(go_at_call 37;first|(go_fit (C24b _);refine m0h ?_))|((with_reducible refine gS 3 147 146 ?_);(try clear j3 j4 j1 j2 j11 i0 i2 i1);refine qbb (N.row 4 rfl) rfl (.tmp 147) (.tmp 146) rfl 3 rfl (d3) rfl _ rfl (pcl (pU (167772161+sub) port d3 rport ⟨#[116,104,101,114,101]⟩)) rfl ?_;intro w9 R9 t9;replace N:=N.turn 4 rfl R9 t9;clear R9 t9)|((with_reducible refine qaa (.store 3 (.tmp 148) (.const (.int .i64 7))) rfl ?_);(try clear j3 j4 j1 j2 j11 i0 i2 i1);refine qbb (N.row 4 rfl) rfl (.tmp 148) (.const (.int .i64 7)) rfl 4 rfl (7) rfl _ rfl (pcl (pU (167772161+sub) port d3 7 ⟨#[116,104,101,114,101]⟩)) rfl ?_;intro w9 R9 t9;replace N:=N.turn 4 rfl R9 t9;clear R9 t9)|((with_reducible refine gL 61 18 ?_);refine lx 61 (.tmp 18) (pcl (pU (167772161+sub) port d3 7 ⟨#[116,104,101,114,101]⟩)) (N.row 4 rfl) ?_)|(go_at_call 38;go_fit (CF3 _);rintro e w5 ⟨rfl,hb5⟩;clear CF3;replace N:=N.below hb5;clear hb5)|((with_reducible refine qaa (.build 23 #[(0,.const (.int .i64 1)),(3,.tmp 151)]) rfl ?_);refine qhcb rfl (.tmp 151) rfl _ rfl ?_)|(go_at_call 18;refine(CD3 _ _ _ N.nat (HT.out.gr N.gr id) (N.zero HT.out id)).mono ?_;rintro e w5 ⟨rfl,F9,hN9,hg9,hf9⟩;clear CD3;replace N:=N.call hN9 hg9 hf9;clear hN9 hg9 hf9)|((with_reducible refine gA 27 ?_);refine ax 25 27 qan ?_;intro b25 w9 l9 R9 h9;refine m3q ?_;clear N;intro N;clear R9 h9 l9)|((with_reducible refine gS 27 25 153 ?_);refine sx 27 (.tmp 25) _ (Rp.cells ⟨c3,fr3,in3,lg3⟩) (N.row 0 rfl) ?_;refine m0j ?_;clear N;intro w9 N))
  rcases hr3 with hc3|⟨hc3,hfr3,hg3⟩
  ·subst hc3
   (have CW3:=fun w=>qch fr3 w hres)
   simp only[qgx] at CW3
   generalize qb9 fr3.data.toList=p3 at CW3
   generalize bad fr3.data.toList=e9 at CW3
   go_wp2_with (first|((with_reducible refine gL 9 155 ?_);refine qcm (N.row 0 rfl) (.tmp 155) rfl kr 1 rfl (fr3) (qe4 _) ?_)|(go_at_call 29;go_fit (CW3 _);rintro e w5 ⟨rfl,hb5⟩;clear CW3;replace N:=N.below hb5;clear hb5)|((with_reducible refine gA 61 ?_);refine ax 26 61 qbs ?_;intro b26 w9 l9 R9 h9;refine m1d ?_;clear N R9 h9 l9;intro N)|((with_reducible refine gS 61 26 158 ?_);refine sx 61 (.tmp 26) _ (pcl (p3)) (N.row 0 rfl) ?_;refine m0j ?_;clear N;intro w9 N;have i0:World.cell? _ ⟨b25,0,none⟩=some (.int .i64 6):=((N.row 1 rfl).cell 0).trans (qdt _)))
   exact sZtTpM1
  ·subst hc3
   rw[qg9b] at hfr3 hg3
   have l3:=qnk _ hg3;(have CW3:=fun w=>qch fr3 w hres)
   rw[hfr3] at CW3
   simp only[qgx,qds,(qev _ hg3).1,(qev _ hg3).2] at CW3
   rw[←hfr3] at CW3
   clear hfr3 hg3 l3
   go_wp2_with (first|((with_reducible refine gL 9 155 ?_);refine qcm (N.row 0 rfl) (.tmp 155) rfl kr 1 rfl (fr3) (qe4 _) ?_)|(go_at_call 29;go_fit (CW3 _);rintro e w5 ⟨rfl,hb5⟩;clear CW3;replace N:=N.below hb5;clear hb5)|((with_reducible refine gA 61 ?_);refine ax 26 61 qbs ?_;intro b26 w9 l9 R9 h9;refine m1d ?_;clear N R9 h9 l9;intro N)|((with_reducible refine gS 61 26 158 ?_);refine sx 61 (.tmp 26) _ (pcl (qU (3405803777+a) q d3 7 ⟨#[116,104,101,114,101]⟩)) (N.row 0 rfl) ?_;refine m0j ?_;clear N;intro w9 N;have i0:World.cell? _ ⟨b25,0,none⟩=some (.int .i64 0):=((N.row 1 rfl).cell 0).trans (qdt _);have j1:World.cell? _ ⟨b26,1,none⟩=some (.int .i64 (3405803777+a)):=(N.row 0 rfl).cell 1;have j2:World.cell? _ ⟨b26,2,none⟩=some (.int .i64 q):=(N.row 0 rfl).cell 2;have k1:World.cell? _ ⟨b20,1,none⟩=some (.int .i64 (3405803777+a)):=(N.row 4 rfl).cell 1;have k2:World.cell? _ ⟨b20,2,none⟩=some (.int .i64 q):=(N.row 4 rfl).cell 2))
   exact sZtTpM1
end Go.Proofs.YtonnjgmognbnbaaGreatDoor
