/-
  Of what a law stands on.
-/
import Derived.Test.YtonnjgmognbnbaaGreatDoorZtTpH
import Derived.Test.YtonnjgmognbnbaaGreatDoorZtTpR
set_option linter.unusedSimpArgs false
set_option linter.unusedVariables false
namespace Go.Proofs.YtonnjgmognbnbaaGreatDoor
open Go.Value renaming int → I,pointer → V
open Go.IntKind renaming i64 → Z
open _root_.Go.Proofs.Tryz Go.ChangeShapes Go.WideShapes Go.ChangeAt Go.RowKit Go.Maps
set_option maxHeartbeats 16000000
set_option maxRecDepth 100000
variable {p:Prop}
theorem qagb(kd an dr:Int)(af:ByteArray)(c:Int)(fr:ByteArray)(inn:Bool)(lg:ByteArray)(b:Nat)(W:World)(h:kd≠1):Calls prog 31 #[V (some ⟨b,0,none⟩),.agg (ac ⟨kd,an,dr,af⟩),.agg (Rp.cells ⟨c,fr,inn,lg⟩)] W fun e w'=>e=.returned (.bool true)/\Below W.heap.size W w':=by
 have B:=Bd.start W;(have h1:(kd==1)=false:=by simpa using h);(have h1n:(kd != 1)=true:=by simpa using h);clear h
 go_enter func31,ntmps31
 go_wp2_with (first|((with_reducible refine gB 23 1 ?_);refine m64 ?_;refine m72 ?_;clear B;intro b4 w9 B)|((with_reducible refine gB 27 2 ?_);refine m3d ?_;intro b5 w9 l9 R9 h9;replace B:=B.alloc l9 R9 h9;clear R9 h9 l9;have k0:World.cell? _ ⟨b4,0,none⟩=some (I Z kd):=(B.row 1 rfl).cell 0;refine m7l ?_;intro r0 r2))
 go_ret
 exact⟨rfl,B.base⟩
theorem q49(kd an dr:Int)(af:ByteArray)(c:Int)(fr:ByteArray)(inn:Bool)(lg:ByteArray)(b:Nat)(W:World)(h1:kd=1)(h:c≠0):Calls prog 31 #[V (some ⟨b,0,none⟩),.agg (ac ⟨kd,an,dr,af⟩),.agg (Rp.cells ⟨c,fr,inn,lg⟩)] W fun e w'=>e=.returned (.bool true)/\Below W.heap.size W w':=by
 have B:=Bd.start W
 subst h1
 (have h1:(c==0)=false:=by simpa using h);(have h1n:(c != 0)=true:=by simpa using h);clear h
 go_enter func31,ntmps31
 go_wp2_with (first|((with_reducible refine gB 23 1 ?_);refine m7x ?_;refine m72 ?_;clear B;intro b4 w9 B)|((with_reducible refine gB 27 2 ?_);refine m3d ?_;refine m6j ?_;clear B;intro b5 w9 B k0;refine m7l ?_;intro r0 r2))
 go_ret
 exact⟨rfl,B.base⟩
theorem q7o(kd an dr:Int)(af:ByteArray)(c:Int)(fr:ByteArray)(inn:Bool)(lg:ByteArray)(b:Nat)(W:World)(h1:kd=1)(h:c=0)(hi:inn=true):Calls prog 31 #[V (some ⟨b,0,none⟩),.agg (ac ⟨kd,an,dr,af⟩),.agg (Rp.cells ⟨c,fr,inn,lg⟩)] W fun e w'=>e=.returned (.bool true)/\Below W.heap.size W w':=by
 have B:=Bd.start W
 subst h1 h hi
 go_enter func31,ntmps31
 go_wp2_with (first|((with_reducible refine gB 23 1 ?_);refine m7x ?_;refine m72 ?_;clear B;intro b4 w9 B)|((with_reducible refine gB 27 2 ?_);refine bx 27 (.tmp 2) (Rp.cells ⟨0,fr,true,lg⟩) ?_;refine m6j ?_;clear B;intro b5 w9 B k0;have r0:World.cell? _ ⟨b5,0,none⟩=some (I Z 0):=((B.row 0 rfl).cell 0).trans (qdt _);have r2:World.cell? _ ⟨b5,2,none⟩=some (.bool true):=((B.row 0 rfl).cell 2).trans (qhx _)))
 go_ret
 exact⟨rfl,B.base⟩
theorem sZtTpU1(h:p:=by
 refine AR [15] ?_
 refine AP (fun K hK=>?_) ?_
 ·refine sy 50 (.tmp 11) (.tmp 49) (mc (xp.proto,xp.src-167772161,xp.sport,ma,mq)) (B.row 0 rfl) ?_;intro w9 R9 t9;replace B:=B.turn 0 rfl R9 t9;clear R9 t9 kS;(first|have kS:Row 61 _ b7 (pcl xp):=B.row 1 rfl|have kS:Row 61 _ b7 (pcl xp):=B.row 2 rfl)
  refine hK.out _ _ kS (fun _=>?_)
  clear hK K;(try simp only[ZZ]);refine tq 16 (.bool true) rfl kS ?_;refine m1f ?_;clear kS;have c1:World.cell? _ ⟨b9,1,none⟩=some (I Z (3405803777+ma)):=(B.row 1 rfl).cell 1;have c2:World.cell? _ ⟨b9,2,none⟩=some (I Z mq):=(B.row 1 rfl).cell 2;have c3:World.cell? _ ⟨b11,3,none⟩=some (I Z ma):=(B.row 0 rfl).cell 3;have c4:World.cell? _ ⟨b11,4,none⟩=some (I Z mq):=(B.row 0 rfl).cell 4
  go_upto_region 8 with fail
  clear c1 c2 c3 c4;have kS:Row 61 _ b7 (pcl xp):=B.row 2 rfl
  refine RD (fun W=>Row 61 W b7 (pcl xp)) kS (fun _=>?_)
  replace B:=B.drew;refine tq 0 (V (some ⟨b7,1,none⟩)) rfl kS (tk 1 (I Z xp.src) rfl (Or.inl ⟨by kernel_rfl,by intro w hS;have hc:=hS.cell 1;unfold pcl at hc;go_simp⟩) kS (tq 2 (V (some ⟨b7,2,none⟩)) rfl kS ?_));refine m5i ?_;refine tk 3 (I Z xp.sport) rfl (Or.inl ⟨by kernel_rfl,by intro w hS;have hc:=hS.cell 2;unfold pcl at hc;go_simp⟩) kS (tq 4 (V (some ⟨b9,5,none⟩)) rfl kS ?_);refine m5i ?_;refine AR [5] ?_
  refine AP (fun K hK=>?_) AZ
  refine qil (.tmp 80) rfl b9 5 kr (xp.ttl-1) ((B.row 1 rfl).cell 5) ?_
  refine hK.out _ _ kS (fun _=>?_)
  clear hK K;(try simp only[ZZ]);refine tk 6 (I Z xp.ttl) rfl (Or.inl ⟨by kernel_rfl,by intro w hS;go_simp;first|exact HW3.out|exact HW4.out⟩) kS (tq 7 (V (some ⟨b9,1,none⟩)) rfl kS ?_);refine m5i ?_;refine AR [8] ?_
  refine AP (fun K hK=>?_) AZ
  refine qd4 (B.row 1 rfl) (.tmp 83) (.tmp 77) rfl 1 kr (xp.src) kr _ rfl _ rfl ?_;refine m9c ?_;clear B kS;intro w9 B kS
  refine hK.out _ _ kS (fun _=>?_)
  clear hK K;(try simp only[ZZ]);refine tq 9 (V (some ⟨b9,2,none⟩)) rfl kS ?_;refine m5i ?_;refine AR [10] ?_
  refine AP (fun K hK=>?_) AZ
  refine qd4 (B.row 1 rfl) (.tmp 84) (.tmp 79) rfl 2 kr (xp.sport) kr _ rfl _ rfl ?_;refine m9c ?_;clear B kS;intro w9 B kS
  refine hK.out _ _ kS (fun _=>?_)
  clear hK K;(try simp only[ZZ]);refine tq 11 (V (some ⟨b9,5,none⟩)) rfl kS ?_;refine m5i ?_;refine AR [12] ?_
  refine AP (fun K hK=>?_) AZ
  refine qd4 (B.row 1 rfl) (.tmp 85) (.tmp 82) rfl 5 kr (xp.ttl) kr _ rfl _ rfl ?_;refine m9c ?_;clear B kS;intro w9 B kS
  refine hK.out _ _ kS (fun _=>?_)
  clear hK K;(try simp only[ZZ]);refine AN ?_;clear kS
  go_wp2_with (first|((with_reducible refine gL 61 9 ?_);refine lx 61 (.tmp 9) (pcl xp) (B.row 1 rfl) ?_)|((with_reducible refine gL 61 7 ?_);refine lx 61 (.tmp 7) (pcl xp) (B.row 2 rfl) ?_)|((with_reducible refine qaa (.binOp .eql 61 (.tmp 86) (.tmp 87) 61) rfl ?_);refine qb1 61 (.tmp 86) (.tmp 87) rfl kr (pcl xp) (pcl xp) rfl rfl eqGuardType61 _ _ (qo7 xp _) rfl ?_))
  go_ret
  exact⟨rfl,B.base⟩
 exact AZ):p:=h
theorem sZtTpU2(h:p:=by
 refine hK.out _ _ kS (fun _=>?_)
 clear hK K;(try simp only[ZZ]);refine AR [10] ?_
 refine AC (fun K hK=>?_) ?_
 ·go_simp
  go_at_call 32;refine(CF _ _ hm8).mono ?_;rintro e w8 ⟨rfl,hb8⟩;replace B:=B.below hb8;clear hb8 hm8 kS;(first|have kS:Row 61 _ b7 (pcl xp):=B.row 1 rfl|have kS:Row 61 _ b7 (pcl xp):=B.row 2 rfl)
  go_wp2_with fail
  refine hK.out _ _ kS (fun _=>?_)
  clear hK K;(try simp only[ZZ]);refine m5x ?_;refine m5i ?_
  exact sZtTpU1
 exact AZ):p:=h
theorem q6c(kd an dr:Int)(af:ByteArray)(c:Int)(fr:ByteArray)(inn:Bool)(lg:ByteArray)(b:Nat)(W:World)(h1:kd=1)(h0:c=0)(hi:inn=false)(s:Nt)(F:Nat->Prop)(hN:qaw W b s (duF s.fs) F)(hml:s.ms.length<=1000)(xp:Pkt)(ma mq:Int)(hb:bad af.data.toList=0)(hx:qam af.data.toList=xp)(haf:af.size<=140737488351232)(hgy:good ({ xp with ttl:=xp.ttl-1,src:=3405803777+ma,sport:=mq }:Pkt)=0)(hfr:fr=txt (frame { xp with ttl:=xp.ttl-1,src:=3405803777+ma,sport:=mq }))(hf:s.ms.find? (inS xp.proto (xp.src-167772161) xp.sport)=some (xp.proto,xp.src-167772161,xp.sport,ma,mq))(hr1:0<=xp.src/\xp.src<=4294967295)(hr2:1<=xp.ttl/\xp.ttl<=255)(hr3:0<=ma/\ma<3):Calls prog 31 #[V (some ⟨b,0,none⟩),.agg (ac ⟨kd,an,dr,af⟩),.agg (Rp.cells ⟨c,fr,inn,lg⟩)] W fun e w'=>e=.returned (.bool true)/\Below W.heap.size W w':=by
 have B:=Bd.start W;(have CP:=fun w=>qch af w haf)
 simp only[qgx,qb9,hb,hx,if_pos] at CP
 have hlen:=qnk _ hgy;(have CQ:=fun w=>qch fr w (by rw[hfr,qck];omega))
 rw[hfr] at CQ
 simp only[qgx,qds,(qev _ hgy).1,(qev _ hgy).2] at CQ
 rw[←hfr] at CQ
 (have CT:=fun W (hN:qaw W b s (duF s.fs) F)=>qfa hN hml);(have CF:=fun W sl (hM:qaz W sl s.ms)=>qlo s.f s.g s.h sl s.ms xp.proto (xp.src-167772161) xp.sport W hM)
 rw[hf] at CF
 change ∀W sl,qaz W sl s.ms->Calls prog 32 _ W (fun e w'=>e=.returned (.tuple #[.agg (mc (xp.proto,xp.src-167772161,xp.sport,ma,mq)),.bool true])/\Below W.heap.size W w') at CF
 have HW1:Hid (IntKind.i64.wrap (xp.src-167772160)=xp.src-167772160):=hidN (by rw[IntKind.wrap_i64];omega);have HW2:Hid (IntKind.i64.wrap (xp.src-167772160-1)=xp.src-167772161):=hidN (by rw[IntKind.wrap_i64];omega);refine m8o ?_;intro HW3 HW4;(have hwa:wrap64 (3405803777+ma)=3405803777+ma:=by unfold wrap64;omega);(have hnn:((3405803777+ma) != (3405803777+ma))=false:=by simp);(have hnq:(mq != mq)=false:=by simp)
 subst h1 h0 hi
 clear hb hx haf hgy hfr hlen hf hr1 hr2 hr3 hml
 generalize s.ms.length=nm at CT
 go_enter func31,ntmps31
 go_upto_region 5 with(first|((with_reducible refine gB 23 1 ?_);refine m7x ?_;refine m72 ?_;clear B;intro b4 w9 B)|((with_reducible refine gB 27 2 ?_);refine bx 27 (.tmp 2) (Rp.cells ⟨0,fr,false,lg⟩) ?_;refine m6j ?_;clear B;intro b5 w9 B k0;have r0:World.cell? _ ⟨b5,0,none⟩=some (I Z 0):=((B.row 0 rfl).cell 0).trans (qdt _);have r2:World.cell? _ ⟨b5,2,none⟩=some (.bool false):=((B.row 0 rfl).cell 2).trans (qhx _))|((with_reducible refine gL 9 26 ?_);refine qcm (B.row 1 rfl) (.tmp 26) rfl kr 3 rfl (af) (rfl) ?_)|(go_at_call 29;first|(go_fit (CP _);rintro e w5 ⟨rfl,hb5⟩;clear CP;replace B:=B.below hb5;clear hb5)|(go_fit (CQ _);rintro e w5 ⟨rfl,hb5⟩;clear CQ;replace B:=B.below hb5;clear hb5))|((with_reducible refine gA 61 ?_);refine m69 ?_;intro b7 w9 l9 R9 h9;replace B:=B.alloc l9 R9 h9;clear R9 h9 l9)|((with_reducible refine gS 61 7 29 ?_);refine sx 61 (.tmp 7) _ (pcl xp) (B.row 0 rfl) ?_;refine m31 ?_;clear B;intro w9 B)|((with_reducible refine gL 9 32 ?_);refine qcm (B.row 1 rfl) (.tmp 32) rfl kr 1 rfl (fr) (qe4 _) ?_)|((with_reducible refine gA 61 ?_);refine ax 9 61 qbs ?_;intro b9 w9 l9 R9 h9;replace B:=B.alloc l9 R9 h9;clear R9 h9 l9)|((with_reducible refine gS 61 9 35 ?_);refine sx 61 (.tmp 9) _ (pcl { xp with ttl:=xp.ttl-1,src:=3405803777+ma,sport:=mq }) (B.row 0 rfl) ?_;refine m31 ?_;clear B;intro w9 B))
 clear k0 r0 r2;have kS:=B.row 1 rfl
 refine RD (fun W=>Row 61 W b7 (pcl xp)) kS (fun _=>?_)
 replace B:=B.drew;refine tq 0 (V (some ⟨b,0,none⟩)) rfl kS (tq 2 (V (some ⟨b7,0,none⟩)) rfl kS (tk 3 (I Z xp.proto) rfl (Or.inl ⟨by kernel_rfl,by intro w hS;have hc:=hS.cell 0;unfold pcl at hc;go_simp⟩) kS ?_));refine m5i ?_;refine tq 4 (V (some ⟨b7,1,none⟩)) rfl kS (tk 5 (I Z xp.src) rfl (Or.inl ⟨by kernel_rfl,by intro w hS;have hc:=hS.cell 1;unfold pcl at hc;go_simp⟩) kS (tk 6 (I Z (xp.src-167772160)) rfl (Or.inl ⟨by kernel_rfl,by intro w hS;go_simp;exact HW1.out⟩) kS ?_));refine m5i ?_;refine tk 7 (I Z (xp.src-167772161)) rfl (Or.inl ⟨by kernel_rfl,by intro w hS;go_simp;exact HW2.out⟩) kS (tq 8 (V (some ⟨b7,2,none⟩)) rfl kS (tk 9 (I Z xp.sport) rfl (Or.inl ⟨by kernel_rfl,by intro w hS;have hc:=hS.cell 2;unfold pcl at hc;go_simp⟩) kS ?_));refine m5i ?_;refine AR [1,14] ?_
 refine AC (fun K hK=>?_) ?_
 ·go_simp
  go_at_call 21;refine(CT _ (hN.below B.base)).mono ?_;rintro e w8 ⟨sa,kc,rfl,hm8,-,-,hb8⟩;replace B:=B.below hb8;clear hb8 kS;(first|have kS:Row 61 _ b7 (pcl xp):=B.row 1 rfl|have kS:Row 61 _ b7 (pcl xp):=B.row 2 rfl)
  go_wp2_with fail
  refine hK.out _ _ kS (fun _=>?_)
  clear hK K;(try simp only[ZZ]);refine AR [10,14] ?_
  refine AC (fun K hK=>?_) ?_
  ·go_simp
   go_at_call 32;refine(CF _ _ hm8).mono ?_;rintro e w8 ⟨rfl,hb8⟩;replace B:=B.below hb8;clear hb8 hm8 kS;(first|have kS:Row 61 _ b7 (pcl xp):=B.row 1 rfl|have kS:Row 61 _ b7 (pcl xp):=B.row 2 rfl)
   go_wp2_with fail
   refine hK.out _ _ kS (fun _=>?_)
   clear hK K;(try simp only[ZZ]);refine m5x ?_;refine m5i ?_;refine AR [14] ?_
   refine AP (fun K hK=>?_) AZ
   refine qax 50 rfl (mc noM) qci ?_;intro b11 w9 l9 R9 h9;(try replace hm8:=hm8.below h9);replace B:=B.alloc l9 R9 h9;clear R9 h9 l9;(first|have kS:Row 61 _ b7 (pcl xp):=B.row 1 rfl|have kS:Row 61 _ b7 (pcl xp):=B.row 2 rfl)
   refine hK.out _ _ kS (fun _=>?_)
   clear hK K;(try simp only[ZZ])
   exact sZtTpU1
  refine AP (fun K hK=>?_) AZ
  refine qax 50 rfl (mc noM) qci ?_;intro b11 w9 l9 R9 h9;(try replace hm8:=hm8.below h9);replace B:=B.alloc l9 R9 h9;clear R9 h9 l9;(first|have kS:Row 61 _ b7 (pcl xp):=B.row 1 rfl|have kS:Row 61 _ b7 (pcl xp):=B.row 2 rfl)
  exact sZtTpU2
 refine AP (fun K hK=>?_) AZ
 refine qax 50 rfl (mc noM) qci ?_;intro b11 w9 l9 R9 h9;(try replace hm8:=hm8.below h9);replace B:=B.alloc l9 R9 h9;clear R9 h9 l9;(first|have kS:Row 61 _ b7 (pcl xp):=B.row 1 rfl|have kS:Row 61 _ b7 (pcl xp):=B.row 2 rfl)
 refine hK.out _ _ kS (fun _=>?_)
 clear hK K;(try simp only[ZZ]);refine AR [1] ?_
 refine AC (fun K hK=>?_) AZ
 go_simp
 go_at_call 21;refine(CT _ (hN.below B.base)).mono ?_;rintro e w8 ⟨sa,kc,rfl,hm8,-,-,hb8⟩;replace B:=B.below hb8;clear hb8 kS;(first|have kS:Row 61 _ b7 (pcl xp):=B.row 1 rfl|have kS:Row 61 _ b7 (pcl xp):=B.row 2 rfl)
 go_wp2_with fail
 exact sZtTpU2
theorem q6x(loose:Bool):Look loose 31 #[] (fun _ G _=>∀c,¬G c):=by
 refine⟨fun args w=>by kernel_rfl,fun h _ _=>h,fun h c hc=>absurd hc (h c),?_⟩
 intro l a W b F G hl ha hN hT hF0 hd hG;have hinv:=qjr loose l om;have hO:=q7y hinv.ci a;have hC:=hinv.ci.act a;(have fin:∀e w',(e=Ending.returned (Value.bool true)/\Below W.heap.size W w')->e=.returned (.bool true)/\∃G':Nat->Prop,(∀c,¬G' c)/\Gr G W w'/\∀c,G' c->G c\/W.heap.size<=c:=fun e w' h=>⟨h.1,G,hG,Gr.of_below h.2,fun c hc=>.inl hc⟩)
 generalize((nt0 loose).runs l).act a=r at *
 obtain⟨⟨c,fr,inn,lg⟩,s2⟩:=r;obtain⟨kd,an,dr,af⟩:=a
 simp only at hO hC hN
 by_cases h1:kd=1
 ·by_cases h0:c=0
  ·cases hi:inn with
   | true=>exact(q7o kd an dr af c fr true lg b W h1 h0 rfl).mono fin
   | false=>
    obtain⟨m,hb,hm,hf,ha3,hq,hs,_,hg,hfr⟩:=hO h1 h0 hi
    obtain⟨m1,m2,m3⟩:=(qsm _ _ _ _).1 (List.find?_some hf);have hrr:=(qdu _).1 (qde _ (qgi _ hb).2.2).2.1;have hml:=hC.good.len;obtain⟨mp,msb,mi,ma,mq⟩:=m
    simp only at m1 m2 m3 ha3 hq hfr hg hf
    rw[q6w] at hfr hg
    subst m1 m2 m3
    refine(q6c kd an dr af c fr false lg b W h1 h0 rfl s2 F hN om (qam af.data.toList) ma mq hb rfl ha.2.2.2 hg hfr hf ⟨hrr.1,hrr.2.1⟩ om ha3).mono fin
  ·exact(q49 kd an dr af c fr inn lg b W h1 h0).mono fin
 ·exact(qagb kd an dr af c fr inn lg b W h1).mono fin
theorem topOut_walk(a0:Bool)(sl:Value)(es:List Ac)(W:World)(hS:AcIn W sl es)(hT:Tab W):Calls prog 6 #[.bool a0,sl] W fun e w'=>e=.returned (.bool true)/\Below W.heap.size W w':=by
 have CP:=qjp (G0:=fun _=>False) (q6x a0) sl es W hS.1 hS.2 hT id (fun _ h=>h) (fun _ h=>h);obtain⟨x0,cap,hsl⟩:=hS.1.slice
 generalize es.length=n at *
 subst hsl
 clear hS
 go_enter func6,ntmps6
 go_wp2_with (go_at_call 23;go_fit CP;rintro e w1 ⟨b,rfl,F,G,hP⟩;clear CP;have hB:=hP.gr.below (B:=W.heap.size) (fun _ h=>h.elim) (Nat.le_refl _);clear hP)
 go_ret
 exact⟨rfl,hB⟩
end Go.Proofs.YtonnjgmognbnbaaGreatDoor
