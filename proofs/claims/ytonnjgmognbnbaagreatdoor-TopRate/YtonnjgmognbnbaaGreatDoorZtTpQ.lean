/-
  Of what a law stands on.
-/
import Derived.Test.YtonnjgmognbnbaaGreatDoorZtTpH
set_option linter.unusedSimpArgs false
set_option linter.unusedVariables false
namespace Go.Proofs.YtonnjgmognbnbaaGreatDoor
open Go.Value renaming int → I,pointer → V
open Go.IntKind renaming i64 → Z
open _root_.Go.Proofs.Tryz Go.ChangeShapes Go.WideShapes Go.ChangeAt Go.RowKit Go.Maps
set_option maxHeartbeats 16000000
set_option maxRecDepth 100000
variable {p:Prop}
theorem q22(loose:Bool)(bt bm:Nat)(hne:bt≠bm)(G:Nat->Prop)(hGi:G bt/\G bm)(told may:Int)(kd an dr:Int)(af:ByteArray)(c:Int)(fr:ByteArray)(inn:Bool)(lg:ByteArray)(b:Nat)(W:World)(Rt:Row 3 W bt #[I Z told])(Rm:Row 3 W bm #[I Z may])(h3:kd=3)(h0:c=0)(hw:wrap64 (may+min an 4)=may+min an 4)(hle:told<=may+min an 4):Calls prog 45 #[V (some ⟨b,0,none⟩),.agg (ac ⟨kd,an,dr,af⟩),.agg (Rp.cells ⟨c,fr,inn,lg⟩),V (some ⟨bm,0,none⟩),V (some ⟨bt,0,none⟩)] W fun e w'=>e=.returned (.bool true)/\Gr G W w'/\Row 3 w' bt #[I Z told]/\Row 3 w' bm #[I Z (may+min an 4)]:=by
 refine m2f ?_;intro hG HNE HGI HLT;clear hne hGi;have HW:Hid (wrap64 (may+min an 4)=may+min an 4):=hw
 subst h3 h0
 go_enter func45,ntmps45
 go_wp2_with (first|((with_reducible refine gB 23 1 ?_);refine bx 23 (.tmp 1) (ac ⟨3,an,dr,af⟩) ?_;intro b6 w9 l9 R6 h9;have hl6:W.heap.size<=b6:=Nat.le_trans hG.size l9;refine m1r ?_;clear hG Rt Rm h9 l9;intro hG Rt Rm)|((with_reducible refine gB 27 2 ?_);refine m9e ?_;intro b7 w9 l9 R7 h9;have hl7:W.heap.size<=b7:=Nat.le_trans hG.size l9;replace R6:=R6.below h9;refine m1r ?_;clear hG Rt Rm h9 l9;intro hG Rt Rm;have k0:World.cell? _ ⟨b6,0,none⟩=some (I Z 3):=R6.cell 0;refine m1a ?_;intro k1 k3 r0 r1 r2)|((with_reducible refine qaa (.call { callee:=.builtin .min,args:=#[.tmp 19,.const (I Z 4)],argTypes:=#[3,3] }) rfl ?_);refine qpz rfl (.tmp 19) rfl _ rfl ?_)|((with_reducible refine gS 3 3 21 ?_);clear k0 k1 k3 r0 r1 r2;refine qbb Rm rfl (.tmp 3) (.tmp 21) rfl 0 rfl (may+min an 4) (by first|rfl|(simp only[Act.eval,HW.out];rfl)|exact congrArg (Value.int .i64) HW.out) _ rfl _ rfl ?_;intro w9 R9 t9;replace hG:=hG.trans (qcq t9) (fun x hx=>.inl (by rw[hx];exact HGI.out.2));replace Rt:Row 3 w9 _ _:=(t9.other _ HNE.out.1).trans Rt;replace R6:Row 23 w9 b6 _:=(t9.other b6 (by have:=HLT.out;omega)).trans R6;replace R7:Row 27 w9 b7 _:=(t9.other b7 (by have:=HLT.out;omega)).trans R7;replace Rm:=R9;clear R9 t9;have k0:World.cell? _ ⟨b6,0,none⟩=some (I Z 3):=R6.cell 0;refine m1a ?_;intro k1 k3 r0 r1 r2)|((with_reducible refine gL 3 3 ?_);refine fx Rm (.tmp 3) 0 _ ?_)|((with_reducible refine gL 3 4 ?_);refine fx Rt (.tmp 4) 0 _ ?_))
 go_ret
 exact⟨rfl,hG,Rt,Rm⟩
theorem q8q(loose:Bool)(bt bm:Nat)(hne:bt≠bm)(G:Nat->Prop)(hGi:G bt/\G bm)(told may:Int)(kd an dr:Int)(af:ByteArray)(c:Int)(fr:ByteArray)(inn:Bool)(lg:ByteArray)(b:Nat)(W:World)(Rt:Row 3 W bt #[I Z told])(Rm:Row 3 W bm #[I Z may])(h3:kd≠3)(h0:c=0)(hle:told<=may):Calls prog 45 #[V (some ⟨b,0,none⟩),.agg (ac ⟨kd,an,dr,af⟩),.agg (Rp.cells ⟨c,fr,inn,lg⟩),V (some ⟨bm,0,none⟩),V (some ⟨bt,0,none⟩)] W fun e w'=>e=.returned (.bool true)/\Gr G W w'/\Row 3 w' bt #[I Z told]/\Row 3 w' bm #[I Z may]:=by
 refine m2f ?_;intro hG HNE HGI HLT;clear hne hGi;(have h3':(kd==3)=false:=by simpa using h3)
 subst h0
 clear h3
 go_enter func45,ntmps45
 go_wp2_with (first|((with_reducible refine gB 23 1 ?_);refine m64 ?_;intro b6 w9 l9 R6 h9;have hl6:W.heap.size<=b6:=Nat.le_trans hG.size l9;refine m1r ?_;clear hG Rt Rm h9 l9;intro hG Rt Rm)|((with_reducible refine gB 27 2 ?_);refine m9e ?_;intro b7 w9 l9 R7 h9;have hl7:W.heap.size<=b7:=Nat.le_trans hG.size l9;replace R6:=R6.below h9;refine m1r ?_;clear hG Rt Rm h9 l9;intro hG Rt Rm;have k0:World.cell? _ ⟨b6,0,none⟩=some (I Z kd):=R6.cell 0;refine m1a ?_;intro k1 k3 r0 r1 r2)|((with_reducible refine gL 3 3 ?_);refine fx Rm (.tmp 3) 0 _ ?_)|((with_reducible refine gL 3 4 ?_);refine fx Rt (.tmp 4) 0 _ ?_))
 go_ret
 exact⟨rfl,hG,Rt,Rm⟩
theorem sZtTpQ1(h:p:=by
 go_enter func45,ntmps45
 go_wp2_with (first|((with_reducible refine gB 23 1 ?_);refine m64 ?_;intro b6 w9 l9 R6 h9;have hl6:W.heap.size<=b6:=Nat.le_trans hG.size l9;refine m1r ?_;clear hG h9 l9;intro hG Rt Rm)|((with_reducible refine gB 27 2 ?_);refine bx 27 (.tmp 2) (Rp.cells ⟨c,ByteArray.empty,inn,lg⟩) ?_;intro b7 w9 l9 R7 h9;have hl7:W.heap.size<=b7:=Nat.le_trans hG.size l9;replace R6:=R6.below h9;refine m1r ?_;clear hG Rt Rm h9 l9;intro hG Rt Rm;have k0:World.cell? _ ⟨b6,0,none⟩=some (I Z kd):=R6.cell 0;have k1:World.cell? _ ⟨b6,1,none⟩=some (I Z an):=R6.cell 1;have k3:World.cell? _ ⟨b6,3,none⟩=some (.string af):=R6.cell 3;have r0:World.cell? _ ⟨b7,0,none⟩=some (I Z c):=(R7.cell 0).trans (qdt _);have r1:World.cell? _ ⟨b7,1,none⟩=some (.string ByteArray.empty):=(R7.cell 1).trans (qe4 _);have r2:World.cell? _ ⟨b7,2,none⟩=some (.bool inn):=(R7.cell 2).trans (qhx _))|((with_reducible refine gL 3 3 ?_);refine fx Rm (.tmp 3) 0 _ ?_)|((with_reducible refine gL 3 4 ?_);refine fx Rt (.tmp 4) 0 _ ?_))
 go_ret
 exact⟨rfl,hG,Rt,Rm⟩):p:=h
theorem qts(loose:Bool)(bt bm:Nat)(hne:bt≠bm)(G:Nat->Prop)(hGi:G bt/\G bm)(told may:Int)(kd an dr:Int)(af:ByteArray)(c:Int)(fr:ByteArray)(inn:Bool)(lg:ByteArray)(b:Nat)(W:World)(Rt:Row 3 W bt #[I Z told])(Rm:Row 3 W bm #[I Z may])(h0:c≠0)(hf:fr=ByteArray.empty)(hle:told<=may):Calls prog 45 #[V (some ⟨b,0,none⟩),.agg (ac ⟨kd,an,dr,af⟩),.agg (Rp.cells ⟨c,fr,inn,lg⟩),V (some ⟨bm,0,none⟩),V (some ⟨bt,0,none⟩)] W fun e w'=>e=.returned (.bool true)/\Gr G W w'/\Row 3 w' bt #[I Z told]/\Row 3 w' bm #[I Z may]:=by
 refine m2f ?_;intro hG HNE HGI HLT;clear hne hGi
 subst hf
 (have h0':(c==0)=false:=by simpa using h0);(have h0n:(c != 0)=true:=by simpa using h0);clear h0
 cases h3':(kd==3) with
 | true=>
  exact sZtTpQ1
 | false=>
  exact sZtTpQ1
theorem q2e(loose:Bool)(bt bm:Nat)(hne:bt≠bm)(G:Nat->Prop)(hGi:G bt/\G bm)(told may:Int)(kd an dr:Int)(af:ByteArray)(c:Int)(fr:ByteArray)(inn:Bool)(lg:ByteArray)(b:Nat)(W:World)(Rt:Row 3 W bt #[I Z told])(Rm:Row 3 W bm #[I Z may])(h1:kd=1)(h0:c≠0)(hi:inn=true)(hs:fr.size=56)(ha:28<=af.size)(hx:fr.extract 28 56=af.extract 0 28)(hw:wrap64 (told+1)=told+1)(hle:told+1<=may):Calls prog 45 #[V (some ⟨b,0,none⟩),.agg (ac ⟨kd,an,dr,af⟩),.agg (Rp.cells ⟨c,fr,inn,lg⟩),V (some ⟨bm,0,none⟩),V (some ⟨bt,0,none⟩)] W fun e w'=>e=.returned (.bool true)/\Gr G W w'/\Row 3 w' bt #[I Z (told+1)]/\Row 3 w' bm #[I Z may]:=by
 refine m2f ?_;intro hG HNE HGI HLT;clear hne hGi;have HW:Hid (wrap64 (told+1)=told+1):=hw
 subst h1 hi
 (have h0':(c==0)=false:=by simpa using h0);(have h0n:(c != 0)=true:=by simpa using h0);have hne2:fr.toList.isEmpty=false:=ql2 (s:=fr) om;(have z1:(28:Int)<=(af.size:Int):=by omega);clear h0
 go_enter func45,ntmps45
 go_upto_region 5 with(first|((with_reducible refine gB 23 1 ?_);refine m7x ?_;intro b6 w9 l9 R6 h9;have hl6:W.heap.size<=b6:=Nat.le_trans hG.size l9;refine m1r ?_;clear hG Rt Rm h9 l9;intro hG Rt Rm)|((with_reducible refine gB 27 2 ?_);refine bx 27 (.tmp 2) (Rp.cells ⟨c,fr,true,lg⟩) ?_;intro b7 w9 l9 R7 h9;have hl7:W.heap.size<=b7:=Nat.le_trans hG.size l9;replace R6:=R6.below h9;refine m1r ?_;clear hG Rt Rm h9 l9;intro hG Rt Rm;refine m2u ?_;intro k0 k1 k3 r0 r1 r2)|((with_reducible refine gS 3 4 31 ?_);clear k0 k1 k3 r0 r1 r2;refine qbb Rt rfl (.tmp 4) (.tmp 31) rfl 0 rfl (told+1) (by first|rfl|(simp only[Act.eval,HW.out];rfl)|exact congrArg (Value.int .i64) HW.out) _ rfl _ rfl ?_;intro w9 R9 t9;replace hG:=hG.trans (qcq t9) (fun x hx=>.inl (by rw[hx];exact HGI.out.1));replace Rm:Row 3 w9 _ _:=(t9.other _ HNE.out.2).trans Rm;replace R6:Row 23 w9 b6 _:=(t9.other b6 (by have:=HLT.out;omega)).trans R6;replace R7:Row 27 w9 b7 _:=(t9.other b7 (by have:=HLT.out;omega)).trans R7;replace Rt:=R9;clear R9 t9;refine m2u ?_;intro k0 k1 k3 r0 r1 r2)|((with_reducible refine gL 3 3 ?_);refine fx Rm (.tmp 3) 0 _ ?_)|((with_reducible refine gL 3 4 ?_);refine fx Rt (.tmp 4) 0 _ ?_))
 go_quiet (fail)
 go_wp2_with (first|((with_reducible refine gL 3 3 ?_);refine fx Rm (.tmp 3) 0 _ ?_)|((with_reducible refine gL 3 4 ?_);refine fx Rt (.tmp 4) 0 _ ?_))
 go_ret
 exact⟨rfl,⟨hG.os,hG.tape,hG.output,hG.size,hG.block⟩,Rt,Rm⟩
def JR(loose:Bool)(bt bm:Nat)(l:List Ac)(G:Nat->Prop)(W:World):Prop:=(∃told may:Int,Row 3 W bt #[I Z told]/\Row 3 W bm #[I Z may]/\0<=told/\told+(((nt0 loose).runs l).left:Int)<=may/\may<=4+4*(l.length:Int))/\bt≠bm/\∀c,G c↔(c=bt\/c=bm)
theorem sZtTpQ2(h:p:=by
 rintro e w' ⟨he,hh⟩
 exact⟨he,fin told may h3 om om w' hh⟩):p:=h
theorem q2p(loose:Bool)(bt bm:Nat):Look loose 45 #[V (some ⟨bm,0,none⟩),V (some ⟨bt,0,none⟩)] (JR loose bt bm):=by
 refine⟨fun args w=>by kernel_rfl,?_,?_,?_⟩
 ·rintro l G H W W' ⟨⟨told,may,h1,h2,h3⟩,hne,hG⟩ hg hd
  exact⟨⟨told,may,(hg.block _ h1.lt (fun hh=>hd _ hh ((hG _).2 (.inl rfl)))).trans h1,(hg.block _ h2.lt (fun hh=>hd _ hh ((hG _).2 (.inr rfl)))).trans h2,h3⟩,hne,hG⟩
 ·rintro l G W ⟨⟨told,may,h1,h2,h3⟩,hne,hG⟩ c hc
  rcases(hG c).1 hc with rfl|rfl
  ·exact h1.lt
  ·exact h2.lt
 ·rintro l a W b F G hl ha hN hT hF0 hd ⟨⟨told,may,h1,h2,h3,h4,h5⟩,hne,hG⟩;have hinv:=qjr loose l om;have hR:=qtc ((nt0 loose).runs l) a;have hS:=q16 hinv.ci a
  have fin:∀told' may':Int,0<=told'->told'+((((nt0 loose).runs l).act a).2.left:Int)<=may'->may'<=4+4*((l.length:Int)+1)->∀w',(Gr G W w'/\Row 3 w' bt #[I Z told']/\Row 3 w' bm #[I Z may'])->∃G',JR loose bt bm (l++[a]) G' w'/\Gr G W w'/\∀c,G' c->G c\/W.heap.size<=c:=by
   rintro told' may' e1 e2 e3 w' ⟨g1,g2,g3⟩
   refine⟨G,⟨⟨told',may',g2,g3,e1,by rw[qih];exact e2,by rw[List.length_append];simpa using e3⟩,hne,hG⟩,g1,fun c hc=>.inl hc⟩
  have hGi:G bt/\G bm:=⟨(hG _).2 (.inl rfl),(hG _).2 (.inr rfl)⟩;have hlt:=h1.lt;(have hle:told<=may:=by omega)
  generalize((nt0 loose).runs l).act a=r at *
  obtain⟨⟨c,fr,inn,lg⟩,s2⟩:=r;obtain⟨kd,an,dr,af⟩:=a
  simp only at hR hS fin
  by_cases h3k:kd=3
  ·obtain⟨hf,ho,hn⟩:=hS.2 h3k
   by_cases h0:c=0
   ·obtain⟨q1,q2⟩:=ho h0;refine(q22 loose bt bm hne G hGi told may kd an dr af c fr inn lg b W h1 h2 h3k h0 (by unfold wrap64;omega) om).mono ?_;rintro e w' ⟨he,hh⟩
    exact⟨he,fin told (may+min an 4) h3 om om w' hh⟩
   ·have q:=hn h0;refine(qts loose bt bm hne G hGi told may kd an dr af c fr inn lg b W h1 h2 h0 hf hle).mono ?_
    exact sZtTpQ2
  ·obtain⟨q1,q2⟩:=hS.1 h3k
   simp only at q1 q2
   by_cases h0:c=0
   ·refine(q8q loose bt bm hne G hGi told may kd an dr af c fr inn lg b W h1 h2 h3k h0 hle).mono ?_
    exact sZtTpQ2
   ·by_cases hf:fr=ByteArray.empty
    ·refine(qts loose bt bm hne G hGi told may kd an dr af c fr inn lg b W h1 h2 h0 hf hle).mono ?_
     exact sZtTpQ2
    ·have q3:=q2 h0 hf
     rcases hR with(h|⟨h,_⟩)|⟨hk1,_,hi,hb,id,h⟩
     ·exact absurd h hf
     ·exact absurd h h0
     ·have hi:inn=true:=hi;have h:fr=txt (qff (qam af.data.toList).src id (af.data.toList.take 28)):=h
      have hl2:28<=af.data.toList.length:=by
       obtain⟨H,P,_⟩:=qgi _ hb
       have:=qge _ H.kind
       have:=P.len
       omega
      (have hx28:(af.data.toList.take 28).length=28:=by rw[List.length_take];omega);(have hrl:(qff (qam af.data.toList).src id (af.data.toList.take 28)).length=56:=by unfold qff;rw[qk9];omega);(have hs56:fr.size=56:=by rw[h,qck];exact hrl);(have has:28<=af.size:=by rw[qb6] at hl2;exact hl2)
      have hX:fr.extract 28 56=af.extract 0 28:=by
       rw[h,qxy,qxy,qds];have e:(qff (qam af.data.toList).src id (af.data.toList.take 28)).drop 28=af.data.toList.take 28:=rfl
       rw[e,List.take_of_length_le (by rw[hx28];omega)]
       rfl
      refine(q2e loose bt bm hne G hGi told may kd an dr af c fr inn lg b W h1 h2 hk1 h0 hi hs56 has hX (by unfold wrap64;omega) om).mono ?_;rintro e w' ⟨he,hh⟩
      exact⟨he,fin (told+1) may om om om w' hh⟩
theorem qt5{ops:Array Oper}{rest:List Oper}{o:Oper}{a:Act}{w:World}{Q:Exit->Act->World->Prop}(hgd:o.guard=none)(ho:o.op=.alloc 3)(hr:∀b w',w.heap.size<=b->Row 3 w' b #[I Z 0]->Below w.heap.size w w'->wpList prog ops Q rest (a.put o.dst (V (some ⟨b,0,none⟩))) w'):wpList prog ops Q (o::rest) a w:=
 wpList_plain hgd fun K hK=>by
  have h':=hr w.heap.size (w.alloc (.cells #[I Z 0] 3)) (Nat.le_refl _) (Row.new _ w _) ((Below.refl _ _).alloc (Nat.le_refl _) _);(have e:(Instr.alloc 3 true (.tuple #[])).run prog w=.ok (V (some ⟨w.heap.size,0,none⟩)) (w.alloc (.cells #[I Z 0] 3)):=by kernel_rfl)
  unfold Oper.wp execOp
  simp only[ho,Sem.run_bind,e,Result.andThen_ok,Sem.run_pure]
  exact hK _ _ h'
theorem topRate_walk(a0:Bool)(sl:Value)(es:List Ac)(W:World)(hS:AcIn W sl es)(hT:Tab W):Calls prog 12 #[.bool a0,sl] W fun e w'=>e=.returned (.bool true)/\Below W.heap.size W w':=by
 refine m63 ?_;intro HS HT;(have CP:=fun bt bm W' G0 (hJ:JR a0 bt bm [] G0 W') (hB:Below W.heap.size W W') (hg:∀c,G0 c->W.heap.size<=c)=>qjp (q2p a0 bt bm) sl es W' (HS.out.1.below hB) HS.out.2 (HT.out.below hB) (fun h=>by have:=hg 0 h;have:=HT.out.lt;omega) hJ (fun h0 h=>by have:=hg _ h;have:=HS.out.1.lt h0;omega));have B:=Bd.start W;obtain⟨x0,cap,hsl⟩:=hS.1.slice
 generalize es.length=n at *
 subst hsl
 clear hS hT
 go_enter func12,ntmps12
 go_wp2_with (first|((with_reducible refine gA 3 ?_);refine qt5 rfl rfl ?_;first|(intro b6 w9 l9 R9 h9;have HN56:Hid (b5≠b6):=hidN (fun e=>by have:=(B.row 0 rfl).lt;omega);refine m6v ?_;clear B R9 h9 l9;intro HL6 B)|(refine m4x ?_;clear B;intro b5 w9 HL5 B))|((with_reducible refine qaa (.store 3 (.tmp 5) (.const (I Z 0))) rfl ?_);refine qbb (B.row 1 rfl) rfl (.tmp 5) (.const (I Z 0)) rfl 0 rfl 0 rfl _ rfl _ rfl ?_;intro w9 R9 t9;replace B:=B.turn 1 rfl R9 t9;clear R9 t9)|((with_reducible refine qaa (.store 3 (.tmp 6) (.const (I Z 4))) rfl ?_);refine qbb (B.row 0 rfl) rfl (.tmp 6) (.const (I Z 4)) rfl 0 rfl 4 rfl _ rfl _ rfl ?_;refine m31 ?_;clear B;intro w9 B)|(go_at_call 23;refine(CP b5 b6 _ (fun c=>c=b5\/c=b6) ⟨⟨0,4,B.row 1 rfl,B.row 0 rfl,Int.le_refl _,(by show(0:Int)+((4:Nat):Int)<=4;omega),zm⟩,HN56.out,fun _=>Iff.rfl⟩ B.base (fun c hc=>hc.elim (fun e=>by rw[e];exact HL5.out) (fun e=>by rw[e];exact HL6.out))).mono ?_;rintro e w1 ⟨b,rfl,F,G,hP⟩;clear CP;have hB:=B.base.trans (hP.gr.below (B:=W.heap.size) (fun c hc=>hc.elim (fun e=>by rw[e];exact HL5.out) (fun e=>by rw[e];exact HL6.out)) B.base.size);clear hP))
 go_ret
 exact⟨rfl,hB⟩
end Go.Proofs.YtonnjgmognbnbaaGreatDoor
