/-
  Of what a law stands on.
-/
import Derived.Maps.AppendAt
import Derived.BigQuiet
import Derived.Deep.Slices
import Derived.Test.YtnkpgdejagglaaaGreatDoorZyd2
set_option linter.all false
namespace Go.Proofs.YtnkpgdejagglaaaGreatDoor
open _root_.Go renaming Calls->az,Operand->aU,TypeId->bt,Value->ag,World->af,YieldsIf->gf,bodyPost_ret->aL,execOp->bG,wpList->aM,yielded->dy
open _root_.Go.Proofs.Tryz renaming prog->ah
open _root_.Go.RowKit renaming Below->aq,Hid->aK
open _root_.List renaming filter_append->cO,getElem?_eq_some_iff->aJ,getElem?_map->eh,length_append->aY,map_cons->aB,mem_cons->fO,mem_map->bQ,mem_of_getElem?->aH,mem_singleton->dG,range->aA,range_succ->hZ,take_length->bn
open _root_.Nat renaming le_trans->aw,lt_of_lt_of_le->bi
open Go.Value renaming int → I,pointer → V
open Go.IntKind renaming i64 → Z
open _root_.Go.Proofs.Tryz Go.ChangeShapes Go.WideShapes Go.ChangeAt Go.RowKit
set_option maxHeartbeats 16000000
set_option maxRecDepth 100000
variable {w w':World}{b b7 base j n size:Nat}{v:Value}{ms:List Mp}{o:Oper}{f h:Nat->Int}{ops:Array Oper}{rest:List Oper}{a:Act}{Q:Exit->Act->World->Prop}{e t:TypeId}{xs:List Value}{cs:Array Value}{m:Mp}{p:Prop}{S:World->Prop}{q:Nat->Bool}{s:Int}
def YT(h:cE w v ms)(hne:mb v≠b)(t:gG b w w'):cE w' v ms:=by
 obtain⟨a,cap,e,h1,h2,h3⟩:=h
 refine⟨a,cap,e,h1,fun j hj i u hu=>?_,h3⟩
 have:=h2 j hj i u hu
 unfold World.cell? at *
 rw[t.other _ hne]
 exact this
def qzj{o:Nat}:gG b w (w.setCell ⟨b,o,none⟩ v):=⟨by simp,fun r hr=>Below.heap_setCell _ _ _ _ hr,fun B w0 hB hb=>hb.setCell (p:=⟨b,o,none⟩) hB v⟩
def q6u(f:Nat->Int)(g:Nat->Bool)(h:Nat->Int)(sl:ag)(ms:List Mp)(p s i d:Int)(w:af)(hM:cE w sl ms)(j8:qh h)(hno:jw sl)(hd:(Lit.int .i64 d).wf=true)(hP:vd f h ms p s i)(hf:ms.find? (kf p s i)=none)(hc:bV ms s≠12)(he:(fg f g h ms p s d).e=0):
  az ah 74 #[.agg (tc f g h sl),.int .i64 p,.int .i64 s,.int .i64 i,.int .i64 d] w fun e w'=>∃v,e=.returned (GX (fg f g h ms p s d).f g (fg f g h ms p s d).h v (p,s,i,(fg f g h ms p s d).h s.toNat-1,(fg f g h ms p s d).q) (fg f g h ms p s d).took 0)/\cE w' v (ms++[(p,s,i,(fg f g h ms p s d).h s.toNat-1,(fg f g h ms p s d).q)])/\jw v/\w.heap.size<=mb v/\aq w.heap.size w w':=by
 refine gP ?_;intro hB;have fh:=hM
 obtain⟨a0,cap,dB,-⟩:=fh
 obtain⟨n,hn⟩:∃n,n=ms.length:=⟨_,rfl⟩
 rw[←hn] at dB
 subst dB
 clear hn;refine Vf ?_;intro hlt CG G hp hs qY Au hs0 kG;(have pG:s.toNat<8:=by omega);refine Vg ?_;intro C1 C2 C3 e2 e3
 rw[hp] at C1
 rw[e2] at C2
 rw[e3] at C3
 refine Vh ?_;intro HG CF
 rw[hf] at CF
 unfold sZ at CF
 (have E7:ms.any (kf p s i)=false:=by rw[←List.isSome_find?,hf];rfl);have hrk:=(qya (g:=g) (d:=d) G hp hs ⟨qY,Au⟩ E7 hc he).1.mH hs;refine m5g ?_;intro CC dc CR
 unfold YI at CR
 have hlen:=G.len
 generalize fg f g h ms p s d=r at *
 obtain⟨rf,rh,rq,rt,re⟩:=r
 simp only at CR he hrk ⊢
 subst he
 obtain⟨ra,YU⟩:∃ra,ra=rh s.toNat-1:=⟨_,rfl⟩
 (have qjK:wrap64 (rh s.toNat-1)=ra:=by rw[YU];unfold wrap64;omega);rw[←YU];(have CW:=fun w hM=>q50 (.slice a0 n cap) ms (p,s,i,ra,rq) w hM hno hlen)
 generalize bV ms s=cc at *
 clear G hp hs qY Au e2 e3 hf hc E7 hrk hlen YU
 go_enter func74,ntmps74
 go_wp2_with (first|(refine E5 ?_;intro b5 w1 l5 R5 hb1;replace l5:=aw hB.size l5;refine kZ ?_;clear hB;intro hB)|(refine YQ ?_;clear R5 hB;intro nS w2 bw hb2 mK R5 hB)|(refine ax 11 72 uW ?_;intro ja w3 mZ cQ hb3;refine Vi ?_;clear mZ R5 bw hB;intro xU mZ R5 bw hB)|(refine lx 42 (.tmp 5) (tc f g h (.slice a0 n cap)) R5 ?_)|(go_at_call 135;refine Jm ?_;intro w5 bh;refine xV ?_;clear R5 bw cQ hB;intro R5 bw cQ hB)|(go_at_call 136;go_fit (C1 _);refine gy ?_)|(go_at_call 137;go_fit (C2 _);refine gy ?_)|(go_at_call 138;go_fit (C3 _);refine gy ?_)|(go_at_call 139;go_fit (CF _ (hM.keep hB hlt));rintro e w5 ⟨rfl,bh⟩;refine xV ?_;clear R5 bw cQ hB;intro R5 bw cQ hB)|(refine Vj ?_;clear R5 bw cQ hB;intro nu w8 nU iQ Jn GY GZ zh R5 bw cQ hB)|(refine YR ?_;clear R5 bw cQ hB;intro w9 nU t9 R5 bw cQ hB)|(go_at_call 140;go_fit (CC _ (hM.keep hB hlt));rintro e w5 ⟨rfl,bh⟩;(try clear nU);refine xV ?_;clear R5 bw cQ hB;intro R5 bw cQ hB)|(go_at_call 141;go_fit (CR _ (hM.keep hB hlt));rintro e w5 ⟨rfl,bh⟩;refine xV ?_;clear R5 bw cQ hB;intro R5 bw cQ hB)|(refine ax 16 42 zg ?_;intro Av Er wQ R16 jN;have YS:=R5.ne wQ;have Qr:=bw.ne wQ;have Qs:=cQ.ne wQ;replace wQ:=aw hB.size wQ;replace R5:=R5.below jN;replace bw:=bw.below jN;replace cQ:=cQ.below jN;replace hB:=hB.trans (jN.mono hB.size))|(refine m53 ?_;intro Vk R16 t11;replace R5:=t11.row R5 YS;replace bw:=t11.row bw Qr;replace cQ:=t11.row cQ Qs;replace hB:=t11.below _ _ wQ hB;have wE:World.cell? _ ⟨Av,21+s.toNat,none⟩=some (.int .i64 (rh s.toNat)):=(R16.cell _).trans (Af _ _ _ _ _ pG))|(refine ax 20 72 uW ?_;intro b20 Qt Jo rI Aw;have n5e:=R5.ne Jo;have nae:=bw.ne Jo;have nbe:=cQ.ne Jo;have nde:=R16.ne Jo;replace Jo:=aw hB.size Jo;replace R5:=R5.below Aw;replace bw:=bw.below Aw;replace cQ:=cQ.below Aw;replace R16:=R16.below Aw;replace hB:=hB.trans (Aw.mono hB.size))|(refine sx (mc (p,s,i,ra,rq)) rI ?_;intro Qu rI t13;replace R5:=t13.row R5 n5e;replace bw:=t13.row bw nae;replace cQ:=t13.row cQ nbe;replace R16:=t13.row R16 nde;replace hB:=t13.below _ _ Jo hB;clear wE;have c5:World.cell? _ ⟨b5,29,none⟩=some (.slice a0 n cap):=(R5.cell _).trans (ma _ _ _ _))|(refine lx 72 (.tmp 20) (mc (p,s,i,ra,rq)) rI ?_)|(go_at_call 142;go_fit (CW _ (hM.keep hB hlt));rintro e w14 ⟨v,rfl,dS,E8,qp,Ax⟩;clear c5;have YV:=aw hB.size qp;have Ay:=Nat.ne_of_gt (bi bw.lt qp);have x11:=Nat.ne_of_gt (bi cQ.lt qp);have x16:=Nat.ne_of_gt (bi R16.lt qp);clear qp;replace bw:=bw.below Ax;replace cQ:=cQ.below Ax;replace R16:=R16.below Ax;replace rI:=rI.below Ax;replace hB:=hB.trans (Ax.mono hB.size);(obtain⟨av,cv,hv,-⟩:=id dS);(generalize(ms++[(p,s,i,ra,rq)]).length=ln at hv);subst hv;have f16:=R16.free 29;have wE:World.cell? _ ⟨Av,29,none⟩=some (.slice a0 n cap):=(R16.cell _).trans (ma _ _ _ _)))
 replace bw:=bw.other (b:=Av) (o:=29) (v:=.slice av ln cv) Qr;replace cQ:=cQ.other (b:=Av) (o:=29) (v:=.slice av ln cv) Qs;replace rI:=rI.other (b:=Av) (o:=29) (v:=.slice av ln cv) nde.symm;replace R16:=R16.set (o:=29) (v:=.slice av ln cv)
 rw[Qc] at R16
 have wR:=YT dS x16 (qzj (o:=29) (v:=.slice av ln cv));replace hB:=hB.setCell (p:=⟨Av,29,none⟩) wQ (.slice av ln cv)
 refine RD (fun W=>aP 42 W Av (tc rf g rh (.slice av ln cv))/\aP 72 W b20 (mc (p,s,i,ra,rq))) ⟨R16,rI⟩ (fun _=>?_)
 refine tk 0 (.agg (tc rf g rh (.slice av ln cv))) rfl (yx (fun _ h=>h.1)) ⟨R16,rI⟩ (tk 1 (.agg (mc (p,s,i,ra,rq))) rfl (rA 72 (.tmp 20) rfl kr b20 kr (mc (p,s,i,ra,rq)) (fun _ h=>h.2) _ underlying72 rfl (lS (p,s,i,ra,rq))) ⟨R16,rI⟩ (tq 2 (.bool rt) rfl ⟨R16,rI⟩ ?_))
 simp only[ZZ];refine AR [3] ?_
 refine AP (fun K hK=>?_) AZ
 refine UQ 42 (.tmp 10) (.tmp 88) rfl nS rfl (tc rf g rh (.slice av ln cv)) rfl _ bw (Aq _ _ _ _ _ _ _ _) (oD _ _ _ _) (zf _ _ _ _ _ _) ?_;intro cr bw t16;(try replace t16:=YH t16);replace R16:=t16.row R16 Qr.symm;replace cQ:=t16.row cQ xU.symm;replace rI:=t16.row rI nae.symm;replace wR:=YT wR Ay t16;replace hB:=t16.below _ _ mK hB
 refine hK.out _ _ ⟨R16,rI⟩ (fun _=>?_)
 clear hK K;(try simp only[ZZ]);refine AR [4] ?_
 refine AP (fun K hK=>?_) AZ
 refine sy (mc (p,s,i,ra,rq)) cQ ?_;intro YP cQ t17;replace R16:=t17.row R16 Qs.symm;replace bw:=t17.row bw xU;replace rI:=t17.row rI nbe.symm;replace wR:=YT wR x11 t17;replace hB:=t17.below _ _ mZ hB
 refine hK.out _ _ ⟨R16,rI⟩ (fun _=>?_)
 clear hK K;(try simp only[ZZ]);refine tq 5 (.bool rt) rfl ⟨R16,rI⟩ (tq 6 (.int .i64 0) rfl ⟨R16,rI⟩ ?_);refine oM ?_
 go_wp2
 (refine aL (Qo rfl _ _ _ _ _ _ rfl rfl bw cQ _ _ underlying42 underlying72 rfl rfl (oD _ _ _ _) (lS _)) rfl ⟨.slice av ln cv,?_⟩)
 exact⟨rfl,wR,E8,YV,by first|exact hB ⟩
def gM.wf(G:gM f h ms):qh h:=fun i hi=>by
 have:=G.mH (s:=(i:Int)) om
 simp only[Int.toNat_natCast] at this
 exact U1 om om
def Et(h:cE w v ms)(hne:0<ms.length->mb v≠b)(t:gG b w w'):cE w' v ms:=by
 obtain⟨a,cap,e,h1,h2,h3⟩:=h
 refine⟨a,cap,e,h1,fun j hj i u hu=>?_,h3⟩
 have:=h2 j hj i u hu
 unfold World.cell? at *
 rw[t.other _ (hne om)]
 exact this
def cE.G2(h:cE w v ms)(hb:w.heap.size<=b):0<ms.length->mb v≠b:=fun hl=>Nat.ne_of_lt (bi (h.lt hl) hb)
def iE(p:Op)(ho:o.op=p)(h:aM ah ops Q (o::rest) a w):aM ah ops Q (o::rest) a w:=h
def q5i(h:wpList prog ops Q (o::rest) a w):wpList prog ops Q (o::rest) a w:=h
theorem Vl(h:w.ownsRow base e size v n xs)(hb:Below w.heap.size w w'):w'.ownsRow base e size v n xs:=by
 refine⟨h.1,?_⟩
 rcases h.2 with e|⟨b,cap,cur,hv,fj,hh,r⟩
 .grind
 .exact .inr ⟨b,cap,cur,hv,fj,(hb.block b (Array.getElem?_eq_some_iff.1 hh).1).trans hh,r⟩
theorem YW(h:w.ownsRow base e size v n xs)(t:gG b7 w w')(hn:v.ownBlock≠some b7):w'.ownsRow base e size v n xs:=by
 refine⟨h.1,?_⟩
 rcases h.2 with e|⟨b,cap,cur,hv,fj,hh,r⟩
 .grind
 .exact .inr ⟨b,cap,cur,hv,fj,(t.other b (fun e=>hn (by rw[hv,e];rfl))).trans hh,r⟩
theorem YX(h:w.ownsRow base e size v n xs)(hb:w.heap.size<=b7):v.ownBlock≠some b7:=by
 rcases h.2 with⟨e,_⟩|⟨b,cap,cur,hv,fj,hh,r⟩
 .rw[e];simp[Value.ownBlock]
 .rw[hv];intro e;have e':b=b7:=Option.some.inj e
  grind
def q0k(R:aP t w b cs)(hne:v.ownBlock≠some b)(hg:w.grownBy w' v.ownBlock):aP t w' b cs:=(hg.block b R.lt (fun e=>hne e.symm)).trans R
theorem qzu{o:Mp}(cz:j<ms.length)(hm:ms[j]=o):dH (ms.take (j+1)) m=dH (ms.take j) m++if o=m then [] else [o]:=by
 unfold dH;rw[Og cz hm,cO]
 grind
theorem YY(ms:List Mp)(m:Mp)(j:Nat):(dH (ms.take j) m).length<=ms.length:=by grind [dH]
def Vm(a b:Int):(ah.info? 177).map (·.size)=some (mJ a b).size:=by kernel_rfl
def qlf(a b:Int):(mJ a b).all (·.oneCell')=true:=by kernel_rfl
def wS(ms:List Mp)(a b:Int):Bool:=ms.any fun o=>rF o&&(mX o==a&&mY o==b)
theorem q3j{a b:Int}{o:Mp}(cz:j<ms.length)(hm:ms[j]=o)(h1:rF o=true)(h2:(mX o==a&&mY o==b)=true):wS ms a b=true:=by grind [rF,mX,mY,wS]
def qp5{a b:Int}{o:Mp}(hno:wS (ms.take j) a b=false)(cz:j<ms.length)(hm:ms[j]=o)(h:(rF o&&(mX o==a&&mY o==b))=false):wS (ms.take (j+1)) a b=false:=by
 unfold wS at *;rw[Og cz hm,List.any_append,hno];simp[h]
def Az(h:p:=by
 go_roundw
 case rel=>first|exact⟨j+1,by omega,by go_num,HF.out,hB,R3⟩ 
 case measure=>(rw[fU]);exact Aj (HN.out.symm▸cz)):p:=h
def YZ(sl:ag)(ms:List Mp)(x y:Int)(w:af)(hM:cE w sl ms):
  az ah 157 #[sl,.agg (mJ x y)] w fun e w'=>e=.returned (.bool (wS ms x y))/\aq w.heap.size w w':=by
 refine gP ?_;intro hB;have fh:=hM
 obtain⟨a0,cap,dB,-⟩:=fh
 obtain⟨n,hn⟩:∃n,n=ms.length:=⟨_,rfl⟩
 rw[←hn] at dB
 subst dB
 refine xS ?_;clear hn;intro HN hlt
 go_enter func157,ntmps157
 go_wp2_with (refine gB 177 1 ?_;refine bx 177 _ _ ?_;intro b3 w1 l3 R3 hb1;refine kZ ?_;clear hB;intro hB)
 go_loopw [11] (fun i W=>∃j:Nat,j<=ms.length/\i=I Z j/\wS (ms.take j) x y=false/\aq w.heap.size w W/\aP 177 W b3 (mJ x y)) (fun i _=>n-(intOf i).toNat)
 case atStart=>exact⟨0,by omega,rfl,by simp[wS],hB,R3⟩
 case round=>
  clear hB R3 hb1
  obtain⟨j,hj,rfl,hno,hB,R3⟩:=hrel
  by_cases cz:j<ms.length
  .refine E0 ?_;intro mA fU
   obtain⟨o,hm⟩:∃o,ms[j]=o:=⟨_,rfl⟩
   refine Jc ?_;intro iv hrg;(have wT:=fun w=>UU o w)
   cases dR:rF o with
   | false=>
    simp only[dR] at wT
    have HF:aK (wS (ms.take (j+1)) x y=false):=qp5 hno cz hm (by rw[dR];rfl);clear hno hm dR
    go_wp2_with (first|((with_reducible refine iE (.indexAddr 40 (.tmp 9) (.tmp 11)) rfl ?_);refine Qm ?_)|(refine gL 72 13 ?_;refine Y0 ?_)|(refine gA 72 ?_;refine Y3 ?_;clear R3 hB;intro b6 w3 R6 hb3 rJ l6 R3 hB)|(refine gS 72 6 14 ?_;refine sx (mc o) R6 ?_;intro w4 R6 t4;replace R3:=t4.row R3 rJ;replace hB:=t4.below _ _ l6 hB)|(refine gL 72 6 ?_;refine lx 72 (.tmp 6) (mc o) R6 ?_)|(go_at_call 156;go_fit (wT _);rintro e w5 ⟨rfl,bh⟩;clear R6;replace R3:=R3.below bh;refine gl ?_;clear hB;intro hB)|(refine gA 177 ?_;refine Y4 ?_;clear R3 hB;intro b7 w6 R7 j6 n37 l7 R3 hB)|(refine gS 177 7 18 ?_;refine Y5 ?_;clear R3 hB;intro w8 R7 t8 R3 hB))
    exact Az
   | true=>
    simp only[dR] at wT
    cases dE:(mX o==x&&mY o==y) with
    | true=>
     have HF:aK (wS ms x y=true):=q3j cz hm dR dE;clear hno hm dR
     go_wp2_with (first|((with_reducible refine iE (.indexAddr 40 (.tmp 9) (.tmp 11)) rfl ?_);refine Qm ?_)|(refine gL 72 13 ?_;refine Y0 ?_)|(refine gA 72 ?_;refine Y3 ?_;clear R3 hB;intro b6 w3 R6 hb3 rJ l6 R3 hB)|(refine gS 72 6 14 ?_;refine sx (mc o) R6 ?_;intro w4 R6 t4;replace R3:=t4.row R3 rJ;replace hB:=t4.below _ _ l6 hB)|(refine gL 72 6 ?_;refine lx 72 (.tmp 6) (mc o) R6 ?_)|(go_at_call 156;go_fit (wT _);rintro e w5 ⟨rfl,bh⟩;clear R6;replace R3:=R3.below bh;refine gl ?_;clear hB;intro hB)|(refine gA 177 ?_;refine Y4 ?_;clear R3 hB;intro b7 w6 R7 j6 n37 l7 R3 hB)|(refine gS 177 7 18 ?_;refine Y5 ?_;clear R3 hB;intro w8 R7 t8 R3 hB)|(refine gL 177 7 ?_;refine qf 177 (.tmp 7) rfl ?_ b7 rfl (mJ (mX o) (mY o)) R7 _ underlying177 rfl (Vm _ _) ?_;· kernel_rfl)|(refine gL 177 3 ?_;refine qf 177 (.tmp 3) rfl ?_ b3 rfl (mJ x y) R3 _ underlying177 rfl (Vm _ _) ?_;· kernel_rfl)|((with_reducible refine iE (.binOp .eql 177 (.tmp 22) (.tmp 23) 177) rfl ?_);refine zX 177 (.tmp 22) (.tmp 23) rfl ?_ (mJ (mX o) (mY o)) (mJ x y) kr kr eqGuardType177 _ _ (quq (mX o) (mY o) x y _) dE ?_;· kernel_rfl))
     go_ret
     exact⟨by rw[HF.out];rfl,hB⟩
    | false=>
     have HF:aK (wS (ms.take (j+1)) x y=false):=qp5 hno cz hm (by rw[dR,dE];rfl);clear hno hm dR
     go_wp2_with (first|((with_reducible refine iE (.indexAddr 40 (.tmp 9) (.tmp 11)) rfl ?_);refine Qm ?_)|(refine gL 72 13 ?_;refine Y0 ?_)|(refine gA 72 ?_;refine Y3 ?_;clear R3 hB;intro b6 w3 R6 hb3 rJ l6 R3 hB)|(refine gS 72 6 14 ?_;refine sx (mc o) R6 ?_;intro w4 R6 t4;replace R3:=t4.row R3 rJ;replace hB:=t4.below _ _ l6 hB)|(refine gL 72 6 ?_;refine lx 72 (.tmp 6) (mc o) R6 ?_)|(go_at_call 156;go_fit (wT _);rintro e w5 ⟨rfl,bh⟩;clear R6;replace R3:=R3.below bh;refine gl ?_;clear hB;intro hB)|(refine gA 177 ?_;refine Y4 ?_;clear R3 hB;intro b7 w6 R7 j6 n37 l7 R3 hB)|(refine gS 177 7 18 ?_;refine Y5 ?_;clear R3 hB;intro w8 R7 t8 R3 hB)|(refine gL 177 7 ?_;refine qf 177 (.tmp 7) rfl ?_ b7 rfl (mJ (mX o) (mY o)) R7 _ underlying177 rfl (Vm _ _) ?_;· kernel_rfl)|(refine gL 177 3 ?_;refine qf 177 (.tmp 3) rfl ?_ b3 rfl (mJ x y) R3 _ underlying177 rfl (Vm _ _) ?_;· kernel_rfl)|((with_reducible refine iE (.binOp .eql 177 (.tmp 22) (.tmp 23) 177) rfl ?_);refine zX 177 (.tmp 22) (.tmp 23) rfl ?_ (mJ (mX o) (mY o)) (mJ x y) kr kr eqGuardType177 _ _ (quq (mX o) (mY o) x y _) dE ?_;· kernel_rfl))
     exact Az
  .refine Vd ?_;intro e mA
   rw[e,bn] at hno
   have HF:aK (wS ms x y=false):=hno;clear e hj cz hno
   go_wp2
   go_ret
   exact⟨by rw[HF.out];rfl,hB⟩
def qmn(sl:ag)(ms:List Mp)(m:Mp)(w:af)(hM:cE w sl ms)(hl:ms.length<=1000):
  az ah 155 #[sl,.agg (mc m)] w fun e w'=>∃v,e=.returned v/\cE w' v (dH ms m)/\jw v/\(0<(dH ms m).length->w.heap.size<=mb v)/\aq w.heap.size w w':=by
 refine gP ?_;intro hB;have fh:=hM
 obtain⟨a0,cap,dB,-⟩:=fh
 obtain⟨n,hn⟩:∃n,n=ms.length:=⟨_,rfl⟩
 rw[←hn] at dB
 subst dB
 refine xS ?_;clear hn;intro HN hlt;obtain⟨i0,hi,hz0,hz1,hz2⟩:=info_parts Oi
 go_enter func155,ntmps155
 go_wp2_with (refine bx 72 _ _ ?_;intro b3 w1 l3 R3 hb1;replace l3:=aw hB.size l3;refine kZ ?_;clear hB;intro hB)
 go_loopw [5,10] (fun v i W=>∃(j:Nat) (ao:Option Addr) (cv:Nat),j<=ms.length/\i=I Z j/\v=.slice ao (dH (ms.take j) m).length cv/\W.ownsRow w.heap.size 72 5 v (dH (ms.take j) m).length (eF (dH (ms.take j) m))/\v.ownBlock≠some b3/\aq w.heap.size w W/\aP 72 W b3 (mc m)) (fun _ i _=>n-(intOf i).toNat)
 case atStart=>exact⟨0,none,0,by omega,rfl,by simp[dH],by simpa[dH,eF] using World.ownsRow_nil _ _ _ _,by simp[Value.ownBlock],hB,R3⟩
 case round=>
  clear hB R3 hb1
  obtain⟨j,ao,cv,hj,rfl,hv,hown,Y6,hB,R3⟩:=hrel
  have xW:=YY ms m j
  by_cases cz:j<ms.length
  .refine E0 ?_;intro mA fU
   obtain⟨o,hm⟩:∃o,ms[j]=o:=⟨_,rfl⟩
   refine Jc ?_;intro iv hrg;have hst:=qzu (m:=m) cz hm
   obtain⟨D,hD⟩:∃D,D=dH (ms.take j) m:=⟨_,rfl⟩
   rw[←hD] at hown hst xW hv
   obtain⟨dl,E9⟩:∃dl,aK (dl=D.length):=⟨_,rfl⟩
   rw[←E9.out] at hown xW hv
   subst hv
   by_cases Ol:o=m
   .rw[aZ Ol,List.append_nil] at hst
    have HS:aK (dH (ms.take (j+1)) m=D):=hst;(have dz:(!(o==m))=false:=by simp[Ol]);clear hst Ol hD
    go_wp2_with (first|((with_reducible refine iE (.indexAddr 40 (.tmp 8) (.tmp 10)) rfl ?_);refine qU rfl (.tmp 8) (.tmp 10) rfl (.slice a0 n cap) ms iv rfl j rfl cz ?_)|(refine gL 72 12 ?_;refine m69 ?_)|(refine gA 72 ?_;refine ax 7 72 uW ?_;intro b7 w3 l7 R7 hb3;have n37:=R3.ne l7;have n7:=YX hown l7;replace l7:=aw hB.size l7;replace hown:=Vl hown hb3;replace R3:=R3.below hb3;replace hB:=hB.trans (hb3.mono hB.size))|(refine gS 72 7 13 ?_;refine sx (mc o) R7 ?_;intro w4 R7 t4;replace R3:=t4.row R3 n37;replace hown:=YW hown t4 n7;replace hB:=t4.below _ _ l7 hB)|(refine gL 72 7 ?_;refine lx 72 (.tmp 7) (mc o) R7 ?_)|(refine gL 72 3 ?_;refine Qv ?_)|((with_reducible refine iE (.binOp .neq 72 (.tmp 14) (.tmp 15) 72) rfl ?_);refine m6d ?_))
    go_roundw
    case rel=>
     first
      | exact⟨j+1,ao,cv,by omega,by go_num,by rw[HS.out,←E9.out],by rw[HS.out,←E9.out];exact hown,Y6,hB,R3⟩
    case measure=>exact Aj (HN.out.symm▸cz)
   .rw[aT Ol] at hst
    have HS:aK (dH (ms.take (j+1)) m=D++[o]):=hst;(have dz:(!(o==m))=true:=by simp[Ol]);clear hst Ol hD
    go_wp2_with (first|((with_reducible refine iE (.indexAddr 40 (.tmp 8) (.tmp 10)) rfl ?_);refine qU rfl (.tmp 8) (.tmp 10) rfl (.slice a0 n cap) ms iv rfl j rfl cz ?_)|(refine gL 72 12 ?_;refine m69 ?_)|(refine gA 72 ?_;refine ax 7 72 uW ?_;intro b7 w3 l7 R7 hb3;have n37:=R3.ne l7;have n7:=YX hown l7;replace l7:=aw hB.size l7;replace hown:=Vl hown hb3;replace R3:=R3.below hb3;replace hB:=hB.trans (hb3.mono hB.size))|(refine gS 72 7 13 ?_;refine sx (mc o) R7 ?_;intro w4 R7 t4;replace R3:=t4.row R3 n37;replace hown:=YW hown t4 n7;replace hB:=t4.below _ _ l7 hB)|(refine gL 72 7 ?_;refine lx 72 (.tmp 7) (mc o) R7 ?_)|(refine gL 72 3 ?_;refine Qv ?_)|((with_reducible refine iE (.binOp .neq 72 (.tmp 14) (.tmp 15) 72) rfl ?_);refine m6d ?_)|((with_reducible refine q5i ?_);refine qkl rfl (.tmp 18) rfl o rfl ?_)|((with_reducible refine iE (.call { callee:=.builtin .append,args:=#[.tmp 17,.tmp 19],argTypes:=#[40,40] }) rfl ?_);refine wpList_append_own_at _ rfl (.tmp 17) (.tmp 19) 40 rfl w.heap.size 72 i0 (.agg (mc fW)) 5 40 underlying40 hi hz0 hz1 hz2 rfl (by decide) (.slice ao dl cv) dl (eF D) kr (hown.alloc _) ⟨_,0,none⟩ 1 1 (jn o) rfl rfl (qql _ _ _) (qmp o) (by unfold maxLen;omega) om (by have:=hB.size;simp;omega) ?_;intro v4 w8 tS hg4 Qi hloc;clear Qi;have hR3:=R3.alloc (.cells (mc o) 72);replace R3:=q0k hR3 Y6 hg4;have Qi:v4.ownBlock≠some b3:=(by rcases hloc with h|h;(rw[h];exact Y6);(rw[h];intro h2;have:=hR3.lt;have:=Option.some.inj h2;omega));clear hloc;replace hB:=Qd (hown.alloc _) (hB.alloc hB.size _) (by have:=hB.size;simp;omega) hg4;obtain⟨a4,c4,rfl⟩:=wO tS))
    go_roundw
    case rel=>
     (have hf:eF (D++[o])=eF D++jn o:=by rw[U6,U7]);(have hl2:(D++[o]).length=dl+1:=by rw[aY,←E9.out];rfl)
     first
      | exact⟨j+1,a4,c4,by omega,by go_num,by rw[HS.out,hl2],by rw[HS.out,hl2,hf];exact tS,Qi,hB,R3⟩
    case measure=>exact Aj (HN.out.symm▸cz)
  .refine Vd ?_;intro e mA
   rw[e,bn] at hown hv
   have hf:=Qh hown (by have:=xW;rw[e,bn] at this;omega);clear e hj cz hown xW
   subst hv
   go_wp2
   go_ret
   exact⟨_,rfl,hf.1,hf.2.1,hf.2.2,hB⟩
theorem Y7{l:List Mp}(hall:∀o∈l,pD f h o)(hs:pD f h m):wS l (mX m) (mY m)=l.any (fun o=>eu o==eu m):=by grind [pD,rF,wS,mX,mY,qrg,eu]
theorem Vn{o:Mp}(h:o∈dH ms m):o∈ms:=(List.mem_filter.1 h).1
def lu(f:Nat->Int)(m:Mp):Nat->Int:=upd f (eu m) 0
def zi(f h:Nat->Int)(m:Mp):Nat->Int:=if (fI (lu f m) m.2.1).length=0 then upd h m.2.1.toNat 0 else h
theorem Vo(G:gM f h ms)(hs:pD f h m):Fa f m.2.1 (mX m) (mY m)=0/\∀g:Nat->Bool,Vp f g m.2.1 (mX m) (mY m)=.tuple #[gg (lu f m) g,I Z 0]:=by
 (have dR:rF m=true:=by unfold rF;exact decide_eq_true ⟨hs.2.2.2.1,hs.2.2.2.2.1⟩);(have ha:mX m=((m.2.2.2.1.toNat:Nat):Int):=by unfold mX;rw[aZ dR];have:=hs.2.2.2.2.1;omega);(have hb:mY m=((((m.2.2.2.2-1024)/8).toNat:Nat):Int):=by unfold mY;rw[aZ dR];have:=hs.2.2.2.1;omega);have e0:=qno (f:=f) (s:=m.2.1) (a:=m.2.2.2.1.toNat) (k:=((m.2.2.2.2-1024)/8).toNat) G.iP (by have:=hs.2.2.2.2.1;omega) (by have:=hs.2.2.2.1;omega) (AA hs.2.1.1 hs.2.1.2) hs.2.2.2.2.2.2;rw[ha,hb]
 exact⟨e0,fun g=>qoz e0⟩
def Vq(R:aP t w b cs)(hgd:o.guard=none)(x y:aU)(ho:o.op=.store 40 x y)(f:Nat)(hx:a.eval x=V (some ⟨b,f,none⟩))(p:Option Addr)(n c:Nat)(hy:a.eval y=.slice p n c)(old:ag)(hc:cs[f]?=some old)(ds:Array ag)(hd:cs.setIfInBounds f (.slice p n c)=ds)(hr:∀w',aP t w' b ds->gG b w w'->aM ah ops Q rest (a.put o.dst undef) w'):aM ah ops Q (o::rest) a w:=
 wpList_plain hgd fun K hK=>by
  have hcell:=(R.cell f).trans hc;have oB:=R.free f
  unfold Oper.wp bG
  simp only[ho,hx,hy]
  simp[go_sem,hcell,oB,underlying40]
  exact hK _ _ (hr _ (hd▸R.set) (GL _ _ _ _))
def ve(h:p:=by
 have h1:=qnu (qqg G.maps) hm;have h2:=HN.out
 have:(ln:Int)≠(n:Int):=by omega
 simpa using this):p:=h
def q67(f:Nat->Int)(g:Nat->Bool)(h:Nat->Int)(sl:ag)(ms:List Mp)(m:Mp)(j8:qh h)(w:af)(hM:cE w sl ms)(G:gM f h ms)(hm:m∈ms)(ha:(dH ms m).any (fun o=>eu o==eu m)=true):
  az ah 97 #[.agg (tc f g h sl),.agg (mc m)] w fun e w'=>∃v,e=.returned (.tuple #[.agg (tc f g h v),.bool false,I Z 0])/\cE w' v (dH ms m)/\jw v/\(0<(dH ms m).length->w.heap.size<=mb v)/\aq w.heap.size w w':=by
 refine gP ?_;intro hB;have fh:=hM
 obtain⟨a0,cap,dB,-⟩:=fh
 obtain⟨n,hn⟩:∃n,n=ms.length:=⟨_,rfl⟩
 rw[←hn] at dB
 subst dB
 refine xS ?_;clear hn;intro HN hlt
 obtain⟨ln,nV⟩:∃ln,ln=(dH ms m).length:=⟨_,rfl⟩
 have HL:aK (ln=(dH ms m).length):=nV;have HG:aK (gM f h ms):=G
 have Qw:((ln:Int)==(n:Int))=false:=by
  exact ve
 refine Y8 ?_;intro hst dR CG CW wT
 simp only[dR] at wT
 (have CA:=fun sl w hM=>YZ sl (dH ms m) (mX m) (mY m) w hM)
 rw[Y7 (fun o ho=>G.maps.1 o (Vn ho)) hst,ha] at CA
 clear nV G hm ha hst dR
 go_enter func97,ntmps97
 go_wp2_with (first|(refine gB 42 0 ?_;refine G3 ?_;intro b2 w1 l2 R2 hb1;refine kZ ?_;clear hB;intro hB)|(refine gB 72 1 ?_;refine Om ?_;intro b3 w1 l3 R3 hb1;replace R2:=R2.below hb1;refine kZ ?_;clear hB;intro hB)|(refine gA 42 ?_;refine Y9 ?_;clear R2 R3 hB;intro b4 w2 R4 hb2 l4 R2 R3 hB)|(refine gL 42 2 ?_;refine Za ?_)|(go_at_call 135;refine Jm ?_;intro w5 bh;replace R2:=R2.below bh;replace R3:=R3.below bh;replace R4:=R4.below bh;refine gl ?_;clear hB;intro hB;refine Oo ?_;intro cM)|(refine gL 72 3 ?_;refine Qv ?_)|(go_at_call 155;go_fit (CW _ (hM.keep hB hlt));rintro e w6 ⟨v,rfl,dS,E8,qp,j6⟩;refine Zb ?_;clear cM qp R2 R3 R4 hB;intro x4 qp R2 R3 R4 hB;(obtain⟨av,cv,hv,-⟩:=id dS);rw[←HL.out] at hv;subst hv;refine Oo ?_;intro cM)|(go_at_call 156;refine Zc ?_;clear cM R2 R3 R4 dS hB;intro w7 tV R2 R3 R4 dS hB)|(refine gA 177 ?_;refine Zd ?_;clear R2 R3 R4 dS hB;intro b8 w8 R8 iQ Qx n38 Eo x8 l8 R2 R3 R4 dS hB)|(refine gS 177 8 29 ?_;refine Ze ?_;clear R2 R3 R4 dS hB;intro w9 R8 t9 R2 R3 R4 dS hB)|(refine gA 42 ?_;refine Zf ?_;clear R2 R3 R4 R8 dS hB;intro nS Er bw jN xX tX rK xY Ay mK R2 R3 R4 R8 dS hB)|(refine gS 42 10 31 ?_;refine Qq ?_;intro Vk bw t11;refine Zg ?_;clear R2 R3 R4 R8 dS hB;intro R2 R3 R4 R8 dS hB)|(refine gS 40 33 32 ?_;refine Zh ?_;clear R2 R3 R4 R8 dS hB;intro Qt bw t12 R2 R3 R4 R8 dS hB)|(refine gL 177 8 ?_;refine lx 177 (.tmp 8) (mJ (mX m) (mY m)) R8 ?_)|(go_at_call 157;refine Zi ?_;clear R2 R3 R4 R8 bw dS;intro Qu nW R2 R3 R4 R8 bw dS;replace hB:=hB.trans (nW.mono hB.size) )|(refine gL 42 10 ?_;refine lx 42 (.tmp 10) (tc f g h (.slice av ln cv)) bw ?_)|(refine gS 42 4 37 ?_;refine qT 42 rfl (.tmp 4) _ rfl b4 rfl (tc f g h (.slice av ln cv)) rfl _ R4 (Aq _ _ _ _ _ _ _ _) (oD _ _ _ _) (zf _ _ _ _ _ _) ?_;intro w14 R4 t14;replace dS:=Et dS x4 t14;replace hB:=t14.below _ _ l4 hB))
 (refine aL (UN (p:=4) (u:=5) (v:=6) rfl _ _ _ _ rfl R4 _ underlying42 rfl (oD _ _ _ _)) rfl ⟨_,rfl,dS,E8,qp,hB⟩)
def qzw(f:Nat->Int)(g:Nat->Bool)(h:Nat->Int)(sl:ag)(ms:List Mp)(m:Mp)(j8:qh h)(w:af)(hM:cE w sl ms)(G:gM f h ms)(hm:m∈ms)(ha:(dH ms m).any (fun o=>eu o==eu m)=false)(hz:(fI (lu f m) m.2.1).length=0):
  az ah 97 #[.agg (tc f g h sl),.agg (mc m)] w fun e w'=>∃v,e=.returned (.tuple #[.agg (tc (lu f m) g (upd h m.2.1.toNat 0) v),.bool true,I Z 0])/\cE w' v (dH ms m)/\jw v/\(0<(dH ms m).length->w.heap.size<=mb v)/\aq w.heap.size w w':=by
 refine gP ?_;intro hB;have fh:=hM
 obtain⟨a0,cap,dB,-⟩:=fh
 obtain⟨n,hn⟩:∃n,n=ms.length:=⟨_,rfl⟩
 rw[←hn] at dB
 subst dB
 refine xS ?_;clear hn;intro HN hlt
 obtain⟨ln,nV⟩:∃ln,ln=(dH ms m).length:=⟨_,rfl⟩
 have HL:aK (ln=(dH ms m).length):=nV;have HG:aK (gM f h ms):=G
 have Qw:((ln:Int)==(n:Int))=false:=by
  exact ve
 refine Y8 ?_;intro hst dR CG CW wT
 simp only[dR] at wT
 (have CA:=fun sl w hM=>YZ sl (dH ms m) (mX m) (mY m) w hM)
 rw[Y7 (fun o ho=>G.maps.1 o (Vn ho)) hst,ha] at CA
 (have Qy:=fun w=>Qz (g:=g) (Vo G hst).1 w)
 rw[(Vo G hst).2] at Qy
 (have CB:=fun av w=>U0 (lu f m) g h av m.2.1 hst.2.1.1 hst.2.1.2 w);(have pG:m.2.1.toNat<8:=by have:=hst.2.1;omega);have hs0:0<=m.2.1:=hst.2.1.1;have kG:m.2.1<8:=hst.2.1.2
 rw[hz] at CB
 clear nV G hm ha hst dR hz
 go_enter func97,ntmps97
 go_wp2_with (first|(refine gB 42 0 ?_;refine G3 ?_;intro b2 w1 l2 R2 hb1;refine kZ ?_;clear hB;intro hB)|(refine gB 72 1 ?_;refine Om ?_;intro b3 w1 l3 R3 hb1;replace R2:=R2.below hb1;refine kZ ?_;clear hB;intro hB)|(refine gA 42 ?_;refine Y9 ?_;clear R2 R3 hB;intro b4 w2 R4 hb2 l4 R2 R3 hB)|(refine gL 42 2 ?_;refine Za ?_)|(go_at_call 135;refine Jm ?_;intro w5 bh;replace R2:=R2.below bh;replace R3:=R3.below bh;replace R4:=R4.below bh;refine gl ?_;clear hB;intro hB;refine Oo ?_;intro cM)|(refine gL 72 3 ?_;refine Qv ?_)|(go_at_call 155;go_fit (CW _ (hM.keep hB hlt));rintro e w6 ⟨v,rfl,dS,E8,qp,j6⟩;refine Zb ?_;clear cM qp R2 R3 R4 hB;intro x4 qp R2 R3 R4 hB;(obtain⟨av,cv,hv,-⟩:=id dS);rw[←HL.out] at hv;subst hv;refine Oo ?_;intro cM)|(go_at_call 156;refine Zc ?_;clear cM R2 R3 R4 dS hB;intro w7 tV R2 R3 R4 dS hB)|(refine gA 177 ?_;refine Zd ?_;clear R2 R3 R4 dS hB;intro b8 w8 R8 iQ Qx n38 Eo x8 l8 R2 R3 R4 dS hB)|(refine gS 177 8 29 ?_;refine Ze ?_;clear R2 R3 R4 dS hB;intro w9 R8 t9 R2 R3 R4 dS hB)|(refine gA 42 ?_;refine Zf ?_;clear R2 R3 R4 R8 dS hB;intro nS Er bw jN xX tX rK xY Ay mK R2 R3 R4 R8 dS hB)|(refine gS 42 10 31 ?_;refine Qq ?_;intro Vk bw t11;refine Zg ?_;clear R2 R3 R4 R8 dS hB;intro R2 R3 R4 R8 dS hB)|(refine gS 40 33 32 ?_;refine Zh ?_;clear R2 R3 R4 R8 dS hB;intro Qt bw t12 R2 R3 R4 R8 dS hB)|(refine gL 177 8 ?_;refine lx 177 (.tmp 8) (mJ (mX m) (mY m)) R8 ?_)|(go_at_call 157;refine Zi ?_;clear R2 R3 R4 R8 bw dS;intro Qu nW R2 R3 R4 R8 bw dS;replace hB:=hB.trans (nW.mono hB.size);have Eu:=m1 R3;have Zj:=Qe R8;have Zk:=p1 R8;have tU:=R2.iP)|(refine gL 38 39 ?_;refine m5h ?_;refine xZ ?_)|(go_at_call 158;go_fit (Qy _);rintro e w15 ⟨rfl,mL⟩;clear Eu Zj Zk tU;replace R2:=R2.below mL;replace R3:=R3.below mL;replace R4:=R4.below mL;replace R8:=R8.below mL;replace bw:=bw.below mL;replace dS:=dS.below mL;replace hB:=hB.trans (mL.mono hB.size))|(refine gS 38 50 48 ?_;refine YG rfl (.tmp 50) (.tmp 48) rfl nS rfl (lu f m) g rfl f g h (.slice av ln cv) bw ?_;intro cr bw t16;replace R3:=t16.row R3 tX;replace R4:=t16.row R4 rK;replace dS:=Et dS Ay t16;replace hB:=t16.below _ _ mK hB;have Eu:=m1 R3)|(go_at_call 159;go_fit (CB _ _);rintro e YP ⟨vb,rfl,⟨ab,cb,rfl⟩,hpl,pH⟩;clear hpl Eu;replace R3:=R3.below pH;replace R4:=R4.below pH;replace bw:=bw.below pH;replace dS:=dS.below pH;replace hB:=hB.trans (pH.mono hB.size);have Eu:=m1 R3)|((with_reducible refine iE (.store 3 (.tmp 60) (.const (I Z 0))) rfl ?_);refine wF bw rfl _ _ rfl (21+m.2.1.toNat) rfl _ rfl _ (Af _ _ _ _ _ pG) (tc (lu f m) g (upd h m.2.1.toNat 0) (.slice av ln cv)) (Oc _ _ _ _ _ _ pG) ?_;intro w18 bw t18;clear Eu;replace R4:=t18.row R4 rK;replace dS:=Et dS Ay t18;replace hB:=t18.below _ _ mK hB)|(refine gL 42 10 ?_;first|refine lx 42 (.tmp 10) (tc (lu f m) g (upd h m.2.1.toNat 0) (.slice av ln cv)) bw ?_|refine lx 42 (.tmp 10) (tc (lu f m) g h (.slice av ln cv)) bw ?_)|(refine gS 42 4 61 ?_;refine qT 42 rfl (.tmp 4) _ rfl b4 rfl (tc (lu f m) g (upd h m.2.1.toNat 0) (.slice av ln cv)) rfl _ R4 (Aq _ _ _ _ _ _ _ _) (oD _ _ _ _) (zf _ _ _ _ _ _) ?_;intro w19 R4 t19;replace dS:=Et dS x4 t19;replace hB:=t19.below _ _ l4 hB))
 (refine aL (UN (p:=4) (u:=5) (v:=6) rfl _ _ _ _ rfl R4 _ underlying42 rfl (oD _ _ _ _)) rfl ⟨_,rfl,dS,E8,qp,hB⟩)
def qy2(f:Nat->Int)(g:Nat->Bool)(h:Nat->Int)(sl:ag)(ms:List Mp)(m:Mp)(j8:qh h)(w:af)(hM:cE w sl ms)(G:gM f h ms)(hm:m∈ms)(ha:(dH ms m).any (fun o=>eu o==eu m)=false)(hz:(fI (lu f m) m.2.1).length≠0):
  az ah 97 #[.agg (tc f g h sl),.agg (mc m)] w fun e w'=>∃v,e=.returned (.tuple #[.agg (tc (lu f m) g h v),.bool true,I Z 0])/\cE w' v (dH ms m)/\jw v/\(0<(dH ms m).length->w.heap.size<=mb v)/\aq w.heap.size w w':=by
 refine gP ?_;intro hB;have fh:=hM
 obtain⟨a0,cap,dB,-⟩:=fh
 obtain⟨n,hn⟩:∃n,n=ms.length:=⟨_,rfl⟩
 rw[←hn] at dB
 subst dB
 refine xS ?_;clear hn;intro HN hlt
 obtain⟨ln,nV⟩:∃ln,ln=(dH ms m).length:=⟨_,rfl⟩
 have HL:aK (ln=(dH ms m).length):=nV;have HG:aK (gM f h ms):=G
 have Qw:((ln:Int)==(n:Int))=false:=by
  exact ve
 refine Y8 ?_;intro hst dR CG CW wT
 simp only[dR] at wT
 (have CA:=fun sl w hM=>YZ sl (dH ms m) (mX m) (mY m) w hM)
 rw[Y7 (fun o ho=>G.maps.1 o (Vn ho)) hst,ha] at CA
 (have Qy:=fun w=>Qz (g:=g) (Vo G hst).1 w)
 rw[(Vo G hst).2] at Qy
 (have CB:=fun av w=>U0 (lu f m) g h av m.2.1 hst.2.1.1 hst.2.1.2 w)
 obtain⟨lb,zj⟩:∃lb,lb=(fI (lu f m) m.2.1).length:=⟨_,rfl⟩
 rw[←zj] at CB hz
 (have dz:((lb:Int)==0)=false:=by simpa using hz);clear nV G hm ha hst dR hz zj
 go_enter func97,ntmps97
 go_wp2_with (first|(refine gB 42 0 ?_;refine G3 ?_;intro b2 w1 l2 R2 hb1;refine kZ ?_;clear hB;intro hB)|(refine gB 72 1 ?_;refine Om ?_;intro b3 w1 l3 R3 hb1;replace R2:=R2.below hb1;refine kZ ?_;clear hB;intro hB)|(refine gA 42 ?_;refine Y9 ?_;clear R2 R3 hB;intro b4 w2 R4 hb2 l4 R2 R3 hB)|(refine gL 42 2 ?_;refine Za ?_)|(go_at_call 135;refine Jm ?_;intro w5 bh;replace R2:=R2.below bh;replace R3:=R3.below bh;replace R4:=R4.below bh;refine gl ?_;clear hB;intro hB;refine Oo ?_;intro cM)|(refine gL 72 3 ?_;refine Qv ?_)|(go_at_call 155;go_fit (CW _ (hM.keep hB hlt));rintro e w6 ⟨v,rfl,dS,E8,qp,j6⟩;refine Zb ?_;clear cM qp R2 R3 R4 hB;intro x4 qp R2 R3 R4 hB;(obtain⟨av,cv,hv,-⟩:=id dS);rw[←HL.out] at hv;subst hv;refine Oo ?_;intro cM)|(go_at_call 156;refine Zc ?_;clear cM R2 R3 R4 dS hB;intro w7 tV R2 R3 R4 dS hB)|(refine gA 177 ?_;refine Zd ?_;clear R2 R3 R4 dS hB;intro b8 w8 R8 iQ Qx n38 Eo x8 l8 R2 R3 R4 dS hB)|(refine gS 177 8 29 ?_;refine Ze ?_;clear R2 R3 R4 dS hB;intro w9 R8 t9 R2 R3 R4 dS hB)|(refine gA 42 ?_;refine Zf ?_;clear R2 R3 R4 R8 dS hB;intro nS Er bw jN xX tX rK xY Ay mK R2 R3 R4 R8 dS hB)|(refine gS 42 10 31 ?_;refine Qq ?_;intro Vk bw t11;refine Zg ?_;clear R2 R3 R4 R8 dS hB;intro R2 R3 R4 R8 dS hB)|(refine gS 40 33 32 ?_;refine Zh ?_;clear R2 R3 R4 R8 dS hB;intro Qt bw t12 R2 R3 R4 R8 dS hB)|(refine gL 177 8 ?_;refine lx 177 (.tmp 8) (mJ (mX m) (mY m)) R8 ?_)|(go_at_call 157;refine Zi ?_;clear R2 R3 R4 R8 bw dS;intro Qu nW R2 R3 R4 R8 bw dS;replace hB:=hB.trans (nW.mono hB.size);have Eu:=m1 R3;have Zj:=Qe R8;have Zk:=p1 R8;have tU:=R2.iP)|(refine gL 38 39 ?_;refine m5h ?_;refine xZ ?_)|(go_at_call 158;go_fit (Qy _);rintro e w15 ⟨rfl,mL⟩;clear Eu Zj Zk tU;replace R2:=R2.below mL;replace R3:=R3.below mL;replace R4:=R4.below mL;replace R8:=R8.below mL;replace bw:=bw.below mL;replace dS:=dS.below mL;replace hB:=hB.trans (mL.mono hB.size))|(refine gS 38 50 48 ?_;refine YG rfl (.tmp 50) (.tmp 48) rfl nS rfl (lu f m) g rfl f g h (.slice av ln cv) bw ?_;intro cr bw t16;replace R3:=t16.row R3 tX;replace R4:=t16.row R4 rK;replace dS:=Et dS Ay t16;replace hB:=t16.below _ _ mK hB;have Eu:=m1 R3)|(go_at_call 159;go_fit (CB _ _);rintro e YP ⟨vb,rfl,⟨ab,cb,rfl⟩,hpl,pH⟩;clear hpl Eu;replace R3:=R3.below pH;replace R4:=R4.below pH;replace bw:=bw.below pH;replace dS:=dS.below pH;replace hB:=hB.trans (pH.mono hB.size);have Eu:=m1 R3)|(refine gL 42 10 ?_;refine lx 42 (.tmp 10) (tc (lu f m) g h (.slice av ln cv)) bw ?_)|(refine gS 42 4 61 ?_;refine qT 42 rfl (.tmp 4) _ rfl b4 rfl (tc (lu f m) g h (.slice av ln cv)) rfl _ R4 (Aq _ _ _ _ _ _ _ _) (oD _ _ _ _) (zf _ _ _ _ _ _) ?_;intro w19 R4 t19;replace dS:=Et dS x4 t19;replace hB:=t19.below _ _ l4 hB))
 (refine aL (UN (p:=4) (u:=5) (v:=6) rfl _ _ _ _ rfl R4 _ underlying42 rfl (oD _ _ _ _)) rfl ⟨_,rfl,dS,E8,qp,hB⟩)
def qrs{sl:ag}(hM:cE w sl ms)(j:Nat)(hj:j<ms.length)(w2:af):(Instr.indexAt 40 sl (I Z (j:Int))).run ah w2=.ok (V (some ⟨mb sl,mo sl+5*j,none⟩)) w2:=by
 obtain⟨a0,cap,e,h1,h2,h3⟩:=hM;have e1:=h1 om
 generalize mb sl=B at *
 generalize mo sl=O at *
 subst e1
 subst e
 (have hn:((j:Int)).toNat<ms.length:=by simpa using hj);(have iu:(j:Int)<(ms.length:Int):=by omega);(have hs:(sizeOf 72).run ah w2=.ok 5 w2:=by kernel_rfl)
 simp[go_sem,hj,hn,iu,underlying40,hs]
def qn6(x y:aU)(ho:o.op=.indexAddr 40 x y)(hw:Region.wanted o (dy ops a.tmps)=true)(p i q:ag)(hx:a.eval x=p)(hy:a.eval y=i)(hrun:∀w:af,(Instr.indexAt 40 p i).run ah w=.ok q w):gf ah ops S o q a:=
 .inl ⟨hw,fun w _=>by unfold bG;simp only[ho,hx,hy,Sem.run_bind,hrun w,Result.andThen_ok,Sem.run_pure]⟩
def qry(t:bt)(x y:aU)(ho:o.op=.binOp .neq t x y t)(hw:Region.wanted o (dy ops a.tmps)=true)(xs ys:Array ag)(hx:a.eval x=.agg xs)(hy:a.eval y=.agg ys)(hg:ah.eqGuardType ah.depth t=false)(r q:Bool)(he:∀w:af,(Op.equalIn 10000 t (.agg xs) (.agg ys)).run ah w=.ok r w)(hq:(!r)=q):gf ah ops S o (.bool q) a:=
 .inl ⟨hw,fun w _=>by
  subst hq
  unfold bG
  simp only[ho,hx,hy,Sem.run_bind,run_eqGuard_agg w .neq t x y xs ys hg,run_neq_struct,he w,Result.andThen_ok,Sem.run_pure]⟩
def Zl(t:bt)(x:aU)(ho:o.op=.load t x)(hw:Region.wanted o (dy ops a.tmps)=true)(b k:Nat)(hx:a.eval x=V (some ⟨b,k,none⟩))(l:List ag)(hS:∀w,S w->w.rangeAt b k l)(d:TypeDesc)(hu:ah.underlying t=some d)(hd:d.isRow=true)(hi:(ah.info? t).map (·.size)=some l.length):gf ah ops S o (.agg l.toArray) a:=
 yieldsIf_load_mid (P:=ah) (S:=S) hw t x ho b k hx l d hS hu hd hi
def Vr(t:bt)(x:aU)(ho:o.op=.load t x)(hw:Region.wanted o (dy ops a.tmps)=true)(b k:Nat)(hx:a.eval x=V (some ⟨b,k,none⟩))(l:List ag)(hc:w.rangeAt b k l)(d:TypeDesc)(hu:ah.underlying t=some d)(hd:d.isRow=true)(hi:(ah.info? t).map (·.size)=some l.length)(hr:aM ah ops Q rest (a.put o.dst (.agg l.toArray)) w):aM ah ops Q (o::rest) a w:=
 wpList_step fun K hK=>by
  rw[aZ hw]
  exact wp_load_mid t x ho b k hx l d hc hu hd hi (hK _ _ hr)
theorem q2m(f:Nat->Int)(n:Nat):pE f f n=true:=(Yp f f n).2 fun _ _=>rfl
def qpv{B:Nat}{w0:af}(h:aq B w0 w):aq B w0 w.drew:=⟨h.os,h.tape,h.output,h.size,h.block⟩
structure Bd(w W:af)(L:List (Nat×bt×Array ag))(Ms:List (ag×List Mp)):Prop where
 nodup:(L.map (·.1)).Nodup
 rows:∀y∈L,aP y.2.1 W y.1 y.2.2/\w.heap.size<=y.1
 maps:∀q∈Ms,cE W q.1 q.2/\∀b∈L.map (·.1),0<q.2.length->mb q.1≠b
 base:aq w.heap.size w W
section
variable {w W W':World} {L:List (Nat×TypeId×Array Value)} {Ms:List (Value×List Mp)}
def Bd.start(w:af):Bd w w [] []:=⟨by simp,by simp,by simp,Below.refl _ _⟩
def Bd.row(h:Bd w W L Ms)(i:Nat)(hi:L[i]?=some (b,t,cs)):aP t W b cs:=(h.rows _ (aH hi)).1
theorem Bd.map(h:Bd w W L Ms)(k:Nat)(hk:Ms[k]?=some (v,ms)):cE W v ms:=(h.maps _ (aH hk)).1
def Bd.below(h:Bd w W L Ms)(hb:aq W.heap.size W W'):Bd w W' L Ms:=
 ⟨h.nodup,fun y hy=>⟨(h.rows y hy).1.below hb,(h.rows y hy).2⟩,fun q hq=>⟨(h.maps q hq).1.below hb,(h.maps q hq).2⟩,h.base.trans (hb.mono h.base.size)⟩
def Bd.drew(h:Bd w W L Ms):Bd w W.drew L Ms:=h.below (Below.refl _ _).drew
def Bd.drewN(h:Bd w W L Ms)(n:Nat):Bd w (W.drewN n) L Ms:=h.below ⟨rfl,rfl,rfl,Nat.le_refl _,fun _ _=>rfl⟩
def Bd.lt(h:Bd w W L Ms)(hb:b∈L.map (·.1)):b<W.heap.size:=by
 obtain⟨y,hy,rfl⟩:=bQ.1 hb
 exact(h.rows y hy).1.lt
def Bd.alloc(h:Bd w W L Ms)(hl:W.heap.size<=b)(R:aP t W' b cs)(hb:aq W.heap.size W W'):Bd w W' ((b,t,cs)::L) Ms:=by
 have h':=h.below hb
 refine⟨?_,fun y hy=>?_,fun q hq=>⟨(h'.maps q hq).1,fun c hc hl0=>?_⟩,h'.base⟩
 .rw[aB,List.nodup_cons]
  exact⟨fun hm=>by have:=h.lt hm;simp only at *;omega,h.nodup⟩
 .rcases fO.1 hy with rfl|hy
  .exact⟨R,aw h.base.size hl⟩
  .exact h'.rows y hy
 .rw[aB] at hc
  rcases fO.1 hc with rfl|hc
  .have:=(h.maps q hq).1.lt hl0;omega
  .exact(h.maps q hq).2 c hc hl0
theorem Bd.turn(h:Bd w W L Ms)(i:Nat){cs':Array ag}(hi:L[i]?=some (b,t,cs))(R:aP t W' b cs')(T:gG b W W'):Bd w W' (L.set i (b,t,cs')) Ms:=by
 have hlt:i<L.length:=(aJ.1 hi).1
 have hm:(L.set i (b,t,cs')).map (·.1)=L.map (·.1):=by
  apply List.ext_getElem?
  grind
 have Fb:b∈L.map (·.1):=bQ.2 ⟨_,aH hi,rfl⟩
 refine⟨by rw[hm];exact h.nodup,fun y hy=>?_,fun q hq=>⟨Et (h.maps q hq).1 (fun h0=>(h.maps q hq).2 b Fb h0) T,by rw[hm];exact(h.maps q hq).2⟩,T.below _ _ (h.rows _ (aH hi)).2 h.base⟩
 obtain⟨j,hj⟩:=List.mem_iff_getElem?.1 hy
 rw[List.getElem?_set] at hj
 by_cases m6:i=j
 .subst m6
  rw[aZ rfl,aZ hlt] at hj
  obtain rfl:=Option.some.inj hj
  exact⟨R,(h.rows _ (aH hi)).2⟩
 .rw[aT m6] at hj
  have hy':=aH hj
  refine⟨T.row (h.rows y hy').1 (fun e=>m6 ?_),(h.rows y hy').2⟩
  (have e1:(L.map (·.1))[i]?=some b:=by rw[eh,hi];rfl);(have e2:(L.map (·.1))[j]?=some b:=by rw[eh,hj];simp[e])
  exact(List.getElem?_inj (by simpa using hlt) h.nodup).1 (by rw[e1,e2])
def Bd.Jp(h:Bd w W L Ms)(hb:aq W.heap.size W W')(hM:cE W' v ms)(hl:0<ms.length->W.heap.size<=mb v):Bd w W' L ((v,ms)::Ms):=by
 have h':=h.below hb
 refine⟨h'.nodup,h'.rows,fun q hq=>?_,h'.base⟩
 rcases fO.1 hq with rfl|hq
 .exact⟨hM,fun b Fb h0=>by have:=h.lt Fb;have:=hl h0;simp only at *;omega⟩
 .exact h'.maps q hq
theorem Bd.two(h:Bd w W L Ms)(i j:Nat)(m6:i≠j){y1 y2:Nat×bt×Array ag}(hi:L[i]?=some y1)(hj:L[j]?=some y2)(k:Nat){q:ag×List Mp}(hk:Ms[k]?=some q):Bd w W [y1,y2] [q]:=by
 have m1:=aH hi;have m2:=aH hj;have b1:y1.1∈L.map (·.1):=bQ.2 ⟨_,m1,rfl⟩;have b2:y2.1∈L.map (·.1):=bQ.2 ⟨_,m2,rfl⟩
 have hne:y1.1≠y2.1:=fun e=>m6 (by
  (have e1:(L.map (·.1))[i]?=some y1.1:=by rw[eh,hi];rfl);(have e2:(L.map (·.1))[j]?=some y1.1:=by rw[eh,hj];simp[e])
  exact(List.getElem?_inj (by simpa using(aJ.1 hi).1) h.nodup).1 (by rw[e1,e2]))
 refine⟨by simp[hne],fun y hy=>?_,fun p hp=>?_,h.base⟩
 .rcases fO.1 hy with rfl|hy
  .exact h.rows _ m1
  .obtain rfl:=dG.1 hy
   exact h.rows _ m2
 .obtain rfl:=dG.1 hp
  have hm:=h.maps _ (aH hk)
  grind
end
def wU(f:Nat->Int)(ms:List Mp)(p s:Int)(a j:Nat):Bool:=f (6*a+j/8)==s+1 && !wH ms p (a:Int) (1024+(j:Int))
def nv(f:Nat->Int)(s:Int)(a j:Nat):Nat:=((aA j).filter fun x=>x%8==0&&f (6*a+x/8)==s+1).length
theorem Jq(f:Nat->Int)(s:Int)(a j:Nat):nv f s a (j+1)=nv f s a j+if (j%8==0&&f (6*a+j/8)==s+1)=true then 1 else 0:=by
 unfold nv;rw[hZ,cO,aY]
 cases hq:(j%8==0&&f (6*a+j/8)==s+1)<;>simp[hq]
theorem QA(f:Nat->Int)(s:Int)(a j:Nat):nv f s a j<=j:=by grind [nv]
def Zm(f:Nat->Int)(s:Int)(a k:Nat):nv f s a (8*k)=((aA k).filter fun i=>f (6*a+i)==s+1).length:=by
 induction k with
 | zero=>rfl
 | succ k ih=>
  have h0:∀r,0<r->r<8->nv f s a (8*k+r+1)=nv f s a (8*k+r):=by
   intro r hr h8
   rw[Jq,aT (by simp;omega)];rfl
  (have e:8*(k+1)=8*k+7+1:=by omega);rw[e,h0 7 om om,h0 6 om om,h0 5 om om,h0 4 om om,h0 3 om om,h0 2 om om,h0 1 om om,Jq,ih,hZ,cO,aY];(rw[show 8*k%8=0 by omega,show 8*k/8=k by omega])
  cases hq:(f (6*a+k)==s+1)<;>simp[hq]
theorem QB{a:Nat}(ha:a<3)(hall:∀n∈fI f s,n/6=a):fI f s=((aA 6).filter fun i=>f (6*a+i)==s+1).map (6*a + ·):=by
 (have e18:aA 18=(aA 6).map (6*0 + ·)++((aA 6).map (6*1 + ·)++(aA 6).map (6*2 + ·)):=by decide)
 have key:∀b,b<3->((aA 6).map (6*b + ·)).filter (fun n=>f n==s+1)=if b=a then((aA 6).filter fun i=>f (6*a+i)==s+1).map (6*a + ·) else []:=by
  intro b hb
  split
  .rename_i e;subst e;rw[List.filter_map];rfl
  .rename_i hne
   rw[List.filter_eq_nil_iff];intro n hn hq
   obtain⟨i,hi,rfl⟩:=bQ.1 hn
   (have hi6:i<6:=by simpa using hi)
   have:=hall (6*b+i) ((za _ _ _).2 ⟨by omega,by simpa using hq⟩)
   omega
 unfold fI
 rw[e18,cO,cO,key 0 om,key 1 om,key 2 om]
 grind
theorem QC{a:Nat}(ha:a<3)(hall:∀n∈fI f s,n/6=a):nv f s a 48=(fI f s).length:=by
 rw[QB ha hall,List.length_map];exact Zm f s a 6
def Zn{α:Type}{p q:α->Bool}{l:List α}(h:∀x∈l,p x=q x):l.find? p=l.find? q:=by
 induction l with
 | nil=>rfl
 | cons a r ih=>
  rw[List.find?_cons,List.find?_cons,h a zm,ih (fun x hx=>h x (by simp[hx]))]
theorem Zo(f:Nat->Int)(ms:List Mp)(p s:Int)(a:Nat)(l:List Nat)(hl:∀k∈l,k<6):
  lR ms p ((l.filter fun i=>f (6*a+i)==s+1).map (6*a + ·))=((l.flatMap fun k=>(aA 8).map (8*k + ·)).find? (wU f ms p s a)).map fun j=>(6*a+j/8,j%8):=by
 induction l with
 | nil=>rfl
 | cons k r ih=>
  have hk:=hl k zm;(have ih':=ih (fun x hx=>hl x (by simp[hx])));rw[List.flatMap_cons,List.find?_append,List.filter_cons]
  have iZ:∀i,i<8->wU f ms p s a (8*k+i)=(f (6*a+k)==s+1 && !wH ms p (a:Int) (oC (6*a+k) i)):=by
   intro i hi
   unfold wU oC
   (rw[show(8*k+i)/8=k by omega,show(6*a+k)%6=k by omega])
   have:(1024:Int)+((8*k+i:Nat):Int)=((1024+8*k+i:Nat):Int):=by omega
   rw[this]
  have zk:((aA 8).map (8*k + ·)).find? (wU f ms p s a)=((aA 8).find? fun i=>f (6*a+k)==s+1 && !wH ms p (a:Int) (oC (6*a+k) i)).map (8*k + ·):=by
   rw[List.find?_map]
   congr 1
   exact Zn (fun i hi=>iZ i (List.mem_range.1 hi))
  rw[zk]
  cases hb:(f (6*a+k)==s+1) with
  | false=>
   simp only[Bool.false_and]
   rw[aT zm,ih']
   have:(aA 8).find? (fun _=>false)=none:=by decide
   rw[this]
   rfl
  | true=>
   simp only[Bool.true_and,if_true]
   rw[aB]
   unfold lR
   have hu:zb ms p (6*a+k)=(aA 8).find? fun i=>!wH ms p (a:Int) (oC (6*a+k) i):=by
    unfold zb
    (rw[show(6*a+k)/6=a by omega])
   rw[hu]
   cases hf:(aA 8).find? (fun i=>!wH ms p (a:Int) (oC (6*a+k) i)) with
   | none=>rw[ih'];rfl
   | some i=>
    have hi:i<8:=List.mem_range.1 (List.mem_of_find?_eq_some hf)
    simp only[Option.map_some,Option.some_or]
    (rw[show(8*k+i)/8=k by omega,show(8*k+i)%8=i by omega])
theorem Jr{a:Nat}(ms:List Mp)(p:Int)(ha:a<3)(hall:∀n∈fI f s,n/6=a):lR ms p (fI f s)=((aA 48).find? (wU f ms p s a)).map fun j=>(6*a+j/8,j%8):=by
 rw[QB ha hall,Zo f ms p s a (aA 6) (fun k hk=>by simpa using hk)]
 rfl
theorem Zp(h:(List.range j).find? q=none)(hq:q j=false):(List.range (j+1)).find? q=none:=by grind
theorem Zq(h:(List.range j).find? q=none)(hq:q j=true)(hn:j<n):(List.range n).find? q=some j:=by simp_all
end Go.Proofs.YtnkpgdejagglaaaGreatDoor
