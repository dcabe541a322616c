/-
  Of what a law stands on.
-/
import Derived.Test.YtonnjgmognbnbaaGreatDoorZtTpMe0
set_option linter.unusedSimpArgs false
set_option linter.unusedVariables false
namespace Go.Proofs.YtonnjgmognbnbaaGreatDoor
open Go.Value renaming int → I,pointer → V
open Go.IntKind renaming i64 → Z
open _root_.Go.Proofs.Tryz Go.ChangeShapes Go.WideShapes Go.ChangeAt Go.RowKit Go.Maps
set_option maxHeartbeats 16000000
set_option maxRecDepth 100000
variable {W W' w:World}{b m n:Nat}{s:Nt}{tm:Int->Option Int}{F:Nat->Prop}{L:List (Nat×Obj)}{u v:Value}{cs:Array Value}{ops:Array Oper}{rest:List Oper}{o:Oper}{a:Act}{Q:Exit->Act->World->Prop}
theorem Nb.none{w0:World}{F0:Nat->Prop}(h:Nb w0 W b s tm F0 F L):Nb w0 W b s tm F0 F []:=⟨h.nat,h.gr,h.sub,h.bd,by simp,by simp⟩
theorem Mm.none{bo:Nat}{G:Nat->Prop}(h:Mm w W bo b s G F L):Mm w W bo b s G F []:=⟨h.nb.none,h.ro,h.rf,h.rl⟩
theorem Cw.setM(h:Cw W v n u m)(R:Row 50 W' (mb v) cs)(hc:5*n<=cs.size)(T:qbl (mb v) W W')(hne:0<m->eb u≠mb v):Cw W' v n u m:=⟨h.om.set R hc,h.of.turn T hne⟩
theorem Cw.setF(h:Cw W v n u m)(R:Row 52 W' (eb u) cs)(hc:10*m<=cs.size)(T:qbl (eb u) W W')(hne:0<n->mb v≠eb u):Cw W' v n u m:=⟨h.om.turn T hne,h.of.set R hc⟩
theorem qhzb(hgd:o.guard=none)(ho:o.op=.alloc 24)(hr:∀b w',w.heap.size<=b->Row 24 w' b #[V none]->Below w.heap.size w w'->wpList prog ops Q rest (a.put o.dst (V (some ⟨b,0,none⟩))) w'):wpList prog ops Q (o::rest) a w:=
 wpList_plain hgd fun K hK=>by
  have h':=hr w.heap.size (w.alloc (.cells #[V none] 24)) (Nat.le_refl _) (Row.new _ w _) ((Below.refl _ _).alloc (Nat.le_refl _) _);(have e:(Instr.alloc 24 true (.tuple #[])).run prog w=.ok (V (some ⟨w.heap.size,0,none⟩)) (w.alloc (.cells #[V none] 24)):=by kernel_rfl)
  unfold Oper.wp execOp
  simp only[ho,Sem.run_bind,e,Result.andThen_ok,Sem.run_pure]
  exact hK _ _ h'
theorem qaw.blk(h:qaw w b s tm F):b<w.heap.size:=by
 obtain⟨cs,v,ov,fm,D,Fw,cnt,M,hF⟩:=h
 exact Row.lt M.row
theorem qhxb{p:Value}(R:Row 24 w b #[p])(hgd:o.guard=none)(x y:Operand)(ho:o.op=.store 24 x y)(hx:a.eval x=V (some ⟨b,0,none⟩))(q:Option Addr)(hy:a.eval y=V q)(hr:∀w',Row 24 w' b #[V q]->qbl b w w'->wpList prog ops Q rest (a.put o.dst undef) w'):wpList prog ops Q (o::rest) a w:=
 wpList_plain hgd fun K hK=>by
  have hcell:w.cell? ⟨b,0,none⟩=some p:=(R.cell 0).trans rfl;have hfr:=R.free 0
  unfold Oper.wp execOp
  simp only[ho,hx,hy]
  simp[go_sem,hcell,hfr,underlying24]
  exact hK _ _ (hr _ R.set (qfx _ _ _ _))
theorem sZtTpMe1{p:Prop}(h:p:=by
 go_roundw
 case rel=>first|exact⟨q+1,by omega,by go_num,M,D⟩|((repeat apply Exists.intro);exact⟨⟨q+1,by omega,by go_num,M,D⟩,rfl⟩)|((repeat apply Exists.intro);exact⟨⟨q+1,by omega,by go_num,M,D⟩,rfl,rfl⟩)
 case measure=>first|exact HM2.out|(rw[hqw];exact HM2.out)):p:=h
theorem qimb(bo b2:Nat)(G F F2:Nat->Prop)(s0 s:Nt)(r:Rp)(k0:Nat)(hI:NInv s0 k0)(hk0:k0<300)(a:Ac)(ha:a.ok)(hact:s0.act a=(r,s))(b:Nat)(W:World)(hN:qaw W b s (duF s.fs) F)(hT:Tab W)(hG0:¬G 0)(hd:∀c,F c->¬G c)(M:Mm W W bo b2 s0 G F2 []):
  Calls prog 52 #[V (some ⟨b,0,none⟩),.agg (ac a),.agg r.cells,V (some ⟨bo,0,none⟩)] W fun e w'=>e=.returned (.bool true)/\∃F',Mm W w' bo b2 s G F' []:=by
 have hI1:=hI.act hk0 a;(have CD:=fun W1 F (hN:qaw W1 b2 s0 (duF s0.fs) F) (hT:Tab W1) (h0:¬F 0)=>qos hN hT h0 (hI.ok om) a ha)
 rw[hact] at hI1 CD
 simp only at hI1 CD
 have c:=hI1.ci;(have hml:s.ms.length<=1000:=by have:=c.good.len;omega);(have CT:=fun W' (hg:Gr G W W')=>qirb (hN.keep hg hd) hml);(have CL:=fun W' (hg:Gr G W W')=>qhb (hN.keep hg hd));(have CT2:=fun W' F' (hN:qaw W' b2 s (duF s.fs) F')=>qfa hN hml);(have CL2:=fun W' F' (hN:qaw W' b2 s (duF s.fs) F')=>qhb hN);have HWF:Hid (wfF s.f):=hidN (qpn c.good.pool);have HWH:Hid (wfH s.h):=hidN c.good.wf;(have hk48:(s.fs.map (·.2)).length<=48:=by rw[List.length_map];exact c.few);have HT:Hid (Tab W):=hT;have HG0:Hid (¬G 0):=hidN hG0
 obtain⟨ks,hks⟩:∃ks,ks=s.fs.map (·.2):=⟨_,rfl⟩
 obtain⟨ms,hms⟩:∃ms,ms=s.ms:=⟨_,rfl⟩
 obtain⟨f,hf⟩:∃f,f=s.f:=⟨_,rfl⟩
 obtain⟨g,hg⟩:∃g,g=s.g:=⟨_,rfl⟩
 obtain⟨h,hh⟩:∃h,h=s.h:=⟨_,rfl⟩
 rw[←hms] at hml
 rw[←hks] at hk48
 rw[←hf,←hg,←hh,←hms] at CT CT2
 rw[←hf] at HWF
 rw[←hh] at HWH
 rw[←hks] at CL CL2
 clear hks hms hf hg hh c hI hI1 hN hd hT hG0 ha hact
 obtain⟨nm,hnm⟩:∃n,n=ms.length:=⟨_,rfl⟩
 obtain⟨nk,hnk⟩:∃n,n=ks.length:=⟨_,rfl⟩
 (have HSM:Hid (nm<=1000/\nk<=48):=hidN ⟨by omega,by omega⟩);have HKL:Hid (ks.length<=100000):=hidN om;have HNM:Hid (nm=ms.length):=hnm;have HNK:Hid (nk=ks.length):=hnk
 rw[←hnm] at CT CT2
 clear hnm hnk hml hk48 hk0
 go_enter func52,ntmps52
 go_upto_region 2 with(first|((with_reducible refine gB 23 1 ?_);refine m4v ?_;intro b5 w9 l9 R9 h9;replace M:=M.alloc (o:=ob 23 (ac a)) l9 R9 h9;clear R9 h9 l9)|((with_reducible refine gB 27 2 ?_);refine bx 27 (.tmp 2) r.cells ?_;intro b6 w9 l9 R9 h9;replace M:=M.alloc (o:=ob 27 r.cells) l9 R9 h9;clear R9 h9 l9)|(go_at_call 21;go_fit (CT _ M.nb.gr);rintro e w5 ⟨sa,kc,rfl,hm5,hO5,hl5,hb5⟩;clear CT;have HMF:Hid (0<nm->¬F2 (mb (.slice sa nm kc))):=hidN (fun h0 hf=>by have h1:=M.nb.bd _ hf;have h2:=hl5 h0;omega);have HMX:Hid (0<nm->W.heap.size<=mb (.slice sa nm kc)/\mb (.slice sa nm kc)≠b5/\mb (.slice sa nm kc)≠b6):=hidN (fun h0=>by have h2:=hl5 h0;have h3:=M.nb.gr.size;have h4:=M.nb.lt (c:=b5) zm;have h5:=M.nb.lt (c:=b6) zm;omega);replace M:=M.below hb5;clear hb5 hl5)|(go_at_call 22;go_fit (CL _ M.nb.gr);rintro e w5 ⟨v5,rfl,hf5,hb5⟩;clear CL;have hF5:=qjbb hf5;have C:Cp w5 F2 (.slice sa nm kc) ms v5 ks:=⟨hm5.below hb5,fun h0=>HMF.out (HNM.out▸h0),hf5.at HKL.out,fun h0 hf=>by have h1:=M.nb.bd _ hf;have h2:=hf5.fresh h0;omega⟩;have hX5:0<nk->W.heap.size<=eb v5/\eb v5≠b5/\eb v5≠b6/\(0<nm->eb v5≠mb (.slice sa nm kc)):=fun h0=>(by have h2:=hf5.fresh (HNK.out▸h0);have h3:=M.nb.gr.size;have h4:=M.nb.lt (c:=b5) zm;have h5:=M.nb.lt (c:=b6) zm;exact⟨by omega,by omega,by omega,fun h1=>by have:=hO5.lt h1;omega⟩);obtain⟨fa,fcap,hfv⟩:=C.flows.slice;rw[←HNK.out] at hfv hF5;subst hfv;have HFX:Hid (0<nk->W.heap.size<=eb (.slice fa nk fcap)/\eb (.slice fa nk fcap)≠b5/\eb (.slice fa nk fcap)≠b6/\(0<nm->eb (.slice fa nk fcap)≠mb (.slice sa nm kc))):=hidN hX5;have D:Cw w5 (.slice sa nm kc) nm (.slice fa nk fcap) nk:=⟨hO5.below hb5,hF5⟩;replace M:=M.below hb5;clear hb5 hf5 hm5 hO5 hF5 hX5)|((with_reducible refine gA 39 ?_);refine ax 8 39 qbp ?_;intro bT w9 l9 R9 h9;have HM8:Hid (0<nm->mb (.slice sa nm kc)≠bT):=hidN (fun h0 e=>by have:=D.om.lt h0;omega);have HE8:Hid (0<nk->eb (.slice fa nk fcap)≠bT):=hidN (fun h0 e=>by have:=D.of.lt h0;omega);replace M:=M.alloc (o:=ob 39 tz) l9 R9 h9;replace C:=C.below h9;replace D:=D.below h9;clear R9 h9 l9)|((with_reducible refine gS 39 8 13 ?_);refine sx 39 (.tmp 8) _ (tc f g h (.slice sa nm kc)) (M.nb.row 0 rfl) ?_;intro w9 R9 t9;replace M:=M.turn 0 rfl R9 t9;replace C:=C.turn t9 (fun h0=>HM8.out (HNM.out▸h0)) (fun h0=>HE8.out (HNK.out▸h0));replace D:=D.turn t9 HM8.out HE8.out;clear R9 t9))
 refine m0w ?_;intro kS
 refine RD (fun W=>Row 24 W bo #[V (some ⟨b2,0,none⟩)]/\Row 23 W b5 (ac a)/\Row 27 W b6 r.cells/\Row 39 W bT (tc f g h (.slice sa nm kc))) kS (fun _=>?_)
 replace M:=M.drew;replace C:=C.drew;replace D:=D.drew
 refine tk 0 (V (some ⟨b2,0,none⟩)) rfl (Or.inl ⟨by kernel_rfl,by intro w hS;have hc:=(hS.1.cell 0).trans (show(#[V (some ⟨b2,0,none⟩)]:Array Value)[0]?=some (V (some ⟨b2,0,none⟩)) from rfl);go_simp⟩) kS (tk 1 (.agg (ac a)) rfl (yx 23 (.tmp 5) (ac a) (fun _ h=>h.2.1)) kS (tk 3 (.agg r.cells) rfl (yx 27 (.tmp 6) r.cells (fun _ h=>h.2.2.1)) kS ?_))
 refine m5i ?_;refine AR [2] ?_
 refine AC (fun K hK=>?_) AZ
 go_simp
 go_at_call 18;refine(CD _ _ M.nb.nat (HT.out.gr M.nb.gr HG0.out) (M.nb.zero HT.out HG0.out)).mono ?_;rintro e w8 ⟨rfl,F9,hN9,hg9,hf9⟩;clear CD;replace D:=D.call hg9 (fun h0=>C.mf (HNM.out▸h0)) (fun h0=>C.ff (HNK.out▸h0));replace C:=C.call hg9 hf9;replace M:=M.call hN9 hg9 hf9;clear hN9 hg9 hf9;obtain⟨F3,hF3⟩:∃F3,F3=(fun c=>F9 c/\c<w8.heap.size):=⟨_,rfl⟩;rw[←hF3] at M C;clear hF3;clear kS;refine m0w ?_;intro kS
 go_wp2_with fail
 refine hK.out _ _ kS (fun _=>?_)
 clear hK K;(try simp only[ZZ])
 refine tk 4 (.bool false) rfl (qry 27 (.tmp 18) (.tmp 19) rfl kr r.cells r.cells kr kr eqGuardType27 _ _ (fun w=>qhyb r w) zm) kS (tq 5 (.bool false) rfl kS (tk 6 (.agg (tc f g h (.slice sa nm kc))) rfl (yx 39 (.tmp 8) (tc f g h (.slice sa nm kc)) (fun _ h=>h.2.2.2)) kS ?_))
 refine m5i ?_;(refine tk 7 (V (some ⟨b2,0,none⟩)) rfl (Or.inl ⟨by kernel_rfl,by intro w hS;have hc:=(hS.1.cell 0).trans (show(#[V (some ⟨b2,0,none⟩)]:Array Value)[0]?=some (V (some ⟨b2,0,none⟩)) from rfl);go_simp⟩) kS ?_);refine m5i ?_;refine AR [8] ?_
 refine AC (fun K hK=>?_) AZ
 go_simp
 go_at_call 21;refine(CT2 _ _ M.nb.nat).mono ?_;rintro e w8 ⟨sa8,kc8,rfl,hm8,-,-,hb8⟩;replace M:=M.below hb8;replace C:=C.below hb8;replace D:=D.below hb8;clear kS;refine m0w ?_;intro kS;clear hb8
 go_wp2_with fail
 refine hK.out _ _ kS (fun _=>?_)
 clear hK K;(try simp only[ZZ]);refine AR [9] ?_
 refine AC (fun K hK=>?_) AZ
 refine m3p ?_;intro w8 hb8;replace M:=M.below hb8;replace C:=C.below hb8;replace D:=D.below hb8;clear kS;refine m0w ?_;intro kS;clear hb8 hm8
 go_wp2_with fail
 refine hK.out _ _ kS (fun _=>?_)
 clear hK K;(try simp only[ZZ]);refine tq 10 (.bool false) rfl kS (tq 11 (.bool false) rfl kS (tq 12 (.bool false) rfl kS ?_));refine m5i ?_;(refine tq 13 (.slice fa nk fcap) rfl kS (tk 14 (V (some ⟨b2,0,none⟩)) rfl (Or.inl ⟨by kernel_rfl,by intro w hS;have hc:=(hS.1.cell 0).trans (show(#[V (some ⟨b2,0,none⟩)]:Array Value)[0]?=some (V (some ⟨b2,0,none⟩)) from rfl);go_simp⟩) kS ?_));refine m5i ?_;refine AR [15] ?_
 refine AC (fun K hK=>?_) AZ
 go_simp
 go_at_call 22;refine(CL2 _ _ M.nb.nat).mono ?_;rintro e w8 ⟨v8,rfl,hf8,hb8⟩;replace M:=M.below hb8;replace C:=C.below hb8;replace D:=D.below hb8;clear kS;refine m0w ?_;intro kS;have hf9:=hf8.at HKL.out;clear hb8 hf8;obtain⟨fa8,fc8,hfv8⟩:=hf9.slice;rw[←HNK.out] at hfv8;subst hfv8
 go_wp2_with fail
 refine hK.out _ _ kS (fun _=>?_)
 clear hK K;(try simp only[ZZ]);refine AR [16] ?_
 refine AC (fun K hK=>?_) AZ
 refine m4s ?_;intro w8 hb8;replace M:=M.below hb8;replace C:=C.below hb8;replace D:=D.below hb8;clear kS;refine m0w ?_;intro kS;clear hb8 hf9
 go_wp2_with fail
 refine hK.out _ _ kS (fun _=>?_)
 clear hK K;(try simp only[ZZ]);refine tq 17 (.bool false) rfl kS (tq 18 (.bool false) rfl kS ?_);refine m1f ?_;(have HF3m:Hid _:=hidN (fun h0:0<nm=>C.mf (HNM.out▸h0)));(have HF3f:Hid _:=hidN (fun h0:0<nk=>C.ff (HNK.out▸h0)));clear C kS;refine m6y ?_;intro c29
 go_wp2_with fail
 clear c29
 go_loopw [38] (fun i W1=>∃q:Nat,q<=nm/\i=I Z (q:Int)/\Mm W W1 bo b2 s G F3 [(bT,ob 39 (tc f g h (.slice sa nm kc))),(b6,ob 27 r.cells),(b5,ob 23 (ac a))]/\Cw W1 (.slice sa nm kc) nm (.slice fa nk fcap) nk) (fun i _=>nm-(intOf i).toNat)
 case atStart=>exact⟨0,Nat.zero_le _,rfl,M,D⟩
 case round=>
  clear M D
  obtain⟨q,hq,rfl,M,D⟩:=hrel
  by_cases hlq:q<nm
  ·(have hqn:(q:Int)<(nm:Int):=by omega);have HM2:=qha hlq;have hqw:=qhl (p:=q) (by have:=HSM.out;omega);obtain⟨cs,RM,hsz,hix⟩:=D.om.at q hlq;(have h0:0<nm:=by omega);have HSZ:Hid (5*q+4<cs.size):=hidN om;have HSZ2:Hid (5*nm<=(cs.setIfInBounds (5*q+4) (I Z (-1))).size):=hidN (by rw[Array.size_setIfInBounds];exact hsz);have HX1:Hid (W.heap.size<=mb (.slice sa nm kc)):=hidN (HMX.out h0).1;have HX2:Hid (¬F3 (mb (.slice sa nm kc))):=hidN (HF3m.out h0);have HX3:Hid (¬mb (.slice sa nm kc)∈[bT,b6,b5]):=hidN (by have e1:=HMX.out h0;have e2:=HM8.out h0;intro h;simp only[List.mem_cons,List.not_mem_nil,or_false] at h;omega);(have HX4:Hid (0<nk->eb (.slice fa nk fcap)≠mb (.slice sa nm kc)):=hidN (fun h1=>(HFX.out h1).2.2.2 h0));refine m6y ?_;intro c29;clear hq hsz h0
   go_wp2_with ((with_reducible refine qaa (.store 3 (.tmp 45) _) rfl ?_);refine qhrb RM rfl (.tmp 45) _ rfl (5*q+4) rfl HSZ.out ?_;intro w9 R9 t9;replace M:=M.turnX t9 HX1.out HX2.out HX3.out;replace D:=D.setM R9 HSZ2.out t9 HX4.out;clear R9 t9 RM)
   exact sZtTpMe1
  ·(have hqn:¬(q:Int)<(nm:Int):=by omega);clear hq hlq
   go_wp2_with fail
   go_loopw [49] (fun i W1=>∃q:Nat,q<=nk/\i=I Z (q:Int)/\Mm W W1 bo b2 s G F3 [(bT,ob 39 (tc f g h (.slice sa nm kc))),(b6,ob 27 r.cells),(b5,ob 23 (ac a))]/\Cw W1 (.slice sa nm kc) nm (.slice fa nk fcap) nk) (fun i _=>nk-(intOf i).toNat)
   case atStart=>exact⟨0,Nat.zero_le _,rfl,M,D⟩
   case round=>
    clear M D
    obtain⟨q,hq,rfl,M,D⟩:=hrel
    by_cases hlq:q<nk
    ·(have hqn:(q:Int)<(nk:Int):=by omega);have HM2:=qha hlq;have hqw:=qhl (p:=q) (by have:=HSM.out;omega);obtain⟨cs,RM,hsz,hix⟩:=D.of.at q hlq;(have h0:0<nk:=by omega);have HSZ:Hid (10*q+9<cs.size):=hidN om;have HSZ2:Hid (10*nk<=(cs.setIfInBounds (10*q+9) (I Z (-1))).size):=hidN (by rw[Array.size_setIfInBounds];exact hsz);have HX1:Hid (W.heap.size<=eb (.slice fa nk fcap)):=hidN (HFX.out h0).1;have HX2:Hid (¬F3 (eb (.slice fa nk fcap))):=hidN (HF3f.out h0);have HX3:Hid (¬eb (.slice fa nk fcap)∈[bT,b6,b5]):=hidN (by have e1:=HFX.out h0;have e2:=HE8.out h0;intro h;simp only[List.mem_cons,List.not_mem_nil,or_false] at h;omega);(have HX4:Hid (0<nm->mb (.slice sa nm kc)≠eb (.slice fa nk fcap)):=hidN (fun h1 e=>(HFX.out h0).2.2.2 h1 e.symm));refine m6y ?_;intro c29;clear hq hsz h0
     go_wp2_with ((with_reducible refine qaa (.store 3 (.tmp 55) _) rfl ?_);refine qhrb RM rfl (.tmp 55) _ rfl (10*q+9) rfl HSZ.out ?_;intro w9 R9 t9;replace M:=M.turnX t9 HX1.out HX2.out HX3.out;replace D:=D.setF R9 HSZ2.out t9 HX4.out;clear R9 t9 RM)
     exact sZtTpMe1
    ·(have hqn:¬(q:Int)<(nk:Int):=by omega);clear hq hlq
     go_wp2_with fail
     go_ret
     exact⟨rfl,_,M.none⟩
def JM(loose:Bool)(bo b2:Nat)(l:List Ac)(G:Nat->Prop)(W:World):Prop:=
 (∀c,G c->c<W.heap.size)/\¬G 0/\G bo/\Row 24 W bo #[V (some ⟨b2,0,none⟩)]/\∃F,qaw W b2 ((nt0 loose).runs l) (duF ((nt0 loose).runs l).fs) F/\(∀c,F c->G c)/\¬F bo
theorem qidb(loose:Bool)(bo b2:Nat):Look loose 52 #[V (some ⟨bo,0,none⟩)] (JM loose bo b2):=by
 refine⟨fun args w=>by kernel_rfl,?_,fun h c hc=>h.1 c hc,?_⟩
 ·rintro l G H W W' ⟨h1,h2,h3,h4,F,h5,h6,h7⟩ hg hd
  exact⟨fun c hc=>Nat.lt_of_lt_of_le (h1 c hc) hg.size,h2,h3,(hg.block _ (h1 _ h3) (fun hh=>hd _ hh h3)).trans h4,F,h5.keep hg (fun c hc hh=>hd c hh (h6 c hc)),h6,h7⟩
 ·rintro l a W b F G hl ha hN hT hF0 hd ⟨h1,h2,h3,h4,F2,h5,h6,h7⟩;have hinv:=qjr loose l om
  refine(qimb bo b2 G F F2 ((nt0 loose).runs l) _ _ l.length hinv om a ha rfl b W hN hT h2 hd ⟨⟨h5,Gr.refl _ _,fun c hc=>.inl (h6 c hc),fun c hc=>h1 c (h6 c hc),by simp,by simp⟩,h4,h7,h1 _ h3⟩).mono ?_
  rintro e w' ⟨he,F',M⟩
  refine⟨he,fun c=>F' c\/c=bo,⟨?_,?_,.inr rfl,M.ro,F',?_,fun c hc=>.inl hc,M.rf⟩,M.nb.gr,?_⟩
  ·rintro c (hc|rfl)
   ·exact M.nb.bd c hc
   ·exact Row.lt M.ro
  ·rintro(hc|hc)
   ·exact M.nb.zero hT h2 hc
   ·exact h2 (hc▸h3)
  ·rw[qih];exact M.nb.nat
  ·rintro c (hc|rfl)
   ·exact M.nb.sub c hc
   ·exact .inl h3
theorem topMemory_walk(a0:Bool)(sl:Value)(es:List Ac)(W:World)(hS:AcIn W sl es)(hT:Tab W):Calls prog 16 #[.bool a0,sl] W fun e w'=>e=.returned (.bool true)/\Below W.heap.size W w':=by
 refine m63 ?_;intro HS HT;(have CN:=fun w=>qu0 a0 w)
 have CP:=fun w bo b2 (hB:Below W.heap.size W w) (h1:W.heap.size<=b2) (h2:W.heap.size<=bo) (hne:b2≠bo) (hN:qaw w b2 (nt0 a0) (duF (nt0 a0).fs) (fun c=>c=b2)) (R:Row 24 w bo #[V (some ⟨b2,0,none⟩)]) (hlt:b2<w.heap.size)=>qjp (G0:=fun c=>c=b2\/c=bo) (qidb a0 bo b2) sl es w (HS.out.1.below hB) HS.out.2 (HT.out.below hB) (fun hh=>by have:=HT.out.lt;rcases hh with hh|hh<;>omega)
  ⟨fun c hc=>hc.elim (fun e=>e▸hlt) (fun e=>e▸Row.lt R),fun hh=>by(have:=HT.out.lt;rcases hh with hh|hh<;>omega),.inr rfl,R,fun c=>c=b2,hN,fun c hc=>.inl hc,fun e=>hne e.symm⟩ (fun hl hh=>by have:=HS.out.1.lt hl;rcases hh with hh|hh<;>omega)
 obtain⟨x0,cap,hsl⟩:=hS.1.slice
 generalize es.length=n at *
 subst hsl
 clear hS hT
 go_enter func16,ntmps16
 go_wp2_with (first|(go_at_call 51;go_fit (CN _);rintro e w2 ⟨b2,rfl,hlb,hN1,hb2⟩;clear CN;have HL2:Hid (W.heap.size<=b2):=hlb;have HLT2:Hid (b2<w2.heap.size):=hidN hN1.blk;clear hlb)|((with_reducible refine gA 24 ?_);refine qhzb rfl rfl ?_;intro bo w3 l3 R3 hb3;have HNE:Hid (b2≠bo):=hidN (fun e=>by have:=HLT2.out;omega);have HLO:Hid (W.heap.size<=bo):=hidN (Nat.le_trans hb2.size l3);replace hN1:=hN1.below hb3;replace hb2:=hb2.trans (hb3.mono hb2.size);have HLT3:Hid (b2<w3.heap.size):=hidN (Nat.lt_of_lt_of_le HLT2.out hb3.size);clear hb3 l3)|((with_reducible refine gS 24 5 9 ?_);refine qhxb R3 rfl (.tmp 5) (.tmp 9) rfl rfl _ rfl ?_;intro w4 R4 t4;replace hN1:=hN1.keep (qcq t4) (fun c hc e=>HNE.out (hc.symm.trans e));replace hb2:=t4.below _ _ HLO.out hb2;have HLT4:Hid (b2<w4.heap.size):=hidN (by rw[t4.size];exact HLT3.out);clear R3 t4)|(go_at_call 23;refine(CP _ bo b2 hb2 HL2.out HLO.out HNE.out hN1 R4 HLT4.out).mono ?_;rintro e w1 ⟨b,rfl,F,G,hP⟩;clear CP;have hB:=hb2.trans ((hP.gr.below (B:=W.heap.size) (fun c hc=>by have h1:=HL2.out;have h2:=HLO.out;rcases hc with rfl|rfl<;>assumption) hb2.size));clear hP hN1 R4))
 go_ret
 exact⟨rfl,hB⟩
end Go.Proofs.YtonnjgmognbnbaaGreatDoor
