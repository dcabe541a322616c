/-
  Of what a law stands on.
-/
import Derived.Test.YtonnjgmognbnbaaGreatDoorZtTpYs
set_option linter.unusedSimpArgs false
set_option linter.unusedVariables false
namespace Go.Proofs.YtonnjgmognbnbaaGreatDoor
open Go.Value renaming int → I,pointer → V
open Go.IntKind renaming i64 → Z
open _root_.Go.Proofs.Tryz Go.ChangeShapes Go.WideShapes Go.ChangeAt Go.RowKit Go.Maps
set_option maxHeartbeats 16000000
set_option maxRecDepth 100000
variable {W w:World}{b:Nat}{ops:Array Oper}{rest:List Oper}{o:Oper}{a:Act}{Q:Exit->Act->World->Prop}
theorem Pl.nbJ{loose:Bool}{J:List Ac->(Nat->Prop)->World->Prop}{G0 F G:Nat->Prop}{w0:World}{l:List Ac}{L:List (Nat×Obj)}(h:Pl loose J G0 w W b l F G)(hB:Below w0.heap.size w0 w)(hG:∀c,G0 c->w0.heap.size<=c)(hd:(L.map (·.1)).Nodup)(hr:∀y∈L,W.heap[y.1]?=some y.2/\w0.heap.size<=y.1/\¬F y.1):
  Nb w0 W b ((nt0 loose).runs l) (duF ((nt0 loose).runs l).fs) (fun _=>False) F L:=
 ⟨h.nat,(Gr.of_below (F:=fun _=>False) hB).trans h.gr (fun c hc=>.inr (hG c hc)),fun c hc=>.inr (Nat.le_trans hB.size (h.new c hc)),h.bd,hd,hr⟩
theorem qgwb(w:World):(Instr.build 23 #[(0,I Z 3),(1,I Z 60)]).run prog w=.ok (.agg (ac a60)) w:=by kernel_rfl
theorem qdzb(hgd:o.guard=none)(ho:o.op=.build 23 #[(0,.const (I Z 3)),(1,.const (I Z 60))])(hr:wpList prog ops Q rest (a.put o.dst (.agg (ac a60))) w):wpList prog ops Q (o::rest) a w:=
 wpList_plain hgd fun K hK=>by
  have e1:a.eval (.const (I Z 3))=I Z 3:=rfl;have e2:a.eval (.const (I Z 60))=I Z 60:=rfl
  unfold Oper.wp execOp
  simp only[ho,List.map_toArray,List.map_nil,List.map_cons,e1,e2,Sem.run_bind,qgwb,Result.andThen_ok,Sem.run_pure]
  exact hK _ _ hr
theorem qg3b:a60.ok:=⟨rfl,rfl,rfl,by show ByteArray.empty.size<=_;simp⟩
theorem qfwb{f:Nat->Int}{g:Nat->Bool}{h:Nat->Int}{sl:Value}(R:Row 39 W b (tc f g h sl)):W.rangeAt b 0 (ocl f):=fun j v hv=>by
 refine m9i ?_;intro hj e;refine R.pool j v ?_
 rw[e,List.getElem?_append_left hj];exact hv
theorem qgyb(w:World):(Instr.build 32 #[]).run prog w=.ok (.agg (oc z0)) w:=by kernel_rfl
theorem qgtb(w:World):(Instr.build 36 #[]).run prog w=.ok (.agg (hc8 z0)) w:=by kernel_rfl
theorem qfab(hw:Region.wanted o (yielded ops a.tmps)=true)(ho:o.op=.build 32 #[])(hr:wpList prog ops Q rest (a.put o.dst (.agg (oc z0))) w):wpList prog ops Q (o::rest) a w:=
 wpList_step fun K hK=>by
  rw[if_pos hw]
  unfold Oper.wp execOp
  simp only[ho,List.map_toArray,List.map_nil,Sem.run_bind,qgyb,Result.andThen_ok,Sem.run_pure]
  exact hK _ _ hr
theorem qfcb(hw:Region.wanted o (yielded ops a.tmps)=true)(ho:o.op=.build 36 #[])(hr:wpList prog ops Q rest (a.put o.dst (.agg (hc8 z0))) w):wpList prog ops Q (o::rest) a w:=
 wpList_step fun K hK=>by
  rw[if_pos hw]
  unfold Oper.wp execOp
  simp only[ho,List.map_toArray,List.map_nil,Sem.run_bind,qgtb,Result.andThen_ok,Sem.run_pure]
  exact hK _ _ hr
theorem qgdb:wfF z0:=fun _ _=>rfl
theorem qgcb:wfH z0:=fun _ _=>rfl
theorem topQuiet_walk(a0:Bool)(sl:Value)(es:List Ac)(W:World)(hS:AcIn W sl es)(hT:Tab W):Calls prog 10 #[.bool a0,sl] W fun e w'=>e=.returned (.bool true)/\Below W.heap.size W w':=by
 refine m63 ?_;intro HS HT;(have CP:=fun bl W' (hl:W.heap.size<=bl) (R:Row 9 W' bl #[.string ByteArray.empty]) (hB:Below W.heap.size W W')=>qjp (G0:=fun c=>c=bl) (qe6b a0 bl) sl es W' (HS.out.1.below hB) HS.out.2 (HT.out.below hB) (fun h=>by have:=HT.out.lt;omega) ⟨⟨ByteArray.empty,[],R,qgub a0,by simp⟩,fun _=>Iff.rfl⟩ (fun h0 h=>by have h:eb sl=bl:=h;have:=HS.out.1.lt h0;omega));obtain⟨x0,cap,hsl⟩:=hS.1.slice
 generalize es.length=n at *
 subst hsl
 refine m90 ?_;intro hk1;have hinv:=qjr a0 (es.take 100) om;(have hmore:=fun L all (h:qdcb ((nt0 a0).runs (es.take 100)) (ByteArray.data L).toList all)=>qesb (l:=es.take 100) om h a60)
 obtain⟨s,hs⟩:∃s,(nt0 a0).runs (es.take 100)=s:=⟨_,rfl⟩
 have HS1:Hid ((nt0 a0).runs (es.take 100)=s):=hs
 rw[hs] at hinv hmore
 have hq:=qfhb hinv.ci (by rw[hinv.acts];omega);have hC:=hinv.ci.act a60;(have CD:=fun W b F (hN:qaw W b s (duF s.fs) F) (hT:Tab W) (h0:¬F 0)=>qos hN hT h0 (hinv.ok om) a60 qg3b)
 generalize s.act a60=r at *
 obtain⟨⟨c,fr,inn,lg⟩,s2⟩:=r
 simp only at CD hq hC hmore
 rcases hq with hc|⟨hc,h1,h2,h3,h4⟩
 ·subst hc
  clear hmore hinv hS hT hs hC
  go_enter func10,ntmps10
  go_wp2_with (first|((with_reducible refine gA 9 ?_);refine m5u ?_;intro bl w9 HLL HBL Rl)|((with_reducible refine qaa (.store 9 (.tmp 5) (.const (.string { data:=#[] }))) rfl ?_);refine m2o ?_;clear Rl;intro w9 HBL2 Rl)|(go_at_call 23;refine(CP bl _ HLL.out Rl HBL2.out).mono ?_;rintro e w1 ⟨b,rfl,F,G,hP⟩;refine m5t ?_;clear CP hP Rl;intro L all tl zl N;rw[HS1.out] at N tl;have HTL:Hid _:=hidN tl;have HZL:Hid _:=hidN zl;clear tl zl)|((with_reducible refine qaa (.build 23 #[(0,.const (I Z 3)),(1,.const (I Z 60))]) rfl ?_);refine qdzb rfl rfl ?_)|(go_at_call 18;refine m4q ?_;rintro e w5 ⟨rfl,F9,hN9,hg9,hf9⟩;clear CD;replace N:=N.call hN9 hg9 hf9;clear hN9 hg9 hf9)|((with_reducible refine gA 27 ?_);refine ax 8 27 qan ?_;intro b8 w9 l9 R9 h9;refine m3q ?_;clear N;intro N;clear R9 h9 l9)|((with_reducible refine gS 27 8 25 ?_);refine sx 27 (.tmp 8) _ (Rp.cells ⟨2,fr,inn,lg⟩) (N.row 0 rfl) ?_;refine m0j ?_;clear N;intro w9 N;have c0:World.cell? _ ⟨b8,0,none⟩=some (I Z 2):=((N.row 0 rfl).cell 0).trans (qdt _)))
  go_ret
  exact⟨rfl,N.gr.below (fun _ h=>h.elim) (Nat.le_refl _)⟩
 ·subst hc
  have CT2:∀W b F,qaw W b s2 (duF s2.fs) F->Calls prog 21 #[V (some ⟨b,0,none⟩)] W (fun e w'=>∃sa c,e=.returned (.agg (tc s2.f s2.g s2.h (.slice sa 0 c)))/\qaz w' (.slice sa 0 c) s2.ms/\qcs (.slice sa 0 c)/\(0<0->W.heap.size<=mb (.slice sa 0 c))/\Below W.heap.size W w'):=fun W b F hN=>by
   have:=qfa hN (by rw[h2];simp)
   (have e0:s2.ms.length=0:=by rw[h2];rfl)
   rw[e0] at this
   exact this
  have CL2:∀W b F,qaw W b s2 (duF s2.fs) F->Calls prog 22 #[V (some ⟨b,0,none⟩)] W (fun e w'=>∃a c,e=.returned (.slice a 0 c)/\Below W.heap.size W w'):=fun W b F hN=>by
   refine(qhb hN).mono ?_
   rintro e w' ⟨v,rfl,hF,hb⟩
   obtain⟨a,c,hv⟩:=hF.slice
   rw[List.length_map,h1] at hv
   exact⟨a,c,by rw[hv];rfl,hb⟩
  (have HWZ:Hid (wfF z0/\wfF s2.f/\wfH s2.h/\wfH z0/\eqTo s2.h z0 8=true):=hidN ⟨qgdb,qpn hC.good.pool,hC.good.wf,qgcb,(qjn _ _ _).2 fun i hi=>h4 i hi⟩)
  have HRD:Hid (∀(L:ByteArray) (all:List Ev),qdcb s L.data.toList all->L.size<=1100*(es.take 100).length->∃(es':List Ev) (f3:Nat->Int),(∀w,Tab w->Calls prog 27 #[.string (L++lg)] w fun x w'=>∃v,x=.returned (.tuple #[v,I Z 0])/\EvAt w' v (all++es')/\Below w.heap.size w w')/\(∀w v,EvAt w v (all++es')->Calls prog 28 #[v] w fun x w'=>x=.returned (.tuple #[.agg (pc f3 g0'),I Z 0])/\Below w.heap.size w w')/\Hid (wfF f3/\eqTo f3 z0 18=true/\eqTo s2.f f3 18=true)/\L.size+lg.size<=1000000):=hidN (fun L all hL hz=>by
   obtain⟨es',hT',hz'⟩:=hmore L all hL;obtain⟨f3,hw3,he3⟩:=hT'.own;(have hf0:∀i,i<18->f3 i=0:=fun i hi=>(he3 i hi).trans (h3 i hi))
   refine⟨es',f3,fun w hTw=>?_,fun w v hE=>?_,hidN ⟨fun i hi=>by rw[hf0 i hi];rfl,(qjn _ _ _).2 fun i hi=>hf0 i hi,(qjn _ _ _).2 fun i hi=>(he3 i hi).symm⟩,by omega⟩
   ·have:=qf2b (L++lg).data.toList w hTw (by rw[qb6,ByteArray.size_append];omega)
    rw[qgkb] at this
    refine this.mono ?_;rintro x w' ⟨⟨v,hx,hE⟩,hb⟩
    rw[hT'.read] at hx hE
    exact⟨v,hx,hE,hb⟩
   ·refine(qfdb v _ w hE).mono ?_;rintro x w' ⟨hx,hb⟩
    rw[qdrb hw3] at hx
    exact⟨hx,hb⟩)
  clear hmore hinv hS hT hs hC h1 h2 h3 h4 hk1
  go_enter func10,ntmps10
  go_wp2_with (first|((with_reducible refine gA 9 ?_);refine m5u ?_;intro bl w9 HLL HBL Rl)|((with_reducible refine qaa (.store 9 (.tmp 5) (.const (.string { data:=#[] }))) rfl ?_);refine m2o ?_;clear Rl;intro w9 HBL2 Rl)|(go_at_call 23;refine(CP bl _ HLL.out Rl HBL2.out).mono ?_;rintro e w1 ⟨b,rfl,F,G,hP⟩;refine m5t ?_;clear CP hP Rl;intro L all tl zl N;rw[HS1.out] at N tl;have HTL:Hid _:=hidN tl;have HZL:Hid _:=hidN zl;clear tl zl)|((with_reducible refine qaa (.build 23 #[(0,.const (I Z 3)),(1,.const (I Z 60))]) rfl ?_);refine qdzb rfl rfl ?_)|(go_at_call 18;refine m4q ?_;rintro e w5 ⟨rfl,F9,hN9,hg9,hf9⟩;clear CD;replace N:=N.call hN9 hg9 hf9;clear hN9 hg9 hf9)|((with_reducible refine gA 27 ?_);refine ax 8 27 qan ?_;intro b8 w9 l9 R9 h9;refine m3q ?_;clear N;intro N;clear R9 h9 l9)|((with_reducible refine gS 27 8 25 ?_);refine sx 27 (.tmp 8) _ (Rp.cells ⟨0,fr,inn,lg⟩) (N.row 0 rfl) ?_;refine m0j ?_;clear N;intro w9 N;have c0:World.cell? _ ⟨b8,0,none⟩=some (I Z 0):=((N.row 0 rfl).cell 0).trans (qdt _))|((with_reducible refine gL 9 5 ?_);refine qcm (N.row 1 rfl) (.tmp 5) rfl kr 0 rfl L rfl ?_)|((with_reducible refine gL 9 34 ?_);refine qcm (N.row 0 rfl) (.tmp 34) rfl kr 3 rfl lg (qb2 _) ?_;clear c0;obtain⟨es,f3,CR,CO,HF3,hzz⟩:=HRD.out L all HTL.out HZL.out)|(go_at_call 27;refine(CR _ (HT.out.gr N.gr id)).mono ?_;rintro e w5 ⟨v5,rfl,hE5,hb5⟩;clear CR;replace N:=N.below hb5;clear hb5)|(go_at_call 28;refine(CO _ _ hE5).mono ?_;rintro e w5 ⟨rfl,hb5⟩;clear CO hE5;replace N:=N.below hb5;clear hb5)|((with_reducible refine gA 35 ?_);refine ax 11 35 qe8b ?_;intro b11 w9 l9 R9 h9;replace N:=N.alloc (o:=ob 35 (pc z0 g0')) l9 R9 h9;clear R9 h9 l9)|((with_reducible refine gS 35 11 43 ?_);refine sx 35 (.tmp 11) _ (pc f3 g0') (N.row 0 rfl) ?_;refine m0j ?_;clear N;intro w9 N)|(go_at_call 21;refine(CT2 _ _ _ N.nat).mono ?_;rintro e w5 ⟨sa,kc,rfl,-,-,-,hb5⟩;clear CT2;replace N:=N.below hb5;clear hb5)|((with_reducible refine gA 39 ?_);refine ax 13 39 qbp ?_;intro b13 w9 l9 R9 h9;replace N:=N.alloc (o:=ob 39 (tz)) l9 R9 h9;clear R9 h9 l9)|((with_reducible refine gS 39 13 46 ?_);refine sx 39 (.tmp 13) _ (tc s2.f s2.g s2.h (.slice sa 0 kc)) (N.row 0 rfl) ?_;refine m0j ?_;clear N;intro w9 N;have k29:World.cell? _ ⟨b13,29,none⟩=some (.slice sa 0 kc):=((N.row 0 rfl).cell 29).trans (qdw _ _ _ _))|((with_reducible refine gL 32 54 ?_);refine qi3 32 (.tmp 54) rfl kr b11 0 rfl (ocl f3) (qeob (N.row 1 rfl)) _ underlying32 rfl (qdqb _) ?_;rw[qip])|((with_reducible refine gL 32 79 ?_);refine qi3 32 (.tmp 79) rfl kr b13 0 rfl (ocl s2.f) (qfwb (N.row 0 rfl)) _ underlying32 rfl (qdqb _) ?_;rw[qip])|((with_reducible refine gL 32 81 ?_);refine qi3 32 (.tmp 81) rfl kr b11 0 rfl (ocl f3) (qeob (N.row 1 rfl)) _ underlying32 rfl (qdqb _) ?_;rw[qip])|((with_reducible refine gL 36 72 ?_);refine qi3 36 (.tmp 72) rfl kr b13 21 rfl (hcl s2.h) (N.row 0 rfl).homes _ underlying36 rfl (qfd _) ?_)|((with_reducible refine qaa (.build 32 #[]) rfl ?_);refine qfab kr rfl ?_)|((with_reducible refine qaa (.build 36 #[]) rfl ?_);refine qfcb kr rfl ?_)|((with_reducible refine qaa (.binOp .eql 32 (.tmp 55) (.tmp 56) 32) rfl ?_);refine qb1 32 (.tmp 55) (.tmp 56) rfl kr (oc f3) (oc z0) rfl rfl eqGuardType32 _ true (qq8 f3 z0 HF3.out.1 HWZ.out.1 _) HF3.out.2.1 ?_)|((with_reducible refine qaa (.binOp .eql 32 (.tmp 80) (.tmp 82) 32) rfl ?_);refine qb1 32 (.tmp 80) (.tmp 82) rfl kr (oc s2.f) (oc f3) rfl rfl eqGuardType32 _ true (qq8 s2.f f3 HWZ.out.2.1 HF3.out.1 _) HF3.out.2.2 ?_)|((with_reducible refine qaa (.binOp .eql 36 (.tmp 73) (.tmp 74) 36) rfl ?_);refine qb1 36 (.tmp 73) (.tmp 74) rfl kr (hc8 s2.h) (hc8 z0) kr kr eqGuardType36 _ true (qmy s2.h z0 HWZ.out.2.2.1 HWZ.out.2.2.2.1 _) HWZ.out.2.2.2.2 ?_)|(go_at_call 22;refine(CL2 _ _ _ N.nat).mono ?_;rintro e w5 ⟨fa,fcap,rfl,hb5⟩;clear CL2;replace N:=N.below hb5;clear hb5;clear k29;have k29:World.cell? _ ⟨b13,29,none⟩=some (.slice sa 0 kc):=((N.row 0 rfl).cell 29).trans (qdw _ _ _ _)))
  go_ret
  exact⟨rfl,N.gr.below (fun _ h=>h.elim) (Nat.le_refl _)⟩
end Go.Proofs.YtonnjgmognbnbaaGreatDoor
