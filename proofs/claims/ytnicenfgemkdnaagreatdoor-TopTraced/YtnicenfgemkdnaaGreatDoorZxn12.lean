/-
  Of what a law stands on.
-/
import Derived.Test.YtnicenfgemkdnaaGreatDoorZxn11
set_option linter.unusedSimpArgs false
set_option linter.unusedVariables false
namespace Go.Proofs.YtnicenfgemkdnaaGreatDoor
open _root_.Go.Proofs.Tryz
set_option maxHeartbeats 16000000
set_option maxRecDepth 100000
open Go.ChangeShapes Go.WideShapes Go.ChangeAt Go.RowKit Go.Maps
def natA(loose:Bool):Array Value:=#[.bool loose,.int .i64 0,.int .i64 4,.int .i64 0]
def natB:Array Value:=#[.map none,.slice none 0 0,.int .i64 0,.int .i64 0,.map none]
def qj2(loose:Bool):Array Value:=natA loose++tz++natB
def qd2(loose:Bool):Array Value:=qj2 loose++((List.range 448).map fun _=>Value.slice none 0 0).toArray
theorem qj5:tz.size=30:=qcr _ _ _ _
theorem qf9(loose:Bool):(natA loose).size=4:=rfl
theorem q3w:natB.size=5:=rfl
theorem qj0(loose:Bool):(qj2 loose).size=39:=by unfold qj2;rw[Array.size_append,Array.size_append,qf9,q3w,qj5]
theorem qq3(loose:Bool):(qd2 loose).size=487:=by unfold qd2;rw[Array.size_append,qj0];simp
theorem qoi(loose:Bool)(i:Nat)(h:i<39):(qd2 loose)[i]?=(qj2 loose)[i]?:=by unfold qd2;rw[Array.getElem?_append_left (by rw[qj0];exact h)]
theorem qz2(loose:Bool)(k:Nat)(h:k<448):(qd2 loose)[39+k]?=some (.slice none 0 0):=by
 unfold qd2
 rw[Array.getElem?_append_right (by rw[qj0];omega),qj0,Nat.add_sub_cancel_left]
 simp[h]
theorem qpf(loose:Bool)(k:Nat)(h:k<4):(qd2 loose)[k]?=(natA loose)[k]?:=by
 rw[qoi _ _ om]
 unfold qj2
 rw[Array.getElem?_append_left (by rw[Array.size_append,qf9,qj5];omega),Array.getElem?_append_left (by rw[qf9];exact h)]
theorem qmv(loose:Bool)(k:Nat)(h:k<5):(qd2 loose)[34+k]?=natB[k]?:=by
 rw[qoi _ _ om]
 unfold qj2
 rw[Array.getElem?_append_right (by rw[Array.size_append,qf9,qj5];omega),Array.size_append,qf9,qj5,Nat.add_sub_cancel_left]
theorem qxa(loose:Bool)(k:Nat)(h:k<30):(qd2 loose)[4+k]?=tz[k]?:=by
 rw[qoi _ _ om]
 unfold qj2
 rw[Array.getElem?_append_left (by rw[Array.size_append,qf9,qj5];omega),Array.getElem?_append_right (by rw[qf9];omega),qf9,Nat.add_sub_cancel_left]
theorem q1t(loose:Bool):prog.built 91 [(0,.bool loose),(2,.int .i64 4)]=some (qd2 loose):=by kernel_rfl
theorem qyz{w:World}{b:Nat}{loose:Bool}(R:Row 91 w b (qd2 loose)):qca w b 91 (qd2 loose) 37 0 (fun _=>none) 0 (fun c=>c=b):=by
 refine⟨none,.map [],fun _=>.slice none 0 0,fun _=>[],⟨R,by rw[qq3];omega,qmv loose 3 om,qmv loose 4 om,fun k hk=>by rw[show 37+2+k=39+k by omega];exact qz2 _ k hk,fun k hk=>World.ownsRow_nil _ _ _ _,fun _ _ _=>rfl,fun j k c _ _ hc=>by simp[Value.ownBlock] at hc,fun k hk hc=>by simp[Value.ownBlock] at hc,.inl ⟨rfl,rfl⟩⟩,q2f,⟨by omega,fun _ _ h=>(by cases h),fun _=>List.nodup_nil,fun k i=>zm⟩,fun _ _ h=>(by cases h),?_,rfl,by omega,fun c hc=>?_⟩
 ·have:∀n,sumR n (fun _=>[])=0:=fun n=>by induction n with|zero=>rfl|succ n ih=>rw[qib,ih];rfl
  exact this 448
 ·rcases hc with rfl|hc|⟨k,hk,hc⟩
  ·rfl
  ·cases hc
  ·simp[Value.ownBlock] at hc
theorem q72{w:World}{b:Nat}{loose:Bool}(R:Row 91 w b (qd2 loose)):qaw w b (nt0 loose) (duF (nt0 loose).fs) (fun c=>c=b):=by
 refine⟨qd2 loose,.slice none 0 0,.slice none 0 0,none,.map [],fun c=>c=b,0,⟨?_,qq3 _,qpf loose 0 om,qpf loose 1 om,qpf loose 2 om,qpf loose 3 om,fun k hk=>?_,qmv loose 0 om,qmv loose 1 om,qmv loose 2 om,qaz.nil w,(fun n c h=>by cases h;rfl),World.ownsRow_nil _ _ _ _,.inl ⟨rfl,rfl⟩,qyy,rfl,Nat.le_refl _,(fun c hc=>by cases hc),(fun c hc=>by simp[Value.ownBlock] at hc),fun h0=>absurd h0 (by simp[nt0]),List.Pairwise.nil,fun x hx=>by simp[nt0] at hx,by show(0:Nat)<=700;omega⟩,fun c hc=>?_⟩
 ·exact qyz R
 ·exact qxa loose k hk
 ·rcases hc with h1|h1|h1|⟨h1,_⟩
  ·exact h1
  ·cases h1
  ·simp[Value.ownBlock] at h1
  ·simp[nt0] at h1
theorem qt7{ops:Array Oper}{rest:List Oper}{o:Oper}{a:Act}{w:World}{Q:Exit->Act->World->Prop}(hgd:o.guard=none)(x:Operand)(ho:o.op=.build 91 #[(0,x),(2,.const (.int .i64 4))])(loose:Bool)(hx:a.eval x=.bool loose)(hr:wpList prog ops Q rest (a.put o.dst (.agg (qd2 loose))) w):wpList prog ops Q (o::rest) a w:=
 wpList_plain hgd fun K hK=>by
  have hz:a.eval (.const (.int .i64 4))=.int .i64 4:=rfl
  have hb:=run_build (P:=prog) w 91 #[(0,.bool loose),(2,.int .i64 4)] _ (q1t loose)
  unfold Oper.wp execOp
  simp only[ho,List.map_toArray,List.map_cons,List.map_nil,hx,hz,Sem.run_bind,hb,Result.andThen_ok,Sem.run_pure]
  exact hK _ _ hr
attribute [local irreducible] qd2 qj2 natA natB
theorem qu0(loose:Bool)(w:World):Calls prog 49 #[.bool loose] w fun e w'=>∃b,e=.returned (.pointer (some ⟨b,0,none⟩))/\w.heap.size<=b/\qaw w' b (nt0 loose) (duF (nt0 loose).fs) (fun c=>c=b)/\Below w.heap.size w w':=by
 go_enter func49,ntmps49
 go_wp2_with (first|((with_reducible refine qaa (.build 91 #[(0,.tmp 3),(2,.const (.int .i64 4))]) rfl ?_);refine qt7 rfl (.tmp 3) rfl loose rfl ?_)|((with_reducible refine gB 91 4 ?_);refine bx 91 (.tmp 4) (qd2 loose) ?_;intro b5 w9 l9 R9 h9))
 go_ret
 exact⟨b5,rfl,l9,q72 R9,h9⟩
end Go.Proofs.YtnicenfgemkdnaaGreatDoor
namespace Go.Proofs.YtnicenfgemkdnaaGreatDoor
open _root_.Go.Proofs.Tryz
set_option maxHeartbeats 16000000
set_option maxRecDepth 100000
open Go.ChangeShapes Go.WideShapes Go.ChangeAt Go.RowKit Go.Maps
theorem qqc(a:Option Addr)(n c:Nat)(w:World):(binOp .eql 37 (.slice a n c) (.slice none 0 0)).run prog w=.ok (.bool a.isNone) w:=Lib.run_eql_slice_nil w _ _ a n c 0 0 underlying37
theorem q4l(w:World):(Instr.buildSlice 37 0 #[]).run prog w=.ok (.slice (some ⟨w.heap.size,0,none⟩) 0 0) (w.alloc (.cells #[] 46)):=by kernel_rfl
theorem qvv{ops:Array Oper}{rest:List Oper}{o:Oper}{a:Act}{w:World}{Q:Exit->Act->World->Prop}(hgd:o.guard=none)(ho:o.op=.buildSlice 37 0 #[])(hr:∀b w',w.heap.size<=b->w'.ownsRow w.heap.size 46 5 (.slice (some ⟨b,0,none⟩) 0 0) 0 []->Below w.heap.size w w'->wpList prog ops Q rest (a.put o.dst (.slice (some ⟨b,0,none⟩) 0 0)) w'):wpList prog ops Q (o::rest) a w:=
 wpList_plain hgd fun K hK=>by
  have h':=hr w.heap.size (w.alloc (.cells #[] 46)) (Nat.le_refl _) ⟨by simp,.inr ⟨w.heap.size,0,#[],rfl,Nat.le_refl _,Row.new 46 w #[],Nat.le_refl _,by unfold maxLen;omega,by simp,by simp⟩⟩ ((Below.refl _ _).alloc (Nat.le_refl _) _)
  unfold Oper.wp execOp
  simp only[ho,List.map_toArray,List.map_nil,Sem.run_bind,q4l,Result.andThen_ok,Sem.run_pure]
  exact hK _ _ h'
theorem qy5{w:World}{v:Value}{ms:List Mp}(hM:qaz w v ms)(hno:qcs v)(hl:ms.length<=1000):Calls prog 51 #[v] w fun e w'=>∃sa c,e=.returned (.slice sa ms.length c)/\qaz w' (.slice sa ms.length c) ms/\qcs (.slice sa ms.length c)/\(0<ms.length->w.heap.size<=mb (.slice sa ms.length c))/\Below w.heap.size w w':=by
 obtain⟨i0,hi,hz0,hz1,hz2⟩:=info_parts qnm
 have hM0:=hM
 obtain⟨a0,cap,hsl,ha0,-⟩:=hM0
 have hlt:=hM.lt
 have HF:Hid (∀(v':Value) (w':World),w'.ownsRow w.heap.size 46 5 v' ms.length (flat ms)->Below w.heap.size w w'->∃sa c,Ending.returned v'=.returned (.slice sa ms.length c)/\qaz w' (.slice sa ms.length c) ms/\qcs (.slice sa ms.length c)/\(0<ms.length->w.heap.size<=mb (.slice sa ms.length c))/\Below w.heap.size w w'):=hidN (fun v' w' ho hb=>by
  obtain⟨m1,m2,m3⟩:=qqm ho om
  obtain⟨sa,c,hv,-⟩:=id m1
  subst hv
  exact⟨sa,c,rfl,m1,m2,m3,hb⟩)
 obtain⟨n,hn⟩:∃n,n=ms.length:=⟨_,rfl⟩
 have HN:Hid (n=ms.length):=hn
 have HL:Hid (ms.length<=1000):=hl
 rw[←hn] at hsl
 have hq:=fun a c w=>qqc a n c w
 cases a0 with
 | none=>
  have h0:ms=[]:=by
   cases ms with
   | nil=>rfl
   | cons m r=>have:=ha0 zm;cases this
  subst h0
  obtain rfl:n=0:=hn
  subst hsl
  have hq2:=fun w=>qqc none 0 cap w
  clear ha0 hlt hl hno HF HN HL hi hz0 hz1 hz2 hq hM
  go_enter func51,ntmps51
  go_wp2
  go_ret
  exact⟨none,0,rfl,qaz.nil _,fun n c h=>by cases h;rfl,fun h=>absurd h zm,Below.refl _ _⟩
 | some ad=>
  have src:∀ {W:World},Below w.heap.size w W->∀k u,(flat ms)[k]?=some u->W.cell? (ad.add k)=some u:=by
   intro W hb k u hu
   have hk:k<ms.length*5:=by rw[←qka];exact(List.getElem?_eq_some_iff.1 hu).1
   have had:ad=⟨mb v,mo v,none⟩:=Option.some.inj (ha0 om)
   rw[had,Addr.add_lit]
   refine qrv (fun j hj=>?_) k u hu
   exact(hM.keep hb hlt).at j hj rfl
  subst hsl
  have hq2:=fun w=>qqc (some ad) n cap w
  clear ha0 hno hn hq hl
  go_enter func51,ntmps51
  go_wp2_with (first|((with_reducible refine qaa (.buildSlice 37 0 #[]) rfl ?_);refine qvv rfl rfl ?_;intro b5 w5 l5 ho5 hb5)|((with_reducible refine qaa (.call { callee:=.builtin .append,args:=#[.tmp 5,.tmp 6],argTypes:=#[37,37] }) rfl ?_);refine wpList_append_own _ rfl (.tmp 5) (.tmp 6) 37 rfl w.heap.size 46 i0 (.agg (mc noM)) 5 40 underlying37 hi hz0 hz1 hz2 rfl (by decide) _ _ _ rfl ho5 ad n cap (flat ms) rfl (by rw[qka,HN.out]) (src hb5) (qov ms) (by have:=HL.out;have:=HN.out;unfold maxLen;omega) (by have:=HL.out;have:=HN.out;omega) hb5.size ?_;intro v2 w2 hown2 hg2 hn2;clear hn2;simp only[Nat.zero_add,List.nil_append] at hown2;rw[HN.out] at hown2;replace hg2:Below w.heap.size w w2:=hb5.trans ⟨hg2.os,hg2.tape,hg2.output,hg2.size,fun k hk=>hg2.block k (Nat.lt_of_lt_of_le hk hb5.size) (fun e=>by have:k=b5:=Option.some.inj e;omega)⟩))
  go_ret
  exact HF.out _ _ hown2 hg2
attribute [local irreducible] tc pc in
theorem qfa{w:World}{b:Nat}{s:Nt}{tm:Int->Option Int}{F:Nat->Prop}(h:qaw w b s tm F)(hl:s.ms.length<=1000):Calls prog 19 #[.pointer (some ⟨b,0,none⟩)] w fun e w'=>∃sa c,e=.returned (.agg (tc s.f s.g s.h (.slice sa s.ms.length c)))/\qaz w' (.slice sa s.ms.length c) s.ms/\qcs (.slice sa s.ms.length c)/\(0<s.ms.length->w.heap.size<=mb (.slice sa s.ms.length c))/\Below w.heap.size w w':=by
 obtain⟨v0,hr0,hM0,hN0,-⟩:=h.table
 obtain⟨a0,cap,hsl,-⟩:=id hM0
 obtain⟨n,hn⟩:∃n,n=s.ms.length:=⟨_,rfl⟩
 have CC:=fun W (hM:qaz W v0 s.ms)=>qy5 hM hN0 hl
 rw[←hn] at hsl
 simp only[←hn] at CC
 subst hsl
 have HR:Hid (∀W,Below w.heap.size w W->W.rangeAt b 4 (tc s.f s.g s.h (.slice a0 n cap)).toList):=hidN (fun W hb i u hu=>by
  have h1:=hr0 i u hu
  have h2:=World.block_lt_of_cell? w _ h1
  exact(hb.cell (p:=⟨b,4+i,none⟩) h2).trans h1)
 have HN:Hid (n=s.ms.length):=hn
 have B:=Bd.start w
 have hq:=fun w=>qpc b w
 rw[←hn]
 clear hr0 hN0 hl h hn
 go_enter func19,ntmps19
 go_wp2_with (first|((with_reducible refine gA 39 ?_);refine ax 2 39 qbp ?_;intro b2 w9 l9 R9 h9;replace B:=B.alloc l9 R9 h9;clear R9 h9 l9)|((with_reducible refine gL 39 9 ?_);refine wpList_load_mid rfl 39 (.tmp 9) rfl b 4 rfl (tc s.f s.g s.h (.slice a0 n cap)).toList _ (HR.out _ B.base) underlying39 rfl (qcj _ _ _ _) ?_;(try simp only[Array.toArray_toList]))|((with_reducible refine gA 39 ?_);refine ax 3 39 qbp ?_;intro b3 w9 l9 R9 h9;replace B:=B.alloc l9 R9 h9;clear R9 h9 l9)|((with_reducible refine gS 39 3 10 ?_);refine qab 39 rfl (.tmp 3) _ rfl b3 rfl (tc s.f s.g s.h (.slice a0 n cap)) rfl _ (B.row 0 rfl) (qel _ _ _ _) (qaq _ _ _ _) (qbm _ _ _ _ _ _) ?_;intro w9 R9 t9;replace B:=B.turn 0 rfl R9 t9;clear R9 t9;have cM:World.cell? _ ⟨b3,29,none⟩=some (.slice a0 n cap):=((B.row 0 rfl).cell 29).trans (qdw _ _ _ _))|(go_at_call 51;go_fit (CC _ (hM0.below B.base));rintro e w5 ⟨sa,c,rfl,hM5,hN5,hl5,hb5⟩;have HG5:Hid (0<s.ms.length->w.heap.size<=mb (.slice sa n c)):=hidN (fun h0=>Nat.le_trans B.base.size (hl5 (HN.out▸h0)));replace B:=B.addNew hb5 hM5 (fun h0=>hl5 (HN.out▸h0));clear cM hl5 hM5 CC hb5)|((with_reducible refine gS 37 14 13 ?_);refine qh1 (B.row 0 rfl) rfl _ _ rfl 29 rfl _ _ _ rfl _ (qdw _ _ _ _) (tc s.f s.g s.h (.slice sa n c)) (qm0 _ _ _ _ _) ?_;intro w9 R9 t9;replace B:=B.turn 0 rfl R9 t9;clear R9 t9)|((with_reducible refine gL 39 3 ?_);refine lx 39 (.tmp 3) (tc s.f s.g s.h (.slice sa n c)) (B.row 0 rfl) ?_)|((with_reducible refine gS 39 2 15 ?_);refine qab 39 rfl (.tmp 2) _ rfl b2 rfl (tc s.f s.g s.h (.slice sa n c)) rfl _ (B.row 1 rfl) (qel _ _ _ _) (qaq _ _ _ _) (qbm _ _ _ _ _ _) ?_;intro w9 R9 t9;replace B:=B.turn 1 rfl R9 t9;clear R9 t9))
 ((try simp only[Exit.inBlock,Exit.then]);refine bodyPost_ret (qai (p:=2) rfl _ _ _ _ rfl (B.row 1 rfl) _ underlying39 rfl (qaq _ _ _ _)) rfl ⟨sa,c,rfl,B.map 0 rfl,hN5,fun h0=>HG5.out (HN.out▸h0),B.base⟩)
def FlO(w:World)(base:Nat)(v:Value)(ks:List Fl):Prop:=w.ownsRow base 48 10 v ks.length (ks.flatMap fun k=>(fc k).toList)
theorem FlO.nil(w:World)(base:Nat):FlO w base (.slice none 0 0) []:=World.ownsRow_nil w base 48 10
theorem FlO.keep{w w':World}{base:Nat}{v:Value}{ks:List Fl}(h:FlO w base v ks)(hk:∀g,v.ownBlock=some g->w'.heap[g]?=w.heap[g]?):FlO w' base v ks:=qfc h hk
theorem FlO.ge{w:World}{base:Nat}{v:Value}{ks:List Fl}(h:FlO w base v ks):∀k,v.ownBlock=some k->base<=k/\k<w.heap.size:=fun k hk=>World.ownsRow.lt h k hk
theorem FlO.below{w w':World}{base:Nat}{v:Value}{ks:List Fl}(h:FlO w base v ks)(hb:Below w.heap.size w w'):FlO w' base v ks:=h.keep (fun g hg=>hb.block g (h.ge g hg).2)
theorem FlO.slice{w:World}{base:Nat}{v:Value}{ks:List Fl}(h:FlO w base v ks):∃a cap,v=.slice a ks.length cap:=by
 rcases h.2 with⟨e,n0⟩|⟨b,cap,cur,hv,_⟩
 ·exact⟨none,0,by rw[e,n0]⟩
 ·exact⟨_,_,hv⟩
theorem qzr:(prog.info? 48).map (fun i=>(i.zero,i.size,i.bytes))=some (some (.agg (fc fl0)),10,80):=by kernel_rfl
theorem qz8(ks:List Fl)(k:Fl):(ks++[k]).flatMap (fun k=>(fc k).toList)=ks.flatMap (fun k=>(fc k).toList)++(fc k).toList:=by rw[List.flatMap_append];simp
theorem q3u{w:World}{base b:Nat}{v:Value}{ks:List Fl}{k:Fl}(h:FlO w base v ks)(R:Row 48 w b (fc k))(hl:ks.length<=5000000)(hbase:base<=w.heap.size)(ty:TypeId):
  ∃v' w',(Builtin.append_ #[41,41] ty #[v,.slice (some ⟨b,0,none⟩) 1 1]).run prog w=.ok v' w'/\FlO w' base v' (ks++[k])/\Grew v v' w w':=by
 obtain⟨i0,hi,hz0,hz1,hz2⟩:=info_parts qzr
 obtain⟨v',w',h1,h2,h3,_,h5⟩:=run_append_own_at (P:=prog) w base 41 ty 48 i0 (.agg (fc fl0)) 10 80 underlying41 hi hz0 hz1 hz2 rfl (by decide) v ks.length (ks.flatMap fun k=>(fc k).toList) h ⟨b,0,none⟩ 1 1 (fc k).toList rfl
  (fun j u hu=>by rw[Addr.add_lit,Nat.zero_add];exact(R.cell j).trans (by simpa using hu)) (fun u hu=>(Array.all_eq_true_iff_forall_mem.1 (qa5 k)) u (by simpa using hu)) (by unfold maxLen;omega) om hbase
 refine⟨v',w',h1,?_,⟨h3,?_⟩⟩
 ·unfold FlO;rw[qz8,List.length_append];exact h2
 ·rcases h5 with e|e
  ·exact .inl e
  ·exact .inr ⟨_,e,Nat.le_refl _⟩
theorem q2k(k:Fl)(w:World):(Instr.buildSlice 41 1 #[(0,.agg (fc k))]).run prog w=.ok (.slice (some ⟨w.heap.size,0,none⟩) 1 1) (w.alloc (.cells (fc k) 48)):=by
 obtain⟨a,b,c,d,e,f,g,h,i,j⟩:=k
 kernel_rfl
theorem qv2{ops:Array Oper}{rest:List Oper}{o:Oper}{a:Act}{w:World}{Q:Exit->Act->World->Prop}(hgd:o.guard=none)(x:Operand)(ho:o.op=.buildSlice 41 1 #[(0,x)])(k:Fl)(hx:a.eval x=.agg (fc k))(hr:∀b w',w.heap.size<=b->Row 48 w' b (fc k)->Below w.heap.size w w'->wpList prog ops Q rest (a.put o.dst (.slice (some ⟨b,0,none⟩) 1 1)) w'):wpList prog ops Q (o::rest) a w:=
 wpList_plain hgd fun K hK=>by
  have h':=hr w.heap.size (w.alloc (.cells (fc k) 48)) (Nat.le_refl _) (Row.new _ w _) ((Below.refl _ _).alloc (Nat.le_refl _) _)
  unfold Oper.wp execOp
  simp only[ho,List.map_toArray,List.map_cons,List.map_nil,hx,Sem.run_bind,q2k,Result.andThen_ok,Sem.run_pure]
  exact hK _ _ h'
theorem qun{ops:Array Oper}{rest:List Oper}{o:Oper}{a:Act}{w:World}{Q:Exit->Act->World->Prop}(hgd:o.guard=none)(s x:Operand)(ho:o.op=.call { callee:=.builtin .append,args:=#[s,x],argTypes:=#[41,41] }){base b:Nat}{v:Value}{ks:List Fl}{k:Fl}(h:FlO w base v ks)(R:Row 48 w b (fc k))(hs:a.eval s=v)(hx:a.eval x=.slice (some ⟨b,0,none⟩) 1 1)(hl:ks.length<=5000000)(hbase:base<=w.heap.size)(hr:∀v' w',FlO w' base v' (ks++[k])->Grew v v' w w'->wpList prog ops Q rest (a.put o.dst v') w'):wpList prog ops Q (o::rest) a w:=
 wpList_plain hgd fun K hK=>by
  obtain⟨v',w',h1,h2,h3⟩:=q3u h R hl hbase o.type
  unfold Oper.wp execOp
  simp only[ho,resolve,invoke,builtin,Sem.run_bind,Sem.run_pure,Result.andThen_ok,List.map_toArray,List.map_cons,List.map_nil,hs,hx,h1]
  exact hK _ _ (hr v' w' h2 h3)
theorem qz1{w0 w w':World}{v v':Value}(hb:Below w0.heap.size w0 w)(hg:Grew v v' w w')(hv:∀k,v.ownBlock=some k->w0.heap.size<=k):Below w0.heap.size w0 w':=
 hb.trans ⟨hg.by'.os,hg.by'.tape,hg.by'.output,hg.by'.size,fun k hk=>hg.by'.block k (Nat.lt_of_lt_of_le hk hb.size) (fun e=>by have:=hv k e.symm;omega)⟩
attribute [local irreducible] tc pc fc in
theorem qhb{w:World}{b:Nat}{s:Nt}{tm:Int->Option Int}{F:Nat->Prop}(h:qaw w b s tm F):Calls prog 20 #[.pointer (some ⟨b,0,none⟩)] w fun e w'=>∃v,e=.returned v/\FlO w' w.heap.size v (s.fs.map (·.2))/\Below w.heap.size w w':=by
 obtain⟨cs,v,ov,fm,D,Fw,cnt,M0,hF⟩:=h
 obtain⟨sa,kp,hov⟩:=qeh M0.ids
 obtain⟨n,hn⟩:∃n,n=s.fs.length:=⟨_,rfl⟩
 have hlm:(s.fs.map fun x=>(x.1:Int)).length=n:=by simp[hn]
 rw[hlm] at hov
 subst hov
 have HN:Hid (n=s.fs.length):=hn
 have HB:Hid (n<=702):=hidN (by have:=qkd M0;omega)
 have c35:=(M0.cell 35).trans M0.c35
 have hq:=fun w=>qpc b w
 clear hn hlm
 go_enter func20,ntmps20
 go_wp2_with ((with_reducible refine gL 84 10 ?_);refine qn5 rfl (.tmp 10) rfl b 35 rfl (.slice sa n kp) c35 ?_)
 go_loopw [3,13] (fun fv i W=>∃j:Nat,j<=n/\i=.int .i64 (j:Int)/\FlO W w.heap.size fv ((s.fs.take j).map (·.2))/\Below w.heap.size w W) (fun _ i _=>n-(intOf i).toNat)
 case atStart=>exact⟨0,Nat.zero_le _,rfl,FlO.nil _ _,Below.refl _ _⟩
 case round=>
  obtain⟨j,hj,rfl,hFl,hb⟩:=hrel
  by_cases hlt:j<n
  ·have hjl:j<s.fs.length:=by have:=HN.out;omega
   have hji:(j:Int)<(n:Int):=by omega
   have HM:=qha hlt
   have hjw:=qhl (p:=j) (by have:=HB.out;omega)
   have M:=M0.below hb
   have hx:s.fs[j]∈s.fs:=List.getElem_mem hjl
   obtain⟨g,kp',hsh,hcx⟩:=qo4 M.ids (j:=j) (by simpa using hjl)
   obtain⟨rfl,-⟩:sa=some ⟨g,0,none⟩/\_:=by simpa using hsh
   rw[List.getElem_map] at hcx
   have LK:=M.look_at hx
   have c34:=(M.cell 34).trans M.c34
   have hst:(s.fs.take (j+1)).map (·.2)=(s.fs.take j).map (·.2)++[s.fs[j].2]:=by rw[List.take_succ_eq_append_getElem hjl,List.map_append];rfl
   have hix:=fun w=>ixI g n kp j hlt w
   generalize s.fs[j]=x at *
   have HST:Hid _:=hidN hst
   have HFL:Hid (((s.fs.take j).map (·.2)).length<=5000000):=hidN (by rw[List.length_map,List.length_take];have:=HB.out;omega)
   generalize(s.fs.take j).map (·.2)=ks at *
   clear hst hsh hx hjl
   go_wp2_with (first|((with_reducible refine qaa (.lookup 83 (.tmp 21) (.tmp 22) false) rfl ?_);refine qee rfl 83 (.tmp 21) (.tmp 22) rfl (.map fm) (.int .i64 ((x.1:Nat):Int)) (.agg (fc x.2)) rfl rfl LK ?_)|((with_reducible refine qaa (.buildSlice 41 1 #[(0,.tmp 23)]) rfl ?_);refine qv2 rfl (.tmp 23) rfl x.2 rfl ?_;intro b24 w9 l9 R9 h9;replace hFl:=hFl.below h9;replace hb:=hb.trans (h9.mono hb.size);clear LK c34 hcx M)|((with_reducible refine qaa (.call { callee:=.builtin .append,args:=#[.tmp 17,.tmp 24],argTypes:=#[41,41] }) rfl ?_);refine qun rfl (.tmp 17) (.tmp 24) rfl hFl R9 rfl rfl HFL.out hb.size ?_;intro fv9 w8 ho8 hg8;replace hb:=qz1 hb hg8 (fun k hk=>(hFl.ge k hk).1);replace hFl:=ho8;clear ho8 hg8 R9))
   go_roundw
   case rel=>
    have T9:=HST.out▸hFl
    first
     | exact⟨j+1,by omega,by go_num,T9,hb⟩
     | ((repeat apply Exists.intro);exact⟨⟨j+1,by omega,by go_num,T9,hb⟩,rfl⟩)
   case measure=>first|exact HM.out|(rw[hjw];exact HM.out)
  ·have hji:¬(j:Int)<(n:Int):=by omega
   obtain rfl:j=n:=by omega
   have e:s.fs.take j=s.fs:=List.take_of_length_le (by have:=HN.out;omega)
   rw[e] at hFl
   clear e hj hlt
   go_wp2
   go_ret
   exact⟨_,rfl,hFl,hb⟩
def pA:Pkt:=⟨17,167772161,5,9,6,9,0,0,0,0,0,ByteArray.empty⟩
theorem qla:good pA=0:=by decide
theorem qvs:built pA=txt (frame pA):=by unfold built;rw[if_pos qla]
def qhj:qzo:=qbe (fun _=>0) (fun _=>false) (fun _=>0) [] 17 0 0
theorem q7p:qhj.e=0:=by kernel_rfl
theorem q0f:qhj.took=true:=by kernel_rfl
theorem q9e:qhj.q=1024:=by kernel_rfl
theorem q8t:qhj.h 0=1:=by kernel_rfl
theorem qavb:qba (fun _=>0) (fun _=>false) (fun _=>0) [] 17 0 5 0=⟨0,qhj.f,qhj.h,[(17,0,5,0,1024)],(17,0,5,0,1024),true⟩:=by
 have hP:qjy (fun _=>0) (fun _=>0) [] 17 0 5:=⟨q7g,by decide,by omega,by omega,by omega⟩
 unfold qba
 rw[if_pos hP]
 simp only[List.find?_nil]
 rw[if_neg (by simp[cntM]),if_neg (fun h=>h q7p)]
 have e1:(qbe (fun _=>0) (fun _=>false) (fun _=>0) [] 17 0 0).h (Int.toNat 0)-1=0:=by show qhj.h 0-1=0;rw[q8t];rfl
 have e2:(qbe (fun _=>0) (fun _=>false) (fun _=>0) [] 17 0 0).q=1024:=q9e
 have e3:(qbe (fun _=>0) (fun _=>false) (fun _=>0) [] 17 0 0).took=true:=q0f
 rw[e1,e2,e3]
 rfl
def qA:Pkt:={ pA with ttl:=8,src:=3405803777,sport:=1024 }
theorem qxr:qcb (frame pA) 0 3405803777 1024=0:=by
 have hb:=(qev pA qla).1
 have hk:qam (frame pA)=pA:=ql1 pA qla _ _
 unfold qcb
 rw[if_neg (fun h=>h hb),hk]
 decide
theorem q0d:qc5 (frame pA) 0 3405803777 1024=txt (frame qA)/\good qA=0:=by
 obtain⟨h1,h2,-⟩:=qy9 pA 0 3405803777 1024 qla qxr
 exact⟨h1,h2⟩
def actA:Ac:=⟨1,0,0,built pA⟩
def evA:Ev:=evN 0 (17,0,5,0,1024) false
theorem okA:okE evA:=by unfold okE evA evN;simp
def ntA:Nt:={ nt0 false with acts:=1 }
theorem q4q:(nt0 false).act actA=ntA.out (frame pA) 0:=by
 unfold Nt.act
 rw[if_neg (by show ¬300<=0;omega)]
 simp only
 rw[if_pos (show actA.kd=1 from rfl)]
 show ntA.out (built pA).data.toList 0=_
 rw[qvs,qds]
theorem outA:ntA.out (frame pA) 0=ntA.first (frame pA) pA 0 0:=by
 have hb:=(qev pA qla).1
 have hk:qam (frame pA)=pA:=ql1 pA qla _ _
 unfold Nt.out
 rw[if_neg (fun h=>h hb),hk]
 rw[if_neg (show ¬ ¬(0<=pA.src-167772161/\pA.src-167772161<8) from fun h=>h (by decide))]
 rw[if_neg (show ¬(pA.proto==1&&pA.flags != 8)=true by decide)]
 rw[if_neg (show ¬pA.ttl=1 by decide)]
 have hf:ntA.find (outF pA (pA.src-167772161))=none:=rfl
 rw[hf]
 simp only
 rw[if_neg (show ¬begB pA=false by decide)]
 rfl
noncomputable def ntB:Nt:=(ntA.setT qhj.f qhj.h [(17,0,5,0,1024)]).begin (mkF (17,0,5,0,1024) 9 6 2)
theorem qajb:ntA.first (frame pA) pA 0 0=(⟨0,txt (frame qA),false,(ntB.log [evA]).1⟩,(ntB.log [evA]).2):=by
 unfold Nt.first
 rw[if_neg (show ¬ntA.full=true by decide)]
 have ho:qba ntA.f ntA.g ntA.h ntA.ms pA.proto 0 pA.sport 0=⟨0,qhj.f,qhj.h,[(17,0,5,0,1024)],(17,0,5,0,1024),true⟩:=qavb
 rw[ho]
 simp only
 rw[if_neg (fun h=>h rfl),if_pos trivial]
 have hl:((ntA.setT qhj.f qhj.h [(17,0,5,0,1024)]).begin (mkF (17,0,5,0,1024) pA.dst pA.dport (qao pA.proto))).leave (frame pA) (mkF (17,0,5,0,1024) pA.dst pA.dport (qao pA.proto))=(⟨0,txt (frame qA),false,ByteArray.empty⟩,ntB):=by
  unfold Nt.leave
  rw[if_neg (show ¬(0<=(mkF (17,0,5,0,1024) pA.dst pA.dport (qao pA.proto)).rem-3405803777/\(mkF (17,0,5,0,1024) pA.dst pA.dport (qao pA.proto)).rem-3405803777<3) by decide)]
  have e1:qcb (frame pA) 0 (3405803777+(mkF (17,0,5,0,1024) pA.dst pA.dport (qao pA.proto)).a) (mkF (17,0,5,0,1024) pA.dst pA.dport (qao pA.proto)).port=0:=qxr
  have e2:qc5 (frame pA) 0 (3405803777+(mkF (17,0,5,0,1024) pA.dst pA.dport (qao pA.proto)).a) (mkF (17,0,5,0,1024) pA.dst pA.dport (qao pA.proto)).port=txt (frame qA):=q0d.1
  rw[e1,e2]
  rfl
 rw[hl]
 rfl
theorem q1l:(mesT 0 [evA]).size=41:=by
 unfold mesT
 have ho:okM [evA]:=fun e he=>by obtain rfl:=List.mem_singleton.1 he;exact⟨okA,rfl⟩
 rw[if_neg zm,if_neg zm,if_pos ho]
 unfold msgT
 rw[if_pos (by decide),qck,qlj,qnn]
 rfl
theorem q39:(msgT 0 0 2 (tplB 6)).size=48:=by
 unfold msgT
 rw[if_pos (by decide),qck,qlj,qqi]
theorem logA:(ntB.log [evA]).1.size=89/\(ntB.log [evA]).2.fs.length=1:=by
 unfold Nt.log
 rw[if_neg zm]
 refine⟨?_,rfl⟩
 have h0:ntB.logged=0:=rfl
 rw[h0,if_pos rfl]
 show(msgT 0 0 2 (tplB 6)++mesT 0 [evA]).size=89
 rw[ByteArray.size_append,q39,q1l]
theorem q9t:((nt0 false).act actA).1.code=0/\((nt0 false).act actA).1.fr=txt (frame qA)/\((nt0 false).act actA).1.lg.size=89/\((nt0 false).act actA).2.fs.length=1/\good qA=0:=by
 rw[q4q,outA,qajb]
 exact⟨rfl,rfl,logA.1,logA.2,q0d.2⟩
theorem qyr(k:Pkt)(w:World)(hsz:k.body.size<=140737488351232):Calls prog 36 #[.agg (pcl k)] w fun e w'=>e=.returned (.string (built k))/\Below w.heap.size w w':=by
 have hB:=Below.refl w.heap.size w
 have CB:=fun w=>q3b k w hsz
 simp only[qgx] at CB
 clear hsz
 go_enter func36,ntmps36
 go_wp2_with (first|((with_reducible refine gB 58 0 ?_);refine bx 58 (.tmp 0) (pcl k) ?_;intro b2 w9 l9 R9 h9;replace hB:=hB.trans (h9.mono hB.size))|((with_reducible refine gL 58 1 ?_);refine qac 58 (.tmp 1) rfl kr b2 rfl (pcl k) R9 _ underlying58 rfl (qa0 k) ?_)|(go_at_call 75;go_fit (CB _);rintro e w5 ⟨rfl,hb5⟩;replace hB:=hB.trans (hb5.mono hB.size)))
 go_ret
 exact⟨rfl,hB⟩
theorem q9g(w:World):(Instr.build 58 #[(0,.int .i64 17),(1,.int .i64 167772161),(2,.int .i64 5),(3,.int .i64 9),(4,.int .i64 6),(5,.int .i64 9)]).run prog w=.ok (.agg (pcl pA)) w:=by kernel_rfl
theorem qy8{ops:Array Oper}{rest:List Oper}{o:Oper}{a:Act}{w:World}{Q:Exit->Act->World->Prop}(hgd:o.guard=none)(ho:o.op=.build 58 #[(0,.const (.int .i64 17)),(1,.const (.int .i64 167772161)),(2,.const (.int .i64 5)),(3,.const (.int .i64 9)),(4,.const (.int .i64 6)),(5,.const (.int .i64 9))])(hr:wpList prog ops Q rest (a.put o.dst (.agg (pcl pA))) w):wpList prog ops Q (o::rest) a w:=
 wpList_plain hgd fun K hK=>by
  unfold Oper.wp execOp
  simp only[ho,List.map_toArray,List.map_nil,List.map_cons,Act.eval,Sem.run_bind,q9g,Result.andThen_ok,Sem.run_pure]
  exact hK _ _ hr
theorem q5f(f:ByteArray)(w:World):(Instr.build 27 #[(0,.int .i64 1),(3,.string f)]).run prog w=.ok (.agg (ac ⟨1,0,0,f⟩)) w:=by kernel_rfl
theorem qw3{ops:Array Oper}{rest:List Oper}{o:Oper}{a:Act}{w:World}{Q:Exit->Act->World->Prop}(hgd:o.guard=none)(x:Operand)(ho:o.op=.build 27 #[(0,.const (.int .i64 1)),(3,x)])(f:ByteArray)(hx:a.eval x=.string f)(hr:wpList prog ops Q rest (a.put o.dst (.agg (ac ⟨1,0,0,f⟩))) w):wpList prog ops Q (o::rest) a w:=
 wpList_plain hgd fun K hK=>by
  have hz:a.eval (.const (.int .i64 1))=.int .i64 1:=rfl
  unfold Oper.wp execOp
  simp only[ho,List.map_toArray,List.map_nil,List.map_cons,hx,hz,Sem.run_bind,q5f,Result.andThen_ok,Sem.run_pure]
  exact hK _ _ hr
theorem qdt(r:Rp):r.cells[0]?=some (.int .i64 r.code):=rfl
theorem qe4(r:Rp):r.cells[1]?=some (.string r.fr):=rfl
theorem q8l:actA.ok:=by
 refine⟨by decide,by decide,by decide,?_⟩
 show(built pA).size<=140737488351232
 rw[qvs,qck]
 have:(frame pA).length=28:=by kernel_rfl
 omega
theorem q1m{w:World}{b:Nat}{s:Nt}{tm:Int->Option Int}{F:Nat->Prop}(h:qaw w b s tm F)(h1:s.fs.length=1):Calls prog 20 #[.pointer (some ⟨b,0,none⟩)] w fun e w'=>∃a c,e=.returned (.slice a 1 c)/\Below w.heap.size w w':=by
 refine(qhb h).mono ?_
 rintro e w' ⟨v,rfl,hF,hb⟩
 obtain⟨a,c,hv⟩:=hF.slice
 rw[List.length_map,h1] at hv
 exact⟨a,c,by rw[hv],hb⟩
theorem qu4:bad (frame qA)=0/\qb9 (frame qA)=qA:=qev qA q0d.2
attribute [local irreducible] Rp.cells tc pc qd2
theorem q1b(w:World)(hT:Tab w):Calls prog 47 #[] w fun e w'=>e=.returned (.bool true)/\Below w.heap.size w w':=by
 obtain⟨ha1,ha2,ha3,ha4,-⟩:=q9t
 have CN:=fun w=>qu0 false w
 have CF:=fun w=>qyr pA w (by show(ByteArray.empty).size<=_;simp)
 have hq:=fun b w=>qpc b w
 have CD:=fun W b F (hN:qaw W b (nt0 false) (duF (nt0 false).fs) F) (hT:Tab W) (h0:¬F 0)=>qos hN hT h0 ((NInv.new false).ok om) actA q8l
 generalize(nt0 false).act actA=r at *
 obtain⟨r1,r2⟩:=r
 simp only at ha1 ha2 ha3 ha4 CD
 have CP:=fun w=>qch (txt (frame qA)) w (by rw[qck];have:(frame qA).length=28:=kr;omega)
 simp only[qgx,qds,qu4.1,qu4.2] at CP
 have CL:=fun W b F (hN:qaw W b r2 (duF r2.fs) F)=>q1m hN ha4
 have HT:Hid (Tab w):=hT
 have HA1:Hid (r1.code=0):=ha1
 have HA2:Hid (r1.fr=txt (frame qA)):=ha2
 have HA3:Hid (r1.lg.size=89):=ha3
 have hq1:((3405803777:Int)==3405803777)=true:=by decide
 have hs1:qA.src=3405803777:=rfl
 have hs2:qA.sport=1024:=rfl
 clear ha1 ha2 ha3 ha4 hT
 go_enter func47,ntmps47
 go_wp2_with (first|(go_at_call 49;go_fit (CN _);rintro e w1 ⟨b,rfl,hlb,hN1,hb1⟩;have N:=hN1.start;have HB1:Hid (Below w.heap.size w w1):=hb1;have HLB:Hid (w.heap.size<=b):=hlb;have HT1:Hid (Tab w1):=hidN (HT.out.below hb1);have H01:Hid (¬(fun c=>c=b) 0):=hidN (fun e=>by have:=HT.out.lt;have e:0=b:=e;omega);clear hlb hN1 hb1)|((with_reducible refine qaa (.build 58 #[(0,.const (.int .i64 17)),(1,.const (.int .i64 167772161)),(2,.const (.int .i64 5)),(3,.const (.int .i64 9)),(4,.const (.int .i64 6)),(5,.const (.int .i64 9))]) rfl ?_);refine qy8 rfl rfl ?_)|(go_at_call 36;go_fit (CF _);rintro e w5 ⟨rfl,hb5⟩;replace N:=N.below hb5;clear hb5)|((with_reducible refine qaa (.build 27 #[(0,.const (.int .i64 1)),(3,.tmp 10)]) rfl ?_);refine qw3 rfl (.tmp 10) rfl (built pA) rfl ?_)|(go_at_call 35;refine(CD _ _ _ N.nat (HT1.out.gr N.gr H01.out) (N.zero HT1.out H01.out)).mono ?_;rintro e w5 ⟨rfl,F9,hN9,hg9,hf9⟩;clear CD;replace N:=N.call hN9 hg9 hf9;clear hN9 hg9 hf9)|((with_reducible refine gA 30 ?_);refine ax 2 30 qan ?_;intro b2 w9 l9 R9 h9;replace N:=N.alloc (o:=ob 30 ((qas 0).cells)) l9 R9 h9;clear R9 h9 l9)|((with_reducible refine gS 30 2 12 ?_);refine sx 30 (.tmp 2) _ (r1.cells) (N.row 0 rfl) ?_;intro w9 R9 t9;replace N:=N.turn 0 rfl R9 t9;clear R9 t9)|((with_reducible refine gL 9 14 ?_);refine qcm (N.row 0 rfl) (.tmp 14) rfl kr 1 rfl (txt (frame qA)) (by rw[qe4,HA2.out]) ?_)|(go_at_call 26;go_fit (CP _);rintro e w5 ⟨rfl,hb5⟩;clear CP;replace N:=N.below hb5;clear hb5)|((with_reducible refine gA 58 ?_);refine ax 3 58 qbs ?_;intro b3 w9 l9 R9 h9;replace N:=N.alloc (o:=ob 58 (pcl p0)) l9 R9 h9;clear R9 h9 l9)|((with_reducible refine gS 58 3 17 ?_);refine sx 58 (.tmp 3) _ (pcl qA) (N.row 0 rfl) ?_;intro w9 R9 t9;replace N:=N.turn 0 rfl R9 t9;clear R9 t9;have cc:World.cell? _ ⟨b2,0,none⟩=some (.int .i64 0):=((N.row 1 rfl).cell 0).trans (by rw[qdt,HA1.out]);have c1:World.cell? _ ⟨b3,1,none⟩=some (.int .i64 3405803777):=((N.row 0 rfl).cell 1).trans rfl;have c2:World.cell? _ ⟨b3,2,none⟩=some (.int .i64 1024):=((N.row 0 rfl).cell 2).trans rfl)|((with_reducible refine gL 9 37 ?_);refine qcm (N.row 1 rfl) (.tmp 37) rfl kr 3 rfl r1.lg (qb2 _) ?_;have hl9:=HA3.out)|(go_at_call 20;go_fit (CL _ _ _ N.nat);rintro e w5 ⟨a9,c9,rfl,hb5⟩;clear CL cc c1 c2;replace N:=N.below hb5;clear hb5))
 go_ret
 exact⟨rfl,HB1.out.trans (N.gr.below (fun c hc=>hc▸HLB.out) HB1.out.size)⟩
end Go.Proofs.YtnicenfgemkdnaaGreatDoor
namespace Go.Proofs.YtnicenfgemkdnaaGreatDoor
open _root_.Go.Proofs.Tryz
set_option maxHeartbeats 16000000
set_option maxRecDepth 100000
open Go.ChangeShapes Go.WideShapes Go.ChangeAt Go.RowKit Go.Maps
def acl(k:Ac):List Value:=[.int .i64 k.kd,.int .i64 k.n,.int .i64 k.dr,.string k.fr]
theorem q9l(k:Ac):(acl k).toArray=ac k:=rfl
theorem qv8(k:Ac):(prog.info? 27).map (·.size)=some (acl k).length:=by kernel_rfl
def AcAt(w:World)(sl:Value)(es:List Ac):Prop:=
 ∃a cap,sl=.slice a es.length cap/\(0<es.length->a=some ⟨eb sl,eo sl,none⟩)/\(∀j (hj:j<es.length),w.rangeAt (eb sl) (eo sl+4*j) (acl es[j]))/\es.length<=4398046511104
theorem AcAt.lt{w:World}{sl:Value}{es:List Ac}(h:AcAt w sl es)(hl:0<es.length):eb sl<w.heap.size:=by
 obtain⟨a,cap,e,h1,h2,h3⟩:=h
 have:=h2 0 hl 0 _ rfl
 unfold World.cell? at this
 by_cases hlt:eb sl<w.heap.size
 ·exact hlt
 ·have h3:w.heap[eb sl]?=none:=Array.getElem?_eq_none om
  simp[h3] at this
theorem AcAt.keep{w w':World}{sl:Value}{es:List Ac}{B:Nat}(h:AcAt w sl es)(hb:Below B w w')(hlt:0<es.length->eb sl<B):AcAt w' sl es:=by
 obtain⟨a,cap,e,h1,h2,h3⟩:=h
 refine⟨a,cap,e,h1,fun j hj i v hv=>?_,h3⟩
 have:=h2 j hj i v hv
 unfold World.cell? at *
 rw[hb.block _ (hlt om)]
 exact this
theorem AcAt.below{w w':World}{sl:Value}{es:List Ac}(h:AcAt w sl es)(hb:Below w.heap.size w w'):AcAt w' sl es:=h.keep hb h.lt
theorem AcAt.len{w:World}{sl:Value}{es:List Ac}(h:AcAt w sl es):es.length<=4398046511104:=by
 obtain⟨a,cap,e,h1,h2,h3⟩:=h
 exact h3
theorem AcAt.at{w:World}{sl:Value}{es:List Ac}(h:AcAt w sl es)(j:Nat)(hj:j<es.length){e:Ac}(he:es[j]=e):w.rangeAt (eb sl) (eo sl+4*j) (acl e):=by
 obtain⟨a,cap,_,h1,h2,h3⟩:=h
 rw[←he];exact h2 j hj
theorem AcAt.slice{w:World}{sl:Value}{es:List Ac}(h:AcAt w sl es):∃a cap,sl=.slice a es.length cap:=by
 obtain⟨a,cap,e,_⟩:=h
 exact⟨a,cap,e⟩
theorem AcAt.index{w:World}{sl:Value}{es:List Ac}(h:AcAt w sl es)(j:Nat)(hj:j<es.length)(w2:World):(Instr.indexAt 22 sl (.int .i64 (j:Int))).run prog w2=.ok (.pointer (some ⟨eb sl,eo sl+4*j,none⟩)) w2:=by
 obtain⟨a0,cap,e,h1,h2,h3⟩:=h
 have e1:=h1 om
 generalize eb sl=B at *
 generalize eo sl=O at *
 subst e1
 subst e
 have hn:((j:Int)).toNat<es.length:=by simpa using hj
 have hjl:(j:Int)<(es.length:Int):=by omega
 have hs:(sizeOf 27).run prog w2=.ok 4 w2:=by kernel_rfl
 simp[go_sem,hj,hn,hjl,underlying22,hs]
theorem AcAt.keepGr{F:Nat->Prop}{w w':World}{sl:Value}{es:List Ac}(h:AcAt w sl es)(hg:Gr F w w')(hn:0<es.length->¬F (eb sl)):AcAt w' sl es:=by
 have hlt:=h.lt
 obtain⟨a,cap,e,h1,h2,h3⟩:=h
 refine⟨a,cap,e,h1,fun j hj i v hv=>?_,h3⟩
 have:=h2 j hj i v hv
 unfold World.cell? at *
 rw[hg.block _ (hlt om) (hn om)]
 exact this
noncomputable def Nt.runs(s:Nt)(l:List Ac):Nt:=l.foldl (fun s a=>(s.act a).2) s
theorem qih(s:Nt)(l:List Ac)(a:Ac):s.runs (l++[a])=((s.runs l).act a).2:=by unfold Nt.runs;rw[List.foldl_append];rfl
theorem NInv.runs{s:Nt}{k:Nat}(h:NInv s k)(l:List Ac)(hl:k+l.length<=300):NInv (s.runs l) (k+l.length):=by
 induction l generalizing s k with
 | nil=>exact h
 | cons a r ih=>
  rw[List.length_cons] at hl ⊢
  have:=ih (h.act om a) om
  rw[show k+(r.length+1)=k+1+r.length by omega]
  exact this
end Go.Proofs.YtnicenfgemkdnaaGreatDoor
