/-
  Of what a law stands on.
-/
import Derived.Test.YtnicenfgemkdnaaGreatDoorZxn6
import Derived.Test.YtnicenfgemkdnaaGreatDoorZxr3
set_option linter.unusedSimpArgs false
set_option linter.unusedVariables false
namespace Go.Proofs.YtnicenfgemkdnaaGreatDoor
open _root_.Go.Proofs.Tryz
set_option maxHeartbeats 16000000
set_option maxRecDepth 100000
open Go.ChangeShapes Go.WideShapes Go.ChangeAt Go.RowKit Go.Maps
section
variable {w0 W W':World} {b:Nat} {cs:Array Value} {v ov:Value} {fm:Option Nat} {D:DataW Unit} {Fw F0:Nat->Prop} {cnt:Nat} {s:Nt} {tm:Int->Option Int} {is:List Int} {L:List (Nat×Obj)}
theorem Nm.nb(h:Nm w0 W b cs v ov fm D Fw cnt s tm (s.fs.map fun x=>(x.1:Int)) F0 L):Nb w0 W b s tm F0 (FpN Fw fm ov v s.ms) L:=⟨qg2 h.m,h.k.gr,h.k.sub,h.k.bd,h.k.nodup,h.k.rows⟩
theorem Nm.perm{L':List (Nat×Obj)}(h:Nm w0 W b cs v ov fm D Fw cnt s tm is F0 L)(hp:L.Perm L'):Nm w0 W b cs v ov fm D Fw cnt s tm is F0 L':=⟨h.m,h.k.gr,h.k.sub,h.k.bd,(hp.map _).nodup_iff.1 h.k.nodup,fun y hy=>h.k.rows y (hp.mem_iff.2 hy)⟩
theorem Nm.tableO(h:Nm w0 W b cs v ov fm D Fw cnt s tm is F0 L)(f':Nat->Int)(g':Nat->Bool)(h':Nat->Int)(v':Value)(ms':List Mp)(l:List Value)(hl:l.length<=30)(R:Row 91 W' b (qc8 cs 4 l))(T:qbl b W W')(hc:∀k,k<30->(qc8 cs 4 l)[4+k]?=(tc f' g' h' v')[k]?)(hM:qaz W v' ms')(hN:qcs v')(hn:0<ms'.length->(mb v'=mb v/\0<s.ms.length)\/(¬FpN Fw fm ov v s.ms (mb v')/\w0.heap.size<=mb v'))(hr:0<ms'.length->∀y∈L,y.1≠mb v'):Nm w0 W' b (qc8 cs 4 l) v' ov fm D Fw cnt { s with f:=f',g:=g',h:=h',ms:=ms' } tm is F0 L:=
 ⟨h.m.setTable f' g' h' v' ms' l hl R T hc hM hN (fun h0=>by
  rcases hn h0 with⟨e,h1⟩|h1
  ·rw[e];exact h.m.msNot h1
  ·exact⟨fun hf=>h1.1 (.inl hf),fun e=>h1.1 (.inr (.inr (.inl e)))⟩),h.k.adopt (qcq T) (.inl h.m.inb) (fun c hc=>by
  rcases hc with h1|h1|h1|⟨h1,rfl⟩
  ·exact .inl (.inl h1)
  ·exact .inl (.inr (.inl h1))
  ·exact .inl (.inr (.inr (.inl h1)))
  ·rcases hn h1 with⟨e,h2⟩|h2
   ·exact .inl (.inr (.inr (.inr ⟨h2,e⟩)))
   ·exact .inr ⟨h2.2,hM.lt h1,hr h1⟩)⟩
theorem Nm.old{n:Nat}{x:Value}(h:Nm w0 W b cs v ov fm D Fw cnt s tm is F0 L)(hl:0<n->W.heap.size<=mb x\/(mb x=mb v/\0<s.ms.length)):0<n->(mb x=mb v/\0<s.ms.length)\/(¬FpN Fw fm ov v s.ms (mb x)/\w0.heap.size<=mb x):=fun h0=>by
 rcases hl h0 with h1|h1
 ·exact .inr ⟨fun hf=>by have:=h.k.bd _ hf;omega,Nat.le_trans h.k.gr.size h1⟩
 ·exact .inl h1
theorem Nm.notMb{n:Nat}{x:Value}(h:Nm w0 W b cs v ov fm D Fw cnt s tm is F0 L)(hl:0<n->W.heap.size<=mb x\/(mb x=mb v/\0<s.ms.length))(i:Nat){c:Nat}{o:Obj}(hi:L[i]?=some (c,o)):0<n->c≠mb x:=fun h0 e=>by
 have hm:=List.mem_of_getElem? hi
 rcases hl h0 with h1|⟨h1,h2⟩
 ·have:=h.k.lt (List.mem_map.2 ⟨_,hm,rfl⟩)
  simp only at this
  omega
 ·exact h.k.notF i hi (.inr (.inr (.inr ⟨h2,e.trans h1⟩)))
end
theorem qd9{p q r t k:Nat}{x y z u:Obj}(h1:p≠k)(h2:q≠k)(h3:r≠k)(h4:t≠k):∀a∈[(p,x),(q,y),(r,z),(t,u)],a.1≠k:=by
 intro a ha
 simp only[List.mem_cons,List.not_mem_nil,or_false] at ha
 rcases ha with rfl|rfl|rfl|rfl
 ·exact h1
 ·exact h2
 ·exact h3
 ·exact h4
theorem q62(f:Nat->Int)(g:Nat->Bool)(h:Nat->Int)(sl:Value)(ms:List Mp)(p s i d:Int)(hwH:wfH h)(hno:qcs sl)(hd:(Lit.int .i64 d).wf=true)(w:World)(hM:qaz w sl ms):
  Calls prog 135 #[.agg (tc f g h sl),.int .i64 p,.int .i64 s,.int .i64 i,.int .i64 d] w fun e w'=>∃sa n c,e=.returned (.tuple #[.agg (tc (qba f g h ms p s i d).f g (qba f g h ms p s i d).h (.slice sa n c)),.agg (mc (qba f g h ms p s i d).m),.bool (qba f g h ms p s i d).took,.int .i64 (qba f g h ms p s i d).e])/\qaz w' (.slice sa n c) (qba f g h ms p s i d).ms/\qcs (.slice sa n c)/\(0<(qba f g h ms p s i d).ms.length->w.heap.size<=mb (.slice sa n c)\/(mb (.slice sa n c)=mb sl/\0<ms.length))/\Below w.heap.size w w':=by
 have key:∀(m:Mp) (t:Bool) (E:Int),qba f g h ms p s i d=⟨E,f,h,ms,m,t⟩->(Calls prog 135 #[.agg (tc f g h sl),.int .i64 p,.int .i64 s,.int .i64 i,.int .i64 d] w fun e w'=>e=.returned (qpm f g h sl m t E)/\Below w.heap.size w w')->Calls prog 135 #[.agg (tc f g h sl),.int .i64 p,.int .i64 s,.int .i64 i,.int .i64 d] w fun e w'=>∃sa n c,e=.returned (.tuple #[.agg (tc (qba f g h ms p s i d).f g (qba f g h ms p s i d).h (.slice sa n c)),.agg (mc (qba f g h ms p s i d).m),.bool (qba f g h ms p s i d).took,.int .i64 (qba f g h ms p s i d).e])/\qaz w' (.slice sa n c) (qba f g h ms p s i d).ms/\qcs (.slice sa n c)/\(0<(qba f g h ms p s i d).ms.length->w.heap.size<=mb (.slice sa n c)\/(mb (.slice sa n c)=mb sl/\0<ms.length))/\Below w.heap.size w w':=by
  intro m t E he hc
  rw[he]
  refine hc.mono ?_
  rintro e w' ⟨rfl,hb⟩
  obtain⟨a,c,hv,-⟩:=id hM
  subst hv
  exact⟨_,_,_,rfl,hM.below hb,hno,fun h0=>.inr ⟨rfl,h0⟩,hb⟩
 by_cases hP:qjy f h ms p s i
 rotate_left
 ·exact key noM false 2 (by unfold qba;rw[if_neg hP]) (q6m f g h sl ms p s i d w hM hwH hP)
 cases hf:ms.find? (inS p s i) with
 | some m=>exact key m false 0 (by unfold qba;rw[if_pos hP,hf]) (q0s f g h sl ms p s i d w hM hwH hP m hf)
 | none=>
  by_cases hc:cntM ms s=12
  ·exact key noM false 6 (by unfold qba;rw[if_pos hP,hf];simp only;rw[if_pos hc]) (q2q f g h sl ms p s i d w hM hwH hP hf hc)
  ·by_cases he:(qbe f g h ms p s d).e=0
   rotate_left
   ·exact key noM false (qbe f g h ms p s d).e (by unfold qba;rw[if_pos hP,hf];simp only;rw[if_neg hc,if_pos he]) (q4y f g h sl ms p s i d w hM hwH hd hP hf hc he)
   ·have ho:qba f g h ms p s i d=⟨0,(qbe f g h ms p s d).f,(qbe f g h ms p s d).h,ms++[(p,s,i,(qbe f g h ms p s d).h s.toNat-1,(qbe f g h ms p s d).q)],(p,s,i,(qbe f g h ms p s d).h s.toNat-1,(qbe f g h ms p s d).q),(qbe f g h ms p s d).took⟩:=by unfold qba;rw[if_pos hP,hf];simp only;rw[if_neg hc,if_neg (fun h=>h he)]
    rw[ho]
    refine(q6u f g h sl ms p s i d w hM hwH hno hd hP hf hc he).mono ?_
    rintro e w' ⟨v,rfl,hMv,hNv,hl,hb⟩
    obtain⟨a,c,hv,-⟩:=id hMv
    subst hv
    exact⟨_,_,_,rfl,hMv,hNv,fun _=>.inl hl,hb⟩
theorem qbn{ops:Array Oper}{S:World->Prop}{o:Oper}{a:Act}(p q r u:Operand)(ho:o.op=.build 48 #[(0,p),(1,q),(2,r),(3,u)])(hw:Region.wanted o (yielded ops a.tmps)=true)(m:Mp)(x y z:Int)(h1:a.eval p=.agg (mc m))(h2:a.eval q=.int .i64 x)(h3:a.eval r=.int .i64 y)(h4:a.eval u=.int .i64 z):YieldsIf prog ops S o (.agg (fc (mkF m x y z))) a:=
 .inl ⟨hw,fun w _=>by unfold execOp;simp only[ho,List.map_toArray,List.map_nil,List.map_cons,h1,h2,h3,h4,Sem.run_bind,qx7,Result.andThen_ok,Sem.run_pure]⟩
theorem qco{w:World}{b:Nat}{e:Ev}(R:Row 105 w b (ec e)):EvAt w (.slice (some ⟨b,0,none⟩) 1 1) [e]:=by
 refine⟨some ⟨b,0,none⟩,1,rfl,fun _=>rfl,fun j hj i u hu=>?_,by simp⟩
 have:j=0:=by simpa using hj
 subst this
 show w.cell? ⟨b,0+5*0+i,none⟩=some u
 rw[show 0+5*0+i=i by omega,R.cell,q7d]
 exact hu
theorem qdl(r:Rp)(l:ByteArray):r.cells.setIfInBounds 3 (.string l)=Rp.cells ⟨r.code,r.fr,r.inn,l⟩:=rfl
theorem qb2(r:Rp):r.cells[3]?=some (.string r.lg):=rfl
theorem qbh{ops:Array Oper}{rest:List Oper}{o:Oper}{a:Act}{w:World}{Q:Exit->Act->World->Prop}{t:TypeId}{b:Nat}{cs:Array Value}(R:Row t w b cs)(hgd:o.guard=none)(x y:Operand)(ho:o.op=.store 9 x y)(f:Nat)(hx:a.eval x=.pointer (some ⟨b,f,none⟩))(n:ByteArray)(hy:a.eval y=.string n)(m:Value)(hc:cs[f]?=some m)(ds:Array Value)(hd:cs.setIfInBounds f (.string n)=ds)(hr:∀w',Row t w' b ds->qbl b w w'->wpList prog ops Q rest (a.put o.dst undef) w'):wpList prog ops Q (o::rest) a w:=
 wpList_plain hgd fun K hK=>by
  have hcell:=(R.cell f).trans hc
  have hfr:=R.free f
  unfold Oper.wp execOp
  simp only[ho,hx,hy]
  simp[go_sem,hcell,hfr,underlying9]
  exact hK _ _ (hr _ (hd▸R.set) (qfx _ _ _ _))
attribute [local irreducible] Rp.cells tc pc
theorem q0i{w:World}{b:Nat}{s:Nt}{F:Nat->Prop}(h:qaw w b s (duF s.fs) F)(fr:ByteArray)(hs:fr.size<=140737488351232)(p:Pkt)(sub draw:Int)(hfull:s.full=true)(hlf:s.left<=100):Calls prog 102 #[.pointer (some ⟨b,0,none⟩),.string fr,.agg (pcl p),.int .i64 sub,.int .i64 draw] w fun e w'=>e=.returned (.agg (s.refuse fr.data.toList 6).1.cells)/\∃F',qaw w' b (s.refuse fr.data.toList 6).2 (duF (s.refuse fr.data.toList 6).2.fs) F'/\Gr F w w'/\∀c,F' c->F c\/w.heap.size<=c:=by
 have B:=h.start
 have CU:=fun W F (hN:qaw W b s (duF s.fs) F)=>qlu hN
 rw[hfull] at CU
 have CR:=fun W F (hN:qaw W b s (duF s.fs) F)=>qp6 hN fr hs hlf 6
 have hfs:(s.refuse fr.data.toList 6).2.fs=s.fs:=by unfold Nt.refuse;split<;>rfl
 rw[hfs]
 generalize s.refuse fr.data.toList 6=r at *
 obtain⟨r1,r2⟩:=r
 simp only at *
 clear hfull hlf hs hfs
 go_enter func102,ntmps102
 go_wp2_with (first|((with_reducible refine gB 58 2 ?_);refine bx 58 (.tmp 2) (pcl p) ?_;intro b7 w9 l9 R9 h9';replace B:=B.alloc (o:=ob 58 (pcl p)) l9 R9 h9';clear R9 h9' l9)|((with_reducible refine gA 30 ?_);refine ax 10 30 qan ?_;intro b10 w9 l9 R9 h9';replace B:=B.alloc (o:=ob 30 (qas 0).cells) l9 R9 h9';clear R9 h9' l9)|(go_at_call 133;go_fit (CU _ _ (B.nat));rintro e w5 ⟨rfl,hw⟩;rw[hw];clear hw w5)|(go_at_call 134;go_fit (CR _ _ B.nat);rintro e w5 ⟨rfl,F9,hN9',hg9,hf9⟩;clear CR;replace B:=B.call hN9' hg9 hf9;clear hN9' hg9 hf9)|((with_reducible refine gS 30 10 21 ?_);refine sx 30 (.tmp 10) _ (r1.cells) (B.row 0 rfl) ?_;intro w9 R9 t9';replace B:=B.turn 0 rfl R9 t9';clear R9 t9'))
 ((try simp only[Exit.inBlock,Exit.then]);refine bodyPost_ret (qai (p:=10) rfl _ _ _ _ rfl (B.row 0 rfl) _ underlying30 rfl (qad _)) rfl ⟨rfl,_,B.nat,B.gr,B.sub⟩)
theorem sZxn71{p:Prop}(h:p:=by
 refine AR [18] ?_
 refine AC (fun K hK=>?_) ?_
 ·rw[if_pos kr]
  refine qau 39 (.tmp 11) (.tmp 34) rfl b11 kr (tc f9 s.g h9 (.slice sa9 n9 c9)) kr _ (N.row 1 rfl) (qel _ _ _ _) (qaq _ _ _ _) (qbm _ _ _ _ _ _) ?_;intro w9 R9 t9';(first|replace t9':=qap t9'|skip);replace hM9:=qbg hM9 t9' H11.out;replace N:=N.turn 1 rfl R9 t9';clear R9 t9';replace kS:World.rangeAt _ _ _ _/\Row 58 _ b7 (pcl p):=⟨N.m.tableRange,by first|exact N.row 1 rfl|exact N.row 2 rfl|exact N.row 3 rfl⟩
  refine hK.out _ _ kS (fun _=>?_)
  clear hK K
  try simp only[ZZ]
  refine AR [19] ?_
  refine AC (fun K hK=>?_) ?_
  ·rw[if_pos kr]
   refine sy 46 (.tmp 12) (.tmp 35) (mc m9) (N.row 0 rfl) ?_;intro w9 R9 t9';(first|replace t9':=qap t9'|skip);replace hM9:=qbg hM9 t9' H12.out;replace N:=N.turn 0 rfl R9 t9';clear R9 t9';replace kS:World.rangeAt _ _ _ _/\Row 58 _ b7 (pcl p):=⟨N.m.tableRange,by first|exact N.row 1 rfl|exact N.row 2 rfl|exact N.row 3 rfl⟩
   refine hK.out _ _ kS (fun _=>?_)
   clear hK K
   try simp only[ZZ]
   refine tq 20 (.bool t9) rfl kS (tq 21 (.int .i64 e9) rfl kS ?_)
   simp only[ZZ]
   refine AN ?_
   clear kS hM9 hN9 H9 H7 H10 H11 H12
   have B:=N.nb
   clear N
   first|((go_wp2_with (first|(go_at_call 134;go_fit (CR _ _ B.nat);rintro e w5 ⟨rfl,F9,hN9',hg9,hf9⟩;clear CR;replace B:=B.call hN9' hg9 hf9;clear hN9' hg9 hf9)|((with_reducible refine gS 30 10 43 ?_);refine sx 30 (.tmp 10) _ (r1.cells) (B.row 2 rfl) ?_;intro w9 R9 t9';replace B:=B.turn 2 rfl R9 t9';clear R9 t9')));((try simp only[Exit.inBlock,Exit.then]);refine bodyPost_ret (qai (p:=10) rfl _ _ _ _ rfl (B.row 2 rfl) _ underlying30 rfl (qad _)) rfl ⟨rfl,_,B.nat,B.gr,B.sub⟩))|(replace B:=B.drew;((go_wp2_with (first|(go_at_call 134;go_fit (CR _ _ B.nat);rintro e w5 ⟨rfl,F9,hN9',hg9,hf9⟩;clear CR;replace B:=B.call hN9' hg9 hf9;clear hN9' hg9 hf9)|((with_reducible refine gS 30 10 43 ?_);refine sx 30 (.tmp 10) _ (r1.cells) (B.row 2 rfl) ?_;intro w9 R9 t9';replace B:=B.turn 2 rfl R9 t9';clear R9 t9')));((try simp only[Exit.inBlock,Exit.then]);refine bodyPost_ret (qai (p:=10) rfl _ _ _ _ rfl (B.row 2 rfl) _ underlying30 rfl (qad _)) rfl ⟨rfl,_,B.nat,B.gr,B.sub⟩)))
  exact AZ
 exact AZ):p:=h
theorem sZxn72{p:Prop}(h:p:=by
 refine hK.out _ _ kS (fun _=>?_)
 clear hK K
 try simp only[ZZ]
 refine AR [10] ?_
 refine AC (fun K hK=>?_) ?_
 ·go_simp
  go_at_call 135;(first|refine(CO _ N.m.maps).mono ?_|refine(CO _ N.drew.m.maps).mono ?_);rintro e w8 ⟨sa9,n9,c9,rfl,hM9,hN9,hl9,hb9⟩;(first|replace hb9:=qaj hb9|skip);have H9:Hid _:=hidN (N.old hl9);have H7:Hid (0<ms9.length->b7≠mb (.slice sa9 n9 c9)):=hidN (by first|exact N.notMb hl9 1 rfl|exact N.notMb hl9 2 rfl|exact N.notMb hl9 3 rfl);have H10:Hid (0<ms9.length->b10≠mb (.slice sa9 n9 c9)):=hidN (by first|exact N.notMb hl9 0 rfl|exact N.notMb hl9 1 rfl|exact N.notMb hl9 2 rfl);(try have H11:Hid (0<ms9.length->b11≠mb (.slice sa9 n9 c9)):=hidN (by first|exact N.notMb hl9 0 rfl|exact N.notMb hl9 1 rfl));(try have H12:Hid (0<ms9.length->b12≠mb (.slice sa9 n9 c9)):=hidN (by first|exact N.notMb hl9 0 rfl|exact N.notMb hl9 1 rfl));replace N:=N.below hb9;clear hb9 hl9;replace kS:World.rangeAt _ _ _ _/\Row 58 _ b7 (pcl p):=⟨N.m.tableRange,by first|exact N.row 1 rfl|exact N.row 2 rfl|exact N.row 3 rfl⟩
  go_wp2_with fail
  refine hK.out _ _ kS (fun _=>?_)
  clear hK K
  try simp only[ZZ]
  refine tq 11 (.tuple #[.agg (tc f9 s.g h9 (.slice sa9 n9 c9)),.agg (mc m9),.bool t9,.int .i64 e9]) rfl kS (tq 12 (.agg (tc f9 s.g h9 (.slice sa9 n9 c9))) rfl kS (tq 13 (.agg (mc m9)) rfl kS ?_))
  simp only[ZZ]
  refine tq 14 (.bool t9) rfl kS (tq 15 (.int .i64 e9) rfl kS ?_)
  simp only[ZZ]
  exact sZxn71
 exact AZ):p:=h
theorem sZxn75{p:Prop}(h:p:=by
 refine hK.out _ _ kS (fun _=>?_)
 clear hK K
 try simp only[ZZ]
 exact sZxn71):p:=h
theorem sZxn73{p:Prop}(h:p:=by
 refine AR [16] ?_
 refine AC (fun K hK=>?_) ?_
 ·rw[if_pos kr]
  refine qax 39 rfl tz qbp ?_;intro b11 w9 l9 R9 h9';(first|replace h9':=qaj h9'|skip);(try have H11:Hid (0<ms9.length->b11≠mb (.slice sa9 n9 c9)):=hidN (fun h0=>Nat.ne_of_gt (Nat.lt_of_lt_of_le (hM9.lt h0) l9)));(try replace hM9:=hM9.below h9');replace N:=N.alloc (o:=ob 39 tz) l9 R9 h9';clear R9 h9' l9;(try replace N:Nm _ _ _ _ _ _ _ _ _ _ _ _ _ _ ((b12,_)::(b11,_)::_):=N.perm (List.Perm.swap _ _ _));replace kS:World.rangeAt _ _ _ _/\Row 58 _ b7 (pcl p):=⟨N.m.tableRange,by first|exact N.row 1 rfl|exact N.row 2 rfl|exact N.row 3 rfl⟩
  exact sZxn75
 exact AZ):p:=h
theorem sZxn74{p:Prop}(h:p:=by
 refine AR [17] ?_
 refine AC (fun K hK=>?_) ?_
 ·rw[if_pos kr]
  refine qax 46 rfl (mc noM) qci ?_;intro b12 w9 l9 R9 h9';(first|replace h9':=qaj h9'|skip);(try have H12:Hid (0<ms9.length->b12≠mb (.slice sa9 n9 c9)):=hidN (fun h0=>Nat.ne_of_gt (Nat.lt_of_lt_of_le (hM9.lt h0) l9)));(try replace hM9:=hM9.below h9');replace N:=N.alloc (o:=ob 46 (mc noM)) l9 R9 h9';clear R9 h9' l9;replace kS:World.rangeAt _ _ _ _/\Row 58 _ b7 (pcl p):=⟨N.m.tableRange,by first|exact N.row 1 rfl|exact N.row 2 rfl|exact N.row 3 rfl⟩
  exact sZxn75
 exact AZ):p:=h
theorem q3p{w:World}{b:Nat}{s:Nt}{F:Nat->Prop}(h:qaw w b s (duF s.fs) F)(fr:ByteArray)(hs:fr.size<=140737488351232)(p:Pkt)(sub draw:Int)(hfull:s.full=false)(hlf:s.left<=100)(e9:Int)(f9 h9:Nat->Int)(ms9:List Mp)(m9:Mp)(t9:Bool)(CO:∀(v:Value) W,qaz W v s.ms->qcs v->Calls prog 135 #[.agg (tc s.f s.g s.h v),.int .i64 p.proto,.int .i64 sub,.int .i64 p.sport,.int .i64 draw] W fun e w'=>∃sa n c,e=.returned (.tuple #[.agg (tc f9 s.g h9 (.slice sa n c)),.agg (mc m9),.bool t9,.int .i64 e9])/\qaz w' (.slice sa n c) ms9/\qcs (.slice sa n c)/\(0<ms9.length->W.heap.size<=mb (.slice sa n c)\/(mb (.slice sa n c)=mb v/\0<s.ms.length))/\Below W.heap.size W w')(he:e9≠0):Calls prog 102 #[.pointer (some ⟨b,0,none⟩),.string fr,.agg (pcl p),.int .i64 sub,.int .i64 draw] w fun e w'=>e=.returned (.agg (s.refuse fr.data.toList e9).1.cells)/\∃F',qaw w' b (s.refuse fr.data.toList e9).2 (duF (s.refuse fr.data.toList e9).2.fs) F'/\Gr F w w'/\∀c,F' c->F c\/w.heap.size<=c:=by
 have CR:=fun W F (hN:qaw W b s (duF s.fs) F)=>qp6 hN fr hs hlf e9
 have hfs:(s.refuse fr.data.toList e9).2.fs=s.fs:=by unfold Nt.refuse;split<;>rfl
 rw[hfs]
 generalize s.refuse fr.data.toList e9=r at *
 obtain⟨r1,r2⟩:=r
 simp only at *
 have he2:(e9 != 0)=true:=by simpa using he
 clear hlf hs hfs he
 obtain⟨cs,v,ov,fm,D,Fw0,cnt,M,hF⟩:=h
 replace CO:=fun W hM=>CO v W hM M.nil
 have N:=Nm.start M hF
 have CU:=fun W F (hN:qaw W b s (duF s.fs) F)=>qlu hN
 rw[hfull] at CU
 clear M hF hfull
 generalize(fun c=>Fw0 c/\c<w.heap.size)=Fw at *
 go_enter func102,ntmps102
 go_upto_region 3 with(first|((with_reducible refine gB 58 2 ?_);refine bx 58 (.tmp 2) (pcl p) ?_;intro b7 w9 l9 R9 h9';replace N:=N.alloc (o:=ob 58 (pcl p)) l9 R9 h9';clear R9 h9' l9)|((with_reducible refine gA 30 ?_);refine ax 10 30 qan ?_;intro b10 w9 l9 R9 h9';replace N:=N.alloc (o:=ob 30 (qas 0).cells) l9 R9 h9';clear R9 h9' l9)|(go_at_call 133;go_fit (CU _ _ (qg2 N.m));rintro e w5 ⟨rfl,hw⟩;rw[hw];clear hw w5))
 have kS:World.rangeAt _ _ _ _/\Row 58 _ b7 (pcl p):=⟨N.m.tableRange,N.row 1 rfl⟩
 refine RD (fun W=>W.rangeAt b 4 (tc s.f s.g s.h v).toList/\Row 58 W b7 (pcl p)) kS (fun _=>?_)
 refine tq 0 (.pointer (some ⟨b,0,none⟩)) rfl kS (tq 1 (.pointer (some ⟨b,0,none⟩)) rfl kS (tq 2 (.pointer (some ⟨b,4,none⟩)) rfl kS ?_))
 simp only[ZZ]
 refine tk 3 (.agg (tc s.f s.g s.h v)) rfl (qit (.tmp 25) rfl kr b kr s.f s.g s.h v (fun _ h=>h.1)) kS (tq 4 (.pointer (some ⟨b7,0,none⟩)) rfl kS (tk 5 (.int .i64 p.proto) rfl (Or.inl ⟨by kernel_rfl,by intro w hS;have hc:=(hS.2.cell 0).trans (show(pcl p)[0]?=some (.int .i64 p.proto) from rfl);go_simp⟩) kS ?_))
 simp only[ZZ]
 refine tq 6 (.int .i64 sub) rfl kS (tq 7 (.pointer (some ⟨b7,2,none⟩)) rfl kS (tk 8 (.int .i64 p.sport) rfl (Or.inl ⟨by kernel_rfl,by intro w hS;have hc:=(hS.2.cell 2).trans (show(pcl p)[2]?=some (.int .i64 p.sport) from rfl);go_simp⟩) kS ?_))
 simp only[ZZ]
 refine tq 9 (.int .i64 draw) rfl kS ?_
 simp only[ZZ]
 refine AR [10,16,17] ?_
 refine AC (fun K hK=>?_) ?_
 ·go_simp
  go_at_call 135;(first|refine(CO _ N.m.maps).mono ?_|refine(CO _ N.drew.m.maps).mono ?_);rintro e w8 ⟨sa9,n9,c9,rfl,hM9,hN9,hl9,hb9⟩;(first|replace hb9:=qaj hb9|skip);have H9:Hid _:=hidN (N.old hl9);have H7:Hid (0<ms9.length->b7≠mb (.slice sa9 n9 c9)):=hidN (by first|exact N.notMb hl9 1 rfl|exact N.notMb hl9 2 rfl|exact N.notMb hl9 3 rfl);have H10:Hid (0<ms9.length->b10≠mb (.slice sa9 n9 c9)):=hidN (by first|exact N.notMb hl9 0 rfl|exact N.notMb hl9 1 rfl|exact N.notMb hl9 2 rfl);(try have H11:Hid (0<ms9.length->b11≠mb (.slice sa9 n9 c9)):=hidN (by first|exact N.notMb hl9 0 rfl|exact N.notMb hl9 1 rfl));(try have H12:Hid (0<ms9.length->b12≠mb (.slice sa9 n9 c9)):=hidN (by first|exact N.notMb hl9 0 rfl|exact N.notMb hl9 1 rfl));replace N:=N.below hb9;clear hb9 hl9;replace kS:World.rangeAt _ _ _ _/\Row 58 _ b7 (pcl p):=⟨N.m.tableRange,by first|exact N.row 1 rfl|exact N.row 2 rfl|exact N.row 3 rfl⟩
  go_wp2_with fail
  refine hK.out _ _ kS (fun _=>?_)
  clear hK K
  try simp only[ZZ]
  refine tq 11 (.tuple #[.agg (tc f9 s.g h9 (.slice sa9 n9 c9)),.agg (mc m9),.bool t9,.int .i64 e9]) rfl kS (tq 12 (.agg (tc f9 s.g h9 (.slice sa9 n9 c9))) rfl kS (tq 13 (.agg (mc m9)) rfl kS ?_))
  simp only[ZZ]
  refine tq 14 (.bool t9) rfl kS (tq 15 (.int .i64 e9) rfl kS ?_)
  simp only[ZZ]
  refine AR [16,17] ?_
  refine AC (fun K hK=>?_) ?_
  ·rw[if_pos kr]
   refine qax 39 rfl tz qbp ?_;intro b11 w9 l9 R9 h9';(first|replace h9':=qaj h9'|skip);(try have H11:Hid (0<ms9.length->b11≠mb (.slice sa9 n9 c9)):=hidN (fun h0=>Nat.ne_of_gt (Nat.lt_of_lt_of_le (hM9.lt h0) l9)));(try replace hM9:=hM9.below h9');replace N:=N.alloc (o:=ob 39 tz) l9 R9 h9';clear R9 h9' l9;(try replace N:Nm _ _ _ _ _ _ _ _ _ _ _ _ _ _ ((b12,_)::(b11,_)::_):=N.perm (List.Perm.swap _ _ _));replace kS:World.rangeAt _ _ _ _/\Row 58 _ b7 (pcl p):=⟨N.m.tableRange,by first|exact N.row 1 rfl|exact N.row 2 rfl|exact N.row 3 rfl⟩
   refine hK.out _ _ kS (fun _=>?_)
   clear hK K
   try simp only[ZZ]
   exact sZxn74
  refine AC (fun K hK=>?_) ?_
  ·rw[if_pos kr]
   refine qax 46 rfl (mc noM) qci ?_;intro b12 w9 l9 R9 h9';(first|replace h9':=qaj h9'|skip);(try have H12:Hid (0<ms9.length->b12≠mb (.slice sa9 n9 c9)):=hidN (fun h0=>Nat.ne_of_gt (Nat.lt_of_lt_of_le (hM9.lt h0) l9)));(try replace hM9:=hM9.below h9');replace N:=N.alloc (o:=ob 46 (mc noM)) l9 R9 h9';clear R9 h9' l9;replace kS:World.rangeAt _ _ _ _/\Row 58 _ b7 (pcl p):=⟨N.m.tableRange,by first|exact N.row 1 rfl|exact N.row 2 rfl|exact N.row 3 rfl⟩
   refine hK.out _ _ kS (fun _=>?_)
   clear hK K
   try simp only[ZZ]
   exact sZxn73
  exact AZ
 refine AC (fun K hK=>?_) ?_
 ·rw[if_pos kr]
  refine qax 39 rfl tz qbp ?_;intro b11 w9 l9 R9 h9';(first|replace h9':=qaj h9'|skip);(try have H11:Hid (0<ms9.length->b11≠mb (.slice sa9 n9 c9)):=hidN (fun h0=>Nat.ne_of_gt (Nat.lt_of_lt_of_le (hM9.lt h0) l9)));(try replace hM9:=hM9.below h9');replace N:=N.alloc (o:=ob 39 tz) l9 R9 h9';clear R9 h9' l9;(try replace N:Nm _ _ _ _ _ _ _ _ _ _ _ _ _ _ ((b12,_)::(b11,_)::_):=N.perm (List.Perm.swap _ _ _));replace kS:World.rangeAt _ _ _ _/\Row 58 _ b7 (pcl p):=⟨N.m.tableRange,by first|exact N.row 1 rfl|exact N.row 2 rfl|exact N.row 3 rfl⟩
  refine hK.out _ _ kS (fun _=>?_)
  clear hK K
  try simp only[ZZ]
  refine AR [10,17] ?_
  refine AC (fun K hK=>?_) ?_
  ·go_simp
   go_at_call 135;(first|refine(CO _ N.m.maps).mono ?_|refine(CO _ N.drew.m.maps).mono ?_);rintro e w8 ⟨sa9,n9,c9,rfl,hM9,hN9,hl9,hb9⟩;(first|replace hb9:=qaj hb9|skip);have H9:Hid _:=hidN (N.old hl9);have H7:Hid (0<ms9.length->b7≠mb (.slice sa9 n9 c9)):=hidN (by first|exact N.notMb hl9 1 rfl|exact N.notMb hl9 2 rfl|exact N.notMb hl9 3 rfl);have H10:Hid (0<ms9.length->b10≠mb (.slice sa9 n9 c9)):=hidN (by first|exact N.notMb hl9 0 rfl|exact N.notMb hl9 1 rfl|exact N.notMb hl9 2 rfl);(try have H11:Hid (0<ms9.length->b11≠mb (.slice sa9 n9 c9)):=hidN (by first|exact N.notMb hl9 0 rfl|exact N.notMb hl9 1 rfl));(try have H12:Hid (0<ms9.length->b12≠mb (.slice sa9 n9 c9)):=hidN (by first|exact N.notMb hl9 0 rfl|exact N.notMb hl9 1 rfl));replace N:=N.below hb9;clear hb9 hl9;replace kS:World.rangeAt _ _ _ _/\Row 58 _ b7 (pcl p):=⟨N.m.tableRange,by first|exact N.row 1 rfl|exact N.row 2 rfl|exact N.row 3 rfl⟩
   go_wp2_with fail
   refine hK.out _ _ kS (fun _=>?_)
   clear hK K
   try simp only[ZZ]
   refine tq 11 (.tuple #[.agg (tc f9 s.g h9 (.slice sa9 n9 c9)),.agg (mc m9),.bool t9,.int .i64 e9]) rfl kS (tq 12 (.agg (tc f9 s.g h9 (.slice sa9 n9 c9))) rfl kS (tq 13 (.agg (mc m9)) rfl kS ?_))
   simp only[ZZ]
   refine tq 14 (.bool t9) rfl kS (tq 15 (.int .i64 e9) rfl kS ?_)
   simp only[ZZ]
   exact sZxn74
  refine AC (fun K hK=>?_) ?_
  ·rw[if_pos kr]
   refine qax 46 rfl (mc noM) qci ?_;intro b12 w9 l9 R9 h9';(first|replace h9':=qaj h9'|skip);(try have H12:Hid (0<ms9.length->b12≠mb (.slice sa9 n9 c9)):=hidN (fun h0=>Nat.ne_of_gt (Nat.lt_of_lt_of_le (hM9.lt h0) l9)));(try replace hM9:=hM9.below h9');replace N:=N.alloc (o:=ob 46 (mc noM)) l9 R9 h9';clear R9 h9' l9;replace kS:World.rangeAt _ _ _ _/\Row 58 _ b7 (pcl p):=⟨N.m.tableRange,by first|exact N.row 1 rfl|exact N.row 2 rfl|exact N.row 3 rfl⟩
   exact sZxn72
  exact AZ
 refine AC (fun K hK=>?_) ?_
 ·rw[if_pos kr]
  refine qax 46 rfl (mc noM) qci ?_;intro b12 w9 l9 R9 h9';(first|replace h9':=qaj h9'|skip);(try have H12:Hid (0<ms9.length->b12≠mb (.slice sa9 n9 c9)):=hidN (fun h0=>Nat.ne_of_gt (Nat.lt_of_lt_of_le (hM9.lt h0) l9)));(try replace hM9:=hM9.below h9');replace N:=N.alloc (o:=ob 46 (mc noM)) l9 R9 h9';clear R9 h9' l9;replace kS:World.rangeAt _ _ _ _/\Row 58 _ b7 (pcl p):=⟨N.m.tableRange,by first|exact N.row 1 rfl|exact N.row 2 rfl|exact N.row 3 rfl⟩
  refine hK.out _ _ kS (fun _=>?_)
  clear hK K
  try simp only[ZZ]
  refine AR [10,16] ?_
  refine AC (fun K hK=>?_) ?_
  ·go_simp
   go_at_call 135;(first|refine(CO _ N.m.maps).mono ?_|refine(CO _ N.drew.m.maps).mono ?_);rintro e w8 ⟨sa9,n9,c9,rfl,hM9,hN9,hl9,hb9⟩;(first|replace hb9:=qaj hb9|skip);have H9:Hid _:=hidN (N.old hl9);have H7:Hid (0<ms9.length->b7≠mb (.slice sa9 n9 c9)):=hidN (by first|exact N.notMb hl9 1 rfl|exact N.notMb hl9 2 rfl|exact N.notMb hl9 3 rfl);have H10:Hid (0<ms9.length->b10≠mb (.slice sa9 n9 c9)):=hidN (by first|exact N.notMb hl9 0 rfl|exact N.notMb hl9 1 rfl|exact N.notMb hl9 2 rfl);(try have H11:Hid (0<ms9.length->b11≠mb (.slice sa9 n9 c9)):=hidN (by first|exact N.notMb hl9 0 rfl|exact N.notMb hl9 1 rfl));(try have H12:Hid (0<ms9.length->b12≠mb (.slice sa9 n9 c9)):=hidN (by first|exact N.notMb hl9 0 rfl|exact N.notMb hl9 1 rfl));replace N:=N.below hb9;clear hb9 hl9;replace kS:World.rangeAt _ _ _ _/\Row 58 _ b7 (pcl p):=⟨N.m.tableRange,by first|exact N.row 1 rfl|exact N.row 2 rfl|exact N.row 3 rfl⟩
   go_wp2_with fail
   refine hK.out _ _ kS (fun _=>?_)
   clear hK K
   try simp only[ZZ]
   refine tq 11 (.tuple #[.agg (tc f9 s.g h9 (.slice sa9 n9 c9)),.agg (mc m9),.bool t9,.int .i64 e9]) rfl kS (tq 12 (.agg (tc f9 s.g h9 (.slice sa9 n9 c9))) rfl kS (tq 13 (.agg (mc m9)) rfl kS ?_))
   simp only[ZZ]
   refine tq 14 (.bool t9) rfl kS (tq 15 (.int .i64 e9) rfl kS ?_)
   simp only[ZZ]
   exact sZxn73
  refine AC (fun K hK=>?_) ?_
  ·rw[if_pos kr]
   refine qax 39 rfl tz qbp ?_;intro b11 w9 l9 R9 h9';(first|replace h9':=qaj h9'|skip);(try have H11:Hid (0<ms9.length->b11≠mb (.slice sa9 n9 c9)):=hidN (fun h0=>Nat.ne_of_gt (Nat.lt_of_lt_of_le (hM9.lt h0) l9)));(try replace hM9:=hM9.below h9');replace N:=N.alloc (o:=ob 39 tz) l9 R9 h9';clear R9 h9' l9;(try replace N:Nm _ _ _ _ _ _ _ _ _ _ _ _ _ _ ((b12,_)::(b11,_)::_):=N.perm (List.Perm.swap _ _ _));replace kS:World.rangeAt _ _ _ _/\Row 58 _ b7 (pcl p):=⟨N.m.tableRange,by first|exact N.row 1 rfl|exact N.row 2 rfl|exact N.row 3 rfl⟩
   exact sZxn72
  exact AZ
 exact AZ
end Go.Proofs.YtnicenfgemkdnaaGreatDoor
