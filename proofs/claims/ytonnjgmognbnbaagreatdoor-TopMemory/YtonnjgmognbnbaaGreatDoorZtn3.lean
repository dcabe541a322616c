/-
  Of what a law stands on.
-/
import Derived.Test.YtonnjgmognbnbaaGreatDoorZtn2
set_option linter.unusedSimpArgs false
set_option linter.unusedVariables false
namespace Go.Proofs.YtonnjgmognbnbaaGreatDoor
open Go.Value renaming int → I,pointer → V
open Go.IntKind renaming i64 → Z
open _root_.Go.Proofs.Tryz Go.ChangeShapes Go.WideShapes Go.ChangeAt Go.RowKit Go.Maps
set_option maxHeartbeats 16000000
set_option maxRecDepth 100000
variable {p:Prop}{W w w0:World}{b:Nat}{s:Nt}{F F0:Nat->Prop}{x:Nat×Fl}{tm:Int->Option Int}{ops:Array Oper}{o:Oper}{a:Act}{rest:List Oper}{Q:Exit->Act->World->Prop}{L:List (Nat×Obj)}
theorem sZtn31(h:p:=by
 refine hK.out _ _ kS (fun _=>?_)
 clear hK K;(try simp only[ZZ]);refine AR [12] ?_
 refine AC (fun K hK=>?_) ?_
 ·go_simp;go_at_call 125;refine(qqt x.2 p inw s.now HNW.out.1 (Int.le_trans HNW.out.2 (by decide)) _).mono ?_;rintro e w9 ⟨rfl,hb9⟩;(first|replace hb9:=qaj hb9|skip);replace N:=N.below hb9;clear hb9;replace kS:=N.row 0 rfl
  go_wp2_with fail
  refine hK.out _ _ kS (fun _=>?_)
  clear hK K;(try simp only[ZZ]);refine AR [13] ?_
  refine AC (fun K hK=>?_) AZ
  go_simp
  go_at_call 124;(first|refine(qja N.nat HXM.out (qcu x.2 p.flags inw s.now) HNW.out.1 HDU.out.1 HDU.out.2).mono ?_|refine(qja N.drew.nat HXM.out (qcu x.2 p.flags inw s.now) HNW.out.1 HDU.out.1 HDU.out.2).mono ?_);rintro e w9 ⟨rfl,F9,hN9,hg9,hf9⟩;(first|replace hg9:=qgn hg9|skip);replace N:=N.call hN9 hg9 hf9;clear hN9 hg9 hf9;replace kS:=N.row 0 rfl
  go_wp2_with fail
  refine hK.out _ _ kS (fun _=>?_)
  clear hK K;(try simp only[ZZ]);refine AN ?_;clear kS
  go_end0
  first|exact⟨rfl,_,N.nat,N.gr,N.sub⟩|exact⟨rfl,_,N.drew.nat,N.drew.gr,N.drew.sub⟩
 exact AZ):p:=h
theorem sZtn32(h:p:=by
 refine hK.out _ _ kS (fun _=>?_)
 clear hK K;(try simp only[ZZ]);refine AR [7] ?_
 refine AP (fun K hK=>?_) ?_
 ·(first|refine qm6 85 (.tmp 13) (.tmp 14) rfl (.map fm) (I Z ((x.1:Nat):Int)) (.agg (fc x.2)) kr kr (N.nat.lookAt HC.out HXM.out) ?_|refine qm6 85 (.tmp 13) (.tmp 14) rfl (.map fm) (I Z ((x.1:Nat):Int)) (.agg (fc x.2)) kr kr (N.drew.nat.lookAt HC.out HXM.out) ?_)
  exact sZtn31
 exact AZ):p:=h
theorem qvy(h:qaw w b s (duF s.fs) F)(hx:x∈s.fs)(p:Pkt)(inw:Bool)(hnow:0<=s.now/\s.now<=549755813888):Calls prog 88 #[V (some ⟨b,0,none⟩),I Z ((x.1:Nat):Int),.agg (pcl p),.bool inw] w fun e w'=>e=.returned (.tuple #[])/\∃F',qaw w' b (s.keep x.1 (qcu x.2 p.flags inw s.now)) (duF (s.keep x.1 (qcu x.2 p.flags inw s.now)).fs) F'/\Gr F w w'/\∀c,F' c->F c\/w.heap.size<=c:=by
 have N:=h.start;have HXM:Hid (x∈s.fs):=hx;have HNW:Hid (0<=s.now/\s.now<=549755813888):=hnow;have HDU:Hid _:=hidN (q6d (x:=p.flags) (inw:=inw) (h.due hx).1 (h.due hx).2 hnow.2);clear hx hnow
 go_enter func88,ntmps88
 go_upto_region 1 with((with_reducible refine gB 61 2 ?_);refine bx 61 (.tmp 2) (pcl p) ?_;intro b6 w9 l9 R9 h9;replace N:=N.alloc (o:=ob 61 (pcl p)) l9 R9 h9;clear R9 h9 l9)
 obtain⟨fm,hc⟩:=N.nat.flowsCell;have HC:Hid _:=hidN hc;clear hc;have kS:=N.row 0 rfl
 refine RD (fun W=>Row 61 W b6 (pcl p)) kS (fun _=>?_)
 refine tq 0 (V (some ⟨b,0,none⟩)) rfl kS (tq 1 (I Z ((x.1:Nat):Int)) rfl kS (tq 2 (V (some ⟨b,0,none⟩)) rfl kS ?_));refine m5i ?_;refine tq 3 (V (some ⟨b,0,none⟩)) rfl kS (tq 4 (V (some ⟨b,34,none⟩)) rfl kS (tq 6 (I Z ((x.1:Nat):Int)) rfl kS ?_));refine m5i ?_
 refine tk 8 (.agg (pcl p)) rfl (qav 61 (.tmp 6) rfl kr b6 kr (pcl p) (fun _ h=>h) _ underlying61 rfl (qa0 p)) kS (tq 9 (.bool inw) rfl kS (tq 10 (V (some ⟨b,0,none⟩)) rfl kS ?_))
 refine m5i ?_;refine AR [5,11] ?_
 refine AP (fun K hK=>?_) ?_
 ·(first|refine qj9 (.tmp 12) rfl b 34 kr (.map fm) HC.out ?_|refine qj9 (.tmp 12) rfl b 34 kr (.map fm) (show World.cell? (World.drew _) _=_ from HC.out) ?_)
  refine hK.out _ _ kS (fun _=>?_)
  clear hK K;(try simp only[ZZ]);refine AR [7,11] ?_
  refine AP (fun K hK=>?_) ?_
  ·(first|refine qm6 85 (.tmp 13) (.tmp 14) rfl (.map fm) (I Z ((x.1:Nat):Int)) (.agg (fc x.2)) kr kr (N.nat.lookAt HC.out HXM.out) ?_|refine qm6 85 (.tmp 13) (.tmp 14) rfl (.map fm) (I Z ((x.1:Nat):Int)) (.agg (fc x.2)) kr kr (N.drew.nat.lookAt HC.out HXM.out) ?_)
   refine hK.out _ _ kS (fun _=>?_)
   clear hK K;(try simp only[ZZ]);refine AR [11] ?_
   refine AC (fun K hK=>?_) AZ
   go_simp
   go_at_call 19;(first|refine(qda N.nat).mono ?_|refine(qda N.drew.nat).mono ?_);refine m6q ?_
   go_wp2_with fail
   exact sZtn31
  refine AC (fun K hK=>?_) AZ
  go_simp
  go_at_call 19;(first|refine(qda N.nat).mono ?_|refine(qda N.drew.nat).mono ?_);refine m6q ?_
  go_wp2_with fail
  exact sZtn32
 refine AC (fun K hK=>?_) AZ
 go_simp
 go_at_call 19;(first|refine(qda N.nat).mono ?_|refine(qda N.drew.nat).mono ?_);refine m6q ?_
 go_wp2_with fail
 refine hK.out _ _ kS (fun _=>?_)
 clear hK K;(try simp only[ZZ]);refine AR [5] ?_
 refine AP (fun K hK=>?_) AZ
 (first|refine qj9 (.tmp 12) rfl b 34 kr (.map fm) HC.out ?_|refine qj9 (.tmp 12) rfl b 34 kr (.map fm) (show World.cell? (World.drew _) _=_ from HC.out) ?_)
 exact sZtn32
theorem sZtn33(h:p:=by
 rw[hf] at CF
 unfold qe3 at CF
 go_enter func135,ntmps135
 go_wp2_with (go_at_call 86;go_fit CF;rintro e w' ⟨rfl,hb⟩)
 go_ret
 exact⟨rfl,hb⟩):p:=h
theorem q33(h:qaw w b s tm F)(p:Pkt)(m:Mp)(bm bp:Nat)(Rm:Row 50 w bm (mc m))(Rp:Row 61 w bp (pcl p)):Calls prog 135 #[V (some ⟨b,0,none⟩),.func (.func 133) #[] #[V (some ⟨bm,0,none⟩),V (some ⟨bp,0,none⟩)]] w fun e w'=>e=.returned (.bool (s.find (qey p m)).isSome)/\Below w.heap.size w w':=by
 have CF:=q0x h p m bm bp Rm Rp
 cases hf:s.find (qey p m) with
 | none=>
  exact sZtn33
 | some x=>
  exact sZtn33
theorem q87(h:qaw w b s tm F)(m:Mp)(bm:Nat)(Rm:Row 50 w bm (mc m)):Calls prog 135 #[V (some ⟨b,0,none⟩),.func (.func 147) #[] #[V (some ⟨bm,0,none⟩)]] w fun e w'=>e=.returned (.bool (s.find (qf0 m)).isSome)/\Below w.heap.size w w':=by
 have CF:=q4m h m bm Rm
 cases hf:s.find (qf0 m) with
 | none=>
  exact sZtn33
 | some x=>
  exact sZtn33
theorem qzf(w:World):(zeroValue 112).run prog w=.ok (.agg (ec noE)) w:=by kernel_rfl
theorem q8x(x y z u:Int)(f:Bool)(w:World):(Instr.build 112 #[(0,I Z x),(1,I Z y),(2,I Z z),(3,I Z u),(4,.bool f)]).run prog w=.ok (.agg (ec ⟨x,y,z,u,f⟩)) w:=by kernel_rfl
theorem qz5{S:World->Prop}(p q r s t:Operand)(ho:o.op=.build 112 #[(0,p),(1,q),(2,r),(3,s),(4,t)])(hw:Region.wanted o (yielded ops a.tmps)=true)(x y z u:Int)(f:Bool)(h1:a.eval p=I Z x)(h2:a.eval q=I Z y)(h3:a.eval r=I Z z)(h4:a.eval s=I Z u)(h5:a.eval t=.bool f):YieldsIf prog ops S o (.agg (ec ⟨x,y,z,u,f⟩)) a:=
 .inl ⟨hw,fun w _=>by unfold execOp;simp only[ho,List.map_toArray,List.map_cons,List.map_nil,h1,h2,h3,h4,h5,Sem.run_bind,q8x,Result.andThen_ok,Sem.run_pure]⟩
theorem qtn(h:qaw w b s tm F)(m:Mp)(free:Bool)(hq:1024<=m.2.2.2.2/\m.2.2.2.2<1072):Calls prog 98 #[V (some ⟨b,0,none⟩),.agg (mc m),.bool free] w fun e w'=>e=.returned (.agg (ec (evN s.now m free)))/\Below w.heap.size w w':=by
 have B:=Bd.start w;(have CB:=fun w=>qs4 m.2.2.2.2 w)
 unfold blkS at CB
 rw[if_pos hq] at CB
 clear hq
 go_enter func98,ntmps98
 go_upto_region 2 with(first|((with_reducible refine gB 50 1 ?_);refine m7e ?_;refine m72 ?_;clear B;intro b4 w9 B)|((with_reducible refine gA 112 ?_);refine ax 6 112 qzf ?_;intro b6 w9 l9 R9 h9;replace B:=B.alloc l9 R9 h9;clear R9 h9 l9)|((with_reducible refine gL 3 11 ?_);refine fx (B.row 1 rfl) _ 4 (m.2.2.2.2) ?_)|(go_at_call 30;go_fit (CB _);refine m04 ?_))
 have kS:=B.row 1 rfl
 refine RD (fun W=>Row 50 W b4 (mc m)) kS (fun _=>?_)
 (refine tq 0 (V (some ⟨b,0,none⟩)) rfl kS (tq 2 (V (some ⟨b4,1,none⟩)) rfl kS (tk 3 (I Z m.2.1) rfl (Or.inl ⟨by kernel_rfl,by intro w hS;have hc:=(hS.cell 1).trans (show(mc m)[1]?=some (I Z m.2.1) from rfl);go_simp⟩) kS ?_)));refine m5i ?_;(refine tq 4 (V (some ⟨b4,3,none⟩)) rfl kS (tk 5 (I Z m.2.2.2.1) rfl (Or.inl ⟨by kernel_rfl,by intro w hS;have hc:=(hS.cell 3).trans (show(mc m)[3]?=some (I Z m.2.2.2.1) from rfl);go_simp⟩) kS (tq 6 (I Z ((m.2.2.2.2-1024)/8)) rfl kS ?_)));refine m5i ?_;refine tq 7 (.bool free) rfl kS ?_;refine m5i ?_;refine AR [1] ?_
 refine AC (fun K hK=>?_) AZ
 go_simp
 go_at_call 19;(first|refine(qda (h.below B.base)).mono ?_|refine(qda (h.below B.drew.base)).mono ?_);refine m6q ?_
 go_wp2_with fail
 refine hK.out _ _ kS (fun _=>?_)
 clear hK K;(try simp only[ZZ]);refine tk 8 (.agg (ec (evN s.now m free))) rfl (qz5 (.tmp 18) (.tmp 20) (.tmp 22) (.tmp 23) (.tmp 24) rfl kr s.now m.2.1 m.2.2.2.1 ((m.2.2.2.2-1024)/8) free kr kr kr kr kr) kS ?_;refine m5i ?_;refine AR [9] ?_
 refine AP (fun K hK=>?_) AZ
 refine sy 112 (.tmp 6) (.tmp 25) (ec (evN s.now m free)) (B.row 0 rfl) ?_;intro w9 R9 t9;(first|replace t9:=qap t9|skip);replace B:=B.turn 0 rfl R9 t9;clear R9 t9;replace kS:=B.row 1 rfl
 refine hK.out _ _ kS (fun _=>?_)
 clear hK K;(try simp only[ZZ]);refine AN ?_;clear kS
 go_wp2_with fail
 first|(refine m03 ?_;refine bodyPost_ret (qai (p:=6) rfl _ _ _ _ rfl (B.row 0 rfl) _ underlying112 rfl (qf2 _)) rfl ⟨rfl,B.base⟩)|(refine m03 ?_;refine bodyPost_ret (qai (p:=6) rfl _ _ _ _ rfl (B.drew.row 0 rfl) _ underlying112 rfl (qf2 _)) rfl ⟨rfl,B.drew.base⟩)
theorem qfn(N:Nb w0 W b s tm F0 F L)(hgd:o.guard=none)(x y:Operand)(ho:o.op=.store 3 x y)(hx:a.eval x=V (some ⟨b,1,none⟩))(n:Nat)(hy:a.eval y=I Z (n:Int))(hr:∀W' F',Nb w0 W' b { s with acts:=n } tm F0 F' L->wpList prog ops Q rest (a.put o.dst undef) W'):wpList prog ops Q (o::rest) a W:=by
 obtain⟨cs,v,ov,fm,D,Fw,cnt,M,hF⟩:=id N.nat;refine qbb M.row hgd x y ho 1 hx (n:Int) hy _ M.c1 _ rfl ?_;intro w' R T
 exact hr w' _ (N.call ⟨_,_,_,_,_,_,_,M.setActs n R T,hF⟩ ((qcq T).mono (fun c hc=>hF c (.inl (hc▸M.inb)))) (fun c hc=>.inl hc))
theorem qaw.cellActs(h:qaw w b s tm F):w.cell? ⟨b,1,none⟩=some (I Z (s.acts:Int)):=by
 obtain⟨cs,v,ov,fm,D,Fw,cnt,M,hF⟩:=h
 exact(M.cell 1).trans M.c1
theorem qn2(N:Nb w0 W b s tm F0 F L)(hgd:o.guard=none)(x y:Operand)(ho:o.op=.store 3 x y)(hx:a.eval x=V (some ⟨b,2,none⟩))(n:Nat)(hy:a.eval y=I Z (n:Int))(hr:∀W' F',Nb w0 W' b { s with left:=n } tm F0 F' L->wpList prog ops Q rest (a.put o.dst undef) W'):wpList prog ops Q (o::rest) a W:=by
 obtain⟨cs,v,ov,fm,D,Fw,cnt,M,hF⟩:=id N.nat;refine qbb M.row hgd x y ho 2 hx (n:Int) hy _ M.c2 _ rfl ?_;intro w' R T
 exact hr w' _ (N.call ⟨_,_,_,_,_,_,_,M.setLeft n R T,hF⟩ ((qcq T).mono (fun c hc=>hF c (.inl (hc▸M.inb)))) (fun c hc=>.inl hc))
theorem qaw.cellLeft(h:qaw w b s tm F):w.cell? ⟨b,2,none⟩=some (I Z (s.left:Int)):=by
 obtain⟨cs,v,ov,fm,D,Fw,cnt,M,hF⟩:=h
 exact(M.cell 2).trans M.c2
theorem qmd(N:Nb w0 W b s tm F0 F L)(hgd:o.guard=none)(x y:Operand)(ho:o.op=.store 3 x y)(hx:a.eval x=V (some ⟨b,3,none⟩))(n:Nat)(hy:a.eval y=I Z (n:Int))(hr:∀W' F',Nb w0 W' b { s with logged:=n } tm F0 F' L->wpList prog ops Q rest (a.put o.dst undef) W'):wpList prog ops Q (o::rest) a W:=by
 obtain⟨cs,v,ov,fm,D,Fw,cnt,M,hF⟩:=id N.nat;refine qbb M.row hgd x y ho 3 hx (n:Int) hy _ M.c3 _ rfl ?_;intro w' R T
 exact hr w' _ (N.call ⟨_,_,_,_,_,_,_,M.setLogged n R T,hF⟩ ((qcq T).mono (fun c hc=>hF c (.inl (hc▸M.inb)))) (fun c hc=>.inl hc))
theorem qaw.cellLogged(h:qaw w b s tm F):w.cell? ⟨b,3,none⟩=some (I Z (s.logged:Int)):=by
 obtain⟨cs,v,ov,fm,D,Fw,cnt,M,hF⟩:=h
 exact(M.cell 3).trans M.c3
theorem qad(r:Rp):(prog.info? 27).map (·.size)=some r.cells.size:=by kernel_rfl
theorem qah(r:Rp):r.cells.all (·.oneCell')=true:=by kernel_rfl
theorem q4s(c:Int)(fr:ByteArray)(w:World):(Instr.build 27 #[(0,I Z c),(1,.string fr),(2,.bool true)]).run prog w=.ok (.agg (Rp.cells ⟨c,fr,true,ByteArray.empty⟩)) w:=by kernel_rfl
theorem qdd(x y:Operand)(hgd:o.guard=none)(ho:o.op=.build 27 #[(0,x),(1,y),(2,.const (.bool true))])(c:Int)(fr:ByteArray)(hx:a.eval x=I Z c)(hy:a.eval y=.string fr)(hr:wpList prog ops Q rest (a.put o.dst (.agg (Rp.cells ⟨c,fr,true,ByteArray.empty⟩))) w):wpList prog ops Q (o::rest) a w:=
 wpList_plain hgd fun K hK=>by
  have hz:a.eval (.const (.bool true))=.bool true:=rfl
  unfold Oper.wp execOp
  simp only[ho,List.map_toArray,List.map_nil,List.map_cons,hx,hy,hz,Sem.run_bind,q4s,Result.andThen_ok,Sem.run_pure]
  exact hK _ _ hr
theorem qar(r q:Rp):r.cells.size=q.cells.size:=rfl
theorem qan(w:World):(zeroValue 27).run prog w=.ok (.agg (qas 0).cells) w:=by kernel_rfl
theorem qp6(h:qaw w b s tm F)(fr:ByteArray)(hs:fr.size<=140737488351232)(hlf:s.left<=100)(why:Int):Calls prog 129 #[V (some ⟨b,0,none⟩),.string fr,I Z why] w fun e w'=>e=.returned (.agg (s.refuse fr.data.toList why).1.cells)/\∃F',qaw w' b (s.refuse fr.data.toList why).2 tm F'/\Gr F w w'/\∀c,F' c->F c\/w.heap.size<=c:=by
 have N:=h.start;(have CR:=fun w=>qzs fr (s.left:Int) w hs);(have CF:=fun w=>qdj why w)
 rw[←qdo] at CF
 have c2:=h.cellLeft
 unfold Nt.refuse
 by_cases h0:s.left=0
 ·rw[if_pos h0];have HZ:Hid (s.left=0):=h0
  rw[h0] at c2
  clear h0 CR hs
  go_enter func129,ntmps129
  go_wp2_with (first|((with_reducible refine gA 27 ?_);refine m0r ?_;clear N;intro b6 w9 N;clear c2;have c2:=N.nat.cellLeft;(try rw[HZ.out] at c2))|(go_at_call 53;go_fit (CF _);refine m22 ?_;clear N;intro w5 N)|((with_reducible refine gS 27 6 15 ?_);refine sx 27 (.tmp 6) _ ((qas why).cells) (N.row 0 rfl) ?_;refine m0j ?_;clear N;intro w9 N))
  (refine m03 ?_;refine bodyPost_ret (qai (p:=6) rfl _ _ _ _ rfl (N.row 0 rfl) _ underlying27 rfl (qad _)) rfl ⟨rfl,_,N.nat,N.gr,N.sub⟩)
 ·rw[if_neg h0];(have hz:((s.left:Int)==0)=false:=by simp;omega);(have hw:wrap64 ((s.left:Int)-1)=(s.left:Int)-1:=by unfold wrap64;omega);have HV:Hid ((s.left:Int)-1=((s.left-1:Nat):Int)):=hidN om;clear h0 CF hlf hs
  go_enter func129,ntmps129
  go_wp2_with (first|((with_reducible refine gA 27 ?_);refine m0r ?_;clear N;intro b6 w9 N;clear c2;have c2:=N.nat.cellLeft)|(go_at_call 164;go_fit (CR _);rintro e w5 ⟨rfl,hb5⟩;clear CR;replace N:=N.below hb5;clear hb5;clear c2;have c2:=N.nat.cellLeft)|((with_reducible refine gS 3 31 29 ?_);refine qn2 N rfl (.tmp 31) (.tmp 29) rfl rfl (s.left-1) (by first|exact congrArg (Value.int .i64) HV.out|(rw[hw];exact congrArg (Value.int .i64) HV.out)|exact congrArg (Value.int .i64) (hw.trans HV.out)) ?_;clear N c2;intro w9 F9 N)|((with_reducible refine qaa (.build 27 #[(0,.tmp 32),(1,.tmp 33),(2,.const (.bool true))]) rfl ?_);refine qdd (.tmp 32) (.tmp 33) rfl rfl why _ rfl rfl ?_)|((with_reducible refine gS 27 6 34 ?_);refine sx 27 (.tmp 6) _ (Rp.cells ⟨why,refS fr.data.toList (s.left:Int),true,ByteArray.empty⟩) (N.row 0 rfl) ?_;refine m0j ?_;clear N;intro w9 N))
  (refine m03 ?_;refine bodyPost_ret (qai (p:=6) rfl _ _ _ _ rfl (N.row 0 rfl) _ underlying27 rfl (qad _)) rfl ⟨rfl,_,N.nat,N.gr,N.sub⟩)
theorem q2b(es:List Ev)(n:Int)(h:es.length<=64):(msgT 0 0 2 (tplB 6)).size<=100/\(mesT n es).size<=2000:=by
 constructor
 ·unfold msgT;split
  ·rw[qck,qlj,qqi];omega
  ·simp
 ·unfold mesT
  split
  ·simp
  ·split
   ·simp
   ·split
    ·unfold msgT;split
     ·rw[qck,qlj,qnn];omega
     ·simp
    ·simp
theorem Tab.gr{w':World}(h:Tab w)(hg:Gr F w w')(h0:¬F 0):Tab w':=fun j v hv=>by
 have:=h j v hv
 unfold World.cell? at *
 rw[hg.block 0 h.lt h0]
 exact this
theorem sZtn34(h:p:=by
 go_ret
 exact⟨rfl,_,N.nat,N.gr,N.sub⟩):p:=h
theorem qxx(h:qaw w b s tm F)(hT:Tab w)(sl:Value)(es:List Ev)(hE:EvAt w sl es)(hes:es.length<=64)(hlg:s.logged<=100000):Calls prog 99 #[V (some ⟨b,0,none⟩),sl] w fun e w'=>e=.returned (.string (s.log es).1)/\∃F',qaw w' b (s.log es).2 tm F'/\Gr F w w'/\∀c,F' c->F c\/w.heap.size<=c:=by
 have N:=h.start;have B:=Below.refl w.heap.size w;(have CT:=fun w hT=>qu3 0 w hT);(have CM:=fun w hE=>qwm (s.logged:Int) sl es w hE)
 unfold msgS at CT
 unfold mesS at CM
 obtain⟨z1,z2⟩:=q2b es (s.logged:Int) hes;have c3:=h.cellLogged;obtain⟨a0,cap,hsl⟩:=hE.slice
 obtain⟨n,hn⟩:∃n,n=es.length:=⟨_,rfl⟩
 have HN:Hid (n=es.length):=hn
 rw[←hn] at hsl
 subst hsl
 unfold Nt.log
 rw[←hn]
 by_cases h0:n=0
 ·rw[if_pos h0]
  subst h0
  clear hn CT CM c3
  go_enter func99,ntmps99
  go_wp2
  exact sZtn34
 ·rw[if_neg h0];(have hz:((n:Int)==0)=false:=by simp;omega);(have hw:wrap64 ((s.logged:Int)+(n:Int))=(s.logged:Int)+(n:Int):=by unfold wrap64;omega);have HV:Hid ((s.logged:Int)+(n:Int)=((s.logged+n:Nat):Int)):=hidN om
  generalize msgT 0 0 2 (tplB 6)=T0 at *
  generalize hM0:mesT (s.logged:Int) es=M0 at *
  by_cases hl:s.logged=0
  ·rw[if_pos hl];(have hz3:((s.logged:Int)==0)=true:=by simp[hl]);clear h0 hn hes hlg hl hM0
   go_enter func99,ntmps99
   go_wp2_with (first|(go_at_call 149;go_fit (CT _ (hT.below B));refine m87 ?_;clear N B c3;intro w5 N B c3)|(go_at_call 150;go_fit (CM _ (hE.below B));refine m87 ?_;clear N B c3;intro w5 N B c3)|((with_reducible refine gS 3 37 35 ?_);refine m74 ?_;clear N c3;intro w9 F9 N))
   go_ret
   exact⟨rfl,_,HN.out▸N.nat,N.gr,N.sub⟩
  ·rw[if_neg hl];(have hz3:((s.logged:Int)==0)=false:=by simp;omega);clear h0 hn hes hlg hl hM0
   go_enter func99,ntmps99
   go_wp2_with (first|(go_at_call 150;go_fit (CM _ (hE.below B));refine m87 ?_;clear N B c3;intro w5 N B c3)|((with_reducible refine gS 3 37 35 ?_);refine m74 ?_;clear N c3;intro w9 F9 N))
   go_ret
   exact⟨rfl,_,HN.out▸N.nat,N.gr,N.sub⟩
theorem qd7(hgd:o.guard=none)(ho:o.op=.alloc 138)(hr:∀b w',w.heap.size<=b->Row 138 w' b #[.nilFunc]->Below w.heap.size w w'->wpList prog ops Q rest (a.put o.dst (V (some ⟨b,0,none⟩))) w'):wpList prog ops Q (o::rest) a w:=
 wpList_plain hgd fun K hK=>by
  have h':=hr w.heap.size (w.alloc (.cells #[.nilFunc] 138)) (Nat.le_refl _) (Row.new 138 w _) ((Below.refl _ _).alloc (Nat.le_refl _) _);(have hz:(zeroValue 138).run prog w=.ok .nilFunc w:=by kernel_rfl)
  unfold Oper.wp execOp
  simp[ho,Instr.alloc,newVar,hz,Result.andThen,Value.cells]
  simp[go_sem]
  exact hK _ _ h'
theorem qd6{old:Value}(R:Row 138 w b #[old])(hgd:o.guard=none)(x y:Operand)(ho:o.op=.store 138 x y)(hx:a.eval x=V (some ⟨b,0,none⟩))(f:Fn)(c d:Array Value)(hy:a.eval y=.func f c d)(hr:∀w',Row 138 w' b #[.func f c d]->qbl b w w'->wpList prog ops Q rest (a.put o.dst undef) w'):wpList prog ops Q (o::rest) a w:=
 wpList_plain hgd fun K hK=>by
  have hcell:=(R.cell 0).trans (show(#[old]:Array Value)[0]?=some old from rfl);have hfr:=R.free 0
  unfold Oper.wp execOp
  simp only[ho,hx,hy]
  simp[go_sem,hcell,hfr,underlying138]
  (have hst:(store ⟨b,0,none⟩ (.func f c d)).run prog w=.ok () (w.setCell ⟨b,0,none⟩ (.func f c d)):=by have:=run_store prog w ⟨b,0,none⟩ (.func f c d);simp[hcell,hfr,Value.oneCell'] at this;first|exact this|exact this _|simpa using this);rw[hst]
  exact hK _ _ (hr _ (by simpa using R.set (o:=0) (v:=.func f c d)) (qfx _ _ _ _))
theorem qx7(m:Mp)(x y z:Int)(w:World):(Instr.build 52 #[(0,.agg (mc m)),(1,I Z x),(2,I Z y),(3,I Z z)]).run prog w=.ok (.agg (fc (mkF m x y z))) w:=by kernel_rfl
theorem qo5(hgd:o.guard=none)(p q r u:Operand)(ho:o.op=.build 52 #[(0,p),(1,q),(2,r),(3,u)])(m:Mp)(x y z:Int)(h1:a.eval p=.agg (mc m))(h2:a.eval q=I Z x)(h3:a.eval r=I Z y)(h4:a.eval u=I Z z)(hr:wpList prog ops Q rest (a.put o.dst (.agg (fc (mkF m x y z)))) w):wpList prog ops Q (o::rest) a w:=
 wpList_plain hgd fun K hK=>by
  unfold Oper.wp execOp
  simp only[ho,List.map_toArray,List.map_nil,List.map_cons,h1,h2,h3,h4,Sem.run_bind,qx7,Result.andThen_ok,Sem.run_pure]
  exact hK _ _ hr
theorem qaw.cellLoose(h:qaw w b s tm F):w.cell? ⟨b,0,none⟩=some (.bool s.loose):=by
 obtain⟨cs,v,ov,fm,D,Fw,cnt,M,hF⟩:=h
 exact(M.cell 0).trans M.c0
theorem qjj{P:Fl->Bool}(h:s.find P=some x):x∈s.fs/\P x.2=true:=⟨List.mem_of_find?_eq_some h,List.find?_some (p:=fun y:Nat×Fl=>P y.2) h⟩
theorem q4i(h:qaw w b s (duF s.fs) F)(p:Pkt)(m:Mp)(hnow:0<=s.now/\s.now<=549755813888)(hbg:s.began<700)(hfew:s.fs.length<400):Calls prog 93 #[V (some ⟨b,0,none⟩),.agg (pcl p),.agg (mc m)] w fun e w'=>e=.returned (I Z (s.letIn p m).1)/\∃F',qaw w' b (s.letIn p m).2 (duF (s.letIn p m).2.fs) F'/\Gr F w w'/\∀c,F' c->F c\/w.heap.size<=c:=by
 have N:=h.start;(have CF:=fun W F (hN:qaw W b s (duF s.fs) F) bk bm bp Rk Rm Rp=>q7t hN p m bk bm bp Rk Rm Rp);(have CH:=fun W F (hN:qaw W b s (duF s.fs) F) bm bp Rm Rp=>q33 hN p m bm bp Rm Rp);(have CU:=fun W F (hN:qaw W b s (duF s.fs) F)=>qlu hN);refine m34 ?_;intro hmf;have c0:=h.cellLoose
 unfold Nt.letIn
 cases hf:s.find (qio p m) with
 | some x=>
  have hx:=qjj hf;(have CG:=fun W F (hN:qaw W b s (duF s.fs) F)=>qvy hN hx.1 p true hnow)
  rw[hf] at CF
  unfold qe3 at CF
  simp only
  clear hx hf CH CU hnow hbg hfew
  go_enter func93,ntmps93
  go_wp2_with (first|((with_reducible refine gB 61 1 ?_);refine m15 ?_;clear N;intro b4 w9 N)|((with_reducible refine gB 50 2 ?_);refine m1c ?_;clear N;intro b5 w9 N)|((with_reducible refine gA 138 ?_);refine m1g ?_;clear N;intro b7 w9 N)|((with_reducible refine gS 138 7 10 ?_);refine m2i ?_;refine m0j ?_;clear N;intro w9 N)|(go_at_call 86;refine m0z ?_;clear N c0;intro w5 N c0;refine m0k ?_;intro ck)|((with_reducible refine gL 61 4 ?_);refine qac 61 (.tmp 4) rfl kr b4 rfl (pcl p) (N.row 2 rfl) _ underlying61 rfl (qa0 p) ?_)|(go_at_call 88;go_fit (CG _ _ N.nat);rintro e w5 ⟨rfl,F9,hN9,hg9,hf9⟩;clear c0 ck;replace N:=N.call hN9 hg9 hf9;clear hN9 hg9 hf9))
  exact sZtn34
 | none=>
  rw[hf] at CF
  unfold qe3 at CF
  simp only
  cases hlo:s.loose with
  | false=>
   rw[hlo] at c0
   have HLO:Hid (s.loose=false):=hlo
   cases hk:s.find (qey p m) with
   | none=>
    rw[hk] at CH
    simp only[Option.isSome_none] at CH
    rw[if_pos (by rfl)];clear hf hlo hk CU hnow hbg hfew
    go_enter func93,ntmps93
    go_wp2_with (first|((with_reducible refine gB 61 1 ?_);refine m15 ?_;clear N;intro b4 w9 N)|((with_reducible refine gB 50 2 ?_);refine m1c ?_;clear N;intro b5 w9 N)|((with_reducible refine gA 138 ?_);refine m1g ?_;clear N;intro b7 w9 N)|((with_reducible refine gS 138 7 10 ?_);refine m2i ?_;refine m0j ?_;clear N;intro w9 N)|(go_at_call 86;refine m0z ?_;clear N c0;intro w5 N c0;rw[HLO.out] at c0;refine m0k ?_;intro ck)|(go_at_call 135;refine m5n ?_;clear N ck c0;intro w5 N))
    exact sZtn34
   | some y=>
    rw[hk] at CH
    simp only[Option.isSome_some] at CH
    rw[if_neg zm]
    by_cases hp:p.proto=17
    ·(have hp2:(p.proto != 17)=false:=by simp[hp])
     cases hu:s.full with
     | true=>
      rw[hu] at CU
      rw[if_pos zm];clear hf hlo hp hu hnow hbg hfew hk
      go_enter func93,ntmps93
      go_wp2_with (first|((with_reducible refine gB 61 1 ?_);refine m15 ?_;clear N;intro b4 w9 N)|((with_reducible refine gB 50 2 ?_);refine m1c ?_;clear N;intro b5 w9 N)|((with_reducible refine gA 138 ?_);refine m1g ?_;clear N;intro b7 w9 N)|((with_reducible refine gS 138 7 10 ?_);refine m2i ?_;refine m0j ?_;clear N;intro w9 N)|(go_at_call 86;refine m0z ?_;clear N c0;intro w5 N c0;rw[HLO.out] at c0;refine m0k ?_;intro ck)|(go_at_call 135;refine m5n ?_;clear N ck c0;intro w5 N)|((with_reducible refine gL 3 36 ?_);refine m7f ?_)|(go_at_call 128;go_fit (CU _ _ N.nat);refine m0h ?_))
      exact sZtn34
     | false=>
      rw[hu] at CU
      rw[if_neg (by simp[hp])]
      (have CB:=fun W F (hN:qaw W b s (duF s.fs) F)=>qlz hN (mkF m p.src p.sport 2) hfew hbg hnow);clear hf hlo hp hu hnow hbg hfew hk
      go_enter func93,ntmps93
      go_wp2_with (first|((with_reducible refine gB 61 1 ?_);refine m15 ?_;clear N;intro b4 w9 N)|((with_reducible refine gB 50 2 ?_);refine m1c ?_;clear N;intro b5 w9 N)|((with_reducible refine gA 138 ?_);refine m1g ?_;clear N;intro b7 w9 N)|((with_reducible refine gS 138 7 10 ?_);refine m2i ?_;refine m0j ?_;clear N;intro w9 N)|(go_at_call 86;refine m0z ?_;clear N c0;intro w5 N c0;rw[HLO.out] at c0;refine m0k ?_;intro ck)|(go_at_call 135;refine m5n ?_;clear N ck c0;intro w5 N)|((with_reducible refine gL 3 36 ?_);refine m7f ?_)|(go_at_call 128;go_fit (CU _ _ N.nat);refine m0h ?_)|((with_reducible refine gL 50 5 ?_);refine qac 50 (.tmp 5) rfl kr b5 rfl (mc m) (N.row 1 rfl) _ underlying50 rfl (qak m) ?_)|((with_reducible refine gL 3 45 ?_);refine fx (N.row 2 rfl) _ 1 (p.src) ?_)|((with_reducible refine gL 3 47 ?_);refine fx (N.row 2 rfl) _ 2 (p.sport) ?_)|((with_reducible refine qaa (.build 52 #[(0,.tmp 44),(1,.tmp 46),(2,.tmp 48),(3,.const (I Z 2))]) rfl ?_);refine qo5 rfl (.tmp 44) (.tmp 46) (.tmp 48) (.const (I Z 2)) rfl m p.src p.sport 2 rfl rfl rfl rfl ?_)|(go_at_call 132;go_fit (CB _ _ N.nat);rintro e w5 ⟨rfl,F9,hN9,hg9,hf9⟩;(try clear c0);(try clear ck);replace N:=N.call hN9 hg9 hf9;clear hN9 hg9 hf9))
      exact sZtn34
    ·(have hp2:(p.proto != 17)=true:=by simp[hp])
     rw[if_pos (by simp[hp])]
     clear hf hlo hp CU hnow hbg hfew hk
     go_enter func93,ntmps93
     go_wp2_with (first|((with_reducible refine gB 61 1 ?_);refine m15 ?_;clear N;intro b4 w9 N)|((with_reducible refine gB 50 2 ?_);refine m1c ?_;clear N;intro b5 w9 N)|((with_reducible refine gA 138 ?_);refine m1g ?_;clear N;intro b7 w9 N)|((with_reducible refine gS 138 7 10 ?_);refine m2i ?_;refine m0j ?_;clear N;intro w9 N)|(go_at_call 86;refine m0z ?_;clear N c0;intro w5 N c0;rw[HLO.out] at c0;refine m0k ?_;intro ck)|(go_at_call 135;refine m5n ?_;clear N ck c0;intro w5 N)|((with_reducible refine gL 3 36 ?_);refine m7f ?_))
     exact sZtn34
  | true=>
   rw[hlo] at c0
   have HLO:Hid (s.loose=true):=hlo;rw[if_neg zm]
   by_cases hp:p.proto=17
   ·(have hp2:(p.proto != 17)=false:=by simp[hp])
    cases hu:s.full with
    | true=>
     rw[hu] at CU
     rw[if_pos zm];clear hf hlo hp hu hnow hbg hfew
     go_enter func93,ntmps93
     go_wp2_with (first|((with_reducible refine gB 61 1 ?_);refine m15 ?_;clear N;intro b4 w9 N)|((with_reducible refine gB 50 2 ?_);refine m1c ?_;clear N;intro b5 w9 N)|((with_reducible refine gA 138 ?_);refine m1g ?_;clear N;intro b7 w9 N)|((with_reducible refine gS 138 7 10 ?_);refine m2i ?_;refine m0j ?_;clear N;intro w9 N)|(go_at_call 86;refine m0z ?_;clear N c0;intro w5 N c0;rw[HLO.out] at c0;refine m0k ?_;intro ck)|((with_reducible refine gL 3 36 ?_);refine m7f ?_)|(go_at_call 128;go_fit (CU _ _ N.nat);refine m0h ?_))
     exact sZtn34
    | false=>
     rw[hu] at CU
     rw[if_neg (by simp[hp])]
     (have CB:=fun W F (hN:qaw W b s (duF s.fs) F)=>qlz hN (mkF m p.src p.sport 2) hfew hbg hnow);clear hf hlo hp hu hnow hbg hfew
     go_enter func93,ntmps93
     go_wp2_with (first|((with_reducible refine gB 61 1 ?_);refine m15 ?_;clear N;intro b4 w9 N)|((with_reducible refine gB 50 2 ?_);refine m1c ?_;clear N;intro b5 w9 N)|((with_reducible refine gA 138 ?_);refine m1g ?_;clear N;intro b7 w9 N)|((with_reducible refine gS 138 7 10 ?_);refine m2i ?_;refine m0j ?_;clear N;intro w9 N)|(go_at_call 86;refine m0z ?_;clear N c0;intro w5 N c0;rw[HLO.out] at c0;refine m0k ?_;intro ck)|((with_reducible refine gL 3 36 ?_);refine m7f ?_)|(go_at_call 128;go_fit (CU _ _ N.nat);refine m0h ?_)|((with_reducible refine gL 50 5 ?_);refine qac 50 (.tmp 5) rfl kr b5 rfl (mc m) (N.row 1 rfl) _ underlying50 rfl (qak m) ?_)|((with_reducible refine gL 3 45 ?_);refine fx (N.row 2 rfl) _ 1 (p.src) ?_)|((with_reducible refine gL 3 47 ?_);refine fx (N.row 2 rfl) _ 2 (p.sport) ?_)|((with_reducible refine qaa (.build 52 #[(0,.tmp 44),(1,.tmp 46),(2,.tmp 48),(3,.const (I Z 2))]) rfl ?_);refine qo5 rfl (.tmp 44) (.tmp 46) (.tmp 48) (.const (I Z 2)) rfl m p.src p.sport 2 rfl rfl rfl rfl ?_)|(go_at_call 132;go_fit (CB _ _ N.nat);rintro e w5 ⟨rfl,F9,hN9,hg9,hf9⟩;(try clear c0);(try clear ck);replace N:=N.call hN9 hg9 hf9;clear hN9 hg9 hf9))
     exact sZtn34
   ·(have hp2:(p.proto != 17)=true:=by simp[hp])
    rw[if_pos (by simp[hp])]
    clear hf hlo hp CU hnow hbg hfew
    go_enter func93,ntmps93
    go_wp2_with (first|((with_reducible refine gB 61 1 ?_);refine m15 ?_;clear N;intro b4 w9 N)|((with_reducible refine gB 50 2 ?_);refine m1c ?_;clear N;intro b5 w9 N)|((with_reducible refine gA 138 ?_);refine m1g ?_;clear N;intro b7 w9 N)|((with_reducible refine gS 138 7 10 ?_);refine m2i ?_;refine m0j ?_;clear N;intro w9 N)|(go_at_call 86;refine m0z ?_;clear N c0;intro w5 N c0;rw[HLO.out] at c0;refine m0k ?_;intro ck)|((with_reducible refine gL 3 36 ?_);refine m7f ?_))
    exact sZtn34
theorem sZtn36(h:p:=by
 rw[HR.out];clear h0 h1
 go_enter func92,ntmps92
 go_wp2
 go_ret2
 exact⟨rfl,rfl⟩):p:=h
theorem qop(x:Int)(w:World)(h0:0<=x)(h1:x<=4294967295):Calls prog 92 #[I Z x] w fun e w'=>e=.returned (.tuple #[I Z (x-3405803777),.bool (decide (0<=x-3405803777/\x-3405803777<3))])/\w'=w:=by
 (have hw:wrap64 (x-3405803777)=x-3405803777:=by unfold wrap64;omega)
 by_cases ha:0<=x-3405803777
 ·by_cases hb:x-3405803777<3
  ·have HR:Hid (decide (0<=x-3405803777/\x-3405803777<3)=true):=hidN (decide_eq_true ⟨ha,hb⟩);have d1:decide (0<=x-3405803777)=true:=decide_eq_true ha;have d2:decide (x-3405803777<3)=true:=decide_eq_true hb
   exact sZtn36
  ·have HR:Hid (decide (0<=x-3405803777/\x-3405803777<3)=false):=hidN (decide_eq_false (fun h=>hb h.2));have d1:decide (0<=x-3405803777)=true:=decide_eq_true ha;have d2:decide (x-3405803777<3)=false:=decide_eq_false hb
   exact sZtn36
 ·have HR:Hid (decide (0<=x-3405803777/\x-3405803777<3)=false):=hidN (decide_eq_false (fun h=>ha h.1));have d1:decide (0<=x-3405803777)=false:=decide_eq_false ha
  exact sZtn36
theorem sZtn35(h:p:=by
 rw[HR.out];clear h0 h1
 go_enter func85,ntmps85
 go_wp2
 go_ret2
 exact⟨rfl,rfl⟩):p:=h
theorem qsh(x:Int)(w:World)(h0:0<=x)(h1:x<=4294967295):Calls prog 85 #[I Z x] w fun e w'=>e=.returned (.tuple #[I Z (x-167772161),.bool (decide (0<=x-167772161/\x-167772161<8))])/\w'=w:=by
 (have hw:wrap64 (x-167772161)=x-167772161:=by unfold wrap64;omega)
 by_cases ha:0<=x-167772161
 ·by_cases hb:x-167772161<8
  ·have HR:Hid (decide (0<=x-167772161/\x-167772161<8)=true):=hidN (decide_eq_true ⟨ha,hb⟩);have d1:decide (0<=x-167772161)=true:=decide_eq_true ha;have d2:decide (x-167772161<8)=true:=decide_eq_true hb
   exact sZtn35
  ·have HR:Hid (decide (0<=x-167772161/\x-167772161<8)=false):=hidN (decide_eq_false (fun h=>hb h.2));have d1:decide (0<=x-167772161)=true:=decide_eq_true ha;have d2:decide (x-167772161<8)=false:=decide_eq_false hb
   exact sZtn35
 ·have HR:Hid (decide (0<=x-167772161/\x-167772161<8)=false):=hidN (decide_eq_false (fun h=>ha h.1));have d1:decide (0<=x-167772161)=false:=decide_eq_false ha
  exact sZtn35
theorem qqk{l:List UInt8}(h:bad l=0):good (qam l)=0:=by
 unfold bad at h
 by_cases h1:qcw l≠0
 ·rw[if_pos h1] at h;exact absurd h h1
 ·rw[if_neg h1] at h
  by_cases h2:qcx l (byt l 9)≠0
  ·rw[if_pos h2] at h;exact absurd h h2
  ·rw[if_neg h2] at h;exact h
theorem q2d(l:List UInt8)(proto:Int):(qgf l proto).length=l.length:=by unfold qgf;simp
theorem q6l(l:List UInt8)(proto side addr port:Int):(spun l proto side addr port).length=l.length:=by
 unfold spun qg8
 split
 ·rw[q2d];simp[aged]
 ·simp[aged]
theorem qy4(l:List UInt8)(side addr port:Int):(qc5 l side addr port).size<=l.length:=by
 unfold qc5
 split
 ·rw[qck,q6l];exact Nat.le_refl _
 ·simp
theorem qaw.table(h:qaw w b s tm F):∃v,w.rangeAt b 4 (tc s.f s.g s.h v).toList/\qaz w v s.ms/\qcs v/\(0<s.ms.length->F (mb v)):=by
 obtain⟨cs,v,ov,fm,D,Fw,cnt,M,hF⟩:=h
 refine⟨v,fun j u hu=>?_,M.maps,M.nil,fun h0=>hF _ (.inr (.inr (.inr ⟨h0,rfl⟩)))⟩
 (have hj:j<30:=by have:=(List.getElem?_eq_some_iff.1 hu).1;simpa[qcr] using this);rw[M.cell,M.ct j hj]
 simpa using hu
theorem qcj(f:Nat->Int)(g:Nat->Bool)(h:Nat->Int)(sl:Value):(prog.info? 39).map (·.size)=some (tc f g h sl).toList.length:=by kernel_rfl
theorem qax{K:Act->World->Prop}(t:TypeId)(ho:o.op=.alloc t)(cs:Array Value)(hz:∀w:World,(zeroValue t).run prog w=.ok (.agg cs) w)(hr:∀b w',w.heap.size<=b->Row t w' b cs->Below w.heap.size w w'->K (a.put o.dst (V (some ⟨b,0,none⟩))) w'):o.wp prog a w K Q:=by
 have h':=hr w.heap.size (w.alloc (.cells cs t)) (Nat.le_refl _) (Row.new t w cs) ((Below.refl _ _).alloc (Nat.le_refl _) _)
 unfold Oper.wp execOp
 simp[ho,Instr.alloc,newVar,hz w,Result.andThen,Value.cells]
 simp[go_sem]
 exact h'
theorem qgx(p:Pkt):pv p=.agg (pcl p):=rfl
theorem qbs(w:World):(zeroValue 61).run prog w=.ok (.agg (pcl p0)) w:=by kernel_rfl
theorem qb3(p:Pkt):(pcl p).all (·.oneCell')=true:=by kernel_rfl
end Go.Proofs.YtonnjgmognbnbaaGreatDoor
