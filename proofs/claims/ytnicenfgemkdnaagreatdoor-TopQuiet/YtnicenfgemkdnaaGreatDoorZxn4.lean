/-
  Of what a law stands on.
-/
import Derived.Test.YtnicenfgemkdnaaGreatDoorZxn3
set_option linter.unusedSimpArgs false
set_option linter.unusedVariables false
namespace Go.Proofs.YtnicenfgemkdnaaGreatDoor
open _root_.Go.Proofs.Tryz
set_option maxHeartbeats 16000000
set_option maxRecDepth 100000
open Go.ChangeShapes Go.WideShapes Go.ChangeAt Go.RowKit Go.Maps
theorem sZxn41{p:Prop}(h:p:=by
 rw[hf] at CF
 unfold qe3 at CF
 go_enter func140,ntmps140
 go_wp2_with (go_at_call 97;go_fit CF;rintro e w' ⟨rfl,hb⟩)
 go_ret
 exact⟨rfl,hb⟩):p:=h
theorem q33{w:World}{b:Nat}{s:Nt}{tm:Int->Option Int}{F:Nat->Prop}(h:qaw w b s tm F)(p:Pkt)(m:Mp)(bm bp:Nat)(Rm:Row 46 w bm (mc m))(Rp:Row 58 w bp (pcl p)):Calls prog 140 #[.pointer (some ⟨b,0,none⟩),.func (.func 138) #[] #[.pointer (some ⟨bm,0,none⟩),.pointer (some ⟨bp,0,none⟩)]] w fun e w'=>e=.returned (.bool (s.find (qey p m)).isSome)/\Below w.heap.size w w':=by
 have CF:=q0x h p m bm bp Rm Rp
 cases hf:s.find (qey p m) with
 | none=>
  exact sZxn41
 | some x=>
  exact sZxn41
theorem q87{w:World}{b:Nat}{s:Nt}{tm:Int->Option Int}{F:Nat->Prop}(h:qaw w b s tm F)(m:Mp)(bm:Nat)(Rm:Row 46 w bm (mc m)):Calls prog 140 #[.pointer (some ⟨b,0,none⟩),.func (.func 152) #[] #[.pointer (some ⟨bm,0,none⟩)]] w fun e w'=>e=.returned (.bool (s.find (qf0 m)).isSome)/\Below w.heap.size w w':=by
 have CF:=q4m h m bm Rm
 cases hf:s.find (qf0 m) with
 | none=>
  exact sZxn41
 | some x=>
  exact sZxn41
theorem qzf(w:World):(zeroValue 105).run prog w=.ok (.agg (ec noE)) w:=by kernel_rfl
theorem q8x(x y z u:Int)(f:Bool)(w:World):(Instr.build 105 #[(0,.int .i64 x),(1,.int .i64 y),(2,.int .i64 z),(3,.int .i64 u),(4,.bool f)]).run prog w=.ok (.agg (ec ⟨x,y,z,u,f⟩)) w:=by kernel_rfl
theorem qz5{ops:Array Oper}{S:World->Prop}{o:Oper}{a:Act}(p q r s t:Operand)(ho:o.op=.build 105 #[(0,p),(1,q),(2,r),(3,s),(4,t)])(hw:Region.wanted o (yielded ops a.tmps)=true)(x y z u:Int)(f:Bool)(h1:a.eval p=.int .i64 x)(h2:a.eval q=.int .i64 y)(h3:a.eval r=.int .i64 z)(h4:a.eval s=.int .i64 u)(h5:a.eval t=.bool f):YieldsIf prog ops S o (.agg (ec ⟨x,y,z,u,f⟩)) a:=
 .inl ⟨hw,fun w _=>by unfold execOp;simp only[ho,List.map_toArray,List.map_cons,List.map_nil,h1,h2,h3,h4,h5,Sem.run_bind,q8x,Result.andThen_ok,Sem.run_pure]⟩
theorem qtn{w:World}{b:Nat}{s:Nt}{tm:Int->Option Int}{F:Nat->Prop}(h:qaw w b s tm F)(m:Mp)(free:Bool)(hq:1024<=m.2.2.2.2/\m.2.2.2.2<1072):Calls prog 109 #[.pointer (some ⟨b,0,none⟩),.agg (mc m),.bool free] w fun e w'=>e=.returned (.agg (ec (evN s.now m free)))/\Below w.heap.size w w':=by
 have B:=Bd.start w
 have CB:=fun w=>qs4 m.2.2.2.2 w
 unfold blkS at CB
 rw[if_pos hq] at CB
 clear hq
 go_enter func109,ntmps109
 go_upto_region 2 with(first|((with_reducible refine gB 46 1 ?_);refine bx 46 (.tmp 1) (mc m) ?_;intro b4 w9 l9 R9 h9;replace B:=B.alloc l9 R9 h9;clear R9 h9 l9)|((with_reducible refine gA 105 ?_);refine ax 6 105 qzf ?_;intro b6 w9 l9 R9 h9;replace B:=B.alloc l9 R9 h9;clear R9 h9 l9)|((with_reducible refine gL 3 11 ?_);refine fx (B.row 1 rfl) _ 4 (m.2.2.2.2) ?_)|(go_at_call 27;go_fit (CB _);rintro e w' ⟨rfl,hw⟩;rw[hw];clear hw w'))
 have kS:=B.row 1 rfl
 refine RD (fun W=>Row 46 W b4 (mc m)) kS (fun _=>?_)
 refine tq 0 (.pointer (some ⟨b,0,none⟩)) rfl kS (tq 2 (.pointer (some ⟨b4,1,none⟩)) rfl kS (tk 3 (.int .i64 m.2.1) rfl (Or.inl ⟨by kernel_rfl,by intro w hS;have hc:=(hS.cell 1).trans (show(mc m)[1]?=some (.int .i64 m.2.1) from rfl);go_simp⟩) kS ?_))
 simp only[ZZ]
 refine tq 4 (.pointer (some ⟨b4,3,none⟩)) rfl kS (tk 5 (.int .i64 m.2.2.2.1) rfl (Or.inl ⟨by kernel_rfl,by intro w hS;have hc:=(hS.cell 3).trans (show(mc m)[3]?=some (.int .i64 m.2.2.2.1) from rfl);go_simp⟩) kS (tq 6 (.int .i64 ((m.2.2.2.2-1024)/8)) rfl kS ?_))
 simp only[ZZ]
 refine tq 7 (.bool free) rfl kS ?_
 simp only[ZZ]
 refine AR [1] ?_
 refine AC (fun K hK=>?_) ?_
 ·go_simp
  go_at_call 22;(first|refine(qda (h.below B.base)).mono ?_|refine(qda (h.below B.drew.base)).mono ?_);rintro e w9 ⟨rfl,hw⟩;rw[hw];clear hw w9
  go_wp2_with fail
  refine hK.out _ _ kS (fun _=>?_)
  clear hK K
  try simp only[ZZ]
  refine tk 8 (.agg (ec (evN s.now m free))) rfl (qz5 (.tmp 18) (.tmp 20) (.tmp 22) (.tmp 23) (.tmp 24) rfl kr s.now m.2.1 m.2.2.2.1 ((m.2.2.2.2-1024)/8) free kr kr kr kr kr) kS ?_
  simp only[ZZ]
  refine AR [9] ?_
  refine AC (fun K hK=>?_) ?_
  ·rw[if_pos kr]
   refine sy 105 (.tmp 6) (.tmp 25) (ec (evN s.now m free)) (B.row 0 rfl) ?_;intro w9 R9 t9;(first|replace t9:=qap t9|skip);replace B:=B.turn 0 rfl R9 t9;clear R9 t9;replace kS:=B.row 1 rfl
   refine hK.out _ _ kS (fun _=>?_)
   clear hK K
   try simp only[ZZ]
   refine AN ?_
   clear kS
   go_wp2_with fail
   first|((try simp only[Exit.inBlock,Exit.then]);refine bodyPost_ret (qai (p:=6) rfl _ _ _ _ rfl (B.row 0 rfl) _ underlying105 rfl (qf2 _)) rfl ⟨rfl,B.base⟩)|((try simp only[Exit.inBlock,Exit.then]);refine bodyPost_ret (qai (p:=6) rfl _ _ _ _ rfl (B.drew.row 0 rfl) _ underlying105 rfl (qf2 _)) rfl ⟨rfl,B.drew.base⟩)
  exact AZ
 exact AZ
theorem qfn{ops:Array Oper}{rest:List Oper}{o:Oper}{a:Act}{w0 W:World}{Q:Exit->Act->World->Prop}{b:Nat}{s:Nt}{tm:Int->Option Int}{F0 F:Nat->Prop}{L:List (Nat×Obj)}(N:Nb w0 W b s tm F0 F L)(hgd:o.guard=none)(x y:Operand)(ho:o.op=.store 3 x y)(hx:a.eval x=.pointer (some ⟨b,1,none⟩))(n:Nat)(hy:a.eval y=.int .i64 (n:Int))(hr:∀W' F',Nb w0 W' b { s with acts:=n } tm F0 F' L->wpList prog ops Q rest (a.put o.dst undef) W'):wpList prog ops Q (o::rest) a W:=by
 obtain⟨cs,v,ov,fm,D,Fw,cnt,M,hF⟩:=id N.nat
 refine qbb M.row hgd x y ho 1 hx (n:Int) hy _ M.c1 _ rfl ?_
 intro w' R T
 exact hr w' _ (N.call ⟨_,_,_,_,_,_,_,M.setActs n R T,hF⟩ ((qcq T).mono (fun c hc=>hF c (.inl (hc▸M.inb)))) (fun c hc=>.inl hc))
theorem qaw.cellActs{w:World}{b:Nat}{s:Nt}{tm:Int->Option Int}{F:Nat->Prop}(h:qaw w b s tm F):w.cell? ⟨b,1,none⟩=some (.int .i64 (s.acts:Int)):=by
 obtain⟨cs,v,ov,fm,D,Fw,cnt,M,hF⟩:=h
 exact(M.cell 1).trans M.c1
theorem qn2{ops:Array Oper}{rest:List Oper}{o:Oper}{a:Act}{w0 W:World}{Q:Exit->Act->World->Prop}{b:Nat}{s:Nt}{tm:Int->Option Int}{F0 F:Nat->Prop}{L:List (Nat×Obj)}(N:Nb w0 W b s tm F0 F L)(hgd:o.guard=none)(x y:Operand)(ho:o.op=.store 3 x y)(hx:a.eval x=.pointer (some ⟨b,2,none⟩))(n:Nat)(hy:a.eval y=.int .i64 (n:Int))(hr:∀W' F',Nb w0 W' b { s with left:=n } tm F0 F' L->wpList prog ops Q rest (a.put o.dst undef) W'):wpList prog ops Q (o::rest) a W:=by
 obtain⟨cs,v,ov,fm,D,Fw,cnt,M,hF⟩:=id N.nat
 refine qbb M.row hgd x y ho 2 hx (n:Int) hy _ M.c2 _ rfl ?_
 intro w' R T
 exact hr w' _ (N.call ⟨_,_,_,_,_,_,_,M.setLeft n R T,hF⟩ ((qcq T).mono (fun c hc=>hF c (.inl (hc▸M.inb)))) (fun c hc=>.inl hc))
theorem qaw.cellLeft{w:World}{b:Nat}{s:Nt}{tm:Int->Option Int}{F:Nat->Prop}(h:qaw w b s tm F):w.cell? ⟨b,2,none⟩=some (.int .i64 (s.left:Int)):=by
 obtain⟨cs,v,ov,fm,D,Fw,cnt,M,hF⟩:=h
 exact(M.cell 2).trans M.c2
theorem qmd{ops:Array Oper}{rest:List Oper}{o:Oper}{a:Act}{w0 W:World}{Q:Exit->Act->World->Prop}{b:Nat}{s:Nt}{tm:Int->Option Int}{F0 F:Nat->Prop}{L:List (Nat×Obj)}(N:Nb w0 W b s tm F0 F L)(hgd:o.guard=none)(x y:Operand)(ho:o.op=.store 3 x y)(hx:a.eval x=.pointer (some ⟨b,3,none⟩))(n:Nat)(hy:a.eval y=.int .i64 (n:Int))(hr:∀W' F',Nb w0 W' b { s with logged:=n } tm F0 F' L->wpList prog ops Q rest (a.put o.dst undef) W'):wpList prog ops Q (o::rest) a W:=by
 obtain⟨cs,v,ov,fm,D,Fw,cnt,M,hF⟩:=id N.nat
 refine qbb M.row hgd x y ho 3 hx (n:Int) hy _ M.c3 _ rfl ?_
 intro w' R T
 exact hr w' _ (N.call ⟨_,_,_,_,_,_,_,M.setLogged n R T,hF⟩ ((qcq T).mono (fun c hc=>hF c (.inl (hc▸M.inb)))) (fun c hc=>.inl hc))
theorem qaw.cellLogged{w:World}{b:Nat}{s:Nt}{tm:Int->Option Int}{F:Nat->Prop}(h:qaw w b s tm F):w.cell? ⟨b,3,none⟩=some (.int .i64 (s.logged:Int)):=by
 obtain⟨cs,v,ov,fm,D,Fw,cnt,M,hF⟩:=h
 exact(M.cell 3).trans M.c3
theorem qad(r:Rp):(prog.info? 30).map (·.size)=some r.cells.size:=by kernel_rfl
theorem qah(r:Rp):r.cells.all (·.oneCell')=true:=by kernel_rfl
theorem q4s(c:Int)(fr:ByteArray)(w:World):(Instr.build 30 #[(0,.int .i64 c),(1,.string fr),(2,.bool true)]).run prog w=.ok (.agg (Rp.cells ⟨c,fr,true,ByteArray.empty⟩)) w:=by kernel_rfl
theorem qdd{ops:Array Oper}{rest:List Oper}{o:Oper}{a:Act}{w:World}{Q:Exit->Act->World->Prop}(x y:Operand)(hgd:o.guard=none)(ho:o.op=.build 30 #[(0,x),(1,y),(2,.const (.bool true))])(c:Int)(fr:ByteArray)(hx:a.eval x=.int .i64 c)(hy:a.eval y=.string fr)(hr:wpList prog ops Q rest (a.put o.dst (.agg (Rp.cells ⟨c,fr,true,ByteArray.empty⟩))) w):wpList prog ops Q (o::rest) a w:=
 wpList_plain hgd fun K hK=>by
  have hz:a.eval (.const (.bool true))=.bool true:=rfl
  unfold Oper.wp execOp
  simp only[ho,List.map_toArray,List.map_nil,List.map_cons,hx,hy,hz,Sem.run_bind,q4s,Result.andThen_ok,Sem.run_pure]
  exact hK _ _ hr
theorem qar(r q:Rp):r.cells.size=q.cells.size:=rfl
theorem qan(w:World):(zeroValue 30).run prog w=.ok (.agg (qas 0).cells) w:=by kernel_rfl
attribute [local irreducible] Rp.cells
theorem qp6{w:World}{b:Nat}{s:Nt}{tm:Int->Option Int}{F:Nat->Prop}(h:qaw w b s tm F)(fr:ByteArray)(hs:fr.size<=140737488351232)(hlf:s.left<=100)(why:Int):Calls prog 134 #[.pointer (some ⟨b,0,none⟩),.string fr,.int .i64 why] w fun e w'=>e=.returned (.agg (s.refuse fr.data.toList why).1.cells)/\∃F',qaw w' b (s.refuse fr.data.toList why).2 tm F'/\Gr F w w'/\∀c,F' c->F c\/w.heap.size<=c:=by
 have N:=h.start
 have CR:=fun w=>qzs fr (s.left:Int) w hs
 have CF:=fun w=>qdj why w
 rw[←qdo] at CF
 have c2:=h.cellLeft
 unfold Nt.refuse
 by_cases h0:s.left=0
 ·rw[if_pos h0]
  have HZ:Hid (s.left=0):=h0
  rw[h0] at c2
  clear h0 CR hs
  go_enter func134,ntmps134
  go_wp2_with (first|((with_reducible refine gA 30 ?_);refine ax 6 30 qan ?_;intro b6 w9 l9 R9 h9;replace N:=N.alloc (o:=ob 30 ((qas 0).cells)) l9 R9 h9;clear R9 h9 l9;clear c2;have c2:=N.nat.cellLeft;(try rw[HZ.out] at c2))|(go_at_call 68;go_fit (CF _);rintro e w5 ⟨rfl,hb5⟩;replace N:=N.below hb5;clear hb5)|((with_reducible refine gS 30 6 15 ?_);refine sx 30 (.tmp 6) _ ((qas why).cells) (N.row 0 rfl) ?_;intro w9 R9 t9;replace N:=N.turn 0 rfl R9 t9;clear R9 t9))
  ((try simp only[Exit.inBlock,Exit.then]);refine bodyPost_ret (qai (p:=6) rfl _ _ _ _ rfl (N.row 0 rfl) _ underlying30 rfl (qad _)) rfl ⟨rfl,_,N.nat,N.gr,N.sub⟩)
 ·rw[if_neg h0]
  have hz:((s.left:Int)==0)=false:=by simp;omega
  have hw:wrap64 ((s.left:Int)-1)=(s.left:Int)-1:=by unfold wrap64;omega
  have HV:Hid ((s.left:Int)-1=((s.left-1:Nat):Int)):=hidN om
  clear h0 CF hlf hs
  go_enter func134,ntmps134
  go_wp2_with (first|((with_reducible refine gA 30 ?_);refine ax 6 30 qan ?_;intro b6 w9 l9 R9 h9;replace N:=N.alloc (o:=ob 30 ((qas 0).cells)) l9 R9 h9;clear R9 h9 l9;clear c2;have c2:=N.nat.cellLeft)|(go_at_call 165;go_fit (CR _);rintro e w5 ⟨rfl,hb5⟩;clear CR;replace N:=N.below hb5;clear hb5;clear c2;have c2:=N.nat.cellLeft)|((with_reducible refine gS 3 31 29 ?_);refine qn2 N rfl (.tmp 31) (.tmp 29) rfl rfl (s.left-1) (by first|exact congrArg (Value.int .i64) HV.out|(rw[hw];exact congrArg (Value.int .i64) HV.out)|exact congrArg (Value.int .i64) (hw.trans HV.out)) ?_;clear N c2;intro w9 F9 N)|((with_reducible refine qaa (.build 30 #[(0,.tmp 32),(1,.tmp 33),(2,.const (.bool true))]) rfl ?_);refine qdd (.tmp 32) (.tmp 33) rfl rfl why _ rfl rfl ?_)|((with_reducible refine gS 30 6 34 ?_);refine sx 30 (.tmp 6) _ (Rp.cells ⟨why,refS fr.data.toList (s.left:Int),true,ByteArray.empty⟩) (N.row 0 rfl) ?_;intro w9 R9 t9;replace N:=N.turn 0 rfl R9 t9;clear R9 t9))
  ((try simp only[Exit.inBlock,Exit.then]);refine bodyPost_ret (qai (p:=6) rfl _ _ _ _ rfl (N.row 0 rfl) _ underlying30 rfl (qad _)) rfl ⟨rfl,_,N.nat,N.gr,N.sub⟩)
end Go.Proofs.YtnicenfgemkdnaaGreatDoor
namespace Go.Proofs.YtnicenfgemkdnaaGreatDoor
open _root_.Go.Proofs.Tryz
set_option maxHeartbeats 16000000
set_option maxRecDepth 100000
open Go.ChangeShapes Go.WideShapes Go.ChangeAt Go.RowKit Go.Maps
theorem q2b(es:List Ev)(n:Int)(h:es.length<=64):(msgT 0 0 2 (tplB 6)).size<=100/\(mesT n es).size<=2000:=by
 constructor
 ·unfold msgT;split
  ·rw[qck,qlj,qqi];omega
  ·simp
 ·unfold mesT
  split
  ·simp
  ·split
   ·simp
   ·split
    ·unfold msgT;split
     ·rw[qck,qlj,qnn];omega
     ·simp
    ·simp
theorem Tab.gr{F:Nat->Prop}{w w':World}(h:Tab w)(hg:Gr F w w')(h0:¬F 0):Tab w':=fun j v hv=>by
 have:=h j v hv
 unfold World.cell? at *
 rw[hg.block 0 h.lt h0]
 exact this
theorem sZxn42{p:Prop}(h:p:=by
 go_ret
 exact⟨rfl,_,N.nat,N.gr,N.sub⟩):p:=h
theorem qxx{w:World}{b:Nat}{s:Nt}{tm:Int->Option Int}{F:Nat->Prop}(h:qaw w b s tm F)(hT:Tab w)(sl:Value)(es:List Ev)(hE:EvAt w sl es)(hes:es.length<=64)(hlg:s.logged<=100000):Calls prog 110 #[.pointer (some ⟨b,0,none⟩),sl] w fun e w'=>e=.returned (.string (s.log es).1)/\∃F',qaw w' b (s.log es).2 tm F'/\Gr F w w'/\∀c,F' c->F c\/w.heap.size<=c:=by
 have N:=h.start
 have B:=Below.refl w.heap.size w
 have CT:=fun w hT=>qu3 0 w hT
 have CM:=fun w hE=>qwm (s.logged:Int) sl es w hE
 unfold msgS at CT
 unfold mesS at CM
 obtain⟨z1,z2⟩:=q2b es (s.logged:Int) hes
 have c3:=h.cellLogged
 obtain⟨a0,cap,hsl⟩:=hE.slice
 obtain⟨n,hn⟩:∃n,n=es.length:=⟨_,rfl⟩
 have HN:Hid (n=es.length):=hn
 rw[←hn] at hsl
 subst hsl
 unfold Nt.log
 rw[←hn]
 by_cases h0:n=0
 ·rw[if_pos h0]
  subst h0
  clear hn CT CM c3
  go_enter func110,ntmps110
  go_wp2
  exact sZxn42
 ·rw[if_neg h0]
  have hz:((n:Int)==0)=false:=by simp;omega
  have hw:wrap64 ((s.logged:Int)+(n:Int))=(s.logged:Int)+(n:Int):=by unfold wrap64;omega
  have HV:Hid ((s.logged:Int)+(n:Int)=((s.logged+n:Nat):Int)):=hidN om
  generalize msgT 0 0 2 (tplB 6)=T0 at *
  generalize hM0:mesT (s.logged:Int) es=M0 at *
  by_cases hl:s.logged=0
  ·rw[if_pos hl]
   have hz3:((s.logged:Int)==0)=true:=by simp[hl]
   clear h0 hn hes hlg hl hM0
   go_enter func110,ntmps110
   go_wp2_with (first|(go_at_call 122;go_fit (CT _ (hT.below B));rintro e w5 ⟨rfl,hb5⟩;replace N:=N.below hb5;replace B:=B.trans (hb5.mono B.size);clear hb5;clear c3;have c3:=N.nat.cellLogged)|(go_at_call 154;go_fit (CM _ (hE.below B));rintro e w5 ⟨rfl,hb5⟩;replace N:=N.below hb5;replace B:=B.trans (hb5.mono B.size);clear hb5;clear c3;have c3:=N.nat.cellLogged)|((with_reducible refine gS 3 37 35 ?_);refine qmd N rfl (.tmp 37) (.tmp 35) rfl rfl (s.logged+n) (by first|exact congrArg (Value.int .i64) HV.out|exact congrArg (Value.int .i64) (hw.trans HV.out)) ?_;clear N c3;intro w9 F9 N))
   go_ret
   exact⟨rfl,_,HN.out▸N.nat,N.gr,N.sub⟩
  ·rw[if_neg hl]
   have hz3:((s.logged:Int)==0)=false:=by simp;omega
   clear h0 hn hes hlg hl hM0
   go_enter func110,ntmps110
   go_wp2_with (first|(go_at_call 154;go_fit (CM _ (hE.below B));rintro e w5 ⟨rfl,hb5⟩;replace N:=N.below hb5;replace B:=B.trans (hb5.mono B.size);clear hb5;clear c3;have c3:=N.nat.cellLogged)|((with_reducible refine gS 3 37 35 ?_);refine qmd N rfl (.tmp 37) (.tmp 35) rfl rfl (s.logged+n) (by first|exact congrArg (Value.int .i64) HV.out|exact congrArg (Value.int .i64) (hw.trans HV.out)) ?_;clear N c3;intro w9 F9 N))
   go_ret
   exact⟨rfl,_,HN.out▸N.nat,N.gr,N.sub⟩
theorem qd7{ops:Array Oper}{rest:List Oper}{o:Oper}{a:Act}{w:World}{Q:Exit->Act->World->Prop}(hgd:o.guard=none)(ho:o.op=.alloc 151)(hr:∀b w',w.heap.size<=b->Row 151 w' b #[.nilFunc]->Below w.heap.size w w'->wpList prog ops Q rest (a.put o.dst (.pointer (some ⟨b,0,none⟩))) w'):wpList prog ops Q (o::rest) a w:=
 wpList_plain hgd fun K hK=>by
  have h':=hr w.heap.size (w.alloc (.cells #[.nilFunc] 151)) (Nat.le_refl _) (Row.new 151 w _) ((Below.refl _ _).alloc (Nat.le_refl _) _)
  have hz:(zeroValue 151).run prog w=.ok .nilFunc w:=by kernel_rfl
  unfold Oper.wp execOp
  simp[ho,Instr.alloc,newVar,hz,Result.andThen,Value.cells]
  simp[go_sem]
  exact hK _ _ h'
theorem qd6{ops:Array Oper}{rest:List Oper}{o:Oper}{a:Act}{w:World}{Q:Exit->Act->World->Prop}{b:Nat}{old:Value}(R:Row 151 w b #[old])(hgd:o.guard=none)(x y:Operand)(ho:o.op=.store 151 x y)(hx:a.eval x=.pointer (some ⟨b,0,none⟩))(f:Fn)(c d:Array Value)(hy:a.eval y=.func f c d)(hr:∀w',Row 151 w' b #[.func f c d]->qbl b w w'->wpList prog ops Q rest (a.put o.dst undef) w'):wpList prog ops Q (o::rest) a w:=
 wpList_plain hgd fun K hK=>by
  have hcell:=(R.cell 0).trans (show(#[old]:Array Value)[0]?=some old from rfl)
  have hfr:=R.free 0
  unfold Oper.wp execOp
  simp only[ho,hx,hy]
  simp[go_sem,hcell,hfr,underlying151]
  have hst:(store ⟨b,0,none⟩ (.func f c d)).run prog w=.ok () (w.setCell ⟨b,0,none⟩ (.func f c d)):=by have:=run_store prog w ⟨b,0,none⟩ (.func f c d);simp[hcell,hfr,Value.oneCell'] at this;first|exact this|exact this _|simpa using this
  rw[hst]
  exact hK _ _ (hr _ (by simpa using R.set (o:=0) (v:=.func f c d)) (qfx _ _ _ _))
theorem qx7(m:Mp)(x y z:Int)(w:World):(Instr.build 48 #[(0,.agg (mc m)),(1,.int .i64 x),(2,.int .i64 y),(3,.int .i64 z)]).run prog w=.ok (.agg (fc (mkF m x y z))) w:=by kernel_rfl
theorem qo5{ops:Array Oper}{rest:List Oper}{o:Oper}{a:Act}{w:World}{Q:Exit->Act->World->Prop}(hgd:o.guard=none)(p q r u:Operand)(ho:o.op=.build 48 #[(0,p),(1,q),(2,r),(3,u)])(m:Mp)(x y z:Int)(h1:a.eval p=.agg (mc m))(h2:a.eval q=.int .i64 x)(h3:a.eval r=.int .i64 y)(h4:a.eval u=.int .i64 z)(hr:wpList prog ops Q rest (a.put o.dst (.agg (fc (mkF m x y z)))) w):wpList prog ops Q (o::rest) a w:=
 wpList_plain hgd fun K hK=>by
  unfold Oper.wp execOp
  simp only[ho,List.map_toArray,List.map_nil,List.map_cons,h1,h2,h3,h4,Sem.run_bind,qx7,Result.andThen_ok,Sem.run_pure]
  exact hK _ _ hr
theorem qaw.cellLoose{w:World}{b:Nat}{s:Nt}{tm:Int->Option Int}{F:Nat->Prop}(h:qaw w b s tm F):w.cell? ⟨b,0,none⟩=some (.bool s.loose):=by
 obtain⟨cs,v,ov,fm,D,Fw,cnt,M,hF⟩:=h
 exact(M.cell 0).trans M.c0
theorem qjj{s:Nt}{P:Fl->Bool}{x:Nat×Fl}(h:s.find P=some x):x∈s.fs/\P x.2=true:=⟨List.mem_of_find?_eq_some h,List.find?_some (p:=fun y:Nat×Fl=>P y.2) h⟩
theorem q4i{w:World}{b:Nat}{s:Nt}{F:Nat->Prop}(h:qaw w b s (duF s.fs) F)(p:Pkt)(m:Mp)(hnow:0<=s.now/\s.now<=549755813888)(hbg:s.began<700)(hfew:s.fs.length<400):Calls prog 104 #[.pointer (some ⟨b,0,none⟩),.agg (pcl p),.agg (mc m)] w fun e w'=>e=.returned (.int .i64 (s.letIn p m).1)/\∃F',qaw w' b (s.letIn p m).2 (duF (s.letIn p m).2.fs) F'/\Gr F w w'/\∀c,F' c->F c\/w.heap.size<=c:=by
 have N:=h.start
 have CF:=fun W F (hN:qaw W b s (duF s.fs) F) bk bm bp Rk Rm Rp=>q7t hN p m bk bm bp Rk Rm Rp
 have CH:=fun W F (hN:qaw W b s (duF s.fs) F) bm bp Rm Rp=>q33 hN p m bm bp Rm Rp
 have CU:=fun W F (hN:qaw W b s (duF s.fs) F)=>qlu hN
 have hmf:∀(fn:Fn) (first cap:Array Value) (w:World),(Instr.makeFunc fn first cap).run prog w=.ok (.func fn first cap) w:=fun _ _ _ _=>rfl
 have c0:=h.cellLoose
 unfold Nt.letIn
 cases hf:s.find (qio p m) with
 | some x=>
  have hx:=qjj hf
  have CG:=fun W F (hN:qaw W b s (duF s.fs) F)=>qvy hN hx.1 p true hnow
  rw[hf] at CF
  unfold qe3 at CF
  simp only
  clear hx hf CH CU hnow hbg hfew
  go_enter func104,ntmps104
  go_wp2_with (first|((with_reducible refine gB 58 1 ?_);refine bx 58 (.tmp 1) (pcl p) ?_;intro b4 w9 l9 R9 h9;replace N:=N.alloc (o:=ob 58 ((pcl p))) l9 R9 h9;clear R9 h9 l9)|((with_reducible refine gB 46 2 ?_);refine bx 46 (.tmp 2) (mc m) ?_;intro b5 w9 l9 R9 h9;replace N:=N.alloc (o:=ob 46 ((mc m))) l9 R9 h9;clear R9 h9 l9)|((with_reducible refine gA 151 ?_);refine qd7 rfl rfl ?_;intro b7 w9 l9 R9 h9;replace N:=N.alloc (o:=ob 151 #[.nilFunc]) l9 R9 h9;clear R9 h9 l9)|((with_reducible refine gS 151 7 10 ?_);refine qd6 (N.row 0 rfl) rfl (.tmp 7) (.tmp 10) rfl rfl _ _ _ rfl ?_;intro w9 R9 t9;replace N:=N.turn 0 rfl R9 t9;clear R9 t9)|(go_at_call 97;go_fit (CF _ _ N.nat _ _ _ (N.row 0 rfl) (N.row 1 rfl) (N.row 2 rfl));rintro e w5 ⟨rfl,hb5⟩;replace N:=N.below hb5;clear hb5;clear c0;have c0:=N.nat.cellLoose;have ck:World.cell? _ ⟨b7,0,none⟩=some (.func (.func 138) #[] #[.pointer (some ⟨b5,0,none⟩),.pointer (some ⟨b4,0,none⟩)]):=((N.row 0 rfl).cell 0).trans rfl)|((with_reducible refine gL 58 4 ?_);refine qac 58 (.tmp 4) rfl kr b4 rfl (pcl p) (N.row 2 rfl) _ underlying58 rfl (qa0 p) ?_)|(go_at_call 99;go_fit (CG _ _ N.nat);rintro e w5 ⟨rfl,F9,hN9,hg9,hf9⟩;clear c0 ck;replace N:=N.call hN9 hg9 hf9;clear hN9 hg9 hf9))
  exact sZxn42
 | none=>
  rw[hf] at CF
  unfold qe3 at CF
  simp only
  cases hlo:s.loose with
  | false=>
   rw[hlo] at c0
   have HLO:Hid (s.loose=false):=hlo
   cases hk:s.find (qey p m) with
   | none=>
    rw[hk] at CH
    simp only[Option.isSome_none] at CH
    rw[if_pos (by rfl)]
    clear hf hlo hk CU hnow hbg hfew
    go_enter func104,ntmps104
    go_wp2_with (first|((with_reducible refine gB 58 1 ?_);refine bx 58 (.tmp 1) (pcl p) ?_;intro b4 w9 l9 R9 h9;replace N:=N.alloc (o:=ob 58 ((pcl p))) l9 R9 h9;clear R9 h9 l9)|((with_reducible refine gB 46 2 ?_);refine bx 46 (.tmp 2) (mc m) ?_;intro b5 w9 l9 R9 h9;replace N:=N.alloc (o:=ob 46 ((mc m))) l9 R9 h9;clear R9 h9 l9)|((with_reducible refine gA 151 ?_);refine qd7 rfl rfl ?_;intro b7 w9 l9 R9 h9;replace N:=N.alloc (o:=ob 151 #[.nilFunc]) l9 R9 h9;clear R9 h9 l9)|((with_reducible refine gS 151 7 10 ?_);refine qd6 (N.row 0 rfl) rfl (.tmp 7) (.tmp 10) rfl rfl _ _ _ rfl ?_;intro w9 R9 t9;replace N:=N.turn 0 rfl R9 t9;clear R9 t9)|(go_at_call 97;go_fit (CF _ _ N.nat _ _ _ (N.row 0 rfl) (N.row 1 rfl) (N.row 2 rfl));rintro e w5 ⟨rfl,hb5⟩;replace N:=N.below hb5;clear hb5;clear c0;have c0:=N.nat.cellLoose;rw[HLO.out] at c0;have ck:World.cell? _ ⟨b7,0,none⟩=some (.func (.func 138) #[] #[.pointer (some ⟨b5,0,none⟩),.pointer (some ⟨b4,0,none⟩)]):=((N.row 0 rfl).cell 0).trans rfl)|(go_at_call 140;go_fit (CH _ _ N.nat _ _ (N.row 1 rfl) (N.row 2 rfl));rintro e w5 ⟨rfl,hb5⟩;replace N:=N.below hb5;clear hb5 ck c0))
    exact sZxn42
   | some y=>
    rw[hk] at CH
    simp only[Option.isSome_some] at CH
    rw[if_neg zm]
    by_cases hp:p.proto=17
    ·have hp2:(p.proto != 17)=false:=by simp[hp]
     cases hu:s.full with
     | true=>
      rw[hu] at CU
      rw[if_pos zm]
      clear hf hlo hp hu hnow hbg hfew hk
      go_enter func104,ntmps104
      go_wp2_with (first|((with_reducible refine gB 58 1 ?_);refine bx 58 (.tmp 1) (pcl p) ?_;intro b4 w9 l9 R9 h9;replace N:=N.alloc (o:=ob 58 ((pcl p))) l9 R9 h9;clear R9 h9 l9)|((with_reducible refine gB 46 2 ?_);refine bx 46 (.tmp 2) (mc m) ?_;intro b5 w9 l9 R9 h9;replace N:=N.alloc (o:=ob 46 ((mc m))) l9 R9 h9;clear R9 h9 l9)|((with_reducible refine gA 151 ?_);refine qd7 rfl rfl ?_;intro b7 w9 l9 R9 h9;replace N:=N.alloc (o:=ob 151 #[.nilFunc]) l9 R9 h9;clear R9 h9 l9)|((with_reducible refine gS 151 7 10 ?_);refine qd6 (N.row 0 rfl) rfl (.tmp 7) (.tmp 10) rfl rfl _ _ _ rfl ?_;intro w9 R9 t9;replace N:=N.turn 0 rfl R9 t9;clear R9 t9)|(go_at_call 97;go_fit (CF _ _ N.nat _ _ _ (N.row 0 rfl) (N.row 1 rfl) (N.row 2 rfl));rintro e w5 ⟨rfl,hb5⟩;replace N:=N.below hb5;clear hb5;clear c0;have c0:=N.nat.cellLoose;rw[HLO.out] at c0;have ck:World.cell? _ ⟨b7,0,none⟩=some (.func (.func 138) #[] #[.pointer (some ⟨b5,0,none⟩),.pointer (some ⟨b4,0,none⟩)]):=((N.row 0 rfl).cell 0).trans rfl)|(go_at_call 140;go_fit (CH _ _ N.nat _ _ (N.row 1 rfl) (N.row 2 rfl));rintro e w5 ⟨rfl,hb5⟩;replace N:=N.below hb5;clear hb5 ck c0)|((with_reducible refine gL 3 36 ?_);refine fx (N.row 2 rfl) _ 0 (p.proto) ?_)|(go_at_call 133;go_fit (CU _ _ N.nat);rintro e w5 ⟨rfl,hw⟩;rw[hw];clear hw w5))
      exact sZxn42
     | false=>
      rw[hu] at CU
      rw[if_neg (by simp[hp])]
      have CB:=fun W F (hN:qaw W b s (duF s.fs) F)=>qlz hN (mkF m p.src p.sport 2) hfew hbg hnow
      clear hf hlo hp hu hnow hbg hfew hk
      go_enter func104,ntmps104
      go_wp2_with (first|((with_reducible refine gB 58 1 ?_);refine bx 58 (.tmp 1) (pcl p) ?_;intro b4 w9 l9 R9 h9;replace N:=N.alloc (o:=ob 58 ((pcl p))) l9 R9 h9;clear R9 h9 l9)|((with_reducible refine gB 46 2 ?_);refine bx 46 (.tmp 2) (mc m) ?_;intro b5 w9 l9 R9 h9;replace N:=N.alloc (o:=ob 46 ((mc m))) l9 R9 h9;clear R9 h9 l9)|((with_reducible refine gA 151 ?_);refine qd7 rfl rfl ?_;intro b7 w9 l9 R9 h9;replace N:=N.alloc (o:=ob 151 #[.nilFunc]) l9 R9 h9;clear R9 h9 l9)|((with_reducible refine gS 151 7 10 ?_);refine qd6 (N.row 0 rfl) rfl (.tmp 7) (.tmp 10) rfl rfl _ _ _ rfl ?_;intro w9 R9 t9;replace N:=N.turn 0 rfl R9 t9;clear R9 t9)|(go_at_call 97;go_fit (CF _ _ N.nat _ _ _ (N.row 0 rfl) (N.row 1 rfl) (N.row 2 rfl));rintro e w5 ⟨rfl,hb5⟩;replace N:=N.below hb5;clear hb5;clear c0;have c0:=N.nat.cellLoose;rw[HLO.out] at c0;have ck:World.cell? _ ⟨b7,0,none⟩=some (.func (.func 138) #[] #[.pointer (some ⟨b5,0,none⟩),.pointer (some ⟨b4,0,none⟩)]):=((N.row 0 rfl).cell 0).trans rfl)|(go_at_call 140;go_fit (CH _ _ N.nat _ _ (N.row 1 rfl) (N.row 2 rfl));rintro e w5 ⟨rfl,hb5⟩;replace N:=N.below hb5;clear hb5 ck c0)|((with_reducible refine gL 3 36 ?_);refine fx (N.row 2 rfl) _ 0 (p.proto) ?_)|(go_at_call 133;go_fit (CU _ _ N.nat);rintro e w5 ⟨rfl,hw⟩;rw[hw];clear hw w5)|((with_reducible refine gL 46 5 ?_);refine qac 46 (.tmp 5) rfl kr b5 rfl (mc m) (N.row 1 rfl) _ underlying46 rfl (qak m) ?_)|((with_reducible refine gL 3 45 ?_);refine fx (N.row 2 rfl) _ 1 (p.src) ?_)|((with_reducible refine gL 3 47 ?_);refine fx (N.row 2 rfl) _ 2 (p.sport) ?_)|((with_reducible refine qaa (.build 48 #[(0,.tmp 44),(1,.tmp 46),(2,.tmp 48),(3,.const (.int .i64 2))]) rfl ?_);refine qo5 rfl (.tmp 44) (.tmp 46) (.tmp 48) (.const (.int .i64 2)) rfl m p.src p.sport 2 rfl rfl rfl rfl ?_)|(go_at_call 137;go_fit (CB _ _ N.nat);rintro e w5 ⟨rfl,F9,hN9,hg9,hf9⟩;(try clear c0);(try clear ck);replace N:=N.call hN9 hg9 hf9;clear hN9 hg9 hf9))
      exact sZxn42
    ·have hp2:(p.proto != 17)=true:=by simp[hp]
     rw[if_pos (by simp[hp])]
     clear hf hlo hp CU hnow hbg hfew hk
     go_enter func104,ntmps104
     go_wp2_with (first|((with_reducible refine gB 58 1 ?_);refine bx 58 (.tmp 1) (pcl p) ?_;intro b4 w9 l9 R9 h9;replace N:=N.alloc (o:=ob 58 ((pcl p))) l9 R9 h9;clear R9 h9 l9)|((with_reducible refine gB 46 2 ?_);refine bx 46 (.tmp 2) (mc m) ?_;intro b5 w9 l9 R9 h9;replace N:=N.alloc (o:=ob 46 ((mc m))) l9 R9 h9;clear R9 h9 l9)|((with_reducible refine gA 151 ?_);refine qd7 rfl rfl ?_;intro b7 w9 l9 R9 h9;replace N:=N.alloc (o:=ob 151 #[.nilFunc]) l9 R9 h9;clear R9 h9 l9)|((with_reducible refine gS 151 7 10 ?_);refine qd6 (N.row 0 rfl) rfl (.tmp 7) (.tmp 10) rfl rfl _ _ _ rfl ?_;intro w9 R9 t9;replace N:=N.turn 0 rfl R9 t9;clear R9 t9)|(go_at_call 97;go_fit (CF _ _ N.nat _ _ _ (N.row 0 rfl) (N.row 1 rfl) (N.row 2 rfl));rintro e w5 ⟨rfl,hb5⟩;replace N:=N.below hb5;clear hb5;clear c0;have c0:=N.nat.cellLoose;rw[HLO.out] at c0;have ck:World.cell? _ ⟨b7,0,none⟩=some (.func (.func 138) #[] #[.pointer (some ⟨b5,0,none⟩),.pointer (some ⟨b4,0,none⟩)]):=((N.row 0 rfl).cell 0).trans rfl)|(go_at_call 140;go_fit (CH _ _ N.nat _ _ (N.row 1 rfl) (N.row 2 rfl));rintro e w5 ⟨rfl,hb5⟩;replace N:=N.below hb5;clear hb5 ck c0)|((with_reducible refine gL 3 36 ?_);refine fx (N.row 2 rfl) _ 0 (p.proto) ?_))
     exact sZxn42
  | true=>
   rw[hlo] at c0
   have HLO:Hid (s.loose=true):=hlo
   rw[if_neg zm]
   by_cases hp:p.proto=17
   ·have hp2:(p.proto != 17)=false:=by simp[hp]
    cases hu:s.full with
    | true=>
     rw[hu] at CU
     rw[if_pos zm]
     clear hf hlo hp hu hnow hbg hfew
     go_enter func104,ntmps104
     go_wp2_with (first|((with_reducible refine gB 58 1 ?_);refine bx 58 (.tmp 1) (pcl p) ?_;intro b4 w9 l9 R9 h9;replace N:=N.alloc (o:=ob 58 ((pcl p))) l9 R9 h9;clear R9 h9 l9)|((with_reducible refine gB 46 2 ?_);refine bx 46 (.tmp 2) (mc m) ?_;intro b5 w9 l9 R9 h9;replace N:=N.alloc (o:=ob 46 ((mc m))) l9 R9 h9;clear R9 h9 l9)|((with_reducible refine gA 151 ?_);refine qd7 rfl rfl ?_;intro b7 w9 l9 R9 h9;replace N:=N.alloc (o:=ob 151 #[.nilFunc]) l9 R9 h9;clear R9 h9 l9)|((with_reducible refine gS 151 7 10 ?_);refine qd6 (N.row 0 rfl) rfl (.tmp 7) (.tmp 10) rfl rfl _ _ _ rfl ?_;intro w9 R9 t9;replace N:=N.turn 0 rfl R9 t9;clear R9 t9)|(go_at_call 97;go_fit (CF _ _ N.nat _ _ _ (N.row 0 rfl) (N.row 1 rfl) (N.row 2 rfl));rintro e w5 ⟨rfl,hb5⟩;replace N:=N.below hb5;clear hb5;clear c0;have c0:=N.nat.cellLoose;rw[HLO.out] at c0;have ck:World.cell? _ ⟨b7,0,none⟩=some (.func (.func 138) #[] #[.pointer (some ⟨b5,0,none⟩),.pointer (some ⟨b4,0,none⟩)]):=((N.row 0 rfl).cell 0).trans rfl)|((with_reducible refine gL 3 36 ?_);refine fx (N.row 2 rfl) _ 0 (p.proto) ?_)|(go_at_call 133;go_fit (CU _ _ N.nat);rintro e w5 ⟨rfl,hw⟩;rw[hw];clear hw w5))
     exact sZxn42
    | false=>
     rw[hu] at CU
     rw[if_neg (by simp[hp])]
     have CB:=fun W F (hN:qaw W b s (duF s.fs) F)=>qlz hN (mkF m p.src p.sport 2) hfew hbg hnow
     clear hf hlo hp hu hnow hbg hfew
     go_enter func104,ntmps104
     go_wp2_with (first|((with_reducible refine gB 58 1 ?_);refine bx 58 (.tmp 1) (pcl p) ?_;intro b4 w9 l9 R9 h9;replace N:=N.alloc (o:=ob 58 ((pcl p))) l9 R9 h9;clear R9 h9 l9)|((with_reducible refine gB 46 2 ?_);refine bx 46 (.tmp 2) (mc m) ?_;intro b5 w9 l9 R9 h9;replace N:=N.alloc (o:=ob 46 ((mc m))) l9 R9 h9;clear R9 h9 l9)|((with_reducible refine gA 151 ?_);refine qd7 rfl rfl ?_;intro b7 w9 l9 R9 h9;replace N:=N.alloc (o:=ob 151 #[.nilFunc]) l9 R9 h9;clear R9 h9 l9)|((with_reducible refine gS 151 7 10 ?_);refine qd6 (N.row 0 rfl) rfl (.tmp 7) (.tmp 10) rfl rfl _ _ _ rfl ?_;intro w9 R9 t9;replace N:=N.turn 0 rfl R9 t9;clear R9 t9)|(go_at_call 97;go_fit (CF _ _ N.nat _ _ _ (N.row 0 rfl) (N.row 1 rfl) (N.row 2 rfl));rintro e w5 ⟨rfl,hb5⟩;replace N:=N.below hb5;clear hb5;clear c0;have c0:=N.nat.cellLoose;rw[HLO.out] at c0;have ck:World.cell? _ ⟨b7,0,none⟩=some (.func (.func 138) #[] #[.pointer (some ⟨b5,0,none⟩),.pointer (some ⟨b4,0,none⟩)]):=((N.row 0 rfl).cell 0).trans rfl)|((with_reducible refine gL 3 36 ?_);refine fx (N.row 2 rfl) _ 0 (p.proto) ?_)|(go_at_call 133;go_fit (CU _ _ N.nat);rintro e w5 ⟨rfl,hw⟩;rw[hw];clear hw w5)|((with_reducible refine gL 46 5 ?_);refine qac 46 (.tmp 5) rfl kr b5 rfl (mc m) (N.row 1 rfl) _ underlying46 rfl (qak m) ?_)|((with_reducible refine gL 3 45 ?_);refine fx (N.row 2 rfl) _ 1 (p.src) ?_)|((with_reducible refine gL 3 47 ?_);refine fx (N.row 2 rfl) _ 2 (p.sport) ?_)|((with_reducible refine qaa (.build 48 #[(0,.tmp 44),(1,.tmp 46),(2,.tmp 48),(3,.const (.int .i64 2))]) rfl ?_);refine qo5 rfl (.tmp 44) (.tmp 46) (.tmp 48) (.const (.int .i64 2)) rfl m p.src p.sport 2 rfl rfl rfl rfl ?_)|(go_at_call 137;go_fit (CB _ _ N.nat);rintro e w5 ⟨rfl,F9,hN9,hg9,hf9⟩;(try clear c0);(try clear ck);replace N:=N.call hN9 hg9 hf9;clear hN9 hg9 hf9))
     exact sZxn42
   ·have hp2:(p.proto != 17)=true:=by simp[hp]
    rw[if_pos (by simp[hp])]
    clear hf hlo hp CU hnow hbg hfew
    go_enter func104,ntmps104
    go_wp2_with (first|((with_reducible refine gB 58 1 ?_);refine bx 58 (.tmp 1) (pcl p) ?_;intro b4 w9 l9 R9 h9;replace N:=N.alloc (o:=ob 58 ((pcl p))) l9 R9 h9;clear R9 h9 l9)|((with_reducible refine gB 46 2 ?_);refine bx 46 (.tmp 2) (mc m) ?_;intro b5 w9 l9 R9 h9;replace N:=N.alloc (o:=ob 46 ((mc m))) l9 R9 h9;clear R9 h9 l9)|((with_reducible refine gA 151 ?_);refine qd7 rfl rfl ?_;intro b7 w9 l9 R9 h9;replace N:=N.alloc (o:=ob 151 #[.nilFunc]) l9 R9 h9;clear R9 h9 l9)|((with_reducible refine gS 151 7 10 ?_);refine qd6 (N.row 0 rfl) rfl (.tmp 7) (.tmp 10) rfl rfl _ _ _ rfl ?_;intro w9 R9 t9;replace N:=N.turn 0 rfl R9 t9;clear R9 t9)|(go_at_call 97;go_fit (CF _ _ N.nat _ _ _ (N.row 0 rfl) (N.row 1 rfl) (N.row 2 rfl));rintro e w5 ⟨rfl,hb5⟩;replace N:=N.below hb5;clear hb5;clear c0;have c0:=N.nat.cellLoose;rw[HLO.out] at c0;have ck:World.cell? _ ⟨b7,0,none⟩=some (.func (.func 138) #[] #[.pointer (some ⟨b5,0,none⟩),.pointer (some ⟨b4,0,none⟩)]):=((N.row 0 rfl).cell 0).trans rfl)|((with_reducible refine gL 3 36 ?_);refine fx (N.row 2 rfl) _ 0 (p.proto) ?_))
    exact sZxn42
theorem sZxn44{p:Prop}(h:p:=by
 rw[HR.out]
 clear h0 h1
 go_enter func103,ntmps103
 go_wp2
 go_ret2
 exact⟨rfl,rfl⟩):p:=h
theorem qop(x:Int)(w:World)(h0:0<=x)(h1:x<=4294967295):Calls prog 103 #[.int .i64 x] w fun e w'=>e=.returned (.tuple #[.int .i64 (x-3405803777),.bool (decide (0<=x-3405803777/\x-3405803777<3))])/\w'=w:=by
 have hw:wrap64 (x-3405803777)=x-3405803777:=by unfold wrap64;omega
 by_cases ha:0<=x-3405803777
 ·by_cases hb:x-3405803777<3
  ·have HR:Hid (decide (0<=x-3405803777/\x-3405803777<3)=true):=hidN (decide_eq_true ⟨ha,hb⟩)
   have d1:decide (0<=x-3405803777)=true:=decide_eq_true ha
   have d2:decide (x-3405803777<3)=true:=decide_eq_true hb
   exact sZxn44
  ·have HR:Hid (decide (0<=x-3405803777/\x-3405803777<3)=false):=hidN (decide_eq_false (fun h=>hb h.2))
   have d1:decide (0<=x-3405803777)=true:=decide_eq_true ha
   have d2:decide (x-3405803777<3)=false:=decide_eq_false hb
   exact sZxn44
 ·have HR:Hid (decide (0<=x-3405803777/\x-3405803777<3)=false):=hidN (decide_eq_false (fun h=>ha h.1))
  have d1:decide (0<=x-3405803777)=false:=decide_eq_false ha
  exact sZxn44
theorem sZxn43{p:Prop}(h:p:=by
 rw[HR.out]
 clear h0 h1
 go_enter func96,ntmps96
 go_wp2
 go_ret2
 exact⟨rfl,rfl⟩):p:=h
theorem qsh(x:Int)(w:World)(h0:0<=x)(h1:x<=4294967295):Calls prog 96 #[.int .i64 x] w fun e w'=>e=.returned (.tuple #[.int .i64 (x-167772161),.bool (decide (0<=x-167772161/\x-167772161<8))])/\w'=w:=by
 have hw:wrap64 (x-167772161)=x-167772161:=by unfold wrap64;omega
 by_cases ha:0<=x-167772161
 ·by_cases hb:x-167772161<8
  ·have HR:Hid (decide (0<=x-167772161/\x-167772161<8)=true):=hidN (decide_eq_true ⟨ha,hb⟩)
   have d1:decide (0<=x-167772161)=true:=decide_eq_true ha
   have d2:decide (x-167772161<8)=true:=decide_eq_true hb
   exact sZxn43
  ·have HR:Hid (decide (0<=x-167772161/\x-167772161<8)=false):=hidN (decide_eq_false (fun h=>hb h.2))
   have d1:decide (0<=x-167772161)=true:=decide_eq_true ha
   have d2:decide (x-167772161<8)=false:=decide_eq_false hb
   exact sZxn43
 ·have HR:Hid (decide (0<=x-167772161/\x-167772161<8)=false):=hidN (decide_eq_false (fun h=>ha h.1))
  have d1:decide (0<=x-167772161)=false:=decide_eq_false ha
  exact sZxn43
theorem qqk{l:List UInt8}(h:bad l=0):good (qam l)=0:=by
 unfold bad at h
 by_cases h1:qcw l≠0
 ·rw[if_pos h1] at h;exact absurd h h1
 ·rw[if_neg h1] at h
  by_cases h2:qcx l (byt l 9)≠0
  ·rw[if_pos h2] at h;exact absurd h h2
  ·rw[if_neg h2] at h;exact h
theorem q2d(l:List UInt8)(proto:Int):(qgf l proto).length=l.length:=by unfold qgf;simp
theorem q6l(l:List UInt8)(proto side addr port:Int):(spun l proto side addr port).length=l.length:=by
 unfold spun qg8
 split
 ·rw[q2d];simp[aged]
 ·simp[aged]
theorem qy4(l:List UInt8)(side addr port:Int):(qc5 l side addr port).size<=l.length:=by
 unfold qc5
 split
 ·rw[qck,q6l];exact Nat.le_refl _
 ·simp
theorem qaw.table{w:World}{b:Nat}{s:Nt}{tm:Int->Option Int}{F:Nat->Prop}(h:qaw w b s tm F):∃v,w.rangeAt b 4 (tc s.f s.g s.h v).toList/\qaz w v s.ms/\qcs v/\(0<s.ms.length->F (mb v)):=by
 obtain⟨cs,v,ov,fm,D,Fw,cnt,M,hF⟩:=h
 refine⟨v,fun j u hu=>?_,M.maps,M.nil,fun h0=>hF _ (.inr (.inr (.inr ⟨h0,rfl⟩)))⟩
 have hj:j<30:=by have:=(List.getElem?_eq_some_iff.1 hu).1;simpa[qcr] using this
 rw[M.cell,M.ct j hj]
 simpa using hu
theorem qcj(f:Nat->Int)(g:Nat->Bool)(h:Nat->Int)(sl:Value):(prog.info? 39).map (·.size)=some (tc f g h sl).toList.length:=by kernel_rfl
theorem qax{o:Oper}{a:Act}{w:World}{K:Act->World->Prop}{Q:Exit->Act->World->Prop}(t:TypeId)(ho:o.op=.alloc t)(cs:Array Value)(hz:∀w:World,(zeroValue t).run prog w=.ok (.agg cs) w)(hr:∀b w',w.heap.size<=b->Row t w' b cs->Below w.heap.size w w'->K (a.put o.dst (.pointer (some ⟨b,0,none⟩))) w'):o.wp prog a w K Q:=by
 have h':=hr w.heap.size (w.alloc (.cells cs t)) (Nat.le_refl _) (Row.new t w cs) ((Below.refl _ _).alloc (Nat.le_refl _) _)
 unfold Oper.wp execOp
 simp[ho,Instr.alloc,newVar,hz w,Result.andThen,Value.cells]
 simp[go_sem]
 exact h'
theorem qgx(p:Pkt):pv p=.agg (pcl p):=rfl
theorem qbs(w:World):(zeroValue 58).run prog w=.ok (.agg (pcl p0)) w:=by kernel_rfl
theorem qb3(p:Pkt):(pcl p).all (·.oneCell')=true:=by kernel_rfl
end Go.Proofs.YtnicenfgemkdnaaGreatDoor
