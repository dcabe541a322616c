/-
  Of what a law stands on.
-/
import Derived.Test.YtnkpgdejagglaaaGreatDoorZyn2
set_option linter.all false
namespace Go.Proofs.YtnkpgdejagglaaaGreatDoor
open _root_.Go renaming Operand->aU,Value->ag,World->af,execOp->bG,undef->gW,wpList->aM,wpList_plain->bP,zeroValue->eM
open _root_.Go.Proofs.Tryz renaming prog->ah
open Go.Value renaming int → I,pointer → V
open Go.IntKind renaming i64 → Z
open _root_.Go.Proofs.Tryz Go.ChangeShapes Go.WideShapes Go.ChangeAt Go.RowKit Go.Maps
set_option maxHeartbeats 16000000
set_option maxRecDepth 100000
variable {ops:Array Oper}{rest:List Oper}{o:Oper}{a:Act}{W w w0:World}{Q:Exit->Act->World->Prop}{b:Nat}{s:Nt}{tm:Int->Option Int}{F F0:Nat->Prop}{L:List (Nat×Obj)}{p:Prop}
def qfn(N:Nb w0 W b s tm F0 F L)(hgd:o.guard=none)(x y:aU)(ho:o.op=.store 3 x y)(hx:a.eval x=V (some ⟨b,1,none⟩))(n:Nat)(hy:a.eval y=I Z (n:Int))(hr:∀W' F',Nb w0 W' b { s with acts:=n } tm F0 F' L->aM ah ops Q rest (a.put o.dst gW) W'):aM ah ops Q (o::rest) a W:=by
 obtain⟨cs,v,ov,fm,D,Fw,cnt,M,hF⟩:=id N.nat;refine wF M.row hgd x y ho 1 hx (n:Int) hy _ M.c1 _ rfl ?_;intro w' R T
 exact hr w' _ (N.call ⟨_,_,_,_,_,_,_,M.Gd n R T,hF⟩ ((tj T).mono (fun c hc=>hF c (.inl (hc▸M.yN)))) (fun c hc=>.inl hc))
def cC.pV(h:cC w b s tm F):w.cell? ⟨b,1,none⟩=some (I Z (s.acts:Int)):=by
 obtain⟨cs,v,ov,fm,D,Fw,cnt,M,hF⟩:=h
 exact(M.cell 1).trans M.c1
def qn2(N:Nb w0 W b s tm F0 F L)(hgd:o.guard=none)(x y:aU)(ho:o.op=.store 3 x y)(hx:a.eval x=V (some ⟨b,2,none⟩))(n:Nat)(hy:a.eval y=I Z (n:Int))(hr:∀W' F',Nb w0 W' b { s with left:=n } tm F0 F' L->aM ah ops Q rest (a.put o.dst gW) W'):aM ah ops Q (o::rest) a W:=by
 obtain⟨cs,v,ov,fm,D,Fw,cnt,M,hF⟩:=id N.nat;refine wF M.row hgd x y ho 2 hx (n:Int) hy _ M.c2 _ rfl ?_;intro w' R T
 exact hr w' _ (N.call ⟨_,_,_,_,_,_,_,M.Ge n R T,hF⟩ ((tj T).mono (fun c hc=>hF c (.inl (hc▸M.yN)))) (fun c hc=>.inl hc))
def cC.jX(h:cC w b s tm F):w.cell? ⟨b,2,none⟩=some (I Z (s.left:Int)):=by
 obtain⟨cs,v,ov,fm,D,Fw,cnt,M,hF⟩:=h
 exact(M.cell 2).trans M.c2
def qmd(N:Nb w0 W b s tm F0 F L)(hgd:o.guard=none)(x y:aU)(ho:o.op=.store 3 x y)(hx:a.eval x=V (some ⟨b,3,none⟩))(n:Nat)(hy:a.eval y=I Z (n:Int))(hr:∀W' F',Nb w0 W' b { s with logged:=n } tm F0 F' L->aM ah ops Q rest (a.put o.dst gW) W'):aM ah ops Q (o::rest) a W:=by
 obtain⟨cs,v,ov,fm,D,Fw,cnt,M,hF⟩:=id N.nat;refine wF M.row hgd x y ho 3 hx (n:Int) hy _ M.c3 _ rfl ?_;intro w' R T
 exact hr w' _ (N.call ⟨_,_,_,_,_,_,_,M.yO n R T,hF⟩ ((tj T).mono (fun c hc=>hF c (.inl (hc▸M.yN)))) (fun c hc=>.inl hc))
def cC.mN(h:cC w b s tm F):w.cell? ⟨b,3,none⟩=some (I Z (s.logged:Int)):=by
 obtain⟨cs,v,ov,fm,D,Fw,cnt,M,hF⟩:=h
 exact(M.cell 3).trans M.c3
def ur(r:Rp):(ah.info? 29).map (·.size)=some r.cells.size:=by kernel_rfl
def qah(r:Rp):r.cells.all (·.oneCell')=true:=by kernel_rfl
theorem q4s(c:Int)(fr:ByteArray)(w:af):(Instr.build 29 #[(0,I Z c),(1,.string fr),(2,.bool true)]).run ah w=.ok (.agg (Rp.cells ⟨c,fr,true,ByteArray.empty⟩)) w:=by kernel_rfl
def qdd(x y:aU)(hgd:o.guard=none)(ho:o.op=.build 29 #[(0,x),(1,y),(2,.const (.bool true))])(c:Int)(fr:ByteArray)(hx:a.eval x=I Z c)(hy:a.eval y=.string fr)(hr:aM ah ops Q rest (a.put o.dst (.agg (Rp.cells ⟨c,fr,true,ByteArray.empty⟩))) w):aM ah ops Q (o::rest) a w:=
 bP hgd fun K hK=>by
  have hz:a.eval (.const (.bool true))=.bool true:=rfl
  unfold Oper.wp bG
  simp only[ho,List.map_toArray,List.map_nil,List.map_cons,hx,hy,hz,Sem.run_bind,q4s,Result.andThen_ok,Sem.run_pure]
  exact hK _ _ hr
def qar(r q:Rp):r.cells.size=q.cells.size:=rfl
def EB(w:af):(eM 29).run ah w=.ok (.agg (eZ 0).cells) w:=by kernel_rfl
def qp6(h:cC w b s tm F)(fr:ByteArray)(hs:fr.size<=140737488351232)(oI:s.left<=100)(why:Int):Calls prog 73 #[V (some ⟨b,0,none⟩),.string fr,I Z why] w fun e w'=>e=.returned (.agg (s.refuse fr.data.toList why).1.cells)/\∃F',cC w' b (s.refuse fr.data.toList why).2 tm F'/\Gr F w w'/\∀c,F' c->F c\/w.heap.size<=c:=by
 have N:=h.start;(have CR:=fun w=>qzs fr (s.left:Int) w hs);(have CF:=fun w=>xp why w)
 rw[←EM] at CF
 have c2:=h.jX
 unfold Nt.refuse
 by_cases h0:s.left=0
 .rw[aZ h0];have HZ:Hid (s.left=0):=h0
  rw[h0] at c2
  clear h0 CR hs
  go_enter func73,ntmps73
  go_wp2_with (first|(refine gA 29 ?_;refine Wz ?_;clear N;intro b6 w9 N;clear c2;have c2:=N.nat.jX;(try rw[HZ.out] at c2))|(go_at_call 15;go_fit (CF _);refine tE ?_;clear N;intro w5 N)|(refine gS 29 6 15 ?_;refine sx ((eZ why).cells) (N.row 0 rfl) ?_;refine oH ?_;clear N;intro w9 N))
  (refine bodyPost_ret (mW (p:=6) rfl _ _ _ _ rfl (N.row 0 rfl) _ underlying29 rfl (ur _)) rfl ⟨rfl,_,N.nat,N.gr,N.sub⟩)
 .rw[aT h0];(have hz:((s.left:Int)==0)=false:=by simp;omega);(have hw:wrap64 ((s.left:Int)-1)=(s.left:Int)-1:=by unfold wrap64;omega);have HV:Hid ((s.left:Int)-1=((s.left-1:Nat):Int)):=ar om;clear h0 CF oI hs
  go_enter func73,ntmps73
  go_wp2_with (first|(refine gA 29 ?_;refine Wz ?_;clear N;intro b6 w9 N;clear c2;have c2:=N.nat.jX)|(go_at_call 134;go_fit (CR _);rintro e w5 ⟨rfl,bh⟩;clear CR;replace N:=N.below bh;clear bh;clear c2;have c2:=N.nat.jX)|(refine gS 3 31 29 ?_;refine qn2 N rfl (.tmp 31) (.tmp 29) rfl rfl (s.left-1) (by first|(rw[hw];exact congrArg (Value.int .i64) HV.out) ) ?_;clear N c2;intro w9 F9 N)|((with_reducible refine iE (.build 29 #[(0,.tmp 32),(1,.tmp 33),(2,.const (.bool true))]) rfl ?_);refine qdd (.tmp 32) (.tmp 33) rfl rfl why _ rfl rfl ?_)|(refine gS 29 6 34 ?_;refine sx (Rp.cells ⟨why,oP fr.data.toList (s.left:Int),true,ByteArray.empty⟩) (N.row 0 rfl) ?_;refine oH ?_;clear N;intro w9 N))
  (refine bodyPost_ret (mW (p:=6) rfl _ _ _ _ rfl (N.row 0 rfl) _ underlying29 rfl (ur _)) rfl ⟨rfl,_,N.nat,N.gr,N.sub⟩)
theorem q2b(es:List Ev)(n:Int)(h:es.length<=64):(qx 0 0 2 (eA 6)).size<=100/\(qy n es).size<=2000:=by
 constructor
 .unfold qx;split
  .grind [kY,qlj,qqi]
  .simp
 .unfold qy
  split
  .simp
  .split
   .simp
   .split
    .unfold qx;split
     .grind [kY,qlj,WB]
     simp
    simp
def jv.gr{w':af}(h:jv w)(hg:Gr F w w')(h0:¬F 0):jv w':=fun j v hv=>by
 have:=h j v hv
 unfold World.cell? at *
 rw[hg.block 0 h.lt h0]
 exact this
def Cu(h:p:=by
 clear h0 hn hes jr hl fh
 go_enter func45,ntmps45
 go_wp2_with (first|(go_at_call 99;go_fit (CT _ (hT.below B));rintro e w5 ⟨rfl,bh⟩;replace N:=N.below bh;replace B:=B.trans (bh.mono B.size);clear bh;clear c3;have c3:=N.nat.mN)|(go_at_call 100;go_fit (CM _ (hE.below B));rintro e w5 ⟨rfl,bh⟩;replace N:=N.below bh;replace B:=B.trans (bh.mono B.size);clear bh;clear c3;have c3:=N.nat.mN)|(refine gS 3 37 35 ?_;refine qmd N rfl (.tmp 37) (.tmp 35) rfl rfl (s.logged+n) (by first|exact congrArg (Value.int .i64) (hw.trans HV.out)) ?_;clear N c3;intro w9 F9 N))
 go_ret
 exact⟨rfl,_,HN.out▸N.nat,N.gr,N.sub⟩):p:=h
def qxx(h:cC w b s tm F)(hT:jv w)(sl:Value)(es:List Ev)(hE:fX w sl es)(hes:es.length<=64)(jr:s.logged<=100000):Calls prog 45 #[V (some ⟨b,0,none⟩),sl] w fun e w'=>e=.returned (.string (s.log es).1)/\∃F',cC w' b (s.log es).2 tm F'/\Gr F w w'/\∀c,F' c->F c\/w.heap.size<=c:=by
 have N:=h.start;have B:=Below.refl w.heap.size w;(have CT:=fun w hT=>qu3 0 w hT);(have CM:=fun w hE=>qwm (s.logged:Int) sl es w hE)
 unfold jU at CT
 unfold jy at CM
 obtain⟨z1,z2⟩:=q2b es (s.logged:Int) hes;have c3:=h.mN;obtain⟨a0,cap,dB⟩:=hE.slice
 obtain⟨n,hn⟩:∃n,n=es.length:=⟨_,rfl⟩
 have HN:Hid (n=es.length):=hn
 rw[←hn] at dB
 subst dB
 unfold Nt.log
 rw[←hn]
 by_cases h0:n=0
 .rw[aZ h0]
  subst h0
  clear hn CT CM c3
  go_enter func45,ntmps45
  go_wp2
  go_ret
  exact⟨rfl,_,N.nat,N.gr,N.sub⟩
 .rw[aT h0];(have hz:((n:Int)==0)=false:=by simp;omega);refine m6e ?_;intro hw HV
  generalize qx 0 0 2 (eA 6)=T0 at *
  generalize fh:qy (s.logged:Int) es=M0 at *
  by_cases hl:s.logged=0
  .rw[aZ hl];(have hz3:((s.logged:Int)==0)=true:=by simp[hl])
   exact Cu
  .rw[aT hl];(have hz3:((s.logged:Int)==0)=false:=by simp;omega)
   exact Cu
def qd7(hgd:o.guard=none)(ho:o.op=.alloc 83)(hr:∀b w',w.heap.size<=b->aP 83 w' b #[.nilFunc]->Below w.heap.size w w'->aM ah ops Q rest (a.put o.dst (V (some ⟨b,0,none⟩))) w'):aM ah ops Q (o::rest) a w:=
 bP hgd fun K hK=>by
  have h':=hr w.heap.size (w.alloc (.cells #[.nilFunc] 83)) (Nat.le_refl _) (aP.new 83 w _) ((Below.refl _ _).alloc (Nat.le_refl _) _);(have hz:(eM 83).run ah w=.ok .nilFunc w:=by kernel_rfl)
  unfold Oper.wp bG
  simp[ho,Instr.alloc,newVar,hz,Result.andThen,Value.cells]
  simp[go_sem]
  exact hK _ _ h'
def qd6{old:ag}(R:aP 83 w b #[old])(hgd:o.guard=none)(x y:aU)(ho:o.op=.store 83 x y)(hx:a.eval x=V (some ⟨b,0,none⟩))(f:Fn)(c d:Array ag)(hy:a.eval y=.func f c d)(hr:∀w',aP 83 w' b #[.func f c d]->gG b w w'->aM ah ops Q rest (a.put o.dst gW) w'):aM ah ops Q (o::rest) a w:=
 bP hgd fun K hK=>by
  have hcell:=(R.cell 0).trans (show(#[old]:Array ag)[0]?=some old from rfl);have oB:=R.free 0
  unfold Oper.wp bG
  simp only[ho,hx,hy]
  simp[go_sem,hcell,oB,underlying83]
  (have hst:(store ⟨b,0,none⟩ (.func f c d)).run ah w=.ok () (w.setCell ⟨b,0,none⟩ (.func f c d)):=by have:=run_store ah w ⟨b,0,none⟩ (.func f c d);simp[hcell,oB,Value.oneCell'] at this;first|exact this|exact this _|simpa using this);rw[hst]
  exact hK _ _ (hr _ (by simpa using R.set (o:=0) (v:=.func f c d)) (GL _ _ _ _))
theorem qx7(m:Mp)(x y z:Int)(w:af):(Instr.build 75 #[(0,.agg (mc m)),(1,I Z x),(2,I Z y),(3,I Z z)]).run ah w=.ok (.agg (fc (eV m x y z))) w:=by kernel_rfl
def qo5(hgd:o.guard=none)(p q r u:aU)(ho:o.op=.build 75 #[(0,p),(1,q),(2,r),(3,u)])(m:Mp)(x y z:Int)(h1:a.eval p=.agg (mc m))(h2:a.eval q=I Z x)(h3:a.eval r=I Z y)(h4:a.eval u=I Z z)(hr:aM ah ops Q rest (a.put o.dst (.agg (fc (eV m x y z)))) w):aM ah ops Q (o::rest) a w:=
 bP hgd fun K hK=>by
  unfold Oper.wp bG
  simp only[ho,List.map_toArray,List.map_nil,List.map_cons,h1,h2,h3,h4,Sem.run_bind,qx7,Result.andThen_ok,Sem.run_pure]
  exact hK _ _ hr
def cC.oq(h:cC w b s tm F):w.cell? ⟨b,0,none⟩=some (.bool s.loose):=by
 obtain⟨cs,v,ov,fm,D,Fw,cnt,M,hF⟩:=h
 exact(M.cell 0).trans M.c0
def TG{P:Fl->Bool}{x:Nat×Fl}(h:s.find P=some x):x∈s.fs/\P x.2=true:=⟨List.mem_of_find?_eq_some h,List.find?_some (p:=fun y:Nat×Fl=>P y.2) h⟩
def lH(h:p:=by
 go_enter func39,ntmps39
 go_wp2_with (first|(refine gB 77 1 ?_;refine bx 77 (.tmp 1) (dm p) ?_;intro b4 w9 l9 R9 h9;replace N:=N.alloc (o:=ob 77 ((dm p))) l9 R9 h9;clear R9 h9 l9)|(refine gB 72 2 ?_;refine bx 72 (.tmp 2) (mc m) ?_;intro b5 w9 l9 R9 h9;replace N:=N.alloc (o:=ob 72 ((mc m))) l9 R9 h9;clear R9 h9 l9)|(refine gA 83 ?_;refine qd7 rfl rfl ?_;intro b7 w9 l9 R9 h9;replace N:=N.alloc (o:=ob 83 #[.nilFunc]) l9 R9 h9;clear R9 h9 l9)|(refine gS 83 7 10 ?_;refine qd6 (N.row 0 rfl) rfl (.tmp 7) (.tmp 10) rfl rfl _ _ _ rfl ?_;refine oH ?_;clear N;intro w9 N)|(go_at_call 31;go_fit (CF _ _ N.nat _ _ _ (N.row 0 rfl) (N.row 1 rfl) (N.row 2 rfl));refine tE ?_;clear N;intro w5 N;clear c0;have c0:=N.nat.oq;rw[Wd.out] at c0;refine m4x ?_;intro ck)|(go_at_call 80;go_fit (CH _ _ N.nat _ _ (N.row 1 rfl) (N.row 2 rfl));rintro e w5 ⟨rfl,bh⟩;replace N:=N.below bh;clear bh ck c0)|(refine gL 3 36 ?_;refine fx (N.row 2 rfl) (p.ae) ?_)|(go_at_call 72;go_fit (CU _ _ N.nat);refine qX ?_)|(refine gL 72 5 ?_;refine qf 72 (.tmp 5) rfl kr b5 rfl (mc m) (N.row 1 rfl) _ underlying72 rfl (lS m) ?_)|(refine gL 3 45 ?_;refine fx (N.row 2 rfl) (p.src) ?_)|(refine gL 3 47 ?_;refine fx (N.row 2 rfl) (p.aj) ?_)|((with_reducible refine iE (.build 75 #[(0,.tmp 44),(1,.tmp 46),(2,.tmp 48),(3,.const (I Z 2))]) rfl ?_);refine qo5 rfl (.tmp 44) (.tmp 46) (.tmp 48) (.const (I Z 2)) rfl m p.src p.aj 2 rfl rfl rfl rfl ?_)|(go_at_call 76;go_fit (CB _ _ N.nat);rintro e w5 ⟨rfl,F9,fY,dX,fH⟩;(try clear c0);(try clear ck);replace N:=N.call fY dX fH;clear fY dX fH)|(go_at_call 31;go_fit (CF _ _ N.nat _ _ _ (N.row 0 rfl) (N.row 1 rfl) (N.row 2 rfl));refine tE ?_;clear N;intro w5 N;clear c0;have c0:=N.nat.oq;refine m4x ?_;intro ck)|(refine gL 77 4 ?_;refine qf 77 (.tmp 4) rfl kr b4 rfl (dm p) (N.row 2 rfl) _ underlying77 rfl (NJ p) ?_)|(go_at_call 33;go_fit (CG _ _ N.nat);rintro e w5 ⟨rfl,F9,fY,dX,fH⟩;clear c0 ck;replace N:=N.call fY dX fH;clear fY dX fH))
 go_ret
 exact⟨rfl,_,N.nat,N.gr,N.sub⟩):p:=h
def q4i(h:cC w b s (dI s.fs) F)(p:bM)(m:Mp)(dn:0<=s.now/\s.now<=549755813888)(hbg:s.began<700)(dU:s.fs.length<400):Calls prog 39 #[V (some ⟨b,0,none⟩),.agg (dm p),.agg (mc m)] w fun e w'=>e=.returned (I Z (s.dK p m).1)/\∃F',cC w' b (s.dK p m).2 (dI (s.dK p m).2.fs) F'/\Gr F w w'/\∀c,F' c->F c\/w.heap.size<=c:=by
 have N:=h.start;(have CF:=fun W F (hN:cC W b s (dI s.fs) F) bk bm bp Rk Rm Rp=>q7t hN p m bk bm bp Rk Rm Rp);(have CH:=fun W F (hN:cC W b s (dI s.fs) F) bm bp Rm Rp=>q33 hN p m bm bp Rm Rp);(have CU:=fun W F (hN:cC W b s (dI s.fs) F)=>qlu hN);(have hmf:∀(fn:Fn) (first cap:Array Value) (w:World),(Instr.makeFunc fn first cap).run prog w=.ok (.func fn first cap) w:=fun _ _ _ _=>rfl);have c0:=h.oq
 unfold Nt.dK
 cases hf:s.find (lC p m) with
 | some x=>
  have hx:=TG hf;(have CG:=fun W F (hN:cC W b s (dI s.fs) F)=>qvy hN hx.1 p true dn)
  rw[hf] at CF
  unfold EN at CF
  simp only
  clear hx hf CH CU dn hbg dU
  exact lH
 | none=>
  rw[hf] at CF
  unfold EN at CF
  simp only
  cases uu:s.loose with
  | false=>
   rw[uu] at c0
   have Wd:Hid (s.loose=false):=uu
   cases hk:s.find (lD p m) with
   | none=>
    rw[hk] at CH
    simp only[Option.isSome_none] at CH
    rw[aZ (by rfl)];clear hf uu hk CU dn hbg dU
    exact lH
   | some y=>
    rw[hk] at CH
    simp only[Option.isSome_some] at CH
    rw[aT zm]
    by_cases hp:p.ae=17
    ·(have EH:(p.ae != 17)=false:=by simp[hp])
     cases hu:s.full with
     | true=>
      rw[hu] at CU
      rw[aZ zm];clear hf uu hp hu dn hbg dU hk
      exact lH
     | false=>
      rw[hu] at CU
      rw[aT (by simp[hp])]
      (have CB:=fun W F (hN:cC W b s (dI s.fs) F)=>qlz hN (eV m p.src p.aj 2) dU hbg dn);clear hf uu hp hu dn hbg dU hk
      exact lH
    ·(have EH:(p.ae != 17)=true:=by simp[hp])
     rw[aZ (by simp[hp])]
     clear hf uu hp CU dn hbg dU hk
     exact lH
  | true=>
   rw[uu] at c0
   have Wd:Hid (s.loose=true):=uu;rw[aT zm]
   by_cases hp:p.ae=17
   ·(have EH:(p.ae != 17)=false:=by simp[hp])
    cases hu:s.full with
    | true=>
     rw[hu] at CU
     rw[aZ zm];clear hf uu hp hu dn hbg dU
     exact lH
    | false=>
     rw[hu] at CU
     rw[aT (by simp[hp])]
     (have CB:=fun W F (hN:cC W b s (dI s.fs) F)=>qlz hN (eV m p.src p.aj 2) dU hbg dn);clear hf uu hp hu dn hbg dU
     exact lH
   ·(have EH:(p.ae != 17)=true:=by simp[hp])
    rw[aZ (by simp[hp])]
    clear hf uu hp CU dn hbg dU
    exact lH
def wb(h:p:=by
 rw[HR.out];clear h0 h1
 go_enter func37,ntmps37
 go_wp2
 go_ret2
 exact⟨rfl,rfl⟩):p:=h
def qop(x:Int)(w:af)(h0:0<=x)(h1:x<=4294967295):Calls ah 37 #[I Z x] w fun e w'=>e=.returned (.tuple #[I Z (x-3405803777),.bool (decide (0<=x-3405803777/\x-3405803777<3))])/\w'=w:=by
 (have hw:wrap64 (x-3405803777)=x-3405803777:=by unfold wrap64;omega)
 by_cases ha:0<=x-3405803777
 .by_cases hb:x-3405803777<3
  .have HR:Hid (decide (0<=x-3405803777/\x-3405803777<3)=true):=ar (decide_eq_true ⟨ha,hb⟩);have d1:decide (0<=x-3405803777)=true:=decide_eq_true ha;have d2:decide (x-3405803777<3)=true:=decide_eq_true hb
   exact wb
  .have HR:Hid (decide (0<=x-3405803777/\x-3405803777<3)=false):=ar (decide_eq_false (fun h=>hb h.2));have d1:decide (0<=x-3405803777)=true:=decide_eq_true ha;have d2:decide (x-3405803777<3)=false:=decide_eq_false hb
   exact wb
 .have HR:Hid (decide (0<=x-3405803777/\x-3405803777<3)=false):=ar (decide_eq_false (fun h=>ha h.1));have d1:decide (0<=x-3405803777)=false:=decide_eq_false ha
  exact wb
def wh(h:p:=by
 rw[HR.out];clear h0 h1
 go_enter func30,ntmps30
 go_wp2
 go_ret2
 exact⟨rfl,rfl⟩):p:=h
def qsh(x:Int)(w:af)(h0:0<=x)(h1:x<=4294967295):Calls ah 30 #[I Z x] w fun e w'=>e=.returned (.tuple #[I Z (x-167772161),.bool (decide (0<=x-167772161/\x-167772161<8))])/\w'=w:=by
 (have hw:wrap64 (x-167772161)=x-167772161:=by unfold wrap64;omega)
 by_cases ha:0<=x-167772161
 .by_cases hb:x-167772161<8
  .have HR:Hid (decide (0<=x-167772161/\x-167772161<8)=true):=ar (decide_eq_true ⟨ha,hb⟩);have d1:decide (0<=x-167772161)=true:=decide_eq_true ha;have d2:decide (x-167772161<8)=true:=decide_eq_true hb
   exact wh
  .have HR:Hid (decide (0<=x-167772161/\x-167772161<8)=false):=ar (decide_eq_false (fun h=>hb h.2));have d1:decide (0<=x-167772161)=true:=decide_eq_true ha;have d2:decide (x-167772161<8)=false:=decide_eq_false hb
   exact wh
 .have HR:Hid (decide (0<=x-167772161/\x-167772161<8)=false):=ar (decide_eq_false (fun h=>ha h.1));have d1:decide (0<=x-167772161)=false:=decide_eq_false ha
  exact wh
theorem Sr{l:List UInt8}(h:cj l=0):good (ba l)=0:=by grind [cj,good,ba]
theorem q2d(l:List UInt8)(ae:Int):(A3 l ae).length=l.length:=by unfold A3;simp
theorem q6l(l:List UInt8)(ae side addr port:Int):(rZ l ae side addr port).length=l.length:=by
 unfold rZ Fy
 split
 .rw[q2d];simp[ue]
 simp
theorem qy4(l:List UInt8)(side addr port:Int):(nI l side addr port).size<=l.length:=by
 unfold nI
 split
 .grind [kY,q6l]
 .simp
theorem cC.table(h:cC w b s tm F):∃v,w.rangeAt b 4 (tc s.f s.g s.h v).toList/\cE w v s.ms/\jw v/\(0<s.ms.length->F (mb v)):=by
 obtain⟨cs,v,ov,fm,D,Fw,cnt,M,hF⟩:=h
 refine⟨v,fun j u hu=>?_,M.maps,M.nil,fun h0=>hF _ (.inr (.inr (.inr ⟨h0,rfl⟩)))⟩
 (have hj:j<30:=by have:=(List.getElem?_eq_some_iff.1 hu).1;simpa[ze] using this);rw[M.cell,M.ct j hj]
 grind
def Il(f:Nat->Int)(g:Nat->Bool)(h:Nat->Int)(sl:ag):(ah.info? 42).map (·.size)=some (tc f g h sl).toList.length:=by kernel_rfl
def Ng{K:Act->af->Prop}(t:TypeId)(ho:o.op=.alloc t)(cs:Array ag)(hz:∀w:af,(eM t).run ah w=.ok (.agg cs) w)(hr:∀b w',w.heap.size<=b->aP t w' b cs->Below w.heap.size w w'->K (a.put o.dst (V (some ⟨b,0,none⟩))) w'):o.wp ah a w K Q:=by
 have h':=hr w.heap.size (w.alloc (.cells cs t)) (Nat.le_refl _) (aP.new t w cs) ((Below.refl _ _).alloc (Nat.le_refl _) _)
 unfold Oper.wp bG
 simp[ho,Instr.alloc,newVar,hz w,Result.andThen,Value.cells]
 simp[go_sem]
 exact h'
theorem qgx(p:bM):pv p=.agg (dm p):=rfl
def VR(w:af):(eM 77).run ah w=.ok (.agg (dm p0)) w:=by kernel_rfl
def qb3(p:bM):(dm p).all (·.oneCell')=true:=by kernel_rfl
end Go.Proofs.YtnkpgdejagglaaaGreatDoor
