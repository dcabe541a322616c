/-
  Of what a law stands on.
-/
import Derived.Test.YtonnjgmognbnbaaGreatDoorZtt1
import Derived.Test.YtonnjgmognbnbaaGreatDoorZti3
import Derived.Test.YtonnjgmognbnbaaGreatDoorZtd4
import Derived.Test.YtonnjgmognbnbaaGreatDoorZtr1
import Derived.Test.YtonnjgmognbnbaaGreatDoorZtw2
set_option linter.unusedSimpArgs false
set_option linter.unusedVariables false
namespace Go.Proofs.YtonnjgmognbnbaaGreatDoor
open Go.Value renaming int → I,pointer → V
open Go.IntKind renaming i64 → Z
open _root_.Go.Proofs.Tryz Go.ChangeShapes Go.WideShapes Go.ChangeAt Go.RowKit
set_option maxHeartbeats 16000000
set_option maxRecDepth 100000
variable {H:Type}{w w':World}{b base c cnt j n size:Nat}{sp:Nat->Bool}{held:Bool}{v:Value}{ops:Array Oper}{rest:List Oper}{o:Oper}{a:Act}{Q:Exit->Act->World->Prop}{k:Fl}{D:DataW Unit}{R:Value->Option (DataW Unit×List MemPlace)}{cs cs':Array Value}{e t:TypeId}{xs:List Value}{ms:List Mp}{now:Int}{du tm:Int->Option Int}{F G:Nat->Prop}{p:Prop}{x:Nat×Fl}
theorem qvmb(f:Nat->Int)(g:Nat->Bool)(h:Nat->Int)(sl sl2:Value)(ms:List Mp)(hwF:wfF f)(hwH:wfH h)(w:World)(hM:qaz w sl ms)(hM2:qaz w sl2 ms):
  Calls prog 20 #[.agg (tc f g h sl),.agg (tc f g h sl2)] w fun e w'=>e=.returned (.bool true)/\Below w.heap.size w w':=by
 refine m2a ?_;intro hB;have hM0:=hM
 obtain⟨a0,cap,hsl,-⟩:=hM0
 obtain⟨n,hn⟩:∃n,n=ms.length:=⟨_,rfl⟩
 rw[←hn] at hsl
 subst hsl
 refine m4n ?_;clear hn;intro HN hlt;have hlt2:=hM2.lt
 obtain⟨a1,c1,hsl2,-⟩:=id hM2
 rw[←HN.out] at hsl2
 subst hsl2
 (have hnn:((n:Int) != (n:Int))=false:=by simp)
 go_enter func20,ntmps20
 go_wp2_with (first|((with_reducible refine gB 39 0 ?_);refine m9j ?_;intro b2 w1 l2 R2 hb1;refine m5a ?_;clear hB;intro hB)|((with_reducible refine gB 39 1 ?_);refine m4w ?_;clear R2 hB;intro b3 w1 l3 R3 hb1 R2 hB hp2 hp3 hh2 hh3 k2 k3)|((with_reducible refine gL 35 6 ?_);refine m8t ?_;refine m2h ?_)|((with_reducible refine gL 35 8 ?_);refine m8u ?_;refine m2h ?_)|((with_reducible refine qaa (.binOp .neq 35 (.tmp 7) (.tmp 9) 35) rfl ?_);refine m8n ?_)|((with_reducible refine gL 36 12 ?_);refine qi3 36 (.tmp 12) rfl ?_ b2 21 rfl (hcl h) hh2 _ underlying36 rfl (qfd _) ?_;· kernel_rfl)|((with_reducible refine gL 36 14 ?_);refine qi3 36 (.tmp 14) rfl ?_ b3 21 rfl (hcl h) hh3 _ underlying36 rfl (qfd _) ?_;· kernel_rfl)|((with_reducible refine qaa (.binOp .neq 36 (.tmp 13) (.tmp 15) 36) rfl ?_);refine qk0 36 (.tmp 13) (.tmp 15) rfl ?_ (hc8 h) (hc8 h) kr kr eqGuardType36 _ false (qmy h h hwH hwH _) (by rw[q2m];rfl) ?_;· kernel_rfl))
 clear hp2 hp3 hh2 hh3 k2 k3
 go_loopw [30] (fun i W=>∃j:Nat,j<=ms.length/\i=I Z j/\Below w.heap.size w W/\Row 39 W b2 (tc f g h (.slice a0 n cap))/\Row 39 W b3 (tc f g h (.slice a1 n c1))) (fun i _=>n-(intOf i).toNat)
 case atStart=>exact⟨0,by omega,rfl,hB,R2,R3⟩
 case round=>
  clear hB R2 R3
  obtain⟨j,hj,rfl,hB,R2,R3⟩:=hrel
  have k2:World.cell? _ ⟨b2,29,none⟩=some (.slice a0 n cap):=(R2.cell 29).trans (qdw _ _ _ _)
  by_cases hlj:j<ms.length
  ·refine m3l ?_;intro hjn hjw
   obtain⟨o,hm⟩:∃o,ms[j]=o:=⟨_,rfl⟩
   have r2:=(hM.keep hB hlt).at j hlj hm;have r3:=(hM2.keep hB hlt2).at j hlj hm;(have I2:=fun w2=>qrs hM j hlj w2);(have I3:=fun w2=>qrs hM2 j hlj w2);clear hm
   go_upto_region 6 with fail
   clear k2
   refine RD (fun W=>Row 39 W b2 (tc f g h (.slice a0 n cap))/\Row 39 W b3 (tc f g h (.slice a1 n c1))/\W.rangeAt (mb (.slice a0 n cap)) (mo (.slice a0 n cap)+5*j) (mcl o)/\W.rangeAt (mb (.slice a1 n c1)) (mo (.slice a1 n c1)+5*j) (mcl o)) ⟨R2,R3,r2,r3⟩ (fun _=>?_)
   refine m42 ?_
   refine tk 3 (V (some ⟨mb (.slice a0 n cap),mo (.slice a0 n cap)+5*j,none⟩)) rfl (qn6 (.tmp 34) (.tmp 35) rfl kr _ _ _ kr kr I2) ⟨R2,R3,r2,r3⟩ (tk 4 (.agg (mcl o).toArray) rfl (qgw 50 (.tmp 36) rfl kr _ _ kr (mcl o) (fun _ h=>h.2.2.1) _ underlying50 rfl (qby o)) ⟨R2,R3,r2,r3⟩ (tq 5 (V (some ⟨b3,29,none⟩)) rfl ⟨R2,R3,r2,r3⟩ ?_))
   refine m5i ?_;(refine tk 6 (.slice a1 n c1) rfl (Or.inl ⟨by kernel_rfl,by intro w hS;have hc:=(hS.2.1.cell 29).trans (qdw _ _ _ _);go_simp⟩) ⟨R2,R3,r2,r3⟩ (tq 7 (I Z (j:Int)) rfl ⟨R2,R3,r2,r3⟩ (tk 8 (V (some ⟨mb (.slice a1 n c1),mo (.slice a1 n c1)+5*j,none⟩)) rfl (qn6 (.tmp 39) (.tmp 40) rfl kr _ _ _ kr kr I3) ⟨R2,R3,r2,r3⟩ ?_)));refine m5i ?_
   refine tk 9 (.agg (mcl o).toArray) rfl (qgw 50 (.tmp 41) rfl kr _ _ kr (mcl o) (fun _ h=>h.2.2.2) _ underlying50 rfl (qby o)) ⟨R2,R3,r2,r3⟩ (tk 10 (.bool false) rfl (qry 50 (.tmp 37) (.tmp 42) rfl kr (mc o) (mc o) kr kr eqGuardType50 _ _ (fun w=>qkb o o w) zm) ⟨R2,R3,r2,r3⟩ ?_)
   refine m1f ?_;replace R2:Row 39 (World.drew _) b2 _:=R2;replace R3:Row 39 (World.drew _) b3 _:=R3;replace hB:=qpv hB
   go_wp2
   go_roundw
   case rel=>first|exact⟨j+1,by omega,by go_num,hB,R2,R3⟩|((repeat apply Exists.intro);exact⟨⟨j+1,by omega,by go_num,hB,R2,R3⟩,rfl⟩)
   case measure=>(first|rw[hjw]|skip);exact qek (HN.out.symm▸hlj)
  ·refine m6c ?_;intro hjn;clear hj hlj
   go_wp2
   go_ret
   exact⟨rfl,hB⟩
structure Ac where
 kd:Int
 n:Int
 dr:Int
 fr:ByteArray
def ac(k:Ac):Array Value:=#[I Z k.kd,I Z k.n,I Z k.dr,.string k.fr]
def Ac.wf(k:Ac):Prop:=(Lit.int .i64 k.kd).wf=true/\(Lit.int .i64 k.n).wf=true/\(Lit.int .i64 k.dr).wf=true/\k.fr.size<=maxLen
def Ac.ok(k:Ac):Prop:=(Lit.int .i64 k.kd).wf=true/\(Lit.int .i64 k.n).wf=true/\(Lit.int .i64 k.dr).wf=true/\k.fr.size<=140737488351232
def ad(H:Type)(k:Ac):DataW H:=.agg [.lit (.int .i64 k.kd),.lit (.int .i64 k.n),.lit (.int .i64 k.dr),.lit (.string k.fr.data.toList)]
theorem qva{enc:TypeId×Value->H}{r:Reach}{b0:Nat}{d:DataW H}{ps:List MemPlace}(hval:Value.okWide prog w r b0 23 v)(hd:DataW.Trod enc prog w base sp held 23 v d ps)(hw:∀y∈d.weights prog 23,y<=reachBytes):∃k:Ac,v=.agg (ac k)/\d=ad H k/\ps=[]/\k.wf/\k.ok:=by
 (have hc:prog.cellsOf 23=4:=by kernel_rfl);refine m8p ?_;intro hcI hcS
 obtain⟨cs,rfl,hcs⟩:=okWide_struct underlying23 hval
 obtain⟨fuel,hf⟩:=hd
 obtain⟨ys,m,_,hx,_,hl,hf⟩:=DataW.trod_struct underlying23 hf
 rw[hc] at hcs
 obtain⟨l⟩:=cs
 match l,hcs with
 | [c0,c1,c2,c3],_=>
 match ys,hl with
 | [y0,y1,y2,y3],_=>
 have hy0:=hf 0 _ rfl;have hy1:=hf 1 _ rfl;have hy2:=hf 2 _ rfl;have hy3:=hf 3 _ rfl
 simp[hcI,hcS,Value.cells] at hy0 hy1 hy2 hy3
 obtain⟨n0,e0,rfl,s0⟩:=DataW.trod_int underlying3 hy0
 obtain⟨n1,e1,rfl,s1⟩:=DataW.trod_int underlying3 hy1
 obtain⟨n2,e2,rfl,s2⟩:=DataW.trod_int underlying3 hy2
 obtain⟨n3,e3,rfl,s3⟩:=DataW.trod_string underlying9 hy3
 simp at e0 e1 e2 e3
 subst e0 e1 e2 e3
 simp at hx
 obtain⟨rfl,rfl⟩:=hx
 refine⟨⟨n0,n1,n2,n3⟩,rfl,rfl,rfl,⟨s0,s1,s2,s3⟩,s0,s1,s2,?_⟩
 have:=hw n3.data.toList.length (by simp[DataW.weights,DataW.weightsEach,underlying23])
 simpa[reachBytes] using this
theorem qui{enc:TypeId×Value->H}{k:Ac}(hw:k.wf):DataW.Trod enc prog w base sp held 23 (.agg (ac k)) (ad H k) []:=by
 (have hc:prog.cellsOf 23=4:=by kernel_rfl);refine m8p ?_;intro hcI hcS;obtain⟨s0,s1,s2,s3⟩:=hw
 exact⟨2,by simp[DataW.trod,Value.cells,ac,ad,underlying23,underlying3,underlying9,hc,hcI,hcS,s0,s1,s2,s3]⟩
def rcN(c:Int)(fr:ByteArray)(inn:Bool)(lg:ByteArray):Array Value:=#[I Z c,.string fr,.bool inn,.string lg]
def rc0(c:Int):Array Value:=#[I Z c,.string ByteArray.empty,.bool false,.string ByteArray.empty]
theorem qyt(w:World):(zeroValue 27).run prog w=.ok (.agg (rc0 0)) w:=by kernel_rfl
theorem qp0(n:Int)(w:World):(Instr.build 27 #[(0,I Z n)]).run prog w=.ok (.agg (rc0 n)) w:=by kernel_rfl
theorem qzg(n:Int):(prog.info? 27).map (·.size)=some (rc0 n).size:=by kernel_rfl
theorem qx9b(n:Int)(w:World):(Op.equalIn 10000 27 (.agg (rc0 n)) (.agg (rc0 n))).run prog w=.ok true w:=by
 rw[show(10000:Nat)=9999+1 from rfl,run_equalIn_struct w 9999 27 _ _ kr kr]
 unfold rc0
 simp[go_sem,underlying27,underlying25,underlying9,underlying4]
theorem qt8(t:TypeId)(x:Operand)(ho:o.op=.build t #[(0,x)])(hw:Region.wanted o (yielded ops a.tmps)=true)(u v:Value)(hx:a.eval x=u)(hrun:∀w:World,(Instr.build t #[(0,u)]).run prog w=.ok v w)(hr:wpList prog ops Q rest (a.put o.dst v) w):wpList prog ops Q (o::rest) a w:=
 wpList_step fun K hK=>by
  rw[if_pos hw]
  unfold Oper.wp execOp
  simp only[ho,List.map_toArray,List.map_nil,List.map_cons,hx,Sem.run_bind,hrun w,Result.andThen_ok,Sem.run_pure]
  exact hK _ _ hr
theorem qx2b(t:TypeId)(ho:o.op=.build t #[])(hw:Region.wanted o (yielded ops a.tmps)=true)(v:Value)(hrun:∀w:World,(Instr.build t #[]).run prog w=.ok v w)(hr:wpList prog ops Q rest (a.put o.dst v) w):wpList prog ops Q (o::rest) a w:=
 wpList_step fun K hK=>by
  rw[if_pos hw]
  unfold Oper.wp execOp
  simp only[ho,Array.map_empty,List.map_toArray,List.map_nil,Sem.run_bind,hrun w,Result.andThen_ok,Sem.run_pure]
  exact hK _ _ hr
def tz:Array Value:=tc (fun _=>0) (fun _=>false) (fun _=>0) (.slice none 0 0)
theorem qbp(w:World):(zeroValue 39).run prog w=.ok (.agg tz) w:=by kernel_rfl
theorem qx3b(w:World):(Instr.build 39 #[]).run prog w=.ok (.agg tz) w:=by kernel_rfl
theorem qx4b:(prog.info? 39).map (·.size)=some tz.size:=by kernel_rfl
theorem qybb:tz.all (·.oneCell')=true:=by kernel_rfl
theorem qdj(n:Int)(w:World):Calls prog 53 #[I Z n] w fun e w'=>e=.returned (.agg (rc0 n))/\Below w.heap.size w w':=by
 refine m2a ?_;intro hB
 go_enter func53,ntmps53
 go_wp2_with (first|((with_reducible refine gA 27 ?_);refine ay 27 qyt ?_;intro b2 w2 l2 R2 hb2;replace l2:=Nat.le_trans hB.size l2;replace hB:=hB.trans (hb2.mono hB.size))|((with_reducible refine qaa (.build 27 #[(0,.tmp 3)]) rfl ?_);refine qt8 27 (.tmp 3) rfl rfl (I Z n) (.agg (rc0 n)) kr (qp0 n) ?_)|((with_reducible refine gS 27 2 4 ?_);refine sx 27 _ _ (rc0 n) R2 ?_;intro w3 R3 t3;replace hB:=t3.below _ _ l2 hB))
 refine m03 ?_
 refine bodyPost_ret (qai (p:=2) rfl _ _ _ _ rfl R3 _ underlying27 rfl (qzg n)) rfl ⟨rfl,hB⟩
theorem qyab(a:Ac)(w:World):Calls prog 18 #[V none,.agg (ac a)] w fun e w'=>e=.returned (.agg (rc0 7))/\Below w.heap.size w w':=by
 refine m2a ?_;intro hB;(have CF:=fun w=>qdj 7 w)
 go_enter func18,ntmps18
 go_wp2_with (first|((with_reducible refine gB 23 1 ?_);refine m4v ?_;intro b1 w1 l1 R1 hb1;refine m5a ?_;clear hB;intro hB)|((with_reducible refine gA 27 ?_);refine ay 27 qyt ?_;intro b2 w2 l2 R2 hb2;replace l2:=Nat.le_trans hB.size l2;replace hB:=hB.trans (hb2.mono hB.size))|(go_at_call 53;go_fit (CF _);rintro e w5 ⟨rfl,hb5⟩;replace R2:=R2.below hb5;refine m2s ?_;clear hB;intro hB)|((with_reducible refine gS 27 4 7 ?_);refine sx 27 _ _ (rc0 7) R2 ?_;intro w3 R3 t3;replace hB:=t3.below _ _ l2 hB))
 refine m03 ?_
 refine bodyPost_ret (qai (p:=4) rfl _ _ _ _ rfl R3 _ underlying27 rfl (qzg 7)) rfl ⟨rfl,hB⟩
theorem qx5b(w:World):Calls prog 19 #[V none] w fun e w'=>e=.returned (I Z 0)/\w'=w:=by
 go_enter func19,ntmps19
 go_wp2
 go_ret
 exact⟨rfl,rfl⟩
theorem qx6b(w:World):Calls prog 22 #[V none] w fun e w'=>e=.returned (.slice none 0 0)/\w'=w:=by
 go_enter func22,ntmps22
 go_wp2
 go_ret
 exact⟨rfl,rfl⟩
theorem qx7b(w:World):Calls prog 21 #[V none] w fun e w'=>e=.returned (.agg tz)/\Below w.heap.size w w':=by
 refine m2a ?_;intro hB
 go_enter func21,ntmps21
 go_wp2_with (first|((with_reducible refine gA 39 ?_);refine ay 39 qbp ?_;intro b2 w2 l2 R2 hb2;replace l2:=Nat.le_trans hB.size l2;replace hB:=hB.trans (hb2.mono hB.size))|((with_reducible refine qaa (.build 39 #[]) rfl ?_);refine qx2b 39 rfl rfl (.agg tz) qx3b ?_)|((with_reducible refine gS 39 2 6 ?_);refine sx 39 _ _ tz R2 ?_;intro w3 R3 t3;replace hB:=t3.below _ _ l2 hB))
 refine m03 ?_
 refine bodyPost_ret (qai (p:=2) rfl _ _ _ _ rfl R3 _ underlying39 rfl qx4b) rfl ⟨rfl,hB⟩
theorem qx8b(w:World):Calls prog 20 #[.agg tz,.agg tz] w fun e w'=>e=.returned (.bool true)/\Below w.heap.size w w':=by
 unfold tz
 exact qvmb _ _ _ _ _ [] (fun _ _=>rfl) (fun _ _=>rfl) w (qaz.nil w) (qaz.nil w)
structure Nt where
 loose:Bool
 acts:Nat
 left:Nat
 logged:Nat
 f:Nat->Int
 g:Nat->Bool
 h:Nat->Int
 ms:List Mp
 fs:List (Nat×Fl)
 began:Nat
 now:Int
def nt0(loose:Bool):Nt:=⟨loose,0,4,0,fun _=>0,fun _=>false,fun _=>0,[],[],0,0⟩
structure Rp where
 code:Int
 fr:ByteArray
 inn:Bool
 lg:ByteArray
def Rp.cells(r:Rp):Array Value:=rcN r.code r.fr r.inn r.lg
def qas(e:Int):Rp:=⟨e,ByteArray.empty,false,ByteArray.empty⟩
theorem qdo(e:Int):(qas e).cells=rc0 e:=rfl
def flM(k:Fl):Mp:=(k.pr,k.s,k.i,k.a,k.port)
def mkF(m:Mp)(rem rp st:Int):Fl:=⟨m.1,m.2.1,m.2.2.1,m.2.2.2.1,m.2.2.2.2,rem,rp,st,0,0⟩
def Nt.find(s:Nt)(P:Fl->Bool):Option (Nat×Fl):=s.fs.find? fun x=>P x.2
def Nt.full(s:Nt):Bool:=decide (48<=s.fs.length)
def setF(fs:List (Nat×Fl))(n:Nat)(k:Fl):List (Nat×Fl):=fs.map fun x=>if x.1=n then(n,k) else x
def Nt.keep(s:Nt)(n:Nat)(k:Fl):Nt:={ s with fs:=setF s.fs n k }
def dueF(s:Nt)(k:Fl):Fl:={ k with du:=s.now+qb0 k.pr k.st }
def Nt.begin(s:Nt)(k:Fl):Nt:={ s with fs:=s.fs++[(s.began+1,dueF s k)],began:=s.began+1 }
def qey(p:Pkt)(m:Mp)(k:Fl):Bool:=flM k==m&&k.rem==p.src
def qio(p:Pkt)(m:Mp)(k:Fl):Bool:=qey p m k&&k.rp==p.sport
def qf0(m:Mp)(k:Fl):Bool:=flM k==m
def Nt.letIn(s:Nt)(p:Pkt)(m:Mp):Int×Nt:=
 match s.find (qio p m) with
 | some x=>(0,s.keep x.1 (qcu x.2 p.flags true s.now))
 | none=>if (!s.loose&&(s.find (qey p m)).isNone)=true then(11,s) else if (p.proto != 17||s.full)=true then(11,s) else(0,s.begin (mkF m p.src p.sport 2))
def Nt.inn(s:Nt)(l:List UInt8):Rp×Nt:=
 if bad l≠0 then(qas (bad l),s) else
 if ¬(0<=(qam l).dst-3405803777/\(qam l).dst-3405803777<3) then(qas 7,s) else
 if ((qam l).proto==1&&(qam l).flags != 0)=true then(qas 4,s) else
 if (qam l).ttl=1 then(qas 12,s) else
 match s.ms.find? (outS (qam l).proto ((qam l).dst-3405803777) (qam l).dport) with
 | none=>(qas 7,s)
 | some m=>
  if (s.letIn (qam l) m).1≠0 then(qas (s.letIn (qam l) m).1,(s.letIn (qam l) m).2) else
  (⟨qcb l 1 (167772161+m.2.1) m.2.2.1,qc5 l 1 (167772161+m.2.1) m.2.2.1,true,ByteArray.empty⟩,(s.letIn (qam l) m).2)
def Nt.leave(s:Nt)(l:List UInt8)(k:Fl):Rp×Nt:=
 if 0<=k.rem-3405803777/\k.rem-3405803777<3 then s.inn (qc5 l 0 (3405803777+k.a) k.port).data.toList
 else(⟨qcb l 0 (3405803777+k.a) k.port,qc5 l 0 (3405803777+k.a) k.port,false,ByteArray.empty⟩,s)
def Nt.refuse(s:Nt)(l:List UInt8)(why:Int):Rp×Nt:=
 if s.left=0 then(qas why,s) else(⟨why,refS l (s.left:Int),true,ByteArray.empty⟩,{ s with left:=s.left-1 })
def evN(now:Int)(m:Mp)(free:Bool):Ev:=⟨now,m.2.1,m.2.2.2.1,(m.2.2.2.2-1024)/8,free⟩
def Nt.log(s:Nt)(es:List Ev):ByteArray×Nt:=
 if es.length=0 then(ByteArray.empty,s) else((if s.logged=0 then msgT 0 0 2 (tplB 6) else ByteArray.empty)++mesT (s.logged:Int) es,{ s with logged:=s.logged+es.length })
structure OpR where
 e:Int
 f:Nat->Int
 h:Nat->Int
 ms:List Mp
 m:Mp
 took:Bool
def qjy.dec(f h:Nat->Int)(ms:List Mp)(p s i:Int):Decidable (qjy f h ms p s i):=
 have:DecidablePred (qdb f h):=fun m=>by unfold qdb;exact inferInstance
 have:Decidable (MsOk f h ms):=by unfold MsOk;exact inferInstance
 have:Decidable (qbq f h ms):=decidable_of_iff _ ql6.symm
 by unfold qjy;exact inferInstance
def qba(f:Nat->Int)(g:Nat->Bool)(h:Nat->Int)(ms:List Mp)(p s i d:Int):OpR:=
 @ite OpR (qjy f h ms p s i) (qjy.dec f h ms p s i)
  (match ms.find? (inS p s i) with
  | some m=>⟨0,f,h,ms,m,false⟩
  | none=>
   if cntM ms s=12 then⟨6,f,h,ms,noM,false⟩ else
   if (qbe f g h ms p s d).e≠0 then⟨(qbe f g h ms p s d).e,f,h,ms,noM,false⟩ else
   ⟨0,(qbe f g h ms p s d).f,(qbe f g h ms p s d).h,ms++[(p,s,i,(qbe f g h ms p s d).h s.toNat-1,(qbe f g h ms p s d).q)],(p,s,i,(qbe f g h ms p s d).h s.toNat-1,(qbe f g h ms p s d).q),(qbe f g h ms p s d).took⟩)
  ⟨2,f,h,ms,noM,false⟩
def Nt.setT(s:Nt)(f h:Nat->Int)(ms:List Mp):Nt:={ s with f:=f,h:=h,ms:=ms }
def Nt.first(s:Nt)(l:List UInt8)(p:Pkt)(sub draw:Int):Rp×Nt:=
 if s.full=true then s.refuse l 6 else
 let o:=qba s.f s.g s.h s.ms p.proto sub p.sport draw
 if o.e≠0 then s.refuse l o.e else
 let k:=mkF o.m p.dst p.dport (qao p.proto)
 let r:=((s.setT o.f o.h o.ms).begin k).leave l k
 if o.took=true then(⟨r.1.code,r.1.fr,r.1.inn,(r.2.log [evN r.2.now o.m false]).1⟩,(r.2.log [evN r.2.now o.m false]).2) else r
def outF(p:Pkt)(sub:Int)(k:Fl):Bool:=k.pr==p.proto&&k.s==sub&&k.i==p.sport&&k.rem==p.dst&&k.rp==p.dport
def Nt.out(s:Nt)(l:List UInt8)(draw:Int):Rp×Nt:=
 if bad l≠0 then(qas (bad l),s) else
 if ¬(0<=(qam l).src-167772161/\(qam l).src-167772161<8) then(qas 7,s) else
 if ((qam l).proto==1&&(qam l).flags != 8)=true then(qas 4,s) else
 if (qam l).ttl=1 then(qas 12,s) else
 match s.find (outF (qam l) ((qam l).src-167772161)) with
 | some x=>(s.keep x.1 (qcu x.2 (qam l).flags false s.now)).leave l (qcu x.2 (qam l).flags false s.now)
 | none=>if begB (qam l)=false then(qas 11,s) else s.first l (qam l) ((qam l).src-167772161) draw
def duF(fs:List (Nat×Fl)):Int->Option Int:=fun i=>(fs.find? fun x=>decide ((x.1:Int)=i)).map (·.2.du)
def Nt.dueL(s:Nt)(t:Int):List Int:=qcc (dz (duF s.fs)) ((s.fs.filter fun x=>decide (x.2.du<=t)).map fun x=>(x.1:Int))
def Nt.endF(s:Nt)(i:Int):Mp×Nt:=(((s.fs.find? fun x=>decide ((x.1:Int)=i)).map fun x=>flM x.2).getD noM,{ s with fs:=s.fs.filter fun x=>decide ((x.1:Int)≠i) })
def qe1(f h:Nat->Int)(ms:List Mp)(m:Mp):(Nat->Int)×(Nat->Int)×Bool:=
 if (qa6 ms m).any (fun o=>qa7 o==qa7 m)=true then(f,h,false) else(qdx f m,qux f h m,true)
def Nt.closeU(s:Nt)(m:Mp):Bool×Nt:=
 if (s.find (qf0 m)).isSome=true then(false,s) else((qe1 s.f s.h s.ms m).2.2,s.setT (qe1 s.f s.h s.ms m).1 (qe1 s.f s.h s.ms m).2.1 (qa6 s.ms m))
def qeg(a:List Ev×Nt)(i:Int):List Ev×Nt:=
 (if ((a.2.endF i).2.closeU (a.2.endF i).1).1=true then a.1++[evN ((a.2.endF i).2.closeU (a.2.endF i).1).2.now (a.2.endF i).1 true] else a.1,((a.2.endF i).2.closeU (a.2.endF i).1).2)
def Nt.tick(s:Nt)(n:Int):Rp×Nt:=
 if n<1\/549755813888-s.now<n then(qas 2,s) else
 let r:=(s.dueL (s.now+n)).foldl qeg ([],{ s with left:=min (s.left+n.toNat) 4,now:=s.now+n })
 (⟨0,ByteArray.empty,false,(r.2.log r.1).1⟩,(r.2.log r.1).2)
def Nt.drain(s:Nt)(a:Int)(b:Bool):Rp×Nt:=(qas (qfu s.g a b),{ s with g:=qg3 s.g a b })
def Nt.act(s:Nt)(a:Ac):Rp×Nt:=
 if 300<=s.acts then(qas 6,s) else
 let t:={ s with acts:=s.acts+1 }
 if a.kd=1 then t.out a.fr.data.toList a.dr else if a.kd=2 then t.inn a.fr.data.toList else if a.kd=3 then t.tick a.n else if a.kd=4 then t.drain a.n true else if a.kd=5 then t.drain a.n false else(qas 4,t)
section
open Go.Maps
theorem q9v{j:Fl}(h:fd Unit k=fd Unit j):k=j:=by
 cases k;cases j;simp[fd] at h;obtain⟨⟨h0,h1,h2,h3,h4⟩,h5,h6,h7,h8,h9⟩:=h;subst h0 h1 h2 h3 h4 h5 h6 h7 h8 h9;rfl
def isI:Value->Bool
 | I Z _=>true
 | _=>false
def zI:Value->Int
 | .int _ n=>n
 | _=>0
def flZ(v:Nat->Value):Fl:=⟨zI (v 0),zI (v 1),zI (v 2),zI (v 3),zI (v 4),zI (v 5),zI (v 6),zI (v 7),zI (v 8),zI (v 9)⟩
theorem qxob(h:isI v=true):v=I Z (zI v):=by
 unfold isI at h
 split at h
 ·rfl
 ·cases h
def qc9(v:Value):Option (DataW Unit×List MemPlace):=match v with
 | .agg cs=>if cs.size=10/\cs.all isI=true then some (fd Unit (flZ fun i=>cs.getD i undef),[]) else none
 | _=>none
theorem qgm(k:Fl):qc9 (.agg (fc k))=some (fd Unit k,[]):=by kernel_rfl
theorem qol{ps:List MemPlace}(h:qc9 v=some (fd Unit k,ps)):v=.agg (fc k):=by
 unfold qc9 at h
 split at h
 ·rename_i cs
  split at h
  ·rename_i hc
   obtain rfl:=q9v (Prod.ext_iff.1 (Option.some.inj h)).1
   obtain⟨h1,h2⟩:=hc
   rw[Array.all_eq_true] at h2
   unfold fc flZ
   congr 1
   refine Array.ext h1 fun i q _=>?_
   rw[qxob (h2 i q)]
   have:i<10:=by omega
   rcases i with _|_|_|_|_|_|_|_|_|_|i<;>first|omega|simp[Array.getD,q]
  ·cases h
 ·cases h
def fl0:Fl:=⟨0,0,0,0,0,0,0,0,0,0⟩
theorem qbr(w:World):(zeroValue 52).run prog w=.ok (.agg (fc fl0)) w:=by kernel_rfl
def fsF(fs:List (Nat×Fl)):Int->Option Fl:=fun i=>(fs.find? fun x=>decide ((x.1:Int)=i)).map (·.2)
structure qgy(D:DataW Unit)(fl:Int->Option Fl):Prop where
 tidy:Tidy D
 has:∀i,Maps.has D (kI i)=(fl i).isSome
 flow:∀i,D.atKey (kI i) (fd Unit fl0)=fd Unit ((fl i).getD fl0)
def qh4(fl:Int->Option Fl)(i:Int)(k:Fl):Int->Option Fl:=fun j=>if j=i then some k else fl j
def qna(fl:Int->Option Fl)(i:Int):Int->Option Fl:=fun j=>if j=i then none else fl j
theorem qyy:qgy (.map []) (fun _=>none):=⟨tidy_empty,fun i=>rfl,fun i=>rfl⟩
theorem qgy.put{fl:Int->Option Fl}(h:qgy D fl)(i:Int)(k:Fl):qgy (D.put (kI i) (fd Unit k)) (qh4 fl i k):=by
 refine⟨h.tidy.put (qmu i) _,fun j=>?_,fun j=>?_⟩
 ·by_cases e:j=i
  ·subst e;rw[has_put_same h.tidy.isMap (qmu _)];simp[qh4]
  ·rw[has_put_other (qmc e),h.has];simp[qh4,e]
 ·by_cases e:j=i
  ·subst e;rw[atKey_put_same h.tidy.isMap (qmu _)];simp[qh4]
  ·rw[atKey_put_other (qmc e),h.flow];simp[qh4,e]
theorem qgy.del{fl:Int->Option Fl}(h:qgy D fl)(i:Int):qgy (D.del (kI i)) (qna fl i):=by
 refine⟨h.tidy.del _,fun j=>?_,fun j=>?_⟩
 ·by_cases e:j=i
  ·subst e;rw[has_del_same];simp[qna]
  ·rw[has_del_other (qmc e),h.has];simp[qna,e]
 ·by_cases e:j=i
  ·subst e;rw[atKey_del_same];simp[qna]
  ·rw[atKey_del_other (qmc e),h.flow];simp[qna,e]
abbrev MapF(w:World)(b:Nat)(D:DataW Unit):Prop:=w.ownsMap prog 3 qc9 b (Maps.size D) D
theorem qwf(h:w.ownsMap prog 3 qc9 b n D):MapF w b D:=by
 obtain⟨es,clock,h1,h2,h3,h4⟩:=h
 refine⟨es,clock,h1,h2,?_,h4⟩
 rw[h4]
 show es.size<=List.length _
 rw[length_sorted]
 simp
theorem qdy{k:TypeId}(h:w.ownsMap prog k R b n D)(he:w'.heap[b]?=w.heap[b]?):w'.ownsMap prog k R b n D:=by
 obtain⟨es,clock,hb,r⟩:=h
 exact⟨es,clock,he.trans hb,r⟩
theorem qpx{k:TypeId}(h:w.ownsMap prog k R b n D){m:Nat×Nat}(hr:w.heap[c]?=some (.cells cs t m)):b≠c:=by
 obtain⟨es,clock,hb,r⟩:=h
 intro e;subst e;rw[hb] at hr;cases hr
theorem qfc(h:w.ownsRow base e size v n xs)(hs:∀c,v.ownBlock=some c->w'.heap[c]?=w.heap[c]?):w'.ownsRow base e size v n xs:=by
 refine⟨h.1,?_⟩
 rcases h.2 with e|⟨b,cap,cur,hv,hbb,hh,r⟩
 ·exact .inl e
 ·exact .inr ⟨b,cap,cur,hv,hbb,(hs b (by rw[hv];rfl)).trans hh,r⟩
theorem qe6(h:w.ownsRow base e size v n xs)(hc:v.ownBlock=some c):∃cur m,w.heap[c]?=some (.cells cur e m):=by
 rcases h.2 with⟨e1,_⟩|⟨b,cap,cur,hv,hbb,hh,r⟩
 ·rw[e1] at hc;simp[Value.ownBlock] at hc
 ·rw[hv] at hc
  have:b=c:=Option.some.inj hc
  subst this
  exact⟨_,_,hh⟩
theorem qc4(h:qaz w v ms)(hs:0<ms.length->w'.heap[mb v]?=w.heap[mb v]?):qaz w' v ms:=by
 obtain⟨a,cap,e,h1,h2,h3⟩:=h
 refine⟨a,cap,e,h1,fun j hj i u hu=>?_,h3⟩
 have:=h2 j hj i u hu
 unfold World.cell? at *
 rw[hs om]
 exact this
theorem q41(h:qaz w v ms)(h0:0<ms.length):∃cs t m,w.heap[mb v]?=some (.cells cs t m):=by
 obtain⟨a,cap,e,h1,h2,h3⟩:=h
 have:=h2 0 h0 0 _ rfl
 unfold World.cell? at this
 cases hh:w.heap[mb v]? with
 | none=>simp[hh] at this
 | some o=>
  cases o with
  | cells cs t m=>exact⟨cs,t,m,rfl⟩
  | _=>simp[hh] at this
theorem qca.turn{o:Nat}(h:qca w b t cs o now du cnt F)(hr:w'.heap[b]?=some (.cells cs' t (0,0)))(hs:cs'.size=cs.size)(hc:∀i,o<=i->i<o+450->cs'[i]?=cs[i]?)(ho:∀c,c≠b->w'.heap[c]?=w.heap[c]?):qca w' b t cs' o now du cnt F:=by
 obtain⟨mb,D,vs,L,hW,rest⟩:=h
 refine⟨mb,D,vs,L,⟨hr,by rw[hs];exact hW.size,by rw[hc o (Nat.le_refl _) om];exact hW.c0,by rw[hc (o+1) om om];exact hW.c1,fun k hk=>by rw[hc (o+2+k) om om];exact hW.cl k hk,fun k hk=>qfc (hW.own k hk) (fun c hcc=>ho c (fun e=>hW.notb k hk (e▸hcc))),hW.nil,hW.apart,hW.notb,?_⟩,rest⟩
 rcases hW.map with h0|⟨bm,n,h1,h2,h3⟩
 ·exact .inl h0
 ·exact .inr ⟨bm,n,h1,h2,qdy h3 (ho bm (h3.ne_row hW.row))⟩
structure NatM(w:World)(b:Nat)(cs:Array Value)(v ov:Value)(fm:Option Nat)(D:DataW Unit)(Fw:Nat->Prop)(cnt:Nat)(s:Nt)(tm:Int->Option Int)(is:List Int):Prop where
 wheel:qca w b 93 cs 37 s.now tm cnt Fw
 size:cs.size=487
 c0:cs[0]?=some (.bool s.loose)
 c1:cs[1]?=some (.int .i64 (s.acts:Int))
 c2:cs[2]?=some (.int .i64 (s.left:Int))
 c3:cs[3]?=some (.int .i64 (s.logged:Int))
 ct:∀k,k<30->cs[4+k]?=(tc s.f s.g s.h v)[k]?
 c34:cs[34]?=some (.map fm)
 c35:cs[35]?=some ov
 c36:cs[36]?=some (.int .i64 (s.began:Int))
 maps:qaz w v s.ms
 nil:qcs v
 ids:Own w ov is
 flows:(fm=none/\D=.map [])\/∃bm,fm=some bm/\MapF w bm D
 reads:qgy D (fsF s.fs)
 sized:Maps.size D=s.fs.length
 few:cnt<=s.fs.length
 fmNot:∀c,fm=some c->¬Fw c
 ovNot:∀c,ov.ownBlock=some c->¬Fw c
 msNot:0<s.ms.length->¬Fw (mb v)/\ov.ownBlock≠some (mb v)
 up:s.fs.Pairwise (fun x y=>x.1<y.1)
 num:∀x∈s.fs,x.1<=s.began
 bg:s.began<=700
def FpN(Fw:Nat->Prop)(fm:Option Nat)(ov v:Value)(ms:List Mp)(c:Nat):Prop:=Fw c\/fm=some c\/ov.ownBlock=some c\/(0<ms.length/\c=mb v)
def qaw(w:World)(b:Nat)(s:Nt)(tm:Int->Option Int)(F:Nat->Prop):Prop:=
 ∃cs v ov fm D Fw cnt,NatM w b cs v ov fm D Fw cnt s tm (s.fs.map fun x=>(x.1:Int))/\∀c,FpN Fw fm ov v s.ms c->F c
section
variable {w w':World} {b:Nat} {cs cs':Array Value} {v ov:Value} {fm:Option Nat} {D:DataW Unit} {Fw:Nat->Prop} {cnt:Nat} {s:Nt} {tm:Int->Option Int} {is:List Int}
theorem NatM.row(h:NatM w b cs v ov fm D Fw cnt s tm is):Row 93 w b cs:=h.wheel.row
theorem NatM.inb(h:NatM w b cs v ov fm D Fw cnt s tm is):Fw b:=h.wheel.own
theorem NatM.keep(h:NatM w b cs v ov fm D Fw cnt s tm is)(hg:Gr G w w')(hG:∀c,FpN Fw fm ov v s.ms c->¬G c):NatM w' b cs v ov fm D Fw cnt s tm is:=by
 refine⟨h.wheel.keep hg (fun c hc=>hG c (.inl hc)),h.size,h.c0,h.c1,h.c2,h.c3,h.ct,h.c34,h.c35,h.c36,qc4 h.maps (fun h0=>hg.block _ (h.maps.lt h0) (hG _ (.inr (.inr (.inr ⟨h0,rfl⟩))))),h.nil,qfc h.ids (fun c hc=>?_),?_,h.reads,h.sized,h.few,h.fmNot,h.ovNot,h.msNot,h.up,h.num,h.bg⟩
 ·obtain⟨cur,m,hh⟩:=qe6 h.ids hc
  exact hg.block c (Array.getElem?_eq_some_iff.1 hh).1 (hG c (.inr (.inr (.inl hc))))
 ·rcases h.flows with h0|⟨bm,h1,h2⟩
  ·exact .inl h0
  ·exact .inr ⟨bm,h1,qdy h2 (hg.block bm h2.lt (hG bm (.inr (.inl h1))))⟩
theorem NatM.below(h:NatM w b cs v ov fm D Fw cnt s tm is)(hb:Below w.heap.size w w'):NatM w' b cs v ov fm D Fw cnt s tm is:=h.keep (Gr.of_below (F:=fun _=>False) hb) (fun _ _=>id)
theorem NatM.lt(h:NatM w b cs v ov fm D Fw cnt s tm is):b<w.heap.size:=h.row.lt
theorem NatM.ovb(h:NatM w b cs v ov fm D Fw cnt s tm is):ov.ownBlock≠some b:=fun e=>h.ovNot b e h.inb
theorem NatM.fmb(h:NatM w b cs v ov fm D Fw cnt s tm is):fm≠some b:=fun e=>h.fmNot b e h.inb
theorem NatM.msb(h:NatM w b cs v ov fm D Fw cnt s tm is)(h0:0<s.ms.length):mb v≠b:=fun e=>(h.msNot h0).1 (e▸h.inb)
theorem NatM.fmov(h:NatM w b cs v ov fm D Fw cnt s tm is)(hc:fm=some c):ov.ownBlock≠some c:=by
 rcases h.flows with⟨h0,_⟩|⟨bm,h1,h2⟩
 ·rw[h0] at hc;cases hc
 ·intro e;obtain⟨cur,m,hh⟩:=qe6 h.ids e
  rw[h1] at hc;cases hc
  exact qpx h2 hh rfl
theorem NatM.fmms(h:NatM w b cs v ov fm D Fw cnt s tm is)(hc:fm=some c)(h0:0<s.ms.length):mb v≠c:=by
 rcases h.flows with⟨h1,_⟩|⟨bm,h1,h2⟩
 ·rw[h1] at hc;cases hc
 ·intro e;obtain⟨cur,t,m,hh⟩:=q41 h.maps h0
  rw[h1] at hc;cases hc
  exact qpx h2 hh e.symm
end
theorem hidN(h:p):Hid p:=h
theorem qfs(m:Nat):Value.int .i64 ((m:Int)+1)=I Z ((m+1:Nat):Int):=by simp
theorem qg6{m:Nat}(h:wrap64 ((m:Int)+1)=(m:Int)+1):Value.int .i64 (wrap64 ((m:Int)+1))=I Z ((m+1:Nat):Int):=by rw[h];simp
section
variable {w w':World} {b:Nat} {cs cs':Array Value} {v ov:Value} {fm:Option Nat} {D:DataW Unit} {Fw:Nat->Prop} {cnt:Nat} {s:Nt} {tm:Int->Option Int} {is:List Int}
theorem qce(cs:Array Value)(i j:Nat)(x:Value)(h:i≠j):(cs.setIfInBounds i x)[j]?=cs[j]?:=by rw[Array.getElem?_setIfInBounds,if_neg h]
theorem qm1(cs:Array Value)(i:Nat)(x:Value)(h:i<cs.size):(cs.setIfInBounds i x)[i]?=some x:=by rw[Array.getElem?_setIfInBounds,if_pos rfl,if_pos h]
theorem NatM.cells(h:NatM w b cs v ov fm D Fw cnt s tm is)(R:Row 93 w' b cs')(T:qbl b w w')(hs:cs'.size=cs.size)(hw:∀i,4<=i->i≠36->cs'[i]?=cs[i]?)(s':Nt)(hn:s'.now=s.now)(hf:s'.f=s.f)(hg:s'.g=s.g)(hh:s'.h=s.h)(hms:s'.ms=s.ms)(hfs:s'.fs=s.fs)(c0:cs'[0]?=some (.bool s'.loose))(c1:cs'[1]?=some (I Z (s'.acts:Int)))(c2:cs'[2]?=some (I Z (s'.left:Int)))(c3:cs'[3]?=some (I Z (s'.logged:Int)))(c36:cs'[36]?=some (I Z (s'.began:Int)))(hbg:s.began<=s'.began/\s'.began<=700):NatM w' b cs' v ov fm D Fw cnt s' tm is:=by
 refine⟨?_,hs.trans h.size,c0,c1,c2,c3,fun k hk=>?_,by rw[hw 34 om om];exact h.c34,by rw[hw 35 om om];exact h.c35,c36,by rw[hms];exact qc4 h.maps (fun h0=>T.other _ (h.msb h0)),h.nil,qfc h.ids (fun c hc=>T.other c (fun e=>h.ovb (e▸hc))),?_,by rw[hfs];exact h.reads,by rw[hfs];exact h.sized,by rw[hfs];exact h.few,h.fmNot,h.ovNot,by rw[hms];exact h.msNot,by rw[hfs];exact h.up,by rw[hfs];exact fun x hx=>Nat.le_trans (h.num x hx) hbg.1,hbg.2⟩
 ·rw[hn];exact h.wheel.turn R hs (fun i h1 h2=>hw i om om) T.other
 ·rw[hw (4+k) om om,h.ct k hk,hf,hg,hh]
 ·rcases h.flows with h0|⟨bm,h1,h2⟩
  ·exact .inl h0
  ·exact .inr ⟨bm,h1,qdy h2 (T.other bm (fun e=>h.fmb (e▸h1)))⟩
theorem NatM.setActs(h:NatM w b cs v ov fm D Fw cnt s tm is)(n:Nat)(R:Row 93 w' b (cs.setIfInBounds 1 (I Z (n:Int))))(T:qbl b w w'):NatM w' b (cs.setIfInBounds 1 (I Z (n:Int))) v ov fm D Fw cnt { s with acts:=n } tm is:=
 h.cells R T zm (fun i h1 _=>qce _ _ _ _ om) _ rfl rfl rfl rfl rfl rfl ((qce _ _ _ _ om).trans h.c0) (qm1 _ _ _ (by rw[h.size];omega)) ((qce _ _ _ _ om).trans h.c2) ((qce _ _ _ _ om).trans h.c3) ((qce _ _ _ _ om).trans h.c36) ⟨Nat.le_refl _,h.bg⟩
theorem NatM.setLeft(h:NatM w b cs v ov fm D Fw cnt s tm is)(n:Nat)(R:Row 93 w' b (cs.setIfInBounds 2 (I Z (n:Int))))(T:qbl b w w'):NatM w' b (cs.setIfInBounds 2 (I Z (n:Int))) v ov fm D Fw cnt { s with left:=n } tm is:=
 h.cells R T zm (fun i h1 _=>qce _ _ _ _ om) _ rfl rfl rfl rfl rfl rfl ((qce _ _ _ _ om).trans h.c0) ((qce _ _ _ _ om).trans h.c1) (qm1 _ _ _ (by rw[h.size];omega)) ((qce _ _ _ _ om).trans h.c3) ((qce _ _ _ _ om).trans h.c36) ⟨Nat.le_refl _,h.bg⟩
theorem NatM.setLogged(h:NatM w b cs v ov fm D Fw cnt s tm is)(n:Nat)(R:Row 93 w' b (cs.setIfInBounds 3 (I Z (n:Int))))(T:qbl b w w'):NatM w' b (cs.setIfInBounds 3 (I Z (n:Int))) v ov fm D Fw cnt { s with logged:=n } tm is:=
 h.cells R T zm (fun i h1 _=>qce _ _ _ _ om) _ rfl rfl rfl rfl rfl rfl ((qce _ _ _ _ om).trans h.c0) ((qce _ _ _ _ om).trans h.c1) ((qce _ _ _ _ om).trans h.c2) (qm1 _ _ _ (by rw[h.size];omega)) ((qce _ _ _ _ om).trans h.c36) ⟨Nat.le_refl _,h.bg⟩
theorem NatM.setBegan(h:NatM w b cs v ov fm D Fw cnt s tm is)(n:Nat)(hn:s.began<=n/\n<=700)(R:Row 93 w' b (cs.setIfInBounds 36 (I Z (n:Int))))(T:qbl b w w'):NatM w' b (cs.setIfInBounds 36 (I Z (n:Int))) v ov fm D Fw cnt { s with began:=n } tm is:=
 h.cells R T zm (fun i h1 h2=>qce _ _ _ _ (fun e=>h2 e.symm)) _ rfl rfl rfl rfl rfl rfl ((qce _ _ _ _ om).trans h.c0) ((qce _ _ _ _ om).trans h.c1) ((qce _ _ _ _ om).trans h.c2) ((qce _ _ _ _ om).trans h.c3) (qm1 _ _ _ (by rw[h.size];omega)) hn
end
theorem qca.bound{o:Nat}(h:qca w b t cs o now du cnt F):qca w b t cs o now du cnt (fun c=>F c/\c<w.heap.size):=by
 obtain⟨mb,D,vs,L,hW,h1,h2,h3,h4,h5,h6,hF⟩:=h
 refine⟨mb,D,vs,L,hW,h1,h2,h3,h4,h5,h6,fun c hc=>⟨hF c hc,?_⟩⟩
 rcases hc with rfl|hm|⟨k,hk,ho⟩
 ·exact hW.lt
 ·rcases hW.map with⟨e,_⟩|⟨bm,n,e,_,hmm⟩
  ·rw[e] at hm;cases hm
  ·rw[e] at hm;cases hm;exact hmm.lt
 ·obtain⟨cur,m,hh⟩:=qe6 (hW.own k hk) ho
  exact(Array.getElem?_eq_some_iff.1 hh).1
theorem qaw.bound{s:Nt}(h:qaw w b s tm F):qaw w b s tm (fun c=>F c/\c<w.heap.size):=by
 obtain⟨cs,v,ov,fm,D,Fw,cnt,M,hF⟩:=h
 refine⟨cs,v,ov,fm,D,fun c=>Fw c/\c<w.heap.size,cnt,⟨M.wheel.bound,M.size,M.c0,M.c1,M.c2,M.c3,M.ct,M.c34,M.c35,M.c36,M.maps,M.nil,M.ids,M.flows,M.reads,M.sized,M.few,fun c hc hh=>M.fmNot c hc hh.1,fun c hc hh=>M.ovNot c hc hh.1,fun h0=>⟨fun hh=>(M.msNot h0).1 hh.1,(M.msNot h0).2⟩,M.up,M.num,M.bg⟩,fun c hc=>?_⟩
 rcases hc with h1|h1|h1|⟨h1,rfl⟩
 ·exact⟨hF c (.inl h1.1),h1.2⟩
 ·refine⟨hF c (.inr (.inl h1)),?_⟩
  rcases M.flows with⟨e,_⟩|⟨bm,e,hm⟩
  ·rw[e] at h1;cases h1
  ·rw[e] at h1;cases h1;exact hm.lt
 ·refine⟨hF c (.inr (.inr (.inl h1))),?_⟩
  obtain⟨cur,m,hh⟩:=qe6 M.ids h1
  exact(Array.getElem?_eq_some_iff.1 hh).1
 ·exact⟨hF _ (.inr (.inr (.inr ⟨h1,rfl⟩))),M.maps.lt h1⟩
structure Nb(w0 W:World)(b:Nat)(s:Nt)(tm:Int->Option Int)(F0 F:Nat->Prop)(L:List (Nat×Obj)):Prop where
 nat:qaw W b s tm F
 gr:Gr F0 w0 W
 sub:∀c,F c->F0 c\/w0.heap.size<=c
 bd:∀c,F c->c<W.heap.size
 nodup:(L.map (·.1)).Nodup
 rows:∀y∈L,W.heap[y.1]?=some y.2/\w0.heap.size<=y.1/\¬F y.1
def ob(t:TypeId)(cs:Array Value):Obj:=.cells cs t (0,0)
section
variable {w0 W W':World} {b:Nat} {s:Nt} {tm:Int->Option Int} {F0 F:Nat->Prop} {L:List (Nat×Obj)}
theorem qaw.start{s:Nt}(h:qaw w b s tm F):Nb w w b s tm F (fun c=>F c/\c<w.heap.size) []:=⟨h.bound,Gr.refl _ _,fun c hc=>.inl hc.1,fun c hc=>hc.2,by simp,by simp⟩
theorem qaw.keep{s:Nt}(h:qaw w b s tm F)(hg:Gr G w w')(hG:∀c,F c->¬G c):qaw w' b s tm F:=by
 obtain⟨cs,v,ov,fm,D,Fw,cnt,M,hF⟩:=h
 exact⟨cs,v,ov,fm,D,Fw,cnt,M.keep hg (fun c hc=>hG c (hF c hc)),hF⟩
theorem qaw.below{s:Nt}(h:qaw w b s tm F)(hb:Below w.heap.size w w'):qaw w' b s tm F:=h.keep (Gr.of_below (F:=fun _=>False) hb) (fun _ _=>id)
theorem Nb.row(h:Nb w0 W b s tm F0 F L)(i:Nat)(hi:L[i]?=some (c,ob t cs)):Row t W c cs:=(h.rows _ (List.mem_of_getElem? hi)).1
theorem Nb.lt(h:Nb w0 W b s tm F0 F L)(hc:c∈L.map (·.1)):c<W.heap.size:=by
 obtain⟨y,hy,rfl⟩:=List.mem_map.1 hc
 exact(Array.getElem?_eq_some_iff.1 (h.rows y hy).1).1
theorem Nb.call(h:Nb w0 W b s tm F0 F L){s':Nt}{tm':Int->Option Int}{F':Nat->Prop}(hn:qaw W' b s' tm' F')(hg:Gr F W W')(hF:∀c,F' c->F c\/W.heap.size<=c):Nb w0 W' b s' tm' F0 (fun c=>F' c/\c<W'.heap.size) L:=by
 refine⟨hn.bound,h.gr.trans hg (fun x hx=>h.sub x hx),fun c hc=>?_,fun c hc=>hc.2,h.nodup,fun y hy=>⟨?_,(h.rows y hy).2.1,fun hc=>?_⟩⟩
 ·rcases hF c hc.1 with h1|h1
  ·exact h.sub c h1
  ·exact .inr (Nat.le_trans h.gr.size h1)
 ·have hl:=h.lt (List.mem_map.2 ⟨y,hy,rfl⟩)
  exact(hg.block _ hl (h.rows y hy).2.2).trans (h.rows y hy).1
 ·have hl:=h.lt (List.mem_map.2 ⟨y,hy,rfl⟩)
  rcases hF _ hc.1 with h1|h1
  ·exact(h.rows y hy).2.2 h1
  ·omega
theorem Nb.below(h:Nb w0 W b s tm F0 F L)(hb:Below W.heap.size W W'):Nb w0 W' b s tm F0 F L:=
 ⟨h.nat.below hb,h.gr.trans (Gr.of_below (F:=fun _=>False) hb) (fun x hx=>hx.elim),h.sub,fun c hc=>Nat.lt_of_lt_of_le (h.bd c hc) hb.size,h.nodup,fun y hy=>⟨(hb.block _ (h.lt (List.mem_map.2 ⟨y,hy,rfl⟩))).trans (h.rows y hy).1,(h.rows y hy).2⟩⟩
theorem Nb.drew(h:Nb w0 W b s tm F0 F L):Nb w0 W.drew b s tm F0 F L:=h.below (Below.refl _ _).drew
theorem Nb.drewN(h:Nb w0 W b s tm F0 F L)(n:Nat):Nb w0 (W.drewN n) b s tm F0 F L:=h.below ⟨rfl,rfl,rfl,Nat.le_refl _,fun _ _=>rfl⟩
theorem Nb.alloc(h:Nb w0 W b s tm F0 F L){o:Obj}(hl:W.heap.size<=c)(R:W'.heap[c]?=some o)(hb:Below W.heap.size W W'):Nb w0 W' b s tm F0 F ((c,o)::L):=by
 have h':=h.below hb
 refine⟨h'.nat,h'.gr,h'.sub,h'.bd,?_,fun y hy=>?_⟩
 ·rw[List.map_cons,List.nodup_cons]
  exact⟨fun hm=>by have:=h.lt hm;simp only at *;omega,h.nodup⟩
 ·rcases List.mem_cons.1 hy with rfl|hy
  ·exact⟨R,Nat.le_trans h.gr.size hl,fun hF=>by have:=h.bd c hF;omega⟩
  ·exact h'.rows y hy
theorem Nb.turn(h:Nb w0 W b s tm F0 F L)(i:Nat)(hi:L[i]?=some (c,ob t cs))(R:Row t W' c cs')(T:qbl c W W'):Nb w0 W' b s tm F0 F (L.set i (c,ob t cs')):=by
 refine m73 ?_;intro hlt hLi
 have hm:(L.set i (c,ob t cs')).map (·.1)=L.map (·.1):=by
  apply List.ext_getElem?
  intro j;refine m4t ?_
  by_cases hj:i=j
  ·subst hj;simp[hlt,hLi]
  ·simp[hj]
 have hc:=h.rows _ (List.mem_of_getElem? hi);have hB:Below c W W':=T.below c W (Nat.le_refl _) (Below.refl _ _);(have hG:Gr (fun x=>x=c) W W':=⟨hB.os,hB.tape,hB.output,hB.size,fun x hx hn=>T.other x hn⟩)
 refine⟨h.nat.keep hG (fun x hx e=>hc.2.2 (e▸hx)),h.gr.trans hG (fun x hx=>.inr (hx▸hc.2.1)),h.sub,fun x hx=>Nat.lt_of_lt_of_le (h.bd x hx) (Nat.le_of_eq T.size.symm),by rw[hm];exact h.nodup,fun y hy=>?_⟩
 obtain⟨j,hj⟩:=List.mem_iff_getElem?.1 hy
 rw[List.getElem?_set] at hj
 by_cases hij:i=j
 ·subst hij
  rw[if_pos rfl,if_pos hlt] at hj
  obtain rfl:=Option.some.inj hj
  exact⟨R,hc.2⟩
 ·rw[if_neg hij] at hj
  have hy':=List.mem_of_getElem? hj
  refine⟨(T.other _ (fun e=>hij ?_)).trans (h.rows y hy').1,(h.rows y hy').2⟩
  refine m36 ?_;intro e1 e2
  exact(List.getElem?_inj (by simpa using hlt) h.nodup).1 (by rw[e1,e2])
end
theorem qfk(R:Row 52 w b (fc k)):w.rangeAt b 0 (mcl (flM k)):=R.range (fun j v hv=>by
 have hj:j<5:=(List.getElem?_eq_some_iff.1 hv).1;rw[Nat.zero_add]
 rcases(show j=0\/j=1\/j=2\/j=3\/j=4 by omega) with rfl|rfl|rfl|rfl|rfl<;>exact hv)
theorem sZtn18(h:p:=by
 go_ret
 exact⟨(congrArg (fun z=>Ending.returned (Value.bool z)) HR.out).symm,B.base⟩):p:=h
theorem sZtn11(h:p:=by
 go_enter func123,ntmps123
 go_wp2_with (first|((with_reducible refine gB 52 0 ?_);refine bx 52 (.tmp 0) (fc k) ?_;intro b3 w9 l9 R9 h9;replace B:=B.alloc l9 R9 h9;clear R9 h9 l9)|((with_reducible refine gL 50 6 ?_);refine wpList_load_mid rfl 50 (.tmp 6) rfl _ _ rfl (mcl (flM k)) _ (qfk (B.row 0 rfl)) underlying50 rfl (qby _) ?_;rw[qc2])|((with_reducible refine gA 50 ?_);refine ax 5 50 qa4 ?_;intro b5 w9 l9 R9 h9;replace B:=B.alloc l9 R9 h9;clear R9 h9 l9)|((with_reducible refine gS 50 5 7 ?_);refine sx 50 (.tmp 5) _ (mc (flM k)) (B.row 0 rfl) ?_;refine m31 ?_;clear B;intro w9 B)|((with_reducible refine gL 3 8 ?_);refine fx (B.row 0 rfl) _ 0 (k.pr) ?_)|((with_reducible refine gL 3 10 ?_);refine fx (Rp.below B.base) _ 0 (p.proto) ?_)|((with_reducible refine gL 3 14 ?_);refine fx (B.row 0 rfl) _ 1 (k.s) ?_)|((with_reducible refine gL 3 2 ?_);refine fx (Rs.below B.base) _ 0 (sub) ?_)|((with_reducible refine gL 3 20 ?_);refine fx (B.row 0 rfl) _ 2 (k.i) ?_)|((with_reducible refine gL 3 22 ?_);refine fx (Rp.below B.base) _ 2 (p.sport) ?_)|((with_reducible refine gL 3 27 ?_);refine fx (B.row 1 rfl) _ 5 (k.rem) ?_)|((with_reducible refine gL 3 29 ?_);refine fx (Rp.below B.base) _ 3 (p.dst) ?_)|((with_reducible refine gL 3 34 ?_);refine fx (B.row 1 rfl) _ 6 (k.rp) ?_)|((with_reducible refine gL 3 36 ?_);refine fx (Rp.below B.base) _ 4 (p.dport) ?_))
 exact sZtn18):p:=h
theorem qvj(k:Fl)(p:Pkt)(sub:Int)(bp bs:Nat)(w:World)(Rp:Row 61 w bp (pcl p))(Rs:Row 3 w bs #[I Z sub]):Calls prog 123 #[.agg (fc k),V (some ⟨bp,0,none⟩),V (some ⟨bs,0,none⟩)] w fun e w'=>e=.returned (.bool (outF p sub k))/\Below w.heap.size w w':=by
 have B:=Bd.start w
 cases e1:(k.pr==p.proto) with
 | false=>
  have HR:Hid (outF p sub k=false):=hidN (by simp only[outF,e1];try rfl)
  exact sZtn11
 | true=>
  cases e2:(k.s==sub) with
  | false=>
   have HR:Hid (outF p sub k=false):=hidN (by simp only[outF,e1,e2];try rfl)
   exact sZtn11
  | true=>
   cases e3:(k.i==p.sport) with
   | false=>
    have HR:Hid (outF p sub k=false):=hidN (by simp only[outF,e1,e2,e3];try rfl)
    exact sZtn11
   | true=>
    cases e4:(k.rem==p.dst) with
    | false=>
     have HR:Hid (outF p sub k=false):=hidN (by simp only[outF,e1,e2,e3,e4];try rfl)
     exact sZtn11
    | true=>
     cases e5:(k.rp==p.dport) with
     | false=>
      have HR:Hid (outF p sub k=false):=hidN (by simp only[outF,e1,e2,e3,e4,e5];try rfl)
      exact sZtn11
     | true=>
      have HR:Hid (outF p sub k=true):=hidN (by simp only[outF,e1,e2,e3,e4,e5];try rfl)
      exact sZtn11
theorem sZtn12(h:p:=by
 go_enter func133,ntmps133
 go_wp2_with (first|((with_reducible refine gB 52 0 ?_);refine bx 52 (.tmp 0) (fc k) ?_;intro b3 w9 l9 R9 h9;replace B:=B.alloc l9 R9 h9;clear R9 h9 l9)|((with_reducible refine gL 50 5 ?_);refine wpList_load_mid rfl 50 (.tmp 5) rfl _ _ rfl (mcl (flM k)) _ (qfk (B.row 0 rfl)) underlying50 rfl (qby _) ?_;rw[qc2])|((with_reducible refine gL 50 1 ?_);refine lx 50 (.tmp 1) (mc m) (Rm.below B.base) ?_)|((with_reducible refine qaa (.binOp .eql 50 (.tmp 6) (.tmp 7) 50) rfl ?_);refine qb1 50 (.tmp 6) (.tmp 7) rfl kr (mc (flM k)) (mc m) rfl rfl eqGuardType50 _ _ (qkb (flM k) m _) rfl ?_;(try rw[e1]))|((with_reducible refine gL 3 10 ?_);refine fx (B.row 0 rfl) _ 5 (k.rem) ?_)|((with_reducible refine gL 3 12 ?_);refine fx (Rp.below B.base) _ 1 (p.src) ?_))
 exact sZtn18):p:=h
theorem qra(k:Fl)(p:Pkt)(m:Mp)(bm bp:Nat)(w:World)(Rm:Row 50 w bm (mc m))(Rp:Row 61 w bp (pcl p)):Calls prog 133 #[.agg (fc k),V (some ⟨bm,0,none⟩),V (some ⟨bp,0,none⟩)] w fun e w'=>e=.returned (.bool (qey p m k))/\Below w.heap.size w w':=by
 have B:=Bd.start w
 cases e1:(flM k==m) with
 | false=>
  have HR:Hid (qey p m k=false):=hidN (by simp only[qey,e1];try rfl)
  exact sZtn12
 | true=>
  cases e2:(k.rem==p.src) with
  | false=>
   have HR:Hid (qey p m k=false):=hidN (by simp only[qey,e1,e2];try rfl)
   exact sZtn12
  | true=>
   have HR:Hid (qey p m k=true):=hidN (by simp only[qey,e1,e2];try rfl)
   exact sZtn12
theorem sZtn14(h:p:=by
 go_enter func147,ntmps147
 go_wp2_with (first|((with_reducible refine gB 52 0 ?_);refine bx 52 (.tmp 0) (fc k) ?_;intro b2 w9 l9 R9 h9;replace B:=B.alloc l9 R9 h9;clear R9 h9 l9)|((with_reducible refine gL 50 4 ?_);refine wpList_load_mid rfl 50 (.tmp 4) rfl _ _ rfl (mcl (flM k)) _ (qfk (B.row 0 rfl)) underlying50 rfl (qby _) ?_;rw[qc2])|((with_reducible refine gL 50 1 ?_);refine lx 50 (.tmp 1) (mc m) (Rm.below B.base) ?_)|((with_reducible refine qaa (.binOp .eql 50 (.tmp 5) (.tmp 6) 50) rfl ?_);refine qb1 50 (.tmp 5) (.tmp 6) rfl kr (mc (flM k)) (mc m) rfl rfl eqGuardType50 _ _ (qkb (flM k) m _) rfl ?_;(try rw[e1])))
 exact sZtn18):p:=h
theorem qxe(k:Fl)(m:Mp)(bm:Nat)(w:World)(Rm:Row 50 w bm (mc m)):Calls prog 147 #[.agg (fc k),V (some ⟨bm,0,none⟩)] w fun e w'=>e=.returned (.bool (qf0 m k))/\Below w.heap.size w w':=by
 have B:=Bd.start w
 cases e1:(flM k==m) with
 | false=>
  have HR:Hid (qf0 m k=false):=hidN (by simp only[qf0,e1];try rfl)
  exact sZtn14
 | true=>
  have HR:Hid (qf0 m k=true):=hidN (by simp only[qf0,e1];try rfl)
  exact sZtn14
theorem sZtn13(h:p:=by
 go_enter func134,ntmps134
 go_wp2_with (first|((with_reducible refine gB 52 0 ?_);refine bx 52 (.tmp 0) (fc k) ?_;intro b3 w9 l9 R9 h9;replace B:=B.alloc l9 R9 h9;clear R9 h9 l9;have ck:World.cell? _ ⟨bk,0,none⟩=some (.func (.func 133) #[] #[V (some ⟨bm,0,none⟩),V (some ⟨bp,0,none⟩)]):=((Rk.below B.base).cell 0).trans rfl)|((with_reducible refine gL 52 3 ?_);refine lx 52 (.tmp 3) (fc k) (B.row 0 rfl) ?_)|(go_at_call 133;go_fit (C1 _ (Rm.below B.base) (Rp.below B.base));rintro e w5 ⟨rfl,hb5⟩;replace B:=B.below hb5;clear hb5 ck)|((with_reducible refine gL 3 9 ?_);refine fx (B.row 0 rfl) _ 6 (k.rp) ?_)|((with_reducible refine gL 3 11 ?_);refine fx (Rp.below B.base) _ 2 (p.sport) ?_))
 go_ret
 exact⟨rfl,B.base⟩):p:=h
theorem qyl(k:Fl)(p:Pkt)(m:Mp)(bk bm bp:Nat)(w:World)(Rk:Row 138 w bk #[.func (.func 133) #[] #[V (some ⟨bm,0,none⟩),V (some ⟨bp,0,none⟩)]])(Rm:Row 50 w bm (mc m))(Rp:Row 61 w bp (pcl p)):Calls prog 134 #[.agg (fc k),V (some ⟨bk,0,none⟩),V (some ⟨bp,0,none⟩)] w fun e w'=>e=.returned (.bool (qio p m k))/\Below w.heap.size w w':=by
 have B:=Bd.start w;(have C1:=fun w Rm Rp=>qra k p m bm bp w Rm Rp)
 unfold qio
 cases e1:qey p m k with
 | false=>
  rw[e1] at C1
  exact sZtn13
 | true=>
  rw[e1] at C1
  cases e2:(k.rp==p.sport) with
  | false=>
   exact sZtn13
  | true=>
   exact sZtn13
theorem qo4{l:List Int}(h:Own w v l)(hj:j<l.length):∃g kp,v=.slice (some ⟨g,0,none⟩) l.length kp/\w.cell? ⟨g,j,none⟩=some (I Z l[j]):=by
 obtain⟨g,kp',cur,hsh,hg,_,_,_,ht⟩:=h.shape om
 exact⟨g,kp',hsh,(qia hg j).trans (qis ht j hj)⟩
theorem qf6{fs:List (Nat×Fl)}(hp:fs.Pairwise (fun x y=>x.1<y.1))(hx:x∈fs):fsF fs (x.1:Int)=some x.2:=by
 unfold fsF
 induction fs with
 | nil=>cases hx
 | cons y r ih=>
  rw[List.pairwise_cons] at hp
  rw[List.find?_cons]
  rcases List.mem_cons.1 hx with rfl|hx
  ·simp
  ·have:y.1<x.1:=hp.1 x hx
   have e:decide (((y.1:Nat):Int)=((x.1:Nat):Int))=false:=decide_eq_false om;rw[e]
   exact ih hp.2 hx
theorem qrh(h:n<=700):(Lit.int .i64 ((n:Nat):Int)).wf=true:=by
 simp[Lit.wf,IntKind.min,IntKind.max,IntKind.signed,IntKind.bits];omega
section
variable {w w':World} {b:Nat} {cs cs':Array Value} {v ov:Value} {fm:Option Nat} {D:DataW Unit} {Fw:Nat->Prop} {cnt:Nat} {s:Nt} {tm:Int->Option Int} {is:List Int}
theorem NatM.look(h:NatM w b cs v ov fm D Fw cnt s tm is)(i:Int)(hi:(Lit.int .i64 i).wf=true):(Instr.lookup 85 (.map fm) (.int .i64 i) false).run prog w=.ok (.agg (fc ((fsF s.fs i).getD fl0))) w:=by
 have hkey:=keyOf_int_mk (P:=prog) (q:=.i64) (a:=i) underlying3 hi
 rcases h.flows with⟨rfl,rfl⟩|⟨bm,rfl,hm⟩
 ·have:=look_nil (w:=w) false lawI underlying85 (qbr w) hkey
  have e:=h.reads.has i
  have e2:fsF s.fs i=none:=by
   cases hf:fsF s.fs i with
   | none=>rfl
   | some x=>rw[hf] at e;simp[Maps.has] at e
  rw[e2]
  simpa using this
 ·obtain⟨u,ps,hr,hu⟩:=hm.lookup lawI underlying85 (qbr w) (qgm fl0) hkey
  rw[h.reads.flow i] at hu
  rw[hr,qol hu]
theorem NatM.look_at(h:NatM w b cs v ov fm D Fw cnt s tm is)(hx:x∈s.fs):(Instr.lookup 85 (.map fm) (I Z ((x.1:Nat):Int)) false).run prog w=.ok (.agg (fc x.2)) w:=by
 have:=h.look (x.1:Int) (qrh (Nat.le_trans (h.num x hx) h.bg))
 rw[qf6 h.up hx] at this
 exact this
theorem NatM.len(h:NatM w b cs v ov fm D Fw cnt s tm is)(ty:TypeId):(Builtin.len_ #[85] ty #[.map fm]).run prog w=.ok (I Z (s.fs.length:Int)) w:=by
 rcases h.flows with⟨rfl,rfl⟩|⟨bm,rfl,hm⟩
 ·have:=len_nil (P:=prog) (w:=w) underlying85 ty
  rw[←h.sized];exact this
 ·have:=hm.len underlying85 ty
  rw[h.sized] at this;exact this
theorem NatM.cell(h:NatM w b cs v ov fm D Fw cnt s tm is)(i:Nat):w.cell? ⟨b,i,none⟩=cs[i]?:=h.row.cell i
end
theorem qda{s:Nt}(h:qaw w b s tm F):Calls prog 19 #[V (some ⟨b,0,none⟩)] w fun e w'=>e=.returned (I Z s.now)/\w'=w:=by
 obtain⟨cs,v,ov,fm,D,Fw,cnt,M,hF⟩:=h;have CN:=q7r M.wheel
 go_enter func19,ntmps19
 go_wp2_with (go_at_call 60;go_fit CN;rintro e w' ⟨rfl,rfl⟩)
 go_ret
 exact⟨rfl,rfl⟩
theorem qlu{s:Nt}(h:qaw w b s tm F):Calls prog 128 #[V (some ⟨b,0,none⟩)] w fun e w'=>e=.returned (.bool s.full)/\w'=w:=by
 obtain⟨cs,v,ov,fm,D,Fw,cnt,M,hF⟩:=h;have c34:=(M.cell 34).trans M.c34;have hlen:=M.len 3;have HR:Hid (s.full=decide ((48:Int)<=(s.fs.length:Int))):=hidN (by unfold Nt.full;exact decide_eq_decide.2 om)
 go_enter func128,ntmps128
 go_wp2
 go_ret
 exact⟨(congrArg (fun z=>Ending.returned (Value.bool z)) HR.out).symm,rfl⟩
def qe3:Option (Nat×Fl)->Value
 | some x=>.tuple #[I Z ((x.1:Nat):Int),.bool true]
 | none=>.tuple #[I Z 0,.bool false]
theorem ql0{α:Type}{p:α->Bool}{l:List α}{x:α}(h:(l.take j).find? p=none)(hj:j<l.length)(hx:l[j]=x):(p x=true->l.find? p=some x)/\(p x=false->(l.take (j+1)).find? p=none):=by
 subst hx
 refine⟨fun hp=>?_,fun hp=>?_⟩
 ·conv=>lhs;rw[←List.take_append_drop j l]
  rw[List.find?_append,h,List.drop_eq_getElem_cons hj,List.find?_cons,hp];rfl
 ·rw[List.take_succ_eq_append_getElem hj,List.find?_append,h];simp[hp]
theorem qud(h:j<n):n-((j:Int)+1).toNat<n-((j:Int)).toNat:=by omega
theorem qee(hgd:o.guard=none)(t:TypeId)(m x:Operand)(ho:o.op=.lookup t m x false)(mv kv v:Value)(hm:a.eval m=mv)(hx:a.eval x=kv)(hr:(Instr.lookup t mv kv false).run prog w=.ok v w)(hK:wpList prog ops Q rest (a.put o.dst v) w):wpList prog ops Q (o::rest) a w:=
 wpList_plain hgd fun K hK'=>by
  unfold Oper.wp
  simp[execOp,ho,hm,hx,hr,Result.andThen]
  exact hK' _ _ hK
theorem qkd{ov:Value}{fm:Option Nat}{Fw:Nat->Prop}{s:Nt}{is:List Int}(M:NatM w b cs v ov fm D Fw cnt s tm is):s.fs.length<=702:=by
 have h1:=M.up;(have h2:∀x∈s.fs,x.1<=700:=fun x hx=>Nat.le_trans (M.num x hx) M.bg)
 have key:∀(l:List (Nat×Fl)) (k:Nat),l.Pairwise (fun x y=>x.1<y.1)->(∀x∈l,k<x.1/\x.1<=701)->k<=701->l.length+k<=701:=by
  intro l
  induction l with
  | nil=>intro k _ _ hk;simpa using hk
  | cons y r ih=>
   intro k hp hl hk
   rw[List.pairwise_cons] at hp
   have hy:=hl y zm
   have:=ih y.1 hp.2 (fun x hx=>⟨hp.1 x hx,(hl x (by simp[hx])).2⟩) hy.2
   rw[List.length_cons]
   omega
 cases hfs:s.fs with
 | nil=>simp
 | cons y r=>
  rw[hfs,List.pairwise_cons] at h1
  rw[hfs] at h2
  have:=key r y.1 h1.2 (fun x hx=>⟨h1.1 x hx,Nat.le_trans (h2 x (by simp[hx])) om⟩) (Nat.le_trans (h2 y zm) om)
  rw[List.length_cons]
  omega
theorem sZtn17(h:p:=by
 go_ret2
 exact⟨(congrArg (fun z=>Ending.returned (qe3 z)) HR.out).symm,hB⟩):p:=h
theorem sZtn15(h:p:=by
 subst e
 (have hji:¬(j:Int)<(j:Int):=by omega)
 rw[HN.out,List.take_length] at hfn
 have HR:Hid (_=none):=hidN hfn;clear hfn
 go_wp2
 exact sZtn17):p:=h
theorem sZtn16(h:p:=by
 go_roundw
 case rel=>exact⟨j+1,by omega,(by first|exact qfs j|exact qg6 hjw),HR.out,hB⟩
 case measure=>(first|rw[hjw]|skip);exact qud hlt):p:=h
theorem q5g{s:Nt}(h:qaw w b s tm F)(p:Pkt)(sub:Int)(bp bs:Nat)(Rp:Row 61 w bp (pcl p))(Rs:Row 3 w bs #[I Z sub]):Calls prog 86 #[V (some ⟨b,0,none⟩),.func (.func 123) #[] #[V (some ⟨bp,0,none⟩),V (some ⟨bs,0,none⟩)]] w fun e w'=>e=.returned (qe3 (s.find (outF p sub)))/\Below w.heap.size w w':=by
 obtain⟨cs,v,ov,fm,D,Fw,cnt,M0,hF⟩:=h;refine m2a ?_;intro hB;have c35:=(M0.cell 35).trans M0.c35;obtain⟨a0,kp,hov⟩:=qeh M0.ids
 obtain⟨n,hn⟩:∃n,n=s.fs.length:=⟨_,rfl⟩
 (have hn48:n<=1000000:=by have:=qkd M0;omega)
 simp only[List.length_map] at hov
 rw[←hn] at hov
 subst hov
 have HN:Hid (n=s.fs.length):=hn;clear hn
 unfold Nt.find
 go_enter func86,ntmps86
 go_wp2
 clear c35
 go_loopw [13] (fun i W=>∃j:Nat,j<=n/\i=I Z (j:Int)/\(s.fs.take j).find? (fun x=>(outF p sub) x.2)=none/\Below w.heap.size w W) (fun i _=>n-(intOf i).toNat)
 case atStart=>exact⟨0,by omega,rfl,rfl,hB⟩
 case round=>
  clear hB
  obtain⟨j,hj,rfl,hfn,hB⟩:=hrel
  have M:=M0.below hB
  by_cases hlt:j<n
  ·(have hlj:j<s.fs.length:=by have:=HN.out;omega)
   obtain⟨x,hx⟩:∃x,s.fs[j]=x:=⟨_,rfl⟩
   refine m2m ?_;intro hxm hji hjw hy hnx;(have CK:=fun W Rp Rs=>qvj x.2 p sub bp bs W Rp Rs);obtain⟨g,kp2,hov,hc⟩:=qo4 M.ids (j:=j) (by simpa using hlj)
   obtain⟨rfl,rfl⟩:a0=some ⟨g,0,none⟩/\kp=kp2:=by simp only[Value.slice.injEq] at hov;exact⟨hov.1,hov.2.2⟩
   (have hix:=fun w=>ixI g n kp j hlt w)
   rw[List.getElem_map,hx] at hc
   refine m67 ?_;intro c34 LK HY HX;clear hy hnx hov hx hxm hlj hfn hj
   cases hp:(outF p sub) x.2 with
   | true=>
    rw[hp] at CK
    have HR:Hid (_=some x):=hidN (HY.out hp);clear HY HX hp
    go_wp2_with (first|((with_reducible refine qaa (.lookup 85 (.tmp 21) (.tmp 22) false) rfl ?_);refine m0s ?_)|(go_at_call 123;go_fit (CK _ (Rp.below hB) (Rs.below hB));rintro e w5 ⟨rfl,hb5⟩;refine m2s ?_;clear hB;intro hB;clear hb5))
    exact sZtn17
   | false=>
    rw[hp] at CK
    have HR:Hid (_=none):=hidN (HX.out hp);clear HY HX hp
    go_wp2_with (first|((with_reducible refine qaa (.lookup 85 (.tmp 21) (.tmp 22) false) rfl ?_);refine m0s ?_)|(go_at_call 123;go_fit (CK _ (Rp.below hB) (Rs.below hB));rintro e w5 ⟨rfl,hb5⟩;refine m2s ?_;clear hB;intro hB;clear hb5))
    exact sZtn16
  ·(have e:j=n:=by omega)
   exact sZtn15
theorem q0x{s:Nt}(h:qaw w b s tm F)(p:Pkt)(m:Mp)(bm bp:Nat)(Rm:Row 50 w bm (mc m))(Rp:Row 61 w bp (pcl p)):Calls prog 86 #[V (some ⟨b,0,none⟩),.func (.func 133) #[] #[V (some ⟨bm,0,none⟩),V (some ⟨bp,0,none⟩)]] w fun e w'=>e=.returned (qe3 (s.find (qey p m)))/\Below w.heap.size w w':=by
 obtain⟨cs,v,ov,fm,D,Fw,cnt,M0,hF⟩:=h;refine m2a ?_;intro hB;have c35:=(M0.cell 35).trans M0.c35;obtain⟨a0,kp,hov⟩:=qeh M0.ids
 obtain⟨n,hn⟩:∃n,n=s.fs.length:=⟨_,rfl⟩
 (have hn48:n<=1000000:=by have:=qkd M0;omega)
 simp only[List.length_map] at hov
 rw[←hn] at hov
 subst hov
 have HN:Hid (n=s.fs.length):=hn;clear hn
 unfold Nt.find
 go_enter func86,ntmps86
 go_wp2
 clear c35
 go_loopw [13] (fun i W=>∃j:Nat,j<=n/\i=I Z (j:Int)/\(s.fs.take j).find? (fun x=>(qey p m) x.2)=none/\Below w.heap.size w W) (fun i _=>n-(intOf i).toNat)
 case atStart=>exact⟨0,by omega,rfl,rfl,hB⟩
 case round=>
  clear hB
  obtain⟨j,hj,rfl,hfn,hB⟩:=hrel
  have M:=M0.below hB
  by_cases hlt:j<n
  ·(have hlj:j<s.fs.length:=by have:=HN.out;omega)
   obtain⟨x,hx⟩:∃x,s.fs[j]=x:=⟨_,rfl⟩
   refine m2m ?_;intro hxm hji hjw hy hnx;(have CK:=fun W Rm Rp=>qra x.2 p m bm bp W Rm Rp);obtain⟨g,kp2,hov,hc⟩:=qo4 M.ids (j:=j) (by simpa using hlj)
   obtain⟨rfl,rfl⟩:a0=some ⟨g,0,none⟩/\kp=kp2:=by simp only[Value.slice.injEq] at hov;exact⟨hov.1,hov.2.2⟩
   (have hix:=fun w=>ixI g n kp j hlt w)
   rw[List.getElem_map,hx] at hc
   refine m67 ?_;intro c34 LK HY HX;clear hy hnx hov hx hxm hlj hfn hj
   cases hp:(qey p m) x.2 with
   | true=>
    rw[hp] at CK
    have HR:Hid (_=some x):=hidN (HY.out hp);clear HY HX hp
    go_wp2_with (first|((with_reducible refine qaa (.lookup 85 (.tmp 21) (.tmp 22) false) rfl ?_);refine m0s ?_)|(go_at_call 133;go_fit (CK _ (Rm.below hB) (Rp.below hB));rintro e w5 ⟨rfl,hb5⟩;refine m2s ?_;clear hB;intro hB;clear hb5))
    exact sZtn17
   | false=>
    rw[hp] at CK
    have HR:Hid (_=none):=hidN (HX.out hp);clear HY HX hp
    go_wp2_with (first|((with_reducible refine qaa (.lookup 85 (.tmp 21) (.tmp 22) false) rfl ?_);refine m0s ?_)|(go_at_call 133;go_fit (CK _ (Rm.below hB) (Rp.below hB));rintro e w5 ⟨rfl,hb5⟩;refine m2s ?_;clear hB;intro hB;clear hb5))
    exact sZtn16
  ·(have e:j=n:=by omega)
   exact sZtn15
theorem q7t{s:Nt}(h:qaw w b s tm F)(p:Pkt)(m:Mp)(bk bm bp:Nat)(Rk:Row 138 w bk #[.func (.func 133) #[] #[V (some ⟨bm,0,none⟩),V (some ⟨bp,0,none⟩)]])(Rm:Row 50 w bm (mc m))(Rp:Row 61 w bp (pcl p)):Calls prog 86 #[V (some ⟨b,0,none⟩),.func (.func 134) #[] #[V (some ⟨bk,0,none⟩),V (some ⟨bp,0,none⟩)]] w fun e w'=>e=.returned (qe3 (s.find (qio p m)))/\Below w.heap.size w w':=by
 obtain⟨cs,v,ov,fm,D,Fw,cnt,M0,hF⟩:=h;refine m2a ?_;intro hB;have c35:=(M0.cell 35).trans M0.c35;obtain⟨a0,kp,hov⟩:=qeh M0.ids
 obtain⟨n,hn⟩:∃n,n=s.fs.length:=⟨_,rfl⟩
 (have hn48:n<=1000000:=by have:=qkd M0;omega)
 simp only[List.length_map] at hov
 rw[←hn] at hov
 subst hov
 have HN:Hid (n=s.fs.length):=hn;clear hn
 unfold Nt.find
 go_enter func86,ntmps86
 go_wp2
 clear c35
 go_loopw [13] (fun i W=>∃j:Nat,j<=n/\i=I Z (j:Int)/\(s.fs.take j).find? (fun x=>(qio p m) x.2)=none/\Below w.heap.size w W) (fun i _=>n-(intOf i).toNat)
 case atStart=>exact⟨0,by omega,rfl,rfl,hB⟩
 case round=>
  clear hB
  obtain⟨j,hj,rfl,hfn,hB⟩:=hrel
  have M:=M0.below hB
  by_cases hlt:j<n
  ·(have hlj:j<s.fs.length:=by have:=HN.out;omega)
   obtain⟨x,hx⟩:∃x,s.fs[j]=x:=⟨_,rfl⟩
   refine m2m ?_;intro hxm hji hjw hy hnx;(have CK:=fun W Rk Rm Rp=>qyl x.2 p m bk bm bp W Rk Rm Rp);obtain⟨g,kp2,hov,hc⟩:=qo4 M.ids (j:=j) (by simpa using hlj)
   obtain⟨rfl,rfl⟩:a0=some ⟨g,0,none⟩/\kp=kp2:=by simp only[Value.slice.injEq] at hov;exact⟨hov.1,hov.2.2⟩
   (have hix:=fun w=>ixI g n kp j hlt w)
   rw[List.getElem_map,hx] at hc
   refine m67 ?_;intro c34 LK HY HX;clear hy hnx hov hx hxm hlj hfn hj
   cases hp:(qio p m) x.2 with
   | true=>
    rw[hp] at CK
    have HR:Hid (_=some x):=hidN (HY.out hp);clear HY HX hp
    go_wp2_with (first|((with_reducible refine qaa (.lookup 85 (.tmp 21) (.tmp 22) false) rfl ?_);refine m0s ?_)|(go_at_call 134;go_fit (CK _ (Rk.below hB) (Rm.below hB) (Rp.below hB));rintro e w5 ⟨rfl,hb5⟩;refine m2s ?_;clear hB;intro hB;clear hb5))
    exact sZtn17
   | false=>
    rw[hp] at CK
    have HR:Hid (_=none):=hidN (HX.out hp);clear HY HX hp
    go_wp2_with (first|((with_reducible refine qaa (.lookup 85 (.tmp 21) (.tmp 22) false) rfl ?_);refine m0s ?_)|(go_at_call 134;go_fit (CK _ (Rk.below hB) (Rm.below hB) (Rp.below hB));rintro e w5 ⟨rfl,hb5⟩;refine m2s ?_;clear hB;intro hB;clear hb5))
    exact sZtn16
  ·(have e:j=n:=by omega)
   exact sZtn15
theorem q4m{s:Nt}(h:qaw w b s tm F)(m:Mp)(bm:Nat)(Rm:Row 50 w bm (mc m)):Calls prog 86 #[V (some ⟨b,0,none⟩),.func (.func 147) #[] #[V (some ⟨bm,0,none⟩)]] w fun e w'=>e=.returned (qe3 (s.find (qf0 m)))/\Below w.heap.size w w':=by
 obtain⟨cs,v,ov,fm,D,Fw,cnt,M0,hF⟩:=h;refine m2a ?_;intro hB;have c35:=(M0.cell 35).trans M0.c35;obtain⟨a0,kp,hov⟩:=qeh M0.ids
 obtain⟨n,hn⟩:∃n,n=s.fs.length:=⟨_,rfl⟩
 (have hn48:n<=1000000:=by have:=qkd M0;omega)
 simp only[List.length_map] at hov
 rw[←hn] at hov
 subst hov
 have HN:Hid (n=s.fs.length):=hn;clear hn
 unfold Nt.find
 go_enter func86,ntmps86
 go_wp2
 clear c35
 go_loopw [13] (fun i W=>∃j:Nat,j<=n/\i=I Z (j:Int)/\(s.fs.take j).find? (fun x=>(qf0 m) x.2)=none/\Below w.heap.size w W) (fun i _=>n-(intOf i).toNat)
 case atStart=>exact⟨0,by omega,rfl,rfl,hB⟩
 case round=>
  clear hB
  obtain⟨j,hj,rfl,hfn,hB⟩:=hrel
  have M:=M0.below hB
  by_cases hlt:j<n
  ·(have hlj:j<s.fs.length:=by have:=HN.out;omega)
   obtain⟨x,hx⟩:∃x,s.fs[j]=x:=⟨_,rfl⟩
   refine m2m ?_;intro hxm hji hjw hy hnx;(have CK:=fun W Rm=>qxe x.2 m bm W Rm);obtain⟨g,kp2,hov,hc⟩:=qo4 M.ids (j:=j) (by simpa using hlj)
   obtain⟨rfl,rfl⟩:a0=some ⟨g,0,none⟩/\kp=kp2:=by simp only[Value.slice.injEq] at hov;exact⟨hov.1,hov.2.2⟩
   (have hix:=fun w=>ixI g n kp j hlt w)
   rw[List.getElem_map,hx] at hc
   refine m67 ?_;intro c34 LK HY HX;clear hy hnx hov hx hxm hlj hfn hj
   cases hp:(qf0 m) x.2 with
   | true=>
    rw[hp] at CK
    have HR:Hid (_=some x):=hidN (HY.out hp);clear HY HX hp
    go_wp2_with (first|((with_reducible refine qaa (.lookup 85 (.tmp 21) (.tmp 22) false) rfl ?_);refine m0s ?_)|(go_at_call 147;go_fit (CK _ (Rm.below hB));rintro e w5 ⟨rfl,hb5⟩;refine m2s ?_;clear hB;intro hB;clear hb5))
    exact sZtn17
   | false=>
    rw[hp] at CK
    have HR:Hid (_=none):=hidN (HX.out hp);clear HY HX hp
    go_wp2_with (first|((with_reducible refine qaa (.lookup 85 (.tmp 21) (.tmp 22) false) rfl ?_);refine m0s ?_)|(go_at_call 147;go_fit (CK _ (Rm.below hB));rintro e w5 ⟨rfl,hb5⟩;refine m2s ?_;clear hB;intro hB;clear hb5))
    exact sZtn16
  ·(have e:j=n:=by omega)
   exact sZtn15
end
end Go.Proofs.YtonnjgmognbnbaaGreatDoor
