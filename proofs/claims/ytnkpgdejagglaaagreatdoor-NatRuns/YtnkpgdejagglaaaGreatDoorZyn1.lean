/-
  Of what a law stands on.
-/
import Derived.Test.YtnkpgdejagglaaaGreatDoorZyd3
import Derived.Test.YtnkpgdejagglaaaGreatDoorZyt1
import Derived.Test.YtnkpgdejagglaaaGreatDoorZyi3
import Derived.Test.YtnkpgdejagglaaaGreatDoorZyr1
import Derived.Test.YtnkpgdejagglaaaGreatDoorZyw2
set_option linter.all false
namespace Go.Proofs.YtnkpgdejagglaaaGreatDoor
open _root_.Array renaming getElem?_eq_some_iff->aV
open _root_.ByteArray renaming empty->ak
open _root_.Go renaming Calls->az,DataW->mF,Operand->aU,TypeId->bt,Value->ag,World->af,execOp->bG,wpList->aM,wpList_plain->bP,zeroValue->eM
open _root_.Go.Proofs.Tryz renaming prog->ah
open _root_.Go.RowKit renaming Below->aq,Hid->aK,intOf->cY
open _root_.Go.Value.slice renaming injEq->iL
open _root_.List renaming find?_append->o5,getElem?_eq_some_iff->aJ,getElem?_map->eh,getElem_map->kC,length_cons->bU,length_map->iV,map_cons->aB,mem_cons->fO,mem_map->bQ,mem_of_getElem?->aH,pairwise_cons->jC
open _root_.Nat renaming le_refl->au,le_trans->aw,lt_of_lt_of_le->bi
open Go.Value renaming int → I,pointer → V
open Go.IntKind renaming i64 → Z
open _root_.Go.Proofs.Tryz Go.ChangeShapes Go.WideShapes Go.ChangeAt Go.RowKit
set_option maxHeartbeats 16000000
set_option maxRecDepth 100000
variable {ops:Array Oper}{rest:List Oper}{o:Oper}{a:Act}{w w':World}{Q:Exit->Act->World->Prop}{k:Fl}{b base bm c cnt j n size:Nat}{v:Value}{D:DataW Unit}{R:Value->Option (DataW Unit×List MemPlace)}{cs cs':Array Value}{e t:TypeId}{xs:List Value}{ms:List Mp}{now:Int}{du tm zL:Int->Option Int}{F G:Nat->Prop}{p:Prop}{x:Nat×Fl}
def qgO(f:Nat->Int)(g:Nat->Bool)(h:Nat->Int)(sl sl2:ag)(ms:List Mp)(YN:E1 f)(j8:qh h)(w:af)(hM:cE w sl ms)(wR:cE w sl2 ms):
  az ah 10 #[.agg (tc f g h sl),.agg (tc f g h sl2)] w fun e w'=>e=.returned (.bool true)/\aq w.heap.size w w':=by
 refine gP ?_;intro hB;have fh:=hM
 obtain⟨a0,cap,dB,-⟩:=fh
 obtain⟨n,hn⟩:∃n,n=ms.length:=⟨_,rfl⟩
 rw[←hn] at dB
 subst dB
 refine xS ?_;clear hn;intro HN hlt;have qhx:=wR.lt
 obtain⟨a1,c1,Ts,-⟩:=id wR
 rw[←HN.out] at Ts
 subst Ts
 go_enter func10,ntmps10
 go_wp2_with (first|(refine gB 42 0 ?_;refine G3 ?_;intro b2 w1 l2 R2 hb1;refine kZ ?_;clear hB;intro hB)|(refine gB 42 1 ?_;refine bx 42 (.tmp 1) (tc f g h (.slice a1 n c1)) ?_;intro b3 w1 l3 R3 hb1;replace R2:=R2.below hb1;refine kZ ?_;clear hB;intro hB;have EH:=R2.iP;have hp3:=R3.iP;have hh2:=R2.homes;have YE:=R3.homes;have k2:World.cell? _ ⟨b2,29,none⟩=some (.slice a0 n cap):=(R2.cell 29).trans (ma _ _ _ _);have k3:World.cell? _ ⟨b3,29,none⟩=some (.slice a1 n c1):=(R3.cell 29).trans (ma _ _ _ _))|(refine gL 38 6 ?_;refine Vr 38 (.tmp 6) rfl rfl b2 0 rfl (pc f g).toList EH _ underlying38 rfl (by simpa using En f g) ?_;refine xZ ?_)|(refine gL 38 8 ?_;refine Vr 38 (.tmp 8) rfl rfl b3 0 rfl (pc f g).toList hp3 _ underlying38 rfl (by simpa using En f g) ?_;refine xZ ?_)|((with_reducible refine iE (.binOp .neq 38 (.tmp 7) (.tmp 9) 38) rfl ?_);refine UO 38 (.tmp 7) (.tmp 9) rfl rfl (pc f g) (pc f g) kr kr eqGuardType38 _ false (q84 f g YN _) rfl ?_)|(refine gL 39 12 ?_;refine Vr 39 (.tmp 12) rfl ?_ b2 21 rfl (kF h) hh2 _ underlying39 rfl (U3 _) ?_;· kernel_rfl)|(refine gL 39 14 ?_;refine Vr 39 (.tmp 14) rfl ?_ b3 21 rfl (kF h) YE _ underlying39 rfl (U3 _) ?_;· kernel_rfl)|((with_reducible refine iE (.binOp .neq 39 (.tmp 13) (.tmp 15) 39) rfl ?_);refine UO 39 (.tmp 13) (.tmp 15) rfl ?_ (wM h) (wM h) kr kr eqGuardType39 _ false (qmy h h j8 j8 _) (by rw[q2m];rfl) ?_;· kernel_rfl))
 clear EH hp3 hh2 YE k2 k3
 go_loopw [30] (fun i W=>∃j:Nat,j<=ms.length/\i=I Z j/\aq w.heap.size w W/\aP 42 W b2 (tc f g h (.slice a0 n cap))/\aP 42 W b3 (tc f g h (.slice a1 n c1))) (fun i _=>n-(cY i).toNat)
 case atStart=>exact⟨0,by omega,rfl,hB,R2,R3⟩
 case round=>
  clear hB R2 R3
  obtain⟨j,hj,rfl,hB,R2,R3⟩:=hrel
  have k2:World.cell? _ ⟨b2,29,none⟩=some (.slice a0 n cap):=(R2.cell 29).trans (ma _ _ _ _)
  by_cases cz:j<ms.length
  .refine E0 ?_;intro mA fU
   obtain⟨o,hm⟩:∃o,ms[j]=o:=⟨_,rfl⟩
   have r2:=(hM.keep hB hlt).at j cz hm;have r3:=(wR.keep hB qhx).at j cz hm;(have I2:=fun w2=>qrs hM j cz w2);(have I3:=fun w2=>qrs wR j cz w2);clear hm
   go_upto_region 6 with fail
   clear k2
   refine RD (fun W=>aP 42 W b2 (tc f g h (.slice a0 n cap))/\aP 42 W b3 (tc f g h (.slice a1 n c1))/\W.rangeAt (mb (.slice a0 n cap)) (mo (.slice a0 n cap)+5*j) (jn o)/\W.rangeAt (mb (.slice a1 n c1)) (mo (.slice a1 n c1)+5*j) (jn o)) ⟨R2,R3,r2,r3⟩ (fun _=>?_)
   (refine tq 0 (V (some ⟨b2,29,none⟩)) rfl ⟨R2,R3,r2,r3⟩ (tk 1 (.slice a0 n cap) rfl (Or.inl ⟨by kernel_rfl,by intro w hS;have hc:=(hS.1.cell 29).trans (ma _ _ _ _);go_simp⟩) ⟨R2,R3,r2,r3⟩ (tq 2 (I Z (j:Int)) rfl ⟨R2,R3,r2,r3⟩ ?_)));simp only[ZZ]
   refine tk 3 (V (some ⟨mb (.slice a0 n cap),mo (.slice a0 n cap)+5*j,none⟩)) rfl (qn6 (.tmp 34) (.tmp 35) rfl kr _ _ _ kr kr I2) ⟨R2,R3,r2,r3⟩ (tk 4 (.agg (jn o).toArray) rfl (Zl 72 (.tmp 36) rfl kr _ _ kr (jn o) (fun _ h=>h.2.2.1) _ underlying72 rfl (xR o)) ⟨R2,R3,r2,r3⟩ (tq 5 (V (some ⟨b3,29,none⟩)) rfl ⟨R2,R3,r2,r3⟩ ?_))
   simp only[ZZ];(refine tk 6 (.slice a1 n c1) rfl (Or.inl ⟨by kernel_rfl,by intro w hS;have hc:=(hS.2.1.cell 29).trans (ma _ _ _ _);go_simp⟩) ⟨R2,R3,r2,r3⟩ (tq 7 (I Z (j:Int)) rfl ⟨R2,R3,r2,r3⟩ (tk 8 (V (some ⟨mb (.slice a1 n c1),mo (.slice a1 n c1)+5*j,none⟩)) rfl (qn6 (.tmp 39) (.tmp 40) rfl kr _ _ _ kr kr I3) ⟨R2,R3,r2,r3⟩ ?_)));simp only[ZZ]
   refine tk 9 (.agg (jn o).toArray) rfl (Zl 72 (.tmp 41) rfl kr _ _ kr (jn o) (fun _ h=>h.2.2.2) _ underlying72 rfl (xR o)) ⟨R2,R3,r2,r3⟩ (tk 10 (.bool false) rfl (qry 72 (.tmp 37) (.tmp 42) rfl kr (mc o) (mc o) kr kr eqGuardType72 _ _ (fun w=>Od o o w) zm) ⟨R2,R3,r2,r3⟩ ?_)
   refine oM ?_;replace R2:aP 42 (World.drew _) b2 _:=R2;replace R3:aP 42 (World.drew _) b3 _:=R3;replace hB:=qpv hB
   go_wp2
   go_roundw
   case rel=>first|exact⟨j+1,by omega,by go_num,hB,R2,R3⟩ 
   case measure=>(rw[fU]);exact Aj (HN.out.symm▸cz)
  ·(have mA:(n:Int)<=(j:Int):=by have:=HN.out;omega);clear hj cz
   go_wp2
   go_ret
   exact⟨rfl,hB⟩
structure Ac where
 kd:Int
 n:Int
 dr:Int
 fr:ByteArray
def ac(k:Ac):Array ag:=#[I Z k.kd,I Z k.n,I Z k.dr,.string k.fr]
def Ac.wf(k:Ac):Prop:=(Lit.int .i64 k.kd).wf=true/\(Lit.int .i64 k.n).wf=true/\(Lit.int .i64 k.dr).wf=true/\k.fr.size<=maxLen
def Ac.ok(k:Ac):Prop:=(Lit.int .i64 k.kd).wf=true/\(Lit.int .i64 k.n).wf=true/\(Lit.int .i64 k.dr).wf=true/\k.fr.size<=140737488351232
def ad(H:Type)(k:Ac):mF H:=.agg [.lit (.int .i64 k.kd),.lit (.int .i64 k.n),.lit (.int .i64 k.dr),.lit (.string k.fr.data.toList)]
def rcN(c:Int)(fr:ByteArray)(i7:Bool)(lg:ByteArray):Array ag:=#[I Z c,.string fr,.bool i7,.string lg]
def Np(c:Int):Array ag:=#[I Z c,.string ak,.bool false,.string ak]
def qyt(w:af):(eM 29).run ah w=.ok (.agg (Np 0)) w:=by kernel_rfl
theorem qp0(n:Int)(w:af):(Instr.build 29 #[(0,I Z n)]).run ah w=.ok (.agg (Np n)) w:=by kernel_rfl
def qzg(n:Int):(ah.info? 29).map (·.size)=some (Np n).size:=by kernel_rfl
def qt8(t:bt)(x:aU)(ho:o.op=.build t #[(0,x)])(hw:Region.wanted o (yielded ops a.tmps)=true)(u v:ag)(hx:a.eval x=u)(hrun:∀w:af,(Instr.build t #[(0,u)]).run ah w=.ok v w)(hr:aM ah ops Q rest (a.put o.dst v) w):aM ah ops Q (o::rest) a w:=
 wpList_step fun K hK=>by
  rw[aZ hw]
  unfold Oper.wp bG
  simp only[ho,List.map_toArray,List.map_nil,aB,hx,Sem.run_bind,hrun w,Result.andThen_ok,Sem.run_pure]
  exact hK _ _ hr
def tz:Array ag:=tc (fun _=>0) (fun _=>false) (fun _=>0) (.slice none 0 0)
def qbp(w:af):(eM 42).run ah w=.ok (.agg tz) w:=by kernel_rfl
def xp(n:Int)(w:af):az ah 15 #[I Z n] w fun e w'=>e=.returned (.agg (Np n))/\aq w.heap.size w w':=by
 refine gP ?_;intro hB
 go_enter func15,ntmps15
 go_wp2_with (first|(refine gA 29 ?_;refine ay 29 qyt ?_;intro b2 w2 l2 R2 hb2;replace l2:=aw hB.size l2;replace hB:=hB.trans (hb2.mono hB.size))|((with_reducible refine iE (.build 29 #[(0,.tmp 3)]) rfl ?_);refine qt8 29 (.tmp 3) rfl rfl (I Z n) (.agg (Np n)) kr (qp0 n) ?_)|(refine gS 29 2 4 ?_;refine sx (Np n) R2 ?_;intro w3 R3 t3;replace hB:=t3.below _ _ l2 hB))
 refine bodyPost_ret (mW (p:=2) rfl _ _ _ _ rfl R3 _ underlying29 rfl (qzg n)) rfl ⟨rfl,hB⟩
structure Nt where
 loose:Bool
 acts:Nat
 left:Nat
 logged:Nat
 f:Nat->Int
 g:Nat->Bool
 h:Nat->Int
 ms:List Mp
 fs:List (Nat×Fl)
 began:Nat
 now:Int
def gu(loose:Bool):Nt:=⟨loose,0,4,0,fun _=>0,fun _=>false,fun _=>0,[],[],0,0⟩
structure Rp where
 code:Int
 fr:ByteArray
 i7:Bool
 lg:ByteArray
def Rp.cells(r:Rp):Array ag:=rcN r.code r.fr r.i7 r.lg
def eZ(e:Int):Rp:=⟨e,ak,false,ak⟩
theorem EM(e:Int):(eZ e).cells=Np e:=rfl
def dZ(k:Fl):Mp:=(k.pr,k.s,k.i,k.a,k.port)
def eV(m:Mp)(rem rp st:Int):Fl:=⟨m.1,m.2.1,m.2.2.1,m.2.2.2.1,m.2.2.2.2,rem,rp,st,0,0⟩
def Nt.find(s:Nt)(P:Fl->Bool):Option (Nat×Fl):=s.fs.find? fun x=>P x.2
def Nt.full(s:Nt):Bool:=decide (48<=s.fs.length)
def fG(fs:List (Nat×Fl))(n:Nat)(k:Fl):List (Nat×Fl):=fs.map fun x=>if x.1=n then(n,k) else x
def Nt.keep(s:Nt)(n:Nat)(k:Fl):Nt:={ s with fs:=fG s.fs n k }
def kP(s:Nt)(k:Fl):Fl:={ k with du:=s.now+cV k.pr k.st }
def Nt.begin(s:Nt)(k:Fl):Nt:={ s with fs:=s.fs++[(s.began+1,kP s k)],began:=s.began+1 }
def lD(p:bM)(m:Mp)(k:Fl):Bool:=dZ k==m&&k.rem==p.src
def lC(p:bM)(m:Mp)(k:Fl):Bool:=lD p m k&&k.rp==p.aj
def pq(m:Mp)(k:Fl):Bool:=dZ k==m
def Nt.dK(s:Nt)(p:bM)(m:Mp):Int×Nt:=
 match s.find (lC p m) with
 | some x=>(0,s.keep x.1 (cq x.2 p.flags true s.now))
 | none=>if (!s.loose&&(s.find (lD p m)).isNone)=true then(11,s) else if (p.ae != 17||s.full)=true then(11,s) else(0,s.begin (eV m p.src p.aj 2))
def Nt.i7(s:Nt)(l:List UInt8):Rp×Nt:=
 if cj l≠0 then(eZ (cj l),s) else
 if ¬(0<=(ba l).dst-3405803777/\(ba l).dst-3405803777<3) then(eZ 7,s) else
 if ((ba l).ae==1&&(ba l).flags != 0)=true then(eZ 4,s) else
 if (ba l).aG=1 then(eZ 12,s) else
 match s.ms.find? (gj (ba l).ae ((ba l).dst-3405803777) (ba l).ai) with
 | none=>(eZ 7,s)
 | some m=>
  if (s.dK (ba l) m).1≠0 then(eZ (s.dK (ba l) m).1,(s.dK (ba l) m).2) else
  (⟨lA l 1 (167772161+m.2.1) m.2.2.1,nI l 1 (167772161+m.2.1) m.2.2.1,true,ak⟩,(s.dK (ba l) m).2)
def Nt.leave(s:Nt)(l:List UInt8)(k:Fl):Rp×Nt:=
 if 0<=k.rem-3405803777/\k.rem-3405803777<3 then s.i7 (nI l 0 (3405803777+k.a) k.port).data.toList
 else(⟨lA l 0 (3405803777+k.a) k.port,nI l 0 (3405803777+k.a) k.port,false,ak⟩,s)
def Nt.refuse(s:Nt)(l:List UInt8)(why:Int):Rp×Nt:=
 if s.left=0 then(eZ why,s) else(⟨why,oP l (s.left:Int),true,ak⟩,{ s with left:=s.left-1 })
def oF(now:Int)(m:Mp)(free:Bool):Ev:=⟨now,m.2.1,m.2.2.2.1,(m.2.2.2.2-1024)/8,free⟩
def Nt.log(s:Nt)(es:List Ev):ByteArray×Nt:=
 if es.length=0 then(ak,s) else((if s.logged=0 then qx 0 0 2 (eA 6) else ak)++qy (s.logged:Int) es,{ s with logged:=s.logged+es.length })
structure MF where
 e:Int
 f:Nat->Int
 h:Nat->Int
 ms:List Mp
 m:Mp
 took:Bool
def vd.dec(f h:Nat->Int)(ms:List Mp)(p s i:Int):Decidable (vd f h ms p s i):=
 have:DecidablePred (pD f h):=fun m=>by unfold pD;exact inferInstance
 have:Decidable (jM f h ms):=by unfold jM;exact inferInstance
 have:Decidable (gM f h ms):=decidable_of_iff _ ql6.symm
 by unfold vd;exact inferInstance
def eR(f:Nat->Int)(g:Nat->Bool)(h:Nat->Int)(ms:List Mp)(p s i d:Int):MF:=
 @ite MF (vd f h ms p s i) (vd.dec f h ms p s i)
  (match ms.find? (kf p s i) with
  | some m=>⟨0,f,h,ms,m,false⟩
  | none=>
   if bV ms s=12 then⟨6,f,h,ms,fW,false⟩ else
   if (fg f g h ms p s d).e≠0 then⟨(fg f g h ms p s d).e,f,h,ms,fW,false⟩ else
   ⟨0,(fg f g h ms p s d).f,(fg f g h ms p s d).h,ms++[(p,s,i,(fg f g h ms p s d).h s.toNat-1,(fg f g h ms p s d).q)],(p,s,i,(fg f g h ms p s d).h s.toNat-1,(fg f g h ms p s d).q),(fg f g h ms p s d).took⟩)
  ⟨2,f,h,ms,fW,false⟩
def Nt.dF(s:Nt)(f h:Nat->Int)(ms:List Mp):Nt:={ s with f:=f,h:=h,ms:=ms }
def Nt.first(s:Nt)(l:List UInt8)(p:bM)(sub draw:Int):Rp×Nt:=
 if s.full=true then s.refuse l 6 else
 let o:=eR s.f s.g s.h s.ms p.ae sub p.aj draw
 if o.e≠0 then s.refuse l o.e else
 let k:=eV o.m p.dst p.ai (eI p.ae)
 let r:=((s.dF o.f o.h o.ms).begin k).leave l k
 if o.took=true then(⟨r.1.code,r.1.fr,r.1.i7,(r.2.log [oF r.2.now o.m false]).1⟩,(r.2.log [oF r.2.now o.m false]).2) else r
def cX(p:bM)(sub:Int)(k:Fl):Bool:=k.pr==p.ae&&k.s==sub&&k.i==p.aj&&k.rem==p.dst&&k.rp==p.ai
def Nt.out(s:Nt)(l:List UInt8)(draw:Int):Rp×Nt:=
 if cj l≠0 then(eZ (cj l),s) else
 if ¬(0<=(ba l).src-167772161/\(ba l).src-167772161<8) then(eZ 7,s) else
 if ((ba l).ae==1&&(ba l).flags != 8)=true then(eZ 4,s) else
 if (ba l).aG=1 then(eZ 12,s) else
 match s.find (cX (ba l) ((ba l).src-167772161)) with
 | some x=>(s.keep x.1 (cq x.2 (ba l).flags false s.now)).leave l (cq x.2 (ba l).flags false s.now)
 | none=>if mj (ba l)=false then(eZ 11,s) else s.first l (ba l) ((ba l).src-167772161) draw
def dI(fs:List (Nat×Fl)):Int->Option Int:=fun i=>(fs.find? fun x=>decide ((x.1:Int)=i)).map (·.2.du)
def Nt.cK(s:Nt)(t:Int):List Int:=js (dz (dI s.fs)) ((s.fs.filter fun x=>decide (x.2.du<=t)).map fun x=>(x.1:Int))
def Nt.endF(s:Nt)(i:Int):Mp×Nt:=(((s.fs.find? fun x=>decide ((x.1:Int)=i)).map fun x=>dZ x.2).getD fW,{ s with fs:=s.fs.filter fun x=>decide ((x.1:Int)≠i) })
def sr(f h:Nat->Int)(ms:List Mp)(m:Mp):(Nat->Int)×(Nat->Int)×Bool:=
 if (dH ms m).any (fun o=>eu o==eu m)=true then(f,h,false) else(lu f m,zi f h m,true)
def Nt.cu(s:Nt)(m:Mp):Bool×Nt:=
 if (s.find (pq m)).isSome=true then(false,s) else((sr s.f s.h s.ms m).2.2,s.dF (sr s.f s.h s.ms m).1 (sr s.f s.h s.ms m).2.1 (dH s.ms m))
def qC(a:List Ev×Nt)(i:Int):List Ev×Nt:=
 (if ((a.2.endF i).2.cu (a.2.endF i).1).1=true then a.1++[oF ((a.2.endF i).2.cu (a.2.endF i).1).2.now (a.2.endF i).1 true] else a.1,((a.2.endF i).2.cu (a.2.endF i).1).2)
def Nt.tick(s:Nt)(n:Int):Rp×Nt:=
 if n<1\/549755813888-s.now<n then(eZ 2,s) else
 let r:=(s.cK (s.now+n)).foldl qC ([],{ s with left:=min (s.left+n.toNat) 4,now:=s.now+n })
 (⟨0,ak,false,(r.2.log r.1).1⟩,(r.2.log r.1).2)
def Nt.drain(s:Nt)(a:Int)(b:Bool):Rp×Nt:=(eZ (yI s.g a b),{ s with g:=BX s.g a b })
def Nt.act(s:Nt)(a:Ac):Rp×Nt:=
 if 300<=s.acts then(eZ 6,s) else
 let t:={ s with acts:=s.acts+1 }
 if a.kd=1 then t.out a.fr.data.toList a.dr else if a.kd=2 then t.i7 a.fr.data.toList else if a.kd=3 then t.tick a.n else if a.kd=4 then t.drain a.n true else if a.kd=5 then t.drain a.n false else(eZ 4,t)
section
open Go.Maps
def q9v{j:Fl}(h:fd Unit k=fd Unit j):k=j:=by
 cases k;cases j;simp[fd] at h;obtain⟨⟨h0,h1,h2,h3,h4⟩,h5,h6,h7,h8,h9⟩:=h;subst h0 h1 h2 h3 h4 h5 h6 h7 h8 h9;rfl
def isI:ag->Bool
 | I Z _=>true
 | _=>false
def zI:ag->Int
 | .int _ n=>n
 | _=>0
def flZ(v:Nat->ag):Fl:=⟨zI (v 0),zI (v 1),zI (v 2),zI (v 3),zI (v 4),zI (v 5),zI (v 6),zI (v 7),zI (v 8),zI (v 9)⟩
theorem qhA(h:isI v=true):v=I Z (zI v):=by
 unfold isI at h
 split at h
 .rfl
 .cases h
def vU(v:ag):Option (mF Unit×List MemPlace):=match v with
 | .agg cs=>if cs.size=10/\cs.all isI=true then some (fd Unit (flZ fun i=>cs.getD i undef),[]) else none
 | _=>none
def qgm(k:Fl):vU (.agg (fc k))=some (fd Unit k,[]):=by kernel_rfl
theorem qol{ps:List MemPlace}(h:vU v=some (fd Unit k,ps)):v=.agg (fc k):=by
 unfold vU at h
 split at h
 .rename_i cs
  split at h
  .rename_i hc
   obtain rfl:=q9v (Prod.ext_iff.1 (Option.some.inj h)).1
   obtain⟨h1,h2⟩:=hc
   rw[Array.all_eq_true] at h2
   unfold fc flZ
   congr 1
   refine Array.ext h1 fun i q _=>?_
   rw[qhA (h2 i q)]
   have:i<10:=by omega
   rcases i with _|_|_|_|_|_|_|_|_|_|i<;>first|omega|simp[Array.getD,q]
  .cases h
 .cases h
def uo:Fl:=⟨0,0,0,0,0,0,0,0,0,0⟩
def FE(w:af):(eM 75).run ah w=.ok (.agg (fc uo)) w:=by kernel_rfl
def mq(fs:List (Nat×Fl)):Int->Option Fl:=fun i=>(fs.find? fun x=>decide ((x.1:Int)=i)).map (·.2)
structure Cg(D:mF Unit)(fl:Int->Option Fl):Prop where
 tidy:Tidy D
 has:∀i,Maps.has D (kI i)=(fl i).isSome
 Gc:∀i,D.atKey (kI i) (fd Unit uo)=fd Unit ((fl i).getD uo)
def zM(fl:Int->Option Fl)(i:Int)(k:Fl):Int->Option Fl:=fun j=>if j=i then some k else fl j
def Nq(fl:Int->Option Fl)(i:Int):Int->Option Fl:=fun j=>if j=i then none else fl j
def qyy:Cg (.map []) (fun _=>none):=⟨tidy_empty,fun i=>rfl,fun i=>rfl⟩
def Cg.put{fl:Int->Option Fl}(h:Cg D fl)(i:Int)(k:Fl):Cg (D.put (kI i) (fd Unit k)) (zM fl i k):=by
 refine⟨h.tidy.put (Pv i) _,fun j=>?_,fun j=>?_⟩
 .by_cases e:j=i
  .subst e;rw[has_put_same h.tidy.isMap (Pv _)];simp[zM]
  .rw[has_put_other (Ie e),h.has];simp[zM,e]
 .by_cases e:j=i
  .subst e;rw[atKey_put_same h.tidy.isMap (Pv _)];simp[zM]
  .rw[atKey_put_other (Ie e),h.Gc];simp[zM,e]
def Cg.del{fl:Int->Option Fl}(h:Cg D fl)(i:Int):Cg (D.del (kI i)) (Nq fl i):=by
 refine⟨h.tidy.del _,fun j=>?_,fun j=>?_⟩
 .by_cases e:j=i
  .subst e;rw[has_del_same];simp[Nq]
  .rw[has_del_other (Ie e),h.has];simp[Nq,e]
 .by_cases e:j=i
  .subst e;rw[atKey_del_same];simp[Nq]
  .rw[atKey_del_other (Ie e),h.Gc];simp[Nq,e]
abbrev yM(w:af)(b:Nat)(D:mF Unit):Prop:=w.ownsMap ah 3 vU b (Maps.size D) D
def qwf(h:w.ownsMap prog 3 vU b n D):yM w b D:=by
 obtain⟨es,clock,h1,h2,h3,h4⟩:=h
 refine⟨es,clock,h1,h2,?_,h4⟩
 rw[h4]
 show es.size<=List.length _
 rw[length_sorted]
 simp
def Ig{k:bt}(h:w.ownsMap ah k R b n D)(he:w'.heap[b]?=w.heap[b]?):w'.ownsMap ah k R b n D:=by
 obtain⟨es,clock,hb,r⟩:=h
 exact⟨es,clock,he.trans hb,r⟩
theorem qpx{k:bt}(h:w.ownsMap ah k R b n D){m:Nat×Nat}(hr:w.heap[c]?=some (.cells cs t m)):b≠c:=by
 obtain⟨es,clock,hb,r⟩:=h
 grind
theorem yy(h:w.ownsRow base e size v n xs)(hs:∀c,v.ownBlock=some c->w'.heap[c]?=w.heap[c]?):w'.ownsRow base e size v n xs:=by
 refine⟨h.1,?_⟩
 rcases h.2 with e|⟨b,cap,cur,hv,fj,hh,r⟩
 .grind
 .exact .inr ⟨b,cap,cur,hv,fj,(hs b (by rw[hv];rfl)).trans hh,r⟩
theorem zN(h:w.ownsRow base e size v n xs)(hc:v.ownBlock=some c):∃cur m,w.heap[c]?=some (.cells cur e m):=by
 rcases h.2 with⟨e1,_⟩|⟨b,cap,cur,hv,fj,hh,r⟩
 .rw[e1] at hc;simp[Value.ownBlock] at hc
 .rw[hv] at hc
  have:b=c:=Option.some.inj hc
  grind
def EA(h:cE w v ms)(hs:0<ms.length->w'.heap[mb v]?=w.heap[mb v]?):cE w' v ms:=by
 obtain⟨a,cap,e,h1,h2,h3⟩:=h
 refine⟨a,cap,e,h1,fun j hj i u hu=>?_,h3⟩
 have:=h2 j hj i u hu
 unfold World.cell? at *
 rw[hs om]
 exact this
def q41(h:cE w v ms)(h0:0<ms.length):∃cs t m,w.heap[mb v]?=some (.cells cs t m):=by
 obtain⟨a,cap,e,h1,h2,h3⟩:=h
 exact Ya (h2 0 h0 0 _ rfl)
theorem j9.turn{o:Nat}(h:j9 w b t cs o now du cnt F)(hr:w'.heap[b]?=some (.cells cs' t (0,0)))(hs:cs'.size=cs.size)(hc:∀i,o<=i->i<o+450->cs'[i]?=cs[i]?)(ho:∀c,c≠b->w'.heap[c]?=w.heap[c]?):j9 w' b t cs' o now du cnt F:=by
 obtain⟨mb,D,vs,L,hW,rest⟩:=h
 refine⟨mb,D,vs,L,⟨hr,by rw[hs];exact hW.size,by rw[hc o (au _) om];exact hW.c0,by rw[hc (o+1) om om];exact hW.c1,fun k hk=>by rw[hc (o+2+k) om om];exact hW.cl k hk,fun k hk=>yy (hW.own k hk) (fun c hcc=>ho c (fun e=>hW.mM k hk (e▸hcc))),hW.nil,hW.apart,hW.mM,?_⟩,rest⟩
 rcases hW.map with h0|⟨bm,n,h1,h2,h3⟩
 .grind
 .exact .inr ⟨bm,n,h1,h2,Ig h3 (ho bm (h3.pS hW.row))⟩
structure bE(w:af)(b:Nat)(cs:Array ag)(v ov:ag)(fm:Option Nat)(D:mF Unit)(Fw:Nat->Prop)(cnt:Nat)(s:Nt)(tm:Int->Option Int)(is:List Int):Prop where
 iR:j9 w b 62 cs 37 s.now tm cnt Fw
 size:cs.size=487
 c0:cs[0]?=some (.bool s.loose)
 c1:cs[1]?=some (.int .i64 (s.acts:Int))
 c2:cs[2]?=some (.int .i64 (s.left:Int))
 c3:cs[3]?=some (.int .i64 (s.logged:Int))
 ct:∀k,k<30->cs[4+k]?=(tc s.f s.g s.h v)[k]?
 kj:cs[34]?=some (.map fm)
 nj:cs[35]?=some ov
 rr:cs[36]?=some (.int .i64 (s.began:Int))
 maps:cE w v s.ms
 nil:jw v
 ids:gT w ov is
 fu:(fm=none/\D=.map [])\/∃bm,fm=some bm/\yM w bm D
 reads:Cg D (mq s.fs)
 sized:Maps.size D=s.fs.length
 few:cnt<=s.fs.length
 jV:∀c,fm=some c->¬Fw c
 jW:∀c,ov.ownBlock=some c->¬Fw c
 im:0<s.ms.length->¬Fw (mb v)/\ov.ownBlock≠some (mb v)
 up:s.fs.Pairwise (fun x y=>x.1<y.1)
 num:∀x∈s.fs,x.1<=s.began
 bg:s.began<=700
def oV(Fw:Nat->Prop)(fm:Option Nat)(ov v:ag)(ms:List Mp)(c:Nat):Prop:=Fw c\/fm=some c\/ov.ownBlock=some c\/(0<ms.length/\c=mb v)
def cC(w:af)(b:Nat)(s:Nt)(tm:Int->Option Int)(F:Nat->Prop):Prop:=
 ∃cs v ov fm D Fw cnt,bE w b cs v ov fm D Fw cnt s tm (s.fs.map fun x=>(x.1:Int))/\∀c,oV Fw fm ov v s.ms c->F c
section
variable {w w':World} {b:Nat} {cs cs':Array Value} {v ov:Value} {fm:Option Nat} {D:DataW Unit} {Fw:Nat->Prop} {cnt:Nat} {s:Nt} {tm:Int->Option Int} {is:List Int}
def bE.row(h:bE w b cs v ov fm D Fw cnt s tm is):aP 62 w b cs:=h.iR.row
def bE.yN(h:bE w b cs v ov fm D Fw cnt s tm is):Fw b:=h.iR.own
theorem bE.keep(h:bE w b cs v ov fm D Fw cnt s tm is)(hg:Gr G w w')(hG:∀c,oV Fw fm ov v s.ms c->¬G c):bE w' b cs v ov fm D Fw cnt s tm is:=by
 refine⟨h.iR.keep hg (fun c hc=>hG c (.inl hc)),h.size,h.c0,h.c1,h.c2,h.c3,h.ct,h.kj,h.nj,h.rr,EA h.maps (fun h0=>hg.block _ (h.maps.lt h0) (hG _ (.inr (.inr (.inr ⟨h0,rfl⟩))))),h.nil,yy h.ids (fun c hc=>?_),?_,h.reads,h.sized,h.few,h.jV,h.jW,h.im,h.up,h.num,h.bg⟩
 .obtain⟨cur,m,hh⟩:=zN h.ids hc
  exact hg.block c (aV.1 hh).1 (hG c (.inr (.inr (.inl hc))))
 .rcases h.fu with h0|⟨bm,h1,h2⟩
  .grind
  .exact .inr ⟨bm,h1,Ig h2 (hg.block bm h2.lt (hG bm (.inr (.inl h1))))⟩
def bE.below(h:bE w b cs v ov fm D Fw cnt s tm is)(hb:aq w.heap.size w w'):bE w' b cs v ov fm D Fw cnt s tm is:=h.keep (Gr.cU (F:=fun _=>False) hb) (fun _ _=>id)
def bE.lt(h:bE w b cs v ov fm D Fw cnt s tm is):b<w.heap.size:=h.row.lt
def bE.Pw(h:bE w b cs v ov fm D Fw cnt s tm is):ov.ownBlock≠some b:=fun e=>h.jW b e h.yN
def bE.fmb(h:bE w b cs v ov fm D Fw cnt s tm is):fm≠some b:=fun e=>h.jV b e h.yN
def bE.msb(h:bE w b cs v ov fm D Fw cnt s tm is)(h0:0<s.ms.length):mb v≠b:=fun e=>(h.im h0).1 (e▸h.yN)
theorem bE.Nr(h:bE w b cs v ov fm D Fw cnt s tm is)(hc:fm=some c):ov.ownBlock≠some c:=by
 rcases h.fu with⟨h0,_⟩|⟨bm,h1,h2⟩
 .grind
 .intro e;obtain⟨cur,m,hh⟩:=zN h.ids e
  grind [qpx]
theorem bE.Tt(h:bE w b cs v ov fm D Fw cnt s tm is)(hc:fm=some c)(h0:0<s.ms.length):mb v≠c:=by
 rcases h.fu with⟨h1,_⟩|⟨bm,h1,h2⟩
 .grind
 .intro e;obtain⟨cur,t,m,hh⟩:=q41 h.maps h0
  grind [qpx]
end
def ar(h:p):Hid p:=h
def qfs(m:Nat):Value.int .i64 ((m:Int)+1)=I Z ((m+1:Nat):Int):=by simp
def qg6{m:Nat}(h:wrap64 ((m:Int)+1)=(m:Int)+1):Value.int .i64 (wrap64 ((m:Int)+1))=I Z ((m+1:Nat):Int):=by rw[h];simp
section
variable {w w':World} {b:Nat} {cs cs':Array Value} {v ov:Value} {fm:Option Nat} {D:DataW Unit} {Fw:Nat->Prop} {cnt:Nat} {s:Nt} {tm:Int->Option Int} {is:List Int}
theorem lh(cs:Array ag)(i j:Nat)(x:ag)(h:i≠j):(cs.setIfInBounds i x)[j]?=cs[j]?:=by grind
theorem Px(cs:Array ag)(i:Nat)(x:ag)(h:i<cs.size):(cs.setIfInBounds i x)[i]?=some x:=by grind
theorem bE.cells(h:bE w b cs v ov fm D Fw cnt s tm is)(R:aP 62 w' b cs')(T:gG b w w')(hs:cs'.size=cs.size)(hw:∀i,4<=i->i≠36->cs'[i]?=cs[i]?)(s':Nt)(hn:s'.now=s.now)(hf:s'.f=s.f)(hg:s'.g=s.g)(hh:s'.h=s.h)(uF:s'.ms=s.ms)(jS:s'.fs=s.fs)(c0:cs'[0]?=some (.bool s'.loose))(c1:cs'[1]?=some (I Z (s'.acts:Int)))(c2:cs'[2]?=some (I Z (s'.left:Int)))(c3:cs'[3]?=some (I Z (s'.logged:Int)))(rr:cs'[36]?=some (I Z (s'.began:Int)))(hbg:s.began<=s'.began/\s'.began<=700):bE w' b cs' v ov fm D Fw cnt s' tm is:=by
 refine⟨?_,hs.trans h.size,c0,c1,c2,c3,fun k hk=>?_,by rw[hw 34 om om];exact h.kj,by rw[hw 35 om om];exact h.nj,rr,by rw[uF];exact EA h.maps (fun h0=>T.other _ (h.msb h0)),h.nil,yy h.ids (fun c hc=>T.other c (fun e=>h.Pw (e▸hc))),?_,by rw[jS];exact h.reads,by rw[jS];exact h.sized,by rw[jS];exact h.few,h.jV,h.jW,by rw[uF];exact h.im,by rw[jS];exact h.up,by rw[jS];exact fun x hx=>aw (h.num x hx) hbg.1,hbg.2⟩
 .rw[hn];exact h.iR.turn R hs (fun i h1 h2=>hw i om om) T.other
 .rw[hw (4+k) om om,h.ct k hk,hf,hg,hh]
 .rcases h.fu with h0|⟨bm,h1,h2⟩
  .grind
  .exact .inr ⟨bm,h1,Ig h2 (T.other bm (fun e=>h.fmb (e▸h1)))⟩
def bE.Gd(h:bE w b cs v ov fm D Fw cnt s tm is)(n:Nat)(R:aP 62 w' b (cs.setIfInBounds 1 (I Z (n:Int))))(T:gG b w w'):bE w' b (cs.setIfInBounds 1 (I Z (n:Int))) v ov fm D Fw cnt { s with acts:=n } tm is:=
 h.cells R T zm (fun i h1 _=>lh _ _ _ _ om) _ rfl rfl rfl rfl rfl rfl ((lh _ _ _ _ om).trans h.c0) (Px _ _ _ (by rw[h.size];omega)) ((lh _ _ _ _ om).trans h.c2) ((lh _ _ _ _ om).trans h.c3) ((lh _ _ _ _ om).trans h.rr) ⟨au _,h.bg⟩
def bE.Ge(h:bE w b cs v ov fm D Fw cnt s tm is)(n:Nat)(R:aP 62 w' b (cs.setIfInBounds 2 (I Z (n:Int))))(T:gG b w w'):bE w' b (cs.setIfInBounds 2 (I Z (n:Int))) v ov fm D Fw cnt { s with left:=n } tm is:=
 h.cells R T zm (fun i h1 _=>lh _ _ _ _ om) _ rfl rfl rfl rfl rfl rfl ((lh _ _ _ _ om).trans h.c0) ((lh _ _ _ _ om).trans h.c1) (Px _ _ _ (by rw[h.size];omega)) ((lh _ _ _ _ om).trans h.c3) ((lh _ _ _ _ om).trans h.rr) ⟨au _,h.bg⟩
def bE.yO(h:bE w b cs v ov fm D Fw cnt s tm is)(n:Nat)(R:aP 62 w' b (cs.setIfInBounds 3 (I Z (n:Int))))(T:gG b w w'):bE w' b (cs.setIfInBounds 3 (I Z (n:Int))) v ov fm D Fw cnt { s with logged:=n } tm is:=
 h.cells R T zm (fun i h1 _=>lh _ _ _ _ om) _ rfl rfl rfl rfl rfl rfl ((lh _ _ _ _ om).trans h.c0) ((lh _ _ _ _ om).trans h.c1) ((lh _ _ _ _ om).trans h.c2) (Px _ _ _ (by rw[h.size];omega)) ((lh _ _ _ _ om).trans h.rr) ⟨au _,h.bg⟩
def bE.Ch(h:bE w b cs v ov fm D Fw cnt s tm is)(n:Nat)(hn:s.began<=n/\n<=700)(R:aP 62 w' b (cs.setIfInBounds 36 (I Z (n:Int))))(T:gG b w w'):bE w' b (cs.setIfInBounds 36 (I Z (n:Int))) v ov fm D Fw cnt { s with began:=n } tm is:=
 h.cells R T zm (fun i h1 h2=>lh _ _ _ _ (fun e=>h2 e.symm)) _ rfl rfl rfl rfl rfl rfl ((lh _ _ _ _ om).trans h.c0) ((lh _ _ _ _ om).trans h.c1) ((lh _ _ _ _ om).trans h.c2) ((lh _ _ _ _ om).trans h.c3) (Px _ _ _ (by rw[h.size];omega)) hn
end
theorem j9.bound{o:Nat}(h:j9 w b t cs o now du cnt F):j9 w b t cs o now du cnt (fun c=>F c/\c<w.heap.size):=by
 obtain⟨mb,D,vs,L,hW,h1,h2,h3,h4,h5,h6,hF⟩:=h
 refine⟨mb,D,vs,L,hW,h1,h2,h3,h4,h5,h6,fun c hc=>⟨hF c hc,?_⟩⟩
 rcases hc with rfl|hm|⟨k,hk,ho⟩
 .exact hW.lt
 .rcases hW.map with⟨e,_⟩|⟨bm,n,e,_,uV⟩
  .grind
  .rw[e] at hm;cases hm;exact uV.lt
 .obtain⟨cur,m,hh⟩:=zN (hW.own k hk) ho
  grind
theorem cC.bound{s:Nt}(h:cC w b s tm F):cC w b s tm (fun c=>F c/\c<w.heap.size):=by
 obtain⟨cs,v,ov,fm,D,Fw,cnt,M,hF⟩:=h
 refine⟨cs,v,ov,fm,D,fun c=>Fw c/\c<w.heap.size,cnt,⟨M.iR.bound,M.size,M.c0,M.c1,M.c2,M.c3,M.ct,M.kj,M.nj,M.rr,M.maps,M.nil,M.ids,M.fu,M.reads,M.sized,M.few,fun c hc hh=>M.jV c hc hh.1,fun c hc hh=>M.jW c hc hh.1,fun h0=>⟨fun hh=>(M.im h0).1 hh.1,(M.im h0).2⟩,M.up,M.num,M.bg⟩,fun c hc=>?_⟩
 rcases hc with h1|h1|h1|⟨h1,rfl⟩
 .exact⟨hF c (.inl h1.1),h1.2⟩
 .refine⟨hF c (.inr (.inl h1)),?_⟩
  rcases M.fu with⟨e,_⟩|⟨bm,e,hm⟩
  .grind
  .rw[e] at h1;cases h1;exact hm.lt
 .refine⟨hF c (.inr (.inr (.inl h1))),?_⟩
  obtain⟨cur,m,hh⟩:=zN M.ids h1
  grind
 .exact⟨hF _ (.inr (.inr (.inr ⟨h1,rfl⟩))),M.maps.lt h1⟩
structure Nb(w0 W:af)(b:Nat)(s:Nt)(tm:Int->Option Int)(F0 F:Nat->Prop)(L:List (Nat×Obj)):Prop where
 nat:cC W b s tm F
 gr:Gr F0 w0 W
 sub:∀c,F c->F0 c\/w0.heap.size<=c
 bd:∀c,F c->c<W.heap.size
 nodup:(L.map (·.1)).Nodup
 rows:∀y∈L,W.heap[y.1]?=some y.2/\w0.heap.size<=y.1/\¬F y.1
def ob(t:bt)(cs:Array ag):Obj:=.cells cs t (0,0)
section
variable {w0 W W':World} {b:Nat} {s:Nt} {tm:Int->Option Int} {F0 F:Nat->Prop} {L:List (Nat×Obj)}
def cC.start{s:Nt}(h:cC w b s tm F):Nb w w b s tm F (fun c=>F c/\c<w.heap.size) []:=⟨h.bound,Gr.refl _ _,fun c hc=>.inl hc.1,fun c hc=>hc.2,by simp,by simp⟩
def cC.keep{s:Nt}(h:cC w b s tm F)(hg:Gr G w w')(hG:∀c,F c->¬G c):cC w' b s tm F:=by
 obtain⟨cs,v,ov,fm,D,Fw,cnt,M,hF⟩:=h
 exact⟨cs,v,ov,fm,D,Fw,cnt,M.keep hg (fun c hc=>hG c (hF c hc)),hF⟩
def cC.below{s:Nt}(h:cC w b s tm F)(hb:aq w.heap.size w w'):cC w' b s tm F:=h.keep (Gr.cU (F:=fun _=>False) hb) (fun _ _=>id)
def Nb.row(h:Nb w0 W b s tm F0 F L)(i:Nat)(hi:L[i]?=some (c,ob t cs)):aP t W c cs:=(h.rows _ (aH hi)).1
def Nb.lt(h:Nb w0 W b s tm F0 F L)(hc:c∈L.map (·.1)):c<W.heap.size:=by
 obtain⟨y,hy,rfl⟩:=bQ.1 hc
 exact(aV.1 (h.rows y hy).1).1
def Nb.call(h:Nb w0 W b s tm F0 F L){s':Nt}{F':Nat->Prop}(hn:cC W' b s' zL F')(hg:Gr F W W')(hF:∀c,F' c->F c\/W.heap.size<=c):Nb w0 W' b s' zL F0 (fun c=>F' c/\c<W'.heap.size) L:=by
 refine⟨hn.bound,h.gr.trans hg (fun x hx=>h.sub x hx),fun c hc=>?_,fun c hc=>hc.2,h.nodup,fun y hy=>⟨?_,(h.rows y hy).2.1,fun hc=>?_⟩⟩
 .rcases hF c hc.1 with h1|h1
  .exact h.sub c h1
  .exact .inr (aw h.gr.size h1)
 .have hl:=h.lt (bQ.2 ⟨y,hy,rfl⟩)
  exact(hg.block _ hl (h.rows y hy).2.2).trans (h.rows y hy).1
 .have hl:=h.lt (bQ.2 ⟨y,hy,rfl⟩)
  rcases hF _ hc.1 with h1|h1
  .exact(h.rows y hy).2.2 h1
  .omega
def Nb.below(h:Nb w0 W b s tm F0 F L)(hb:aq W.heap.size W W'):Nb w0 W' b s tm F0 F L:=
 ⟨h.nat.below hb,h.gr.trans (Gr.cU (F:=fun _=>False) hb) (fun x hx=>hx.elim),h.sub,fun c hc=>bi (h.bd c hc) hb.size,h.nodup,fun y hy=>⟨(hb.block _ (h.lt (bQ.2 ⟨y,hy,rfl⟩))).trans (h.rows y hy).1,(h.rows y hy).2⟩⟩
def Nb.drew(h:Nb w0 W b s tm F0 F L):Nb w0 W.drew b s tm F0 F L:=h.below (Below.refl _ _).drew
def Nb.drewN(h:Nb w0 W b s tm F0 F L)(n:Nat):Nb w0 (W.drewN n) b s tm F0 F L:=h.below ⟨rfl,rfl,rfl,au _,fun _ _=>rfl⟩
def Nb.alloc(h:Nb w0 W b s tm F0 F L){o:Obj}(hl:W.heap.size<=c)(R:W'.heap[c]?=some o)(hb:aq W.heap.size W W'):Nb w0 W' b s tm F0 F ((c,o)::L):=by
 have h':=h.below hb
 refine⟨h'.nat,h'.gr,h'.sub,h'.bd,?_,fun y hy=>?_⟩
 .rw[aB,List.nodup_cons]
  exact⟨fun hm=>by have:=h.lt hm;simp only at *;omega,h.nodup⟩
 .rcases fO.1 hy with rfl|hy
  .exact⟨R,aw h.gr.size hl,fun hF=>by have:=h.bd c hF;omega⟩
  .exact h'.rows y hy
theorem Nb.turn(h:Nb w0 W b s tm F0 F L)(i:Nat)(hi:L[i]?=some (c,ob t cs))(R:aP t W' c cs')(T:gG c W W'):Nb w0 W' b s tm F0 F (L.set i (c,ob t cs')):=by
 have hlt:i<L.length:=(aJ.1 hi).1
 have hm:(L.set i (c,ob t cs')).map (·.1)=L.map (·.1):=by
  apply List.ext_getElem?
  grind
 have hc:=h.rows _ (aH hi);have hB:aq c W W':=T.below c W (au _) (Below.refl _ _);(have hG:Gr (fun x=>x=c) W W':=⟨hB.os,hB.tape,hB.output,hB.size,fun x hx hn=>T.other x hn⟩)
 refine⟨h.nat.keep hG (fun x hx e=>hc.2.2 (e▸hx)),h.gr.trans hG (fun x hx=>.inr (hx▸hc.2.1)),h.sub,fun x hx=>bi (h.bd x hx) (Nat.le_of_eq T.size.symm),by rw[hm];exact h.nodup,fun y hy=>?_⟩
 obtain⟨j,hj⟩:=List.mem_iff_getElem?.1 hy
 rw[List.getElem?_set] at hj
 by_cases m6:i=j
 .subst m6
  rw[aZ rfl,aZ hlt] at hj
  obtain rfl:=Option.some.inj hj
  exact⟨R,hc.2⟩
 .rw[aT m6] at hj
  have hy':=aH hj
  refine⟨(T.other _ (fun e=>m6 ?_)).trans (h.rows y hy').1,(h.rows y hy').2⟩
  (have e1:(L.map (·.1))[i]?=some c:=by rw[eh,hi];rfl);(have e2:(L.map (·.1))[j]?=some c:=by rw[eh,hj];simp[e])
  exact(List.getElem?_inj (by simpa using hlt) h.nodup).1 (by rw[e1,e2])
end
def qfk(R:aP 75 w b (fc k)):w.rangeAt b 0 (jn (dZ k)):=R.range (fun j v hv=>by
 have hj:j<5:=(aJ.1 hv).1;rw[Nat.zero_add]
 rcases(show j=0\/j=1\/j=2\/j=3\/j=4 by omega) with rfl|rfl|rfl|rfl|rfl<;>exact hv)
def vV(h:p:=by
 go_ret
 exact⟨(congrArg (fun z=>Ending.returned (Value.bool z)) HR.out).symm,B.base⟩):p:=h
def oo(h:p:=by
 go_enter func67,ntmps67
 go_wp2_with (first|(refine gB 75 0 ?_;refine bx 75 (.tmp 0) (fc k) ?_;intro b3 w9 l9 R9 h9;replace B:=B.alloc l9 R9 h9;clear R9 h9 l9)|(refine gL 72 6 ?_;refine wpList_load_mid rfl 72 (.tmp 6) rfl _ _ rfl (jn (dZ k)) _ (qfk (B.row 0 rfl)) underlying72 rfl (xR _) ?_;rw[Ag])|(refine gA 72 ?_;refine ax 5 72 uW ?_;intro b5 w9 l9 R9 h9;replace B:=B.alloc l9 R9 h9;clear R9 h9 l9)|(refine gS 72 5 7 ?_;refine sx (mc (dZ k)) (B.row 0 rfl) ?_;intro w9 R9 t9;replace B:=B.turn 0 rfl R9 t9;clear R9 t9)|(refine gL 3 8 ?_;refine fx (B.row 0 rfl) (k.pr) ?_)|(refine gL 3 10 ?_;refine fx (Rp.below B.base) (p.ae) ?_)|(refine gL 3 14 ?_;refine fx (B.row 0 rfl) (k.s) ?_)|(refine gL 3 2 ?_;refine fx (Rs.below B.base) (sub) ?_)|(refine gL 3 20 ?_;refine fx (B.row 0 rfl) (k.i) ?_)|(refine gL 3 22 ?_;refine fx (Rp.below B.base) (p.aj) ?_)|(refine gL 3 27 ?_;refine fx (B.row 1 rfl) (k.rem) ?_)|(refine gL 3 29 ?_;refine fx (Rp.below B.base) (p.dst) ?_)|(refine gL 3 34 ?_;refine fx (B.row 1 rfl) (k.rp) ?_)|(refine gL 3 36 ?_;refine fx (Rp.below B.base) (p.ai) ?_))
 exact vV):p:=h
def qvj(k:Fl)(p:bM)(sub:Int)(bp bs:Nat)(w:af)(Rp:aP 77 w bp (dm p))(Rs:aP 3 w bs #[I Z sub]):az ah 67 #[.agg (fc k),V (some ⟨bp,0,none⟩),V (some ⟨bs,0,none⟩)] w fun e w'=>e=.returned (.bool (cX p sub k))/\aq w.heap.size w w':=by
 have B:=Bd.start w
 cases e1:(k.pr==p.ae) with
 | false=>
  have HR:aK (cX p sub k=false):=ar (by simp only[cX,e1];try rfl)
  exact oo
 | true=>
  cases e2:(k.s==sub) with
  | false=>
   have HR:aK (cX p sub k=false):=ar (by simp only[cX,e1,e2];try rfl)
   exact oo
  | true=>
   cases e3:(k.i==p.aj) with
   | false=>
    have HR:aK (cX p sub k=false):=ar (by simp only[cX,e1,e2,e3];try rfl)
    exact oo
   | true=>
    cases e4:(k.rem==p.dst) with
    | false=>
     have HR:aK (cX p sub k=false):=ar (by simp only[cX,e1,e2,e3,e4];try rfl)
     exact oo
    | true=>
     cases e5:(k.rp==p.ai) with
     | false=>
      have HR:aK (cX p sub k=false):=ar (by simp only[cX,e1,e2,e3,e4,e5];try rfl)
      exact oo
     | true=>
      have HR:aK (cX p sub k=true):=ar (by simp only[cX,e1,e2,e3,e4,e5];try rfl)
      exact oo
def vW(h:p:=by
 go_enter func78,ntmps78
 go_wp2_with (first|(refine gB 75 0 ?_;refine bx 75 (.tmp 0) (fc k) ?_;intro b3 w9 l9 R9 h9;replace B:=B.alloc l9 R9 h9;clear R9 h9 l9)|(refine gL 72 5 ?_;refine wpList_load_mid rfl 72 (.tmp 5) rfl _ _ rfl (jn (dZ k)) _ (qfk (B.row 0 rfl)) underlying72 rfl (xR _) ?_;rw[Ag])|(refine gL 72 1 ?_;refine lx 72 (.tmp 1) (mc m) (Rm.below B.base) ?_)|((with_reducible refine iE (.binOp .eql 72 (.tmp 6) (.tmp 7) 72) rfl ?_);refine zX 72 (.tmp 6) (.tmp 7) rfl kr (mc (dZ k)) (mc m) rfl rfl eqGuardType72 _ _ (Od (dZ k) m _) rfl ?_;(try rw[e1]))|(refine gL 3 10 ?_;refine fx (B.row 0 rfl) (k.rem) ?_)|(refine gL 3 12 ?_;refine fx (Rp.below B.base) (p.src) ?_))
 exact vV):p:=h
def qra(k:Fl)(p:bM)(m:Mp)(bm bp:Nat)(w:af)(Rm:aP 72 w bm (mc m))(Rp:aP 77 w bp (dm p)):az ah 78 #[.agg (fc k),V (some ⟨bm,0,none⟩),V (some ⟨bp,0,none⟩)] w fun e w'=>e=.returned (.bool (lD p m k))/\aq w.heap.size w w':=by
 have B:=Bd.start w
 cases e1:(dZ k==m) with
 | false=>
  have HR:aK (lD p m k=false):=ar (by simp only[lD,e1];try rfl)
  exact vW
 | true=>
  cases e2:(k.rem==p.src) with
  | false=>
   have HR:aK (lD p m k=false):=ar (by simp only[lD,e1,e2];try rfl)
   exact vW
  | true=>
   have HR:aK (lD p m k=true):=ar (by simp only[lD,e1,e2];try rfl)
   exact vW
def Cj(h:p:=by
 go_enter func96,ntmps96
 go_wp2_with (first|(refine gB 75 0 ?_;refine bx 75 (.tmp 0) (fc k) ?_;intro b2 w9 l9 R9 h9;replace B:=B.alloc l9 R9 h9;clear R9 h9 l9)|(refine gL 72 4 ?_;refine wpList_load_mid rfl 72 (.tmp 4) rfl _ _ rfl (jn (dZ k)) _ (qfk (B.row 0 rfl)) underlying72 rfl (xR _) ?_;rw[Ag])|(refine gL 72 1 ?_;refine lx 72 (.tmp 1) (mc m) (Rm.below B.base) ?_)|((with_reducible refine iE (.binOp .eql 72 (.tmp 5) (.tmp 6) 72) rfl ?_);refine zX 72 (.tmp 5) (.tmp 6) rfl kr (mc (dZ k)) (mc m) rfl rfl eqGuardType72 _ _ (Od (dZ k) m _) rfl ?_;(try rw[e1])))
 exact vV):p:=h
def qxe(k:Fl)(m:Mp)(bm:Nat)(w:af)(Rm:aP 72 w bm (mc m)):az ah 96 #[.agg (fc k),V (some ⟨bm,0,none⟩)] w fun e w'=>e=.returned (.bool (pq m k))/\aq w.heap.size w w':=by
 have B:=Bd.start w
 cases e1:(dZ k==m) with
 | false=>
  have HR:aK (pq m k=false):=ar (by simp only[pq,e1])
  exact Cj
 | true=>
  have HR:aK (pq m k=true):=ar (by simp only[pq,e1])
  exact Cj
def vX(h:p:=by
 go_enter func79,ntmps79
 go_wp2_with (first|(refine gB 75 0 ?_;refine bx 75 (.tmp 0) (fc k) ?_;intro b3 w9 l9 R9 h9;replace B:=B.alloc l9 R9 h9;clear R9 h9 l9;have ck:World.cell? _ ⟨bk,0,none⟩=some (.func (.func 78) #[] #[V (some ⟨bm,0,none⟩),V (some ⟨bp,0,none⟩)]):=((Rk.below B.base).cell 0).trans rfl)|(refine gL 75 3 ?_;refine lx 75 (.tmp 3) (fc k) (B.row 0 rfl) ?_)|(go_at_call 78;go_fit (C1 _ (Rm.below B.base) (Rp.below B.base));rintro e w5 ⟨rfl,bh⟩;replace B:=B.below bh;clear bh ck)|(refine gL 3 9 ?_;refine fx (B.row 0 rfl) (k.rp) ?_)|(refine gL 3 11 ?_;refine fx (Rp.below B.base) (p.aj) ?_))
 go_ret
 exact⟨rfl,B.base⟩):p:=h
def qyl(k:Fl)(p:bM)(m:Mp)(bk bm bp:Nat)(w:af)(Rk:aP 83 w bk #[.func (.func 78) #[] #[V (some ⟨bm,0,none⟩),V (some ⟨bp,0,none⟩)]])(Rm:aP 72 w bm (mc m))(Rp:aP 77 w bp (dm p)):az ah 79 #[.agg (fc k),V (some ⟨bk,0,none⟩),V (some ⟨bp,0,none⟩)] w fun e w'=>e=.returned (.bool (lC p m k))/\aq w.heap.size w w':=by
 have B:=Bd.start w;(have C1:=fun w Rm Rp=>qra k p m bm bp w Rm Rp)
 unfold lC
 cases e1:lD p m k with
 | false=>
  rw[e1] at C1
  exact vX
 | true=>
  rw[e1] at C1
  cases e2:(k.rp==p.aj) with
  | false=>
   exact vX
  | true=>
   exact vX
def Tu{l:List Int}(h:gT w v l)(hj:j<l.length):∃g kp,v=.slice (some ⟨g,0,none⟩) l.length kp/\w.cell? ⟨g,j,none⟩=some (I Z l[j]):=by
 obtain⟨g,WH,cur,pd,hg,_,_,_,ht⟩:=h.shape om
 exact⟨g,WH,pd,(Py hg j).trans (Gf ht j hj)⟩
theorem zx{fs:List (Nat×Fl)}(hp:fs.Pairwise (fun x y=>x.1<y.1))(hx:x∈fs):mq fs (x.1:Int)=some x.2:=by
 unfold mq
 induction fs with
 | nil=>cases hx
 | cons y r ih=>
  rw[jC] at hp
  rw[List.find?_cons]
  rcases fO.1 hx with rfl|hx
  .simp
  .have:y.1<x.1:=hp.1 x hx
   have e:decide (((y.1:Nat):Int)=((x.1:Nat):Int))=false:=decide_eq_false om;rw[e]
   exact ih hp.2 hx
def WI(h:n<=700):(Lit.int .i64 ((n:Nat):Int)).wf=true:=by
 simp[Lit.wf,IntKind.min,IntKind.max,IntKind.signed,IntKind.bits];omega
section
variable {w w':World} {b:Nat} {cs cs':Array Value} {v ov:Value} {fm:Option Nat} {D:DataW Unit} {Fw:Nat->Prop} {cnt:Nat} {s:Nt} {tm:Int->Option Int} {is:List Int}
def bE.look(h:bE w b cs v ov fm D Fw cnt s tm is)(i:Int)(hi:(Lit.int .i64 i).wf=true):(Instr.lookup 55 (.map fm) (.int .i64 i) false).run ah w=.ok (.agg (fc ((mq s.fs i).getD uo))) w:=by
 have hkey:=keyOf_int_mk (P:=ah) (q:=.i64) (a:=i) underlying3 hi
 rcases h.fu with⟨rfl,rfl⟩|⟨bm,rfl,hm⟩
 .have:=look_nil (w:=w) false oh underlying55 (FE w) hkey
  have e:=h.reads.has i
  have e2:mq s.fs i=none:=by
   cases hf:mq s.fs i with
   | none=>rfl
   | some x=>rw[hf] at e;simp[Maps.has] at e
  rw[e2]
  simpa using this
 .obtain⟨u,ps,hr,hu⟩:=hm.lookup oh underlying55 (FE w) (qgm uo) hkey
  rw[h.reads.Gc i] at hu
  rw[hr,qol hu]
def bE.sF(h:bE w b cs v ov fm D Fw cnt s tm is)(hx:x∈s.fs):(Instr.lookup 55 (.map fm) (I Z ((x.1:Nat):Int)) false).run ah w=.ok (.agg (fc x.2)) w:=by
 have:=h.look (x.1:Int) (WI (aw (h.num x hx) h.bg))
 rw[zx h.up hx] at this
 exact this
theorem bE.len(h:bE w b cs v ov fm D Fw cnt s tm is)(ty:bt):(Builtin.len_ #[55] ty #[.map fm]).run ah w=.ok (I Z (s.fs.length:Int)) w:=by
 rcases h.fu with⟨rfl,rfl⟩|⟨bm,rfl,hm⟩
 .have:=len_nil (P:=ah) (w:=w) underlying55 ty
  rw[←h.sized];exact this
 .have:=hm.len underlying55 ty
  rw[h.sized] at this;exact this
def bE.cell(h:bE w b cs v ov fm D Fw cnt s tm is)(i:Nat):w.cell? ⟨b,i,none⟩=cs[i]?:=h.row.cell i
end
def Hu{s:Nt}(h:cC w b s tm F):az ah 9 #[V (some ⟨b,0,none⟩)] w fun e w'=>e=.returned (I Z s.now)/\w'=w:=by
 obtain⟨cs,v,ov,fm,D,Fw,cnt,M,hF⟩:=h;have CN:=q7r M.iR
 go_enter func9,ntmps9
 go_wp2_with (go_at_call 27;go_fit CN;rintro e w' ⟨rfl,rfl⟩)
 go_ret
 exact⟨rfl,rfl⟩
def qlu{s:Nt}(h:cC w b s tm F):az ah 72 #[V (some ⟨b,0,none⟩)] w fun e w'=>e=.returned (.bool s.full)/\w'=w:=by
 obtain⟨cs,v,ov,fm,D,Fw,cnt,M,hF⟩:=h;have kj:=(M.cell 34).trans M.kj;have hlen:=M.len 3;have HR:aK (s.full=decide ((48:Int)<=(s.fs.length:Int))):=ar (by unfold Nt.full;exact decide_eq_decide.2 om)
 go_enter func72,ntmps72
 go_wp2
 go_ret
 exact⟨(congrArg (fun z=>Ending.returned (Value.bool z)) HR.out).symm,rfl⟩
def EN:Option (Nat×Fl)->ag
 | some x=>.tuple #[I Z ((x.1:Nat):Int),.bool true]
 | none=>.tuple #[I Z 0,.bool false]
def ql0{α:Type}{p:α->Bool}{l:List α}{x:α}(h:(l.take j).find? p=none)(hj:j<l.length)(hx:l[j]=x):(p x=true->l.find? p=some x)/\(p x=false->(l.take (j+1)).find? p=none):=by
 subst hx
 refine⟨fun hp=>?_,fun hp=>?_⟩
 .conv=>lhs;rw[←List.take_append_drop j l]
  rw[o5,h,List.drop_eq_getElem_cons hj,List.find?_cons,hp];rfl
 .rw[List.take_succ_eq_append_getElem hj,o5,h];simp[hp]
def qud(h:j<n):n-((j:Int)+1).toNat<n-((j:Int)).toNat:=by omega
def qee(hgd:o.guard=none)(t:bt)(m x:aU)(ho:o.op=.lookup t m x false)(mv kv v:ag)(hm:a.eval m=mv)(hx:a.eval x=kv)(hr:(Instr.lookup t mv kv false).run ah w=.ok v w)(hK:aM ah ops Q rest (a.put o.dst v) w):aM ah ops Q (o::rest) a w:=
 bP hgd fun K hK'=>by
  unfold Oper.wp
  simp[bG,ho,hm,hx,hr,Result.andThen]
  exact hK' _ _ hK
def Ih{ov:ag}{fm:Option Nat}{Fw:Nat->Prop}{s:Nt}{is:List Int}(M:bE w b cs v ov fm D Fw cnt s tm is):s.fs.length<=702:=by
 have h1:=M.up;(have h2:∀x∈s.fs,x.1<=700:=fun x hx=>aw (M.num x hx) M.bg)
 have key:∀(l:List (Nat×Fl)) (k:Nat),l.Pairwise (fun x y=>x.1<y.1)->(∀x∈l,k<x.1/\x.1<=701)->k<=701->l.length+k<=701:=by
  intro l
  induction l with
  | nil=>intro k _ _ hk;simpa using hk
  | cons y r ih=>
   intro k hp hl hk
   rw[jC] at hp
   have hy:=hl y zm
   have:=ih y.1 hp.2 (fun x hx=>⟨hp.1 x hx,(hl x (by simp[hx])).2⟩) hy.2
   rw[bU]
   omega
 cases jS:s.fs with
 | nil=>simp
 | cons y r=>
  rw[jS,jC] at h1
  rw[jS] at h2
  have:=key r y.1 h1.2 (fun x hx=>⟨h1.1 x hx,aw (h2 x (by simp[hx])) om⟩) (aw (h2 y zm) om)
  rw[bU]
  omega
def pT(h:p:=by
 go_ret2
 exact⟨(congrArg (fun z=>Ending.returned (EN z)) HR.out).symm,hB⟩):p:=h
def sH(h:p:=by
 subst e
 (have kQ:¬(j:Int)<(j:Int):=by omega)
 rw[HN.out,List.take_length] at hfn
 have HR:Hid (_=none):=ar hfn;clear hfn
 go_wp2
 exact pT):p:=h
def sI(h:p:=by
 go_roundw
 case rel=>exact⟨j+1,by omega,(by first|exact qfs j ),HR.out,hB⟩
 case measure=>exact qud hlt):p:=h
def q5g{s:Nt}(h:cC w b s tm F)(p:bM)(sub:Int)(bp bs:Nat)(Rp:aP 77 w bp (dm p))(Rs:aP 3 w bs #[I Z sub]):az ah 31 #[V (some ⟨b,0,none⟩),.func (.func 67) #[] #[V (some ⟨bp,0,none⟩),V (some ⟨bs,0,none⟩)]] w fun e w'=>e=.returned (EN (s.find (cX p sub)))/\aq w.heap.size w w':=by
 obtain⟨cs,v,ov,fm,D,Fw,cnt,M0,hF⟩:=h;refine gP ?_;intro hB;have nj:=(M0.cell 35).trans M0.nj;obtain⟨a0,kp,iA⟩:=Gg M0.ids
 obtain⟨n,hn⟩:∃n,n=s.fs.length:=⟨_,rfl⟩
 (have Ns:n<=1000000:=by have:=Ih M0;omega)
 simp only[iV] at iA
 rw[←hn] at iA
 subst iA
 have HN:aK (n=s.fs.length):=hn;clear hn
 unfold Nt.find
 go_enter func31,ntmps31
 go_wp2
 clear nj
 go_loopw [13] (fun i W=>∃j:Nat,j<=n/\i=I Z (j:Int)/\(s.fs.take j).find? (fun x=>(cX p sub) x.2)=none/\aq w.heap.size w W) (fun i _=>n-(cY i).toNat)
 case atStart=>exact⟨0,by omega,rfl,rfl,hB⟩
 case round=>
  clear hB
  obtain⟨j,hj,rfl,hfn,hB⟩:=hrel
  have M:=M0.below hB
  by_cases hlt:j<n
  ·(have cz:j<s.fs.length:=by have:=HN.out;omega)
   obtain⟨x,hx⟩:∃x,s.fs[j]=x:=⟨_,rfl⟩
   refine Ww ?_;intro uE kQ fU hy EK;(have CK:=fun W Rp Rs=>qvj x.2 p sub bp bs W Rp Rs);obtain⟨g,Nu,iA,hc⟩:=Tu M.ids (j:=j) (by simpa using cz)
   obtain⟨rfl,rfl⟩:a0=some ⟨g,0,none⟩/\kp=Nu:=by simp only[iL] at iA;exact⟨iA.1,iA.2.2⟩
   (have sk:=fun w=>Ii g n kp j hlt w)
   rw[kC,hx] at hc
   refine WC ?_;intro kj LK HY HX;clear hy EK iA hx uE cz hfn hj
   cases hp:(cX p sub) x.2 with
   | true=>
    rw[hp] at CK
    have HR:aK (_=some x):=ar (HY.out hp);clear HY HX hp
    go_wp2_with (first|((with_reducible refine iE (.lookup 55 (.tmp 21) (.tmp 22) false) rfl ?_);refine F5 ?_)|(go_at_call 67;go_fit (CK _ (Rp.below hB) (Rs.below hB));rintro e w5 ⟨rfl,bh⟩;refine gl ?_;clear hB;intro hB;clear bh))
    exact pT
   | false=>
    rw[hp] at CK
    have HR:aK (_=none):=ar (HX.out hp);clear HY HX hp
    go_wp2_with (first|((with_reducible refine iE (.lookup 55 (.tmp 21) (.tmp 22) false) rfl ?_);refine F5 ?_)|(go_at_call 67;go_fit (CK _ (Rp.below hB) (Rs.below hB));rintro e w5 ⟨rfl,bh⟩;refine gl ?_;clear hB;intro hB;clear bh))
    exact sI
  ·(have e:j=n:=by omega)
   exact sH
def q0x{s:Nt}(h:cC w b s tm F)(p:bM)(m:Mp)(bm bp:Nat)(Rm:aP 72 w bm (mc m))(Rp:aP 77 w bp (dm p)):az ah 31 #[V (some ⟨b,0,none⟩),.func (.func 78) #[] #[V (some ⟨bm,0,none⟩),V (some ⟨bp,0,none⟩)]] w fun e w'=>e=.returned (EN (s.find (lD p m)))/\aq w.heap.size w w':=by
 obtain⟨cs,v,ov,fm,D,Fw,cnt,M0,hF⟩:=h;refine gP ?_;intro hB;have nj:=(M0.cell 35).trans M0.nj;obtain⟨a0,kp,iA⟩:=Gg M0.ids
 obtain⟨n,hn⟩:∃n,n=s.fs.length:=⟨_,rfl⟩
 (have Ns:n<=1000000:=by have:=Ih M0;omega)
 simp only[iV] at iA
 rw[←hn] at iA
 subst iA
 have HN:aK (n=s.fs.length):=hn;clear hn
 unfold Nt.find
 go_enter func31,ntmps31
 go_wp2
 clear nj
 go_loopw [13] (fun i W=>∃j:Nat,j<=n/\i=I Z (j:Int)/\(s.fs.take j).find? (fun x=>(lD p m) x.2)=none/\aq w.heap.size w W) (fun i _=>n-(cY i).toNat)
 case atStart=>exact⟨0,by omega,rfl,rfl,hB⟩
 case round=>
  clear hB
  obtain⟨j,hj,rfl,hfn,hB⟩:=hrel
  have M:=M0.below hB
  by_cases hlt:j<n
  ·(have cz:j<s.fs.length:=by have:=HN.out;omega)
   obtain⟨x,hx⟩:∃x,s.fs[j]=x:=⟨_,rfl⟩
   refine Ww ?_;intro uE kQ fU hy EK;(have CK:=fun W Rm Rp=>qra x.2 p m bm bp W Rm Rp);obtain⟨g,Nu,iA,hc⟩:=Tu M.ids (j:=j) (by simpa using cz)
   obtain⟨rfl,rfl⟩:a0=some ⟨g,0,none⟩/\kp=Nu:=by simp only[iL] at iA;exact⟨iA.1,iA.2.2⟩
   (have sk:=fun w=>Ii g n kp j hlt w)
   rw[kC,hx] at hc
   refine WC ?_;intro kj LK HY HX;clear hy EK iA hx uE cz hfn hj
   cases hp:(lD p m) x.2 with
   | true=>
    rw[hp] at CK
    have HR:aK (_=some x):=ar (HY.out hp);clear HY HX hp
    go_wp2_with (first|((with_reducible refine iE (.lookup 55 (.tmp 21) (.tmp 22) false) rfl ?_);refine F5 ?_)|(go_at_call 78;go_fit (CK _ (Rm.below hB) (Rp.below hB));rintro e w5 ⟨rfl,bh⟩;refine gl ?_;clear hB;intro hB;clear bh))
    exact pT
   | false=>
    rw[hp] at CK
    have HR:aK (_=none):=ar (HX.out hp);clear HY HX hp
    go_wp2_with (first|((with_reducible refine iE (.lookup 55 (.tmp 21) (.tmp 22) false) rfl ?_);refine F5 ?_)|(go_at_call 78;go_fit (CK _ (Rm.below hB) (Rp.below hB));rintro e w5 ⟨rfl,bh⟩;refine gl ?_;clear hB;intro hB;clear bh))
    exact sI
  ·(have e:j=n:=by omega)
   exact sH
def q7t{s:Nt}(h:cC w b s tm F)(p:bM)(m:Mp)(bk bm bp:Nat)(Rk:aP 83 w bk #[.func (.func 78) #[] #[V (some ⟨bm,0,none⟩),V (some ⟨bp,0,none⟩)]])(Rm:aP 72 w bm (mc m))(Rp:aP 77 w bp (dm p)):az ah 31 #[V (some ⟨b,0,none⟩),.func (.func 79) #[] #[V (some ⟨bk,0,none⟩),V (some ⟨bp,0,none⟩)]] w fun e w'=>e=.returned (EN (s.find (lC p m)))/\aq w.heap.size w w':=by
 obtain⟨cs,v,ov,fm,D,Fw,cnt,M0,hF⟩:=h;refine gP ?_;intro hB;have nj:=(M0.cell 35).trans M0.nj;obtain⟨a0,kp,iA⟩:=Gg M0.ids
 obtain⟨n,hn⟩:∃n,n=s.fs.length:=⟨_,rfl⟩
 (have Ns:n<=1000000:=by have:=Ih M0;omega)
 simp only[iV] at iA
 rw[←hn] at iA
 subst iA
 have HN:aK (n=s.fs.length):=hn;clear hn
 unfold Nt.find
 go_enter func31,ntmps31
 go_wp2
 clear nj
 go_loopw [13] (fun i W=>∃j:Nat,j<=n/\i=I Z (j:Int)/\(s.fs.take j).find? (fun x=>(lC p m) x.2)=none/\aq w.heap.size w W) (fun i _=>n-(cY i).toNat)
 case atStart=>exact⟨0,by omega,rfl,rfl,hB⟩
 case round=>
  clear hB
  obtain⟨j,hj,rfl,hfn,hB⟩:=hrel
  have M:=M0.below hB
  by_cases hlt:j<n
  ·(have cz:j<s.fs.length:=by have:=HN.out;omega)
   obtain⟨x,hx⟩:∃x,s.fs[j]=x:=⟨_,rfl⟩
   refine Ww ?_;intro uE kQ fU hy EK;(have CK:=fun W Rk Rm Rp=>qyl x.2 p m bk bm bp W Rk Rm Rp);obtain⟨g,Nu,iA,hc⟩:=Tu M.ids (j:=j) (by simpa using cz)
   obtain⟨rfl,rfl⟩:a0=some ⟨g,0,none⟩/\kp=Nu:=by simp only[iL] at iA;exact⟨iA.1,iA.2.2⟩
   (have sk:=fun w=>Ii g n kp j hlt w)
   rw[kC,hx] at hc
   refine WC ?_;intro kj LK HY HX;clear hy EK iA hx uE cz hfn hj
   cases hp:(lC p m) x.2 with
   | true=>
    rw[hp] at CK
    have HR:aK (_=some x):=ar (HY.out hp);clear HY HX hp
    go_wp2_with (first|((with_reducible refine iE (.lookup 55 (.tmp 21) (.tmp 22) false) rfl ?_);refine F5 ?_)|(go_at_call 79;go_fit (CK _ (Rk.below hB) (Rm.below hB) (Rp.below hB));rintro e w5 ⟨rfl,bh⟩;refine gl ?_;clear hB;intro hB;clear bh))
    exact pT
   | false=>
    rw[hp] at CK
    have HR:aK (_=none):=ar (HX.out hp);clear HY HX hp
    go_wp2_with (first|((with_reducible refine iE (.lookup 55 (.tmp 21) (.tmp 22) false) rfl ?_);refine F5 ?_)|(go_at_call 79;go_fit (CK _ (Rk.below hB) (Rm.below hB) (Rp.below hB));rintro e w5 ⟨rfl,bh⟩;refine gl ?_;clear hB;intro hB;clear bh))
    exact sI
  ·(have e:j=n:=by omega)
   exact sH
def q4m{s:Nt}(h:cC w b s tm F)(m:Mp)(bm:Nat)(Rm:aP 72 w bm (mc m)):az ah 31 #[V (some ⟨b,0,none⟩),.func (.func 96) #[] #[V (some ⟨bm,0,none⟩)]] w fun e w'=>e=.returned (EN (s.find (pq m)))/\aq w.heap.size w w':=by
 obtain⟨cs,v,ov,fm,D,Fw,cnt,M0,hF⟩:=h;refine gP ?_;intro hB;have nj:=(M0.cell 35).trans M0.nj;obtain⟨a0,kp,iA⟩:=Gg M0.ids
 obtain⟨n,hn⟩:∃n,n=s.fs.length:=⟨_,rfl⟩
 (have Ns:n<=1000000:=by have:=Ih M0;omega)
 simp only[iV] at iA
 rw[←hn] at iA
 subst iA
 have HN:aK (n=s.fs.length):=hn;clear hn
 unfold Nt.find
 go_enter func31,ntmps31
 go_wp2
 clear nj
 go_loopw [13] (fun i W=>∃j:Nat,j<=n/\i=I Z (j:Int)/\(s.fs.take j).find? (fun x=>(pq m) x.2)=none/\aq w.heap.size w W) (fun i _=>n-(cY i).toNat)
 case atStart=>exact⟨0,by omega,rfl,rfl,hB⟩
 case round=>
  clear hB
  obtain⟨j,hj,rfl,hfn,hB⟩:=hrel
  have M:=M0.below hB
  by_cases hlt:j<n
  ·(have cz:j<s.fs.length:=by have:=HN.out;omega)
   obtain⟨x,hx⟩:∃x,s.fs[j]=x:=⟨_,rfl⟩
   refine Ww ?_;intro uE kQ fU hy EK;(have CK:=fun W Rm=>qxe x.2 m bm W Rm);obtain⟨g,Nu,iA,hc⟩:=Tu M.ids (j:=j) (by simpa using cz)
   obtain⟨rfl,rfl⟩:a0=some ⟨g,0,none⟩/\kp=Nu:=by simp only[iL] at iA;exact⟨iA.1,iA.2.2⟩
   (have sk:=fun w=>Ii g n kp j hlt w)
   rw[kC,hx] at hc
   refine WC ?_;intro kj LK HY HX;clear hy EK iA hx uE cz hfn hj
   cases hp:(pq m) x.2 with
   | true=>
    rw[hp] at CK
    have HR:aK (_=some x):=ar (HY.out hp);clear HY HX hp
    go_wp2_with (first|((with_reducible refine iE (.lookup 55 (.tmp 21) (.tmp 22) false) rfl ?_);refine F5 ?_)|(go_at_call 96;go_fit (CK _ (Rm.below hB));rintro e w5 ⟨rfl,bh⟩;refine gl ?_;clear hB;intro hB;clear bh))
    exact pT
   | false=>
    rw[hp] at CK
    have HR:aK (_=none):=ar (HX.out hp);clear HY HX hp
    go_wp2_with (first|((with_reducible refine iE (.lookup 55 (.tmp 21) (.tmp 22) false) rfl ?_);refine F5 ?_)|(go_at_call 96;go_fit (CK _ (Rm.below hB));rintro e w5 ⟨rfl,bh⟩;refine gl ?_;clear hB;intro hB;clear bh))
    exact sI
  ·(have e:j=n:=by omega)
   exact sH
def qse(R:aP t w b cs)(hgd:o.guard=none)(x y:aU)(ho:o.op=.store 55 x y)(f:Nat)(hx:a.eval x=V (some ⟨b,f,none⟩))(p:Option Nat)(hy:a.eval y=.map p)(old:ag)(hc:cs[f]?=some old)(hr:∀w',aP t w' b (cs.setIfInBounds f (.map p))->gG b w w'->aM ah ops Q rest (a.put o.dst undef) w'):aM ah ops Q (o::rest) a w:=
 bP hgd fun K hK=>by
  have hcell:=(R.cell f).trans hc;have oB:=R.free f
  unfold Oper.wp bG
  simp only[ho,hx,hy]
  simp[go_sem,hcell,oB,underlying55]
  exact hK _ _ (hr _ R.set (GL _ _ _ _))
def qz0(t:bt)(hgd:o.guard=none)(ho:o.op=.makeMap t none)(hr:∀b w',w.heap.size<=b->aq w.heap.size w w'->w'.ownsMap ah 3 vU b 0 (.map [])->aM ah ops Q rest (a.put o.dst (.map (some b))) w'):aM ah ops Q (o::rest) a w:=
 bP hgd fun K hK=>by
  have hm:=@run_makeMap ah t w
  unfold Oper.wp bG
  simp only[ho,Option.map_none,Sem.run_bind,hm,Result.andThen_ok,Sem.run_pure]
  exact hK _ _ (hr _ _ (au _) ((Below.refl _ _).alloc (au _) _) (World.ownsMap_made (H:=Unit) w ah 3 vU))
section
variable {w w':World} {b:Nat} {cs cs':Array Value} {v ov:Value} {fm:Option Nat} {D:DataW Unit} {Fw:Nat->Prop} {cnt:Nat} {s:Nt} {tm:Int->Option Int} {is:List Int}
def bE.Nv(h:bE w b cs v ov none D Fw cnt s tm is)(Fb:¬Fw bm)(R:aP 62 w' b (cs.setIfInBounds 34 (.map (some bm))))(T:gG b w w')(hm:yM w' bm (.map [])):bE w' b (cs.setIfInBounds 34 (.map (some bm))) v ov (some bm) D Fw cnt s tm is:=by
 (have hD:D=.map []:=by rcases h.fu with⟨_,e⟩|⟨_,e,_⟩;exact e;cases e)
 refine⟨h.iR.turn R zm (fun i h1 h2=>lh _ _ _ _ om) T.other,by simpa using h.size,(lh _ _ _ _ om).trans h.c0,(lh _ _ _ _ om).trans h.c1,(lh _ _ _ _ om).trans h.c2,(lh _ _ _ _ om).trans h.c3,fun k hk=>(lh _ _ _ _ om).trans (h.ct k hk),Px _ _ _ (by rw[h.size];omega),(lh _ _ _ _ om).trans h.nj,(lh _ _ _ _ om).trans h.rr,EA h.maps (fun h0=>T.other _ (h.msb h0)),h.nil,yy h.ids (fun c hc=>T.other c (fun e=>h.Pw (e▸hc))),.inr ⟨bm,rfl,hD▸hm⟩,h.reads,h.sized,h.few,fun c hc=>by cases hc;exact Fb,h.jW,h.im,h.up,h.num,h.bg⟩
theorem bE.Nw{i:Int}{vY:List (Nat×Fl)}(h:bE w b cs v ov (some bm) D Fw cnt s tm is)(hm:w'.ownsMap ah 3 vU bm n (D.put (kI (i:Int)) (fd Unit k)))(hg:w.grownBy w' (some bm))(jS:mq vY=zM (mq s.fs) i k)(hl:vY.length=if (mq s.fs i).isSome then s.fs.length else s.fs.length+1)(s7:vY.Pairwise (fun x y=>x.1<y.1))(Gh:∀x∈vY,x.1<=s.began):bE w' b cs v ov (some bm) (D.put (kI i) (fd Unit k)) Fw cnt { s with fs:=vY } tm is:=by
 have G:Gr (fun c=>c=bm) w w':=Gr.ep hg (fun c hc=>by cases hc;rfl)
 refine⟨h.iR.keep G (fun c hc e=>h.jV bm rfl (e▸hc)),h.size,h.c0,h.c1,h.c2,h.c3,h.ct,h.kj,h.nj,h.rr,EA h.maps (fun h0=>G.block _ (h.maps.lt h0) (h.Tt rfl h0)),h.nil,yy h.ids (fun c hc=>?_),.inr ⟨bm,rfl,qwf hm⟩,?_,?_,?_,h.jV,h.jW,h.im,s7,Gh,h.bg⟩
 .obtain⟨cur,m,hh⟩:=zN h.ids hc
  exact G.block c (aV.1 hh).1 (fun e=>h.Nr rfl (e▸hc))
 .show Cg _ (mq vY)
  rw[jS];exact h.reads.put i k
 .show Maps.size _=vY.length
  rw[size_put h.reads.tidy,h.reads.has,h.sized,hl]
 .show cnt<=vY.length
  have:=h.few
  grind
theorem bE.uq{cnt':Nat}{Ck:Nat->Prop}{Tv:Int}(h:bE w b cs v ov fm D Fw cnt s tm is)(hW:j9 w' b 62 cs' 37 Tv zL cnt' Ck)(hs:lV 37 cs cs')(hg:Gr Fw w w')(hF:∀c,Ck c->Fw c\/w.heap.size<=c)(hc:cnt'<=s.fs.length):bE w' b cs' v ov fm D Ck cnt' { s with now:=Tv } zL is:=by
 (have e:∀i,i<37->cs'[i]?=cs[i]?:=fun i hi=>hs.2 i (.inl hi));(have nt:∀c,c<w.heap.size->¬Fw c->¬Ck c:=fun c h1 h2 h3=>by rcases hF c h3 with h4|h4;exact h2 h4;omega)
 refine⟨hW,hs.1.trans h.size,(e 0 om).trans h.c0,(e 1 om).trans h.c1,(e 2 om).trans h.c2,(e 3 om).trans h.c3,fun k hk=>(e (4+k) om).trans (h.ct k hk),(e 34 om).trans h.kj,(e 35 om).trans h.nj,(e 36 om).trans h.rr,EA h.maps (fun h0=>hg.block _ (h.maps.lt h0) (h.im h0).1),h.nil,yy h.ids (fun c hc=>?_),?_,h.reads,h.sized,hc,fun c hc=>?_,fun c hc=>?_,fun h0=>⟨nt _ (h.maps.lt h0) (h.im h0).1,(h.im h0).2⟩,h.up,h.num,h.bg⟩
 .obtain⟨cur,m,hh⟩:=zN h.ids hc
  exact hg.block c (aV.1 hh).1 (h.jW c hc)
 .rcases h.fu with h0|⟨bm,h1,h2⟩
  .grind
  .exact .inr ⟨bm,h1,Ig h2 (hg.block bm h2.lt (h.jV bm h1))⟩
 .rcases h.fu with⟨h0,_⟩|⟨bm,h1,h2⟩
  .grind
  .rw[h1] at hc;cases hc;exact nt _ h2.lt (h.jV _ h1)
 .obtain⟨cur,m,hh⟩:=zN h.ids hc
  exact nt c (aV.1 hh).1 (h.jW c hc)
end
end
end Go.Proofs.YtnkpgdejagglaaaGreatDoor
