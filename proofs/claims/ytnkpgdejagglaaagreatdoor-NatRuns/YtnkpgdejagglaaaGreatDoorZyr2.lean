/-
  Of what a law stands on.
-/
import Derived.Deep.Slices
import Derived.SizedLaws
import Derived.Test.YtnkpgdejagglaaaGreatDoorZyr1
set_option linter.all false
namespace Go.Proofs.YtnkpgdejagglaaaGreatDoor
open _root_.Go renaming Calls->az,Operand->aU,World->af,YieldsIf->gf,execOp->bG,wpList->aM,wpList_plain->bP,yielded->dy
open _root_.Go.IntKind renaming bits->jI,i64->eJ,signed->iB,wrap->jH
open _root_.Go.RowKit renaming Below->aq,Hid->aK,intOf->cY
open _root_.List renaming flatMap_cons->cB,getElem?_eq_some_iff->aJ,length_append->aY,map_cons->aB,map_nil->aI,map_toArray->dx
open Go.Value renaming int → I,pointer → V
open Go.IntKind renaming i64 → Z
open _root_.Go.Proofs.Tryz Go.ChangeShapes Go.WideShapes Go.ChangeAt Go.RowKit
set_option maxHeartbeats 16000000
set_option maxRecDepth 100000
variable {w w':World}{es:List Ev}{b base r:Nat}{t:TypeId}{cs:Array Value}{ops:Array Oper}{rest:List Oper}{o:Oper}{a:Act}{Q:Exit->Act->World->Prop}{v:Value}{p:Prop}{e:Ev}{K:Act->World->Prop}{S:World->Prop}
theorem qwl(es:List Ev):(es.flatMap nh).length=es.length*5:=by
 induction es with
 | nil=>rfl
 | cons e r ih=>rw[cB,aY,ih,List.length_cons];simp[nh];omega
theorem qx0(es:List Ev)(q r:Nat)(hq:q<es.length)(hr:r<5):(es.flatMap nh)[5*q+r]?=(nh es[q])[r]?:=by
 induction es generalizing q with
 | nil=>simp at hq
 | cons e l ih=>
  rw[cB];have hl:(nh e).length=5:=rfl
  cases q with
  | zero=>rw[List.getElem?_append_left om];simp
  | succ q=>
   (rw[List.getElem?_append_right om,hl,show 5*(q+1)+r-5=5*q+r by omega,ih q (by simpa using hq)])
   simp
def q4p(es:List Ev):∀u∈es.flatMap nh,u.oneCell'=true:=by
 intro u hu
 obtain⟨e,_,he⟩:=List.mem_flatMap.1 hu
 simp[nh] at he
 rcases he with rfl|rfl|rfl|rfl|rfl<;>rfl
def qyu:(prog.info? 100).map (fun i=>(i.zero,i.size,i.bytes))=some (some (.agg (ec WW)),5,40):=by kernel_rfl
theorem fX.src{sl:Value}(h:fX w sl es):Src prog 5 96 sl es.length (es.flatMap nh) w:=by
 obtain⟨a,cap,e,h1,h2,h3⟩:=h
 have hc:∀B O,(∀j (hj:j<es.length),w.rangeAt B (O+5*j) (nh es[j]))->∀j u,(es.flatMap nh)[j]?=some u->w.cell? ⟨B,O+j,none⟩=some u:=by
  intro B O hh j u hu;(have hj:j<es.length*5:=by have:=(aJ.1 hu).1;rw[qwl] at this;exact this);(have e1:j=5*(j/5)+j%5:=by omega);(have hq:j/5<es.length:=by omega)
  rw[e1,qx0 es (j/5) (j%5) hq om] at hu
  have:=hh (j/5) hq (j%5) u hu
  rw[show O+5*(j/5)+j%5=O+j by omega] at this
  exact this
 cases hes:es with
 | nil=>
  subst hes
  subst e
  cases a with
  | none=>exact Src.ofNil w underlying96 cap
  | some a=>exact Src.ofSlice w underlying96 a 0 cap [] rfl (fun j u hu=>by simp at hu) (fun _ h=>by cases h)
 | cons e0 r=>
  rw[←hes];have e1:=h1 (by rw[hes];simp);have hc':=hc _ _ h2
  generalize eb sl=B at *
  generalize eo sl=O at *
  subst e1
  subst e
  exact Src.ofSlice w underlying96 ⟨B,O,none⟩ es.length cap _ (qwl es) (fun j u hu=>by rw[Addr.add_lit];exact hc' j u hu) (q4p es)
def T7(l:List UInt8)(a k:Nat):Int:=num ((l.drop a).take k)
def NS(l:List UInt8):Ev:=⟨wrap64 (T7 l 0 8),T7 l 8 4-167772160-1,T7 l 12 4-3405803776-1,(T7 l 16 2-1024).tdiv 8,T7 l 20 1==2⟩
def okR(l:List UInt8):Prop:=pu (NS l)/\vR (NS l)=l.take 21
def Ua(es:List Ev)(t:Int):Bool:=match es.getLast? with
 | none=>false
 | some e=>decide (t<e.t)
def evs.dec(time:Int)(l:List UInt8)(es:List Ev):Decidable (okR l/\(NS l).t%4294967296=time/\Ua es (NS l).t=false):=by unfold okR;have:=pu.dec;exact inferInstance
def evs(time:Int):Nat->List UInt8->List Ev->Option (List Ev)
 | 0,_,es=>some es
 | c+1,l,es=>@ite _ (okR l/\(NS l).t%4294967296=time/\Ua es (NS l).t=false) (evs.dec time l es) (evs time c (l.drop 21) (es++[NS l])) none
structure sT(p:Nat)(w w':af):Prop where
 os:w'.os=w.os
 tape:w'.tape=w.tape
 output:w'.output=w.output
 size:w.heap.size<=w'.heap.size
 block:∀k,k<w.heap.size->k≠p->w'.heap[k]?=w.heap[k]?
section
variable {p:Nat} {a b c:World}
def sT.refl(p:Nat)(w:af):sT p w w:=⟨rfl,rfl,rfl,Nat.le_refl _,fun _ _ _=>rfl⟩
theorem sT.trans(h:sT p a b)(k:sT p b c):sT p a c:=
 ⟨k.os.trans h.os,k.tape.trans h.tape,k.output.trans h.output,Nat.le_trans h.size k.size,fun i hi hp=>(k.block i (Nat.lt_of_lt_of_le hi h.size) hp).trans (h.block i hi hp)⟩
def sT.gh(h:aq a.heap.size a b):sT p a b:=⟨h.os,h.tape,h.output,h.size,fun k hk _=>h.block k hk⟩
def sT.drew(h:sT p a b):sT p a b.drew:=⟨h.os,h.tape,h.output,h.size,h.block⟩
theorem sT.turned(h:sT p a b)(t:gG r b c)(hr:a.heap.size<=r):sT p a c:=by
 have:=t.below 0 b (Nat.zero_le _) (Below.refl _ _)
 exact⟨this.os.trans h.os,this.tape.trans h.tape,this.output.trans h.output,Nat.le_trans h.size this.size,fun k hk hp=>(t.other k om).trans (h.block k hk hp)⟩
def sT.below{B:Nat}(h:sT p a b)(hB:B<=a.heap.size)(hp:B<=p):aq B a b:=⟨h.os,h.tape,h.output,h.size,fun k hk=>h.block k om om⟩
def sT.row(h:sT p a b)(R:aP t a r cs)(hne:r≠p):aP t b r cs:=(h.block r R.lt hne).trans R
end
def qcm(R:aP t w b cs)(x:aU)(ho:o.op=.load 9 x)(hw:Region.wanted o (dy ops a.tmps)=true)(f:Nat)(hx:a.eval x=V (some ⟨b,f,none⟩))(n:ByteArray)(hc:cs[f]?=some (.string n))(hr:aM prog ops Q rest (a.put o.dst (.string n)) w):aM prog ops Q (o::rest) a w:=
 wpList_step fun K hK=>by
  rw[aZ hw];have hcell:=(R.cell f).trans hc
  unfold Oper.wp bG
  simp only[ho,hx]
  simp[go_sem,hcell,underlying9]
  exact hK _ _ hr
def lU(w:af)(base:Nat)(v:Value)(es:List Ev):Prop:=w.ownsRow base 100 5 v es.length (es.flatMap nh)
def lU.nil(w:af)(base:Nat):lU w base (.slice none 0 0) []:=World.ownsRow_nil w base 100 5
theorem lU.keep(h:lU w base v es)(hk:∀g,v.ownBlock=some g->w'.heap[g]?=w.heap[g]?):lU w' base v es:=by
 refine⟨h.1,?_⟩
 rcases h.2 with e|⟨b,cap,cur,hv,fj,hh,r⟩
 .grind
 .exact .inr ⟨b,cap,cur,hv,fj,(hk b (by rw[hv];rfl)).trans hh,r⟩
def lU.ge(h:lU w base v es):∀k,v.ownBlock=some k->base<=k/\k<w.heap.size:=fun k hk=>h.lt k hk
def lU.below(h:lU w base v es)(hb:aq w.heap.size w w'):lU w' base v es:=h.keep (fun g hg=>hb.block g (h.ge g hg).2)
theorem lU.moved{p:Nat}(h:lU w base v es)(hm:sT p w w')(hp:p<base):lU w' base v es:=h.keep (fun g hg=>hm.block g (h.ge g hg).2 (by have:=(h.ge g hg).1;omega))
theorem lU.turned(h:lU w base v es)(t:gG b w w')(hne:v.ownBlock≠some b):lU w' base v es:=h.keep (fun g hg=>t.other g (fun e=>hne (by rw[hg,e])))
def lU.new(h:lU w base v es)(hb:w.heap.size<=b):v.ownBlock≠some b:=fun e=>by have:=(h.ge b e).2;omega
theorem lU.slice(h:lU w base v es):∃a cap,v=.slice a es.length cap:=by
 rcases h.2 with⟨e,n0⟩|⟨b,cap,cur,hv,_⟩
 .grind
 grind
theorem lU.at(h:lU w base v es)(hl:es.length<=3518437208780):fX w v es:=by
 rcases h.2 with⟨e,n0⟩|⟨b,cap,cur,hv,fj,hh,y7,hcm,hcs,ht⟩
 .have:es=[]:=List.eq_nil_of_length_eq_zero n0
  subst this
  exact⟨none,0,e,fun h=>absurd h zm,fun j hj=>absurd hj zm,by simp⟩
 .subst hv
  refine⟨_,_,rfl,fun _=>rfl,fun j hj i u hu=>?_,hl⟩
  (have hi5:i<5:=by have:=(aJ.1 hu).1;simpa[nh] using this)
  show w.cell? ⟨b,0+5*j+i,none⟩=some u
  have e:=(qx0 es j i hj hi5).trans hu
  rw[←ht,List.getElem?_take_of_lt om] at e
  simp only[World.cell?,hh,Nat.zero_add]
  grind
theorem q2i(es:List Ev)(e:Ev):(es++[e]).flatMap nh=es.flatMap nh++nh e:=by simp
theorem q7d(e:Ev)(j:Nat):(ec e)[j]?=(nh e)[j]?:=by show(nh e).toArray[j]?=_;simp
def q1u(h:lU w base v es)(R:aP 100 w b (ec e))(hl:es.length<=5000000000)(hbase:base<=w.heap.size)(ty:TypeId):
  ∃v' w',(Builtin.append_ #[96,96] ty #[v,.slice (some ⟨b,0,none⟩) 1 1]).run prog w=.ok v' w'/\lU w' base v' (es++[e])/\dC v v' w w':=by
 obtain⟨i0,hi,hz0,hz1,hz2⟩:=info_parts qyu
 obtain⟨v',w',h1,h2,h3,_,h5⟩:=run_append_own_at (P:=prog) w base 96 ty 100 i0 (.agg (ec WW)) 5 40 underlying96 hi hz0 hz1 hz2 rfl (by decide) v es.length (es.flatMap nh) h ⟨b,0,none⟩ 1 1 (nh e) rfl
  (fun j u hu=>by rw[Addr.add_lit,Nat.zero_add];exact(R.cell j).trans ((q7d e j).trans hu)) (by intro u hu;simp[nh] at hu;rcases hu with rfl|rfl|rfl|rfl|rfl<;>rfl) (by unfold maxLen;omega) om hbase
 refine⟨v',w',h1,?_,⟨h3,?_⟩⟩
 .unfold lU;rw[q2i,List.length_append];exact h2
 .rcases h5 with e|e
  .exact .inl e
  .exact .inr ⟨_,e,Nat.le_refl _⟩
theorem q0a(e:Ev)(w:af):(Instr.buildSlice 96 1 #[(0,.agg (ec e))]).run prog w=.ok (.slice (some ⟨w.heap.size,0,none⟩) 1 1) (w.alloc (.cells (ec e) 100)):=by
 obtain⟨t,s,a,b,fr⟩:=e
 kernel_rfl
def q26(x:aU)(ho:o.op=.buildSlice 96 1 #[(0,x)])(e:Ev)(hx:a.eval x=.agg (ec e))(hr:∀b w',w.heap.size<=b->aP 100 w' b (ec e)->aq w.heap.size w w'->K (a.put o.dst (.slice (some ⟨b,0,none⟩) 1 1)) w'):o.wp prog a w K Q:=by
 have h':=hr w.heap.size (w.alloc (.cells (ec e) 100)) (Nat.le_refl _) (aP.new _ w _) ((Below.refl _ _).alloc (Nat.le_refl _) _)
 unfold Oper.wp bG
 simp only[ho,dx,aB,aI,hx,Sem.run_bind,q0a,Result.andThen_ok,Sem.run_pure]
 exact h'
def q45(s x:aU)(ho:o.op=.call { callee:=.builtin .append,args:=#[s,x],argTypes:=#[96,96] })(h:lU w base v es)(R:aP 100 w b (ec e))(hs:a.eval s=v)(hx:a.eval x=.slice (some ⟨b,0,none⟩) 1 1)(hl:es.length<=5000000000)(hbase:base<=w.heap.size)(hr:∀v' w',lU w' base v' (es++[e])->dC v v' w w'->K (a.put o.dst v') w'):o.wp prog a w K Q:=by
 obtain⟨v',w',h1,h2,h3⟩:=q1u h R hl hbase o.type
 unfold Oper.wp bG
 simp only[ho,resolve,invoke,builtin,Sem.run_bind,Sem.run_pure,Result.andThen_ok,dx,aB,aI,hs,hx,h1]
 exact hr v' w' h2 h3
def qbj(hgd:o.guard=none)(x:aU)(ho:o.op=.buildSlice 96 1 #[(0,x)])(e:Ev)(hx:a.eval x=.agg (ec e))(hr:∀b w',w.heap.size<=b->aP 100 w' b (ec e)->aq w.heap.size w w'->aM prog ops Q rest (a.put o.dst (.slice (some ⟨b,0,none⟩) 1 1)) w'):aM prog ops Q (o::rest) a w:=
 bP hgd fun K hK=>q26 x ho e hx (fun b w' h1 h2 h3=>hK _ _ (hr b w' h1 h2 h3))
def qwb(hgd:o.guard=none)(s x:aU)(ho:o.op=.call { callee:=.builtin .append,args:=#[s,x],argTypes:=#[96,96] })(h:lU w base v es)(R:aP 100 w b (ec e))(hs:a.eval s=v)(hx:a.eval x=.slice (some ⟨b,0,none⟩) 1 1)(hl:es.length<=5000000000)(hbase:base<=w.heap.size)(hr:∀v' w',lU w' base v' (es++[e])->dC v v' w w'->aM prog ops Q rest (a.put o.dst v') w'):aM prog ops Q (o::rest) a w:=
 bP hgd fun K hK=>q45 s x ho h R hs hx hl hbase (fun v' w' h1 h2=>hK _ _ (hr v' w' h1 h2))
def Ub(v:Int)(w:af)(h0:0<=v)(h1:v<=9223372036854775807):az prog 103 #[I Z v,I Z 1] w fun e w'=>e=.returned (.string (bl (be v 1)))/\aq w.heap.size w w':=tO v 1 w h0 h1 om
def vP(v:Int)(w:af)(h0:0<=v)(h1:v<=9223372036854775807):az prog 103 #[I Z v,I Z 2] w fun e w'=>e=.returned (.string (bl (be v 2)))/\aq w.heap.size w w':=tO v 2 w h0 h1 om
def DT(v:Int)(w:af)(h0:0<=v)(h1:v<=9223372036854775807):az prog 103 #[I Z v,I Z 4] w fun e w'=>e=.returned (.string (bl (be v 4)))/\aq w.heap.size w w':=tO v 4 w h0 h1 om
def Uc(v:Int)(w:af)(h0:0<=v)(h1:v<=9223372036854775807):az prog 103 #[I Z v,I Z 8] w fun e w'=>e=.returned (.string (bl (be v 8)))/\aq w.heap.size w w':=tO v 8 w h0 h1 om
@[simp] theorem qkt(v:Int)(n:Nat):(bl (be v n)).size=n:=by rw[kY,nO]
def yJ(x y:aU)(ho:o.op=.binOp .add 9 x y 9)(hw:Region.wanted o (dy ops a.tmps)=true)(s t u:List UInt8)(hx:a.eval x=.string (bl s))(hy:a.eval y=.string (bl t))(hu:s++t=u)(hs:s.length<=1000000)(ht:t.length<=1000000):gf prog ops S o (.string (bl u)) a:=
 .inl ⟨hw,fun w _=>by
  subst hu
  (have h1:(bl s).size<=1000000:=by rw[kY];exact hs);(have h2:(bl t).size<=1000000:=by rw[kY];exact ht)
  unfold bG
  simp only[ho,hx,hy]
  rw[←kL]
  generalize bl s=A at *
  generalize bl t=B at *
  simp[go_sem,eqGuard]
  try omega⟩
def uw(x y:aU)(ho:o.op=.binOp .add 3 x y 3)(hw:Region.wanted o (dy ops a.tmps)=true)(m n r:Int)(hx:a.eval x=I Z m)(hy:a.eval y=I Z n)(hr:m+n=r)(h0:-9223372036854775808<=r)(h1:r<=9223372036854775807):gf prog ops S o (I Z r) a:=
 .inl ⟨hw,fun w _=>by
  (have e:eJ.wrap (m+n)=r:=by rw[hr];simp[jH,jI,iB];omega)
  unfold bG
  simp only[ho,hx,hy]
  simp[go_sem,e]⟩
def Gq(x y:aU)(ho:o.op=.binOp .mul 3 x y 3)(hw:Region.wanted o (dy ops a.tmps)=true)(m n r:Int)(hx:a.eval x=I Z m)(hy:a.eval y=I Z n)(hr:m*n=r)(h0:-9223372036854775808<=r)(h1:r<=9223372036854775807):gf prog ops S o (I Z r) a:=
 .inl ⟨hw,fun w _=>by
  (have e:eJ.wrap (m*n)=r:=by rw[hr];simp[jH,jI,iB];omega)
  unfold bG
  simp only[ho,hx,hy]
  simp[go_sem,e]⟩
theorem qiA(e:Ev):be e.t 8++be (167772161+e.s) 4++be (3405803777+e.a) 4++be (1024+8*e.b) 2++be (1031+8*e.b) 2++be (DL e) 1=vR e:=by grind [DL,vR]
def DU(h:p:=by
 refine oM ?_
 go_wp2
 go_ret
 exact⟨by rw[←HA.out];rfl,hB⟩):p:=h
def qiB(e:Ev)(w:af)(he:pu e):az prog 172 #[.agg (ec e)] w fun x w'=>x=.returned (.string (bl (vR e)))/\aq w.heap.size w w':=by
 refine gP ?_;intro hB;have HA:aK (_=vR e):=qiA e;obtain⟨⟨t0,t1⟩,⟨s0,s1⟩,⟨a0,a1⟩,b0,b1'⟩:=he
 obtain⟨M,hM⟩:∃M,DL e=M:=⟨_,rfl⟩
 have hMb:=T6 e
 rw[hM] at HA hMb
 obtain⟨m0,m1⟩:=hMb
 cases oB:e.fr with
 | false=>
  (have wR:M=1:=by rw[←hM];unfold DL;rw[oB];rfl);(have cF:(ec e)[4]?=some (.bool false):=by rw[←oB];rfl)
  subst wR
  clear hM oB
  go_enter func172,ntmps172
  go_upto_region 4 with(first|(refine gB 100 0 ?_;refine bx 100 _ (ec e) ?_;intro b1 w2 l1 R1 hb2;replace hB:=hB.trans (hb2.mono hB.size))|(refine gL 4 4 ?_;refine qv3 R1 _ rfl rfl 4 rfl _ cF ?_))
  refine RD (fun W=>aP 100 W b1 (ec e)) R1 (fun _=>?_)
  refine tq 0 (V (some ⟨b1,0,none⟩)) rfl R1 (tk 1 (I Z e.t) rfl (tJ (.tmp 6) rfl kr b1 0 kr e.t (fun w h=>(h.cell 0).trans rfl)) R1 (tq 3 (V (some ⟨b1,1,none⟩)) rfl R1 ?_))
  simp only[ZZ]
  refine tk 4 (I Z e.s) rfl (tJ (.tmp 9) rfl kr b1 1 kr e.s (fun w h=>(h.cell 1).trans rfl)) R1 (tk 5 (I Z (167772161+e.s)) rfl (uw (.const (I Z 167772161)) (.tmp 10) rfl kr (167772161) (e.s) (167772161+e.s) kr kr rfl om om) R1 (tq 8 (V (some ⟨b1,2,none⟩)) rfl R1 ?_))
  simp only[ZZ]
  refine tk 9 (I Z e.a) rfl (tJ (.tmp 14) rfl kr b1 2 kr e.a (fun w h=>(h.cell 2).trans rfl)) R1 (tk 10 (I Z (3405803777+e.a)) rfl (uw (.const (I Z 3405803777)) (.tmp 15) rfl kr (3405803777) (e.a) (3405803777+e.a) kr kr rfl om om) R1 (tq 13 (V (some ⟨b1,3,none⟩)) rfl R1 ?_))
  simp only[ZZ]
  refine tk 14 (I Z e.b) rfl (tJ (.tmp 19) rfl kr b1 3 kr e.b (fun w h=>(h.cell 3).trans rfl)) R1 (tk 15 (I Z (8*e.b)) rfl (Gq (.const (I Z 8)) (.tmp 20) rfl kr 8 e.b (8*e.b) kr kr rfl om om) R1 (tk 16 (I Z (1024+8*e.b)) rfl (uw (.const (I Z 1024)) (.tmp 21) rfl kr (1024) (8*e.b) (1024+8*e.b) kr kr rfl om om) R1 ?_))
  simp only[ZZ]
  refine tq 19 (V (some ⟨b1,3,none⟩)) rfl R1 (tk 20 (I Z e.b) rfl (tJ (.tmp 25) rfl kr b1 3 kr e.b (fun w h=>(h.cell 3).trans rfl)) R1 (tk 21 (I Z (8*e.b)) rfl (Gq (.const (I Z 8)) (.tmp 26) rfl kr 8 e.b (8*e.b) kr kr rfl om om) R1 ?_))
  simp only[ZZ];refine tk 22 (I Z (1031+8*e.b)) rfl (uw (.const (I Z 1031)) (.tmp 27) rfl kr (1031) (8*e.b) (1031+8*e.b) kr kr rfl om om) R1 (tq 25 (I Z 1) rfl R1 ?_);simp only[ZZ];refine AR [2] ?_
  refine AC (fun K hK=>?_) AZ
  go_simp
  go_at_call 103;refine(Uc _ _ om om).mono ?_;rintro x w5 ⟨rfl,bh⟩;(replace bh:=qmk bh);replace R1:=R1.below bh;refine gl ?_;clear hB;intro hB
  go_wp2_with fail
  refine hK.out _ _ R1 (fun _=>?_)
  clear hK K;refine AR [6] ?_
  refine AC (fun K hK=>?_) AZ
  go_simp
  go_at_call 103;refine(DT _ _ om om).mono ?_;rintro x w5 ⟨rfl,bh⟩;replace R1:=R1.below bh;refine gl ?_;clear hB;intro hB
  go_wp2_with fail
  refine hK.out _ _ R1 (fun _=>?_)
  clear hK K;refine m2y ?_
  refine AC (fun K hK=>?_) AZ
  go_simp
  go_at_call 103;refine(DT _ _ om om).mono ?_;rintro x w5 ⟨rfl,bh⟩;replace R1:=R1.below bh;refine gl ?_;clear hB;intro hB
  go_wp2_with fail
  refine hK.out _ _ R1 (fun _=>?_)
  clear hK K;refine m29 ?_
  refine AC (fun K hK=>?_) AZ
  go_simp
  go_at_call 103;refine(vP _ _ om om).mono ?_;rintro x w5 ⟨rfl,bh⟩;replace R1:=R1.below bh;refine gl ?_;clear hB;intro hB
  go_wp2_with fail
  refine hK.out _ _ R1 (fun _=>?_)
  clear hK K;refine m1u ?_
  refine AC (fun K hK=>?_) AZ
  go_simp
  go_at_call 103;refine(vP _ _ om om).mono ?_;rintro x w5 ⟨rfl,bh⟩;replace R1:=R1.below bh;refine gl ?_;clear hB;intro hB
  go_wp2_with fail
  refine hK.out _ _ R1 (fun _=>?_)
  clear hK K;refine m1i ?_
  refine AC (fun K hK=>?_) AZ
  go_simp
  go_at_call 103;refine(Ub _ _ om om).mono ?_;rintro x w5 ⟨rfl,bh⟩;replace R1:=R1.below bh;refine gl ?_;clear hB;intro hB
  go_wp2_with fail
  refine hK.out _ _ R1 (fun _=>?_)
  clear hK K;refine tk 27 (.string (bl (be e.t 8++be (167772161+e.s) 4++be (3405803777+e.a) 4++be (1024+8*e.b) 2++be (1031+8*e.b) 2++be 1 1))) rfl (yJ (.tmp 30) (.tmp 32) rfl kr (be e.t 8++be (167772161+e.s) 4++be (3405803777+e.a) 4++be (1024+8*e.b) 2++be (1031+8*e.b) 2) (be 1 1) (be e.t 8++be (167772161+e.s) 4++be (3405803777+e.a) 4++be (1024+8*e.b) 2++be (1031+8*e.b) 2++be 1 1) kr kr rfl (by simp only[aY,nO];omega) (by simp only[nO];omega)) R1 (tq 28 (.string (bl (be e.t 8++be (167772161+e.s) 4++be (3405803777+e.a) 4++be (1024+8*e.b) 2++be (1031+8*e.b) 2++be 1 1))) rfl R1 ?_)
  exact DU
 | true=>
  (have wR:M=2:=by rw[←hM];unfold DL;rw[oB];rfl);(have cF:(ec e)[4]?=some (.bool true):=by rw[←oB];rfl)
  subst wR
  clear hM oB
  go_enter func172,ntmps172
  go_upto_region 4 with(first|(refine gB 100 0 ?_;refine bx 100 _ (ec e) ?_;intro b1 w2 l1 R1 hb2;replace hB:=hB.trans (hb2.mono hB.size))|(refine gL 4 4 ?_;refine qv3 R1 _ rfl rfl 4 rfl _ cF ?_))
  refine RD (fun W=>aP 100 W b1 (ec e)) R1 (fun _=>?_)
  refine tq 0 (V (some ⟨b1,0,none⟩)) rfl R1 (tk 1 (I Z e.t) rfl (tJ (.tmp 6) rfl kr b1 0 kr e.t (fun w h=>(h.cell 0).trans rfl)) R1 (tq 3 (V (some ⟨b1,1,none⟩)) rfl R1 ?_))
  simp only[ZZ]
  refine tk 4 (I Z e.s) rfl (tJ (.tmp 9) rfl kr b1 1 kr e.s (fun w h=>(h.cell 1).trans rfl)) R1 (tk 5 (I Z (167772161+e.s)) rfl (uw (.const (I Z 167772161)) (.tmp 10) rfl kr (167772161) (e.s) (167772161+e.s) kr kr rfl om om) R1 (tq 8 (V (some ⟨b1,2,none⟩)) rfl R1 ?_))
  simp only[ZZ]
  refine tk 9 (I Z e.a) rfl (tJ (.tmp 14) rfl kr b1 2 kr e.a (fun w h=>(h.cell 2).trans rfl)) R1 (tk 10 (I Z (3405803777+e.a)) rfl (uw (.const (I Z 3405803777)) (.tmp 15) rfl kr (3405803777) (e.a) (3405803777+e.a) kr kr rfl om om) R1 (tq 13 (V (some ⟨b1,3,none⟩)) rfl R1 ?_))
  simp only[ZZ]
  refine tk 14 (I Z e.b) rfl (tJ (.tmp 19) rfl kr b1 3 kr e.b (fun w h=>(h.cell 3).trans rfl)) R1 (tk 15 (I Z (8*e.b)) rfl (Gq (.const (I Z 8)) (.tmp 20) rfl kr 8 e.b (8*e.b) kr kr rfl om om) R1 (tk 16 (I Z (1024+8*e.b)) rfl (uw (.const (I Z 1024)) (.tmp 21) rfl kr (1024) (8*e.b) (1024+8*e.b) kr kr rfl om om) R1 ?_))
  simp only[ZZ]
  refine tq 19 (V (some ⟨b1,3,none⟩)) rfl R1 (tk 20 (I Z e.b) rfl (tJ (.tmp 25) rfl kr b1 3 kr e.b (fun w h=>(h.cell 3).trans rfl)) R1 (tk 21 (I Z (8*e.b)) rfl (Gq (.const (I Z 8)) (.tmp 26) rfl kr 8 e.b (8*e.b) kr kr rfl om om) R1 ?_))
  simp only[ZZ];refine tk 22 (I Z (1031+8*e.b)) rfl (uw (.const (I Z 1031)) (.tmp 27) rfl kr (1031) (8*e.b) (1031+8*e.b) kr kr rfl om om) R1 (tq 25 (I Z 2) rfl R1 ?_);simp only[ZZ];refine AR [2] ?_
  refine AC (fun K hK=>?_) AZ
  go_simp
  go_at_call 103;refine(Uc _ _ om om).mono ?_;rintro x w5 ⟨rfl,bh⟩;(replace bh:=qmk bh);replace R1:=R1.below bh;refine gl ?_;clear hB;intro hB
  go_wp2_with fail
  refine hK.out _ _ R1 (fun _=>?_)
  clear hK K;refine AR [6] ?_
  refine AC (fun K hK=>?_) AZ
  go_simp
  go_at_call 103;refine(DT _ _ om om).mono ?_;rintro x w5 ⟨rfl,bh⟩;replace R1:=R1.below bh;refine gl ?_;clear hB;intro hB
  go_wp2_with fail
  refine hK.out _ _ R1 (fun _=>?_)
  clear hK K;refine m2y ?_
  refine AC (fun K hK=>?_) AZ
  go_simp
  go_at_call 103;refine(DT _ _ om om).mono ?_;rintro x w5 ⟨rfl,bh⟩;replace R1:=R1.below bh;refine gl ?_;clear hB;intro hB
  go_wp2_with fail
  refine hK.out _ _ R1 (fun _=>?_)
  clear hK K;refine m29 ?_
  refine AC (fun K hK=>?_) AZ
  go_simp
  go_at_call 103;refine(vP _ _ om om).mono ?_;rintro x w5 ⟨rfl,bh⟩;replace R1:=R1.below bh;refine gl ?_;clear hB;intro hB
  go_wp2_with fail
  refine hK.out _ _ R1 (fun _=>?_)
  clear hK K;refine m1u ?_
  refine AC (fun K hK=>?_) AZ
  go_simp
  go_at_call 103;refine(vP _ _ om om).mono ?_;rintro x w5 ⟨rfl,bh⟩;replace R1:=R1.below bh;refine gl ?_;clear hB;intro hB
  go_wp2_with fail
  refine hK.out _ _ R1 (fun _=>?_)
  clear hK K;refine m1i ?_
  refine AC (fun K hK=>?_) AZ
  go_simp
  go_at_call 103;refine(Ub _ _ om om).mono ?_;rintro x w5 ⟨rfl,bh⟩;replace R1:=R1.below bh;refine gl ?_;clear hB;intro hB
  go_wp2_with fail
  refine hK.out _ _ R1 (fun _=>?_)
  clear hK K;refine tk 27 (.string (bl (be e.t 8++be (167772161+e.s) 4++be (3405803777+e.a) 4++be (1024+8*e.b) 2++be (1031+8*e.b) 2++be 2 1))) rfl (yJ (.tmp 30) (.tmp 32) rfl kr (be e.t 8++be (167772161+e.s) 4++be (3405803777+e.a) 4++be (1024+8*e.b) 2++be (1031+8*e.b) 2) (be 2 1) (be e.t 8++be (167772161+e.s) 4++be (3405803777+e.a) 4++be (1024+8*e.b) 2++be (1031+8*e.b) 2++be 2 1) kr kr rfl (by simp only[aY,nO];omega) (by simp only[nO];omega)) R1 (tq 28 (.string (bl (be e.t 8++be (167772161+e.s) 4++be (3405803777+e.a) 4++be (1024+8*e.b) 2++be (1031+8*e.b) 2++be 2 1))) rfl R1 ?_)
  exact DU
def qiC(time seq kind:Int)(l:List UInt8):(⟨#[0,10]⟩:ByteArray)++bl (be (20+(l.length:Int)) 2)++bl (be (time%4294967296) 4)++bl (be seq 4)++⟨#[0,0,0,1]⟩++bl (be kind 2)++bl (be (4+(l.length:Int)) 2)++bl l=bl (uv time seq kind l):=by
 rw[show(⟨#[0,10]⟩:ByteArray)=bl (be 10 2) from rfl,show(⟨#[0,0,0,1]⟩:ByteArray)=bl (be 1 4) from rfl]
 simp only[kL]
 rfl
def wz(h:p:=by
 go_wp2
 go_ret2
 exact⟨by rw[HS.out];rfl,hB⟩):p:=h
def DV(h:p:=by
 clear h hb
 go_enter func170,ntmps170
 exact wz):p:=h
def Ud(l:List UInt8)(time seq kind:Int)(w:af)(hl:l.length<=900000)(Cf:0<=time)(xg:time<=1099511627776)(wG:0<=kind)(qE:kind<=300):
  az prog 170 #[I Z seq,I Z time,I Z kind,.string (bl l)] w fun x w'=>x=.returned (jU time seq kind l)/\aq w.heap.size w w':=by
 refine gP ?_;intro hB
 rcases hb:EU seq with _|_
 .have HS:aK (jU time seq kind l=_):=q8h _ _ _ _ hb
  rcases q5u hb with h|h
  ·(have g0:decide (seq<0)=true:=by simpa using h)
   exact DV
  ·(have g0:decide (seq<0)=false:=by simp;omega);(have g1:decide (4294967295<seq)=true:=by simpa using h)
   exact DV
 .have HS:aK (jU time seq kind l=_):=q4t _ _ _ _ hb;obtain⟨q0,q1⟩:=q2s hb;clear hb;have HC:aK (_=bl (uv time seq kind l)):=qiC time seq kind l;(have g0:decide (seq<0)=false:=by simp;omega);(have g1:decide (4294967295<seq)=false:=by simp;omega);have vZ:time.tmod 4294967296=time%4294967296:=Int.tmod_eq_emod_of_nonneg Cf;(have Fx:0<=time%4294967296/\time%4294967296<4294967296:=by omega);have hsz:(bl l).size=l.length:=kY l;obtain⟨x0,x1⟩:=Fx
  go_enter func170,ntmps170
  go_wp2_with (first|(go_at_call 103;go_fit (vP _ _ om om);rintro x w5 ⟨rfl,bh⟩;refine gl ?_;clear hB;intro hB)|(go_at_call 103;go_fit (DT _ _ om om);rintro x w5 ⟨rfl,bh⟩;refine gl ?_;clear hB;intro hB))
  go_ret2
  exact⟨by rw[HS.out,←HC.out];rfl,hB⟩
def bS(j:Nat):List UInt8:=be 300 2++be 6 2++(([323,8,8,4,225,4,361,2,362,2,230,1]:List Int).take j).flatMap (fun n=>be n 2)
theorem qiD:bS 12=eA 6:=rfl
theorem qiE:be 300 2++be 6 2=bS 0:=by simp[bS]
theorem qiF:bS 0++be 323 2=bS 1:=by simp[bS]
theorem qiG:bS 1++be 8 2=bS 2:=by simp[bS]
theorem qiH:bS 2++be 8 2=bS 3:=by simp[bS]
theorem qiI:bS 3++be 4 2=bS 4:=by simp[bS]
theorem qiJ:bS 4++be 225 2=bS 5:=by simp[bS]
theorem qiK:bS 5++be 4 2=bS 6:=by simp[bS]
theorem qiL:bS 6++be 361 2=bS 7:=by simp[bS]
theorem qiM:bS 7++be 2 2=bS 8:=by simp[bS]
theorem qiN:bS 8++be 362 2=bS 9:=by simp[bS]
theorem qiO:bS 9++be 2 2=bS 10:=by simp[bS]
theorem qiP:bS 10++be 230 2=bS 11:=by simp[bS]
theorem qiQ:bS 11++be 1 2=bS 12:=by simp[bS]
def oY(j:Nat)(h:j<=12):(bS j).length<=28:=by
 rcases(show j=0\/j=1\/j=2\/j=3\/j=4\/j=5\/j=6\/j=7\/j=8\/j=9\/j=10\/j=11\/j=12 by omega) with rfl|rfl|rfl|rfl|rfl|rfl|rfl|rfl|rfl|rfl|rfl|rfl|rfl
 all_goals simp[bS,nO]
def qdJ(seq:Int)(w:af):az prog 119 #[I Z seq] w fun x w'=>x=.returned (jU 0 seq 2 (eA 6))/\aq w.heap.size w w':=by
 refine gP ?_;intro hB;(have H0:aK (bl (be 300 2)++bl (be 6 2)=bl (bS 0)):=by show _=_;rw[kL,qiE])
 go_enter func119,ntmps119
 go_wp2_with ((go_at_call 103;go_fit (vP _ _ om om);rintro x w5 ⟨rfl,bh⟩;refine gl ?_;clear hB;intro hB))
 have bw:=aP.new 3 w5 #[I Z 323,I Z 8,I Z 8,I Z 4,I Z 225,I Z 4,I Z 361,I Z 2,I Z 362,I Z 2,I Z 230,I Z 1];replace hB:=hB.alloc hB.size (.cells #[I Z 323,I Z 8,I Z 8,I Z 4,I Z 225,I Z 4,I Z 361,I Z 2,I Z 362,I Z 2,I Z 230,I Z 1] 3);rw[H0.out]
 generalize w5.heap.size=B at *
 go_loopw [4,12] (fun t i W=>∃j:Nat,j<=12/\i=I Z (j:Int)/\t=.string (bl (bS j))/\aq w.heap.size w W/\aP 3 W B #[I Z 323,I Z 8,I Z 8,I Z 4,I Z 225,I Z 4,I Z 361,I Z 2,I Z 362,I Z 2,I Z 230,I Z 1]) (fun _ i _=>12-(cY i).toNat)
 case atStart=>exact⟨0,by omega,rfl,rfl,hB,bw⟩
 case round=>
  clear hB bw
  obtain⟨j,hj,rfl,rfl,hB,bw⟩:=hrel
  by_cases hlt:j<12
  .rcases(show j=0\/j=1\/j=2\/j=3\/j=4\/j=5\/j=6\/j=7\/j=8\/j=9\/j=10\/j=11 by omega) with rfl|rfl|rfl|rfl|rfl|rfl|rfl|rfl|rfl|rfl|rfl|rfl
   ·(have HN:aK (bl (bS 0)++bl (be 323 2)=bl (bS 1)):=by show _=_;rw[kL,qiF]);(have hlen:(bl (bS 0)).size<=28:=by rw[kY];exact oY 0 om)
    go_wp2_with (first|(refine gL 3 14 ?_;refine fx bw _ ?_)|(go_at_call 103;refine zD ?_;clear bw hB;intro w5 bh bw hB))
    go_roundw
    case rel=>exact⟨1,by omega,rfl,by rw[HN.out],hB,bw⟩
    case measure=>simp[cY]
   ·(have HN:aK (bl (bS 1)++bl (be 8 2)=bl (bS 2)):=by show _=_;rw[kL,qiG]);(have hlen:(bl (bS 1)).size<=28:=by rw[kY];exact oY 1 om)
    go_wp2_with (first|(refine gL 3 14 ?_;refine fx bw _ ?_)|(go_at_call 103;refine zD ?_;clear bw hB;intro w5 bh bw hB))
    go_roundw
    case rel=>exact⟨2,by omega,rfl,by rw[HN.out],hB,bw⟩
    case measure=>simp[cY]
   ·(have HN:aK (bl (bS 2)++bl (be 8 2)=bl (bS 3)):=by show _=_;rw[kL,qiH]);(have hlen:(bl (bS 2)).size<=28:=by rw[kY];exact oY 2 om)
    go_wp2_with (first|(refine gL 3 14 ?_;refine fx bw _ ?_)|(go_at_call 103;refine zD ?_;clear bw hB;intro w5 bh bw hB))
    go_roundw
    case rel=>exact⟨3,by omega,rfl,by rw[HN.out],hB,bw⟩
    case measure=>simp[cY]
   ·(have HN:aK (bl (bS 3)++bl (be 4 2)=bl (bS 4)):=by show _=_;rw[kL,qiI]);(have hlen:(bl (bS 3)).size<=28:=by rw[kY];exact oY 3 om)
    go_wp2_with (first|(refine gL 3 14 ?_;refine fx bw _ ?_)|(go_at_call 103;refine zD ?_;clear bw hB;intro w5 bh bw hB))
    go_roundw
    case rel=>exact⟨4,by omega,rfl,by rw[HN.out],hB,bw⟩
    case measure=>simp[cY]
   ·(have HN:aK (bl (bS 4)++bl (be 225 2)=bl (bS 5)):=by show _=_;rw[kL,qiJ]);(have hlen:(bl (bS 4)).size<=28:=by rw[kY];exact oY 4 om)
    go_wp2_with (first|(refine gL 3 14 ?_;refine fx bw _ ?_)|(go_at_call 103;refine zD ?_;clear bw hB;intro w5 bh bw hB))
    go_roundw
    case rel=>exact⟨5,by omega,rfl,by rw[HN.out],hB,bw⟩
    case measure=>simp[cY]
   ·(have HN:aK (bl (bS 5)++bl (be 4 2)=bl (bS 6)):=by show _=_;rw[kL,qiK]);(have hlen:(bl (bS 5)).size<=28:=by rw[kY];exact oY 5 om)
    go_wp2_with (first|(refine gL 3 14 ?_;refine fx bw _ ?_)|(go_at_call 103;refine zD ?_;clear bw hB;intro w5 bh bw hB))
    go_roundw
    case rel=>exact⟨6,by omega,rfl,by rw[HN.out],hB,bw⟩
    case measure=>simp[cY]
   ·(have HN:aK (bl (bS 6)++bl (be 361 2)=bl (bS 7)):=by show _=_;rw[kL,qiL]);(have hlen:(bl (bS 6)).size<=28:=by rw[kY];exact oY 6 om)
    go_wp2_with (first|(refine gL 3 14 ?_;refine fx bw _ ?_)|(go_at_call 103;refine zD ?_;clear bw hB;intro w5 bh bw hB))
    go_roundw
    case rel=>exact⟨7,by omega,rfl,by rw[HN.out],hB,bw⟩
    case measure=>simp[cY]
   ·(have HN:aK (bl (bS 7)++bl (be 2 2)=bl (bS 8)):=by show _=_;rw[kL,qiM]);(have hlen:(bl (bS 7)).size<=28:=by rw[kY];exact oY 7 om)
    go_wp2_with (first|(refine gL 3 14 ?_;refine fx bw _ ?_)|(go_at_call 103;refine zD ?_;clear bw hB;intro w5 bh bw hB))
    go_roundw
    case rel=>exact⟨8,by omega,rfl,by rw[HN.out],hB,bw⟩
    case measure=>simp[cY]
   ·(have HN:aK (bl (bS 8)++bl (be 362 2)=bl (bS 9)):=by show _=_;rw[kL,qiN]);(have hlen:(bl (bS 8)).size<=28:=by rw[kY];exact oY 8 om)
    go_wp2_with (first|(refine gL 3 14 ?_;refine fx bw _ ?_)|(go_at_call 103;refine zD ?_;clear bw hB;intro w5 bh bw hB))
    go_roundw
    case rel=>exact⟨9,by omega,rfl,by rw[HN.out],hB,bw⟩
    case measure=>simp[cY]
   ·(have HN:aK (bl (bS 9)++bl (be 2 2)=bl (bS 10)):=by show _=_;rw[kL,qiO]);(have hlen:(bl (bS 9)).size<=28:=by rw[kY];exact oY 9 om)
    go_wp2_with (first|(refine gL 3 14 ?_;refine fx bw _ ?_)|(go_at_call 103;refine zD ?_;clear bw hB;intro w5 bh bw hB))
    go_roundw
    case rel=>exact⟨10,by omega,rfl,by rw[HN.out],hB,bw⟩
    case measure=>simp[cY]
   ·(have HN:aK (bl (bS 10)++bl (be 230 2)=bl (bS 11)):=by show _=_;rw[kL,qiP]);(have hlen:(bl (bS 10)).size<=28:=by rw[kY];exact oY 10 om)
    go_wp2_with (first|(refine gL 3 14 ?_;refine fx bw _ ?_)|(go_at_call 103;refine zD ?_;clear bw hB;intro w5 bh bw hB))
    go_roundw
    case rel=>exact⟨11,by omega,rfl,by rw[HN.out],hB,bw⟩
    case measure=>simp[cY]
   ·(have HN:aK (bl (bS 11)++bl (be 1 2)=bl (bS 12)):=by show _=_;rw[kL,qiQ]);(have hlen:(bl (bS 11)).size<=28:=by rw[kY];exact oY 11 om)
    go_wp2_with (first|(refine gL 3 14 ?_;refine fx bw _ ?_)|(go_at_call 103;refine zD ?_;clear bw hB;intro w5 bh bw hB))
    go_roundw
    case rel=>exact⟨12,by omega,rfl,by rw[HN.out],hB,bw⟩
    case measure=>simp[cY]
  .obtain rfl:j=12:=by omega
   have hl6:=qqi;rw[qiD]
   go_wp2_with (go_at_call 170;go_fit (Ud (eA 6) 0 seq 2 _ om om om om om);rintro x w5 ⟨rfl,bh⟩;unfold jU)
   go_ret2
   exact⟨rfl,hB.trans (bh.mono hB.size)⟩
def DW(h:p:=by
 simp only[ZZ];refine tq 11 (.bool true) rfl ⟨R8,c0⟩ ?_;refine oM ?_
 exact wz):p:=h
def DX(h:p:=by
 go_enter func120,ntmps120
 exact wz):p:=h
def qdK(seq:Int)(sl:Value)(es:List Ev)(w:af)(hM:fX w sl es):az prog 120 #[I Z seq,sl] w fun x w'=>x=.returned (jy seq es)/\aq w.heap.size w w':=by
 refine gP ?_;intro hB;obtain⟨a0,cap,dB⟩:=hM.slice
 obtain⟨n,hn⟩:∃n,n=es.length:=⟨_,rfl⟩
 rw[←hn] at dB
 subst dB
 have HN:aK (n=es.length):=hn;have hlt:=hM.lt
 by_cases h0:n=0
 .have HS:aK (jy seq es=_):=uH om
  subst h0
  clear hn
  exact DX
 (have GM:((n:Int)==0)=false:=by simp;omega)
 by_cases Ha:64<n
 .have HS:aK (jy seq es=_):=uI om;(have NR:decide ((64:Int)<(n:Int))=true:=by simp;omega);clear hn h0 Ha
  exact DX
 (have NR:decide ((64:Int)<(n:Int))=false:=by simp;omega);(have hl0:0<es.length:=by omega);(have pR:es.length<=64:=by omega);(have I0:=fun w2=>hM.DO hl0 w2);clear hn h0 Ha
 go_enter func120,ntmps120
 go_wp2
 go_loopw [6,17] (fun v i W=>∃j:Nat,j<=es.length/\i=I Z (j:Int)/\v=.string (bl (mn (es.take j)))/\aq w.heap.size w W/\sD es j) (fun _ i _=>n-(cY i).toNat)
 case atStart=>exact⟨0,by omega,rfl,rfl,hB,q2g es⟩
 case round=>
  clear hB
  obtain⟨j,hj,rfl,rfl,hB,iZ⟩:=hrel
  have c0:World.cell? _ ⟨eb (.slice a0 n cap),eo (.slice a0 n cap),none⟩=some (I Z (ki es)):=(hM.keep hB hlt).IB hl0;have hBl:=hlt hl0
  by_cases cz:j<es.length
  ·(have mA:(j:Int)<(n:Int):=by have:=HN.out;omega);have fU:=q8g cz hM.len
   obtain⟨e,he⟩:∃e,es[j]=e:=⟨_,rfl⟩
   have iv:=hM.keep hB hlt;have hrg:=iv.at j cz he;(have IR:=fun w2=>hM.index j cz w2)
   by_cases hk:pu e
   ·(have CG:∀w,az prog 171 #[.agg (ec e)] w fun x w'=>x=.returned (I Z 0)/\aq w.heap.size w w':=fun w=>by have:=TZ e w;rw[W8 hk] at this;exact this)
    by_cases ht:e.t=ki es
    .refine m3w ?_;intro Gb HK HB zj;clear ht he
     go_upto_region 9 with(first|((with_reducible refine mQ (.indexAddr 96 (.tmp 15) (.tmp 17)) rfl ?_);refine m59 ?_)|(refine gL 100 19 ?_;refine PL (.tmp 19) rfl rfl _ _ rfl e hrg ?_)|(refine gA 100 ?_;refine m5c ?_;clear c0 hB hrg iv;intro b8 w3 R8 hb3 l8 c0 hB)|(refine gS 100 8 20 ?_;refine m39 ?_;clear c0 hB;intro w4 R8 t4 c0 hB))
     refine RD (fun W=>aP 100 W b8 (ec e)/\W.cell? ⟨eb (.slice a0 n cap),eo (.slice a0 n cap),none⟩=some (I Z (ki es))) ⟨R8,c0⟩ (fun _=>?_)
     refine tk 0 (.agg (ec e)) rfl (rA 100 (.tmp 8) rfl kr b8 kr (ec e) (fun w h=>h.1) _ underlying100 rfl (zG e)) ⟨R8,c0⟩ ?_
     refine E2 ?_
     refine AC (fun K hK=>?_) AZ
     go_simp;go_at_call 171;refine Pp ?_;clear R8 c0;intro w5 bh R8 c0;refine gl ?_;clear hB;intro hB
     go_wp2_with fail
     refine hK.out _ _ ⟨R8,c0⟩ (fun _=>?_)
     clear hK K;refine Wv ?_
     refine tk 5 (I Z e.t) rfl (tJ (.tmp 25) rfl kr b8 0 kr e.t (fun w h=>(h.1.cell 0).trans rfl)) ⟨R8,c0⟩ (tq 6 (.slice a0 n cap) rfl ⟨R8,c0⟩ (tk 7 (V (some ⟨eb (.slice a0 n cap),eo (.slice a0 n cap),none⟩)) rfl (Xc 96 (.tmp 27) (.const (I Z 0)) rfl kr _ _ _ kr kr I0) ⟨R8,c0⟩ ?_))
     simp only[ZZ]
     refine tq 8 (V (some ⟨eb (.slice a0 n cap),eo (.slice a0 n cap),none⟩)) rfl ⟨R8,c0⟩ (tk 9 (I Z (ki es)) rfl (tJ (.tmp 29) rfl kr (eb (.slice a0 n cap)) (eo (.slice a0 n cap)) kr (ki es) (fun w h=>h.2)) ⟨R8,c0⟩ (tk 10 (.bool false) rfl (UR 3 (.tmp 26) (.tmp 30) e.t (ki es) false rfl kr kr kr Gb) ⟨R8,c0⟩ ?_))
     simp only[ZZ];refine tq 11 (.bool false) rfl ⟨R8,c0⟩ ?_;refine oM ?_;(have hs1:(bl (mn (es.take j))).size<=2000:=by rw[kY];exact zj);(have hs2:(bl (vR e)).size=21:=by rw[kY,q80])
     go_wp2_with (first|(refine gL 100 8 ?_;refine qf 100 (.tmp 8) rfl rfl b8 rfl (ec e) R8 _ underlying100 rfl (zG e) ?_)|(go_at_call 172;go_fit (qiB e _ hk);rintro x w5 ⟨rfl,bh⟩;refine gl ?_;clear hB;intro hB))
     go_roundw
     case rel=>first|exact⟨j+1,by omega,by go_num,by rw[HB.out,←kL],hB,HK.out⟩ 
     case measure=>exact q8s (HN.out.symm▸cz)
    ·(have Gb:(e.t != ki es)=true:=by simpa using ht);have HS:aK (jy seq es=_):=Xd hl0 pR (Xe cz he (fun h=>ht h.2));clear ht he
     go_upto_region 9 with(first|((with_reducible refine mQ (.indexAddr 96 (.tmp 15) (.tmp 17)) rfl ?_);refine m59 ?_)|(refine gL 100 19 ?_;refine PL (.tmp 19) rfl rfl _ _ rfl e hrg ?_)|(refine gA 100 ?_;refine m5c ?_;clear c0 hB hrg iv;intro b8 w3 R8 hb3 l8 c0 hB)|(refine gS 100 8 20 ?_;refine m39 ?_;clear c0 hB;intro w4 R8 t4 c0 hB))
     refine RD (fun W=>aP 100 W b8 (ec e)/\W.cell? ⟨eb (.slice a0 n cap),eo (.slice a0 n cap),none⟩=some (I Z (ki es))) ⟨R8,c0⟩ (fun _=>?_)
     refine tk 0 (.agg (ec e)) rfl (rA 100 (.tmp 8) rfl kr b8 kr (ec e) (fun w h=>h.1) _ underlying100 rfl (zG e)) ⟨R8,c0⟩ ?_
     refine E2 ?_
     refine AC (fun K hK=>?_) AZ
     go_simp;go_at_call 171;refine Pp ?_;clear R8 c0;intro w5 bh R8 c0;refine gl ?_;clear hB;intro hB
     go_wp2_with fail
     refine hK.out _ _ ⟨R8,c0⟩ (fun _=>?_)
     clear hK K;refine Wv ?_
     refine tk 5 (I Z e.t) rfl (tJ (.tmp 25) rfl kr b8 0 kr e.t (fun w h=>(h.1.cell 0).trans rfl)) ⟨R8,c0⟩ (tq 6 (.slice a0 n cap) rfl ⟨R8,c0⟩ (tk 7 (V (some ⟨eb (.slice a0 n cap),eo (.slice a0 n cap),none⟩)) rfl (Xc 96 (.tmp 27) (.const (I Z 0)) rfl kr _ _ _ kr kr I0) ⟨R8,c0⟩ ?_))
     simp only[ZZ]
     refine tq 8 (V (some ⟨eb (.slice a0 n cap),eo (.slice a0 n cap),none⟩)) rfl ⟨R8,c0⟩ (tk 9 (I Z (ki es)) rfl (tJ (.tmp 29) rfl kr (eb (.slice a0 n cap)) (eo (.slice a0 n cap)) kr (ki es) (fun w h=>h.2)) ⟨R8,c0⟩ (tk 10 (.bool true) rfl (UR 3 (.tmp 26) (.tmp 30) e.t (ki es) true rfl kr kr kr Gb) ⟨R8,c0⟩ ?_))
     exact DW
   ·(have CG:∀w,az prog 171 #[.agg (ec e)] w fun x w'=>x=.returned (I Z 2)/\aq w.heap.size w w':=fun w=>by have:=TZ e w;rw[Nl hk] at this;exact this);have HS:aK (jy seq es=_):=Xd hl0 pR (Xe cz he (fun h=>hk h.1));clear hk he
    go_upto_region 9 with(first|((with_reducible refine mQ (.indexAddr 96 (.tmp 15) (.tmp 17)) rfl ?_);refine m59 ?_)|(refine gL 100 19 ?_;refine PL (.tmp 19) rfl rfl _ _ rfl e hrg ?_)|(refine gA 100 ?_;refine m5c ?_;clear c0 hB hrg iv;intro b8 w3 R8 hb3 l8 c0 hB)|(refine gS 100 8 20 ?_;refine m39 ?_;clear c0 hB;intro w4 R8 t4 c0 hB))
    refine RD (fun W=>aP 100 W b8 (ec e)/\W.cell? ⟨eb (.slice a0 n cap),eo (.slice a0 n cap),none⟩=some (I Z (ki es))) ⟨R8,c0⟩ (fun _=>?_)
    refine tk 0 (.agg (ec e)) rfl (rA 100 (.tmp 8) rfl kr b8 kr (ec e) (fun w h=>h.1) _ underlying100 rfl (zG e)) ⟨R8,c0⟩ ?_
    refine E2 ?_
    refine AC (fun K hK=>?_) AZ
    go_simp;go_at_call 171;refine Pp ?_;clear R8 c0;intro w5 bh R8 c0;refine gl ?_;clear hB;intro hB
    go_wp2_with fail
    refine hK.out _ _ ⟨R8,c0⟩ (fun _=>?_)
    clear hK K;refine m18 ?_
    exact DW
  .refine m5x ?_;intro mA hall HS WG wG qE Cf xg
   rw[qE] at Cf xg
   have ej:es.take j=es:=List.take_of_length_le om;have zj:(mn es).length=21*es.length:=WB es;rw[ej];clear hall wG qE ej
   go_wp2_with (first|((with_reducible refine mQ (.indexAddr 96 (.tmp 39) (.const (I Z 0))) rfl ?_);refine WD 96 (.tmp 39) (.const (I Z 0)) rfl rfl _ _ _ rfl rfl (I0 _) ?_)|(refine gL 3 41 ?_;refine qvf (.tmp 41) rfl rfl _ _ rfl _ c0 ?_)|(go_at_call 170;go_fit (Ud (mn es) (ki es) seq 300 _ om Cf xg om om);rintro x w5 ⟨rfl,bh⟩;unfold jU))
   go_ret2
   exact⟨by rw[HS.out];rfl,hB.trans (bh.mono hB.size)⟩
end Go.Proofs.YtnkpgdejagglaaaGreatDoor
