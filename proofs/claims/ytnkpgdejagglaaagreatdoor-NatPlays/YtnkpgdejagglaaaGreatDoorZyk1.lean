/-
  Of what a law stands on.
-/
import Derived.Test.YtnkpgdejagglaaaGreatDoorZyf3
import Derived.Test.YtnkpgdejagglaaaGreatDoorZyo1
set_option linter.all false
namespace Go.Proofs.YtnkpgdejagglaaaGreatDoor
open _root_.Array renaming getElem?_eq_some_iff->aV
open _root_.Bool renaming and_eq_true->eB
open _root_.Go renaming Calls->az,TypeId->bt,Value->ag,World->af,YieldsIf->gf,execOp->bG,undef->gW,yielded->dy
open _root_.Go.Proofs.Tryz renaming prog->ah
open _root_.Go.Region renaming binds->iK,noSelect->oZ,ready->dV,wanted->bj
open _root_.Go.Sem renaming run_bind->bB,run_pure->bH
open _root_.Go.TypeDesc renaming isRow->gw
open _root_.List renaming drop_eq_getElem_cons->dJ,flatMap_cons->cB,getElem?_drop->ji,getElem?_eq_some_iff->aJ,getElem?_set->ox,getElem?_take->jk,length_append->aY,length_cons->bU,length_take->eD,map_congr_left->mU,mem_iff_getElem?->lO,mem_of_getElem?->aH,mem_of_mem_drop->mr,not_mem_nil->o0,range->aA,take_succ_eq_append_getElem->bz
open _root_.Nat renaming le_refl->au,le_trans->aw,min_eq_left->mD,succ_mul->lj
open _root_.Option renaming map_eq_some_iff->eY
open _root_.Option.some renaming inj->bC
open Go.Value renaming int → I,pointer → V
open Go.IntKind renaming i64 → Z
open _root_.Go.Proofs.Tryz Go.ChangeShapes Go.WideShapes Go.ChangeAt Go.RowKit Go.Maps
set_option maxHeartbeats 16000000
set_option maxRecDepth 100000
variable {W w w':World}{b c i k m n:Nat}{e st t:TypeId}{args cs ys:Array Value}{xs:List Value}{fn:FuncId}{p:Prop}{R:Ending->World->Prop}{a:Act}{l:Array Bool}{o oi:Oper}{z:Int}{s:Nt}{α:Type}{q r u:Operand}{m':Mp}{X:(Nat->Value)->World->Prop}
structure Cp where
 fp:Nat->Prop
 P:af->Prop
structure Cp.Ok(x:Cp)(W:af):Prop where
 it:x.P W
 loc:∀W',(∀c,x.fp c->W'.heap[c]?=W.heap[c]?)->x.P W'
 lt:∀c,x.fp c->c<W.heap.size
def Cp.Ok.keep{x:Cp}{W':af}(h:x.Ok W)(hk:∀c,x.fp c->W'.heap[c]?=W.heap[c]?)(hs:W.heap.size<=W'.heap.size):x.Ok W':=
 ⟨h.loc W' hk,fun W2 h2=>h.loc W2 fun c hc=>(h2 c hc).trans (hk c hc),fun c hc=>Nat.lt_of_lt_of_le (h.lt c hc) hs⟩
structure Dz(F0:Nat->Prop)(w0 W:af)(L:List Cp):Prop where
 gr:Gr F0 w0 W
 apart:∀(i j:Nat) (x y:Cp),i≠j->L[i]?=some x->L[j]?=some y->∀c,x.fp c->¬y.fp c
 ok:∀y∈L,y.Ok W/\∀c,y.fp c->F0 c\/w0.heap.size<=c
def lc(L:List Cp):Nat->Prop:=fun c=>∃x∈L,x.fp c
theorem aTT{p:Prop}(h:p:=by repeat (first|exact trivial|refine And.intro (by first|exact B.at 0 rfl|exact B.at 1 rfl|exact B.at 2 rfl|exact B.at 3 rfl|exact B.at 4 rfl|exact B.at 5 rfl|exact B.at 6 rfl|exact B.at 7 rfl|exact B.at 8 rfl|exact B.at 9 rfl|exact B.at 10 rfl|exact B.at 11 rfl|exact B.at 12 rfl|exact B.at 13 rfl) ?_)):p:=h
theorem rWW{p:Prop}(h:p:=by first|exact B.row 0 rfl|exact B.row 1 rfl|exact B.row 2 rfl|exact B.row 3 rfl|exact B.row 4 rfl|exact B.row 5 rfl|exact B.row 6 rfl|exact B.row 7 rfl|exact B.row 8 rfl|exact B.row 9 rfl):p:=h
theorem nzB{a b:Act}(h:a=b:=by try(conv=>lhs;simp only[Act.put,List.setIfInBounds_toArray,List.set_cons_zero,List.set_cons_succ]);try exact rfl):a=b:=h
section
variable {F0:Nat->Prop} {w0 W W':World} {L R:List Cp} {x y:Cp} {i n:Nat}
theorem Dz.at(h:Dz F0 w0 W L)(i:Nat)(hi:L[i]?=some x):x.P W:=(h.ok _ (aH hi)).1.it
def Dz.keep(h:Dz F0 w0 W L)(hg:Gr F0 w0 W')(hk:∀c,lc L c->W'.heap[c]?=W.heap[c]?)(hs:W.heap.size<=W'.heap.size):Dz F0 w0 W' L:=
 ⟨hg,h.apart,fun y hy=>⟨(h.ok y hy).1.keep (fun c hc=>hk c ⟨y,hy,hc⟩) hs,(h.ok y hy).2⟩⟩
def Dz.lt(h:Dz F0 w0 W L)(hc:lc L c):c<W.heap.size:=by obtain⟨y,hy,h1⟩:=hc;exact(h.ok y hy).1.lt c h1
def Dz.below(h:Dz F0 w0 W L)(hb:Below W.heap.size W W'):Dz F0 w0 W' L:=
 h.keep (h.gr.trans (Gr.cU (F:=fun _=>False) hb) (fun _ h=>h.elim)) (fun c hc=>hb.block c (h.lt hc)) hb.size
def Dz.drew(h:Dz F0 w0 W L):Dz F0 w0 W.drew L:=h.below (Below.refl _ _).drew
def Dz.drewN(h:Dz F0 w0 W L)(n:Nat):Dz F0 w0 (W.drewN n) L:=h.below ⟨rfl,rfl,rfl,au _,fun _ _=>rfl⟩
def Dz.add(h:Dz F0 w0 W L)(y:Cp)(hb:Below W.heap.size W W')(hy:y.Ok W')(hf:∀c,y.fp c->W.heap.size<=c):Dz F0 w0 W' (y::L):=by
 have h':=h.below hb
 refine⟨h'.gr,fun i j u v m6 hu hv c h1 h2=>?_,fun u hu=>?_⟩
 .rcases i with _|i<;>rcases j with _|j<;>simp at hu hv m6
  .subst hu;have:=h.lt ⟨v,aH hv,h2⟩;have:=hf c h1;omega
  .subst hv;have:=h.lt ⟨u,aH hu,h1⟩;have:=hf c h2;omega
  .exact h.apart i j u v m6 hu hv c h1 h2
 .rcases List.mem_cons.1 hu with rfl|hu
  .exact⟨hy,fun c hc=>.inr (aw h.gr.size (hf c hc))⟩
  .exact h'.ok u hu
def Dz.put(h:Dz F0 w0 W L)(i:Nat)(hi:L[i]?=some x)(y:Cp)(hg:Gr x.fp W W')(hy:y.Ok W')(hf:∀c,y.fp c->x.fp c\/W.heap.size<=c):Dz F0 w0 W' (L.set i y):=by
 have hx:=h.ok x (aH hi);have hl:i<L.length:=(aJ.1 hi).1
 have key:∀(j:Nat) (u:Cp),j≠i->L[j]?=some u->∀c,y.fp c->¬u.fp c:=fun j u hj hu c h1 h2=>by
  rcases hf c h1 with h3|h3
  .exact h.apart j i u x hj hu hi c h2 h3
  .have:=h.lt ⟨u,aH hu,h2⟩;omega
 refine⟨h.gr.trans hg (fun c hc=>hx.2 c hc),fun a b u v hab hu hv c h1 h2=>?_,fun u hu=>?_⟩
 .rw[ox] at hu hv
  by_cases e:i=a
  .rw[aZ e,aZ (e▸hl)] at hu
   rw[aT (fun e2=>hab (e.symm.trans e2))] at hv
   obtain rfl:=bC hu
   exact key b v (fun e2=>hab (e.symm.trans e2.symm)) hv c h1 h2
  .rw[aT e] at hu
   by_cases e2:i=b
   .rw[aZ e2,aZ (e2▸hl)] at hv
    obtain rfl:=bC hv
    exact key a u (fun e3=>e e3.symm) hu c h2 h1
   .rw[aT e2] at hv
    exact h.apart a b u v hab hu hv c h1 h2
 .obtain⟨j,hj⟩:=lO.1 hu
  rw[ox] at hj
  by_cases e:i=j
  .rw[aZ e,aZ (e▸hl)] at hj
   obtain rfl:=bC hj
   exact⟨hy,fun c hc=>(hf c hc).elim (hx.2 c) (fun h3=>.inr (aw h.gr.size h3))⟩
  .rw[aT e] at hj
   have hm:=h.ok u (aH hj)
   exact⟨hm.1.keep (fun c hc=>hg.block c (hm.1.lt c hc) (h.apart j i u x (fun e2=>e e2.symm) hj hi c hc)) hg.size,hm.2⟩
theorem Mr(L:List Cp)(n k:Nat):(L.drop n)[k]?=L[n+k]?:=by rw[ji]
def Dz.drop(h:Dz F0 w0 W L)(n:Nat):Dz F0 w0 W (L.drop n):=
 ⟨h.gr,fun i j u v m6 hu hv=>h.apart (n+i) (n+j) u v om (by rwa [Mr] at hu) (by rwa [Mr] at hv),fun u hu=>h.ok u (mr hu)⟩
def Dz.only(h:Dz F0 w0 W L)(n:Nat):Dz (lc (L.drop n)) W W (L.drop n):=
 ⟨Gr.refl _ _,(h.drop n).apart,fun u hu=>⟨((h.drop n).ok u hu).1,fun c hc=>.inl ⟨u,hu,hc⟩⟩⟩
def Dz.call(h:Dz F0 w0 W L)(n:Nat)(k:Dz (lc (L.drop n)) W W' R):Dz F0 w0 W' (L.take n++R):=by
 have old:∀(j:Nat) (u:Cp),j<n->L[j]?=some u->∀c,u.fp c->¬lc (L.drop n) c:=fun j u hj hu c h1 ⟨v,hv,h2⟩=>by
  obtain⟨q,hq⟩:=lO.1 hv
  rw[Mr] at hq
  exact h.apart j (n+q) u v om hu hq c h1 h2
 have tk:∀(j:Nat) (u:Cp),(L.take n)[j]?=some u->j<n/\L[j]?=some u:=fun j u hu=>by
  have hl:=(aJ.1 hu).1
  rw[eD] at hl
  exact⟨by omega,by rw[←hu,jk,aZ om]⟩
 have key:∀(j:Nat) (u:Cp),(L.take n)[j]?=some u->∀v∈R,∀c,u.fp c->¬v.fp c:=fun j u hu v hv c h1 h2=>by
  rcases(k.ok v hv).2 c h2 with h3|h3
  .exact old j u (tk j u hu).1 (tk j u hu).2 c h1 h3
  .have:=h.lt ⟨u,aH (tk j u hu).2,h1⟩;omega
 refine⟨h.gr.trans k.gr (fun c ⟨v,hv,hc⟩=>(h.ok v (mr hv)).2 c hc),fun i j u v m6 hu hv c h1 h2=>?_,fun u hu=>?_⟩
 .rw[List.getElem?_append] at hu hv
  by_cases ei:i<(L.take n).length
  .rw[aZ ei] at hu
   by_cases ej:j<(L.take n).length
   .rw[aZ ej] at hv;exact h.apart i j u v m6 (tk i u hu).2 (tk j v hv).2 c h1 h2
   .rw[aT ej] at hv;exact key i u hu v (aH hv) c h1 h2
  .rw[aT ei] at hu
   by_cases ej:j<(L.take n).length
   .rw[aZ ej] at hv;exact key j v hv u (aH hu) c h2 h1
   .rw[aT ej] at hv;exact k.apart _ _ u v om hu hv c h1 h2
 .rcases List.mem_append.1 hu with hu|hu
  .obtain⟨j,hj⟩:=lO.1 hu;have hm:=h.ok u (aH (tk j u hj).2)
   exact⟨hm.1.keep (fun c hc=>k.gr.block c (hm.1.lt c hc) (old j u (tk j u hj).1 (tk j u hj).2 c hc)) k.gr.size,hm.2⟩
  .exact⟨(k.ok u hu).1,fun c hc=>((k.ok u hu).2 c hc).elim (fun⟨v,hv,h3⟩=>(h.ok v (mr hv)).2 c h3) (fun h3=>.inr (aw h.gr.size h3))⟩
end
def cR(t:bt)(b:Nat)(cs:Array ag):Cp:=⟨fun c=>c=b,fun W=>aP t W b cs⟩
def cL(e:bt)(m:Nat)(v:ag)(n:Nat)(xs:List ag):Cp:=⟨fun c=>v.ownBlock=some c,fun W=>W.ownsRow 0 e m v n xs⟩
def cM(v:ag)(ms:List Mp):Cp:=⟨fun c=>0<ms.length/\c=mb v,fun W=>cE W v ms/\jw v⟩
def FC(h:aP t W b cs):(cR t b cs).Ok W:=⟨h,fun W' hk=>(hk b rfl).trans h,fun c hc=>hc▸h.lt⟩
def Bq{v:ag}(h:W.ownsRow 0 e m v n xs):(cL e m v n xs).Ok W:=⟨h,fun W' hk=>yy h (fun g hg=>hk g hg),fun c hc=>(World.ownsRow.lt h c hc).2⟩
def RA{v:ag}{ms:List Mp}(h:cE W v ms)(h2:jw v):(cM v ms).Ok W:=⟨⟨h,h2⟩,fun W' hk=>⟨EA h (fun h0=>hk _ ⟨h0,rfl⟩),h2⟩,fun c hc=>hc.2▸h.lt hc.1⟩
theorem RB(hu:(ah.underlying t).map gw=some false)(w:af)(c f:Nat)(v:ag)(hc:w.cell? ⟨c,f,none⟩=some v):(loadVar t ⟨c,f,none⟩).run ah w=.ok v w:=by
 obtain⟨d,h1,h2⟩:=eY.1 hu
 have hagg:(isAgg t).run ah w=.ok false w:=by
  unfold isAgg
  rw[bB,run_underlying h1 w]
  cases d<;>simp_all
 simp[loadVar,bB,hagg,hc]
def RF:∀(l:List ag) (f:Nat) (w:af) (cs:Array ag),aP t w c cs->aP t (w.setCells c f l) c (jb cs f l)
 | [],_,_,_,h=>h
 | v::r,f,w,cs,h=>by unfold World.setCells jb;exact RF r (f+1) _ _ h.set
def RG:∀(l:List ag) (f:Nat) (w:af),gG c w (w.setCells c f l)
 | [],_,w=>⟨rfl,fun _ _=>rfl,fun _ _ _ h=>h⟩
 | v::r,f,w=>by
  have h1:=GL c f v w;have h2:gG c (w.setCell ⟨c,f,none⟩ v) ((w.setCell ⟨c,f,none⟩ v).setCells c (f+1) r):=RG r (f+1) _
  exact⟨h2.size.trans h1.size,fun q hq=>(h2.other q hq).trans (h1.other q hq),fun B w0 hB h=>h2.below B w0 hB (h1.below B w0 hB h)⟩
section
variable {ops:Array Oper} {rest:List Oper} {o:Oper} {a:Act} {w w0:World} {Q:Exit->Act->World->Prop} {K:Act->World->Prop} {F0:Nat->Prop} {L:List Cp} {t t':TypeId} {c f:Nat} {cs cs':Array Value} {v:Value} {x y:Operand}
def kl(R:aP t w c cs)(ho:o.op=.load t' x)(hx:a.eval x=V (some ⟨c,f,none⟩))(hc:cs[f]?=some v)(hu:(ah.underlying t').map gw=some false)(hr:K (a.put o.dst v) w):o.wp ah a w K Q:=by
 unfold Oper.wp bG
 simp only[ho,hx,Instr.loadAt,Instr.sureAddr,bB,bH,Result.andThen_ok,RB hu w c f v ((R.cell f).trans hc)]
 exact hr
def km(R:aP t w c cs)(l:List ag)(ho:o.op=.load t' x)(hx:a.eval x=V (some ⟨c,f,none⟩))(hl:(cs.toList.drop f).take l.length=l)(hu:(ah.underlying t').map gw=some true)(hi:(ah.info? t').map (·.size)=some l.length)(hr:K (a.put o.dst (.agg l.toArray)) w):o.wp ah a w K Q:=by
 obtain⟨d,h1,h2⟩:=eY.1 hu
 refine wp_load_mid t' x ho c f hx l d (R.range fun j u hj=>?_) h1 h2 hi hr
 rw[←hl] at hj
 rw[jk] at hj
 split at hj
 .rw[ji] at hj;simpa using hj
 .cases hj
def ks(B:Dz F0 w0 w L)(i:Nat)(ho:o.op=.store t' x y)(hx:a.eval x=V (some ⟨c,f,none⟩))(hy:a.eval y=v)(hi:L[i]?=some (cR t c cs))(cs':Array ag)(hd:jb cs f v.cells.toList=cs')(hs:(ah.info? t').map (·.size)=some v.cells.size)(h1:v.cells.all (·.oneCell')=true)(hf:f+v.cells.size<=cs.size)(hr:∀w',Dz F0 w0 w' (L.set i (cR t c cs'))->K (a.put o.dst gW) w'):o.wp ah a w K Q:=by
 have R:aP t w c cs:=B.at i hi;(have hq:=run_storeCells_cells (P:=ah) c f v.cells.toList 0 w (fun j hj=>by rw[Nat.add_zero,R.cell];have:j<v.cells.size:=(by simpa using hj);simp;omega) (fun j hj=>R.free _) (fun u hu=>(Array.all_eq_true_iff_forall_mem.1 h1) u (by simpa using hu)));obtain⟨ti,h2,h3⟩:=eY.1 hs
 have hst:(storeVar t' ⟨c,f,none⟩ v).run ah w=.ok () (w.setCells c f v.cells.toList):=by
  simp only[Nat.add_zero] at hq
  simp[storeVar,sizeOf,typeInfo,h2,h3,hq]
 have T:=RG (c:=c) v.cells.toList f w;have R':=RF v.cells.toList f w cs R
 rw[hd] at R'
 unfold Oper.wp bG
 simp only[ho,hx,hy,Instr.storeAt,Instr.sureAddr,bB,bH,Result.andThen_ok,hst]
 exact hr _ (B.put i hi _ ((tj T).mono fun _ h=>h) (FC R') (fun q hq=>.inl hq))
def kb(B:Dz F0 w0 w L)(ho:o.op=.box t x)(hx:a.eval x=v)(hr:∀c w',Dz F0 w0 w' (cR t c v.cells::L)->K (a.put o.dst (V (some ⟨c,0,none⟩))) w'):o.wp ah a w K Q:=by
 refine m5i ?_;intro hb h'
 unfold Oper.wp bG
 simp only[ho,hx,Instr.box,newVar]
 simp[go_sem]
 exact h'
def ka(B:Dz F0 w0 w L)(ho:o.op=.alloc t)(hz:∀w:af,(zeroValue t).run ah w=.ok v w)(hr:∀c w',Dz F0 w0 w' (cR t c v.cells::L)->K (a.put o.dst (V (some ⟨c,0,none⟩))) w'):o.wp ah a w K Q:=by
 refine m5i ?_;intro hb h'
 unfold Oper.wp bG
 simp[ho,Instr.alloc,newVar,hz w,Result.andThen]
 simp[go_sem]
 exact h'
end
structure Sl where
 a:Option Addr
 n:Nat
 c:Nat
def Sl.v(x:Sl):ag:=.slice x.a x.n x.c
def RH(n:Nat)(s:Nt)(T F Iq:Sl):Array ag:=if _:n=0 then tc s.f s.g s.h (.slice T.a T.n T.c)++#[.slice F.a F.n F.c,.slice Iq.a Iq.n Iq.c,I Z (s.began:Int),I Z s.now,I Z (s.logged:Int),I Z (s.left:Int),I Z (s.acts:Int),.bool s.loose] else RH (n/2) s T F Iq
def i5(s:Nt)(T F Iq:Sl):Array ag:=RH 0 s T F Iq
section
variable (s:Nt) (T F Iq:Sl)
def RI:(i5 s T F Iq)[30]?=some (.slice F.a F.n F.c):=by kernel_rfl
def RJ:(i5 s T F Iq)[31]?=some (.slice Iq.a Iq.n Iq.c):=by kernel_rfl
def RL:(i5 s T F Iq)[32]?=some (I Z (s.began:Int)):=by kernel_rfl
def FD:(i5 s T F Iq)[33]?=some (I Z s.now):=by kernel_rfl
def RO:(i5 s T F Iq)[34]?=some (I Z (s.logged:Int)):=by kernel_rfl
def RP:(i5 s T F Iq)[35]?=some (I Z (s.left:Int)):=by kernel_rfl
def RQ:(i5 s T F Iq)[36]?=some (I Z (s.acts:Int)):=by kernel_rfl
def RS:(i5 s T F Iq)[37]?=some (.bool s.loose):=by kernel_rfl
def qcX(n:Nat):jb (i5 s T F Iq) 32 [I Z (n:Int)]=i5 { s with began:=n } T F Iq:=by kernel_rfl
def qcY(n:Int):jb (i5 s T F Iq) 33 [I Z n]=i5 { s with now:=n } T F Iq:=by kernel_rfl
def qcZ(n:Nat):jb (i5 s T F Iq) 34 [I Z (n:Int)]=i5 { s with logged:=n } T F Iq:=by kernel_rfl
def RU(n:Nat):jb (i5 s T F Iq) 35 [I Z (n:Int)]=i5 { s with left:=n } T F Iq:=by kernel_rfl
def vH(n:Nat):jb (i5 s T F Iq) 36 [I Z (n:Int)]=i5 { s with acts:=n } T F Iq:=by kernel_rfl
def RV(F':Sl):jb (i5 s T F Iq) 30 [.slice F'.a F'.n F'.c]=i5 s T F' Iq:=by kernel_rfl
def RX(jG:Sl):jb (i5 s T F Iq) 31 [.slice jG.a jG.n jG.c]=i5 s T F jG:=by kernel_rfl
def PW(f h:Nat->Int)(g:Nat->Bool)(ms:List Mp)(T':Sl):jb (i5 s T F Iq) 0 (tc f g h (.slice T'.a T'.n T'.c)).toList=i5 { s with f:=f,g:=g,h:=h,ms:=ms } T' F Iq:=by kernel_rfl
def dcT:((i5 s T F Iq).toList.drop 0).take 30=(tc s.f s.g s.h (.slice T.a T.n T.c)).toList:=by kernel_rfl
def dcP:((i5 s T F Iq).toList.drop 0).take 21=(pc s.f s.g).toList:=by kernel_rfl
def dsP(f:Nat->Int)(g:Nat->Bool):jb (i5 s T F Iq) 0 (pc f g).toList=i5 { s with f:=f,g:=g } T F Iq:=by kernel_rfl
end
def pk0(p:bM):(dm p)[0]?=some (I Z p.ae):=rfl
def pk1(p:bM):(dm p)[1]?=some (I Z p.src):=rfl
def pk2(p:bM):(dm p)[2]?=some (I Z p.aj):=rfl
def pk3(p:bM):(dm p)[3]?=some (I Z p.dst):=rfl
def pk4(p:bM):(dm p)[4]?=some (I Z p.ai):=rfl
def pk5(p:bM):(dm p)[5]?=some (I Z p.aG):=rfl
def pk6(p:bM):(dm p)[6]?=some (I Z p.id):=rfl
def pk7(p:bM):(dm p)[7]?=some (I Z p.flags):=rfl
def pk8(p:bM):(dm p)[8]?=some (I Z p.seq):=rfl
def pk9(p:bM):(dm p)[9]?=some (I Z p.bo):=rfl
def RY(p:bM):(dm p)[10]?=some (I Z p.br):=rfl
def fk0(k:Fl):(fc k)[0]?=some (I Z k.pr):=rfl
def fk1(k:Fl):(fc k)[1]?=some (I Z k.s):=rfl
def fk2(k:Fl):(fc k)[2]?=some (I Z k.i):=rfl
def fk3(k:Fl):(fc k)[3]?=some (I Z k.a):=rfl
def fk4(k:Fl):(fc k)[4]?=some (I Z k.port):=rfl
def fk5(k:Fl):(fc k)[5]?=some (I Z k.rem):=rfl
def fk6(k:Fl):(fc k)[6]?=some (I Z k.rp):=rfl
def fk7(k:Fl):(fc k)[7]?=some (I Z k.st):=rfl
def fk8(k:Fl):(fc k)[8]?=some (I Z k.sd):=rfl
def fk9(k:Fl):(fc k)[9]?=some (I Z k.du):=rfl
def mk0(m:Mp):(mc m)[0]?=some (I Z m.1):=rfl
theorem mk1(m:Mp):(mc m)[1]?=some (I Z m.2.1):=rfl
def mk2(m:Mp):(mc m)[2]?=some (I Z m.2.2.1):=rfl
theorem VQ(m:Mp):(mc m)[3]?=some (I Z m.2.2.2.1):=rfl
def mk4(m:Mp):(mc m)[4]?=some (I Z m.2.2.2.2):=rfl
def ak0(k:Ac):(ac k)[0]?=some (I Z k.kd):=rfl
def ak1(k:Ac):(ac k)[1]?=some (I Z k.n):=rfl
def ak2(k:Ac):(ac k)[2]?=some (I Z k.dr):=rfl
def ak3(k:Ac):(ac k)[3]?=some (.string k.fr):=rfl
def Dz.row{F0:Nat->Prop}{w0:af}{L:List Cp}(h:Dz F0 w0 W L)(i:Nat)(hi:L[i]?=some (cR t c cs)):aP t W c cs:=h.at i hi
section
variable {ops:Array Oper} {rest:List Oper} {o:Oper} {a:Act} {w w0:World} {Q:Exit->Act->World->Prop} {K:Act->World->Prop} {F0:Nat->Prop} {L:List Cp} {t t':TypeId} {c f:Nat} {cs:Array Value} {v:Value} {x y:Operand}
def eG{a':Act}{pz:Prop}(h:wpList prog ops Q (o::rest) a' w)(c:pz=wpList prog ops Q (o::rest) a w:=by with_unfolding_none exact rfl)(d:o.op=.load t x:=by with_reducible exact rfl)(e:a=a':=by exact nzB):pz:=by subst c e;exact h
def fe{a':Act}{pz:Prop}(h:wpList prog ops Q (o::rest) a' w)(c:pz=wpList prog ops Q (o::rest) a w:=by with_unfolding_none exact rfl)(d:o.op=.store t x y:=by with_reducible exact rfl)(e:a=a':=by exact nzB):pz:=by subst c e;exact h
def se{pz:Prop}(h:pz)(c:qQ (.box t x) pz:=by exact rz (by with_unfolding_none exact rfl) (by with_reducible exact rfl)):pz:=h
def iz{pz:Prop}(h:pz)(c:qQ (.alloc t) pz:=by exact rz (by with_unfolding_none exact rfl) (by with_reducible exact rfl)):pz:=h
theorem cLL{p:Prop}(h:p:=by first|exact FD _ _ _ _|exact RI _ _ _ _|exact RJ _ _ _ _|exact RL _ _ _ _|exact RO _ _ _ _|exact RP _ _ _ _|exact RQ _ _ _ _|exact RS _ _ _ _|exact pk0 _|exact pk1 _|exact pk2 _|exact pk3 _|exact pk4 _|exact pk5 _|exact pk6 _|exact pk7 _|exact pk8 _|exact pk9 _|exact RY _|exact fk0 _|exact fk1 _|exact fk2 _|exact fk3 _|exact fk4 _|exact fk5 _|exact fk6 _|exact fk7 _|exact fk8 _|exact fk9 _|exact mk0 _|exact mk1 _|exact mk2 _|exact VQ _|exact mk4 _|exact ak0 _|exact ak1 _|exact ak2 _|exact ak3 _|exact rfl):p:=h
def eP(hr:wpList prog ops Q rest (a.put o.dst v) w)(ho:o.op=.load t' x:=by exact rfl)(hx:a.eval x=V (some ⟨c,f,none⟩):=by exact rfl)(R:aP t w c cs:=by exact rWW)(hc:cs[f]?=some v:=by exact cLL)(hu:(prog.underlying t').map TypeDesc.isRow=some false:=by kernel_rfl)(hw:Region.wanted o (yielded ops a.tmps)=true:=by exact rfl):wpList prog ops Q (o::rest) a w:=
 wpList_step fun K hK=>by rw[aZ hw];exact kl R ho hx hc hu (hK _ _ hr)
def dMi(l:List Value)(hr:wpList prog ops Q rest (a.put o.dst (.agg l.toArray)) w)(ho:o.op=.load t' x:=by exact rfl)(hx:a.eval x=V (some ⟨c,f,none⟩):=by exact rfl)(R:aP t w c cs:=by exact rWW)(hl:(cs.toList.drop f).take l.length=l:=by exact rfl)(hu:(prog.underlying t').map TypeDesc.isRow=some true:=by kernel_rfl)(hi:(prog.info? t').map (·.size)=some l.length:=by kernel_rfl)(hw:Region.wanted o (yielded ops a.tmps)=true:=by exact rfl):wpList prog ops Q (o::rest) a w:=
 wpList_step fun K hK=>by rw[aZ hw];exact km R l ho hx hl hu hi (hK _ _ hr)
def gJ(hr:wpList prog ops Q rest (a.put o.dst (.agg cs)) w)(ho:o.op=.load t x:=by exact rfl)(hx:a.eval x=V (some ⟨c,0,none⟩):=by exact rfl)(R:aP t w c cs:=by exact rWW)(hu:(prog.underlying t).map TypeDesc.isRow=some true:=by decide +kernel)(hi:(prog.info? t).map (·.size)=some cs.size:=by kernel_rfl)(hw:Region.wanted o (yielded ops a.tmps)=true:=by exact rfl):wpList prog ops Q (o::rest) a w:=
 wpList_step fun K hK=>by rw[aZ hw];exact km (f:=0) R cs.toList ho hx (by rw[List.drop_zero];exact List.take_of_length_le (Nat.le_refl _)) hu (by simpa using hi) (by simpa using hK _ _ hr)
def ld(B:Dz F0 w0 w L)(i:Nat)(cs':Array Value)(hr:∀w',Dz F0 w0 w' (L.set i (cR t c cs'))->wpList prog ops Q rest (a.put o.dst undef) w')(ho:o.op=.store t' x y:=by exact rfl)(hx:a.eval x=V (some ⟨c,f,none⟩):=by exact rfl)(hi:L[i]?=some (cR t c cs):=by exact rfl)(hy:a.eval y=v:=by exact rfl)(hd:jb cs f v.cells.toList=cs':=by kernel_rfl)(hs:(prog.info? t').map (·.size)=some v.cells.size:=by kernel_rfl)(h1:v.cells.all (·.oneCell')=true:=by kernel_rfl)(hf:Nat.ble (f+v.cells.size) cs.size=true:=by kernel_rfl)(hgd:o.guard=none:=by exact rfl):wpList prog ops Q (o::rest) a w:=
 wpList_plain hgd fun K hK=>ks B i ho hx hy hi cs' hd hs h1 (Nat.le_of_ble_eq_true hf) fun w' h=>hK _ _ (hr w' h)
def sf(B:Dz F0 w0 w L)(hr:∀c w',Dz F0 w0 w' (cR t c v.cells::L)->wpList prog ops Q rest (a.put o.dst (V (some ⟨c,0,none⟩))) w')(ho:o.op=.box t x:=by exact rfl)(hx:a.eval x=v:=by exact rfl)(hgd:o.guard=none:=by exact rfl):wpList prog ops Q (o::rest) a w:=
 wpList_plain hgd fun K hK=>kb B ho hx fun c w' h=>hK _ _ (hr c w' h)
def dAl(B:Dz F0 w0 w L)(hr:∀c w',Dz F0 w0 w' (cR t c v.cells::L)->wpList prog ops Q rest (a.put o.dst (V (some ⟨c,0,none⟩))) w')(ho:o.op=.alloc t:=by exact rfl)(hz:∀w:World,(zeroValue t).run prog w=.ok v w:=by first|exact EB|exact VR|exact OT|exact FE|exact zg|exact Vc)(hgd:o.guard=none:=by exact rfl):wpList prog ops Q (o::rest) a w:=
 wpList_plain hgd fun K hK=>ka B ho hz fun c w' h=>hK _ _ (hr c w' h)
end
def iy(fs:List (Nat×Fl)):List ag:=fs.flatMap fun x=>(fc x.2).toList
def gQ(fs:List (Nat×Fl)):List ag:=fs.map fun x=>I Z (x.1:Int)
def bD(b:Nat)(s:Nt)(T F Iq:Sl):List Cp:=[cR 46 b (i5 s T F Iq),cL 75 10 F.v s.fs.length (iy s.fs),cL 3 1 Iq.v s.fs.length (gQ s.fs),cM T.v s.ms]
def gR(f:FuncId)(xs:Array ag)(w:af)(b:Nat)(s:Nt)(T F Iq:Sl)(v:ag)(s':Nt):Prop:=
 az ah f xs w fun e w'=>e=.returned v/\∃T' F' jG,Dz (lc (bD b s T F Iq)) w w' (bD b s' T' F' jG)
def jT{fn:Func}{p:Tmp}(h:R (.returned (.agg cs)) w)(hf:fn.results=#[.cell p 29]:=by exact rfl)(hp:a.tmps.getD p undef=V (some ⟨c,0,none⟩):=by exact rfl)(Rw:aP 29 w c cs:=by exact rWW)(hi:(prog.info? 29).map (·.size)=some cs.size:=by kernel_rfl)(hd:a.defers=[]:=by exact rfl):bodyPost prog fn R .ret a w:=
 bodyPost_ret (mW hf _ _ _ _ hp Rw _ underlying29 rfl hi) hd h
def Dz.start(w:af):Dz (fun _=>False) w w []:=⟨Gr.refl _ _,by simp,by simp⟩
def Dz.iW{L:List Cp}(h:Dz (fun _=>False) w W L):Below w.heap.size w W:=h.gr.below (fun _ h=>h.elim) (au _)
def vI(h:p:=by
 go_wp2_with (first|(refine iz ?_;refine iN ?_;clear B;intro c W B)|(refine fe ?_;refine ld B 0 (eZ n).cells ?_;clear B;intro W B))
 exact jT ⟨rfl,B.iW⟩):p:=h
def FH(n:Int)(w:af):az ah 22 #[I Z n] w fun e w'=>e=.returned (.agg (eZ n).cells)/\Below w.heap.size w w':=by
 have B:=Dz.start w
 go_enter func22,ntmps22
 exact vI
def yz(n:Int)(w:af):az ah 47 #[I Z n] w fun e w'=>e=.returned (.agg (eZ n).cells)/\Below w.heap.size w w':=by
 have B:=Dz.start w
 go_enter func47,ntmps47
 exact vI
def yA(n:Int)(w:af):az ah 59 #[I Z n] w fun e w'=>e=.returned (.agg (eZ n).cells)/\Below w.heap.size w w':=by
 have B:=Dz.start w
 go_enter func59,ntmps59
 exact vI
section
variable {ops:Array Oper} {Q:Exit->Act->World->Prop} {S:World->Prop} {lt:List Nat}
def jo(ops:Array Oper)(Q:Exit->Act->af->Prop)(S:af->Prop)(lt:List Nat):Nat->Array Bool->Act->af->Prop
 | 0,l,a,w=>dV .any ops l=[]/\Q .normal a w
 | n+1,l,a,w=>(dV .any ops l=[]->Q .normal a w)/\∀i∈dV .any ops l,wpOp ah ops Q i (fun a' w'=>(i ∉ lt->S w->S w')/\jo ops Q S lt n (l.setIfInBounds i true) a' w') a w
def Mt:∀(n:Nat) (l:Array Bool) (a:Act) (w:af),jo ops Q S lt n l a w->wpAny ah .any ops Q n l a w
 | 0,_,_,_,h=>h
 | n+1,_,_,_,h=>⟨h.1,fun i hi=>wpOp_mono (fun a' w' h'=>Mt n _ a' w' h'.2) (h.2 i hi)⟩
def OU(ops:Array Oper)(l:Array Bool):Prop:=∀q o,ops[q]?=some o->l.getD q false=true->∀e∈o.after,iK .any e=true->l.getD e.on false=true
def uf(ops:Array Oper)(l:Array Bool):Bool:=(aA ops.size).all fun q=>match ops[q]? with|some o=>!l.getD q false||o.after.all fun e=>!iK .any e||l.getD e.on false|none=>true
def qdk(h:uf ops l=true):OU ops l:=fun q o ho hq e he hb=>by
 have:=List.all_eq_true.1 h q (List.mem_range.2 (Array.getElem?_eq_some_iff.1 ho).1)
 simp only[ho,hq] at this
 rw[Bool.not_true,Bool.false_or] at this
 have:=Array.all_eq_true_iff_forall_mem.1 this e he
 rw[hb,Bool.not_true,Bool.false_or] at this
 exact this
def OU.set{j:Nat}(h:OU ops l)(hj:j∈dV .any ops l):OU ops (l.setIfInBounds j true):=by
 obtain⟨hu,oj,OV,hall⟩:=mem_ready.1 hj;intro q o ho hq e he hb
 by_cases jq:j=q
 .subst jq
  rw[OV] at ho
  cases ho
  exact getD_set_true (hall e he hb)
 .rw[getD_set_ne false jq] at hq
  exact getD_set_true (h q o ho hq e he hb)
def RZ(ops:Array Oper)(i:Nat):Nat:=(aA ops.size).foldl (fun D j=>if (match ops[j]? with|some o=>o.after.any fun e=>iK .any e&&(e.on==i||D.testBit e.on)|none=>false) then D ||| 1 <<< j else D) 0
def Sa(ops:Array Oper)(i:Nat)(D:Nat):Bool:=(aA ops.size).all fun j=>!D.testBit j||match ops[j]? with|some o=>o.after.any fun e=>iK .any e&&(e.on==i||(D.testBit e.on&&Nat.blt e.on j))|none=>false
def qdt(h:l.getD i true=false):l.getD i false=false:=by
 by_cases hh:i<l.size
 .simp[hh] at h ⊢;exact h
 .simp[Array.getElem?_eq_none (Nat.le_of_not_lt hh)] at h
def qdA{D:Nat}(hd:Sa ops i D=true)(hc:OU ops l)(hi:l.getD i true=false):∀(n j:Nat),j<n->D.testBit j=true->(ops[j]?).isSome=true->l.getD j false=false/\j ∉ dV .any ops l:=by
 intro n
 induction n with
 | zero=>exact fun j h=>absurd h (Nat.not_lt_zero _)
 | succ n ih=>
  intro j mA hj tu
  cases ho:ops[j]? with
  | none=>simp[ho] at tu
  | some o=>
   have h1:=List.all_eq_true.1 hd j (List.mem_range.2 (aV.1 ho).1)
   simp only[ho,hj,Bool.not_true,Bool.false_or] at h1
   obtain⟨q,hq,h2⟩:=Array.any_eq_true.1 h1
   rw[eB,Bool.or_eq_true,eB] at h2
   obtain⟨hb,h3⟩:=h2
   have off:l.getD (o.after[q]).on false=false:=by
    rcases h3 with h3|⟨h3,h4⟩
    .rw[show(o.after[q]).on=i by simpa using h3];exact qdt hi
    ·(have hlt:(o.after[q]).on<j:=by simpa[Nat.blt_eq] using h4)
     exact(ih _ om h3 (by have:=(aV.1 ho).1;simp[Array.getElem?_eq_getElem (show(o.after[q]).on<ops.size by omega)])).1
   refine⟨?_,fun hr=>?_⟩
   .cases hh:l.getD j false with
    | false=>rfl
    | true=>rw[hc j o ho hh _ (Array.getElem_mem hq) hb] at off;cases off
   .obtain⟨_,o',ho',hall⟩:=mem_ready.1 hr
    rw[ho] at ho'
    cases ho'
    rw[hall _ (Array.getElem_mem hq) hb] at off
    cases off
def sg(ops:Array Oper)(lt:List Nat)(i:Nat):Bool:=lt.isEmpty||(Sa ops i (RZ ops i)&&lt.all fun j=>(RZ ops i).testBit j)
def Sb{Y:af->Prop}{v:ag}(hi:ops[i]?=some oi)(hs:oZ ops=true)(hl:(∀w,Y w)\/Y=S/\sg ops lt i=true)(hQ:∀c a w,Q (.panic c) (a.put oi.dst v) w->Q (.panic c) a w):
  ∀(n:Nat) (l:Array Bool) (a:Act) (w:af),(∀j oj,ops[j]?=some oj->j≠i->l.getD j true=false->(∀e∈oj.after,iK .any e=true->e.on≠i)->oi.apart ops oj=true)->
   ((∀w,Y w)\/OU ops l)->i∈dV .any ops l->gf ah ops Y oi v a->Y w->jo ops Q S lt n (l.setIfInBounds i true) (a.put oi.dst v) w->jo ops Q S lt (n+1) l a w:=by
 have sel:=Region.noSelect_spec hs;intro n
 induction n with
 | zero=>
  intro l a w _ _ hr hy hY H
  refine⟨fun h=>absurd (h▸hr) (o0),fun j hj=>?_⟩
  by_cases e:j=i
  .rw[e];exact hy.wpOp hi hY ⟨fun _ h=>h,H⟩
  .exact absurd (H.1▸ready_mono hj e) o0
 | succ n ih=>
  intro l a w fr hc hr hy hY H
  refine⟨fun h=>absurd (h▸hr) (o0),fun j hj=>?_⟩
  by_cases e:j=i
  .rw[e];exact hy.wpOp hi hY ⟨fun _ h=>h,H⟩
  obtain⟨hu,oj,OV,hall⟩:=mem_ready.1 hj
  have no:∀d∈oj.after,iK .any d=true->d.on≠i:=fun d hd hb he=>by
   have h1:=hall d hd hb;have h0:=(mem_ready.1 hr).1
   rw[he] at h1
   by_cases hh:i<l.size
   .simp[hh] at h0 h1;rw[h0] at h1;cases h1
   .simp[Array.getElem?_eq_none (Nat.le_of_not_lt hh)] at h1
  have nl:∀w',(j ∉ lt->S w->S w')->Y w':=fun w' h=>hl.elim (fun q=>q w') fun⟨q2,q3⟩=>hc.elim (fun q=>q w') fun hc=>by
   subst q2
   refine h (fun hj2=>?_) hY
   unfold sg at q3
   rw[Bool.or_eq_true] at q3
   rcases q3 with q3|q3
   .rw[List.isEmpty_iff.1 q3] at hj2;cases hj2
   rw[eB] at q3
   exact(qdA q3.1 hc (mem_ready.1 hr).1 (j+1) j (Nat.lt_succ_self _) (List.all_eq_true.1 q3.2 j hj2) (by rw[OV];rfl)).2 hj
  have h2:=wpOp_putIf OV (fr j oj OV e hu no) (fun c b=>sel i oi c b hi) (fun c b=>sel j oj c b OV) hQ hy (H.2 j (ready_mono hj e))
  refine wpOp_mono (fun a' w' h3=>⟨h3.2.1,ih (l.setIfInBounds j true) a' w' (fun k ok hk hki Oj hno=>fr k ok hk hki ?_ hno) (hc.imp id fun hc=>hc.set hj) (ready_mono hr (Ne.symm e)) h3.1 (nl w' h3.2.1) ?_⟩) h2
  .by_cases hjk:j=k
   .rw[←hjk];exact hu
   .rwa [getD_set_ne true hjk] at Oj
  .rw[Array.setIfInBounds_comm _ _ e]
   exact h3.2.2
def fM(h:Q .normal a w)(hr:Region.ready .any ops l=[]:=by kernel_rfl):jo ops (NoPanic Q) S lt n l a w:=by
 have h':NoPanic Q .normal a w:=h
 cases n with
 | zero=>exact⟨hr,h'⟩
 | succ n=>exact⟨fun _=>h',by rw[hr];simp⟩
def Nx(ops:Array Oper)(Q:Exit->Act->af->Prop)(S:af->Prop)(lt:List Nat)(n:Nat)(l:Array Bool)(i:Nat)(a:Act)(w:af):Prop:=wpOp ah ops Q i (fun a' w'=>(i ∉ lt->S w->S w')/\jo ops Q S lt n (l.setIfInBounds i true) a' w') a w
def nx(h:o.wp prog a w (fun a' w'=>(i ∉ lt->S w->S w')/\jo ops Q S lt n (l.setIfInBounds i true) a' w') Q)(ho:ops[i]?=some o:=by exact rfl)(hw:Region.wanted o (yielded ops a.tmps)=true:=by kernel_rfl):Nx ops Q S lt n l i a w:=
 wpOp_step ho fun K hK=>by rw[aZ hw];exact Oper.wp_mono hK h
def fQ(i:Nat)(h:o.wp prog a w (fun a' w'=>(i ∉ lt->S w->S w')/\jo ops Q S lt n (l.setIfInBounds i true) a' w') Q)(hr:Region.ready .any ops l=[i]:=by kernel_rfl)(ho:ops[i]?=some o:=by exact rfl)(hw:Region.wanted o (yielded ops a.tmps)=true:=by kernel_rfl):jo ops Q S lt (n+1) l a w:=
 ⟨fun h0=>(by rw[hr] at h0;cases h0),fun j hj=>by rw[hr,List.mem_singleton] at hj;subst hj;exact nx h ho hw⟩
def qdB(i j k:Nat)(h:Nx ops Q S lt n l i a w)(h':Nx ops Q S lt n l j a w)(h2:Nx ops Q S lt n l k a w)(hr:Region.ready .any ops l=[i,j,k]:=by kernel_rfl):jo ops Q S lt (n+1) l a w:=
 ⟨fun h0=>(by rw[hr] at h0;cases h0),fun q hq=>by rw[hr] at hq;simp at hq;rcases hq with rfl|rfl|rfl;exact h;exact h';exact h2⟩
def qw(i j:Nat)(h:Nx ops Q S lt n l i a w)(h':Nx ops Q S lt n l j a w)(hr:Region.ready .any ops l=[i,j]:=by kernel_rfl):jo ops Q S lt (n+1) l a w:=
 ⟨fun h0=>(by rw[hr] at h0;cases h0),fun q hq=>by rw[hr] at hq;simp at hq;rcases hq with rfl|rfl;exact h;exact h'⟩
end
section
variable {ops:Array Oper} {S:World->Prop} {o:Oper} {a:Act} {t t':TypeId} {c f:Nat} {cs:Array Value} {v:Value} {x:Operand} {K:Act->World->Prop} {Q:Exit->Act->World->Prop} {w w0:World} {lt:List Nat} {F0:Nat->Prop} {L:List Cp}
def yLo(hS:∀w,S w->∃t cs,aP t w c cs/\cs[f]?=some v)(ho:o.op=.load t' x)(hx:a.eval x=V (some ⟨c,f,none⟩))(hw:bj o (dy ops a.tmps)=true)(hu:(ah.underlying t').map gw=some false):gf ah ops S o v a:=
 .inl ⟨hw,fun w h=>by obtain⟨t,cs,R,hc⟩:=hS w h;unfold bG;simp only[ho,hx,Instr.loadAt,Instr.sureAddr,bB,bH,Result.andThen_ok,RB hu w c f v ((R.cell f).trans hc)]⟩
def yRo(hS:∀w,S w->aP t w c cs)(ho:o.op=.load t x)(hx:a.eval x=V (some ⟨c,0,none⟩))(hw:bj o (dy ops a.tmps)=true)(hu:(ah.underlying t).map gw=some true)(hi:(ah.info? t).map (·.size)=some cs.size):gf ah ops S o (.agg cs) a:=by
 obtain⟨d,h1,h2⟩:=eY.1 hu
 exact rA t x ho hw c hx cs hS d h1 h2 hi
def yMi(l:List ag)(hS:∀w,S w->aP t w c cs)(ho:o.op=.load t' x)(hx:a.eval x=V (some ⟨c,f,none⟩))(hl:(cs.toList.drop f).take l.length=l)(hw:bj o (dy ops a.tmps)=true)(hu:(ah.underlying t').map gw=some true)(hi:(ah.info? t').map (·.size)=some l.length):gf ah ops S o (.agg l.toArray) a:=by
 obtain⟨d,h1,h2⟩:=eY.1 hu
 refine yieldsIf_load_mid hw t' x ho c f hx l d (fun w h=>(hS w h).range fun j u hj=>?_) h1 h2 hi
 rw[←hl,jk] at hj
 split at hj
 .rw[ji] at hj;simpa using hj
 .cases hj
def kc(hC:Calls prog fn args w R)(h:∀e w',R e w'->∃v,e=.returned v/\K (a.put o.dst v) w')(hrun:(execOp a.eval o).run prog w=.ok (.enter fn args) w:=by kernel_rfl):o.wp prog a w K Q:=by
 unfold Oper.wp
 rw[hrun,Oper.upon_enter]
 refine hC.mono fun e w' hh=>?_
 obtain⟨v,rfl,hk⟩:=h e w' hh
 exact hk
def Hm(B:Dz F0 w0 w L)(hr:∀c w',Dz F0 w0 w' (cR e c v.cells::L)->K (a.put o.dst (.slice (some ⟨c,0,none⟩) 1 1)) w')(ho:o.op=.buildSlice st 1 #[(0,x)]:=by exact rfl)(hx:a.eval x=v:=by exact rfl)(hb:∀w:World,(Instr.buildSlice st 1 #[(0,v)]).run prog w=.ok (.slice (some ⟨w.heap.size,0,none⟩) 1 1) (w.alloc (.cells v.cells e)):=by first|exact q2k _|exact qzz _|exact q0a _):o.wp prog a w K Q:=by
 have hb':=(Below.refl w.heap.size w).alloc (Nat.le_refl _) (.cells v.cells e);have h':=hr w.heap.size _ (B.add _ hb' (FC (aP.new e w v.cells)) (fun q hq=>Nat.le_of_eq hq.symm))
 unfold Oper.wp execOp
 simp only[ho,List.map_toArray,List.map_cons,List.map_nil,hx,Sem.run_bind,hb,Result.andThen_ok,Sem.run_pure]
 exact h'
def Mu{z:Value}{ii:Nat}{s:Operand}(B:Dz F0 w0 w L)(i j:Nat)(hr:∀(S:Sl) w',Dz F0 w0 w' (L.set i (cL e m S.v (n+1) (xs++cs.toList)))->K (a.put o.dst S.v) w')(hi:L[i]?=some (cL e m v n xs):=by exact rfl)(hj:L[j]?=some (cR e c cs):=by exact rfl)(ho:o.op=.call { callee:=.builtin .append,args:=#[s,x],argTypes:=#[st,st] }:=by exact rfl)(hs:a.eval s=v:=by exact rfl)(hx:a.eval x=.slice (some ⟨c,0,none⟩) 1 1:=by exact rfl)(hst:prog.underlying st=some (.slice e):=by kernel_rfl)(hf:(prog.info? e).map (fun i=>(i.zero,i.size,i.bytes))=some (some z,m,ii):=by first|exact qzr|exact q3k|exact qyu)(hz:z.cells.size=m:=by exact rfl)(hm:0<m:=by decide)(hy:0<ii:=by decide)(hc:cs.size=m:=by exact rfl)(h1:cs.all (·.oneCell')=true:=by kernel_rfl)(hn:(n+1)*ii<=140737488355328:=by have:=HL.out;omega):o.wp prog a w K Q:=by
 have O:w.ownsRow 0 e m v n xs:=B.at i hi;have R:aP e w c cs:=B.at j hj;obtain⟨i0,q0,q1⟩:=Option.map_eq_some_iff.1 hf
 simp only[Prod.mk.injEq] at q1
 (obtain⟨v',w',hrun,h2,h3,h4,h5⟩:=run_append_own_at (P:=prog) w 0 st o.type e i0 z m ii hst q0 q1.1 q1.2.1 q1.2.2 hz hm v n xs O ⟨c,0,none⟩ 1 1 cs.toList (by simpa using hc) (fun j u hu=>by rw[Addr.add_lit,Nat.zero_add];exact(R.cell j).trans (by simpa using hu)) (fun u hu=>(Array.all_eq_true_iff_forall_mem.1 h1) u (by simpa using hu)) (by have:n+1<=(n+1)*ii:=Nat.le_mul_of_pos_right _ hy;unfold maxLen;omega) hn (Nat.zero_le _))
 obtain⟨q,cp,hv⟩:∃q cp,v'=.slice q (n+1) cp:=wO h2
 unfold Oper.wp execOp
 simp only[ho,resolve,invoke,builtin,Sem.run_bind,Sem.run_pure,Result.andThen_ok,List.map_toArray,List.map_cons,List.map_nil,hs,hx,hrun]
 subst hv
 exact hr ⟨q,n+1,cp⟩ w' (B.put i hi _ (Gr.ep h3 fun c hc=>hc) (Bq h2) (fun c hc=>h5.elim (fun e=>.inl (e.symm.trans hc)) (fun e=>.inr (Nat.le_of_eq (Option.some.inj (e.symm.trans hc))))))
def OW{cs':Array Value}{y:Operand}(B:Dz F0 w0 w L)(i:Nat)(hr:∀w',Dz F0 w0 w' (L.set i (cR t c cs'))->K (a.put o.dst undef) w')(ho:o.op=.store t' x y:=by exact rfl)(hx:a.eval x=V (some ⟨c,f,none⟩):=by exact rfl)(hi:L[i]?=some (cR t c cs):=by exact rfl)(hy:a.eval y=v:=by exact rfl)(hd:jb cs f v.cells.toList=cs':=by kernel_rfl)(hs:(prog.info? t').map (·.size)=some v.cells.size:=by kernel_rfl)(h1:v.cells.all (·.oneCell')=true:=by kernel_rfl)(hf:Nat.ble (f+v.cells.size) cs.size=true:=by kernel_rfl):o.wp prog a w K Q:=
 ks B i ho hx hy hi cs' hd hs h1 (Nat.le_of_ble_eq_true hf) hr
end
def fE:List Cp->af->Prop
 | [],_=>True
 | x::r,W=>x.P W/\fE r W
theorem fE.at:∀ {R:List Cp} {W:af},fE R W->∀(k:Nat) {x:Cp},R[k]?=some x->x.P W
 | _::_,_,h,0,_,e=>bC e▸h.1
 | _::_,_,h,k+1,_,e=>fE.at h.2 k (by simpa using e)
def Dz.all:∀ {L:List Cp} {F0:Nat->Prop} {w0 W:af},(∀y∈L,y.Ok W/\∀c,y.fp c->F0 c\/w0.heap.size<=c)->∀m,fE (L.take m) W
 | [],_,_,_,_,m=>by rw[List.take_nil];trivial
 | x::r,_,_,_,h,0=>trivial
 | x::r,_,_,_,h,m+1=>⟨(h x zm).1.it,Dz.all (fun y hy=>h y (by simp[hy])) m⟩
def _root_.Go.Calls.same{f:FuncId}{xs:Array ag}{v:ag}(h:az ah f xs w fun e w'=>e=.returned v/\w'=w):az ah f xs w fun e w'=>e=.returned v/\Below w.heap.size w w':=h.mono fun e w' q=>⟨q.1,q.2▸Below.refl _ _⟩
structure KeN(q:Prop):Prop where
 o:q
structure FI(R:List Cp)(x:Cp):Prop where
 at':∃k:Nat,R[k]?=some x
def fA{R:List Cp}{x:Cp}(k:Nat)(h:R[k]?=some x):FI R x:=⟨k,h⟩
def Sc(k:Fl):((fc k).toList.drop 0).take 5=(mc (dZ k)).toList:=rfl
section
variable {ops:Array Oper} {Q:Exit->Act->World->Prop} {R:List Cp} {lt is:List Nat} {i n:Nat} {o oi:Oper} {l:Array Bool} {a:Act} {w w0:World} {F0:Nat->Prop} {L L':List Cp} {v:Value} {x:Operand} {t t':TypeId} {c f:Nat} {cs:Array Value}
def Br(is:List Nat)(ops:Array Oper)(Q:Exit->Act->af->Prop)(R:List Cp)(lt:List Nat)(n:Nat)(l:Array Bool)(a:Act)(w:af):Prop:=jo ops Q (fE R) lt n l a w
def OX(h:Br is ops Q R lt n (l.setIfInBounds i true) (a.put oi.dst v) w)(hi:ops[i]?=some oi:=by exact rfl)(hy:YieldsIf prog ops (fun _=>True) oi v a:=by first|exact Or.inl ⟨rfl,fun w hS=>by go_simp;exact rfl⟩|exact Or.inl ⟨rfl,fun w hS=>by go_simp⟩|exact Or.inr ⟨rfl,rfl⟩)(hs:Region.noSelect ops=true:=by kernel_rfl)(hf:Region.free .any ops l i=true:=by kernel_rfl)(hr:(Region.ready .any ops l).contains i=true:=by kernel_rfl)(hQ:∀c a w,Q (.panic c) (a.put oi.dst v) w->Q (.panic c) a w:=by exact fun _ _ _ h=>h):Br (i::is) ops Q R lt (n+1) l a w:=
 Sb (Y:=fun _=>True) hi hs (.inl fun _=>trivial) hQ n l a w (Region.free_spec hi hf) (.inl fun _=>trivial) (by simpa using hr) hy trivial h
def OY(hy:gf ah ops (fE R) oi v a)(hS:fE R w)(h:Br is ops Q R lt n (l.setIfInBounds i true) (a.put oi.dst v) w)(hi:ops[i]?=some oi)(hs:oZ ops=true)(hf:Region.free .any ops l i=true)(hr:(dV .any ops l).contains i=true)(hl:sg ops lt i=true)(kF:uf ops l=true)(hQ:∀c a w,Q (.panic c) (a.put oi.dst v) w->Q (.panic c) a w):Br (i::is) ops Q R lt (n+1) l a w:=
 Sb hi hs (.inr ⟨rfl,hl⟩) hQ n l a w (Region.free_spec hi hf) (.inr (qdk kF)) (by simpa using hr) hy hS h
def VS(h:Br is ops Q R lt n (l.setIfInBounds i true) (a.put oi.dst v) w)(hi:ops[i]?=some oi:=by exact rfl)(ho:oi.op=.load t' x:=by exact rfl)(hx:a.eval x=V (some ⟨c,f,none⟩):=by exact rfl)(hu:(prog.underlying t').map TypeDesc.isRow=some false:=by decide +kernel)(hk:FI R (cR t c cs):=by first|exact fA 0 rfl|exact fA 1 rfl|exact fA 2 rfl|exact fA 3 rfl|exact fA 4 rfl|exact fA 5 rfl|exact fA 6 rfl|exact fA 7 rfl|exact fA 8 rfl|exact fA 9 rfl|exact fA 10 rfl|exact fA 11 rfl)(hc:cs[f]?=some v:=by exact cLL)(hw:Region.wanted oi (yielded ops a.tmps)=true:=by kernel_rfl)(hS:fE R w:=by exact A)(hs:Region.noSelect ops=true:=by kernel_rfl)(hf:Region.free .any ops l i=true:=by kernel_rfl)(hr:(Region.ready .any ops l).contains i=true:=by kernel_rfl)(hl:sg ops lt i=true:=by kernel_rfl)(kF:uf ops l=true:=by kernel_rfl)(hQ:∀c a w,Q (.panic c) (a.put oi.dst v) w->Q (.panic c) a w:=by exact fun _ _ _ h=>h):Br (i::is) ops Q R lt (n+1) l a w:=
 OY (yLo (fun w h=>by obtain⟨k,q⟩:=hk;exact⟨_,_,h.at k q,hc⟩) ho hx hw hu) hS h hi hs hf hr hl kF hQ
def dTr(h:Br is ops Q R lt n (l.setIfInBounds i true) (a.put oi.dst (.agg cs)) w)(hi:ops[i]?=some oi:=by exact rfl)(ho:oi.op=.load t x:=by exact rfl)(hx:a.eval x=V (some ⟨c,0,none⟩):=by exact rfl)(hk:FI R (cR t c cs):=by first|exact fA 0 rfl|exact fA 1 rfl|exact fA 2 rfl|exact fA 3 rfl|exact fA 4 rfl|exact fA 5 rfl|exact fA 6 rfl|exact fA 7 rfl|exact fA 8 rfl|exact fA 9 rfl|exact fA 10 rfl|exact fA 11 rfl)(hu:(prog.underlying t).map TypeDesc.isRow=some true:=by decide +kernel)(hz:(prog.info? t).map (·.size)=some cs.size:=by kernel_rfl)(hw:Region.wanted oi (yielded ops a.tmps)=true:=by kernel_rfl)(hS:fE R w:=by exact A)(hs:Region.noSelect ops=true:=by kernel_rfl)(hf:Region.free .any ops l i=true:=by kernel_rfl)(hr:(Region.ready .any ops l).contains i=true:=by kernel_rfl)(hl:sg ops lt i=true:=by kernel_rfl)(kF:uf ops l=true:=by kernel_rfl)(hQ:∀c a w,Q (.panic c) (a.put oi.dst (.agg cs)) w->Q (.panic c) a w:=by exact fun _ _ _ h=>h):Br (i::is) ops Q R lt (n+1) l a w:=
 OY (yRo (fun w h=>by obtain⟨k,q⟩:=hk;exact h.at k q) ho hx hw hu hz) hS h hi hs hf hr hl kF hQ
def dTm{ps:Array Value}(h:Br is ops Q R lt n (l.setIfInBounds i true) (a.put oi.dst (.agg ps)) w)(hi:ops[i]?=some oi:=by exact rfl)(ho:oi.op=.load t' x:=by exact rfl)(hx:a.eval x=V (some ⟨c,f,none⟩):=by exact rfl)(hk:FI R (cR t c cs):=by first|exact fA 0 rfl|exact fA 1 rfl|exact fA 2 rfl|exact fA 3 rfl|exact fA 4 rfl|exact fA 5 rfl|exact fA 6 rfl|exact fA 7 rfl|exact fA 8 rfl|exact fA 9 rfl|exact fA 10 rfl|exact fA 11 rfl)(hp:(cs.toList.drop f).take m=ps.toList:=by first|exact Sc _|exact dcT _ _ _ _|exact dcP _ _ _ _)(hu:(prog.underlying t').map TypeDesc.isRow=some true:=by decide +kernel)(hz:(prog.info? t').map (·.size)=some m:=by kernel_rfl)(hm:Nat.beq ps.toList.length m=true:=by kernel_rfl)(hw:Region.wanted oi (yielded ops a.tmps)=true:=by kernel_rfl)(hS:fE R w:=by exact A)(hs:Region.noSelect ops=true:=by kernel_rfl)(hf:Region.free .any ops l i=true:=by kernel_rfl)(hr:(Region.ready .any ops l).contains i=true:=by kernel_rfl)(hl:sg ops lt i=true:=by kernel_rfl)(kF:uf ops l=true:=by kernel_rfl)(hQ:∀c a w,Q (.panic c) (a.put oi.dst (.agg ps)) w->Q (.panic c) a w:=by exact fun _ _ _ h=>h):Br (i::is) ops Q R lt (n+1) l a w:=
 have e:ps.toList.length=m:=Nat.eq_of_beq_eq_true hm
 OY (yMi ps.toList (fun w h=>by obtain⟨k,q⟩:=hk;exact h.at k q) ho hx (by rw[e];exact hp) hw hu (by rw[e];exact hz)) hS h hi hs hf hr hl kF hQ
def er(is:List Nat)(k:p)(h:KeN p->Br is ops Q R lt n l a w:=by intro k9;(try simp only[ZZ]);(repeat ((first|refine VS ?_|refine dTr ?_|refine dTm ?_|refine OX ?_);(try simp only[ZZ])));exact k9.o):jo ops Q (fE R) lt n l a w:=h ⟨k⟩
def nZ{id:Nat}(B:Dz F0 w0 w L)(m:Nat)(lt:List Nat)(h:∀W,Dz F0 w0 W L->fE (L.take m) W->jo ops (NoPanic Q) (fE (L.take m)) lt ops.size (Array.replicate ops.size false) a W)(hm:prog.follows .mixedOrders=true:=by kernel_rfl):(Code.region id ops true).wp prog Q a w:=
 wp_region_noPanic (wp_region_any hm (Mt _ _ _ _ (h _ B.drew (Dz.all B.drew.ok m))))
def nJ(h:fE R w'->jo ops Q (fE R) lt n l a w')(A':fE R w':=by exact aTT):(i ∉ lt->fE R w->fE R w')/\jo ops Q (fE R) lt n l a w':=⟨fun _ _=>A',h A'⟩
def zv(h:jo ops Q (fE R) lt n l a w')(hi:lt.contains i=true:=by exact rfl):(i ∉ lt->fE R w->fE R w')/\jo ops Q (fE R) lt n l a w':=⟨fun q=>absurd (by simpa using hi) q,h⟩
def OZ(i:Nat)(B:Dz F0 w0 w L)(hC:Calls prog fn args w fun e w'=>e=.returned v/\Below w.heap.size w w')(h:∀W,Dz F0 w0 W L->fE R W->jo ops Q (fE R) lt n (l.setIfInBounds i true) (a.put o.dst v) W)(hr:Region.ready .any ops l=[i]:=by kernel_rfl)(ho:ops[i]?=some o:=by exact rfl)(hrun:(execOp a.eval o).run prog w=.ok (.enter fn args) w:=by kernel_rfl)(hw:Region.wanted o (yielded ops a.tmps)=true:=by kernel_rfl)(hR:∀W,Dz F0 w0 W L->fE R W:=by intro W B;exact aTT):jo ops Q (fE R) lt (n+1) l a w:=
 fQ i (kc hC (fun e w' q=>⟨v,q.1,nJ (h _ (B.below q.2)) (hR _ (B.below q.2))⟩) hrun) hr ho hw
end
theorem qdC(b:Nat)(s:Nt)(k:Fl)(T F Iq:Sl):bD b (s.begin k) T F Iq=[cR 46 b (i5 { s with began:=s.began+1 } T F Iq),cL 75 10 F.v (s.fs.length+1) (iy s.fs++(fc (kP s k)).toList),cL 3 1 Iq.v (s.fs.length+1) (gQ s.fs++[I Z ((s.began+1:Nat):Int)]),cM T.v s.ms]:=by
 simp[bD,Nt.begin,iy,gQ];kernel_rfl
def Mv{T F Iq:Sl}(B:Dz (lc (bD b s T F Iq)) w w (bD b s T F Iq))(k:Fl)(hn:0<=s.now/\s.now<=549755813888)(hl:0<=cV k.pr k.st/\cV k.pr k.st<=60)(hb:s.began<1000)(hlen:s.fs.length<1000):gR 56 #[V (some ⟨b,0,none⟩),.agg (fc k)] w b s T F Iq (.tuple #[]) (s.begin k):=by
 unfold gR
 generalize lc (bD b s T F Iq)=G at B ⊢
 unfold bD at B
 have my:IntKind.i64.wrap (s.now+cV k.pr k.st)=s.now+cV k.pr k.st:=wrap_i64 _ om om;(have hw2:wrap64 ((s.began:Int)+1)=((s.began+1:Nat):Int):=by unfold wrap64;omega);have HL:Hid (s.fs.length<1000):=hlen;clear hn hl hb hlen
 go_enter func56,ntmps56
 go_upto_region 1 with((refine se ?_;refine sf (v:=.agg (fc k)) B ?_;clear B;intro c W B))
 refine nZ B 99 [12] ?_;clear B;intro W B A;refine er [0,1,2,3,4,5,6,7,8] ?_;refine OZ 9 B (Sd k.pr k.st _).same ?_;clear B A;intro W B A;refine er [10,11] ?_;refine fQ 12 ?_;refine OW (cs':=fc (kP s k)) B 0 ?_;clear B A;intro W B;refine zv (fM ?_)
 go_upto_region 3 with(first|(refine eG ?_;refine eP ?_)|(refine fe ?_;refine ld B 1 _ ?_ (hy:=by exact congrArg (Value.int .i64) hw2) (hd:=qcX _ _ _ _ _);clear B;intro W B))
 refine nZ B 2 [21,24] ?_;clear B;intro W B A;refine er [0,1,2,3,4,5,6,9,10,11,12,13,14,15,16] ?_
 refine qw 7 17 (nx ?o1) (nx ?o2)
 case' o1=>
  refine Hm (v:=.agg (fc (kP s k))) B ?_;clear B A;intro c1 W B;refine xh ?_;intro A
  refine qw 8 17 (nx ?o3) (nx ?o4)
 case' o3=>
  refine Mu B 3 0 ?_;clear B A;intro F1 W B;refine xh ?_;intro A;refine fQ 17 ?_;refine Hm (v:=I Z ((s.began+1:Nat):Int)) B ?_;clear B A;intro c2 W B;refine xh ?_;intro A
 case' o4=>
  refine Hm (v:=I Z ((s.began+1:Nat):Int)) B ?_;clear B A;intro c2 W B;refine xh ?_;intro A;refine fQ 8 ?_;refine Mu B 4 1 ?_;clear B A;intro F1 W B;refine xh ?_;intro A
 case' o2=>
  refine Hm (v:=I Z ((s.began+1:Nat):Int)) B ?_;clear B A;intro c2 W B;refine xh ?_;intro A;refine fQ 7 ?_;refine Hm (v:=.agg (fc (kP s k))) B ?_;clear B A;intro c1 W B;refine xh ?_;intro A;refine fQ 8 ?_;refine Mu B 4 0 ?_;clear B A;intro F1 W B;refine xh ?_;intro A
 all_goals
  refine fQ 18 ?_
  first|refine Mu B 5 0 ?_|refine Mu B 5 1 ?_
  clear B A;intro I1 W B;refine xh ?_;intro A;refine er [19,20] ?_;refine fQ 21 ?_
  refine OW (v:=F1.v) B 3 ?_ (hd:=by exact RV _ _ _ _ _)
  clear B A;intro W B;refine zv ?_;refine er [22,23] ?_;refine fQ 24 ?_
  refine OW (v:=I1.v) B 3 ?_ (hd:=by exact RX _ _ _ _ _)
  clear B;intro W B;refine zv (fM ?_);have D:=B.drop 3
  go_end0
  exact⟨rfl,T,F1,I1,by rw[qdC];exact D⟩
def yB(b2 b3 b5 b:Nat)(k:Ac)(y:Cp)(s:Nt)(T F Iq:Sl):List Cp:=cR 63 b5 #[.func (.func 47) #[] #[]]::y::cR 32 b3 (ac k)::cR 25 b2 #[V (some ⟨b,0,none⟩)]::bD b s T F Iq
def Sg{b2 b3 b5:Nat}{k:Ac}{y:Cp}{T F Iq:Sl}(e:Int)(B:Dz (lc (yB b2 b3 b5 b k y s T F Iq)) w w (yB b2 b3 b5 b k y s T F Iq))(hk:k.fr.size<=140737488351232)(hl:s.left<=4):
  az ah 48 #[I Z e,V (some ⟨b2,0,none⟩),V (some ⟨b5,0,none⟩),V (some ⟨b3,0,none⟩)] w fun r w'=>r=.returned (.agg (s.refuse k.fr.data.toList e).1.cells)/\Dz (lc (yB b2 b3 b5 b k y s T F Iq)) w w' (yB b2 b3 b5 b k y (s.refuse k.fr.data.toList e).2 T F Iq):=by
 generalize lc (yB b2 b3 b5 b k y s T F Iq)=G at B ⊢
 unfold yB bD at B
 unfold Nt.refuse
 (have CN:=fun w=>yz e w);(have CR:=fun w=>qcH k.fr (s.left:Int) w hk)
 by_cases h0:s.left=0
 .rw[aZ h0];(have hz:(s.left:Int)<1:=by omega);clear CR hk hl
  go_enter func48,ntmps48
  go_wp2_with (first|(refine iz ?_;refine iN ?_;clear B;intro c W B)|(refine eG ?_;refine eP ?_)|(go_at_call 47;go_fit (CN _);refine kg ?_;clear B;intro W B)|(refine fe ?_;refine ld B 0 (eZ e).cells ?_;clear B;intro W B))
  exact jT ⟨rfl,B.drop 1⟩
 .rw[aT h0];(have hz:¬(s.left:Int)<1:=by omega);(have hw:wrap64 ((s.left:Int)-1)=((s.left-1:Nat):Int):=by unfold wrap64;omega);clear CN hk hl h0
  generalize mg k.fr.data.toList (s.left:Int)=e1 at CR
  go_enter func48,ntmps48
  go_upto_region 3 with(first|(refine iz ?_;refine iN ?_;clear B;intro c W B)|(refine eG ?_;refine eP ?_))
  refine nZ B 99 [] ?_;clear B;intro W B A;refine er [0,1,2,3,4,5] ?_;refine OZ 6 B (CR _) ?_;clear B A;intro W B A;refine er [7,8,9,10,11] ?_;refine fM ?_
  go_wp2_with (first|(refine eG ?_;refine eP ?_)|(refine fe ?_;first|(refine ld B 5 _ ?_ (hy:=by exact congrArg (Value.int .i64) hw) (hd:=RU _ _ _ _ _);clear B;intro W B)|(refine ld B 0 (Rp.cells ⟨e,oP k.fr.data.toList (s.left:Int),true,ByteArray.empty⟩) ?_;clear B;intro W B)))
  exact jT ⟨rfl,B.drop 1⟩
theorem Mw:∀(l:List ag) (f:Nat) (cs:Array ag),f+l.length<=cs.size->(jb cs f l).toList=cs.toList.take f++l++cs.toList.drop (f+l.length)
 | [],f,cs,h=>by simp[jb]
 | v::r,f,cs,h=>by
  rw[bU] at h
  unfold jb
  rw[Mw r (f+1) _ (by simp;omega)]
  apply List.ext_getElem?
  intro j
  simp only[Array.toList_setIfInBounds,List.getElem?_append,aY,eD,List.length_set,Array.length_toList,bU,jk,ji,ox,List.getElem?_cons]
  grind
section
variable {F0:Nat->Prop} {w0 W:World} {L:List Cp} {e:TypeId} {m n g cap i:Nat} {xs:List Value}
theorem Mx(L:List Cp)(x y:Cp):(L.set i x).set i y=L.set i y:=by simp
def Dz.rc(B:Dz F0 w0 W L)(hi:L[i]?=some (cL e m (.slice (some ⟨g,0,none⟩) n cap) n xs)):∃cur,Dz F0 w0 W (L.set i (cR e g cur))/\cur.toList.take (n*m)=xs/\cur.size=cap*m/\n<=cap/\cap<=maxLen/\n*m<=cur.size:=by
 have O:W.ownsRow 0 e m _ n xs:=B.at i hi;obtain⟨h0,hh⟩:=O
 rcases hh with⟨h,_⟩|⟨g',cap',cur,hv,_,hc,h1,h2,h3,h4⟩
 .cases h
 obtain⟨rfl,rfl⟩:g=g'/\cap=cap':=by injection hv with p q r;injection p with p;injection p with p;exact⟨p,r⟩
 exact⟨cur,B.put i hi (cR e g cur) (Gr.refl _ _) (FC hc) (fun c hc=>.inl (by rw[show c=g from hc];rfl)),h4,h3,h1,h2,by rw[h3];exact Nat.mul_le_mul_right _ h1⟩
def Dz.toList{cur:Array ag}(B:Dz F0 w0 W (L.set i (cR e g cur)))(hi:i<L.length)(h4:cur.toList.take (n*m)=xs)(h3:cur.size=cap*m)(h1:n<=cap)(h2:cap<=maxLen):Dz F0 w0 W (L.set i (cL e m (.slice (some ⟨g,0,none⟩) n cap) n xs)):=by
 (have h5:n*m<=cur.size:=by rw[h3];exact Nat.mul_le_mul_right _ h1);(have e1:(L.set i (cR e g cur))[i]?=some (cR e g cur):=by simp[hi]);have hR:aP e W g cur:=B.at i e1
 have:=B.put i e1 (cL e m (.slice (some ⟨g,0,none⟩) n cap) n xs) (Gr.refl _ _) (Bq ⟨by rw[←h4];simp;omega,.inr ⟨g,cap,cur,rfl,Nat.zero_le _,hR,h1,h2,h3,h4⟩⟩) (fun c hc=>.inl (bC hc).symm)
 rwa [Mx] at this
theorem My{f:Nat}{cur l:List ag}(h:cur.take k=xs)(hl:(xs.drop f).take l.length=l):(cur.drop f).take l.length=l:=by
 have h1:=congrArg List.length hl
 simp at h1
 subst h
 rw[List.drop_take,List.take_take] at hl
 simp at h1
 rw[mD om] at hl
 exact hl
variable {ops:Array Oper} {rest:List Oper} {o:Oper} {a:Act} {w:World} {Q:Exit->Act->World->Prop} {K:Act->World->Prop} {f:Nat} {x y:Operand} {S:World->Prop}
def dEl(i:Nat)(l:List Value)(hl:(xs.drop f).take l.length=l)(B:Dz F0 w0 w L)(hr:wpList prog ops Q rest (a.put o.dst (.agg l.toArray)) w)(ho:o.op=.load e x:=by exact rfl)(hx:a.eval x=V (some ⟨g,f,none⟩):=by exact rfl)(hi:L[i]?=some (cL e m (.slice (some ⟨g,0,none⟩) n cap) n xs):=by exact rfl)(hu:(prog.underlying e).map TypeDesc.isRow=some true:=by kernel_rfl)(hs:(prog.info? e).map (·.size)=some l.length:=by kernel_rfl)(hw:Region.wanted o (yielded ops a.tmps)=true:=by kernel_rfl):wpList prog ops Q (o::rest) a w:=by
 obtain⟨cur,B',h4,_⟩:=B.rc hi
 have hlt:=(List.getElem?_eq_some_iff.1 hi).1
 exact wpList_step fun K hK=>by rw[aZ hw];exact km (f:=f) (B'.row (t:=e) (cs:=cur) i (by simp[hlt])) l ho hx (My h4 hl) hu hs (hK _ _ hr)
theorem kse{zs:List Value}(B:Dz F0 w0 w L)(i:Nat)(hr:∀w',Dz F0 w0 w' (L.set i (cL e m (.slice (some ⟨g,0,none⟩) n cap) n zs))->K (a.put o.dst undef) w')(hz:xs.take f++ys.toList++xs.drop (f+ys.size)=zs)(hf:f+ys.size<=n*m)(ho:o.op=.store e x y:=by exact rfl)(hx:a.eval x=V (some ⟨g,f,none⟩):=by exact rfl)(hi:L[i]?=some (cL e m (.slice (some ⟨g,0,none⟩) n cap) n xs):=by exact rfl)(hy:a.eval y=.agg ys:=by exact rfl)(hs:(prog.info? e).map (·.size)=some ys.size:=by kernel_rfl)(h1:ys.all (·.oneCell')=true:=by kernel_rfl):o.wp prog a w K Q:=by
 obtain⟨cur,B',h4,h5,h6,h7,h8⟩:=B.rc hi;have hlt:=(List.getElem?_eq_some_iff.1 hi).1
 refine ks (t:=e) (cs:=cur) B' i ho hx hy (by simp[hlt]) (jb cur f ys.toList) rfl hs h1 (by show f+ys.size<=_;omega) fun w' h=>hr w' ?_
 rw[Mx] at h
 refine h.toList hlt ?_ (by rw[VT,h5]) h6 h7
 rw[Mw _ _ _ (by simp;omega),←hz,←h4]
 apply List.ext_getElem?
 intro j
 simp only[List.getElem?_append,List.length_append,List.length_take,Array.length_toList,List.getElem?_take,List.getElem?_drop]
 grind
end
def ixD(hst:ah.underlying st=some (.slice e))(hs:∀w:af,(sizeOf e).run ah w=.ok m w)(g n cap j:Nat)(hj:j<n)(w:af):(Instr.indexAt st (.slice (some ⟨g,0,none⟩) n cap) (I Z (j:Int))).run ah w=.ok (V (some ⟨g,j*m,none⟩)) w:=by
 (have hn:((j:Int)).toNat<n:=by simpa using hj);(have iu:(j:Int)<(n:Int):=by omega)
 simp[go_sem,hj,hn,iu,hst,hs]
def Hn(g n cap j:Nat)(hj:j<n)(w:af):(Instr.indexAt 43 (.slice (some ⟨g,0,none⟩) n cap) (I Z (j:Int))).run ah w=.ok (V (some ⟨g,j*10,none⟩)) w:=ixD underlying43 (fun _=>by kernel_rfl) g n cap j hj w
def qdD(q:α->List ag)(m:Nat)(hq:∀x,(q x).length=m)(l:List α):(l.flatMap q).length=l.length*m:=by
 induction l with
 | nil=>simp
 | cons x r ih=>rw[cB,aY,ih,hq,bU,lj];omega
def ug(q:α->List ag)(m:Nat)(hq:∀x,(q x).length=m):∀(l:List α) (j:Nat) (x:α),l[j]?=some x->((l.flatMap q).drop (j*m)).take m=q x
 | [],_,_,h=>by cases h
 | y::r,0,x,h=>by
  obtain rfl:y=x:=by simpa using h
  rw[cB,Nat.zero_mul,List.drop_zero,←hq y,List.take_left]
 | y::r,j+1,x,h=>by
  rw[cB,show(j+1)*m=(q y).length+j*m by rw[hq,lj];omega,List.drop_length_add_append]
  exact ug q m hq r j x (by simpa using h)
theorem Mz(q:α->List ag)(m:Nat)(hq:∀x,(q x).length=m):∀(l:List α) (j:Nat),(l.flatMap q).take (j*m)=(l.take j).flatMap q
 | [],_=>by simp
 | y::r,0=>by simp
 | y::r,j+1=>by rw[List.take_succ_cons,cB,cB,show(j+1)*m=(q y).length+j*m by rw[hq,lj];omega,List.take_length_add_append,Mz q m hq r j]
theorem MA(q:α->List ag)(m:Nat)(hq:∀x,(q x).length=m):∀(l:List α) (j:Nat),(l.flatMap q).drop (j*m)=(l.drop j).flatMap q
 | [],_=>by simp
 | y::r,0=>by simp
 | y::r,j+1=>by rw[List.drop_succ_cons,cB,show(j+1)*m=(q y).length+j*m by rw[hq,lj];omega,List.drop_length_add_append,MA q m hq r j]
def Sh(q:α->List ag)(m:Nat)(hq:∀x,(q x).length=m)(l:List α)(j:Nat)(x:α)(h:j<l.length):(l.flatMap q).take (j*m)++q x++(l.flatMap q).drop (j*m+m)=(l.set j x).flatMap q:=by
 rw[←lj,Mz q m hq,MA q m hq,List.set_eq_take_append_cons_drop,aZ h,List.flatMap_append,cB,List.append_assoc]
theorem pN(x:Nat×Fl):(fc x.2).toList.length=10:=rfl
section
variable (P:Fl->Bool) (g:Fl->Fl) (fs:List (Nat×Fl))
def qi(j:Nat):List (Nat×Fl):=(fs.take j).map (fun x=>if P x.2 then(x.1,g x.2) else x)++fs.drop j
theorem Si:qi P g fs 0=fs:=by simp[qi]
variable {P g fs} {j:Nat} {x:Nat×Fl}
theorem Sj:(qi P g fs j).length=fs.length:=by simp[qi];omega
def Sk(hj:fs[j]?=some x):(qi P g fs j)[j]?=some x:=by
 have:=(aJ.1 hj).1
 unfold qi
 rw[List.getElem?_append_right (by simp;omega)]
 simp
 rw[mD om,Nat.sub_self,Nat.add_zero,hj]
def Sm(hj:fs[j]?=some x)(hP:P x.2=true):qi P g fs (j+1)=(qi P g fs j).set j (x.1,g x.2):=by
 obtain⟨h1,h2⟩:=aJ.1 hj
 unfold qi
 rw[bz h1,List.map_append,h2,List.set_append_right _ _ (by simp;omega)]
 simp[hP,mD (Nat.le_of_lt h1)]
 rw[dJ h1,List.set_cons_zero]
def FJ(hj:fs[j]?=some x)(hP:P x.2=false):qi P g fs (j+1)=qi P g fs j:=by
 obtain⟨h1,h2⟩:=aJ.1 hj
 unfold qi
 rw[bz h1,List.map_append,h2,dJ h1]
 simp[hP,h2]
def FK(Q:Fl->Bool)(hj:fs[j]?=some x):(fs.take (j+1)).any (fun y=>Q y.2)=((fs.take j).any (fun y=>Q y.2)||Q x.2):=by
 obtain⟨h1,h2⟩:=aJ.1 hj;rw[bz h1,List.any_append,h2]
 simp
theorem MB{R:α->α->Prop}{l:List α}(h:l.Pairwise R){x y:α}(hx:x∈l)(hy:y∈l)(h1:¬R x y)(h2:¬R y x):x=y:=by
 obtain⟨i,hi,rfl⟩:=List.mem_iff_getElem.1 hx
 obtain⟨j,hj,rfl⟩:=List.mem_iff_getElem.1 hy
 rw[List.pairwise_iff_getElem] at h
 rcases Nat.lt_trichotomy i j with q|q|q
 .exact absurd (h i j hi hj q) h1
 .subst q;rfl
 .exact absurd (h j i hj hi q) h2
theorem Sn(hu:fs.Pairwise (fun x y=>x.1<y.1))(h1:fs.Pairwise (fun x y=>¬(P x.2=true/\P y.2=true))):qi P g fs fs.length=match fs.find? (fun x=>P x.2) with|some x=>fG fs x.1 (g x.2)|none=>fs:=by
 unfold qi
 rw[List.take_length,List.drop_length,List.append_nil]
 cases hf:fs.find? (fun x=>P x.2) with
 | none=>
  rw[List.find?_eq_none] at hf
  conv=>rhs;rw[←List.map_id fs]
  exact mU fun y hy=>aT (hf y hy)
 | some x=>
  have hx:=List.mem_of_find?_eq_some hf;(have hp:P x.2=true:=by have:=List.find?_some hf;exact this)
  refine mU fun y hy=>?_
  by_cases e:y=x
  .rw[e,aZ hp,aZ rfl]
  ·(rw[aT (fun q=>e (MB h1 hy hx (fun z=>z ⟨q,hp⟩) (fun z=>z ⟨hp,q⟩))),aT (fun q=>e (MB hu hy hx om om))])
theorem Sp(h:fs.find? (fun x=>P x.2)=none):qi P g fs fs.length=fs:=by
 unfold qi
 rw[List.take_length,List.drop_length,List.append_nil]
 rw[List.find?_eq_none] at h
 conv=>rhs;rw[←List.map_id fs]
 exact List.map_congr_left fun y hy=>aT (h y hy)
theorem yC(Q:Fl->Bool):fs.any (fun y=>Q y.2)=(fs.find? (fun y=>Q y.2)).isSome:=by
 induction fs with
 | nil=>rfl
 | cons x r ih=>rw[List.any_cons,List.find?_cons];cases h:Q x.2<;>simp[ih]
end
def Sq{l:List UInt8}(hb:cj l=0):(0<=(ba l).flags/\(ba l).flags<=63)/\(0<=(ba l).aj/\(ba l).aj<=65535)/\(0<=(ba l).ai/\(ba l).ai<=65535)/\((ba l).ae=1->(ba l).flags=8\/(ba l).flags=0)/\((ba l).ae=1\/(ba l).ae=6\/(ba l).ae=17):=by
 have hg:=uJ _ (Sr hb);have hrg:=(yg _).1 hg.2.1;have hf:=(Ot _).1 hg.2.2.2
 exact⟨hrg.2.2.2.2.2.2.2.2.2.2.2.2.2.2.2.2.2.2,⟨hrg.2.2.2.2.2.2.2.2.1,hrg.2.2.2.2.2.2.2.2.2.1⟩,⟨hrg.2.2.2.2.2.2.2.2.2.2.1,hrg.2.2.2.2.2.2.2.2.2.2.2.1⟩,fun h=>(hf.1 h).1.elim (fun q=>.inl q.1) (fun q=>.inr q.1),(Hd _).1 hg.1⟩
def qdE(h:cs.size=ys.size):jb cs 0 ys.toList=ys:=by
 apply Array.toList_inj.1
 rw[Mw _ _ _ (by simp;omega)]
 simp
 omega
section
variable {ops:Array Oper} {rest:List Oper} {Q:Exit->Act->World->Prop} {K:Act->World->Prop} {R:List Cp} {lt:List Nat} {i n:Nat} {o:Oper} {l:Array Bool} {a:Act} {w w0:World} {F0:Nat->Prop} {L:List Cp} {v:Value} {x y s:Operand} {t t' e:TypeId} {c f m g cap:Nat} {cs ys cs':Array Value} {xs:List Value}
def ksw(B:Dz F0 w0 w L)(i:Nat)(hr:∀w',Dz F0 w0 w' (L.set i (cR t c ys))->K (a.put o.dst undef) w')(ho:o.op=.store t x y:=by exact rfl)(hx:a.eval x=V (some ⟨c,0,none⟩):=by exact rfl)(hi:L[i]?=some (cR t c cs):=by exact rfl)(hy:a.eval y=.agg ys:=by first|exact MC _|exact rfl)(hs:(prog.info? t).map (·.size)=some ys.size:=by kernel_rfl)(h1:ys.all (·.oneCell')=true:=by kernel_rfl)(hf:Nat.beq cs.size ys.size=true:=by kernel_rfl):o.wp prog a w K Q:=
 ks B i ho hx hy hi ys (qdE (Nat.eq_of_beq_eq_true hf)) hs h1 (by show 0+ys.size<=_;rw[Nat.eq_of_beq_eq_true hf,Nat.zero_add];exact Nat.le_refl _) hr
def dD(B:Dz F0 w0 w L)(i:Nat)(hr:∀w',Dz F0 w0 w' (L.set i (cR t c ys))->wpList prog ops Q rest (a.put o.dst undef) w')(ho:o.op=.store t x y:=by exact rfl)(hx:a.eval x=V (some ⟨c,0,none⟩):=by exact rfl)(hi:L[i]?=some (cR t c cs):=by exact rfl)(hy:a.eval y=.agg ys:=by first|exact MC _|exact rfl)(hs:(prog.info? t).map (·.size)=some ys.size:=by kernel_rfl)(h1:ys.all (·.oneCell')=true:=by kernel_rfl)(hf:Nat.beq cs.size ys.size=true:=by kernel_rfl)(hgd:o.guard=none:=by exact rfl):wpList prog ops Q (o::rest) a w:=
 wpList_plain hgd fun K hK=>ksw B i (fun w' h=>hK _ _ (hr w' h)) ho hx hi hy hs h1 hf
def iF{ps:Array Value}(hr:wpList prog ops Q rest (a.put o.dst (.agg ps)) w)(ho:o.op=.load t' x:=by exact rfl)(hx:a.eval x=V (some ⟨c,f,none⟩):=by exact rfl)(hR:aP t w c cs:=by exact rWW)(hp:(cs.toList.drop f).take m=ps.toList:=by first|exact Sc _|exact dcT _ _ _ _|exact dcP _ _ _ _)(hu:(prog.underlying t').map TypeDesc.isRow=some true:=by decide +kernel)(hz:(prog.info? t').map (·.size)=some m:=by kernel_rfl)(hm:Nat.beq ps.toList.length m=true:=by kernel_rfl)(hw:Region.wanted o (yielded ops a.tmps)=true:=by exact rfl):wpList prog ops Q (o::rest) a w:=
 have e:ps.toList.length=m:=Nat.eq_of_beq_eq_true hm
 dMi ps.toList hr ho hx hR (by rw[e];exact hp) hu (by rw[e];exact hz) hw
def Bt(i:Nat){q:Nat}(B:Dz F0 w0 w L)(hl:(xs.drop f).take q=ys.toList)(hr:wpList prog ops Q rest (a.put o.dst (.agg ys)) w)(ho:o.op=.load e x:=by exact rfl)(hx:a.eval x=V (some ⟨g,f,none⟩):=by exact rfl)(hi:L[i]?=some (cL e m (.slice (some ⟨g,0,none⟩) n cap) n xs):=by exact rfl)(hu:(prog.underlying e).map TypeDesc.isRow=some true:=by kernel_rfl)(hs:(prog.info? e).map (·.size)=some ys.size:=by kernel_rfl)(hw:Region.wanted o (yielded ops a.tmps)=true:=by kernel_rfl)(hq:Nat.beq q ys.size=true:=by kernel_rfl):wpList prog ops Q (o::rest) a w:=
 dEl i ys.toList (by rw[Nat.eq_of_beq_eq_true hq] at hl;simpa using hl) B hr ho hx hi hu (by simpa using hs) hw
def dNe{m:Mp}{q:Bool}(hr:wpList prog ops Q rest (a.put o.dst (.bool q)) w)(ho:o.op=.binOp .neq 72 x y 72:=by exact rfl)(hx:a.eval x=.agg (mc m):=by exact rfl)(hy:a.eval y=.agg (mc m'):=by exact rfl)(hq:(!(m==m'))=q:=by assumption)(hw:Region.wanted o (yielded ops a.tmps)=true:=by exact rfl):wpList prog ops Q (o::rest) a w:=
 UO _ x y ho hw _ _ hx hy eqGuardType72 _ q (Od m m' w) hq hr
def dEm{m:Mp}{q:Bool}(hr:wpList prog ops Q rest (a.put o.dst (.bool q)) w)(ho:o.op=.binOp .eql 72 x y 72:=by exact rfl)(hx:a.eval x=.agg (mc m):=by exact rfl)(hy:a.eval y=.agg (mc m'):=by exact rfl)(hq:(m==m')=q:=by assumption)(hw:Region.wanted o (yielded ops a.tmps)=true:=by exact rfl):wpList prog ops Q (o::rest) a w:=
 zX _ x y ho hw _ _ hx hy eqGuardType72 _ q (Od m m' w) hq hr
def eBf{p:Operand}{pz:Prop}(h:pz)(c:qQ (.build 75 #[(0,p),(1,q),(2,r),(3,u)]) pz:=by exact rz (by with_unfolding_none exact rfl) (by with_reducible exact rfl)):pz:=h
def dBf{m:Mp}{k y':Int}{p:Operand}(hr:wpList prog ops Q rest (a.put o.dst (.agg (fc (eV m k y' z)))) w)(ho:o.op=.build 75 #[(0,p),(1,q),(2,r),(3,u)]:=by exact rfl)(h1:a.eval p=.agg (mc m):=by exact rfl)(h2:a.eval q=I Z k:=by exact rfl)(h3:a.eval r=I Z y':=by exact rfl)(h4:a.eval u=I Z z:=by exact rfl)(hgd:o.guard=none:=by exact rfl):wpList prog ops Q (o::rest) a w:=
 qo5 hgd p q r u ho m k y' z h1 h2 h3 h4 hr
def eNe{a':Act}{pz:Prop}(h:wpList prog ops Q (o::rest) a' w)(c:pz=wpList prog ops Q (o::rest) a w:=by with_unfolding_none exact rfl)(d:o.op=.binOp .neq 72 x y 72:=by with_reducible exact rfl)(e:a=a':=by exact nzB):pz:=by subst c e;exact h
def eEq{a':Act}{pz:Prop}(h:wpList prog ops Q (o::rest) a' w)(c:pz=wpList prog ops Q (o::rest) a w:=by with_unfolding_none exact rfl)(d:o.op=.binOp .eql 72 x y 72:=by with_reducible exact rfl)(e:a=a':=by exact nzB):pz:=by subst c e;exact h
def VU(B:Dz F0 w0 w L)(hC:Calls prog fn args w fun e w'=>e=.returned v/\Below w.heap.size w w')(h:∀W,Dz F0 w0 W L->fE R W->jo ops Q (fE R) lt n l (a.put o.dst v) W)(hrun:(execOp a.eval o).run prog w=.ok (.enter fn args) w:=by kernel_rfl)(hR:∀W,Dz F0 w0 W L->fE R W:=by intro W B;exact aTT):o.wp prog a w (fun a' w'=>(i ∉ lt->fE R w->fE R w')/\jo ops Q (fE R) lt n l a' w') Q:=
 kc hC (fun e w' q=>⟨v,q.1,nJ (h _ (B.below q.2)) (hR _ (B.below q.2))⟩) hrun
def tA(B:Dz F0 w0 w L)(h:∀c W,Dz F0 w0 W (cR t c v.cells::L)->fE R W->jo ops Q (fE R) lt n l (a.put o.dst (V (some ⟨c,0,none⟩))) W)(ho:o.op=.alloc t:=by exact rfl)(hz:∀w:World,(zeroValue t).run prog w=.ok v w:=by first|exact EB|exact VR|exact OT|exact FE|exact zg|exact Vc)(hR:∀c W,Dz F0 w0 W (cR t c v.cells::L)->fE R W:=by intro c W B;exact aTT):o.wp prog a w (fun a' w'=>(i ∉ lt->fE R w->fE R w')/\jo ops Q (fE R) lt n l a' w') Q:=
 ka B ho hz fun c w' q=>nJ (h c _ q) (hR c _ q)
def iG(B:Dz F0 w0 w L)(j:Nat)(h:∀W,Dz F0 w0 W (L.set j (cR t c ys))->fE R W->jo ops Q (fE R) lt n l (a.put o.dst undef) W)(ho:o.op=.store t x y:=by exact rfl)(hx:a.eval x=V (some ⟨c,0,none⟩):=by exact rfl)(hi:L[j]?=some (cR t c cs):=by exact rfl)(hy:a.eval y=.agg ys:=by first|exact MC _|exact rfl)(hs:(prog.info? t).map (·.size)=some ys.size:=by kernel_rfl)(h1:ys.all (·.oneCell')=true:=by kernel_rfl)(hf:Nat.beq cs.size ys.size=true:=by kernel_rfl)(hR:∀W,Dz F0 w0 W (L.set j (cR t c ys))->fE R W:=by intro W B;exact aTT):o.wp prog a w (fun a' w'=>(i ∉ lt->fE R w->fE R w')/\jo ops Q (fE R) lt n l a' w') Q:=
 ksw B j (fun w' q=>nJ (h _ q) (hR _ q)) ho hx hi hy hs h1 hf
end
theorem qdF{L:List Cp}{x:Cp}(h:L[i]?=some x):L.set i x=L:=by
 obtain⟨h1,h2⟩:=aJ.1 h
 rw[←h2];simp
section
variable {F0:Nat->Prop} {w0 w W:World} {L:List Cp} {x y:Cp} {v v':Value} {ms ms':List Mp}
def Dz.swap(h:Dz F0 w0 W (x::y::L)):Dz F0 w0 W (y::x::L):=by
 refine⟨h.gr,fun i j u v m6 hu hv c h1 h2=>?_,fun u hu=>h.ok u (by simp at hu ⊢;rcases hu with h|h|h<;>simp[h])⟩
 rcases i with _|_|i<;>rcases j with _|_|j<;>simp at hu hv m6<;>(try subst hu)<;>(try subst hv)
 .exact h.apart 1 0 _ _ om rfl rfl c h1 h2
 .exact h.apart 1 (j+2) _ v om rfl (by simpa using hv) c h1 h2
 .exact h.apart 0 1 _ _ om rfl rfl c h1 h2
 .exact h.apart 0 (j+2) _ v om rfl (by simpa using hv) c h1 h2
 .exact h.apart (i+2) 1 u _ om (by simpa using hu) rfl c h1 h2
 .exact h.apart (i+2) 0 u _ om (by simpa using hu) rfl c h1 h2
 .exact h.apart (i+2) (j+2) u v om (by simpa using hu) (by simpa using hv) c h1 h2
def Dz.maps(B:Dz F0 w0 w L)(i:Nat)(hi:L[i]?=some (cM v ms))(hb:Below w.heap.size w W)(hM:cE W v' ms')(hn:jw v')(hq:0<ms'.length->w.heap.size<=mb v'\/(mb v'=mb v/\0<ms.length)):Dz F0 w0 W (L.set i (cM v' ms')):=
 B.put i hi _ ((Gr.cU (F:=fun _=>False) hb).mono fun _ h=>h.elim) (RA hM hn) (fun c hc=>(hq hc.1).elim (fun h=>.inr (hc.2▸h)) (fun h=>.inl ⟨h.2,hc.2.trans h.1⟩))
def Dz.pO{P:Prop} [Decidable P](B:Dz F0 w0 w L)(i:Nat)(hi:L[i]?=some (cM v ms))(hb:Below w.heap.size w W)(hM:cE W v' ms')(hn:jw v')(hq:0<ms'.length->w.heap.size<=mb v'\/(mb v'=mb v/\0<ms.length)):Dz F0 w0 W (L.set i (if P then cM v' ms' else cM v ms)):=by
 split
 .exact B.maps i hi hb hM hn hq
 .have:=B.below hb
  rwa [qdF hi]
end
theorem qdG(b:Nat)(s:Nt)(fs:List (Nat×Fl))(T F Iq:Sl):bD b { s with fs:=fs } T F Iq=[cR 46 b (i5 s T F Iq),cL 75 10 F.v fs.length (iy fs),cL 3 1 Iq.v fs.length (gQ fs),cM T.v s.ms]:=by kernel_rfl
theorem Ss(fs:List (Nat×Fl))(n:Nat)(k:Fl):gQ (fG fs n k)=gQ fs:=by
 unfold gQ fG
 rw[List.map_map]
 exact mU fun x _=>by simp only[Function.comp];split<;>simp_all
def n4{F:Sl}(h:w.ownsRow 0 e m F.v n xs):F.n=n/\(0<n->∃g,F.a=some ⟨g,0,none⟩):=by
 obtain⟨_,h⟩:=h
 unfold Sl.v at h
 rcases h with⟨h,h2⟩|⟨g,cap,cur,h,_⟩<;>injection h with p q r
 .exact⟨by omega,fun h=>by omega⟩
 .exact⟨q,fun _=>⟨g,p⟩⟩
def qdH{p:bM}{m:Mp}(X:ByteArray)(h:s.fs.find? (fun y=>lC p m y.2)=none):(if (s.dK p m).1≠0 then(eZ (s.dK p m).1,(s.dK p m).2) else((⟨0,X,true,ByteArray.empty⟩:Rp),(s.dK p m).2))=if (s.loose||(s.fs.find? fun y=>lD p m y.2).isSome)=false then(eZ 11,s) else if (p.ae != 17||s.full)=true then(eZ 11,s) else(⟨0,X,true,ByteArray.empty⟩,s.begin (eV m p.src p.aj 2)):=by
 (have e:(!s.loose&&(s.fs.find? fun y=>lD p m y.2).isNone)=!(s.loose||(s.fs.find? fun y=>lD p m y.2).isSome):=by cases s.loose<;>cases(s.fs.find? fun y=>lD p m y.2)<;>rfl)
 unfold Nt.dK Nt.find
 rw[h]
 simp only[e]
 cases(s.loose||(s.fs.find? fun y=>lD p m y.2).isSome)<;>cases(p.ae != 17||s.full)<;>rfl
def dTf{ops:Array Oper}{Q:Exit->Act->World->Prop}{R:List Cp}{lt:List Nat}(i:Nat){m:Mp}{x y:Int}{p:Operand}(h:jo ops Q (fE R) lt n (l.setIfInBounds i true) (a.put oi.dst (.agg (fc (eV m x y z)))) w)(hi:ops[i]?=some oi:=by exact rfl)(ho:oi.op=.build 75 #[(0,p),(1,q),(2,r),(3,u)]:=by exact rfl)(h1:a.eval p=.agg (mc m):=by exact rfl)(h2:a.eval q=I Z x:=by exact rfl)(h3:a.eval r=I Z y:=by exact rfl)(h4:a.eval u=I Z z:=by exact rfl)(hw:Region.wanted oi (yielded ops a.tmps)=true:=by kernel_rfl)(hs:Region.noSelect ops=true:=by kernel_rfl)(hf:Region.free .any ops l i=true:=by kernel_rfl)(hr:(Region.ready .any ops l).contains i=true:=by kernel_rfl)(hQ:∀c a w,Q (.panic c) (a.put oi.dst (.agg (fc (eV m x y z)))) w->Q (.panic c) a w:=by exact fun _ _ _ h=>h):jo ops Q (fE R) lt (n+1) l a w:=
 OX (is:=[]) h hi (qbn p q r u ho hw m x y z h1 h2 h3 h4) hs hf hr hQ
theorem qdI(s:Nt)(n:Nat)(k:Fl)(T F Iq:Sl):i5 (s.keep n k) T F Iq=i5 s T F Iq:=by kernel_rfl
def Su(w:af):(zeroValue 63).run ah w=.ok .nilFunc w:=by kernel_rfl
def FM(b:Nat)(s:Nt):Prop:=∀(W:af) (T F Iq:Sl) (fr:ByteArray),Dz (lc (bD b s T F Iq)) W W (bD b s T F Iq)->fr.size<=140737488351232->gR 24 #[V (some ⟨b,0,none⟩),.string fr] W b s T F Iq (.agg (s.i7 fr.data.toList).1.cells) (s.i7 fr.data.toList).2
def cJ(n:Nat)(f:Nat->ag):Act:=⟨((aA n).map f).toArray,[]⟩
def sl(a:Act)(i:Nat):ag:=a.tmps.getD i gW
theorem yD(h:a.tmps.size=n)(hd:a.defers=[]):a=cJ n (sl a):=by
 obtain⟨t,d⟩:=a
 obtain rfl:d=[]:=hd
 unfold cJ sl
 congr
 subst h
 apply Array.ext
 .simp
 .intro i h1 h2;have gY:i<t.size:=h1
  simp[gY]
def MD{p:Nat->Prop}(h:∃k,p k):∃k,p k/\∀j,p j->k<=j:=by
 obtain⟨k,hk⟩:=h
 induction k using Nat.strongRecOn with
 | _ k ih=>
  by_cases q:∃j,j<k/\p j
  .obtain⟨j,hj,hp⟩:=q;exact ih j hj hp
  .exact⟨k,hk,fun j hp=>Nat.le_of_not_lt fun hl=>q ⟨j,hl,hp⟩⟩
section
variable {c:Code} {Q:Exit->Act->World->Prop} {n k:Nat} {f:Nat->Value} {w:World} {a:Act}
def ri(n:Nat)(J:Nat->(Nat->ag)->af->Prop)(k:Nat)(a:Act)(w:af):Prop:=∃k',k'<k/\∃g,a=cJ n g/\J k' g w
open Classical in
def lF(J:Nat->(Nat->ag)->af->Prop)(h0:J k f w)(hr:∀k f w,J k f w->c.wp ah (Exit.then (ri n J k) Q) (cJ n f) w):(Code.loop c).wp ah Q (cJ n f) w:=by
 let p:Act->af->Nat->Prop:=fun a w k=>∃g,a=cJ n g/\J k g w
 refine wp_loop (fun a w=>∃k,p a w k) (fun a w=>if h:∃k,p a w k then(MD h).choose else 0) ⟨k,f,rfl,h0⟩ ?_
 intro a w h
 obtain⟨⟨g,rfl,hJ⟩,hm⟩:=(MD h).choose_spec
 refine Code.wp_mono ?_ (hr _ g w hJ)
 intro e a' w' q
 cases e with
 | normal=>
  obtain⟨k',hk,g',rfl,hJ'⟩:=q
  have h':∃k,p (cJ n g') w' k:=⟨k',g',rfl,hJ'⟩
  refine⟨h',?_⟩
  rw[dif_pos h',dif_pos h]
  exact Nat.lt_of_le_of_lt ((MD h').choose_spec.2 k' ⟨g',rfl,hJ'⟩) hk
 | _=>exact q
def je{J:Nat->(Nat->Value)->World->Prop}(k':Nat)(hk:k'<k)(hJ:J k' (sl a) w)(hs:Nat.beq a.tmps.size n=true:=by kernel_rfl)(hd:a.defers=[]:=by exact rfl):ri n J k a w:=⟨k',hk,sl a,yD (Nat.eq_of_beq_eq_true hs) hd,hJ⟩
def onF(X:(Nat->Value)->World->Prop)(h:∀f w,X f w->c.wp prog Q (cJ n f) w)(hX:X (sl a) w)(hs:Nat.beq a.tmps.size n=true:=by kernel_rfl)(hd:a.defers=[]:=by exact rfl):c.wp prog Q a w:=by
 rw[yD (Nat.eq_of_beq_eq_true hs) hd];exact h _ _ hX
def lG(J:Nat->(Nat->Value)->World->Prop)(k:Nat)(h:∀f,J k f w->(Code.loop c).wp prog Q (cJ n f) w)(hX:J k (sl a) w)(hs:Nat.beq a.tmps.size n=true:=by kernel_rfl)(hd:a.defers=[]:=by exact rfl):(Code.loop c).wp prog Q a w:=by
 rw[yD (Nat.eq_of_beq_eq_true hs) hd];exact h _ hX
def rj{e:Exit}(h:∀g w,X g w->Q e (cJ n g) w)(hX:X (sl a) w)(hs:Nat.beq a.tmps.size n=true:=by kernel_rfl)(hd:a.defers=[]:=by exact rfl):Q e a w:=by
 rw[yD (Nat.eq_of_beq_eq_true hs) hd];exact h _ _ hX
def Cut(n:Nat)(X:(Nat->ag)->af->Prop)(e:Exit)(a:Act)(w:af):Prop:=e=.normal/\∃g,a=cJ n g/\X g w
def FN(X:(Nat->ag)->af->Prop)(h:c.wp ah (Cut n X) a w)(k:∀f w',X f w'->Q .normal (cJ n f) w'):c.wp ah Q a w:=
 Code.wp_mono (fun e a' w' q=>by obtain⟨rfl,g,rfl,hX⟩:=q;exact k g w' hX) h
def endF(hX:X (sl a) w)(hs:Nat.beq a.tmps.size n=true:=by kernel_rfl)(hd:a.defers=[]:=by exact rfl):Cut n X .normal a w:=⟨rfl,sl a,yD (Nat.eq_of_beq_eq_true hs) hd,hX⟩
end
section
variable {ops:Array Oper} {Q:Exit->Act->World->Prop} {R:List Cp} {lt:List Nat} {n:Nat} {w:World}
def Ho(ops:Array Oper):List Nat->Act->Act
 | [],a=>a
 | i::r,a=>Ho ops r (a.put ((ops[i]?).bind (·.dst)) gW)
def skL:List Nat->Array Bool->Array Bool
 | [],l=>l
 | i::r,l=>skL r (l.setIfInBounds i true)
def skB(ops:Array Oper):List Nat->Array Bool->Act->Bool
 | [],_,_=>true
 | i::r,l,a=>(match ops[i]? with|some o=>!bj o (dy ops a.tmps)|none=>false)&&Region.free .any ops l i&&(dV .any ops l).contains i&&skB ops r (l.setIfInBounds i true) (a.put ((ops[i]?).bind (·.dst)) gW)
def yE:∀(is:List Nat) {l:Array Bool} {a:Act} (_:jo ops (NoPanic Q) (fE R) lt n (skL is l) (Ho ops is a) w) (_:skB ops is l a=true:=by kernel_rfl) (_:Region.noSelect ops=true:=by kernel_rfl),jo ops (NoPanic Q) (fE R) lt (n+is.length) l a w
 | [],l,a,h,_,_=>h
 | i::r,l,a,h,hb,hs=>by
  unfold skB at hb
  rw[Bool.and_eq_true,Bool.and_eq_true,Bool.and_eq_true] at hb
  obtain⟨⟨⟨h1,h2⟩,h3⟩,h4⟩:=hb
  cases ho:ops[i]? with
  | none=>rw[ho] at h1;cases h1
  | some o=>
   rw[ho] at h1
   (have hw:Region.wanted o (yielded ops a.tmps)=false:=by simpa using h1);(have e:(ops[i]?).bind (·.dst)=o.dst:=by rw[ho];rfl)
   unfold skL Ho at h
   rw[e] at h h4
   exact OX (is:=[]) (yE r h h4 hs) ho (.inr ⟨hw,rfl⟩) hs h2 h3 (fun _ _ _ h=>h)
end
section
variable {F0:Nat->Prop} {w0 W:World} {L L':List Cp} {e:TypeId} {m:Nat}
def ME:∀(is:List Nat) (i:Nat) (x:Cp),(∀k∈is,k<L.length)->(is.filterMap (L[·]?))[i]?=some x->∃k,is[i]?=some k/\L[k]?=some x
 | [],_,_,_,h=>by simp at h
 | j::r,i,x,hl,h=>by
  have hj:L[j]?=some (L[j]'(hl j zm)):=List.getElem?_eq_getElem (hl j zm)
  rw[List.filterMap_cons,hj] at h
  cases i with
  | zero=>exact⟨j,rfl,hj.trans (by simpa using h)⟩
  | succ i=>simpa using ME r i x (fun k hk=>hl k (by simp[hk])) (by simpa using h)
def Dz.pick(h:Dz F0 w0 W L)(is:List Nat)(hL:is.filterMap (L[·]?)=L':=by exact rfl)(hd:is.Nodup:=by decide)(hl:is.all (fun k=>Nat.blt k L.length)=true:=by exact rfl):Dz F0 w0 W L':=by
 subst hL
 (have hl':∀k∈is,k<L.length:=fun k hk=>by simpa[Nat.blt_eq] using List.all_eq_true.1 hl k hk)
 refine⟨h.gr,fun i j x y m6 hx hy=>?_,fun y hy=>?_⟩
 .obtain⟨k,hk,h1⟩:=ME is i x hl' hx;obtain⟨q,hq,h2⟩:=ME is j y hl' hy
  refine h.apart k q x y (fun e=>m6 ?_) h1 h2
  subst e
  obtain⟨p1,q1⟩:=List.getElem?_eq_some_iff.1 hk;obtain⟨p2,q2⟩:=List.getElem?_eq_some_iff.1 hq
  exact(List.getElem_inj hd).1 (q1.trans q2.symm)
 .obtain⟨k,hk,h1⟩:=List.mem_filterMap.1 hy
  exact h.ok y (List.mem_of_getElem? h1)
def Dz.nil(h:Dz F0 w0 W L)(e:bt)(m:Nat):Dz F0 w0 W (cL e m (.slice none 0 0) 0 []::L):=
 h.add _ (Below.refl _ _) (Bq (World.ownsRow_nil _ 0 e m)) (fun c hc=>by cases hc)
end
def Bu(h:p:=by
 clear h0 hn hes jr hl fh
 go_enter func55,ntmps55
 go_wp2_with (first|(go_at_call 119;go_fit (CT _);rintro e W ⟨rfl,hb⟩;replace B:=B.below hb;replace E:=E.trans (hb.mono E.size);clear hb)|(go_at_call 120;go_fit (CM _ (hE.below E));rintro e W ⟨rfl,hb⟩;replace B:=B.below hb;replace E:=E.trans (hb.mono E.size);clear hb)|(refine eG ?_;refine eP ?_)|(refine fe ?_;refine ld B 0 _ ?_ (hy:=by first|exact congrArg (Value.int .i64) HV.out|exact congrArg (Value.int .i64) (hw.trans HV.out)) (hd:=qcZ _ _ _ _ _);clear B;intro W B))
 go_ret
 exact⟨rfl,T,F,Iq,HN.out▸B⟩):p:=h
def Sv{T F Iq:Sl}(B:Dz (lc (bD b s T F Iq)) w w (bD b s T F Iq))(sl:ag)(es:List Ev)(hE:fX w sl es)(hes:es.length<=64)(jr:s.logged<=100000):gR 55 #[V (some ⟨b,0,none⟩),sl] w b s T F Iq (.string (s.log es).1) (s.log es).2:=by
 unfold gR
 (have CT:=fun w=>qdJ 0 w);(have CM:=fun w hE=>qdK (s.logged:Int) sl es w hE)
 unfold jU at CT
 unfold jy at CM
 obtain⟨z1,z2⟩:=q2b es (s.logged:Int) hes;obtain⟨a0,cap,dB⟩:=hE.slice
 obtain⟨n,hn⟩:∃n,n=es.length:=⟨_,rfl⟩
 rw[←hn] at dB
 subst dB
 have HG:Hid (∃G,G=lc (bD b s T F Iq)):=ar ⟨_,rfl⟩
 generalize lc (bD b s T F Iq)=G at B ⊢
 unfold Nt.log
 rw[←hn]
 unfold bD at B
 have E:=Below.refl w.heap.size w
 by_cases h0:n=0
 .rw[aZ h0]
  subst h0
  clear hn CT CM
  go_enter func55,ntmps55
  go_wp2
  go_ret
  exact⟨rfl,T,F,Iq,B⟩
 .rw[aT h0];(have hz:(0:Int)<(n:Int):=by omega);refine m6e ?_;intro hw HV;have HN:Hid (n=es.length):=hn
  generalize qx 0 0 2 (eA 6)=T0 at *
  generalize fh:qy (s.logged:Int) es=M0 at *
  by_cases hl:s.logged=0
  .rw[aZ hl];(have hz3:((s.logged:Int)==0)=true:=by simp[hl])
   exact Bu
  .rw[aT hl];(have hz3:((s.logged:Int)==0)=false:=by simp;omega)
   exact Bu
end Go.Proofs.YtnkpgdejagglaaaGreatDoor
