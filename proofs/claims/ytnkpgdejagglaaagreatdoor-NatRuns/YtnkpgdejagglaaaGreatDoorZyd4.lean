/-
  Of what a law stands on.
-/
import Derived.Maps.OwnSet
import Derived.Maps.OwnOps
import Derived.WideKeyEntry
import Derived.DeepKeys5
import Derived.Carry
import Derived.Test.YtnkpgdejagglaaaGreatDoorZyd3
set_option linter.all false
namespace Go.Proofs.YtnkpgdejagglaaaGreatDoor
open _root_.Go renaming Calls->az,Operand->aU,TypeId->bt,Value->ag,World->af,bodyPost_ret->aL,execOp->bG,keyOf->nM,maxLen->jt,run_underlying->gU,wpList->aM,wpList_plain->bP,zeroValue->eM
open _root_.Go.ChangeMaps renaming heap_setBlock_same->gX
open _root_.Go.Instr renaming lookup->fP,mapEntry->i9,mapUpdate->gp
open _root_.Go.MapKept renaming run_getObj_map->gC,run_setObj_map->gD
open _root_.Go.Proofs.Tryz renaming prog->ah
open _root_.Go.Result renaming andThen->eN,andThen_ok->bF
open _root_.Go.Sem renaming run_bind->bB,run_pure->bH
open _root_.Go.WideMaps renaming KeyLaw->ir
open _root_.Go.World renaming cell?->cS
open _root_.List renaming filter_append->cO,length_append->aY,map_cons->aB,map_nil->aI,map_toArray->dx,mem_cons_of_mem->eK,mem_map->bQ,mem_of_getElem?->aH,nil_append->jh,nodup_cons->lY,range->aA,range_succ->hZ,take_length->bn
open _root_.Option.some renaming inj->bC
open Go.Value renaming int → I,pointer → V
open Go.IntKind renaming i64 → Z
open _root_.Go.Proofs.Tryz Go.ChangeShapes Go.WideShapes Go.ChangeAt Go.RowKit
set_option maxHeartbeats 16000000
set_option maxRecDepth 100000
set_option maxRecDepth 100000
variable {W w w':World}{R:Value->Option (DataW Unit×List MemPlace)}{aN b j:Nat}{D:DataW Unit}{v:Value}{d i p q s x:Int}{t:TypeId}{β:Type}{f h:Nat->Int}{ms:List Mp}{L:List (Nat×TypeId×Array Value)}{Ms:List (Value×List Mp)}{y:Nat×TypeId×Array Value}{m:Mp}{ops:Array Oper}{rest:List Oper}{o:Oper}{a:Act}{Q:Exit->Act->World->Prop}{cs:Array Value}{K:Act->World->Prop}{g:Nat->Bool}
section
open Go.Maps
structure Ky{α:Type}(kt:bt)(κ:α->ag)(ok:α->Prop):Prop where
 law:Keyed ah kt
 lit:∀a,ok a->∃l,nM ah kt (κ a)=some l
 inj:∀a b,κ a=κ b->a=b
def uG{α:Type}(W:af)(kt:bt)(κ:α->ag)(ok:α->Prop)(b n:Nat)(S:α->Bool):Prop:=
 ∃D:DataW Unit,W.ownsMap ah kt (plainElem ah 4) b n D/\∀a,ok a->∀l,nM ah kt (κ a)=some l->D.atKey l (.lit (.bool false))=.lit (.bool (S a))
def qq{α:Type}(W:af)(kt:bt)(κ:α->ag)(ok:α->Prop)(b n:Nat)(S:α->Int):Prop:=
 ∃D:DataW Unit,W.ownsMap ah kt (plainElem ah 3) b n D/\∀a,ok a->∀l,nM ah kt (κ a)=some l->D.atKey l (.lit (.int .i64 0))=.lit (.int .i64 (S a))
def QD{W':af}{kt:bt}{n:Nat}(h:W.ownsMap ah kt R b n D)(he:W'.heap[b]?=W.heap[b]?):W'.ownsMap ah kt R b n D:=by
 obtain⟨es,clock,hb,r⟩:=h
 exact⟨es,clock,he.trans hb,r⟩
def QE(x:Bool):plainElem (H:=Unit) ah 4 (.bool x)=some (.lit (.bool x),[]):=plainElem_bool underlying4 x
theorem Zr{x:Bool}{ps:List MemPlace}(h:plainElem (H:=Unit) ah 4 v=some (.lit (.bool x),ps)):v=.bool x:=by
 unfold plainElem at h
 rw[underlying4] at h
 cases v<;>simp at h
 .exact congrArg Value.bool h.1
def Zs(w:af):(eM 4).run ah w=.ok (.bool false) w:=by kernel_rfl
def Js(w:af):(eM 3).run ah w=.ok (I Z 0) w:=by kernel_rfl
section
variable {α:Type} {W W':World} {kt:TypeId} {κ:α->Value} {ok:α->Prop} {b n:Nat}
def uG.keep{S:α->Bool}(h:uG W kt κ ok b n S)(he:W'.heap[b]?=W.heap[b]?):uG W' kt κ ok b n S:=by
 obtain⟨D,h1,h2⟩:=h;exact⟨D,QD h1 he,h2⟩
def qq.keep{S:α->Int}(h:qq W kt κ ok b n S)(he:W'.heap[b]?=W.heap[b]?):qq W' kt κ ok b n S:=by
 obtain⟨D,h1,h2⟩:=h;exact⟨D,QD h1 he,h2⟩
def uG.lt{S:α->Bool}(h:uG W kt κ ok b n S):b<W.heap.size:=by obtain⟨D,h1,h2⟩:=h;exact h1.lt
def qq.lt{S:α->Int}(h:qq W kt κ ok b n S):b<W.heap.size:=by obtain⟨D,h1,h2⟩:=h;exact h1.lt
def QF(w:af)(kt:bt)(κ:α->ag)(ok:α->Prop):uG (w.alloc (.map #[] 0)) kt κ ok w.heap.size 0 (fun _=>false):=⟨_,World.ownsMap_made w _ _ _,fun a _ l _=>rfl⟩
def Jt(w:af)(kt:bt)(κ:α->ag)(ok:α->Prop):qq (w.alloc (.map #[] 0)) kt κ ok w.heap.size 0 (fun _=>0):=⟨_,World.ownsMap_made w _ _ _,fun a _ l _=>rfl⟩
theorem uG.look{S:α->Bool}(h:uG W kt κ ok b n S)(K:Ky kt κ ok)(ht:ah.underlying t=some (.map kt 4))(a:α)(ha:ok a):(fP t (.map (some b)) (κ a) false).run ah W=.ok (.bool (S a)) W:=by
 obtain⟨D,h1,h2⟩:=h;obtain⟨l,hl⟩:=K.lit a ha;obtain⟨v,ps,hr,hv⟩:=h1.lookup K.law ht (Zs W) (QE false) hl
 grind [Zr]
def qq.look{S:α->Int}(h:qq W kt κ ok b n S)(K:Ky kt κ ok)(ht:ah.underlying t=some (.map kt 3))(a:α)(ha:ok a):(fP t (.map (some b)) (κ a) false).run ah W=.ok (.int .i64 (S a)) W/\(Lit.int .i64 (S a)).wf=true:=by
 obtain⟨D,h1,h2⟩:=h;obtain⟨l,hl⟩:=K.lit a ha;obtain⟨c,hr,hc,hw⟩:=h1.lookup_int K.law ht underlying3 (Js W) hl
 rw[h2 a ha l hl] at hc
 have e:S a=c:=(Lit.int.inj (DataW.lit.inj hc)).2;rw[hr,e]
 exact⟨rfl,hw⟩
def jc [DecidableEq α]{β:Type}(S:α->β)(a:α)(y:β):α->β:=fun x=>if x=a then y else S x
theorem QG [DecidableEq α]{R:ag->Option (DataW Unit×List MemPlace)}{S:α->β}{lt:β->Lit}{z:Lit}(K:Ky kt κ ok)(hM:IsMap D)(h2:∀a,ok a->∀l,nM ah kt (κ a)=some l->D.atKey l (.lit z)=.lit (lt (S a)))(a:α)(y:β){la:Lit}(hl:nM ah kt (κ a)=some la):
  ∀x,ok x->∀l,nM ah kt (κ x)=some l->(D.put la (.lit (lt y))).atKey l (.lit z)=.lit (lt (jc S a y x)):=by
 intro x hx l hlx
 unfold jc
 by_cases e:x=a
 .subst e
  obtain rfl:la=l:=by rw[hl] at hlx;exact bC hlx
  rw[aZ rfl,atKey_put_same hM (K.law.key hl)]
 ·(have hne:l≠la:=fun e2=>e (K.inj x a (K.law.inj hlx (by rw[e2];exact hl))));rw[aT e,atKey_put_other hne]
  grind
def uG.put [DecidableEq α]{S:α->Bool}(h:uG W kt κ ok b n S)(K:Ky kt κ ok)(ht:ah.underlying t=some (.map kt 4))(hn:n<jt)(a:α)(ha:ok a)(y:Bool):∃w',(gp t (.map (some b)) (κ a) (.bool y)).run ah W=.ok () w'/\uG w' kt κ ok b (n+1) (jc S a y)/\W.grownBy w' (some b):=by
 obtain⟨D,h1,h2⟩:=h;obtain⟨l,hl⟩:=K.lit a ha;obtain⟨w',hr,ho,hg⟩:=h1.update K.law ht hn hl (QE y)
 exact⟨w',hr,⟨_,ho,QG (R:=plainElem ah 4) (lt:=Lit.bool) K h1.isMap h2 a y hl⟩,hg⟩
def Zt(h:(Lit.int .i64 x).wf=true):plainElem (H:=Unit) prog 3 (.int .i64 x)=some (.lit (.int .i64 x),[]):=plainElem_int underlying3 h
def qq.put [DecidableEq α]{S:α->Int}(h:qq W kt κ ok b n S)(K:Ky kt κ ok)(ht:ah.underlying t=some (.map kt 3))(hn:n<jt)(a:α)(ha:ok a)(y:Int)(hy:(Lit.int .i64 y).wf=true):∃w',(gp t (.map (some b)) (κ a) (.int .i64 y)).run ah W=.ok () w'/\qq w' kt κ ok b (n+1) (jc S a y)/\W.grownBy w' (some b):=by
 obtain⟨D,h1,h2⟩:=h;obtain⟨l,hl⟩:=K.lit a ha;obtain⟨w',hr,ho,hg⟩:=h1.update K.law ht hn hl (Zt hy)
 exact⟨w',hr,⟨_,ho,QG (R:=plainElem ah 3) (lt:=Lit.int .i64) K h1.isMap h2 a y hl⟩,hg⟩
end
theorem Zu{k e:bt}{es:Array MapEntry}{clock:Nat}(K:ir ah k)(ht:ah.underlying t=some (.map k e)){z:ag}(hz:∀u:af,(eM e).run ah u=.ok z u)(hb:w.heap[b]?=some (.map es clock))(F:WideElems.Fit ah k R es clock){key:ag}{kl:Lit}(hkey:nM ah k key=some kl){v0:ag}{u:ag}{w1:af}(h1:(i9 t (.map (some b)) key).run ah w=.ok (.tuple #[v0,u]) w1):(gp t (.map (some b)) key v0).run ah w=.ok () w1/\(fP t (.map (some b)) key false).run ah w=.ok v0 w:=by
 rcases K.find w hkey es.toList F.keys with⟨f1,f2⟩|⟨j,e0,f1,f2,f3⟩
 .simp[i9,gU ht,gC hb,K.check w false hkey,f1,hz,gD _ hb,eN] at h1
  simp[gp,fP,gU ht,gC hb,K.check w _ hkey,f1,hz,gD _ hb,eN]
  grind
 ·(have hj:es[j]?=some e0:=by simpa using f2)
  have hm:es.modify j (fun e=>{ e with key:=key,val:=e0.val })=es.modify j (fun e=>{ e with key:=key }):=by
   grind
  simp[i9,gU ht,gC hb,K.check w false hkey,f1,hj,f3,K.stays w hkey,gD _ hb,eN] at h1
  obtain⟨⟨e1,_⟩,e2⟩:=h1
  subst e1
  simp[gp,fP,gU ht,gC hb,K.check w _ hkey,f1,hj,f3,K.stays w hkey,gD _ hb,eN]
  grind
section
variable {α:Type} [DecidableEq α] {W W':World} {kt:TypeId} {κ:α->Value} {ok:α->Prop} {b n:Nat}
theorem Zv(S:α->β)(a:α):jc S a (S a)=S:=by grind [jc]
theorem qq.entry{S:α->Int}(h:qq W kt κ ok b n S)(K:Ky kt κ ok)(KL:ir ah kt)(ht:ah.underlying t=some (.map kt 3))(hn:n<jt)(a:α)(ha:ok a):
  ∃v0 st w1,(i9 t (.map (some b)) (κ a)).run ah W=.ok (.tuple #[v0,goInt st]) w1/\qq w1 kt κ ok b (n+1) S/\W.grownBy w1 (some b)/\
   ∀(w2:af) (y:Int),(Lit.int .i64 y).wf=true->w2.heap[b]?=w1.heap[b]?->∃w3,(Instr.entryStore t (.map (some b)) (goInt st) (.int .i64 y)).run ah w2=.ok () w3/\qq w3 kt κ ok b (n+1) (jc S a y)/\w2.grownBy w3 (some b):=by
 have hlk:=h.look K ht a ha;have h0:=h;obtain⟨D,h1,h2⟩:=h;obtain⟨l,hl⟩:=K.lit a ha;obtain⟨es,clock,hb,F,hs,hD⟩:=id h1;obtain⟨v0,st,N5,c1,r1,r2,r3⟩:=WideElems.entry_then_store KL ht Js hb F hl;obtain⟨hu,Zw⟩:=Zu KL ht Js hb F hl r1
 obtain rfl:v0=.int .i64 (S a):=(Result.ok.inj (Zw.symm.trans hlk.1)).1
 refine⟨_,st,_,r1,?_,?_,fun w2 y hy hw2=>?_⟩
 .obtain⟨w',q1,q2,q3⟩:=h0.put K ht hn a ha (S a) hlk.2
  grind [Zv]
 .obtain⟨w',q1,q2,q3⟩:=h0.put K ht hn a ha (S a) hlk.2
  grind
 .have my:(ChangeMaps.setBlock W b (.map N5 c1)).heap[b]?=some (.map N5 c1):=gX hb _;obtain⟨es',c',s1,s2⟩:=r3 w2 (.int .i64 y) (hw2.trans my);obtain⟨w',q1,q2,q3⟩:=h0.put K ht hn a ha y hy
  obtain rfl:=(Result.ok.inj (s2.symm.trans q1)).2
  refine⟨_,s1,q2.keep ?_,?_⟩
  .rw[gX (hw2.trans my),gX hb]
  .exact⟨rfl,rfl,rfl,by simp[ChangeMaps.setBlock],fun i _ hi=>ChangeMaps.heap_setBlock_other (hw2.trans my) _ (fun e=>hi (by rw[e]))⟩
end
def o8(x:Int):Prop:=(Lit.int .i64 x).wf=true
def oN(h:-9223372036854775808<=x/\x<=9223372036854775807):o8 x:=by unfold o8;simpa[Lit.wf,IntKind.min,IntKind.max,IntKind.signed,IntKind.bits] using h
def k3(x:Int×Int×Int):ag:=.agg #[I Z x.1,I Z x.2.1,I Z x.2.2]
def Ew(x:Int×Int×Int):Prop:=o8 x.1/\o8 x.2.1/\o8 x.2.2
def k2(x:Int×Int):ag:=.agg #[I Z x.1,I Z x.2]
def Ju(x:Int×Int):Prop:=o8 x.1/\o8 x.2
def G4(x:Int):ag:=I Z x
theorem QH(a b:Int×Int×Int)(h:k3 a=k3 b):a=b:=by
 obtain⟨a1,a2,a3⟩:=a;obtain⟨b1,b2,b3⟩:=b
 simp[k3] at h
 grind
theorem Zx(a b:Int×Int)(h:k2 a=k2 b):a=b:=by
 obtain⟨a1,a2⟩:=a;obtain⟨b1,b2⟩:=b
 simp[k2] at h
 grind
theorem Zy(a b:Int)(h:G4 a=G4 b):a=b:=by grind [G4]
def Jv:∃d,ah.types.size+1=d+2:=by
 (have h:decide (0<ah.types.size)=true:=by kernel_rfl)
 have:=of_decide_eq_true h
 exact⟨ah.types.size-1,by omega⟩
def Zz:ir ah 196:=deep_law_gate kr (of_decide_eq_true kr) (of_decide_eq_true kr) kr kr
def ZA:ir ah 198:=deep_law_gate kr (of_decide_eq_true kr) (of_decide_eq_true kr) kr kr
def QI:ir ah 199:=deep_law_gate kr (of_decide_eq_true kr) (of_decide_eq_true kr) kr kr
def vg{p:Prop}(h:p:=by
 simp only[hk,hf,hl,Bool.and_self,if_true,Option.map_some]
 exact⟨_,rfl⟩):p:=h
def ZB(x:Int×Int×Int)(h:Ew x):∃l,nM ah 196 (k3 x)=some l:=by
 (have hk:ah.keyType 196=true:=by kernel_rfl);(have hf:(k3 x).formed ah 196=true:=by kernel_rfl);(have c3:ah.cellsOf 196=3:=by kernel_rfl);(have c1:ah.cellsOf 3=1:=by kernel_rfl);obtain⟨d,hd⟩:=Jv
 have hl:ah.keyLits (ah.types.size+1) 196 (k3 x).cells.toList=some [.int .i64 x.1,.int .i64 x.2.1,.int .i64 x.2.2]:=by
  rw[hd];have h1:=h.1;have h2:=h.2.1;have h3:=h.2.2
  unfold o8 at h1 h2 h3
  simp[Program.keyLits,Value.cells,k3,underlying196,underlying3,c3,c1,h1,h2,h3]
 unfold nM
 rw[underlying196]
 exact vg
def ZC(x:Int×Int×Int)(h:Ew x):∃l,nM ah 198 (k3 x)=some l:=by
 (have hk:ah.keyType 198=true:=by kernel_rfl);(have hf:(k3 x).formed ah 198=true:=by kernel_rfl);(have c3:ah.cellsOf 198=3:=by kernel_rfl);(have c1:ah.cellsOf 3=1:=by kernel_rfl);obtain⟨d,hd⟩:=Jv
 have hl:ah.keyLits (ah.types.size+1) 198 (k3 x).cells.toList=some [.int .i64 x.1,.int .i64 x.2.1,.int .i64 x.2.2]:=by
  rw[hd];have h1:=h.1;have h2:=h.2.1;have h3:=h.2.2
  unfold o8 at h1 h2 h3
  simp[Program.keyLits,Value.cells,k3,underlying198,underlying3,c3,c1,h1,h2,h3]
 unfold nM
 rw[underlying198]
 exact vg
def ZE(x:Int×Int)(h:Ju x):∃l,nM ah 199 (k2 x)=some l:=by
 (have hk:ah.keyType 199=true:=by kernel_rfl);(have hf:(k2 x).formed ah 199=true:=by kernel_rfl);(have c3:ah.cellsOf 199=2:=by kernel_rfl);(have c1:ah.cellsOf 3=1:=by kernel_rfl);obtain⟨d,hd⟩:=Jv
 have hl:ah.keyLits (ah.types.size+1) 199 (k2 x).cells.toList=some [.int .i64 x.1,.int .i64 x.2]:=by
  rw[hd];have h1:=h.1;have h2:=h.2
  unfold o8 at h1 h2
  simp[Program.keyLits,Value.cells,k2,underlying199,underlying3,c3,c1,h1,h2,aA,List.range.loop]
 unfold nM
 rw[underlying199]
 exact vg
def QJ:Ky 196 k3 Ew:=⟨Keyed.of_law Zz,ZB,QH⟩
def QK:Ky 198 k3 Ew:=⟨Keyed.of_law ZA,ZC,QH⟩
def Fc:Ky 199 k2 Ju:=⟨Keyed.of_law QI,ZE,Zx⟩
def vh:Ky 3 G4 o8:=⟨int_keyed underlying3,fun a h=>⟨_,keyOf_int_mk (P:=ah) (q:=.i64) (a:=a) underlying3 h⟩,Zy⟩
def ya(l:List Mp):Int×Int×Int->Bool:=fun x=>l.any (gj x.1 x.2.1 x.2.2)
def Oq(l:List Mp):Int×Int×Int->Bool:=fun x=>l.any (kf x.1 x.2.1 x.2.2)
def fL(q:Int):Int:=(q-1024)/8
def wV(l:List Mp):Int×Int->Int:=fun x=>((l.filter fun m=>m.2.2.2.1==x.1&&fL m.2.2.2.2==x.2).length:Int)
def zl(l:List Mp):Int->Int:=fun s=>(bV l s:Int)
theorem ZF(l:List Mp)(m:Mp):jc (ya l) (m.1,m.2.2.2.1,m.2.2.2.2) true=ya (l++[m]):=by grind [jc,ya,gj]
theorem ZG(l:List Mp)(m:Mp):jc (Oq l) (m.1,m.2.1,m.2.2.1) true=Oq (l++[m]):=by grind [jc,Oq,kf]
theorem ZH(l:List Mp)(m:Mp):jc (wV l) (m.2.2.2.1,fL m.2.2.2.2) (wV l (m.2.2.2.1,fL m.2.2.2.2)+1)=wV (l++[m]):=by grind [jc,wV,fL]
theorem ZI(l:List Mp)(m:Mp):jc (zl l) m.2.1 (zl l m.2.1+1)=zl (l++[m]):=by grind [jc,zl,bV]
theorem ZJ(l:List Mp)(x:Int×Int):0<=wV l x/\wV l x<=l.length:=by grind [wV]
theorem ZK(l:List Mp)(s:Int):0<=zl l s/\zl l s<=l.length:=by grind [zl,bV]
theorem ZL(l:List Mp)(m:Mp):rB l m=(Oq l (m.1,m.2.1,m.2.2.1)||ya l (m.1,m.2.2.2.1,m.2.2.2.2)):=by grind [rB,Oq,ya]
theorem ZM(H:jM f h ms)(j:Nat):jM f h (ms.take j):=by grind [jM]
def jO(f:Nat->Int)(q:Nat):Int->Int:=fun s=>(((aA q).filter fun n=>decide (0<f n)&&f n==s+1).length:Int)
def ZN(f:Nat->Int)(q:Nat)(h:0<f q):jc (jO f q) (f q-1) (jO f q (f q-1)+1)=jO f (q+1):=by
 funext x
 unfold jc jO
 rw[hZ,cO,aY]
 by_cases e:x=f q-1
 .subst e;simp[h]
 .rw[aT e]
  have:(f q==x+1)=false:=by simp;omega
  simp[this]
def ZO(f:Nat->Int)(q:Nat)(h:¬0<f q):jO f (q+1)=jO f q:=by
 funext x
 unfold jO
 rw[hZ,cO,aY]
 simp[h]
theorem ZP(f:Nat->Int)(q:Nat)(s:Int):0<=jO f q s/\jO f q s<=q:=by grind [jO]
theorem Jw(f:Nat->Int)(s:Nat):jO f 18 (s:Int)=(fI f s).length:=by grind [jO,fI]
def Jx(f:Nat->Int)(ms:List Mp)(q:Nat):Prop:=(0<f q↔0<wV ms ((q/6:Nat),(q%6:Nat)))
def QL(f h:Nat->Int)(ms:List Mp)(s:Nat):Prop:=jO f 18 s<=2/\zl ms s<=12/\(h s=0↔jO f 18 s=0)
theorem Jy(H:jM f h ms)(q:Nat)(hq:q<18):0<wV ms ((q/6:Nat),(q%6:Nat))↔∃m∈ms,eu m=q:=by
 unfold wV
 have e:(0:Int)<((ms.filter fun m=>m.2.2.2.1==((q/6:Nat):Int)&&fL m.2.2.2.2==((q%6:Nat):Int)).length:Int)↔∃m∈ms,(m.2.2.2.1==((q/6:Nat):Int)&&fL m.2.2.2.2==((q%6:Nat):Int))=true:=by
  simp
 rw[e]
 refine exists_congr fun m=>and_congr_right fun hm=>?_
 have st:=H.1 m hm;have h5:=st.2.2.2.2.1;have h4:=st.2.2.2.1
 grind [eu,nP,fL]
def QM:gM f h ms↔iX f=true/\jM f h ms/\(∀q,q<18->Jx f ms q)/\∀s:Nat,s<8->QL f h ms s:=by
 constructor
 .intro G
  refine⟨G.iP,G.maps,fun q hq=>?_,fun s hs=>?_⟩
  .unfold Jx
   rw[Jy G.maps q hq];have hp:=GN G.iP q hq
   constructor
   .intro h0;exact G.own q hq om
   .rintro⟨m,hm,rfl⟩
    have st:=G.maps.1 m hm
    have:=st.2.2.2.2.2.2
    have h2:=st.2.1
    show 0<f (nP _ _)
    omega
  .unfold QL
   rw[Jw];have hf:=G.few s hs
   refine⟨by omega,by unfold zl;omega,?_⟩
   have key:(fI f s).length=0↔∀m∈ms,m.2.1.toNat≠s:=by
    rw[List.length_eq_zero_iff,List.eq_nil_iff_forall_not_mem]
    constructor
    .intro hn m hm e;have st:=G.maps.1 m hm
     refine hn (eu m) ((za _ _ _).2 ⟨st.lt,?_⟩)
     have:=st.2.2.2.2.2.2
     have h2:=st.2.1
     show f (nP _ _)=_
     omega
    .intro hn q hq;obtain⟨zn,ZQ⟩:=(za _ _ _).1 hq;obtain⟨m,hm,e⟩:=G.own q zn om;have st:=G.maps.1 m hm;have h7:=st.2.2.2.2.2.2;have h2:=st.2.1;refine hn m hm ?_;(have e2:f q=m.2.1+1:=by rw[←e];exact h7)
     omega
   constructor
   .intro h0
    have:(fI f s).length=0:=key.2 (fun m hm e=>by
     have st:=G.maps.1 m hm;have h6:=st.2.2.2.2.2.1;have h5:=st.2.2.2.2.1
     rw[e,h0] at h6
     omega)
    omega
   .intro h0
    by_cases hh:h s=0
    .exact hh
    .obtain⟨m,hm,e⟩:=G.home s hs hh
     exact absurd e (key.1 om m hm)
 .rintro⟨h1,h2,h3,h4⟩
  refine⟨h1,h2,fun q hq h0=>?_,fun s hs h0=>?_,fun s hs=>?_⟩
  .have hp:=GN h1 q hq
   exact(Jy h2 q hq).1 ((h3 q hq).1 om)
  .obtain⟨_,_,hz⟩:=h4 s hs
   rw[Jw] at hz
   have:(fI f s).length≠0:=fun e=>h0 (hz.2 om)
   obtain⟨q,hq⟩:=List.exists_mem_of_length_pos (Nat.pos_of_ne_zero this);obtain⟨zn,ZQ⟩:=(za _ _ _).1 hq;obtain⟨m,hm,e⟩:=(Jy h2 q zn).1 ((h3 q zn).1 om);have st:=h2.1 m hm;have h7:=st.2.2.2.2.2.2;have hb:=st.2.1
   refine⟨m,hm,?_⟩
   (have e2:f q=m.2.1+1:=by rw[←e];exact h7)
   omega
  .obtain⟨g1,g2,_⟩:=h4 s hs
   rw[Jw] at g1
   unfold zl at g2
   omega
def Bd.one(h:Bd w W L Ms)(i:Nat)(hi:L[i]?=some y):Bd w W [y] []:=
 ⟨by simp,fun z hz=>by obtain rfl:=List.mem_singleton.1 hz;exact h.rows _ (aH hi),by simp,h.base⟩
def ZR{m:Nat}(h:wrap64 ((m:Int)+1)=(m:Int)+1):Value.int .i64 (wrap64 ((m:Int)+1))=I Z ((m+1:Nat):Int):=by rw[h];simp
def ZT{p:Prop}(h:p):Hid p:=h
def yb(q:Int)(w:af)(h:1024<=q/\q<1072):az ah 54 #[I Z q] w fun e w'=>e=.returned (.tuple #[I Z (fL q),I Z ((q-1024)%8),.bool true])/\w'=w:=by
 (have g1:¬q<1024:=by omega);(have g2:¬1071<q:=by omega)
 go_enter func54,ntmps54
 go_wp2
 refine aL (v:=.tuple #[I Z (fL q),I Z ((q-1024)%8),.bool true]) (by simp[results,results54,go_sem,fL]) rfl ⟨rfl,rfl⟩
def AB{p:Prop}(h:p:=by
 go_enter func114,ntmps114
 go_wp2
 go_ret
 exact⟨rfl,rfl⟩):p:=h
def QN(p:Int)(w:af):az ah 114 #[I Z p] w fun e w'=>e=.returned (.bool (uU p))/\w'=w:=by
 unfold uU
 by_cases h1:p=1
 .subst h1
  exact AB
 ·(have g1:(p==1)=false:=by simpa using h1)
  by_cases h2:p=6
  .subst h2
   clear h1
   exact AB
  ·(have g2:(p==6)=false:=by simpa using h2)
   obtain⟨r,hr⟩:∃r,(p==17)=r:=⟨_,rfl⟩
   rw[g1,g2,hr];clear h1 h2
   cases r
   all_goals
    go_enter func114,ntmps114
    go_wp2
    go_ret
    exact⟨rfl,rfl⟩
def nX{p:Prop}(h:p:=by
 go_roundw
 case rel=>first|exact⟨j+1,by omega,ZR fU,HF.out,B.one 1 rfl⟩
 case measure=>(rw[fU]);exact Aj (HN.out.symm▸cz)):p:=h
def AD{p:Prop}(h:p:=by
 (have mA:¬(j:Int)<(n:Int):=by have:=HN.out;omega);clear e hno hj cz
 go_wp2_with (refine gS 72 8 37 ?_;refine sx (mc fW) (B.row 0 rfl) ?_;intro w9 R9 t9;replace B:=B.turn 0 rfl R9 t9;clear R9 t9)
 (refine bodyPost_ret (uD rfl _ _ _ _ rfl (B.row 0 rfl) _ underlying72 rfl (lS _)) rfl ⟨?_,B.base⟩)
 rw[HF.out];rfl):p:=h
def ZU(f:Nat->Int)(g:Nat->Bool)(h:Nat->Int)(sl:ag)(ms:List Mp)(x y z:Int)(w:af)(hM:cE w sl ms):
  az ah 115 #[.agg (tc f g h sl),I Z x,I Z y,I Z z] w fun e w'=>e=.returned (sZ (ms.find? (kf x y z)))/\Below w.heap.size w w':=by
 have B:=Bd.start w;have fh:=hM
 obtain⟨a0,cap,dB,-⟩:=fh
 obtain⟨n,hn⟩:∃n,n=ms.length:=⟨_,rfl⟩
 rw[←hn] at dB
 subst dB
 refine xS ?_;clear hn;intro HN hlt
 go_enter func115,ntmps115
 go_wp2_with (first|(refine gB 42 0 ?_;refine G3 ?_;intro b4 w9 l9 R9 h9;replace B:=B.alloc l9 R9 h9;clear R9 h9 l9)|(refine gA 72 ?_;refine m5y ?_;clear B;intro b8 w9 B cM))
 clear cM
 go_loopw [15] (fun i W=>∃j:Nat,j<=ms.length/\i=I Z (j:Int)/\(ms.take j).find? (kf x y z)=none/\Bd w W [(b8,72,mc fW)] []) (fun i _=>n-(intOf i).toNat)
 case atStart=>exact⟨0,by omega,rfl,by simp,B.one 0 rfl⟩
 case round=>
  clear B
  obtain⟨j,hj,rfl,hno,B⟩:=hrel
  by_cases cz:j<ms.length
  .refine E0 ?_;intro mA fU
   obtain⟨m,hm⟩:∃m,ms[j]=m:=⟨_,rfl⟩
   have iv:=hM.keep B.base hlt;have hrg:=iv.at j cz hm
   by_cases dR:kf x y z m=true
   .have HF:Hid (ms.find? (kf x y z)=some m):=UX hno cz hm dR;obtain⟨e1,e2,e3⟩:=(XZ _ _ _ _).1 dR;(have g1:(m.2.1==y)=true:=by simpa using e2);(have g2:(m.2.2.1==z)=true:=by simpa using e3);(have g3:(m.1==x)=true:=by simpa using e1);clear e1 e2 e3 dR
    go_wp2_with (first|(refine qU rfl (.tmp 13) (.tmp 15) rfl (.slice a0 n cap) ms iv rfl j rfl cz ?_)|(refine gL 72 17 ?_;refine wK ?_)|(refine gA 72 ?_;refine G6 ?_;clear B;intro ja w9 B)|(refine gS 72 11 18 ?_;refine G7 ?_;clear B;intro w9 B)|(refine gL 3 19 ?_;refine fx (B.row 0 rfl) (m.2.1) ?_)|(refine gL 3 24 ?_;refine fx (B.row 0 rfl) (m.2.2.1) ?_)|(refine gL 3 30 ?_;refine fx (B.row 0 rfl) (m.1) ?_)|(refine gL 72 11 ?_;refine lx 72 (.tmp 11) (mc m) (B.row 0 rfl) ?_)|(refine gS 72 8 35 ?_;refine sx (mc m) (B.row 1 rfl) ?_;intro w9 R9 t9;replace B:=B.turn 1 rfl R9 t9;clear R9 t9))
    (refine aL (uD rfl _ _ _ _ rfl (B.row 1 rfl) _ underlying72 rfl (lS _)) rfl ⟨?_,B.base⟩)
    rw[HF.out];rfl
   ·(have lr:kf x y z m=false:=by simpa using dR);have HF:Hid ((ms.take (j+1)).find? (kf x y z)=none):=UW hno cz hm lr
    by_cases c1:m.2.1=y
    ·(have g1:(m.2.1==y)=true:=by simpa using c1)
     by_cases c2:m.2.2.1=z
     ·(have g2:(m.2.2.1==z)=true:=by simpa using c2)
      have g3:(m.1==x)=false:=by
       cases hq:(m.1==x) with
       | false=>rfl
       | true=>exact absurd ((XZ _ _ _ _).2 (by have:=eq_of_beq hq;exact⟨this,c1,c2⟩)) dR
      clear c1 c2 dR lr
      go_wp2_with (first|(refine qU rfl (.tmp 13) (.tmp 15) rfl (.slice a0 n cap) ms iv rfl j rfl cz ?_)|(refine gL 72 17 ?_;refine wK ?_)|(refine gA 72 ?_;refine G6 ?_;clear B;intro ja w9 B)|(refine gS 72 11 18 ?_;refine G7 ?_;clear B;intro w9 B)|(refine gL 3 19 ?_;refine fx (B.row 0 rfl) (m.2.1) ?_)|(refine gL 3 24 ?_;refine fx (B.row 0 rfl) (m.2.2.1) ?_)|(refine gL 3 30 ?_;refine fx (B.row 0 rfl) (m.1) ?_) )
      exact nX
     ·(have g2:(m.2.2.1==z)=false:=by simpa using c2);clear c1 c2 dR lr
      go_wp2_with (first|(refine qU rfl (.tmp 13) (.tmp 15) rfl (.slice a0 n cap) ms iv rfl j rfl cz ?_)|(refine gL 72 17 ?_;refine wK ?_)|(refine gA 72 ?_;refine G6 ?_;clear B;intro ja w9 B)|(refine gS 72 11 18 ?_;refine G7 ?_;clear B;intro w9 B)|(refine gL 3 19 ?_;refine fx (B.row 0 rfl) (m.2.1) ?_)|(refine gL 3 24 ?_;refine fx (B.row 0 rfl) (m.2.2.1) ?_) )
      exact nX
    ·(have g1:(m.2.1==y)=false:=by simpa using c1);clear c1 dR lr
     go_wp2_with (first|(refine qU rfl (.tmp 13) (.tmp 15) rfl (.slice a0 n cap) ms iv rfl j rfl cz ?_)|(refine gL 72 17 ?_;refine wK ?_)|(refine gA 72 ?_;refine G6 ?_;clear B;intro ja w9 B)|(refine gS 72 11 18 ?_;refine G7 ?_;clear B;intro w9 B)|(refine gL 3 19 ?_;refine fx (B.row 0 rfl) (m.2.1) ?_) )
     exact nX
  ·(have e:j=ms.length:=by omega)
   have HF:Hid (ms.find? (kf x y z)=none):=by
    show _=_
    rw[e,bn] at hno;exact hno
   exact AD
def Jz(f:Nat->Int)(g:Nat->Bool)(h:Nat->Int)(sl:ag)(ms:List Mp)(x y z:Int)(w:af)(hM:cE w sl ms):
  az ah 60 #[.agg (tc f g h sl),I Z x,I Z y,I Z z] w fun e w'=>e=.returned (sZ (ms.find? (gj x y z)))/\Below w.heap.size w w':=by
 have B:=Bd.start w;have fh:=hM
 obtain⟨a0,cap,dB,-⟩:=fh
 obtain⟨n,hn⟩:∃n,n=ms.length:=⟨_,rfl⟩
 rw[←hn] at dB
 subst dB
 refine xS ?_;clear hn;intro HN hlt
 go_enter func60,ntmps60
 go_wp2_with (first|(refine gB 42 0 ?_;refine G3 ?_;intro b4 w9 l9 R9 h9;replace B:=B.alloc l9 R9 h9;clear R9 h9 l9)|(refine gA 72 ?_;refine m5y ?_;clear B;intro b8 w9 B cM))
 clear cM
 go_loopw [15] (fun i W=>∃j:Nat,j<=ms.length/\i=I Z (j:Int)/\(ms.take j).find? (gj x y z)=none/\Bd w W [(b8,72,mc fW)] []) (fun i _=>n-(intOf i).toNat)
 case atStart=>exact⟨0,by omega,rfl,by simp,B.one 0 rfl⟩
 case round=>
  clear B
  obtain⟨j,hj,rfl,hno,B⟩:=hrel
  by_cases cz:j<ms.length
  .refine E0 ?_;intro mA fU
   obtain⟨m,hm⟩:∃m,ms[j]=m:=⟨_,rfl⟩
   have iv:=hM.keep B.base hlt;have hrg:=iv.at j cz hm
   by_cases dR:gj x y z m=true
   .have HF:Hid (ms.find? (gj x y z)=some m):=UX hno cz hm dR;obtain⟨e1,e2,e3⟩:=(X0 _ _ _ _).1 dR;(have g1:(m.2.2.2.2==z)=true:=by simpa using e3);(have g2:(m.2.2.2.1==y)=true:=by simpa using e2);(have g3:(m.1==x)=true:=by simpa using e1);clear e1 e2 e3 dR
    go_wp2_with (first|(refine qU rfl (.tmp 13) (.tmp 15) rfl (.slice a0 n cap) ms iv rfl j rfl cz ?_)|(refine gL 72 17 ?_;refine wK ?_)|(refine gA 72 ?_;refine G6 ?_;clear B;intro ja w9 B)|(refine gS 72 11 18 ?_;refine G7 ?_;clear B;intro w9 B)|(refine gL 3 19 ?_;refine fx (B.row 0 rfl) (m.2.2.2.2) ?_)|(refine gL 3 24 ?_;refine fx (B.row 0 rfl) (m.2.2.2.1) ?_)|(refine gL 3 30 ?_;refine fx (B.row 0 rfl) (m.1) ?_)|(refine gL 72 11 ?_;refine lx 72 (.tmp 11) (mc m) (B.row 0 rfl) ?_)|(refine gS 72 8 35 ?_;refine sx (mc m) (B.row 1 rfl) ?_;intro w9 R9 t9;replace B:=B.turn 1 rfl R9 t9;clear R9 t9))
    (refine aL (uD rfl _ _ _ _ rfl (B.row 1 rfl) _ underlying72 rfl (lS _)) rfl ⟨?_,B.base⟩)
    rw[HF.out];rfl
   ·(have lr:gj x y z m=false:=by simpa using dR);have HF:Hid ((ms.take (j+1)).find? (gj x y z)=none):=UW hno cz hm lr
    by_cases c1:m.2.2.2.2=z
    ·(have g1:(m.2.2.2.2==z)=true:=by simpa using c1)
     by_cases c2:m.2.2.2.1=y
     ·(have g2:(m.2.2.2.1==y)=true:=by simpa using c2)
      have g3:(m.1==x)=false:=by
       cases hq:(m.1==x) with
       | false=>rfl
       | true=>exact absurd ((X0 _ _ _ _).2 (by have:=eq_of_beq hq;exact⟨this,c2,c1⟩)) dR
      clear c1 c2 dR lr
      go_wp2_with (first|(refine qU rfl (.tmp 13) (.tmp 15) rfl (.slice a0 n cap) ms iv rfl j rfl cz ?_)|(refine gL 72 17 ?_;refine wK ?_)|(refine gA 72 ?_;refine G6 ?_;clear B;intro ja w9 B)|(refine gS 72 11 18 ?_;refine G7 ?_;clear B;intro w9 B)|(refine gL 3 19 ?_;refine fx (B.row 0 rfl) (m.2.2.2.2) ?_)|(refine gL 3 24 ?_;refine fx (B.row 0 rfl) (m.2.2.2.1) ?_)|(refine gL 3 30 ?_;refine fx (B.row 0 rfl) (m.1) ?_) )
      exact nX
     ·(have g2:(m.2.2.2.1==y)=false:=by simpa using c2);clear c1 c2 dR lr
      go_wp2_with (first|(refine qU rfl (.tmp 13) (.tmp 15) rfl (.slice a0 n cap) ms iv rfl j rfl cz ?_)|(refine gL 72 17 ?_;refine wK ?_)|(refine gA 72 ?_;refine G6 ?_;clear B;intro ja w9 B)|(refine gS 72 11 18 ?_;refine G7 ?_;clear B;intro w9 B)|(refine gL 3 19 ?_;refine fx (B.row 0 rfl) (m.2.2.2.2) ?_)|(refine gL 3 24 ?_;refine fx (B.row 0 rfl) (m.2.2.2.1) ?_) )
      exact nX
    ·(have g1:(m.2.2.2.2==z)=false:=by simpa using c1);clear c1 dR lr
     go_wp2_with (first|(refine qU rfl (.tmp 13) (.tmp 15) rfl (.slice a0 n cap) ms iv rfl j rfl cz ?_)|(refine gL 72 17 ?_;refine wK ?_)|(refine gA 72 ?_;refine G6 ?_;clear B;intro ja w9 B)|(refine gS 72 11 18 ?_;refine G7 ?_;clear B;intro w9 B)|(refine gL 3 19 ?_;refine fx (B.row 0 rfl) (m.2.2.2.2) ?_) )
     exact nX
  ·(have e:j=ms.length:=by omega)
   have HF:Hid (ms.find? (gj x y z)=none):=by
    show _=_
    rw[e,bn] at hno;exact hno
   exact AD
def ZV(t:bt)(hgd:o.guard=none)(ho:o.op=.makeMap t none)(hr:∀b,b=w.heap.size->aM ah ops Q rest (a.put o.dst (.map (some b))) (w.alloc (.map #[] 0))):aM ah ops Q (o::rest) a w:=
 bP hgd fun K hK=>by
  have hm:=@run_makeMap ah t w
  unfold Oper.wp bG
  simp only[ho,Option.map_none,bB,hm,bF,bH]
  exact hK _ _ (hr _ rfl)
def ZW{S:af->Prop}(t:bt)(m x:aU)(ho:o.op=.lookup t m x false)(hw:Region.wanted o (yielded ops a.tmps)=true)(mv kv v:ag)(hm:a.eval m=mv)(hx:a.eval x=kv)(hS:∀w,S w->(fP t mv kv false).run ah w=.ok v w):YieldsIf ah ops S o v a:=
 .inl ⟨hw,fun w h=>by unfold bG;simp only[ho,hm,hx,bB,hS w h,bF,bH]⟩
def QO(b o l:Nat)(h:l<8)(w:af):(Instr.indexAt 39 (V (some ⟨b,o,none⟩)) (I Z (l:Int))).run ah w=.ok (V (some ⟨b,o+l,none⟩)) w:=by
 (have hs:(sizeOf 3).run ah w=.ok 1 w:=by kernel_rfl);(have h1:(l:Int)<8:=by omega)
 simp[go_sem,underlying39,h1,h,hs]
def no3:Array ag:=#[I Z 0,I Z 0,I Z 0]
def QP(w:af):(eM 196).run ah w=.ok (.agg no3) w:=by kernel_rfl
def QQ(w:af):(eM 198).run ah w=.ok (.agg no3) w:=by kernel_rfl
end
structure Bo(w W:af)(L:List (Nat×bt×Array ag))(v:ag)(D:List Mp):Prop where
 bd:Bd w W L []
 own:W.ownsRow w.heap.size 72 5 v D.length (eF D)
 off:∀b∈L.map (·.1),v.ownBlock≠some b
section
variable {w W W':World} {L:List (Nat×TypeId×Array Value)} {v:Value} {D:List Mp}
def Bo.row(h:Bo w W L v D)(i:Nat)(hi:L[i]?=some (b,t,cs)):aP t W b cs:=h.bd.row i hi
def Bo.base(h:Bo w W L v D):Below w.heap.size w W:=h.bd.base
def Bo.below(h:Bo w W L v D)(hb:Below W.heap.size W W'):Bo w W' L v D:=⟨h.bd.below hb,Vl h.own hb,h.off⟩
def Bo.alloc(h:Bo w W L v D)(hl:W.heap.size<=b)(R:aP t W' b cs)(hb:Below W.heap.size W W'):Bo w W' ((b,t,cs)::L) v D:=
 ⟨h.bd.alloc hl R hb,Vl h.own hb,fun c hc=>by
  rw[aB] at hc
  rcases List.mem_cons.1 hc with rfl|hc
  .exact YX h.own hl
  .exact h.off c hc⟩
def Bo.turn(h:Bo w W L v D)(i:Nat){cs':Array ag}(hi:L[i]?=some (b,t,cs))(R:aP t W' b cs')(T:gG b W W'):Bo w W' (L.set i (b,t,cs')) v D:=by
 have hb:b∈L.map (·.1):=bQ.2 ⟨_,aH hi,rfl⟩
 refine⟨h.bd.turn i hi R T,YW h.own T (h.off b hb),fun c hc=>?_⟩
 rw[List.map_set] at hc
 rcases List.mem_or_eq_of_mem_set hc with hc|rfl
 .exact h.off c hc
 .exact h.off _ hb
def Bo.tail(h:Bo w W (y::L) v D):Bo w W L v D:=
 ⟨⟨(lY.1 (by simpa using h.bd.nodup)).2,fun z hz=>h.bd.rows z (eK _ hz),by simp,h.bd.base⟩,h.own,fun b hb=>h.off b (by rw[aB];exact eK _ hb)⟩
theorem Bo.push(h:Bo w W L v D){ob:Obj}{v4:ag}{w8:af}(h4:w8.ownsRow w.heap.size 72 5 v4 (D.length+1) (eF D++jn m))(hg:(W.alloc ob).grownBy w8 v.ownBlock)(hloc:v4.ownBlock=v.ownBlock\/v4.ownBlock=some (W.alloc ob).heap.size):Bo w w8 L v4 (D++[m]):=by
 (have hsz:w.heap.size<=(W.alloc ob).heap.size:=by have:=h.base.size;simp;omega)
 refine⟨⟨h.bd.nodup,fun y hy=>⟨q0k ((h.bd.rows y hy).1.alloc ob) (h.off _ (bQ.2 ⟨y,hy,rfl⟩)) hg,(h.bd.rows y hy).2⟩,by simp,Qd (h.own.alloc _) (h.base.alloc h.base.size _) hsz hg⟩,?_,fun b hb=>?_⟩
 .grind [eF]
 .rcases hloc with e|e
  .rw[e];exact h.off b hb
  .rw[e];intro e2;have h1:=h.bd.lt hb;have h2:=bC e2;simp at h2;omega
end
def rL(l:List Mp)(m:Mp)(kb:Int):Nat:=(l.filter fun o=>o.2.2.2.1==m.2.2.2.1&&fL o.2.2.2.2==kb).length
theorem ZX(l:List Mp)(m o:Mp)(kb:Int):rL (l++[o]) m kb=rL l m kb+if (o.2.2.2.1==m.2.2.2.1&&fL o.2.2.2.2==kb)=true then 1 else 0:=by grind [rL,fL]
def ZY(l:List Mp)(m:Mp)(kb:Int):rL l m kb<=l.length:=List.length_filter_le _ _
def Z0{o:Mp}(cz:j<ms.length)(hm:ms[j]=o):decide (m∈ms.take (j+1))=(decide (m∈ms.take j)||decide (o=m)):=by
 rw[Og cz hm];simp[eq_comm]
section
open Go.Maps
def QR(h:uU p=true):o8 p:=by
 rcases(P6 p).1 h with rfl|rfl|rfl<;>(unfold o8;decide)
def QS(t:bt)(m x v:aU)(ho:o.op=.mapUpdate t m x v)(mv kv vv:ag)(hm:a.eval m=mv)(hx:a.eval x=kv)(hv:a.eval v=vv)(hr:(gp t mv kv vv).run ah w=.ok () w')(hK:K (a.put o.dst undef) w'):o.wp ah a w K Q:=by
 unfold Oper.wp
 simp[bG,ho,hm,hx,hv,hr,eN]
 exact hK
def Z7(t:bt)(m x:aU)(ho:o.op=.lookup t m x false)(mv kv v:ag)(hm:a.eval m=mv)(hx:a.eval x=kv)(hr:(fP t mv kv false).run ah w=.ok v w)(hK:K (a.put o.dst v) w):o.wp ah a w K Q:=by
 unfold Oper.wp
 simp[bG,ho,hm,hx,hr,eN]
 exact hK
def Z8(hgd:o.guard=none)(t:bt)(m x:aU)(ho:o.op=.lookup t m x false)(mv kv v:ag)(hm:a.eval m=mv)(hx:a.eval x=kv)(hr:(fP t mv kv false).run ah w=.ok v w)(hK:aM ah ops Q rest (a.put o.dst v) w):aM ah ops Q (o::rest) a w:=
 bP hgd fun K hK'=>Z7 t m x ho mv kv v hm hx hr (hK' _ _ hK)
def Z9(t:bt)(m x:aU)(ho:o.op=.mapEntry t m x)(mv kv v:ag)(hm:a.eval m=mv)(hx:a.eval x=kv)(hr:(i9 t mv kv).run ah w=.ok v w')(hK:K (a.put o.dst v) w'):o.wp ah a w K Q:=by
 unfold Oper.wp
 simp[bG,ho,hm,hx,hr,eN]
 exact hK
def qaA(t:bt)(m x v:aU)(ho:o.op=.entryStore t m x v)(mv kv vv:ag)(hm:a.eval m=mv)(hx:a.eval x=kv)(hv:a.eval v=vv)(hr:(Instr.entryStore t mv kv vv).run ah w=.ok () w')(hK:K (a.put o.dst undef) w'):o.wp ah a w K Q:=by
 unfold Oper.wp
 simp[bG,ho,hm,hx,hv,hr,eN]
 exact hK
def QT(h:-9223372036854775808<=x/\x<=9223372036854775807):IntKind.i64.wrap x=x:=by rw[IntKind.wrap_i64];omega
theorem qaB{sN kN:Nat}(hk:fL q=(kN:Int)):eu (p,(sN:Int),i,(aN:Int),q)=6*aN+kN:=by grind [eu,nP,fL]
def QU(h:0<=x/\x<=8):wrap64 (x-1)=x-1/\o8 (x-1):=⟨by unfold wrap64;omega,oN om⟩
def QV(hg:w.grownBy w' none):Below w.heap.size w w':=⟨hg.os,hg.tape,hg.output,hg.size,fun k hk=>hg.block k hk zm⟩
end
def qaC:ah.built 72 []=some (mc fW):=by kernel_rfl
def Fe(hgd:o.guard=none)(ho:o.op=.build 72 #[])(hr:aM ah ops Q rest (a.put o.dst (.agg (mc fW))) w):aM ah ops Q (o::rest) a w:=
 bP hgd fun K hK=>by
  have hb:=run_build (P:=ah) w 72 #[] _ qaC
  unfold Oper.wp bG
  simp only[ho,dx,aI,bB,hb,bF,bH]
  exact hK _ _ hr
theorem qaD(x y z u v:Int)(w:af):(Instr.build 72 #[(0,I Z x),(1,I Z y),(2,I Z z),(3,I Z u),(4,I Z v)]).run ah w=.ok (.agg (mc (x,y,z,u,v))) w:=by kernel_rfl
def qaE(hgd:o.guard=none)(p q r s t:aU)(ho:o.op=.build 72 #[(0,p),(1,q),(2,r),(3,s),(4,t)])(x y z u v:Int)(h1:a.eval p=I Z x)(h2:a.eval q=I Z y)(h3:a.eval r=I Z z)(h4:a.eval s=I Z u)(h5:a.eval t=I Z v)(hr:aM ah ops Q rest (a.put o.dst (.agg (mc (x,y,z,u,v)))) w):aM ah ops Q (o::rest) a w:=
 bP hgd fun K hK=>by
  unfold Oper.wp bG
  simp only[ho,dx,aB,aI,h1,h2,h3,h4,h5,bB,qaD,bF,bH]
  exact hK _ _ hr
theorem Bd.AE{w2:af}{D:List Mp}(h:Bd w W L [])(hown:w2.ownsRow W.heap.size 72 5 v D.length (eF D))(hb:Below W.heap.size W w2):Bo w w2 L v D:=by
 refine⟨h.below hb,⟨hown.1,?_⟩,fun b Fb=>?_⟩
 .rcases hown.2 with e|⟨b,cap,cur,hv,fj,r⟩
  .grind
  .exact .inr ⟨b,cap,cur,hv,Nat.le_trans h.base.size fj,r⟩
 .rcases hown.2 with⟨e,_⟩|⟨b',cap,cur,hv,fj,r⟩
  .rw[e];simp[Value.ownBlock]
  .rw[hv];intro e2;have e3:b'=b:=bC e2
   have:=h.lt Fb
   omega
def Bd.tail(h:Bd w W (y::L) Ms):Bd w W L Ms:=
 ⟨(lY.1 (by simpa using h.nodup)).2,fun z hz=>h.rows z (eK _ hz),fun q hq=>⟨(h.maps q hq).1,fun b hb=>(h.maps q hq).2 b (by rw[aB];exact eK _ hb)⟩,h.base⟩
def Bo.drew{D:List Mp}(h:Bo w W L v D):Bo w W.drew L v D:=h.below (Below.refl _ _).drew
def qaF(f:Nat->Int)(g:Nat->Bool)(h:Nat->Int)(sl:ag)(ms:List Mp)(hno:jw sl)(nV:ms.length<=3518437208883)(w:af)(hM:cE w sl ms):
  az ah 116 #[.agg (tc f g h sl)] w fun e w'=>∃v,e=.returned (.agg (tc f g h v))/\w'.ownsRow w.heap.size 72 5 v ms.length (eF ms)/\Below w.heap.size w w':=by
 have B:=Bd.start w;obtain⟨i0,hi,hz0,hz1,hz2⟩:=info_parts Oi;have fh:=hM
 obtain⟨a0,cap,dB,ha0,-⟩:=fh
 obtain⟨n,hn⟩:∃n,n=ms.length:=⟨_,rfl⟩
 have HN:Hid (n=ms.length):=hn
 rw[←hn] at dB
 have hlt:=hM.lt;have QW:Hid (ms.length<=140737488355328):=hM.len;have zo:Hid (n<=3518437208883):=ZT (by rw[hn];exact nV);clear nV
 cases a0 with
 | none=>
  obtain rfl:cap=0:=hno _ _ dB
  have n0:ms.length=0:=by
   by_cases h:0<ms.length
   .have:=ha0 h;simp at this
   .omega
  have uF:ms=[]:=List.eq_nil_of_length_eq_zero n0
  obtain rfl:n=0:=hn.trans n0
  subst dB uF
  clear ha0 hn n0 QW zo hno hlt hM HN
  go_enter func116,ntmps116
  go_wp2_with (first|(refine gB 42 0 ?_;refine G3 ?_;intro b1 w9 l9 R9 h9;replace B:=B.alloc l9 R9 h9;clear R9 h9 l9)|(refine gA 42 ?_;refine Vs ?_;clear B;intro b2 w9 B;have cM:cS _ ⟨b1,29,none⟩=some (.slice (some ad) n cap):=((B.row 1 rfl).cell 29).trans (ma _ _ _ _))|((with_reducible refine iE (.call { callee:=.builtin .append,args:=#[.const (.slice none 0 0),.tmp 4],argTypes:=#[40,40] }) rfl ?_);refine m22 ?_;intro v2 w2 hown2 hg2 Ji;clear Ji cM;simp only[Nat.zero_add,jh] at hown2;rw[HN.out] at hown2;replace B:=B.AE hown2 (QV hg2);obtain⟨av,cv,QX⟩:=wO hown2;clear hown2 hg2;rw[←HN.out] at QX;subst QX)|(refine gS 40 6 5 ?_;refine m6c ?_;clear B;intro w9 B)|(refine gL 42 1 ?_;refine lx 42 (.tmp 1) (tc f g h (.slice av n cv)) (B.row 1 rfl) ?_)|(refine gS 42 2 7 ?_;refine m4r ?_;clear B;intro w9 B)|(refine gA 42 ?_;refine Vs ?_;clear B;intro b2 w9 B;have cM:cS _ ⟨b1,29,none⟩=some (.slice none 0 0):=((B.row 1 rfl).cell 29).trans (ma _ _ _ _))|((with_reducible refine iE (.call { callee:=.builtin .append,args:=#[.const (.slice none 0 0),.tmp 4],argTypes:=#[40,40] }) rfl ?_);refine m3m ?_;clear cM)|(refine gS 40 6 5 ?_;refine m6a ?_;clear B;intro w9 B)|(refine gL 42 1 ?_;refine lx 42 (.tmp 1) (tc f g h (.slice none 0 0)) (B.row 1 rfl) ?_)|(refine gS 42 2 7 ?_;refine m4p ?_;clear B;intro w9 B))
  exact aL (mW rfl _ _ b2 _ rfl (B.row 0 rfl) _ underlying42 rfl (oD _ _ _ _)) rfl ⟨_,rfl,by simpa[eF] using World.ownsRow_nil _ _ _ _,B.base⟩
 | some ad=>
  have src:∀ {W:af},Below w.heap.size w W->∀k u,(eF ms)[k]?=some u->W.cell? (ad.add k)=some u:=by
   intro W hb k u hu;refine U8 ?_;intro hk;have had:ad=⟨mb sl,mo sl,none⟩:=bC (ha0 om);rw[had,Addr.add_lit]
   refine Yu (fun j hj=>?_) k u hu
   exact(hM.keep hb hlt).at j hj rfl
  subst dB
  clear ha0 hn hno
  go_enter func116,ntmps116
  go_wp2_with (first|(refine gB 42 0 ?_;refine G3 ?_;intro b1 w9 l9 R9 h9;replace B:=B.alloc l9 R9 h9;clear R9 h9 l9)|(refine gA 42 ?_;refine Vs ?_;clear B;intro b2 w9 B;have cM:cS _ ⟨b1,29,none⟩=some (.slice (some ad) n cap):=((B.row 1 rfl).cell 29).trans (ma _ _ _ _))|((with_reducible refine iE (.call { callee:=.builtin .append,args:=#[.const (.slice none 0 0),.tmp 4],argTypes:=#[40,40] }) rfl ?_);refine m22 ?_;intro v2 w2 hown2 hg2 Ji;clear Ji cM;simp only[Nat.zero_add,jh] at hown2;rw[HN.out] at hown2;replace B:=B.AE hown2 (QV hg2);obtain⟨av,cv,QX⟩:=wO hown2;clear hown2 hg2;rw[←HN.out] at QX;subst QX)|(refine gS 40 6 5 ?_;refine m6c ?_;clear B;intro w9 B)|(refine gL 42 1 ?_;refine lx 42 (.tmp 1) (tc f g h (.slice av n cv)) (B.row 1 rfl) ?_)|(refine gS 42 2 7 ?_;refine m4r ?_;clear B;intro w9 B)|(refine gA 42 ?_;refine Vs ?_;clear B;intro b2 w9 B;have cM:cS _ ⟨b1,29,none⟩=some (.slice none 0 0):=((B.row 1 rfl).cell 29).trans (ma _ _ _ _))|((with_reducible refine iE (.call { callee:=.builtin .append,args:=#[.const (.slice none 0 0),.tmp 4],argTypes:=#[40,40] }) rfl ?_);refine m3m ?_;clear cM)|(refine gS 40 6 5 ?_;refine m6a ?_;clear B;intro w9 B)|(refine gL 42 1 ?_;refine lx 42 (.tmp 1) (tc f g h (.slice none 0 0)) (B.row 1 rfl) ?_)|(refine gS 42 2 7 ?_;refine m4p ?_;clear B;intro w9 B))
  refine aL (mW rfl _ _ b2 _ rfl (B.row 0 rfl) _ underlying42 rfl (oD _ _ _ _)) rfl ⟨_,rfl,B.own,B.base⟩
theorem qaG(G:gM f h ms)(hs:0<=s/\s<8)(ha:h s.toNat=(aN:Int)+1)(hf:(aA 48).find? (wU f ms p s aN)=some j):fg f g h ms p s d=⟨f,h,1024+(j:Int),false,0⟩:=by
 (have wN:aN<3:=by have:=G.mH hs;omega);have hu:=Jr ms p wN (s:=s) (fun n hn=>by have:=G.at hs hn;omega)
 rw[hf] at hu
 rw[X4 hu]
 grind [oC]
theorem qaH(G:gM f h ms)(hs:0<=s/\s<8)(ha:h s.toNat=(aN:Int)+1)(hf:(aA 48).find? (wU f ms p s aN)=none)(h2:nv f s aN 48=2):fg f g h ms p s d=⟨f,h,0,false,6⟩:=by
 (have wN:aN<3:=by have:=G.mH hs;omega);(have hall:∀n∈fI f s,n/6=aN:=fun n hn=>by have:=G.at hs hn;omega)
 grind [Jr,X5,QC]
theorem qaI(G:gM f h ms)(hs:0<=s/\s<8)(ha:h s.toNat=(aN:Int)+1)(hf:(aA 48).find? (wU f ms p s aN)=none)(h2:nv f s aN 48≠2):
  fg f g h ms p s d=if iY f g s (aN:Int)=0 then⟨tR f g s (aN:Int) d,upd h s.toNat ((aN:Int)+1),1024+8*(oK f g s (aN:Int) d:Int),true,0⟩ else⟨f,h,0,false,iY f g s (aN:Int)⟩:=by
 (have wN:aN<3:=by have:=G.mH hs;omega);(have hall:∀n∈fI f s,n/6=aN:=fun n hn=>by have:=G.at hs hn;omega)
 grind [Jr,fI,QC,rC,mz,X7,X6]
theorem qaJ(G:gM f h ms)(hs:0<=s/\s<8)(ha:h s.toNat=0):
  fg f g h ms p s d=if oJ f g=0 then(if iY f g s (nQ f g d)=0 then⟨tR f g s (nQ f g d) d,upd h s.toNat (nQ f g d+1),1024+8*(oK f g s (nQ f g d) d:Int),true,0⟩ else⟨f,h,0,false,iY f g s (nQ f g d)⟩) else⟨f,h,0,false,oJ f g⟩:=by
 have hb:=(G.Aa hs).1 ha
 grind [lR,fI,rC,oJ,mz,nQ,fg,iY,tR,upd,oK]
def yc(w:af)(f:Nat->Int)(g:Nat->Bool)(h:Nat->Int)(sl:ag)(ms:List Mp)(p s i:Int)(r:P7)(w':af)(e:Ending):Prop:=
 (r.e≠0->e=.returned (.tuple #[.agg (tc f g h sl),.agg (mc fW),.bool false,I Z r.e]))/\
 (r.e=0->∃v,e=.returned (.tuple #[.agg (tc r.f g r.h v),.agg (mc (p,s,i,r.h s.toNat-1,r.q)),.bool r.took,I Z 0])/\cE w' v (ms++[(p,s,i,r.h s.toNat-1,r.q)])/\w.heap.size<=mb v)
theorem Ff{sl:ag}{E:Int}{r:P7}(hr:r=⟨f,h,0,false,E⟩)(he:E≠0):yc w f g h sl ms p s i r w' (.returned (.tuple #[.agg (tc f g h sl),.agg (mc fW),.bool false,I Z E])):=by grind [yc,fW]
theorem JA{F H:Nat->Int}{sl:ag}{A:Int}{tk:Bool}{r:P7}(hr:r=⟨F,H,q,tk,0⟩)(hA:H s.toNat-1=A)(hM:cE w' v (ms++[(p,s,i,A,q)]))(hb:w.heap.size<=mb v):yc w f g h sl ms p s i r w' (.returned (.tuple #[.agg (tc F g H v),.agg (mc (p,s,i,A,q)),.bool tk,I Z 0])):=by grind [cE,yc]
theorem QY(l:List Nat)(d:Int)(n:Nat)(hn:0<n)(h:∀k∈l,k<n):o7 l d<n:=by grind [Qa,o7]
def qaK(f:Nat->Int)(g:Nat->Bool)(s a d:Int):oK f g s a d<6:=by
 unfold oK
 split
 .exact QY _ d 6 om (fun k hk=>(P9 _ k hk).1)
 .omega
def qaL(f:Nat->Int)(g:Nat->Bool)(d:Int):0<=nQ f g d/\nQ f g d<3:=by
 unfold nQ
 split
 .split
  .omega
  .have:=QY (qZ f g) d 3 om (fun k hk=>(qaM f g k hk).1);omega
 .omega
theorem qaN{l:List Mp}(hall:∀o∈l,pD f h o)(hs:pD f h m):rL l m (fL m.2.2.2.2)=0↔l.any (fun o=>eu o==eu m)=false:=by
 have key:∀o∈l,(o.2.2.2.1==m.2.2.2.1&&fL o.2.2.2.2==fL m.2.2.2.2)=(eu o==eu m):=by
  intro o ho;have so:=hall o ho
  have:=qrg so.2.2.2.2.1 so.2.2.2.1 hs.2.2.2.2.1 hs.2.2.2.1
  grind [fL,eu]
 unfold rL
 grind [List.length_eq_zero_iff,List.filter_eq_nil_iff,List.any_eq_false]
def rM(F:Nat->Int)(a k:Nat)(s:Int):Bool:=(aA k).any fun i=>F (6*a+i)==s+1
theorem qaO(F:Nat->Int)(a k:Nat)(s:Int):rM F a (k+1) s=(rM F a k s||F (6*a+k)==s+1):=by grind [rM]
theorem qaP(G:gM f h ms)(hm:m∈ms):rM (lu f m) m.2.2.2.1.toNat 6 m.2.1=true↔(fI (lu f m) m.2.1).length≠0:=by
 have st:=G.maps.1 m hm
 unfold rM
 rw[List.any_eq_true,Nat.ne_zero_iff_zero_lt,List.length_pos_iff_exists_mem]
 constructor
 .rintro⟨i,hi,e⟩
  (have hi6:i<6:=by simpa using hi)
  refine⟨6*m.2.2.2.1.toNat+i,(za _ _ _).2 ⟨by have:=st.2.2.2.2.1;omega,by simpa using e⟩⟩
 .rintro⟨k,hk⟩
  rw[za] at hk
  have hf:f k=m.2.1+1:=by
   have h2:=hk.2
   unfold lu upd at h2
   split at h2
   .have:=st.2.1.1;omega
   omega
  have ha:=G.at st.2.1 ((za f m.2.1 k).2 ⟨hk.1,hf⟩)
  rw[st.2.2.2.2.2.1] at ha
  refine⟨k%6,by simp;omega,?_⟩
  grind
def aP.six{sl:ag}(R:aP 42 w b (tc f g h sl)){a:Nat}(ha:a<3):w.rangeAt b (6*a) (r6 (aX f a)).toList:=R.range (fun j v hv=>by
 have hj:j<6:=(List.getElem?_eq_some_iff.1 hv).1
 have e:v=I Z (aX f a j):=by
  rcases(show j=0\/j=1\/j=2\/j=3\/j=4\/j=5 by omega) with rfl|rfl|rfl|rfl|rfl|rfl<;>exact(bC hv).symm
 subst e
 exact I9 f g h sl (6*a+j) om)
def AG(w:af)(f:Nat->Int)(g:Nat->Bool)(h:Nat->Int)(sl:ag)(ms:List Mp)(m:Mp)(w':af)(e:Ending):Prop:=
 (m ∉ ms->e=.returned (.tuple #[.agg (tc f g h sl),.bool false,I Z 7]))/\
 (m∈ms->∃v,cE w' v (dH ms m)/\jw v/\(0<(dH ms m).length->w.heap.size<=mb v)/\((dH ms m).any (fun o=>eu o==eu m)=true->e=.returned (.tuple #[.agg (tc f g h v),.bool false,I Z 0]))/\
  ((dH ms m).any (fun o=>eu o==eu m)=false->e=.returned (.tuple #[.agg (tc (lu f m) g (zi f h m) v),.bool true,I Z 0])))
end Go.Proofs.YtnkpgdejagglaaaGreatDoor
