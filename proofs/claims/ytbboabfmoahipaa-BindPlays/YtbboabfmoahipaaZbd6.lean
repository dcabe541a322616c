/-
  Of what a law stands on.
-/
import Derived.Maps.OwnSet
import Derived.Maps.OwnOps
import Derived.WideKeyEntry
import Derived.DeepKeys5
import Derived.Carry
import Derived.Test.YtbboabfmoahipaaZbd5
set_option linter.unusedSimpArgs false
set_option linter.unusedVariables false
namespace Go.Proofs.Ytbboabfmoahipaa
open Go.Value renaming int → I,pointer → V
open Go.IntKind renaming i64 → Z
open _root_.Go.Proofs.Try Go.ChangeShapes Go.WideShapes Go.ChangeAt Go.RowKit Go.Maps
set_option maxHeartbeats 16000000
set_option maxRecDepth 100000
set_option maxRecDepth 100000
variable {W W' w w':World}{R:Value->Option (DataW Unit×List MemPlace)}{b:Nat}{D:DataW Unit}{v:Value}{x:Int}{t:TypeId}{β:Type}{p:Prop}{f h:Nat->Int}{ms:List Mp}{L:List (Nat×TypeId×Array Value)}{Ms:List (Value×List Mp)}{y:Nat×TypeId×Array Value}{cs:Array Value}{ops:Array Oper}{o:Oper}{a:Act}{Q:Exit->Act->World->Prop}{S:World->Prop}
structure Ky{α:Type}(kt:TypeId)(κ:α->Value)(ok:α->Prop):Prop where
 law:Keyed prog kt
 lit:∀a,ok a->∃l,keyOf prog kt (κ a)=some l
 inj:∀a b,κ a=κ b->a=b
def MeB{α:Type}(W:World)(kt:TypeId)(κ:α->Value)(ok:α->Prop)(b n:Nat)(S:α->Bool):Prop:=
 ∃D:DataW Unit,W.ownsMap prog kt (plainElem prog 4) b n D/\∀a,ok a->∀l,keyOf prog kt (κ a)=some l->D.atKey l (.lit (.bool false))=.lit (.bool (S a))
def MeI{α:Type}(W:World)(kt:TypeId)(κ:α->Value)(ok:α->Prop)(b n:Nat)(S:α->Int):Prop:=
 ∃D:DataW Unit,W.ownsMap prog kt (plainElem prog 3) b n D/\∀a,ok a->∀l,keyOf prog kt (κ a)=some l->D.atKey l (.lit (.int .i64 0))=.lit (.int .i64 (S a))
theorem qmwb{kt:TypeId}{n:Nat}(h:W.ownsMap prog kt R b n D)(he:W'.heap[b]?=W.heap[b]?):W'.ownsMap prog kt R b n D:=by
 obtain⟨es,clock,hb,r⟩:=h
 exact⟨es,clock,he.trans hb,r⟩
theorem qpab(x:Bool):plainElem (H:=Unit) prog 4 (.bool x)=some (.lit (.bool x),[]):=plainElem_bool underlying4 x
theorem qn8b{x:Bool}{ps:List MemPlace}(h:plainElem (H:=Unit) prog 4 v=some (.lit (.bool x),ps)):v=.bool x:=by
 unfold plainElem at h
 rw[underlying4] at h
 cases v<;>simp at h
 ·exact congrArg Value.bool h.1
theorem qrpb(w:World):(zeroValue 4).run prog w=.ok (.bool false) w:=by kernel_rfl
theorem qneb(w:World):(zeroValue 3).run prog w=.ok (I Z 0) w:=by kernel_rfl
section
variable {α:Type} {W W':World} {kt:TypeId} {κ:α->Value} {ok:α->Prop} {b n:Nat}
theorem MeB.keep{S:α->Bool}(h:MeB W kt κ ok b n S)(he:W'.heap[b]?=W.heap[b]?):MeB W' kt κ ok b n S:=by
 obtain⟨D,h1,h2⟩:=h;exact⟨D,qmwb h1 he,h2⟩
theorem MeI.keep{S:α->Int}(h:MeI W kt κ ok b n S)(he:W'.heap[b]?=W.heap[b]?):MeI W' kt κ ok b n S:=by
 obtain⟨D,h1,h2⟩:=h;exact⟨D,qmwb h1 he,h2⟩
theorem MeB.lt{S:α->Bool}(h:MeB W kt κ ok b n S):b<W.heap.size:=by obtain⟨D,h1,h2⟩:=h;exact h1.lt
theorem MeI.lt{S:α->Int}(h:MeI W kt κ ok b n S):b<W.heap.size:=by obtain⟨D,h1,h2⟩:=h;exact h1.lt
theorem MeB.obj{S:α->Bool}(h:MeB W kt κ ok b n S):∃es c,W.heap[b]?=some (.map es c):=by obtain⟨D,⟨es,c,h1,_⟩,h2⟩:=h;exact⟨es,c,h1⟩
theorem MeI.obj{S:α->Int}(h:MeI W kt κ ok b n S):∃es c,W.heap[b]?=some (.map es c):=by obtain⟨D,⟨es,c,h1,_⟩,h2⟩:=h;exact⟨es,c,h1⟩
theorem qn3b(w:World)(kt:TypeId)(κ:α->Value)(ok:α->Prop):MeB (w.alloc (.map #[] 0)) kt κ ok w.heap.size 0 (fun _=>false):=⟨_,World.ownsMap_made w _ _ _,fun a _ l _=>rfl⟩
theorem qnwb(w:World)(kt:TypeId)(κ:α->Value)(ok:α->Prop):MeI (w.alloc (.map #[] 0)) kt κ ok w.heap.size 0 (fun _=>0):=⟨_,World.ownsMap_made w _ _ _,fun a _ l _=>rfl⟩
theorem MeB.look{S:α->Bool}(h:MeB W kt κ ok b n S)(K:Ky kt κ ok)(ht:prog.underlying t=some (.map kt 4))(a:α)(ha:ok a):(Instr.lookup t (.map (some b)) (κ a) false).run prog W=.ok (.bool (S a)) W:=by
 obtain⟨D,h1,h2⟩:=h;obtain⟨l,hl⟩:=K.lit a ha;obtain⟨v,ps,hr,hv⟩:=h1.lookup K.law ht (qrpb W) (qpab false) hl
 rw[h2 a ha l hl] at hv
 rw[hr,qn8b hv]
theorem MeI.look{S:α->Int}(h:MeI W kt κ ok b n S)(K:Ky kt κ ok)(ht:prog.underlying t=some (.map kt 3))(a:α)(ha:ok a):(Instr.lookup t (.map (some b)) (κ a) false).run prog W=.ok (.int .i64 (S a)) W/\(Lit.int .i64 (S a)).wf=true:=by
 obtain⟨D,h1,h2⟩:=h;obtain⟨l,hl⟩:=K.lit a ha;obtain⟨c,hr,hc,hw⟩:=h1.lookup_int K.law ht underlying3 (qneb W) hl
 rw[h2 a ha l hl] at hc
 have e:S a=c:=(Lit.int.inj (DataW.lit.inj hc)).2;rw[hr,e]
 exact⟨rfl,hw⟩
def updX [DecidableEq α]{β:Type}(S:α->β)(a:α)(y:β):α->β:=fun x=>if x=a then y else S x
theorem qmxb [DecidableEq α]{R:Value->Option (DataW Unit×List MemPlace)}{S:α->β}{lt:β->Lit}{z:Lit}(K:Ky kt κ ok)(hM:IsMap D)(h2:∀a,ok a->∀l,keyOf prog kt (κ a)=some l->D.atKey l (.lit z)=.lit (lt (S a)))(a:α)(y:β){la:Lit}(hl:keyOf prog kt (κ a)=some la):
  ∀x,ok x->∀l,keyOf prog kt (κ x)=some l->(D.put la (.lit (lt y))).atKey l (.lit z)=.lit (lt (updX S a y x)):=by
 intro x hx l hlx
 unfold updX
 by_cases e:x=a
 ·subst e
  obtain rfl:la=l:=by rw[hl] at hlx;exact Option.some.inj hlx
  rw[if_pos rfl,atKey_put_same hM (K.law.key hl)]
 ·(have hne:l≠la:=fun e2=>e (K.inj x a (K.law.inj hlx (by rw[e2];exact hl))));rw[if_neg e,atKey_put_other hne]
  exact h2 x hx l hlx
theorem MeB.put [DecidableEq α]{S:α->Bool}(h:MeB W kt κ ok b n S)(K:Ky kt κ ok)(ht:prog.underlying t=some (.map kt 4))(hn:n<maxLen)(a:α)(ha:ok a)(y:Bool):∃w',(Instr.mapUpdate t (.map (some b)) (κ a) (.bool y)).run prog W=.ok () w'/\MeB w' kt κ ok b (n+1) (updX S a y)/\W.grownBy w' (some b):=by
 obtain⟨D,h1,h2⟩:=h;obtain⟨l,hl⟩:=K.lit a ha;obtain⟨w',hr,ho,hg⟩:=h1.update K.law ht hn hl (qpab y)
 exact⟨w',hr,⟨_,ho,qmxb (R:=plainElem prog 4) (lt:=Lit.bool) K h1.isMap h2 a y hl⟩,hg⟩
theorem qrbb(h:(Lit.int .i64 x).wf=true):plainElem (H:=Unit) prog 3 (.int .i64 x)=some (.lit (.int .i64 x),[]):=plainElem_int underlying3 h
theorem MeI.put [DecidableEq α]{S:α->Int}(h:MeI W kt κ ok b n S)(K:Ky kt κ ok)(ht:prog.underlying t=some (.map kt 3))(hn:n<maxLen)(a:α)(ha:ok a)(y:Int)(hy:(Lit.int .i64 y).wf=true):∃w',(Instr.mapUpdate t (.map (some b)) (κ a) (.int .i64 y)).run prog W=.ok () w'/\MeI w' kt κ ok b (n+1) (updX S a y)/\W.grownBy w' (some b):=by
 obtain⟨D,h1,h2⟩:=h;obtain⟨l,hl⟩:=K.lit a ha;obtain⟨w',hr,ho,hg⟩:=h1.update K.law ht hn hl (qrbb hy)
 exact⟨w',hr,⟨_,ho,qmxb (R:=plainElem prog 3) (lt:=Lit.int .i64) K h1.isMap h2 a y hl⟩,hg⟩
end
theorem qoxb{k e:TypeId}{es:Array MapEntry}{clock:Nat}(K:WideMaps.KeyLaw prog k)(ht:prog.underlying t=some (.map k e)){z:Value}(hz:∀u:World,(zeroValue e).run prog u=.ok z u)(hb:w.heap[b]?=some (.map es clock))(F:WideElems.Fit prog k R es clock){key:Value}{kl:Lit}(hkey:keyOf prog k key=some kl){v0:Value}{u:Value}{w1:World}(h1:(Instr.mapEntry t (.map (some b)) key).run prog w=.ok (.tuple #[v0,u]) w1):(Instr.mapUpdate t (.map (some b)) key v0).run prog w=.ok () w1/\(Instr.lookup t (.map (some b)) key false).run prog w=.ok v0 w:=by
 rcases K.find w hkey es.toList F.keys with⟨f1,f2⟩|⟨j,e0,f1,f2,f3⟩
 ·simp[Instr.mapEntry,run_underlying ht,MapKept.run_getObj_map hb,K.check w false hkey,f1,hz,MapKept.run_setObj_map _ hb,Result.andThen] at h1
  simp[Instr.mapUpdate,Instr.lookup,run_underlying ht,MapKept.run_getObj_map hb,K.check w _ hkey,f1,hz,MapKept.run_setObj_map _ hb,Result.andThen]
  obtain⟨⟨e1,_⟩,e2⟩:=h1
  subst e1
  exact⟨e2,rfl⟩
 ·(have hj:es[j]?=some e0:=by simpa using f2)
  have hm:es.modify j (fun e=>{ e with key:=key,val:=e0.val })=es.modify j (fun e=>{ e with key:=key }):=by
   apply Array.ext'
   rw[Array.toList_modify,Array.toList_modify,ChangeMaps.modify_eq_set _ _ _ _ f2,ChangeMaps.modify_eq_set _ _ _ _ f2]
  simp[Instr.mapEntry,run_underlying ht,MapKept.run_getObj_map hb,K.check w false hkey,f1,hj,f3,K.stays w hkey,MapKept.run_setObj_map _ hb,Result.andThen] at h1
  obtain⟨⟨e1,_⟩,e2⟩:=h1
  subst e1
  simp[Instr.mapUpdate,Instr.lookup,run_underlying ht,MapKept.run_getObj_map hb,K.check w _ hkey,f1,hj,f3,K.stays w hkey,MapKept.run_setObj_map _ hb,Result.andThen]
  rw[←e2,←hm]
section
variable {α:Type} [DecidableEq α] {W W':World} {kt:TypeId} {κ:α->Value} {ok:α->Prop} {b n:Nat}
theorem qoqb(S:α->β)(a:α):updX S a (S a)=S:=by
 funext x;unfold updX;split
 ·rename_i e;rw[e]
 ·rfl
theorem MeI.entry{S:α->Int}(h:MeI W kt κ ok b n S)(K:Ky kt κ ok)(KL:WideMaps.KeyLaw prog kt)(ht:prog.underlying t=some (.map kt 3))(hn:n<maxLen)(a:α)(ha:ok a):
  ∃v0 st w1,(Instr.mapEntry t (.map (some b)) (κ a)).run prog W=.ok (.tuple #[v0,goInt st]) w1/\MeI w1 kt κ ok b (n+1) S/\W.grownBy w1 (some b)/\
   ∀(w2:World) (y:Int),(Lit.int .i64 y).wf=true->w2.heap[b]?=w1.heap[b]?->∃w3,(Instr.entryStore t (.map (some b)) (goInt st) (.int .i64 y)).run prog w2=.ok () w3/\MeI w3 kt κ ok b (n+1) (updX S a y)/\w2.grownBy w3 (some b):=by
 have hlk:=h.look K ht a ha;have h0:=h;obtain⟨D,h1,h2⟩:=h;obtain⟨l,hl⟩:=K.lit a ha;obtain⟨es,clock,hb,F,hs,hD⟩:=id h1;obtain⟨v0,st,es1,c1,r1,r2,r3⟩:=WideElems.entry_then_store KL ht qneb hb F hl;obtain⟨hu,hlk2⟩:=qoxb KL ht qneb hb F hl r1
 obtain rfl:v0=.int .i64 (S a):=(Result.ok.inj (hlk2.symm.trans hlk.1)).1
 refine⟨_,st,_,r1,?_,?_,fun w2 y hy hw2=>?_⟩
 ·obtain⟨w',q1,q2,q3⟩:=h0.put K ht hn a ha (S a) hlk.2
  obtain rfl:=(Result.ok.inj (hu.symm.trans q1)).2
  rw[qoqb] at q2
  exact q2
 ·obtain⟨w',q1,q2,q3⟩:=h0.put K ht hn a ha (S a) hlk.2
  obtain rfl:=(Result.ok.inj (hu.symm.trans q1)).2
  exact q3
 ·have hw1:(ChangeMaps.setBlock W b (.map es1 c1)).heap[b]?=some (.map es1 c1):=ChangeMaps.heap_setBlock_same hb _;obtain⟨es',c',s1,s2⟩:=r3 w2 (.int .i64 y) (hw2.trans hw1);obtain⟨w',q1,q2,q3⟩:=h0.put K ht hn a ha y hy
  obtain rfl:=(Result.ok.inj (s2.symm.trans q1)).2
  refine⟨_,s1,q2.keep ?_,?_⟩
  ·rw[ChangeMaps.heap_setBlock_same (hw2.trans hw1),ChangeMaps.heap_setBlock_same hb]
  ·exact⟨rfl,rfl,rfl,by simp[ChangeMaps.setBlock],fun i _ hi=>ChangeMaps.heap_setBlock_other (hw2.trans hw1) _ (fun e=>hi (by rw[e]))⟩
end
def wf6(x:Int):Prop:=(Lit.int .i64 x).wf=true
theorem qkcb(h:-9223372036854775808<=x/\x<=9223372036854775807):wf6 x:=by unfold wf6;simpa[Lit.wf,IntKind.min,IntKind.max,IntKind.signed,IntKind.bits] using h
theorem qq3b(h:wf6 x):-9223372036854775808<=x/\x<=9223372036854775807:=by unfold wf6 at h;simpa[Lit.wf,IntKind.min,IntKind.max,IntKind.signed,IntKind.bits] using h
def k3(x:Int×Int×Int):Value:=.agg #[I Z x.1,I Z x.2.1,I Z x.2.2]
def ok3(x:Int×Int×Int):Prop:=wf6 x.1/\wf6 x.2.1/\wf6 x.2.2
def k2(x:Int×Int):Value:=.agg #[I Z x.1,I Z x.2]
def ok2(x:Int×Int):Prop:=wf6 x.1/\wf6 x.2
def k1v(x:Int):Value:=I Z x
theorem qosb(a b:Int×Int×Int)(h:k3 a=k3 b):a=b:=by
 obtain⟨a1,a2,a3⟩:=a;obtain⟨b1,b2,b3⟩:=b
 simp[k3] at h
 obtain⟨rfl,rfl,rfl⟩:=h
 rfl
theorem qqtb(a b:Int×Int)(h:k2 a=k2 b):a=b:=by
 obtain⟨a1,a2⟩:=a;obtain⟨b1,b2⟩:=b
 simp[k2] at h
 obtain⟨rfl,rfl⟩:=h
 rfl
theorem qq7b(a b:Int)(h:k1v a=k1v b):a=b:=by simpa[k1v] using h
theorem ql5b:∃d,prog.types.size+1=d+2:=by
 (have h:decide (0<prog.types.size)=true:=by kernel_rfl)
 have:=of_decide_eq_true h
 exact⟨prog.types.size-1,by omega⟩
theorem qpjb:WideMaps.KeyLaw prog 76:=deep_law_gate kr (of_decide_eq_true kr) (of_decide_eq_true kr) kr kr
theorem qqib:WideMaps.KeyLaw prog 78:=deep_law_gate kr (of_decide_eq_true kr) (of_decide_eq_true kr) kr kr
theorem ql2b:WideMaps.KeyLaw prog 79:=deep_law_gate kr (of_decide_eq_true kr) (of_decide_eq_true kr) kr kr
theorem sZbd66(h:p:=by
 simp only[hk,hf,hl,Bool.and_self,if_true,Option.map_some]
 exact⟨_,rfl⟩):p:=h
theorem qo9b(x:Int×Int×Int)(h:ok3 x):∃l,keyOf prog 76 (k3 x)=some l:=by
 (have hk:prog.keyType 76=true:=by kernel_rfl);(have hf:(k3 x).formed prog 76=true:=by kernel_rfl);(have c3:prog.cellsOf 76=3:=by kernel_rfl);(have c1:prog.cellsOf 3=1:=by kernel_rfl);obtain⟨d,hd⟩:=ql5b
 have hl:prog.keyLits (prog.types.size+1) 76 (k3 x).cells.toList=some [.int .i64 x.1,.int .i64 x.2.1,.int .i64 x.2.2]:=by
  rw[hd];have h1:=h.1;have h2:=h.2.1;have h3:=h.2.2
  unfold wf6 at h1 h2 h3
  simp[Program.keyLits,Value.cells,k3,underlying76,underlying3,c3,c1,h1,h2,h3]
 unfold keyOf
 rw[underlying76]
 exact sZbd66
theorem qpsb(x:Int×Int×Int)(h:ok3 x):∃l,keyOf prog 78 (k3 x)=some l:=by
 (have hk:prog.keyType 78=true:=by kernel_rfl);(have hf:(k3 x).formed prog 78=true:=by kernel_rfl);(have c3:prog.cellsOf 78=3:=by kernel_rfl);(have c1:prog.cellsOf 3=1:=by kernel_rfl);obtain⟨d,hd⟩:=ql5b
 have hl:prog.keyLits (prog.types.size+1) 78 (k3 x).cells.toList=some [.int .i64 x.1,.int .i64 x.2.1,.int .i64 x.2.2]:=by
  rw[hd];have h1:=h.1;have h2:=h.2.1;have h3:=h.2.2
  unfold wf6 at h1 h2 h3
  simp[Program.keyLits,Value.cells,k3,underlying78,underlying3,c3,c1,h1,h2,h3]
 unfold keyOf
 rw[underlying78]
 exact sZbd66
theorem qqhb(x:Int×Int)(h:ok2 x):∃l,keyOf prog 79 (k2 x)=some l:=by
 (have hk:prog.keyType 79=true:=by kernel_rfl);(have hf:(k2 x).formed prog 79=true:=by kernel_rfl);(have c3:prog.cellsOf 79=2:=by kernel_rfl);(have c1:prog.cellsOf 3=1:=by kernel_rfl);obtain⟨d,hd⟩:=ql5b
 have hl:prog.keyLits (prog.types.size+1) 79 (k2 x).cells.toList=some [.int .i64 x.1,.int .i64 x.2]:=by
  rw[hd];have h1:=h.1;have h2:=h.2
  unfold wf6 at h1 h2
  simp[Program.keyLits,Value.cells,k2,underlying79,underlying3,c3,c1,h1,h2,List.range,List.range.loop]
 unfold keyOf
 rw[underlying79]
 exact sZbd66
theorem qmub:Ky 76 k3 ok3:=⟨Keyed.of_law qpjb,qo9b,qosb⟩
theorem qnnb:Ky 78 k3 ok3:=⟨Keyed.of_law qqib,qpsb,qosb⟩
theorem qk5b:Ky 79 k2 ok2:=⟨Keyed.of_law ql2b,qqhb,qqtb⟩
theorem qlib:Ky 3 k1v wf6:=⟨int_keyed underlying3,fun a h=>⟨_,keyOf_int_mk (P:=prog) (q:=.i64) (a:=a) underlying3 h⟩,qq7b⟩
def sOut(l:List Mp):Int×Int×Int->Bool:=fun x=>l.any (outS x.1 x.2.1 x.2.2)
def sIn(l:List Mp):Int×Int×Int->Bool:=fun x=>l.any (inS x.1 x.2.1 x.2.2)
def blkQ(q:Int):Int:=(q-1024)/8
def nPl(l:List Mp):Int×Int->Int:=fun x=>((l.filter fun m=>m.2.2.2.1==x.1&&blkQ m.2.2.2.2==x.2).length:Int)
def nOf(l:List Mp):Int->Int:=fun s=>(cntM l s:Int)
theorem qopb(l:List Mp)(m:Mp):updX (sOut l) (m.1,m.2.2.2.1,m.2.2.2.2) true=sOut (l++[m]):=by
 funext x
 unfold updX sOut
 rw[List.any_append]
 by_cases e:x=(m.1,m.2.2.2.1,m.2.2.2.2)
 ·subst e;simp[outS]
 ·rw[if_neg e]
  have:outS x.1 x.2.1 x.2.2 m=false:=by
   cases h:outS x.1 x.2.1 x.2.2 m with
   | false=>rfl
   | true=>obtain⟨h1,h2,h3⟩:=(qup _ _ _ _).1 h;exact absurd (by rw[h1,h2,h3]) e
  simp[this]
theorem qpwb(l:List Mp)(m:Mp):updX (sIn l) (m.1,m.2.1,m.2.2.1) true=sIn (l++[m]):=by
 funext x
 unfold updX sIn
 rw[List.any_append]
 by_cases e:x=(m.1,m.2.1,m.2.2.1)
 ·subst e;simp[inS]
 ·rw[if_neg e]
  have:inS x.1 x.2.1 x.2.2 m=false:=by
   cases h:inS x.1 x.2.1 x.2.2 m with
   | false=>rfl
   | true=>obtain⟨h1,h2,h3⟩:=(qsm _ _ _ _).1 h;exact absurd (by rw[h1,h2,h3]) e
  simp[this]
theorem qpib(l:List Mp)(m:Mp):updX (nPl l) (m.2.2.2.1,blkQ m.2.2.2.2) (nPl l (m.2.2.2.1,blkQ m.2.2.2.2)+1)=nPl (l++[m]):=by
 funext x
 unfold updX nPl
 rw[List.filter_append,List.length_append]
 by_cases e:x=(m.2.2.2.1,blkQ m.2.2.2.2)
 ·subst e;simp
 ·rw[if_neg e]
  have:(m.2.2.2.1==x.1&&blkQ m.2.2.2.2==x.2)=false:=by
   cases h:(m.2.2.2.1==x.1&&blkQ m.2.2.2.2==x.2) with
   | false=>rfl
   | true=>simp at h;exact absurd (by rw[h.1,h.2]) e
  simp[this]
theorem qp1b(l:List Mp)(m:Mp):updX (nOf l) m.2.1 (nOf l m.2.1+1)=nOf (l++[m]):=by
 funext x
 unfold updX nOf cntM
 rw[List.filter_append,List.length_append]
 by_cases e:x=m.2.1
 ·subst e;simp
 ·rw[if_neg e]
  have:(m.2.1==x)=false:=by simpa using fun h=>e h.symm
  simp[this]
theorem qozb(l:List Mp)(x:Int×Int):0<=nPl l x/\nPl l x<=l.length:=by unfold nPl;have:=List.length_filter_le (fun m:Mp=>m.2.2.2.1==x.1&&blkQ m.2.2.2.2==x.2) l;omega
theorem qmlb(l:List Mp)(s:Int):0<=nOf l s/\nOf l s<=l.length:=by unfold nOf cntM;have:=List.length_filter_le (fun m:Mp=>m.2.1==s) l;omega
theorem qmyb(l:List Mp)(m:Mp):qc0 l m=(sIn l (m.1,m.2.1,m.2.2.1)||sOut l (m.1,m.2.2.2.1,m.2.2.2.2)):=by
 unfold qc0 sIn sOut
 induction l with
 | nil=>rfl
 | cons o r ih=>
  simp only[List.any_cons,ih]
  cases inS m.1 m.2.1 m.2.2.1 o<;>cases outS m.1 m.2.2.2.1 m.2.2.2.2 o<;>simp
theorem qorb(H:MsOk f h ms)(j:Nat):MsOk f h (ms.take j):=⟨fun m hm=>H.1 m (List.mem_of_mem_take hm),H.2.sublist (List.take_sublist j ms)⟩
def hadF(f:Nat->Int)(q:Nat):Int->Int:=fun s=>(((List.range q).filter fun n=>decide (0<f n)&&f n==s+1).length:Int)
theorem qp5b(f:Nat->Int)(q:Nat)(h:0<f q):updX (hadF f q) (f q-1) (hadF f q (f q-1)+1)=hadF f (q+1):=by
 funext x
 unfold updX hadF
 rw[List.range_succ,List.filter_append,List.length_append]
 by_cases e:x=f q-1
 ·subst e;simp[h]
 ·rw[if_neg e]
  have:(f q==x+1)=false:=by simp;omega
  simp[this]
theorem qoub(f:Nat->Int)(q:Nat)(h:¬0<f q):hadF f (q+1)=hadF f q:=by
 funext x
 unfold hadF
 rw[List.range_succ,List.filter_append,List.length_append]
 simp[h]
theorem qnyb(f:Nat->Int)(q:Nat)(s:Int):0<=hadF f q s/\hadF f q s<=q:=by unfold hadF;have:=List.length_filter_le (fun n=>decide (0<f n)&&f n==s+1) (List.range q);simp at this;omega
theorem qmfb(f:Nat->Int)(s:Nat):hadF f 18 (s:Int)=(qbk f s).length:=by
 unfold hadF qbk
 congr 2
 apply List.filter_congr
 intro n _
 by_cases h:f n=(s:Int)+1
 ·simp[h]<;>omega
 ·simp[h]
def docB(f:Nat->Int)(ms:List Mp)(q:Nat):Prop:=(0<f q↔0<nPl ms ((q/6:Nat),(q%6:Nat)))
def docH(f h:Nat->Int)(ms:List Mp)(s:Nat):Prop:=hadF f 18 s<=2/\nOf ms s<=12/\(h s=0↔hadF f 18 s=0)
theorem qmvb(H:MsOk f h ms)(q:Nat)(hq:q<18):0<nPl ms ((q/6:Nat),(q%6:Nat))↔∃m∈ms,qa7 m=q:=by
 unfold nPl
 have e:(0:Int)<((ms.filter fun m=>m.2.2.2.1==((q/6:Nat):Int)&&blkQ m.2.2.2.2==((q%6:Nat):Int)).length:Int)↔∃m∈ms,(m.2.2.2.1==((q/6:Nat):Int)&&blkQ m.2.2.2.2==((q%6:Nat):Int))=true:=by
  (rw[show((0:Int)<((ms.filter fun m=>m.2.2.2.1==((q/6:Nat):Int)&&blkQ m.2.2.2.2==((q%6:Nat):Int)).length:Int))↔0<(ms.filter fun m=>m.2.2.2.1==((q/6:Nat):Int)&&blkQ m.2.2.2.2==((q%6:Nat):Int)).length by omega,List.length_pos_iff_exists_mem])
  simp only[List.mem_filter]
 rw[e]
 refine exists_congr fun m=>and_congr_right fun hm=>?_
 have st:=H.1 m hm;have h5:=st.2.2.2.2.1;have h4:=st.2.2.2.1
 unfold qa7 qdi blkQ
 simp only[Bool.and_eq_true,beq_iff_eq]
 omega
theorem qmab:qbq f h ms↔qcv f=true/\MsOk f h ms/\(∀q,q<18->docB f ms q)/\∀s:Nat,s<8->docH f h ms s:=by
 constructor
 ·intro G
  refine⟨G.pool,G.maps,fun q hq=>?_,fun s hs=>?_⟩
  ·unfold docB
   rw[qmvb G.maps q hq];have hp:=qki G.pool q hq
   constructor
   ·intro h0;exact G.own q hq om
   ·rintro⟨m,hm,rfl⟩
    have st:=G.maps.1 m hm
    have:=st.2.2.2.2.2.2
    have h2:=st.2.1
    show 0<f (qdi _ _)
    omega
  ·unfold docH
   rw[qmfb];have hf:=G.few s hs
   refine⟨by omega,by unfold nOf;omega,?_⟩
   have key:(qbk f s).length=0↔∀m∈ms,m.2.1.toNat≠s:=by
    rw[List.length_eq_zero_iff,List.eq_nil_iff_forall_not_mem]
    constructor
    ·intro hn m hm e;have st:=G.maps.1 m hm
     refine hn (qa7 m) ((qjt _ _ _).2 ⟨st.lt,?_⟩)
     have:=st.2.2.2.2.2.2
     have h2:=st.2.1
     show f (qdi _ _)=_
     omega
    ·intro hn q hq;obtain⟨hq1,hq2⟩:=(qjt _ _ _).1 hq;obtain⟨m,hm,e⟩:=G.own q hq1 om;have st:=G.maps.1 m hm;have h7:=st.2.2.2.2.2.2;have h2:=st.2.1;refine hn m hm ?_;(have e2:f q=m.2.1+1:=by rw[←e];exact h7)
     omega
   constructor
   ·intro h0
    have:(qbk f s).length=0:=key.2 (fun m hm e=>by
     have st:=G.maps.1 m hm;have h6:=st.2.2.2.2.2.1;have h5:=st.2.2.2.2.1
     rw[e,h0] at h6
     omega)
    omega
   ·intro h0
    by_cases hh:h s=0
    ·exact hh
    ·obtain⟨m,hm,e⟩:=G.home s hs hh
     exact absurd e (key.1 om m hm)
 ·rintro⟨h1,h2,h3,h4⟩
  refine⟨h1,h2,fun q hq h0=>?_,fun s hs h0=>?_,fun s hs=>?_⟩
  ·have hp:=qki h1 q hq
   exact(qmvb h2 q hq).1 ((h3 q hq).1 om)
  ·obtain⟨_,_,hz⟩:=h4 s hs
   rw[qmfb] at hz
   have:(qbk f s).length≠0:=fun e=>h0 (hz.2 om)
   obtain⟨q,hq⟩:=List.exists_mem_of_length_pos (Nat.pos_of_ne_zero this);obtain⟨hq1,hq2⟩:=(qjt _ _ _).1 hq;obtain⟨m,hm,e⟩:=(qmvb h2 q hq1).1 ((h3 q hq1).1 om);have st:=h2.1 m hm;have h7:=st.2.2.2.2.2.2;have hb:=st.2.1
   refine⟨m,hm,?_⟩
   (have e2:f q=m.2.1+1:=by rw[←e];exact h7)
   omega
  ·obtain⟨g1,g2,_⟩:=h4 s hs
   rw[qmfb] at g1
   unfold nOf at g2
   omega
theorem Bd.one(h:Bd w W L Ms)(i:Nat)(hi:L[i]?=some y):Bd w W [y] []:=
 ⟨by simp,fun z hz=>by obtain rfl:=List.mem_singleton.1 hz;exact h.rows _ (List.mem_of_getElem? hi),by simp,h.base⟩
theorem qj2b(m:Nat):Value.int .i64 ((m:Int)+1)=I Z ((m+1:Nat):Int):=by simp
theorem qj0b{m:Nat}(h:wrap64 ((m:Int)+1)=(m:Int)+1):Value.int .i64 (wrap64 ((m:Int)+1))=I Z ((m+1:Nat):Int):=by rw[h];simp
theorem hidB(h:p):Hid p:=h
theorem qkzb(q:Int)(w:World)(h:1024<=q/\q<1072):Calls prog 15 #[I Z q] w fun e w'=>e=.returned (.tuple #[I Z (blkQ q),I Z ((q-1024)%8),.bool true])/\w'=w:=by
 have h1:=h.1;have h2:=h.2;(have g1:¬q<1024:=by omega);(have g2:¬1071<q:=by omega)
 go_enter func15,ntmps15
 go_wp2
 refine bodyPost_ret (v:=.tuple #[I Z (blkQ q),I Z ((q-1024)%8),.bool true]) (by simp[results,results15,go_sem,blkQ]) rfl ⟨rfl,rfl⟩
theorem sZbd64(h:p:=by
 go_enter func15,ntmps15
 go_wp2
 refine bodyPost_ret (v:=.tuple #[I Z 0,I Z 0,.bool false]) (by simp[results,results15,go_sem]) rfl ⟨rfl,rfl⟩):p:=h
theorem qnsb(q:Int)(w:World)(h:¬(1024<=q/\q<1072)):Calls prog 15 #[I Z q] w fun e w'=>e=.returned (.tuple #[I Z 0,I Z 0,.bool false])/\w'=w:=by
 by_cases h1:q<1024
 ·clear h
  exact sZbd64
 ·(have h2:1071<q:=by omega);clear h
  exact sZbd64
theorem sZbd67(h:p:=by
 go_enter func38,ntmps38
 go_wp2
 go_ret
 exact⟨rfl,rfl⟩):p:=h
theorem qkqb(p:Int)(w:World):Calls prog 38 #[I Z p] w fun e w'=>e=.returned (.bool (isP p))/\w'=w:=by
 unfold isP
 by_cases h1:p=1
 ·subst h1
  exact sZbd67
 ·(have g1:(p==1)=false:=by simpa using h1)
  by_cases h2:p=6
  ·subst h2
   clear h1
   exact sZbd67
  ·(have g2:(p==6)=false:=by simpa using h2)
   obtain⟨r,hr⟩:∃r,(p==17)=r:=⟨_,rfl⟩
   rw[g1,g2,hr];clear h1 h2
   cases r
   all_goals
    go_enter func38,ntmps38
    go_wp2
    go_ret
    exact⟨rfl,rfl⟩
theorem sZbd65(h:p:=by
 go_roundw
 case rel=>first|exact⟨j+1,by omega,qj2b j,HF.out,B.one 1 rfl⟩|exact⟨j+1,by omega,qj0b hjw,HF.out,B.one 1 rfl⟩
 case measure=>(first|rw[hjw]|skip);exact qek (HN.out.symm▸hlj)):p:=h
theorem sZbd62(h:p:=by
 go_wp2_with (first|(refine qb5 rfl (.tmp 13) (.tmp 15) rfl (.slice a0 n cap) ms hMW rfl j rfl hlj ?_)|((with_reducible refine gL 32 17 ?_);refine m0i ?_)|((with_reducible refine gA 32 ?_);refine m1e ?_;intro b11 w9 B)|((with_reducible refine gS 32 11 18 ?_);refine m53 ?_;refine m09 ?_;clear B;intro w9 B)|((with_reducible refine gL 3 19 ?_);refine fx (B.row 0 rfl) _ 1 (m.2.1) ?_)|((with_reducible refine gL 3 24 ?_);refine fx (B.row 0 rfl) _ 2 (m.2.2.1) ?_)|((with_reducible refine gL 3 30 ?_);refine fx (B.row 0 rfl) _ 0 (m.1) ?_)|((with_reducible refine gL 32 11 ?_);refine m5e ?_)|((with_reducible refine gS 32 8 35 ?_);refine m58 ?_;refine m20 ?_;clear B;intro w9 B))
 exact sZbd65):p:=h
theorem sZbd63(h:p:=by
 (have hjn:¬(j:Int)<(n:Int):=by have:=HN.out;omega);clear e hno hj hlj
 go_wp2_with ((with_reducible refine gS 32 8 37 ?_);refine sx 32 (.tmp 8) _ (mc noM) (B.row 0 rfl) ?_;refine m09 ?_;clear B;intro w9 B)
 (refine m06 ?_;refine bodyPost_ret (qbf rfl _ _ _ _ rfl (B.row 0 rfl) _ underlying32 rfl (qak _)) rfl ⟨?_,B.base⟩)
 rw[HF.out];rfl):p:=h
theorem qk4b(f:Nat->Int)(g:Nat->Bool)(h:Nat->Int)(sl:Value)(ms:List Mp)(x y z:Int)(w:World)(hM:qaz w sl ms):
  Calls prog 11 #[.agg (tc f g h sl),I Z x,I Z y,I Z z] w fun e w'=>e=.returned (qhw (ms.find? (inS x y z)))/\Below w.heap.size w w':=by
 have B:=Bd.start w;have hM0:=hM
 obtain⟨a0,cap,hsl,-⟩:=hM0
 obtain⟨n,hn⟩:∃n,n=ms.length:=⟨_,rfl⟩
 rw[←hn] at hsl
 subst hsl
 refine m2d ?_;clear hn;intro HN hlt
 go_enter func11,ntmps11
 go_wp2_with (first|((with_reducible refine gB 30 0 ?_);refine m0v ?_;intro b4 w9 l9 R9 h9;replace B:=B.alloc l9 R9 h9;clear R9 h9 l9)|((with_reducible refine gA 32 ?_);refine m5v ?_;clear B;intro b8 w9 B cM))
 clear cM
 go_loopw [15] (fun i W=>∃j:Nat,j<=ms.length/\i=I Z (j:Int)/\(ms.take j).find? (inS x y z)=none/\Bd w W [(b8,32,mc noM)] []) (fun i _=>n-(intOf i).toNat)
 case atStart=>exact⟨0,by omega,rfl,by simp,B.one 0 rfl⟩
 case round=>
  clear B
  obtain⟨j,hj,rfl,hno,B⟩:=hrel
  by_cases hlj:j<ms.length
  ·refine m0h ?_;intro hjn hjw
   obtain⟨m,hm⟩:∃m,ms[j]=m:=⟨_,rfl⟩
   have hMW:=hM.keep B.base hlt;have hrg:=hMW.at j hlj hm
   by_cases hin:inS x y z m=true
   ·have HF:Hid (ms.find? (inS x y z)=some m):=qyh hno hlj hm hin;obtain⟨e1,e2,e3⟩:=(qsm _ _ _ _).1 hin;(have g1:(m.2.1==y)=true:=by simpa using e2);(have g2:(m.2.2.1==z)=true:=by simpa using e3);(have g3:(m.1==x)=true:=by simpa using e1);clear e1 e2 e3 hin
    go_wp2_with (first|(refine qb5 rfl (.tmp 13) (.tmp 15) rfl (.slice a0 n cap) ms hMW rfl j rfl hlj ?_)|((with_reducible refine gL 32 17 ?_);refine m0i ?_)|((with_reducible refine gA 32 ?_);refine m1e ?_;clear B;intro b11 w9 B)|((with_reducible refine gS 32 11 18 ?_);refine m53 ?_;refine m09 ?_;clear B;intro w9 B)|((with_reducible refine gL 3 19 ?_);refine fx (B.row 0 rfl) _ 1 (m.2.1) ?_)|((with_reducible refine gL 3 24 ?_);refine fx (B.row 0 rfl) _ 2 (m.2.2.1) ?_)|((with_reducible refine gL 3 30 ?_);refine fx (B.row 0 rfl) _ 0 (m.1) ?_)|((with_reducible refine gL 32 11 ?_);refine m5e ?_)|((with_reducible refine gS 32 8 35 ?_);refine m58 ?_;refine m20 ?_;clear B;intro w9 B))
    (refine m06 ?_;refine bodyPost_ret (qbf rfl _ _ _ _ rfl (B.row 1 rfl) _ underlying32 rfl (qak _)) rfl ⟨?_,B.base⟩)
    rw[HF.out];rfl
   ·(have hin':inS x y z m=false:=by simpa using hin);have HF:Hid ((ms.take (j+1)).find? (inS x y z)=none):=qs3 hno hlj hm hin'
    by_cases c1:m.2.1=y
    ·(have g1:(m.2.1==y)=true:=by simpa using c1)
     by_cases c2:m.2.2.1=z
     ·(have g2:(m.2.2.1==z)=true:=by simpa using c2)
      have g3:(m.1==x)=false:=by
       cases hq:(m.1==x) with
       | false=>rfl
       | true=>exact absurd ((qsm _ _ _ _).2 (by have:=eq_of_beq hq;exact⟨this,c1,c2⟩)) hin
      clear c1 c2 hin hin'
      exact sZbd62
     ·(have g2:(m.2.2.1==z)=false:=by simpa using c2);clear c1 c2 hin hin'
      exact sZbd62
    ·(have g1:(m.2.1==y)=false:=by simpa using c1);clear c1 hin hin'
     exact sZbd62
  ·(have e:j=ms.length:=by omega)
   have HF:Hid (ms.find? (inS x y z)=none):=by
    show _=_
    rw[e,List.take_length] at hno;exact hno
   exact sZbd63
theorem sZbd61(h:p:=by
 go_wp2_with (first|(refine qb5 rfl (.tmp 13) (.tmp 15) rfl (.slice a0 n cap) ms hMW rfl j rfl hlj ?_)|((with_reducible refine gL 32 17 ?_);refine m0i ?_)|((with_reducible refine gA 32 ?_);refine m1e ?_;intro b11 w9 B)|((with_reducible refine gS 32 11 18 ?_);refine m53 ?_;refine m09 ?_;clear B;intro w9 B)|((with_reducible refine gL 3 19 ?_);refine fx (B.row 0 rfl) _ 4 (m.2.2.2.2) ?_)|((with_reducible refine gL 3 24 ?_);refine fx (B.row 0 rfl) _ 3 (m.2.2.2.1) ?_)|((with_reducible refine gL 3 30 ?_);refine fx (B.row 0 rfl) _ 0 (m.1) ?_)|((with_reducible refine gL 32 11 ?_);refine m5e ?_)|((with_reducible refine gS 32 8 35 ?_);refine m58 ?_;refine m20 ?_;clear B;intro w9 B))
 exact sZbd65):p:=h
theorem qmcb(f:Nat->Int)(g:Nat->Bool)(h:Nat->Int)(sl:Value)(ms:List Mp)(x y z:Int)(w:World)(hM:qaz w sl ms):
  Calls prog 13 #[.agg (tc f g h sl),I Z x,I Z y,I Z z] w fun e w'=>e=.returned (qhw (ms.find? (outS x y z)))/\Below w.heap.size w w':=by
 have B:=Bd.start w;have hM0:=hM
 obtain⟨a0,cap,hsl,-⟩:=hM0
 obtain⟨n,hn⟩:∃n,n=ms.length:=⟨_,rfl⟩
 rw[←hn] at hsl
 subst hsl
 refine m2d ?_;clear hn;intro HN hlt
 go_enter func13,ntmps13
 go_wp2_with (first|((with_reducible refine gB 30 0 ?_);refine m0v ?_;intro b4 w9 l9 R9 h9;replace B:=B.alloc l9 R9 h9;clear R9 h9 l9)|((with_reducible refine gA 32 ?_);refine m5v ?_;clear B;intro b8 w9 B cM))
 clear cM
 go_loopw [15] (fun i W=>∃j:Nat,j<=ms.length/\i=I Z (j:Int)/\(ms.take j).find? (outS x y z)=none/\Bd w W [(b8,32,mc noM)] []) (fun i _=>n-(intOf i).toNat)
 case atStart=>exact⟨0,by omega,rfl,by simp,B.one 0 rfl⟩
 case round=>
  clear B
  obtain⟨j,hj,rfl,hno,B⟩:=hrel
  by_cases hlj:j<ms.length
  ·refine m0h ?_;intro hjn hjw
   obtain⟨m,hm⟩:∃m,ms[j]=m:=⟨_,rfl⟩
   have hMW:=hM.keep B.base hlt;have hrg:=hMW.at j hlj hm
   by_cases hin:outS x y z m=true
   ·have HF:Hid (ms.find? (outS x y z)=some m):=qyh hno hlj hm hin;obtain⟨e1,e2,e3⟩:=(qup _ _ _ _).1 hin;(have g1:(m.2.2.2.2==z)=true:=by simpa using e3);(have g2:(m.2.2.2.1==y)=true:=by simpa using e2);(have g3:(m.1==x)=true:=by simpa using e1);clear e1 e2 e3 hin
    go_wp2_with (first|(refine qb5 rfl (.tmp 13) (.tmp 15) rfl (.slice a0 n cap) ms hMW rfl j rfl hlj ?_)|((with_reducible refine gL 32 17 ?_);refine m0i ?_)|((with_reducible refine gA 32 ?_);refine m1e ?_;clear B;intro b11 w9 B)|((with_reducible refine gS 32 11 18 ?_);refine m53 ?_;refine m09 ?_;clear B;intro w9 B)|((with_reducible refine gL 3 19 ?_);refine fx (B.row 0 rfl) _ 4 (m.2.2.2.2) ?_)|((with_reducible refine gL 3 24 ?_);refine fx (B.row 0 rfl) _ 3 (m.2.2.2.1) ?_)|((with_reducible refine gL 3 30 ?_);refine fx (B.row 0 rfl) _ 0 (m.1) ?_)|((with_reducible refine gL 32 11 ?_);refine m5e ?_)|((with_reducible refine gS 32 8 35 ?_);refine m58 ?_;refine m20 ?_;clear B;intro w9 B))
    (refine m06 ?_;refine bodyPost_ret (qbf rfl _ _ _ _ rfl (B.row 1 rfl) _ underlying32 rfl (qak _)) rfl ⟨?_,B.base⟩)
    rw[HF.out];rfl
   ·(have hin':outS x y z m=false:=by simpa using hin);have HF:Hid ((ms.take (j+1)).find? (outS x y z)=none):=qs3 hno hlj hm hin'
    by_cases c1:m.2.2.2.2=z
    ·(have g1:(m.2.2.2.2==z)=true:=by simpa using c1)
     by_cases c2:m.2.2.2.1=y
     ·(have g2:(m.2.2.2.1==y)=true:=by simpa using c2)
      have g3:(m.1==x)=false:=by
       cases hq:(m.1==x) with
       | false=>rfl
       | true=>exact absurd ((qup _ _ _ _).2 (by have:=eq_of_beq hq;exact⟨this,c2,c1⟩)) hin
      clear c1 c2 hin hin'
      exact sZbd61
     ·(have g2:(m.2.2.2.1==y)=false:=by simpa using c2);clear c1 c2 hin hin'
      exact sZbd61
    ·(have g1:(m.2.2.2.2==z)=false:=by simpa using c1);clear c1 hin hin'
     exact sZbd61
  ·(have e:j=ms.length:=by omega)
   have HF:Hid (ms.find? (outS x y z)=none):=by
    show _=_
    rw[e,List.take_length] at hno;exact hno
   exact sZbd63
theorem qo8b(h:qaz w v ms)(he:0<ms.length->w'.heap[mb v]?=w.heap[mb v]?):qaz w' v ms:=by
 obtain⟨a,c,e1,e2,e3,e4⟩:=h
 refine⟨a,c,e1,e2,fun j hj i u hu=>?_,e4⟩
 rw[World.cell?_of_block (he om)]
 exact e3 j hj i u hu
theorem qodb(h:qaz w v ms)(hl:0<ms.length):∀es c,w.heap[mb v]?≠some (.map es c):=by
 intro es c he;obtain⟨a,k,e1,e2,e3,e4⟩:=h
 have:=e3 0 hl 0 _ rfl
 unfold World.cell? at this
 simp only[he] at this
 simp at this
abbrev Ent:=Nat×(World->Prop)
structure Gm(w W:World)(L:List (Nat×TypeId×Array Value))(Ms:List (Value×List Mp))(Q:List Ent):Prop where
 bd:Bd w W L Ms
 nd:(Q.map (·.1)).Nodup
 ok:∀e∈Q,e.2 W/\w.heap.size<=e.1/\(∃es c,W.heap[e.1]?=some (.map es c))/\∀W W':World,W'.heap[e.1]?=W.heap[e.1]?->e.2 W->e.2 W'
def entB{α:Type}(kt:TypeId)(κ:α->Value)(ok:α->Prop)(b n:Nat)(S:α->Bool):Ent:=(b,fun W=>MeB W kt κ ok b n S)
def entI{α:Type}(kt:TypeId)(κ:α->Value)(ok:α->Prop)(b n:Nat)(S:α->Int):Ent:=(b,fun W=>MeI W kt κ ok b n S)
theorem Bd.grown(h:Bd w W L Ms)(hg:W.grownBy W' (some b))(ho:∃es c,W.heap[b]?=some (.map es c))(hb:w.heap.size<=b):Bd w W' L Ms:=by
 obtain⟨es,c,ho⟩:=ho
 refine⟨h.nodup,fun y hy=>⟨?_,(h.rows y hy).2⟩,fun q hq=>⟨qo8b (h.maps q hq).1 (fun hl=>?_),(h.maps q hq).2⟩,?_⟩
 ·have R:=(h.rows y hy).1;(have hne:y.1≠b:=fun e=>by unfold Row at R;rw[e,ho] at R;cases R)
  exact(hg.block _ R.lt (fun e=>hne (by cases e;rfl))).trans R
 ·exact hg.block _ ((h.maps q hq).1.lt hl) (fun e=>qodb (h.maps q hq).1 hl es c (by cases e;exact ho))
 ·exact h.base.trans ⟨hg.os,hg.tape,hg.output,hg.size,fun k hk=>hg.block k (by have:=h.base.size;omega) (fun e=>by cases e;omega)⟩
section
variable {w W W':World} {L:List (Nat×TypeId×Array Value)} {Ms:List (Value×List Mp)} {Q:List Ent}
theorem Gm.ent(h:Gm w W L Ms Q)(i:Nat){e:Ent}(hi:Q[i]?=some e):e.2 W:=(h.ok _ (List.mem_of_getElem? hi)).1
theorem Gm.start(h:Bd w W L Ms):Gm w W L Ms []:=⟨h,by simp,by simp⟩
theorem qlnb{e:Ent}(h:e.2 W/\w.heap.size<=e.1/\(∃es c,W.heap[e.1]?=some (.map es c))/\∀W W':World,W'.heap[e.1]?=W.heap[e.1]?->e.2 W->e.2 W')(he:W'.heap[e.1]?=W.heap[e.1]?):e.2 W'/\w.heap.size<=e.1/\(∃es c,W'.heap[e.1]?=some (.map es c))/\∀W W':World,W'.heap[e.1]?=W.heap[e.1]?->e.2 W->e.2 W':=
 ⟨h.2.2.2 W W' he h.1,h.2.1,by rw[he];exact h.2.2.1,h.2.2.2⟩
theorem Gm.lt(h:Gm w W L Ms Q){e:Ent}(he:e∈Q):e.1<W.heap.size:=by
 obtain⟨_,_,⟨es,c,ho⟩,_⟩:=h.ok e he
 exact(Array.getElem?_eq_some_iff.1 ho).1
theorem Gm.below(h:Gm w W L Ms Q)(hb:Below W.heap.size W W'):Gm w W' L Ms Q:=
 ⟨h.bd.below hb,h.nd,fun e he=>qlnb (h.ok e he) (hb.block _ (h.lt he))⟩
theorem Gm.drew(h:Gm w W L Ms Q):Gm w W.drew L Ms Q:=h.below (Below.refl _ _).drew
theorem Gm.drewN(h:Gm w W L Ms Q)(n:Nat):Gm w (W.drewN n) L Ms Q:=h.below ⟨rfl,rfl,rfl,Nat.le_refl _,fun _ _=>rfl⟩
theorem Gm.alloc(h:Gm w W L Ms Q)(hl:W.heap.size<=b)(R:Row t W' b cs)(hb:Below W.heap.size W W'):Gm w W' ((b,t,cs)::L) Ms Q:=
 ⟨h.bd.alloc hl R hb,h.nd,fun e he=>qlnb (h.ok e he) (hb.block _ (h.lt he))⟩
theorem Gm.turn(h:Gm w W L Ms Q)(i:Nat){cs':Array Value}(hi:L[i]?=some (b,t,cs))(R:Row t W' b cs')(T:qbl b W W'):Gm w W' (L.set i (b,t,cs')) Ms Q:=by
 refine⟨h.bd.turn i hi R T,h.nd,fun e he=>qlnb (h.ok e he) (T.other _ (fun e1=>?_))⟩
 obtain⟨_,_,⟨es,c,ho⟩,_⟩:=h.ok e he
 have R0:=h.bd.row i hi
 unfold Row at R0
 rw[←e1,ho] at R0
 cases R0
theorem Gm.add(h:Gm w W L Ms Q){e:Ent}(hb:Below W.heap.size W W')(hl:W.heap.size<=e.1)(he:e.2 W')(ho:∃es c,W'.heap[e.1]?=some (.map es c))(hd:∀W W':World,W'.heap[e.1]?=W.heap[e.1]?->e.2 W->e.2 W'):Gm w W' L Ms (e::Q):=by
 have h':=h.below hb
 refine⟨h'.bd,?_,fun x hx=>?_⟩
 ·rw[List.map_cons,List.nodup_cons]
  refine⟨fun hm=>?_,h.nd⟩
  obtain⟨y,hy,e1⟩:=List.mem_map.1 hm
  have:=h.lt hy
  omega
 ·rcases List.mem_cons.1 hx with rfl|hx
  ·exact⟨he,Nat.le_trans h.bd.base.size hl,ho,hd⟩
  ·exact h'.ok x hx
theorem Gm.upd(h:Gm w W L Ms Q)(i:Nat){e e':Ent}(hi:Q[i]?=some e)(hb:e'.1=e.1)(hg:W.grownBy W' (some e.1))(he:e'.2 W')(ho:∃es c,W'.heap[e.1]?=some (.map es c))(hd:∀W W':World,W'.heap[e.1]?=W.heap[e.1]?->e'.2 W->e'.2 W'):Gm w W' L Ms (Q.set i e'):=by
 have hlt:i<Q.length:=(List.getElem?_eq_some_iff.1 hi).1;have hQi:Q[i]=e:=(List.getElem?_eq_some_iff.1 hi).2;have ho0:=h.ok e (List.mem_of_getElem? hi)
 have hm:(Q.set i e').map (·.1)=Q.map (·.1):=by
  apply List.ext_getElem?
  intro j;rw[List.getElem?_map,List.getElem?_set,List.getElem?_map]
  by_cases hj:i=j
  ·subst hj;simp[hlt,hQi,hb]
  ·simp[hj]
 refine⟨h.bd.grown hg ho0.2.2.1 ho0.2.1,by rw[hm];exact h.nd,fun x hx=>?_⟩
 obtain⟨j,hj⟩:=List.mem_iff_getElem?.1 hx
 rw[List.getElem?_set] at hj
 by_cases hij:i=j
 ·subst hij
  rw[if_pos rfl,if_pos hlt] at hj
  obtain rfl:=Option.some.inj hj
  exact⟨he,by rw[hb];exact ho0.2.1,by rw[hb];exact ho,by rw[hb];exact hd⟩
 ·rw[if_neg hij] at hj
  have hx':=List.mem_of_getElem? hj
  refine qlnb (h.ok x hx') (hg.block _ (h.lt hx') (fun e1=>hij ?_))
  have e1':x.1=e.1:=Option.some.inj e1;(have q1:(Q.map (·.1))[i]?=some e.1:=by rw[List.getElem?_map,hi];rfl);(have q2:(Q.map (·.1))[j]?=some e.1:=by rw[List.getElem?_map,hj];simp[e1'])
  exact(List.getElem?_inj (by simpa using hlt) h.nd).1 (by rw[q1,q2])
theorem Gm.rows(h:Gm w W L Ms Q){L':List (Nat×TypeId×Array Value)}{Ms':List (Value×List Mp)}(hb:Bd w W L' Ms'):Gm w W L' Ms' Q:=⟨hb,h.nd,h.ok⟩
end
section
variable {α:Type} [DecidableEq α] {w W:World} {L:List (Nat×TypeId×Array Value)} {Ms:List (Value×List Mp)} {Q:List Ent} {kt:TypeId} {κ:α->Value} {ok:α->Prop} {b n:Nat}
end
section
variable {α:Type} {w W:World} {L:List (Nat×TypeId×Array Value)} {Ms:List (Value×List Mp)} {Q:List Ent} {kt:TypeId} {κ:α->Value} {ok:α->Prop} {b n:Nat}
theorem Gm.newB(h:Gm w W L Ms Q)(kt:TypeId)(κ:α->Value)(ok:α->Prop):Gm w (W.alloc (.map #[] 0)) L Ms (entB kt κ ok W.heap.size 0 (fun _=>false)::Q):=
 h.add ((Below.refl _ _).alloc (Nat.le_refl _) _) (Nat.le_refl _) (qn3b W kt κ ok) (qn3b W kt κ ok).obj (fun _ _ he hh=>MeB.keep hh he)
theorem Gm.newI(h:Gm w W L Ms Q)(kt:TypeId)(κ:α->Value)(ok:α->Prop):Gm w (W.alloc (.map #[] 0)) L Ms (entI kt κ ok W.heap.size 0 (fun _=>0)::Q):=
 h.add ((Below.refl _ _).alloc (Nat.le_refl _) _) (Nat.le_refl _) (qnwb W kt κ ok) (qnwb W kt κ ok).obj (fun _ _ he hh=>MeI.keep hh he)
end
section
variable {α:Type} [DecidableEq α] {w W:World} {L:List (Nat×TypeId×Array Value)} {Ms:List (Value×List Mp)} {Q:List Ent} {kt:TypeId} {κ:α->Value} {ok:α->Prop} {b n:Nat}
theorem Gm.putB(h:Gm w W L Ms Q)(i:Nat){S:α->Bool}(hi:Q[i]?=some (entB kt κ ok b n S))(K:Ky kt κ ok)(ht:prog.underlying t=some (.map kt 4))(hn:n<maxLen)(a:α)(ha:ok a)(y:Bool):∃w',(Instr.mapUpdate t (.map (some b)) (κ a) (.bool y)).run prog W=.ok () w'/\Gm w w' L Ms (Q.set i (entB kt κ ok b (n+1) (updX S a y))):=by
 obtain⟨w',h1,h2,h3⟩:=MeB.put (h.ent i hi) K ht hn a ha y
 exact⟨w',h1,h.upd (e':=entB kt κ ok b (n+1) (updX S a y)) i hi rfl h3 h2 h2.obj (fun _ _ he hh=>MeB.keep hh he)⟩
theorem Gm.putI(h:Gm w W L Ms Q)(i:Nat){S:α->Int}(hi:Q[i]?=some (entI kt κ ok b n S))(K:Ky kt κ ok)(ht:prog.underlying t=some (.map kt 3))(hn:n<maxLen)(a:α)(ha:ok a)(y:Int)(hy:(Lit.int .i64 y).wf=true):∃w',(Instr.mapUpdate t (.map (some b)) (κ a) (.int .i64 y)).run prog W=.ok () w'/\Gm w w' L Ms (Q.set i (entI kt κ ok b (n+1) (updX S a y))):=by
 obtain⟨w',h1,h2,h3⟩:=MeI.put (h.ent i hi) K ht hn a ha y hy
 exact⟨w',h1,h.upd (e':=entI kt κ ok b (n+1) (updX S a y)) i hi rfl h3 h2 h2.obj (fun _ _ he hh=>MeI.keep hh he)⟩
theorem Gm.entry(h:Gm w W L Ms Q)(i:Nat){S:α->Int}(hi:Q[i]?=some (entI kt κ ok b n S))(K:Ky kt κ ok)(KL:WideMaps.KeyLaw prog kt)(ht:prog.underlying t=some (.map kt 3))(hn:n<maxLen)(a:α)(ha:ok a):
  ∃v0 st w1,(Instr.mapEntry t (.map (some b)) (κ a)).run prog W=.ok (.tuple #[v0,goInt st]) w1/\Gm w w1 L Ms (Q.set i (entI kt κ ok b (n+1) S))/\
   ∀(w2:World) (y:Int),(Lit.int .i64 y).wf=true->w2.heap=w1.heap->Gm w w2 L Ms (Q.set i (entI kt κ ok b (n+1) S))->∃w3,(Instr.entryStore t (.map (some b)) (goInt st) (.int .i64 y)).run prog w2=.ok () w3/\Gm w w3 L Ms (Q.set i (entI kt κ ok b (n+1) (updX S a y))):=by
 obtain⟨v0,st,w1,h1,h2,h3,h4⟩:=MeI.entry (h.ent i hi) K KL ht hn a ha
 refine⟨v0,st,w1,h1,h.upd (e':=entI kt κ ok b (n+1) S) i hi rfl h3 h2 h2.obj (fun _ _ he hh=>MeI.keep hh he),fun w2 y hy hw2 hG=>?_⟩
 obtain⟨w3,q1,q2,q3⟩:=h4 w2 y hy (by rw[hw2])
 refine⟨w3,q1,?_⟩
 have hlt:i<Q.length:=(List.getElem?_eq_some_iff.1 hi).1
 have:=hG.upd (e':=entI kt κ ok b (n+1) (updX S a y)) i (e:=entI kt κ ok b (n+1) S) (by rw[List.getElem?_set];simp[hlt]) rfl q3 q2 q2.obj (fun _ _ he hh=>MeI.keep hh he)
 rw[List.set_set] at this
 exact this
end
theorem qlbb{rest:List Oper}(t:TypeId)(hgd:o.guard=none)(ho:o.op=.makeMap t none)(hr:∀b,b=w.heap.size->wpList prog ops Q rest (a.put o.dst (.map (some b))) (w.alloc (.map #[] 0))):wpList prog ops Q (o::rest) a w:=
 wpList_plain hgd fun K hK=>by
  have hm:=@run_makeMap prog t w
  unfold Oper.wp execOp
  simp only[ho,Option.map_none,Sem.run_bind,hm,Result.andThen_ok,Sem.run_pure]
  exact hK _ _ (hr _ rfl)
theorem qlcb(t:TypeId)(m x:Operand)(ho:o.op=.lookup t m x false)(hw:Region.wanted o (yielded ops a.tmps)=true)(mv kv v:Value)(hm:a.eval m=mv)(hx:a.eval x=kv)(hS:∀w,S w->(Instr.lookup t mv kv false).run prog w=.ok v w):YieldsIf prog ops S o v a:=
 .inl ⟨hw,fun w h=>by unfold execOp;simp only[ho,hm,hx,Sem.run_bind,hS w h,Result.andThen_ok,Sem.run_pure]⟩
theorem qleb(t:TypeId)(x y:Operand)(ho:o.op=.indexAddr t x y)(hw:Region.wanted o (yielded ops a.tmps)=true)(p i q:Value)(hx:a.eval x=p)(hy:a.eval y=i)(hrun:∀w:World,(Instr.indexAt t p i).run prog w=.ok q w):YieldsIf prog ops S o q a:=
 .inl ⟨hw,fun w _=>by unfold execOp;simp only[ho,hx,hy,Sem.run_bind,hrun w,Result.andThen_ok,Sem.run_pure]⟩
theorem qmkb(x:Operand)(ho:o.op=.binOp .sub 3 x (.const (I Z 1)) 3)(hw:Region.wanted o (yielded ops a.tmps)=true)(n d:Int)(hx:a.eval x=I Z n)(hd:IntKind.i64.wrap (n-1)=d):YieldsIf prog ops S o (I Z d) a:=
 .inl ⟨hw,fun w _=>by unfold execOp;simp only[ho,hx];simp[go_sem,Act.eval];exact hd⟩
theorem qmdb(x:Operand)(ho:o.op=.binOp .add 3 x (.const (I Z 1)) 3)(hw:Region.wanted o (yielded ops a.tmps)=true)(n d:Int)(hx:a.eval x=I Z n)(hd:IntKind.i64.wrap (n+1)=d):YieldsIf prog ops S o (I Z d) a:=
 .inl ⟨hw,fun w _=>by unfold execOp;simp only[ho,hx];simp[go_sem,Act.eval];exact hd⟩
theorem ix8(b o l:Nat)(h:l<8)(w:World):(Instr.indexAt 27 (V (some ⟨b,o,none⟩)) (I Z (l:Int))).run prog w=.ok (V (some ⟨b,o+l,none⟩)) w:=by
 (have hs:(sizeOf 3).run prog w=.ok 1 w:=by kernel_rfl);(have h1:(l:Int)<8:=by omega)
 simp[go_sem,underlying27,h1,h,hs]
theorem ix3(b o l:Nat)(h:l<3)(w:World):(Instr.indexAt 23 (V (some ⟨b,o,none⟩)) (I Z (l:Int))).run prog w=.ok (V (some ⟨b,o+6*l,none⟩)) w:=by
 (have hs:(sizeOf 22).run prog w=.ok 6 w:=by kernel_rfl);(have h1:(l:Int)<3:=by omega)
 simp[go_sem,underlying23,h1,h,hs]
theorem ix6(b o l:Nat)(h:l<6)(w:World):(Instr.indexAt 22 (V (some ⟨b,o,none⟩)) (I Z (l:Int))).run prog w=.ok (V (some ⟨b,o+l,none⟩)) w:=by
 (have hs:(sizeOf 3).run prog w=.ok 1 w:=by kernel_rfl);(have h1:(l:Int)<6:=by omega)
 simp[go_sem,underlying22,h1,h,hs]
def pl3(m:Mp):Array Value:=#[I Z m.1,I Z m.2.2.2.1,I Z m.2.2.2.2]
def pr3a(m:Mp):Array Value:=#[I Z m.1,I Z m.2.1,I Z m.2.2.1]
def no3:Array Value:=#[I Z 0,I Z 0,I Z 0]
theorem qk1b(m:Mp):(prog.info? 76).map (·.size)=some (pl3 m).size:=by kernel_rfl
theorem qktb(m:Mp):(prog.info? 78).map (·.size)=some (pr3a m).size:=by kernel_rfl
theorem ql9b(m:Mp):(pl3 m).all (·.oneCell')=true:=by kernel_rfl
theorem qltb(m:Mp):(pr3a m).all (·.oneCell')=true:=by kernel_rfl
theorem qnvb(w:World):(zeroValue 76).run prog w=.ok (.agg no3) w:=by kernel_rfl
theorem qn4b(w:World):(zeroValue 78).run prog w=.ok (.agg no3) w:=by kernel_rfl
theorem qqgb(x y z:Int)(w:World):(Instr.build 76 #[(0,I Z x),(1,I Z y),(2,I Z z)]).run prog w=.ok (.agg #[I Z x,I Z y,I Z z]) w:=by kernel_rfl
theorem qqob(x y z:Int)(w:World):(Instr.build 78 #[(0,I Z x),(1,I Z y),(2,I Z z)]).run prog w=.ok (.agg #[I Z x,I Z y,I Z z]) w:=by kernel_rfl
theorem qnzb(x y:Int)(w:World):(Instr.build 79 #[(0,I Z x),(1,I Z y)]).run prog w=.ok (.agg #[I Z x,I Z y]) w:=by kernel_rfl
theorem qojb(p q r:Operand)(ho:o.op=.build 76 #[(0,p),(1,q),(2,r)])(hw:Region.wanted o (yielded ops a.tmps)=true)(x y z:Int)(hx:a.eval p=I Z x)(hy:a.eval q=I Z y)(hz:a.eval r=I Z z):YieldsIf prog ops S o (.agg #[I Z x,I Z y,I Z z]) a:=
 .inl ⟨hw,fun w _=>by unfold execOp;simp only[ho,List.map_toArray,List.map_cons,List.map_nil,hx,hy,hz,Sem.run_bind,qqgb,Result.andThen_ok,Sem.run_pure]⟩
theorem qofb(p q r:Operand)(ho:o.op=.build 78 #[(0,p),(1,q),(2,r)])(hw:Region.wanted o (yielded ops a.tmps)=true)(x y z:Int)(hx:a.eval p=I Z x)(hy:a.eval q=I Z y)(hz:a.eval r=I Z z):YieldsIf prog ops S o (.agg #[I Z x,I Z y,I Z z]) a:=
 .inl ⟨hw,fun w _=>by unfold execOp;simp only[ho,List.map_toArray,List.map_cons,List.map_nil,hx,hy,hz,Sem.run_bind,qqob,Result.andThen_ok,Sem.run_pure]⟩
theorem qoab(p q:Operand)(ho:o.op=.build 79 #[(0,p),(1,q)])(hw:Region.wanted o (yielded ops a.tmps)=true)(x y:Int)(hx:a.eval p=I Z x)(hy:a.eval q=I Z y):YieldsIf prog ops S o (.agg #[I Z x,I Z y]) a:=
 .inl ⟨hw,fun w _=>by unfold execOp;simp only[ho,List.map_toArray,List.map_cons,List.map_nil,hx,hy,Sem.run_bind,qnzb,Result.andThen_ok,Sem.run_pure]⟩
theorem qlob{K:Act->World->Prop}(t:TypeId)(ho:o.op=.alloc t)(cs:Array Value)(hz:∀w:World,(zeroValue t).run prog w=.ok (.agg cs) w)(hr:∀b w',w.heap.size<=b->Row t w' b cs->Below w.heap.size w w'->K (a.put o.dst (V (some ⟨b,0,none⟩))) w'):o.wp prog a w K Q:=by
 have h':=hr w.heap.size (w.alloc (.cells cs t)) (Nat.le_refl _) (Row.new t w cs) ((Below.refl _ _).alloc (Nat.le_refl _) _)
 unfold Oper.wp execOp
 simp[ho,Instr.alloc,newVar,hz w,Result.andThen,Value.cells]
 simp[go_sem]
 exact h'
theorem qsbb(h:Below w.drew.heap.size w.drew w'):Below w.heap.size w w':=⟨h.os,h.tape,h.output,h.size,h.block⟩
theorem qr7b(h:qbl b w.drew w'):qbl b w w':=⟨h.size,h.other,fun B w0 hB hb=>h.below B w0 hB (qpv hb)⟩
theorem Gm.swap{x:Nat×TypeId×Array Value}{Q:List Ent}(h:Gm w W (x::y::L) Ms Q):Gm w W (y::x::L) Ms Q:=by
 refine⟨⟨?_,fun z hz=>h.bd.rows z ?_,fun q hq=>⟨(h.bd.maps q hq).1,fun b hb=>(h.bd.maps q hq).2 b ?_⟩,h.bd.base⟩,h.nd,h.ok⟩
 ·have:=h.bd.nodup
  simp only[List.map_cons,List.nodup_cons,List.mem_cons,not_or] at this ⊢
  exact⟨⟨fun e=>this.1.1 e.symm,this.2.1⟩,this.1.2,this.2.2⟩
 ·simp only[List.mem_cons] at hz ⊢
  rcases hz with h|h|h
  ·exact .inr (.inl h)
  ·exact .inl h
  ·exact .inr (.inr h)
 ·simp only[List.map_cons,List.mem_cons] at hb ⊢
  rcases hb with h|h|h
  ·exact .inr (.inl h)
  ·exact .inl h
  ·exact .inr (.inr h)
def OkM(m:Mp):Prop:=(1024<=m.2.2.2.2/\m.2.2.2.2<1072)/\isP m.1=true/\(0<=m.2.1/\m.2.1<8)/\(0<=m.2.2.1/\m.2.2.1<=65535)/\(0<=m.2.2.2.1/\m.2.2.2.1<3)
theorem qo2b{m:Mp}(s:qdb f h m):OkM m:=⟨s.2.2.2.1,s.1,s.2.1,s.2.2.1,s.2.2.2.2.1⟩
theorem qysb{j:Nat}(hj:j<ms.length)(hn:¬(qdb f h ms[j]/\qc0 (ms.take j) ms[j]=false)):(false=true↔qbq f h ms):=by
 refine⟨fun e=>(by cases e),fun G=>(hn ?_).elim⟩
 have:=qorb G.maps (j+1)
 rw[List.take_succ_eq_append_getElem hj,qof] at this
 exact this.2
def qk3b:Code->Option Code
 | .loop c=>some c
 | .seq a b=>(qk3b a).or (qk3b b)
 | .block _ c=>qk3b c
 | .scope c=>qk3b c
 | .cond _ a b=>(qk3b a).or (qk3b b)
 | _=>none
def qryb(F:Func):Code:=(F.body.bind qk3b).getD .skip
def WG(w:World)(f:Nat->Int)(g:Nat->Bool)(h:Nat->Int)(ms:List Mp)(b1 b3 b4 b5 b6:Nat)(a0:Option Addr)(n cap:Nat)(a:Act)(W:World):Prop:=
 ∃u2 u7 u8 u9 u10 u11 u12 u13 u14 u15 u16 u17 u18 u19 u20 u21 u22 u23 u24 u25 u26 u27 u30 u31 u32 u33 u34 u35 u36 u37 u38 u39 u40 u41 u42 u43 u44 u45 u46 u47 u48 u49 u50 u51 u52 u53 u54 u55 u56 u57 u58 u59 u60 u61 u62 u63 u64 u65 u66 u67 u68 u69 u70 u71 u72 u73 u74 u75 u76 u77 u78 u79 u80 u81 u82 u83 u84 u85 u86 u87 u88 u89 u90 u91 u92 u93 u94 u95 u96 u97 u98 u99 u100 u101 u102 u103 u104 u105 u106 u107 u108 u109 u110 u111 u112 u113 u114 u115 u116 u117 u118 u119 u120 u121 u122 u123 u124 u125 u126 u127 u128 u129 u130 u131 u132 u133 u134 u135 u136 u137 u138 u139 u140 u141 u142 u143 u144 u145 u146 u147 u148 u149 u150 u151 u152 u153 u154 u155 u156 u157 u158 u159 u160 u161 u162 u163 u164 u165 u166 u167 u168 u169 u170 u171 u172 u173 u174 u175 u176 u177 u178 u179 u180 u181 u182 u183 u184 u185 u186 u187 u188 u189 u190 u191 u192 u193 u194 u195 u196 u197 u198 u199 u200 u201 u202:Value,(∃j:Nat,j<=ms.length/\u30=I Z (j:Int)/\Hid (MsOk f h (ms.take j))/\∃n6 n5 n4 n3:Nat,Hid (n6<=2*j/\n5<=2*j/\n4<=2*j/\n3<=2*j)/\Gm w W [(b1,30,tc f g h (.slice a0 n cap))] [] [entI 3 k1v wf6 b6 n6 (nOf (ms.take j)),entI 79 k2 ok2 b5 n5 (nPl (ms.take j)),entB 78 k3 ok3 b4 n4 (sIn (ms.take j)),entB 76 k3 ok3 b3 n3 (sOut (ms.take j))])/\a=⟨#[(.agg (tc f g h (.slice a0 n cap))),V (some ⟨b1,0,none⟩),u2,.map (some b3),.map (some b4),.map (some b5),.map (some b6),u7,u8,u9,u10,u11,u12,u13,u14,u15,u16,u17,u18,u19,u20,u21,u22,u23,u24,u25,u26,u27,(.slice a0 n cap),I Z (n:Int),u30,u31,u32,u33,u34,u35,u36,u37,u38,u39,u40,u41,u42,u43,u44,u45,u46,u47,u48,u49,u50,u51,u52,u53,u54,u55,u56,u57,u58,u59,u60,u61,u62,u63,u64,u65,u66,u67,u68,u69,u70,u71,u72,u73,u74,u75,u76,u77,u78,u79,u80,u81,u82,u83,u84,u85,u86,u87,u88,u89,u90,u91,u92,u93,u94,u95,u96,u97,u98,u99,u100,u101,u102,u103,u104,u105,u106,u107,u108,u109,u110,u111,u112,u113,u114,u115,u116,u117,u118,u119,u120,u121,u122,u123,u124,u125,u126,u127,u128,u129,u130,u131,u132,u133,u134,u135,u136,u137,u138,u139,u140,u141,u142,u143,u144,u145,u146,u147,u148,u149,u150,u151,u152,u153,u154,u155,u156,u157,u158,u159,u160,u161,u162,u163,u164,u165,u166,u167,u168,u169,u170,u171,u172,u173,u174,u175,u176,u177,u178,u179,u180,u181,u182,u183,u184,u185,u186,u187,u188,u189,u190,u191,u192,u193,u194,u195,u196,u197,u198,u199,u200,u201,u202],[]⟩
def WGmu(n:Nat)(a:Act)(_:World):Nat:=n-(intOf (a.tmps.getD 30 undef)).toNat
end Go.Proofs.Ytbboabfmoahipaa
