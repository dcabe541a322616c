/-
  Of what a law stands on.
-/
import Derived.BigCall
import Derived.Test.YtonnjgmognbnbaaGreatDoorZtn10
set_option linter.unusedSimpArgs false
set_option linter.unusedVariables false
namespace Go.Proofs.YtonnjgmognbnbaaGreatDoor
open Go.Value renaming int → I,pointer → V
open Go.IntKind renaming i64 → Z
open _root_.Go.Proofs.Tryz Go.ChangeShapes Go.WideShapes Go.ChangeAt Go.RowKit Go.Maps
set_option maxHeartbeats 16000000
set_option maxRecDepth 100000
variable {s:Nt}{tm:Int->Option Int}
theorem q55{o:Oper}{a:Act}{w:World}{K:Act->World->Prop}{Q:Exit->Act->World->Prop}(f:Operand)(xs:Array Operand)(ats:Array TypeId)(ho:o.op=.call { callee:=.value f,args:=xs,argTypes:=ats })(lf:FuncId)(caps args:Array Value)(hf:a.eval f=.func (.func lf) #[] caps)(hxs:xs.map a.eval=args)(hen:∀(args:Array Value) (w:World),(callFunc lf args).run prog w=.ok (.enter lf args) w)(hC:Calls prog lf (args++caps) w fun e w'=>∃v,e=.returned v/\K (a.put o.dst v) w'):o.wp prog a w K Q:=by
 unfold Oper.wp execOp
 simp only[ho,resolve,hf,Deferred.ofValue,Sem.run_bind,Sem.run_pure,Result.andThen_ok,invoke,hxs,Array.empty_append]
 rw[hen,Oper.upon_enter];refine hC.mono ?_
 rintro e w' ⟨v,rfl,h⟩
 exact h
structure Look(loose:Bool)(lf:FuncId)(caps:Array Value)(J:List Ac->(Nat->Prop)->World->Prop):Prop where
 enters:∀(args:Array Value) (w:World),(callFunc lf args).run prog w=.ok (.enter lf args) w
 keep:∀ {l:List Ac} {G H:Nat->Prop} {W W':World},J l G W->Gr H W W'->(∀c,H c->¬G c)->J l G W'
 bd:∀ {l:List Ac} {G:Nat->Prop} {W:World},J l G W->∀c,G c->c<W.heap.size
 call:∀ {l:List Ac} {a:Ac} {W:World} {b:Nat} {F G:Nat->Prop},l.length<100->a.ok->qaw W b (((nt0 loose).runs l).act a).2 (duF (((nt0 loose).runs l).act a).2.fs) F->Tab W->¬F 0->(∀c,F c->¬G c)->J l G W->
  Calls prog lf (#[V (some ⟨b,0,none⟩),.agg (ac a),.agg (((nt0 loose).runs l).act a).1.cells]++caps) W fun e w'=>e=.returned (.bool true)/\∃G',J (l++[a]) G' w'/\Gr G W w'/\∀c,G' c->G c\/W.heap.size<=c
structure Pl(loose:Bool)(J:List Ac->(Nat->Prop)->World->Prop)(G0:Nat->Prop)(w W:World)(b:Nat)(l:List Ac)(F G:Nat->Prop):Prop where
 nat:qaw W b ((nt0 loose).runs l) (duF ((nt0 loose).runs l).fs) F
 bd:∀c,F c->c<W.heap.size
 new:∀c,F c->w.heap.size<=c
 j:J l G W
 gs:∀c,G c->G0 c\/w.heap.size<=c
 dis:∀c,F c->¬G c
 gr:Gr G0 w W
section
variable {loose:Bool} {lf:FuncId} {caps:Array Value} {J:List Ac->(Nat->Prop)->World->Prop} {G0 F G F' G':Nat->Prop} {w W W' W2:World} {b:Nat} {l:List Ac} {a:Ac} {L:List (Nat×Obj)}
theorem Pl.start(K:Look loose lf caps J)(hJ:J [] G0 w)(hN:qaw W b (nt0 loose) (duF (nt0 loose).fs) (fun c=>c=b))(hb:w.heap.size<=b)(hB:Below w.heap.size w W):Pl loose J G0 w W b [] (fun c=>c=b/\c<W.heap.size) G0:=by
 refine⟨hN.bound,fun c hc=>hc.2,fun c hc=>by rw[hc.1];exact hb,K.keep (H:=fun _=>False) hJ (Gr.of_below hB) (fun _ h=>h.elim),fun c hc=>.inl hc,fun c hc hg=>?_,Gr.of_below hB⟩
 have:=K.bd hJ c hg
 have e:=hc.1
 omega
theorem Pl.other(h:Pl loose J G0 w W b l F G)(K:Look loose lf caps J)(N:Nb W W' b s tm F F' L):∀c,F' c->¬G c:=fun c hc hg=>by
 rcases N.sub c hc with h1|h1
 ·exact h.dis c h1 hg
 ·have:=K.bd h.j c hg;omega
theorem Pl.look(h:Pl loose J G0 w W b l F G)(K:Look loose lf caps J)(N:Nb W W' b s tm F F' L):J l G W':=K.keep h.j N.gr h.dis
theorem Pl.step(h:Pl loose J G0 w W b l F G)(K:Look loose lf caps J)(N:Nb W W' b (((nt0 loose).runs l).act a).2 (duF (((nt0 loose).runs l).act a).2.fs) F F' L)(hJ:J (l++[a]) G' W2)(hg:Gr G W' W2)(hG:∀c,G' c->G c\/W'.heap.size<=c):Pl loose J G0 w W2 b (l++[a]) F' G':=by
 have ho:=h.other K N
 refine⟨?_,fun c hc=>Nat.lt_of_lt_of_le (N.bd c hc) hg.size,fun c hc=>?_,hJ,fun c hc=>?_,fun c hc hg'=>?_,?_⟩
 ·rw[qih];exact N.nat.keep hg ho
 ·rcases N.sub c hc with h1|h1
  ·exact h.new c h1
  ·exact Nat.le_trans h.gr.size h1
 ·rcases hG c hc with h1|h1
  ·exact h.gs c h1
  ·exact .inr (Nat.le_trans (Nat.le_trans h.gr.size N.gr.size) h1)
 ·rcases hG c hg' with h1|h1
  ·exact ho c hc h1
  ·have:=N.bd c hc;omega
 ·exact(h.gr.trans N.gr (fun x hx=>.inr (h.new x hx))).trans hg h.gs
theorem Pl.drew(h:Pl loose J G0 w W b l F G)(K:Look loose lf caps J):Pl loose J G0 w W.drew b l F G:=
 ⟨h.nat.below (Below.refl _ _).drew,h.bd,h.new,K.keep (H:=fun _=>False) h.j (Gr.of_below (Below.refl _ _).drew) (fun _ h=>h.elim),h.gs,h.dis,h.gr.drew⟩
end
end Go.Proofs.YtonnjgmognbnbaaGreatDoor
