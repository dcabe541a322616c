/-
  Of what a law stands on.
-/
import Derived.Test.YtnkpgdejagglaaaGreatDoorZyk5
set_option linter.all false
namespace Go.Proofs.YtnkpgdejagglaaaGreatDoor
open _root_.Go renaming Operand->aU,Value->ag,World->af,wpList->aM,wpList_plain->bP
open _root_.Go.World renaming cell?->cS,ownsRow_nil->oy
open _root_.List renaming flatMap_append->nD,length_append->aY,length_cons->bU,map_cons->aB,map_nil->aI,map_toArray->dx
open _root_.Nat renaming le_refl->au,zero_add->bX
open Go.Value renaming int → I,pointer → V
open Go.IntKind renaming i64 → Z
open _root_.Go.Proofs.Tryz Go.ChangeShapes Go.WideShapes Go.ChangeAt Go.RowKit
set_option maxHeartbeats 16000000
set_option maxRecDepth 100000
variable {w w':World}{b base:Nat}{tm:Int->Option Int}{F:Nat->Prop}{v:Value}{p:Prop}{k:Fl}{ops:Array Oper}{rest:List Oper}{o:Oper}{a:Act}{Q:Exit->Act->World->Prop}{es:List Ac}
section
open Go.Maps
theorem q9l(k:Ac):(rk k).toArray=ac k:=rfl
def qv8(k:Ac):(prog.info? 32).map (·.size)=some (rk k).length:=by kernel_rfl
end
def Nt.il(s:Nt):List Ac->List Rp
 | []=>[]
 | a::r=>(s.act a).1::(s.act a).2.il r
theorem FZ(s:Nt)(l:List Ac):(s.il l).length=l.length:=by
 induction l generalizing s with
 | nil=>rfl
 | cons a r ih=>unfold Nt.il;rw[bU,bU,ih]
theorem qhB(s:Nt)(l:List Ac)(a:Ac):s.il (l++[a])=s.il l++[((s.runs l).act a).1]:=by
 induction l generalizing s with
 | nil=>rfl
 | cons b r ih=>
  have e:s.runs (b::r)=((s.act b).2).runs r:=rfl;rw[e,List.cons_append]
  unfold Nt.il
  rw[ih,List.cons_append]
section
open Go.Maps
def qhC:(prog.info? 29).map (fun i=>(i.zero,i.size,i.bytes))=some (some (.agg (eZ 0).cells),4,48):=by kernel_rfl
theorem qhD(ks:List Rp)(k:Rp):(ks++[k]).flatMap (fun k:Rp=>k.cells.toList)=ks.flatMap (fun k:Rp=>k.cells.toList)++k.cells.toList:=by rw[nD];simp
def qhE{ks:List Rp}{k:Rp}(h:nK w base v ks)(R:aP 29 w b k.cells)(hl:ks.length<=5000000)(hbase:base<=w.heap.size)(ty:TypeId):
  ∃v' w',(Builtin.append_ #[52,52] ty #[v,.slice (some ⟨b,0,none⟩) 1 1]).run prog w=.ok v' w'/\nK w' base v' (ks++[k])/\dC v v' w w':=by
 obtain⟨i0,hi,hz0,hz1,hz2⟩:=info_parts qhC
 obtain⟨v',w',h1,h2,h3,_,h5⟩:=run_append_own_at (P:=prog) w base 52 ty 29 i0 (.agg (eZ 0).cells) 4 48 underlying52 hi hz0 hz1 hz2 rfl (by decide) v ks.length (ks.flatMap fun k:Rp=>k.cells.toList) h ⟨b,0,none⟩ 1 1 k.cells.toList rfl
  (fun j u hu=>by rw[Addr.add_lit,bX];exact(R.cell j).trans (by simpa using hu)) (fun u hu=>(Array.all_eq_true_iff_forall_mem.1 (qah k)) u (by simpa using hu)) (by unfold maxLen;omega) om hbase
 refine⟨v',w',h1,?_,⟨h3,?_⟩⟩
 .unfold nK;rw[qhD,aY];exact h2
 .rcases h5 with e|e
  .exact .inl e
  .exact .inr ⟨_,e,au _⟩
theorem qhF(k:Rp)(w:af):(Instr.buildSlice 52 1 #[(0,.agg k.cells)]).run prog w=.ok (.slice (some ⟨w.heap.size,0,none⟩) 1 1) (w.alloc (.cells k.cells 29)):=by
 obtain⟨a,b,c,d⟩:=k
 kernel_rfl
def qhG(hgd:o.guard=none)(x:aU)(ho:o.op=.buildSlice 52 1 #[(0,x)])(k:Rp)(hx:a.eval x=.agg k.cells)(hr:∀b w',w.heap.size<=b->aP 29 w' b k.cells->Below w.heap.size w w'->aM prog ops Q rest (a.put o.dst (.slice (some ⟨b,0,none⟩) 1 1)) w'):aM prog ops Q (o::rest) a w:=
 bP hgd fun K hK=>by
  have h':=hr w.heap.size (w.alloc (.cells k.cells 29)) (au _) (aP.new _ w _) ((Below.refl _ _).alloc (au _) _)
  unfold Oper.wp execOp
  simp only[ho,dx,aB,aI,hx,Sem.run_bind,qhF,Result.andThen_ok,Sem.run_pure]
  exact hK _ _ h'
def qhH(hgd:o.guard=none)(s x:aU)(ho:o.op=.call { callee:=.builtin .append,args:=#[s,x],argTypes:=#[52,52] }){ks:List Rp}{k:Rp}(h:nK w base v ks)(R:aP 29 w b k.cells)(hs:a.eval s=v)(hx:a.eval x=.slice (some ⟨b,0,none⟩) 1 1)(hl:ks.length<=5000000)(hbase:base<=w.heap.size)(hr:∀v' w',nK w' base v' (ks++[k])->dC v v' w w'->aM prog ops Q rest (a.put o.dst v') w'):aM prog ops Q (o::rest) a w:=
 bP hgd fun K hK=>by
  obtain⟨v',w',h1,h2,h3⟩:=qhE h R hl hbase o.type
  exact xy
end
end Go.Proofs.YtnkpgdejagglaaaGreatDoor
