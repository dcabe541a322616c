/-
  For every number and events, rentrolllaw.RecordTells returns true: Good, Template and Message answer exactly what the document's do, errors too;the table record.parts is as the program's text lays it (tied);no condition but the form's own reach.
-/
import Derived.Test.YtnhafdkfjjplkaaDoorCards
import Derived.Test.YtnhafdkfjjplkaaDoorTie
import Derived.ShutString
import Derived.Carry
import Derived.Test.YtnhafdkfjjplkaaDoorZrr2
namespace Go.Proofs.YtnhafdkfjjplkaaDoor.recordTells
open Go.Value renaming int → I,pointer → V
open Go.IntKind renaming i64 → Z
open Go.ChangeShapes Go.WideShapes Go.ChangeAt Go.RowKit
open Go.ChangeMaps (open_string shut_string)
set_option linter.unusedVariables false
set_option linter.unusedSimpArgs false
theorem own:ownKnob Tryd.prog.godebug=none:=by kernel_rfl
theorem contract(H:Type)(enc:TypeId×Value->H)(W:World)(base:Nat)(args:Array Value)(ds gs:List (DataW H))(before:List MemPlace)(hval0:∀(j:Nat) t v,Tryd.f3.params[j]?=some t->args[j]?=some v->Value.okWide Tryd.prog W .any base t v)(hW:DataW.Whole enc Tryd.prog Tryd.f3.params.toList Rows.recordTellsSpec.vars false W args.toList ds gs before)(hsz0:(DataW.weightsEach Tryd.prog (Tryd.f3.params.toList++(OpenSpec.ofChange Rows.recordTellsSpec).bare.plain.varTypes Tryd.prog) (ds++gs)).all (·<=reachBytes)=true)(hL:laidMetH Tryd.prog Rows.recordTellsRow.laid W):
  Calls Tryd.prog 3 args W fun e W'=>∃v,e=.returned v/\Rows.recordTellsSpec.post enc Tryd.prog Tryd.f3 false true false false W args v W':=by
 have hval:∀(j:Nat) t v,Tryd.f3.params[j]?=some t->args[j]?=some v->Value.okWide Tryd.prog W .any base t v:=hval0;have hW':=hW;have hT:Tab W:=qm9 hL
 obtain⟨p,q,hA0,hV,rfl,hfz,hnd⟩:=hW
 have hA:DataW.TrodAll enc Tryd.prog W 0 (fun _=>true) true Tryd.f3.params.toList args.toList ds p:=hA0;have hsz:=hsz0
 rw[Tryd.params3] at hA hval hsz
 obtain⟨v0,vs0,d0,ds0,p0,q0,hargs,rfl,rfl,h0,r0⟩:=trodAll_cons hA
 obtain⟨v1,vs1,d1,ds1,p1,q1,rfl,rfl,rfl,h1,r1⟩:=trodAll_cons r0
 obtain⟨rfl,rfl,rfl⟩:=trodAll_nil r1
 obtain rfl:args=#[v0,v1]:=by cases args;simp_all
 obtain⟨rfl,rfl⟩:=trodVars_none hV
 obtain⟨a0,rfl,rfl,rfl,w0⟩:=open_int Tryd.underlying3 (hval 0 3 v0 rfl rfl) h0
 (have hw1:∀y∈d1.weights Tryd.prog 22,y<=reachBytes:=fun y hy=>of_decide_eq_true (List.all_eq_true.1 hsz _ (DataW.weights_mem_each (j:=1) rfl rfl y hy)));obtain⟨fuel1,hf1⟩:=id h1;obtain⟨sl1,es1,hl1,hS1⟩:=q0jb hf1 hw1;obtain⟨s1,n1,c1,hsl1⟩:=okWide_slice Tryd.underlying22 (hval 1 22 v1 rfl rfl)
 subst hsl1
 (have hv1:Value.slice s1 n1 c1=sl1:=by simpa[Value.cells] using hl1)
 subst hv1
 clear hA0 hval0
 simp only[List.append_nil,List.nil_append] at hW'
 (have hlt1:∀x∈p1,x.block<W.heap.size:=fun x hx=>by simpa using hW'.lt x (by simp[hx]))
 refine(recordTells_walk a0 _ es1 W w0 hS1 hT).mono fun e W' ⟨he,bel⟩=>?_
 subst he
 have h1':=Below.trod (by kernel_rfl) (by kernel_rfl) (of_decide_eq_true (by kernel_rfl)) h1 bel hlt1;have hall:=(trodAll_cons_mk (shut_int Tryd.underlying3 w0) (trodAll_cons_mk (h1') trodAll_mk0))
 simp only[List.append_nil,List.nil_append] at hall
 exact⟨_,rfl,_,_,_,[],p1,[],hW',trodAll_mk1 (shut_bool Tryd.underlying4 _),hall,rfl,bel.frame _,fun h=>by cases h⟩
theorem laid_met(os:Os):laidMet Tryd.prog Rows.recordTellsRow.laid ((qdf Tryd.prog os).forCall (fun _ _=>0) ⟨#[],#[I Z 0,.slice none 0 0],[]⟩).memory:=
 laidMet_of_run' 8 (by kernel_rfl) (by kernel_rfl)
theorem reads(os:Os){H:Type}(enc:TypeId×Value->H):∃places,DataW.whole enc Tryd.prog ((qdf Tryd.prog os).forCall (fun _ _=>0) ⟨#[],#[.int .i64 0,.slice none 0 0],[]⟩).memory Tryd.f3.params.toList Rows.recordTellsSpec.vars false #[(.int .i64 0:Value),(.slice none 0 0:Value)].toList 8=some ([.lit (.int .i64 0),.nil],[],places):=
 ⟨[],by kernel_rfl⟩
set_option maxRecDepth 100000 in
theorem lifted(os:Os)(started:os.Started)(H:Type)(enc:TypeId×Value->H)(F:Stop.Interp):
  ReturnsInHanded {} Tryd.checked os 3 .any ((OpenSpec.ofChange Rows.recordTellsSpec).preRow enc Tryd.prog Tryd.f3 Rows.recordTellsRow.domain false Rows.recordTellsRow.laid) (((OpenSpec.ofChange Rows.recordTellsSpec).at F).post enc Tryd.prog Tryd.f3 false true false false):=by
 obtain⟨places,hx⟩:=reads os enc
 refine returnsInHanded_of_row (C:=Tryd.checked) (s:=OpenSpec.ofChange Rows.recordTellsSpec) own started (by kernel_rfl) Tryd.func3
  (witness_row_at (enc:=enc) (C:=Tryd.checked) false (qdf Tryd.prog os) #[I Z 0,.slice none 0 0] rfl (by kernel_rfl) (by kernel_rfl) (by kernel_rfl)
   (OpenSpec.preRow_of_cond 8 hx (by kernel_rfl) (fun k hk=>by cases hk) (by kernel_rfl) (laid_met os))) ?_
 intro W base args ds gs before hval hW _ _ hsz hL _ _
 exact contract H enc W base args ds gs before hval hW hsz hL
theorem said:Rows.RecordTellsSaid:=
 OpenClaim.holds_of_cond 3 Tryd.f3 rfl rfl rfl rfl rfl rfl rfl ⟨rfl,rfl,rfl,rfl,rfl⟩ rfl rfl rfl rfl rfl (by kernel_rfl) Tryd.func3 (by kernel_rfl)
  (of_decide_eq_true (by kernel_rfl)) (by unfold Func.isWrapper;first|(rw[if_pos (by decide +kernel)];kernel_rfl)|(rw[if_neg (by decide +kernel)];exact⟨rfl,rfl⟩))
  (fun os started H enc _ F=>by rw[OpenClaim.pre_eq_preRow];exact lifted os started H enc F)
theorem plain(f : FuncId)(fn : Func)(hf : Tryd.pinned.checked.prog.funcNamed "rentroll/rentrolllaw.RecordTells" = some f)(hfn : Tryd.pinned.checked.prog.funcs[f]? = some fn):
  false=Tryd.pinned.checked.prog.looks []/\∀(j:Nat) t,fn.params[j]?=some t->Tryd.pinned.checked.prog.wantsStandIn t=false:=by
 obtain rfl : f = 3 := Option.some.inj ((show Tryd.prog.funcNamed "rentroll/rentrolllaw.RecordTells" = some 3 by kernel_rfl).symm.trans hf) |>.symm
 obtain rfl:fn=Tryd.f3:=(Option.some.inj (Tryd.func3.symm.trans hfn)).symm
 refine⟨by kernel_rfl,fun j t ht=>?_⟩
 rw[Tryd.params3] at ht
 (have hm:t∈[3,22]:=by simpa using Array.mem_of_getElem? ht);(have hall:([3,22].all fun u=>!Tryd.prog.wantsStandIn u)=true:=by kernel_rfl)
 exact(show Tryd.prog.wantsStandIn t=false by simpa using List.all_eq_true.1 hall t hm)
theorem card:Rows.RecordTellsCardSaid:=
 Claim7.holds_tied_plain_at .later [] _ _ _ _ said (fun _ h=>by cases h) (by kernel_rfl) (fun _ h=>by cases h) recordTells_row_tie rfl ⟨rfl,rfl⟩ (by kernel_rfl) rfl plain (by kernel_rfl)
end Go.Proofs.YtnhafdkfjjplkaaDoor.recordTells
namespace Go.Proofs.YtnhafdkfjjplkaaDoor
theorem recordTells_card:Rows.RecordTellsCardSaid:=recordTells.card
#print axioms recordTells_card
end Go.Proofs.YtnhafdkfjjplkaaDoor
