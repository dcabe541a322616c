/-
  For all events, rentrollkeep.RecordHeld returns true: where Owners goes well each block is his of whom its last event says so, else nobody has any;the table record.parts is as the program's text lays it (tied);no condition but the form's own reach.
-/
import Derived.Test.YtnhafdkfjjplkaaDoorCards
import Derived.Test.YtnhafdkfjjplkaaDoorTie
import Derived.ShutString
import Derived.Carry
import Derived.Test.YtnhafdkfjjplkaaDoorZrr7
namespace Go.Proofs.YtnhafdkfjjplkaaDoor.recordHeld
open Go.ChangeShapes Go.WideShapes Go.ChangeAt Go.RowKit
open Go.ChangeMaps (open_string shut_string)
set_option linter.unusedVariables false
set_option linter.unusedSimpArgs false
theorem own:ownKnob Tryd.prog.godebug=none:=by kernel_rfl
theorem contract(H:Type)(enc:TypeId×Value->H)(W:World)(base:Nat)(args:Array Value)(ds gs:List (DataW H))(before:List MemPlace)(hval0:∀(j:Nat) t v,Tryd.f7.params[j]?=some t->args[j]?=some v->Value.okWide Tryd.prog W .any base t v)(hW:DataW.Whole enc Tryd.prog Tryd.f7.params.toList Rows.recordHeldSpec.vars false W args.toList ds gs before)(hsz0:(DataW.weightsEach Tryd.prog (Tryd.f7.params.toList++(OpenSpec.ofChange Rows.recordHeldSpec).bare.plain.varTypes Tryd.prog) (ds++gs)).all (·<=reachBytes)=true)(hL:laidMetH Tryd.prog Rows.recordHeldRow.laid W):
  Calls Tryd.prog 7 args W fun e W'=>∃v,e=.returned v/\Rows.recordHeldSpec.post enc Tryd.prog Tryd.f7 false true false false W args v W':=by
 have hval:∀(j:Nat) t v,Tryd.f7.params[j]?=some t->args[j]?=some v->Value.okWide Tryd.prog W .any base t v:=hval0;have hW':=hW;have hT:Tab W:=qm9 hL
 obtain⟨p,q,hA0,hV,rfl,hfz,hnd⟩:=hW
 have hA:DataW.TrodAll enc Tryd.prog W 0 (fun _=>true) true Tryd.f7.params.toList args.toList ds p:=hA0;have hsz:=hsz0
 rw[Tryd.params7] at hA hval hsz
 obtain⟨v0,vs0,d0,ds0,p0,q0,hargs,rfl,rfl,h0,r0⟩:=trodAll_cons hA
 obtain⟨rfl,rfl,rfl⟩:=trodAll_nil r0
 obtain rfl:args=#[v0]:=by cases args;simp_all
 obtain⟨rfl,rfl⟩:=trodVars_none hV
 refine m23 ?_;intro hw0 fuel0 hf0 sl0 es0 hl0 hS0 s0 n0 c0 hsl0
 subst hsl0
 (have hv0:Value.slice s0 n0 c0=sl0:=by simpa[Value.cells] using hl0)
 subst hv0
 clear hA0 hval0
 simp only[List.append_nil,List.nil_append] at hW'
 (have hlt0:∀x∈p0,x.block<W.heap.size:=fun x hx=>by simpa using hW'.lt x (by simp[hx]))
 refine(recordHeld_walk _ es0 W hS0 hT).mono fun e W' ⟨he,bel⟩=>?_
 subst he
 refine m1u ?_;intro h0' hall
 simp only[List.append_nil,List.nil_append] at hall
 exact⟨_,rfl,_,_,_,[],p0,[],hW',trodAll_mk1 (shut_bool Tryd.underlying4 _),hall,rfl,bel.frame _,fun h=>by cases h⟩
theorem laid_met(os:Os):laidMet Tryd.prog Rows.recordHeldRow.laid ((qdf Tryd.prog os).forCall (fun _ _=>0) ⟨#[],#[.slice none 0 0],[]⟩).memory:=
 laidMet_of_run' 8 (by kernel_rfl) (by kernel_rfl)
theorem reads(os:Os){H:Type}(enc:TypeId×Value->H):∃places,DataW.whole enc Tryd.prog ((qdf Tryd.prog os).forCall (fun _ _=>0) ⟨#[],#[.slice none 0 0],[]⟩).memory Tryd.f7.params.toList Rows.recordHeldSpec.vars false #[(.slice none 0 0:Value)].toList 8=some ([.nil],[],places):=
 ⟨[],by kernel_rfl⟩
set_option maxRecDepth 100000 in
theorem lifted(os:Os)(started:os.Started)(H:Type)(enc:TypeId×Value->H)(F:Stop.Interp):
  ReturnsInHanded {} Tryd.checked os 7 .any ((OpenSpec.ofChange Rows.recordHeldSpec).preRow enc Tryd.prog Tryd.f7 Rows.recordHeldRow.domain false Rows.recordHeldRow.laid) (((OpenSpec.ofChange Rows.recordHeldSpec).at F).post enc Tryd.prog Tryd.f7 false true false false):=by
 obtain⟨places,hx⟩:=reads os enc
 refine returnsInHanded_of_row (C:=Tryd.checked) (s:=OpenSpec.ofChange Rows.recordHeldSpec) own started (by kernel_rfl) Tryd.func7
  (witness_row_at (enc:=enc) (C:=Tryd.checked) false (qdf Tryd.prog os) #[.slice none 0 0] rfl (by kernel_rfl) (by kernel_rfl) (by kernel_rfl)
   (OpenSpec.preRow_of_cond 8 hx (by kernel_rfl) (fun k hk=>by cases hk) (by kernel_rfl) (laid_met os))) ?_
 intro W base args ds gs before hval hW _ _ hsz hL _ _
 exact contract H enc W base args ds gs before hval hW hsz hL
theorem said:Rows.RecordHeldSaid:=
 OpenClaim.holds_of_cond 7 Tryd.f7 rfl rfl rfl rfl rfl rfl rfl ⟨rfl,rfl,rfl,rfl,rfl⟩ rfl rfl rfl rfl rfl (by kernel_rfl) Tryd.func7 (by kernel_rfl)
  (of_decide_eq_true (by kernel_rfl)) (by unfold Func.isWrapper;first|(rw[if_pos (by decide +kernel)];kernel_rfl)|(rw[if_neg (by decide +kernel)];exact⟨rfl,rfl⟩))
  (fun os started H enc _ F=>by rw[OpenClaim.pre_eq_preRow];exact lifted os started H enc F)
theorem plain(f : FuncId)(fn : Func)(hf : Tryd.pinned.checked.prog.funcNamed "rentroll/rentrollkeep.RecordHeld" = some f)(hfn : Tryd.pinned.checked.prog.funcs[f]? = some fn):
  false=Tryd.pinned.checked.prog.looks []/\∀(j:Nat) t,fn.params[j]?=some t->Tryd.pinned.checked.prog.wantsStandIn t=false:=by
 obtain rfl : f = 7 := Option.some.inj ((show Tryd.prog.funcNamed "rentroll/rentrollkeep.RecordHeld" = some 7 by kernel_rfl).symm.trans hf) |>.symm
 obtain rfl:fn=Tryd.f7:=(Option.some.inj (Tryd.func7.symm.trans hfn)).symm
 refine⟨by kernel_rfl,fun j t ht=>?_⟩
 rw[Tryd.params7] at ht
 refine m30 ?_;intro hm hall
 exact(show Tryd.prog.wantsStandIn t=false by simpa using List.all_eq_true.1 hall t hm)
theorem card:Rows.RecordHeldCardSaid:=
 Claim7.holds_tied_plain_at .later [] _ _ _ _ said (fun _ h=>by cases h) (by kernel_rfl) (fun _ h=>by cases h) recordHeld_row_tie rfl ⟨rfl,rfl⟩ (by kernel_rfl) rfl plain (by kernel_rfl)
end Go.Proofs.YtnhafdkfjjplkaaDoor.recordHeld
namespace Go.Proofs.YtnhafdkfjjplkaaDoor
theorem recordHeld_card:Rows.RecordHeldCardSaid:=recordHeld.card
#print axioms recordHeld_card
end Go.Proofs.YtnhafdkfjjplkaaDoor
