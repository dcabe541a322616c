/-
  For every list of acts, what goes out comes from the port that stands for its sender's, and is otherwise as it was, its time to live one less;no condition but the form's own reach.
-/
import Derived.Test.YtonnjgmognbnbaaGreatDoorTie
import Derived.Carry
import Derived.Test.YtonnjgmognbnbaaGreatDoorZtTpU
import Derived.Test.YtonnjgmognbnbaaGreatDoorZtTopOutC
namespace Go.Proofs.YtonnjgmognbnbaaGreatDoor.topOut
open Go.ChangeShapes Go.WideShapes Go.ChangeAt Go.RowKit
open Go.ChangeMaps (open_string shut_string)
set_option linter.unusedVariables false
set_option linter.unusedSimpArgs false
set_option maxRecDepth 100000
theorem own:ownKnob Tryz.prog.godebug=none:=by kernel_rfl
theorem contract(H:Type)(enc:TypeId×Value->H)(W:World)(base:Nat)(args:Array Value)(ds gs:List (DataW H))(before:List MemPlace)(hval0:∀(j:Nat) t v,Tryz.f6.params[j]?=some t->args[j]?=some v->Value.okWide Tryz.prog W .any base t v)(hW:DataW.Whole enc Tryz.prog Tryz.f6.params.toList Rows.topOutSpec.vars false W args.toList ds gs before)(hsz0:(DataW.weightsEach Tryz.prog (Tryz.f6.params.toList++(OpenSpec.ofChange Rows.topOutSpec).bare.plain.varTypes Tryz.prog) (ds++gs)).all (·<=reachBytes)=true)(hL:laidMetH Tryz.prog Rows.topOutRow.laid W):
  Calls Tryz.prog 6 args W fun e W'=>∃v,e=.returned v/\Rows.topOutSpec.post enc Tryz.prog Tryz.f6 false true false false W args v W':=by
 have hval:∀(j:Nat) t v,Tryz.f6.params[j]?=some t->args[j]?=some v->Value.okWide Tryz.prog W .any base t v:=hval0
 have hW':=hW
 have hT:Tab W:=qm9 hL
 obtain⟨p,q,hA0,hV,rfl,hfz,hnd⟩:=hW
 have hA:DataW.TrodAll enc Tryz.prog W 0 (fun _=>true) true Tryz.f6.params.toList args.toList ds p:=hA0
 have hsz:=hsz0
 rw[Tryz.params6] at hA hval hsz
 obtain⟨v0,vs0,d0,ds0,p0,q0,hargs,rfl,rfl,h0,r0⟩:=trodAll_cons hA
 obtain⟨v1,vs1,d1,ds1,p1,q1,rfl,rfl,rfl,h1,r1⟩:=trodAll_cons r0
 obtain⟨rfl,rfl,rfl⟩:=trodAll_nil r1
 obtain rfl:args=#[v0,v1]:=by cases args;simp_all
 obtain⟨rfl,rfl⟩:=trodVars_none hV
 obtain⟨a0,rfl,rfl,rfl⟩:=open_bool Tryz.underlying4 (hval 0 4 v0 rfl rfl) h0
 have hw1:∀y∈d1.weights Tryz.prog 44,y<=reachBytes:=fun y hy=>of_decide_eq_true (List.all_eq_true.1 hsz _ (DataW.weights_mem_each (j:=1) rfl rfl y hy))
 obtain⟨fuel1,hf1⟩:=id h1
 obtain⟨sl1,es1,hl1,hS1⟩:=qik hf1 hw1
 obtain⟨s1,n1,c1,hsl1⟩:=okWide_slice Tryz.underlying44 (hval 1 44 v1 rfl rfl)
 subst hsl1
 have hv1:Value.slice s1 n1 c1=sl1:=by simpa[Value.cells] using hl1
 subst hv1
 clear hA0 hval0
 simp only[List.append_nil,List.nil_append] at hW'
 have hlt1:∀x∈p1,x.block<W.heap.size:=fun x hx=>by simpa using hW'.lt x (by simp[hx])
 refine(topOut_walk a0 _ es1 W hS1 hT).mono fun e W' ⟨he,bel⟩=>?_
 subst he
 have h1':=Below.trod (by kernel_rfl) (by kernel_rfl) (of_decide_eq_true (by kernel_rfl)) h1 bel hlt1
 have hall:=(trodAll_cons_mk (shut_bool Tryz.underlying4 a0) (trodAll_cons_mk (h1') trodAll_mk0))
 simp only[List.append_nil,List.nil_append] at hall
 exact⟨_,rfl,_,_,_,[],p1,[],hW',trodAll_mk1 (shut_bool Tryz.underlying4 _),hall,rfl,bel.frame _,fun h=>by cases h⟩
theorem laid_met(os:Os):laidMet Tryz.prog Rows.topOutRow.laid ((qdf Tryz.prog os).forCall (fun _ _=>0) ⟨#[],#[.bool false,.slice none 0 0],[]⟩).memory:=
 laidMet_of_run' 8 (by kernel_rfl) (by kernel_rfl)
theorem reads(os:Os){H:Type}(enc:TypeId×Value->H):∃places,DataW.whole enc Tryz.prog ((qdf Tryz.prog os).forCall (fun _ _=>0) ⟨#[],#[.bool false,.slice none 0 0],[]⟩).memory Tryz.f6.params.toList Rows.topOutSpec.vars false #[(.bool false:Value),(.slice none 0 0:Value)].toList 8=some ([.lit (.bool false),.nil],[],places):=
 ⟨[],by kernel_rfl⟩
set_option maxRecDepth 100000 in
theorem lifted(os:Os)(started:os.Started)(H:Type)(enc:TypeId×Value->H)(F:Stop.Interp):
  ReturnsInHanded {} Tryz.checked os 6 .any ((OpenSpec.ofChange Rows.topOutSpec).preRow enc Tryz.prog Tryz.f6 Rows.topOutRow.domain false Rows.topOutRow.laid) (((OpenSpec.ofChange Rows.topOutSpec).at F).post enc Tryz.prog Tryz.f6 false true false false):=by
 obtain⟨places,hx⟩:=reads os enc
 refine returnsInHanded_of_row (C:=Tryz.checked) (s:=OpenSpec.ofChange Rows.topOutSpec) own started (by kernel_rfl) Tryz.func6
  (witness_row_at (enc:=enc) (C:=Tryz.checked) false (qdf Tryz.prog os) #[.bool false,.slice none 0 0] rfl (by kernel_rfl) (by kernel_rfl) (by kernel_rfl)
   (OpenSpec.preRow_of_cond 8 hx (by kernel_rfl) (fun k hk=>by cases hk) (by kernel_rfl) (laid_met os))) ?_
 intro W base args ds gs before hval hW _ _ hsz hL _ _
 exact contract H enc W base args ds gs before hval hW hsz hL
theorem cFn : Tryz.prog.funcNamed "rentroll/rentrolltop.TopOut" = some 6 := by kernel_rfl
theorem cInst:Tryz.f6.isInstance Tryz.prog Rows.topOutRow.origin Rows.topOutRow.targs:=of_decide_eq_true (by kernel_rfl)
theorem cWrap:Tryz.f6.isWrapper Tryz.prog Rows.topOutRow.wrapper Rows.topOutRow.mainSum:=(by unfold Func.isWrapper;first|(rw[if_pos (by decide +kernel)];kernel_rfl)|(rw[if_neg (by decide +kernel)];exact⟨rfl,rfl⟩))
theorem said:Rows.TopOutSaid:=
 OpenClaim.holds_of_cond 6 Tryz.f6 rfl rfl rfl rfl rfl rfl rfl ⟨rfl,rfl,rfl,rfl,rfl⟩ rfl rfl rfl rfl rfl cFn Tryz.func6 qxxb
  cInst cWrap
  (fun os started H enc _ F=>by rw[OpenClaim.pre_eq_preRow];exact lifted os started H enc F)
theorem plain(f : FuncId)(fn : Func)(hf : Tryz.pinned.checked.prog.funcNamed "rentroll/rentrolltop.TopOut" = some f)(hfn : Tryz.pinned.checked.prog.funcs[f]? = some fn):
  false=Tryz.pinned.checked.prog.looks []/\∀(j:Nat) t,fn.params[j]?=some t->Tryz.pinned.checked.prog.wantsStandIn t=false:=by
 obtain rfl:f=6:=Option.some.inj (cFn.symm.trans hf) |>.symm
 obtain rfl:fn=Tryz.f6:=(Option.some.inj (Tryz.func6.symm.trans hfn)).symm
 refine⟨by kernel_rfl,fun j t ht=>?_⟩
 rw[Tryz.params6] at ht
 have hm:t∈[4,44]:=by simpa using Array.mem_of_getElem? ht
 have hall:([4,44].all fun u=>!Tryz.prog.wantsStandIn u)=true:=by kernel_rfl
 exact(show Tryz.prog.wantsStandIn t=false by simpa using List.all_eq_true.1 hall t hm)
theorem card:Rows.TopOutCardSaid:=
 Claim7.holds_tied_plain_at .later [] _ _ _ _ said (fun _ h=>by cases h) cWf (fun _ h=>by cases h) topOut_row_tie rfl ⟨rfl,rfl⟩ qx0b rfl plain qx1b
end Go.Proofs.YtonnjgmognbnbaaGreatDoor.topOut
namespace Go.Proofs.YtonnjgmognbnbaaGreatDoor
theorem topOut_card:Rows.TopOutCardSaid:=topOut.card
#print axioms topOut_card
end Go.Proofs.YtonnjgmognbnbaaGreatDoor
