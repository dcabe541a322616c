/-
  For every list of acts, the replies to a beginning of it are the beginning of the replies;no condition but the form's own reach.
-/
import Derived.Test.YtonnjgmognbnbaaGreatDoorTie
import Derived.Carry
import Derived.Test.YtonnjgmognbnbaaGreatDoorZtTpRu
import Derived.Test.YtonnjgmognbnbaaGreatDoorZtTopRunsC
namespace Go.Proofs.YtonnjgmognbnbaaGreatDoor.topRuns
open Go.Value renaming int → I,pointer → V
open Go.IntKind renaming i64 → Z
open Go.ChangeShapes Go.WideShapes Go.ChangeAt Go.RowKit
open Go.ChangeMaps (open_string shut_string)
set_option linter.unusedVariables false
set_option linter.unusedSimpArgs false
set_option maxRecDepth 100000
theorem own:ownKnob Tryz.prog.godebug=none:=by kernel_rfl
theorem contract(H:Type)(enc:TypeId×Value->H)(W:World)(base:Nat)(args:Array Value)(ds gs:List (DataW H))(before:List MemPlace)(hval0:∀(j:Nat) t v,Tryz.f15.params[j]?=some t->args[j]?=some v->Value.okWide Tryz.prog W .any base t v)(hW:DataW.Whole enc Tryz.prog Tryz.f15.params.toList Rows.topRunsSpec.vars false W args.toList ds gs before)(hsz0:(DataW.weightsEach Tryz.prog (Tryz.f15.params.toList++(OpenSpec.ofChange Rows.topRunsSpec).bare.plain.varTypes Tryz.prog) (ds++gs)).all (·<=reachBytes)=true)(hL:laidMetH Tryz.prog Rows.topRunsRow.laid W):
  Calls Tryz.prog 15 args W fun e W'=>∃v,e=.returned v/\Rows.topRunsSpec.post enc Tryz.prog Tryz.f15 false true false false W args v W':=by
 have hval:∀(j:Nat) t v,Tryz.f15.params[j]?=some t->args[j]?=some v->Value.okWide Tryz.prog W .any base t v:=hval0
 have hW':=hW
 have hT:Tab W:=qm9 hL
 obtain⟨p,q,hA0,hV,rfl,hfz,hnd⟩:=hW
 have hA:DataW.TrodAll enc Tryz.prog W 0 (fun _=>true) true Tryz.f15.params.toList args.toList ds p:=hA0
 have hsz:=hsz0
 rw[Tryz.params15] at hA hval hsz
 obtain⟨v0,vs0,d0,ds0,p0,q0,hargs,rfl,rfl,h0,r0⟩:=trodAll_cons hA
 obtain⟨v1,vs1,d1,ds1,p1,q1,rfl,rfl,rfl,h1,r1⟩:=trodAll_cons r0
 obtain⟨v2,vs2,d2,ds2,p2,q2,rfl,rfl,rfl,h2,r2⟩:=trodAll_cons r1
 obtain⟨rfl,rfl,rfl⟩:=trodAll_nil r2
 obtain rfl:args=#[v0,v1,v2]:=by cases args;simp_all
 obtain⟨rfl,rfl⟩:=trodVars_none hV
 obtain⟨a0,rfl,rfl,rfl⟩:=open_bool Tryz.underlying4 (hval 0 4 v0 rfl rfl) h0
 have hw1:∀y∈d1.weights Tryz.prog 44,y<=reachBytes:=fun y hy=>of_decide_eq_true (List.all_eq_true.1 hsz _ (DataW.weights_mem_each (j:=1) rfl rfl y hy))
 obtain⟨fuel1,hf1⟩:=id h1
 obtain⟨sl1,es1,hl1,hS1⟩:=qik hf1 hw1
 obtain⟨s1,n1,c1,hsl1⟩:=okWide_slice Tryz.underlying44 (hval 1 44 v1 rfl rfl)
 subst hsl1
 have hv1:Value.slice s1 n1 c1=sl1:=by simpa[Value.cells] using hl1
 subst hv1
 obtain⟨a2,rfl,rfl,rfl,w2⟩:=open_int Tryz.underlying3 (hval 2 3 v2 rfl rfl) h2
 clear hA0 hval0
 simp only[List.append_nil,List.nil_append] at hW'
 have hlt1:∀x∈p1,x.block<W.heap.size:=fun x hx=>by simpa using hW'.lt x (by simp[hx])
 have hcap1:∀a n c,Value.slice s1 n1 c1=.slice a n c->n<=c:=fun a n c e=>qi3b hf1 (hl1.trans (congrArg (fun z=>[z]) e))
 refine(topRuns_walk a0 _ es1 a2 W hS1 hcap1 hT).mono fun e W' ⟨he,bel⟩=>?_
 subst he
 have h1':=Below.trod (by kernel_rfl) (by kernel_rfl) (of_decide_eq_true (by kernel_rfl)) h1 bel hlt1
 have hall:=(trodAll_cons_mk (shut_bool Tryz.underlying4 a0) (trodAll_cons_mk (h1') (trodAll_cons_mk (shut_int Tryz.underlying3 w2) trodAll_mk0)))
 simp only[List.append_nil,List.nil_append] at hall
 exact⟨_,rfl,_,_,_,[],p1,[],hW',trodAll_mk1 (shut_bool Tryz.underlying4 _),hall,rfl,bel.frame _,fun h=>by cases h⟩
theorem laid_met(os:Os):laidMet Tryz.prog Rows.topRunsRow.laid ((qdf Tryz.prog os).forCall (fun _ _=>0) ⟨#[],#[.bool false,.slice none 0 0,I Z 0],[]⟩).memory:=
 laidMet_of_run' 8 (by kernel_rfl) (by kernel_rfl)
theorem reads(os:Os){H:Type}(enc:TypeId×Value->H):∃places,DataW.whole enc Tryz.prog ((qdf Tryz.prog os).forCall (fun _ _=>0) ⟨#[],#[.bool false,.slice none 0 0,.int .i64 0],[]⟩).memory Tryz.f15.params.toList Rows.topRunsSpec.vars false #[(.bool false:Value),(.slice none 0 0:Value),(.int .i64 0:Value)].toList 8=some ([.lit (.bool false),.nil,.lit (.int .i64 0)],[],places):=
 ⟨[],by kernel_rfl⟩
set_option maxRecDepth 100000 in
theorem lifted(os:Os)(started:os.Started)(H:Type)(enc:TypeId×Value->H)(F:Stop.Interp):
  ReturnsInHanded {} Tryz.checked os 15 .any ((OpenSpec.ofChange Rows.topRunsSpec).preRow enc Tryz.prog Tryz.f15 Rows.topRunsRow.domain false Rows.topRunsRow.laid) (((OpenSpec.ofChange Rows.topRunsSpec).at F).post enc Tryz.prog Tryz.f15 false true false false):=by
 obtain⟨places,hx⟩:=reads os enc
 refine returnsInHanded_of_row (C:=Tryz.checked) (s:=OpenSpec.ofChange Rows.topRunsSpec) own started (by kernel_rfl) Tryz.func15
  (witness_row_at (enc:=enc) (C:=Tryz.checked) false (qdf Tryz.prog os) #[.bool false,.slice none 0 0,I Z 0] rfl (by kernel_rfl) (by kernel_rfl) (by kernel_rfl)
   (OpenSpec.preRow_of_cond 8 hx (by kernel_rfl) (fun k hk=>by cases hk) (by kernel_rfl) (laid_met os))) ?_
 intro W base args ds gs before hval hW _ _ hsz hL _ _
 exact contract H enc W base args ds gs before hval hW hsz hL
theorem cFn : Tryz.prog.funcNamed "rentroll/rentrolltop.TopRuns" = some 15 := by kernel_rfl
theorem cInst:Tryz.f15.isInstance Tryz.prog Rows.topRunsRow.origin Rows.topRunsRow.targs:=of_decide_eq_true (by kernel_rfl)
theorem cWrap:Tryz.f15.isWrapper Tryz.prog Rows.topRunsRow.wrapper Rows.topRunsRow.mainSum:=(by unfold Func.isWrapper;first|(rw[if_pos (by decide +kernel)];kernel_rfl)|(rw[if_neg (by decide +kernel)];exact⟨rfl,rfl⟩))
theorem said:Rows.TopRunsSaid:=
 OpenClaim.holds_of_cond 15 Tryz.f15 rfl rfl rfl rfl rfl rfl rfl ⟨rfl,rfl,rfl,rfl,rfl⟩ rfl rfl rfl rfl rfl cFn Tryz.func15 qxxb
  cInst cWrap
  (fun os started H enc _ F=>by rw[OpenClaim.pre_eq_preRow];exact lifted os started H enc F)
theorem plain(f : FuncId)(fn : Func)(hf : Tryz.pinned.checked.prog.funcNamed "rentroll/rentrolltop.TopRuns" = some f)(hfn : Tryz.pinned.checked.prog.funcs[f]? = some fn):
  false=Tryz.pinned.checked.prog.looks []/\∀(j:Nat) t,fn.params[j]?=some t->Tryz.pinned.checked.prog.wantsStandIn t=false:=by
 obtain rfl:f=15:=Option.some.inj (cFn.symm.trans hf) |>.symm
 obtain rfl:fn=Tryz.f15:=(Option.some.inj (Tryz.func15.symm.trans hfn)).symm
 refine⟨by kernel_rfl,fun j t ht=>?_⟩
 rw[Tryz.params15] at ht
 have hm:t∈[4,44,3]:=by simpa using Array.mem_of_getElem? ht
 have hall:([4,44,3].all fun u=>!Tryz.prog.wantsStandIn u)=true:=by kernel_rfl
 exact(show Tryz.prog.wantsStandIn t=false by simpa using List.all_eq_true.1 hall t hm)
theorem card:Rows.TopRunsCardSaid:=
 Claim7.holds_tied_plain_at .later [] _ _ _ _ said (fun _ h=>by cases h) cWf (fun _ h=>by cases h) topRuns_row_tie rfl ⟨rfl,rfl⟩ qx0b rfl plain qx1b
end Go.Proofs.YtonnjgmognbnbaaGreatDoor.topRuns
namespace Go.Proofs.YtonnjgmognbnbaaGreatDoor
theorem topRuns_card:Rows.TopRunsCardSaid:=topRuns.card
#print axioms topRuns_card
end Go.Proofs.YtonnjgmognbnbaaGreatDoor
