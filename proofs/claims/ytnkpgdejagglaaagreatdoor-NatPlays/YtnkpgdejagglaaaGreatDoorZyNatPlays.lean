/-
  For every list of acts, each reply and the time, and at the end the table and the flows, are exactly the document's.
-/
import Derived.Test.YtnkpgdejagglaaaGreatDoorTie
import Derived.Test.YtnkpgdejagglaaaGreatDoorZyk5p
import Derived.Test.YtnkpgdejagglaaaGreatDoorZyNatPlaysC
namespace Go.Proofs.YtnkpgdejagglaaaGreatDoor.natPlays
open Go.ChangeShapes Go.WideShapes Go.ChangeAt Go.RowKit
open Go.ChangeMaps (open_string shut_string)
set_option linter.unusedVariables false
set_option linter.unusedSimpArgs false
set_option maxRecDepth 100000
theorem own:ownKnob Tryz.prog.godebug=none:=by kernel_rfl
theorem pA(H:Type)(enc:TypeId×Value->H)(W:World)(base:Nat)(args:Array Value)(ds gs:List (DataW H))(before:List MemPlace)(tM:∀(j:Nat) t v,Tryz.f3.params[j]?=some t->args[j]?=some v->Value.okWide Tryz.prog W .any base t v)(hW:DataW.Whole enc Tryz.prog Tryz.f3.params.toList Rows.natPlaysSpec.vars false W args.toList ds gs before)(IP:(DataW.weightsEach Tryz.prog (Tryz.f3.params.toList++(OpenSpec.ofChange Rows.natPlaysSpec).bare.plain.varTypes Tryz.prog) (ds++gs)).all (·<=reachBytes)=true)(hL:laidMetH Tryz.prog Rows.natPlaysRow.laid W):
  Calls Tryz.prog 3 args W fun e W'=>∃v,e=.returned v/\Rows.natPlaysSpec.post enc Tryz.prog Tryz.f3 false true false false W args v W':=by
 have hval:∀(j:Nat) t v,Tryz.f3.params[j]?=some t->args[j]?=some v->Value.okWide Tryz.prog W .any base t v:=tM
 have IQ:=hW
 have hT:jv W:=qm9 hL
 obtain⟨p,q,PV,hV,rfl,Xr,UE⟩:=hW
 have hA:DataW.TrodAll enc Tryz.prog W 0 (fun _=>true) true Tryz.f3.params.toList args.toList ds p:=PV
 have hsz:=IP
 rw[Tryz.params3] at hA hval hsz
 obtain⟨v0,Xs,d0,PW,p0,q0,PX,rfl,rfl,h0,r0⟩:=trodAll_cons hA
 obtain⟨v1,ql,d1,ds1,p1,q1,rfl,rfl,rfl,h1,r1⟩:=trodAll_cons r0
 obtain⟨rfl,rfl,rfl⟩:=trodAll_nil r1
 obtain rfl:args=#[v0,v1]:=by cases args;simp_all
 obtain⟨rfl,rfl⟩:=trodVars_none hV
 obtain⟨a0,rfl,rfl,rfl⟩:=open_bool Tryz.underlying4 (hval 0 4 v0 rfl rfl) h0
 have my:∀y∈d1.weights Tryz.prog 22,y<=reachBytes:=fun y hy=>of_decide_eq_true (List.all_eq_true.1 hsz _ (DataW.weights_mem_each (j:=1) rfl rfl y hy))
 obtain⟨PY,uA⟩:=id h1
 obtain⟨Xt,N5,N6,hS1⟩:=PZ uA my
 obtain⟨s1,n1,c1,IU⟩:=okWide_slice Tryz.underlying22 (hval 1 22 v1 rfl rfl)
 subst IU
 have Ei:Value.slice s1 n1 c1=Xt:=by simpa[Value.cells] using N6
 subst Ei
 clear PV tM
 simp only[List.append_nil,List.nil_append] at IQ
 have tN:∀x∈p1,x.block<W.heap.size:=fun x hx=>by simpa using IQ.lt x (by simp[hx])
 refine(Xu a0 _ N5 W hS1 hT).mono fun e W' ⟨he,iW⟩=>?_
 subst he
 have gY:=Below.trod (by kernel_rfl) (by kernel_rfl) (of_decide_eq_true (by kernel_rfl)) h1 iW tN
 have hall:=(trodAll_cons_mk (shut_bool Tryz.underlying4 a0) (trodAll_cons_mk (gY) trodAll_mk0))
 simp only[List.append_nil,List.nil_append] at hall
 exact⟨_,rfl,_,_,_,[],p1,[],IQ,trodAll_mk1 (shut_bool Tryz.underlying4 _),hall,rfl,iW.frame _,fun h=>by cases h⟩
theorem pB(os:Os):laidMet Tryz.prog Rows.natPlaysRow.laid ((N7 Tryz.prog os).forCall (fun _ _=>0) ⟨#[],#[.bool false,.slice none 0 0],[]⟩).memory:=
 laidMet_of_run' 8 (by kernel_rfl) (by kernel_rfl)
theorem reads(os:Os){H:Type}(enc:TypeId×Value->H):∃places,DataW.whole enc Tryz.prog ((N7 Tryz.prog os).forCall (fun _ _=>0) ⟨#[],#[.bool false,.slice none 0 0],[]⟩).memory Tryz.f3.params.toList Rows.natPlaysSpec.vars false #[(.bool false:Value),(.slice none 0 0:Value)].toList 8=some ([.lit (.bool false),.nil],[],places):=
 ⟨[],by kernel_rfl⟩
set_option maxRecDepth 100000 in
theorem lifted(os:Os)(started:os.Started)(H:Type)(enc:TypeId×Value->H)(F:Stop.Interp):
  ReturnsInHanded {} Tryz.checked os 3 .any ((OpenSpec.ofChange Rows.natPlaysSpec).preRow enc Tryz.prog Tryz.f3 Rows.natPlaysRow.domain false Rows.natPlaysRow.laid) (((OpenSpec.ofChange Rows.natPlaysSpec).at F).post enc Tryz.prog Tryz.f3 false true false false):=by
 obtain⟨places,hx⟩:=reads os enc
 refine returnsInHanded_of_row (C:=Tryz.checked) (s:=OpenSpec.ofChange Rows.natPlaysSpec) own started (by kernel_rfl) Tryz.func3
  (witness_row_at (enc:=enc) (C:=Tryz.checked) false (N7 Tryz.prog os) #[.bool false,.slice none 0 0] rfl (by kernel_rfl) (by kernel_rfl) (by kernel_rfl)
   (OpenSpec.preRow_of_cond 8 hx (by kernel_rfl) (fun k hk=>by cases hk) (by kernel_rfl) (pB os))) ?_
 intro W base args ds gs before hval hW _ _ hsz hL _ _
 exact pA H enc W base args ds gs before hval hW hsz hL
theorem P0 : Tryz.prog.funcNamed "rentroll/rentrolllaw.NatPlays" = some 3 := by kernel_rfl
theorem zQ:Tryz.f3.isInstance Tryz.prog Rows.natPlaysRow.origin Rows.natPlaysRow.targs:=of_decide_eq_true (by kernel_rfl)
theorem zR:Tryz.f3.isWrapper Tryz.prog Rows.natPlaysRow.wrapper Rows.natPlaysRow.mainSum:=(by unfold Func.isWrapper;first|(rw[if_pos (by decide +kernel)];kernel_rfl)|(rw[if_neg (by decide +kernel)];exact⟨rfl,rfl⟩))
theorem IV:Rows.NatPlaysSaid:=
 OpenClaim.holds_of_cond 3 Tryz.f3 rfl rfl rfl rfl rfl rfl rfl ⟨rfl,rfl,rfl,rfl,rfl⟩ rfl rfl rfl rfl rfl P0 Tryz.func3 uQ
  zQ zR
  (fun os started H enc _ F=>by rw[OpenClaim.pre_eq_preRow];exact lifted os started H enc F)
theorem plain(f : FuncId)(fn : Func)(hf : Tryz.pinned.checked.prog.funcNamed "rentroll/rentrolllaw.NatPlays" = some f)(hfn : Tryz.pinned.checked.prog.funcs[f]? = some fn):
  false=Tryz.pinned.checked.prog.looks []/\∀(j:Nat) t,fn.params[j]?=some t->Tryz.pinned.checked.prog.wantsStandIn t=false:=by
 obtain rfl:f=3:=Option.some.inj (P0.symm.trans hf) |>.symm
 obtain rfl:fn=Tryz.f3:=(Option.some.inj (Tryz.func3.symm.trans hfn)).symm
 refine⟨by kernel_rfl,fun j t ht=>?_⟩
 rw[Tryz.params3] at ht
 have hm:t∈[4,22]:=by simpa using Array.mem_of_getElem? ht
 have hall:([4,22].all fun u=>!Tryz.prog.wantsStandIn u)=true:=by kernel_rfl
 exact(show Tryz.prog.wantsStandIn t=false by simpa using List.all_eq_true.1 hall t hm)
theorem card:Rows.NatPlaysCardSaid:=
 Claim7.holds_tied_plain_at .later [] _ _ _ _ IV (fun _ h=>by cases h) Xv (fun _ h=>by cases h) natPlays_row_tie rfl ⟨rfl,rfl⟩ zS rfl plain zT
end Go.Proofs.YtnkpgdejagglaaaGreatDoor.natPlays
namespace Go.Proofs.YtnkpgdejagglaaaGreatDoor
theorem natPlays_card:Rows.NatPlaysCardSaid:=natPlays.card
#print axioms natPlays_card
end Go.Proofs.YtnkpgdejagglaaaGreatDoor
