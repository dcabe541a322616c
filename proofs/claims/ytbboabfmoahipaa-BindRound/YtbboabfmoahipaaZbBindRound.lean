/-
  For every table, rentrollkeep.BindRound returns true: a new map that is closed again leaves the table as it was, and its block is given back just if it was taken for it;no condition but the form's own reach.
-/
import Derived.ShutString
import Derived.Test.YtbboabfmoahipaaZbd14
namespace Go.Proofs.Ytbboabfmoahipaa.bindRound
open Go.ChangeShapes Go.WideShapes Go.ChangeAt Go.RowKit
set_option linter.unusedVariables false
set_option linter.unusedSimpArgs false
theorem own:ownKnob Try.prog.godebug=none:=by kernel_rfl
set_option maxRecDepth 100000 in
theorem lifted(os:Os)(started:os.Started)(H:Type)(enc:TypeId×Value->H):
  ReturnsInHanded {} Try.checked os 6 .any (Rows.bindRoundSpec.pre6 enc Try.prog Try.f6 Rows.bindRoundRow.domain false) (Rows.bindRoundSpec.post enc Try.prog Try.f6 false true false false):=by
 refine returnsInHanded_of_change_sized (C:=Try.checked) own started (by kernel_rfl) Try.func6
  (ChangeSpec.witness6 (enc:=enc) (C:=Try.checked) false ⟨#[],#[.agg #[.int .i64 0,.int .i64 0,.int .i64 0,.int .i64 0,.int .i64 0,.int .i64 0,.int .i64 0,.int .i64 0,.int .i64 0,.int .i64 0,.int .i64 0,.int .i64 0,.int .i64 0,.int .i64 0,.int .i64 0,.int .i64 0,.int .i64 0,.int .i64 0,.bool false,.bool false,.bool false,.int .i64 0,.int .i64 0,.int .i64 0,.int .i64 0,.int .i64 0,.int .i64 0,.int .i64 0,.int .i64 0,.slice none 0 0],.int .i64 0,.int .i64 0,.int .i64 0,.int .i64 0],[]⟩ 8 (by kernel_rfl) (by kernel_rfl) (by kernel_rfl) (by kernel_rfl)) ?_
 intro W base args ds gs before hval0 hW hcnd hsz0 _
 have hval:∀(j:Nat) t v,Try.f6.params[j]?=some t->args[j]?=some v->Value.okWide Try.prog W .any base t v:=hval0;have hW':=hW
 obtain⟨p,q,hA0,hV,rfl,hfz,hnd⟩:=hW
 have hA:DataW.TrodAll enc Try.prog W 0 (fun _=>true) true Try.f6.params.toList args.toList ds p:=hA0;have hsz:(DataW.weightsEach Try.prog (Try.f6.params.toList++Rows.bindRoundSpec.plain.varTypes Try.prog) (ds++gs)).all (·<=reachBytes)=true:=hsz0
 rw[Try.params6] at hA hval hsz
 obtain⟨v0,vs0,d0,ds0,p0B,q0,hargs,rfl,rfl,h0,r0⟩:=trodAll_cons hA
 obtain⟨v1,vs1,d1,ds1,p1,q1,rfl,rfl,rfl,h1,r1⟩:=trodAll_cons r0
 obtain⟨v2,vs2,d2,ds2,p2,q2,rfl,rfl,rfl,h2,r2⟩:=trodAll_cons r1
 obtain⟨v3,vs3,d3,ds3,p3,q3,rfl,rfl,rfl,h3,r3⟩:=trodAll_cons r2
 obtain⟨v4,vs4,d4,ds4,p4,q4,rfl,rfl,rfl,h4,r4⟩:=trodAll_cons r3
 obtain⟨rfl,rfl,rfl⟩:=trodAll_nil r4
 obtain rfl:args=#[v0,v1,v2,v3,v4]:=by cases args;simp_all
 obtain⟨rfl,rfl⟩:=trodVars_none hV
 (have hw0:∀y∈d0.weights Try.prog 30,y<=reachBytes:=fun y hy=>of_decide_eq_true (List.all_eq_true.1 hsz _ (DataW.weights_mem_each (j:=0) rfl rfl y hy)))
 obtain⟨f,g,h,sl,ms,rfl,wf0,wh0,hno,hM⟩:=qywb (hval 0 30 v0 rfl rfl) h0 hw0
 obtain⟨a1,rfl,rfl,rfl,w1⟩:=open_int Try.underlying3 (hval 1 3 v1 rfl rfl) h1
 obtain⟨a2,rfl,rfl,rfl,w2⟩:=open_int Try.underlying3 (hval 2 3 v2 rfl rfl) h2
 obtain⟨a3,rfl,rfl,rfl,w3⟩:=open_int Try.underlying3 (hval 3 3 v3 rfl rfl) h3
 obtain⟨a4,rfl,rfl,rfl,w4⟩:=open_int Try.underlying3 (hval 4 3 v4 rfl rfl) h4
 clear hA0 hval0
 simp only[List.append_nil,List.nil_append] at hW'
 (have hlt:∀x∈p0B,x.block<W.heap.size:=fun x hx=>by simpa using hW'.lt x (by simp[hx]))
 refine(qzfb f g h sl ms a1 a2 a3 a4 wf0 wh0 hno w4 W hM).mono fun e W' ⟨he,bel⟩=>?_
 subst he
 refine m0z ?_;intro h0' hall
 simp only[List.append_nil,List.nil_append] at hall
 exact⟨_,rfl,_,_,_,[],p0B,[],hW',trodAll_mk1 (shut_bool Try.underlying4 _),hall,rfl,bel.frame _,fun h=>by cases h⟩
theorem over:Rows.bindRoundRow.holds Try.pinned (OpenSpec.ofChange Rows.bindRoundSpec):=
 OpenClaim.holds_of_wide 6 Try.f6 rfl rfl rfl rfl rfl rfl rfl ⟨rfl,rfl,rfl,rfl,rfl⟩ rfl rfl rfl rfl rfl (by kernel_rfl) Try.func6 (by kernel_rfl)
  (of_decide_eq_true (by kernel_rfl)) (by unfold Func.isWrapper;first|(rw[if_pos (by decide +kernel)];kernel_rfl)|(rw[if_neg (by decide +kernel)];exact⟨rfl,rfl⟩))
  (fun os started H enc _=>lifted os started H enc)
end Go.Proofs.Ytbboabfmoahipaa.bindRound
namespace Go.Proofs.Ytbboabfmoahipaa
theorem bindRound_holds:Rows.BindRoundSaid:=bindRound.over
#print axioms bindRound_holds
end Go.Proofs.Ytbboabfmoahipaa
