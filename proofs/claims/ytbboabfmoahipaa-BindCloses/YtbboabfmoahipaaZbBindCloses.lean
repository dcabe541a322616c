/-
  On a table and a mapping: Close and the document's way of closing agree in the table that is left, in whether the block is given back, and in the error.
-/
import Derived.ShutString
import Derived.Test.YtbboabfmoahipaaZbn1
namespace Go.Proofs.Ytbboabfmoahipaa
open Go.ChangeShapes Go.WideShapes Go.ChangeAt Go.RowKit Go.Maps
set_option linter.unusedVariables false
set_option linter.unusedSimpArgs false
variable {H:Type}{w:World}{sp:Nat->Bool}{held:Bool}{r:Reach}{b0:Nat}{v:Value}{ps:List MemPlace}
set_option maxRecDepth 10000 in
theorem open_mapsL{enc:TypeId×Value->H}{fuel:Nat}{l:List Value}{x:DataW H×List MemPlace}(hf0:DataW.trod enc Try.prog w 0 sp held fuel 28 l=some x)(hw:∀y∈x.1.weights Try.prog 28,y<=reachBytes):∃sl ms,l=[sl]/\qaz w sl ms/\qcs sl/\ms.length<=3518437208883:=by
 refine m4k ?_;intro c5 hby
 rcases Go.Deep.open_slice Try.underlying28 hf0 with⟨rfl,rfl⟩|⟨a,len,cap,m,n,D,Pl,rfl,hb,hl,hm,hmm,rfl,hx⟩
 ·exact⟨_,[],rfl,qaz.nil w,fun n c e=>(by injection e with _ _ e3;exact e3.symm),by simp⟩
 ·(have hlm:len<=m:=by rw[hmm];split<;>omega)
  have hbd:len<=3518437208883:=by
   have h1:=hw _ (by simp only[DataW.weights,Try.underlying28];exact List.mem_cons_self)
   rw[hby] at h1
   simp[reachBytes] at h1
   omega
  have each:∀i,i<len->∃q:Mp,∀k v,(mcl q)[k]?=some v->w.cell? (a.add (5*i+k))=some v:=by
   intro i hi;obtain⟨cs',h1,h2⟩:=hx i (by omega)
   rw[c5] at h1
   obtain⟨_,hlen,hcell⟩:=World.cells?_some h1
   obtain⟨q,rfl⟩:=q30 hlen h2
   refine⟨q,fun k v hv=>?_⟩
   (have hk:k<5:=by have:=(List.getElem?_eq_some_iff.1 hv).1;simpa[mcl] using this)
   have:=hcell k hk
   rw[Go.Deep.add_add,Nat.mul_comm i 5] at this
   first|exact this.trans hv|(rw[this];simpa using hv)
  obtain⟨q,hq⟩:=Go.Deep.choose_lt each
  have hsp:0<len->a=⟨a.block,a.off,none⟩:=by
   intro h0
   have:=hq 0 h0 0 _ rfl
   obtain⟨b,off,spot⟩:=a;(have hspot:spot=none:=by simpa[Addr.add] using World.cell?_spot this)
   subst hspot
   rfl
  refine⟨_,(List.range len).map q,rfl,⟨some a,cap,by simp,fun h0=>?_,fun j hj k v hv=>?_,by simp;omega,cap,by simp,by simpa using hl⟩,fun n c e=>(by injection e with e1;simp at e1),by simpa using hbd⟩
  ·rw[hsp (by simpa using h0)];rfl
  ·refine m3c ?_;intro hj' e1
   rw[e1] at hv
   have:=hq j hj' k v hv
   rw[hsp (by omega),Addr.add_lit] at this
   show w.cell? ⟨a.block,a.off+5*j+k,none⟩=some v
   rw[Nat.add_assoc]
   exact this
set_option maxRecDepth 10000 in
theorem open_tableL{enc:TypeId×Value->H}{d:DataW H}(hval:Value.okWide Try.prog w r b0 30 v)(hd:DataW.Trod enc Try.prog w 0 sp held 30 v d ps)(hw:∀y∈d.weights Try.prog 30,y<=reachBytes):
  ∃(f:Nat->Int) (g:Nat->Bool) (h:Nat->Int) (sl:Value) (ms:List Mp),v=.agg (tc f g h sl)/\wfF f/\wfH h/\qcs sl/\qaz w sl ms/\ms.length<=3518437208883:=by
 refine m21 ?_;intro c30 c21 c8 c1
 obtain⟨cs,rfl,hcs⟩:=okWide_struct Try.underlying30 hval
 obtain⟨fuel,hf⟩:=hd
 obtain⟨ys,m,_,hx,_,hl,hf⟩:=DataW.trod_struct Try.underlying30 hf
 rw[c30] at hcs
 match ys,hl with
 | [y0,y1,y2],_=>
 refine m0g ?_;intro hy0 hy1 hy2 hlen k e0 wk h e1 wh
 have hw2:∀y∈y2.1.weights Try.prog 28,y<=reachBytes:=by
  intro y hy
  apply hw
  injection hx with hx1 hx2
  rw[hx1]
  simp only[DataW.weights,Try.underlying30,List.map_cons,List.map_nil,DataW.weightsEach]
  simp[DataW.weightsEach,hy]
 obtain⟨sl,ms,e2,hM,hno,hln⟩:=open_mapsL hy2 hw2
 refine⟨k.f,k.g,h,sl,ms,?_,wk,wh,hno,hM,hln⟩
 have e3:cs.toList=(cs.toList.drop 0).take 21++((cs.toList.drop 21).take 8++(cs.toList.drop 29).take 1):=by
  rw[List.drop_zero]
  conv=>lhs;rw[←List.take_append_drop 21 cs.toList]
  congr 1
  conv=>lhs;rw[←List.take_append_drop 8 (cs.toList.drop 21)]
  congr 1
  rw[List.drop_drop]
  rw[List.take_of_length_le (by simp[hlen])]
 rw[e0,e1,e2] at e3
 (have e4:cs=(cs.toList).toArray:=by simp);rw[e4,e3]
 congr 1
 kernel_rfl
theorem open_mapV{enc:TypeId×Value->H}{base:Nat}{d:DataW H}(hval:Value.okWide Try.prog w r b0 32 v)(hd:DataW.Trod enc Try.prog w base sp held 32 v d ps):∃m:Mp,v=.agg (mc m):=by
 (have hc:Try.prog.cellsOf 32=5:=by kernel_rfl)
 obtain⟨cs,rfl,hcs⟩:=okWide_struct Try.underlying32 hval
 obtain⟨fuel,hf⟩:=hd
 rw[hc] at hcs
 obtain⟨l⟩:=cs;obtain⟨m,e⟩:=q30 (l:=l) (by simpa using hcs) (by simpa[Value.cells] using hf)
 exact⟨m,by rw[e];rfl⟩
end Go.Proofs.Ytbboabfmoahipaa
namespace Go.Proofs.Ytbboabfmoahipaa.bindCloses
open Go.ChangeShapes Go.WideShapes Go.ChangeAt Go.RowKit
set_option linter.unusedVariables false
set_option linter.unusedSimpArgs false
variable {H:Type}{w:World}{sp:Nat->Bool}{held:Bool}{r:Reach}{b0:Nat}{v:Value}{ps:List MemPlace}
theorem own:ownKnob Try.prog.godebug=none:=by kernel_rfl
set_option maxRecDepth 100000 in
theorem lifted(os:Os)(started:os.Started)(H:Type)(enc:TypeId×Value->H):
  ReturnsInHanded {} Try.checked os 5 .any (Rows.bindClosesSpec.pre6 enc Try.prog Try.f5 Rows.bindClosesRow.domain false) (Rows.bindClosesSpec.post enc Try.prog Try.f5 false true false false):=by
 refine returnsInHanded_of_change_sized (C:=Try.checked) own started (by kernel_rfl) Try.func5
  (ChangeSpec.witness6 (enc:=enc) (C:=Try.checked) false ⟨#[],#[.agg #[.int .i64 0,.int .i64 0,.int .i64 0,.int .i64 0,.int .i64 0,.int .i64 0,.int .i64 0,.int .i64 0,.int .i64 0,.int .i64 0,.int .i64 0,.int .i64 0,.int .i64 0,.int .i64 0,.int .i64 0,.int .i64 0,.int .i64 0,.int .i64 0,.bool false,.bool false,.bool false,.int .i64 0,.int .i64 0,.int .i64 0,.int .i64 0,.int .i64 0,.int .i64 0,.int .i64 0,.int .i64 0,.slice none 0 0],.agg #[.int .i64 0,.int .i64 0,.int .i64 0,.int .i64 0,.int .i64 0]],[]⟩ 8 (by kernel_rfl) (by kernel_rfl) (by kernel_rfl) (by kernel_rfl)) ?_
 intro W base args ds gs before hval0 hW hcnd hsz0 _
 have hval:∀(j:Nat) t v,Try.f5.params[j]?=some t->args[j]?=some v->Value.okWide Try.prog W .any base t v:=hval0;have hW':=hW
 obtain⟨p,q,hA0,hV,rfl,hfz,hnd⟩:=hW
 have hA:DataW.TrodAll enc Try.prog W 0 (fun _=>true) true Try.f5.params.toList args.toList ds p:=hA0;have hsz:(DataW.weightsEach Try.prog (Try.f5.params.toList++Rows.bindClosesSpec.plain.varTypes Try.prog) (ds++gs)).all (·<=reachBytes)=true:=hsz0
 rw[Try.params5] at hA hval hsz
 obtain⟨v0,vs0,d0,ds0,p0,q0,hargs,rfl,rfl,h0,r0⟩:=trodAll_cons hA
 obtain⟨v1,vs1,d1,ds1,p1,q1,rfl,rfl,rfl,h1,r1⟩:=trodAll_cons r0
 obtain⟨rfl,rfl,rfl⟩:=trodAll_nil r1
 obtain rfl:args=#[v0,v1]:=by cases args;simp_all
 obtain⟨rfl,rfl⟩:=trodVars_none hV
 (have hw0:∀y∈d0.weights Try.prog 30,y<=reachBytes:=fun y hy=>of_decide_eq_true (List.all_eq_true.1 hsz _ (DataW.weights_mem_each (j:=0) rfl rfl y hy)))
 obtain⟨f,g,h,sl,ms,rfl,wf0,wh0,hno,hM,hln⟩:=open_tableL (hval 0 30 v0 rfl rfl) h0 hw0
 obtain⟨m,rfl⟩:=open_mapV (hval 1 32 v1 rfl rfl) h1
 clear hA0 hval0
 simp only[List.append_nil,List.nil_append] at hW'
 (have hlt:∀x∈p0,x.block<W.heap.size:=fun x hx=>by simpa using hW'.lt x (by simp[hx]));(have hlt1:∀x∈p1,x.block<W.heap.size:=fun x hx=>by simpa using hW'.lt x (by simp[hx]))
 refine(qy6b f g h sl ms m wf0 wh0 hno hln W hM).mono fun e W' ⟨he,bel⟩=>?_
 subst he
 have h0':=Below.trod (by kernel_rfl) (by kernel_rfl) (of_decide_eq_true (by kernel_rfl)) h0 bel hlt;have h1':=Below.trod (by kernel_rfl) (by kernel_rfl) (of_decide_eq_true (by kernel_rfl)) h1 bel hlt1;have hall:=trodAll_cons_mk h0' (trodAll_cons_mk h1' trodAll_mk0)
 simp only[List.append_nil,List.nil_append] at hall
 exact⟨_,rfl,_,_,_,[],p0++p1,[],hW',trodAll_mk1 (shut_bool Try.underlying4 _),hall,rfl,bel.frame _,fun h=>by cases h⟩
theorem over:Rows.bindClosesRow.holds Try.pinned (OpenSpec.ofChange Rows.bindClosesSpec):=
 OpenClaim.holds_of_wide 5 Try.f5 rfl rfl rfl rfl rfl rfl rfl ⟨rfl,rfl,rfl,rfl,rfl⟩ rfl rfl rfl rfl rfl (by kernel_rfl) Try.func5 (by kernel_rfl)
  (of_decide_eq_true (by kernel_rfl)) (by unfold Func.isWrapper;first|(rw[if_pos (by decide +kernel)];kernel_rfl)|(rw[if_neg (by decide +kernel)];exact⟨rfl,rfl⟩))
  (fun os started H enc _=>lifted os started H enc)
end Go.Proofs.Ytbboabfmoahipaa.bindCloses
namespace Go.Proofs.Ytbboabfmoahipaa
variable {H:Type}{w:World}{sp:Nat->Bool}{held:Bool}{r:Reach}{b0:Nat}{v:Value}{ps:List MemPlace}
theorem bindCloses_holds:Rows.BindClosesSaid:=bindCloses.over
#print axioms bindCloses_holds
end Go.Proofs.Ytbboabfmoahipaa
