/-
  Of what a law stands on.
-/
import Derived.Deep.DeepFit
import Derived.Deep.MidRow
import Derived.Deep.RegionHeld3
import Derived.Laws.CopyOwn
import Derived.Test.YtbboabfmoahipaaRows
import Derived.WalkKit
import Derived.ProofKit
import Derived.OpenShut
import Derived.Below
import Derived.Test.YtbboabfmoahipaaZbm
set_option linter.unusedSimpArgs false
set_option linter.unusedVariables false
namespace Go.Proofs.Ytbboabfmoahipaa
open Go.Value renaming int → I,pointer → V
open Go.IntKind renaming i64 → Z
open _root_.Go.Proofs.Try Go.ChangeShapes Go.WideShapes Go.ChangeAt Go.RowKit
set_option maxHeartbeats 16000000
set_option maxRecDepth 100000
variable {o:Oper}{v:Value}{b:Nat}{w:World}{t:TypeId}{cs old:Array Value}{ops:Array Oper}{rest:List Oper}{a:Act}{Q:Exit->Act->World->Prop}{fn:Func}{p u:Tmp}{S:World->Prop}
def Row(t:TypeId)(w:World)(b:Nat)(cs:Array Value):Prop:=w.heap[b]?=some (.cells cs t (0,0))
section
variable {t:TypeId} {w w':World} {b r:Nat} {cs:Array Value}
theorem Row.cell(h:Row t w b cs):∀o,w.cell? ⟨b,o,none⟩=cs[o]?:=by intro o;unfold Row at h;simp[World.cell?,h]
theorem Row.free(h:Row t w b cs):∀o,w.frozen? ⟨b,o,none⟩=false:=by intro o;unfold Row at h;simp[World.frozen?,h]
theorem Row.lt(h:Row t w b cs):b<w.heap.size:=(Array.getElem?_eq_some_iff.1 h).1
theorem Row.below(h:Row t w b cs)(hb:Below w.heap.size w w'):Row t w' b cs:=(hb.block b h.lt).trans h
theorem Row.keep{B:Nat}(h:Row t w b cs)(hb:Below B w w')(hlt:b<B):Row t w' b cs:=(hb.block b hlt).trans h
theorem Row.ne{c:Nat}(h:Row t w b cs)(hle:w.heap.size<=c):b≠c:=Nat.ne_of_lt (Nat.lt_of_lt_of_le h.lt hle)
theorem Row.new(t:TypeId)(w:World)(cs:Array Value):Row t (w.alloc (.cells cs t)) w.heap.size cs:=heap_alloc_new w _
theorem Row.alloc(h:Row t w b cs)(o:Obj):Row t (w.alloc o) b cs:=(Below.heap_alloc _ _ _ h.lt).trans h
theorem Row.other{o:Nat}(h:Row t w r cs)(hne:r≠b):Row t (w.setCell ⟨b,o,none⟩ v) r cs:=(Below.heap_setCell _ _ _ _ hne).trans h
theorem Row.set{o:Nat}(h:Row t w b cs):Row t (w.setCell ⟨b,o,none⟩ v) b (cs.setIfInBounds o v):=heap_setCell_same w b o _ t _ h
theorem Row.range{o:Nat}{l:List Value}(h:Row t w b cs)(hl:∀j v,l[j]?=some v->cs[o+j]?=some v):w.rangeAt b o l:=fun j v hv=>(h.cell _).trans (hl j v hv)
end
structure qbl(b:Nat)(w w':World):Prop where
 size:w'.heap.size=w.heap.size
 other:∀r,r≠b->w'.heap[r]?=w.heap[r]?
 below:∀B w0,B<=b->Below B w0 w->Below B w0 w'
theorem qbl.row{r:Nat}{w':World}(h:qbl b w w')(hr:Row t w r cs)(hne:r≠b):Row t w' r cs:=(h.other r hne).trans hr
theorem qac(t:TypeId)(x:Operand)(ho:o.op=.load t x)(hw:Region.wanted o (yielded ops a.tmps)=true)(b:Nat)(hx:a.eval x=V (some ⟨b,0,none⟩))(cs:Array Value)(h:Row t w b cs)(d:TypeDesc)(hu:prog.underlying t=some d)(hd:d.isRow=true)(hi:(prog.info? t).map (·.size)=some cs.size)(hr:wpList prog ops Q rest (a.put o.dst (.agg cs)) w):wpList prog ops Q (o::rest) a w:=
 wpList_step fun K hK=>by
  rw[if_pos hw]
  exact wp_load_mid t x ho b 0 hx cs.toList d (h.range (fun j v hv=>by rw[Nat.zero_add];simpa using hv)) hu hd (by simpa using hi) (by simpa using hK _ _ hr)
theorem lx{Q : Exit -> Act -> World -> Prop}(t : TypeId)(x : Operand)(cs : Array Value)(h : Row t w b cs)(hr : wpList prog ops Q rest (a.put o.dst (.agg cs)) w)(ho : o.op = .load t x := by exact rfl)(hx : a.eval x = V (some ⟨b, 0, none⟩) := by exact rfl)(hw : Region.wanted o (yielded ops a.tmps) = true := by kernel_rfl)(hu : (prog.underlying t).map (·.isRow) = some true := by kernel_rfl)(hi : (prog.info? t).map (·.size) = some cs.size := by kernel_rfl): wpList prog ops Q (o::rest) a w := by
  obtain⟨d, h1, h2⟩ := Option.map_eq_some_iff.1 hu
  exact qac t x ho hw b hx cs h d h1 h2 hi hr
theorem qab(t:TypeId)(hgd:o.guard=none)(x y:Operand)(ho:o.op=.store t x y)(b:Nat)(hx:a.eval x=V (some ⟨b,0,none⟩))(cs:Array Value)(hy:a.eval y=.agg cs)(old:Array Value)(h:Row t w b old)(hs:old.size=cs.size)(hi:(prog.info? t).map (·.size)=some cs.size)(h1:cs.all (·.oneCell')=true)(hr:∀w',Row t w' b cs->qbl b w w'->wpList prog ops Q rest (a.put o.dst undef) w'):wpList prog ops Q (o::rest) a w:=
 wpList_plain hgd fun K hK=>by
  have hst:=run_storeVar_row (P:=prog) w b t t old cs h hi hs h1
  unfold Oper.wp execOp
  simp only[ho,hx,hy,Instr.storeAt,Instr.sureAddr,Sem.run_bind,Sem.run_pure,Result.andThen_ok,hst]
  exact hK _ _ (hr _ (setRow_heap w b old _ _ _ h) ⟨by simp,fun r hne=>setRow_other w b r _ hne,fun B w0 hB hb=>below_setRow hb hB _⟩)
theorem sx{Q : Exit -> Act -> World -> Prop}(t : TypeId)(x y : Operand)(cs : Array Value)(h : Row t w b old)(hr : ∀w', Row t w' b cs -> qbl b w w' -> wpList prog ops Q rest (a.put o.dst undef) w')(hgd : o.guard = none := by exact rfl)(ho : o.op = .store t x y := by exact rfl)(hx : a.eval x = V (some ⟨b, 0, none⟩) := by exact rfl)(hy : a.eval y = .agg cs := by exact rfl)(hs : old.size = cs.size := by kernel_rfl)(hi : (prog.info? t).map (·.size) = some cs.size := by kernel_rfl)(h1 : cs.all (·.oneCell') = true := by kernel_rfl): wpList prog ops Q (o::rest) a w := qab t hgd x y ho b hx cs hy old h hs hi h1 hr
theorem qa2(t:TypeId)(hgd:o.guard=none)(ho:o.op=.alloc t)(cs:Array Value)(hz:∀w:World,(zeroValue t).run prog w=.ok (.agg cs) w)(hr:∀b w',w.heap.size<=b->Row t w' b cs->Below w.heap.size w w'->wpList prog ops Q rest (a.put o.dst (V (some ⟨b,0,none⟩))) w'):wpList prog ops Q (o::rest) a w:=
 wpList_plain hgd fun K hK=>by
  have h':=hr w.heap.size (w.alloc (.cells cs t)) (Nat.le_refl _) (Row.new t w cs) ((Below.refl _ _).alloc (Nat.le_refl _) _)
  unfold Oper.wp execOp
  simp[ho,Instr.alloc,newVar,hz w,Result.andThen,Value.cells]
  simp[go_sem]
  exact hK _ _ h'
theorem ay{Q : Exit -> Act -> World -> Prop}(t : TypeId)(hz : ∀w : World, (zeroValue t).run prog w = .ok (.agg cs) w)(hr : ∀b w', w.heap.size <= b -> Row t w' b cs -> Below w.heap.size w w' -> wpList prog ops Q rest (a.put o.dst (V (some ⟨b, 0, none⟩))) w')(hgd : o.guard = none := by exact rfl)(ho : o.op = .alloc t := by exact rfl): wpList prog ops Q (o::rest) a w := qa2 t hgd ho cs hz hr
theorem qag(t:TypeId)(hgd:o.guard=none)(x:Operand)(ho:o.op=.box t x)(cs:Array Value)(hx:a.eval x=.agg cs)(hr:∀b w',w.heap.size<=b->Row t w' b cs->Below w.heap.size w w'->wpList prog ops Q rest (a.put o.dst (V (some ⟨b,0,none⟩))) w'):wpList prog ops Q (o::rest) a w:=
 wpList_plain hgd fun K hK=>by
  have h':=hr w.heap.size (w.alloc (.cells cs t)) (Nat.le_refl _) (Row.new t w cs) ((Below.refl _ _).alloc (Nat.le_refl _) _)
  unfold Oper.wp execOp
  simp only[ho,hx,Instr.box,newVar,Value.cells]
  simp[go_sem]
  exact hK _ _ h'
theorem bx{Q : Exit -> Act -> World -> Prop}(t : TypeId)(x : Operand)(cs : Array Value)(hr : ∀b w', w.heap.size <= b -> Row t w' b cs -> Below w.heap.size w w' -> wpList prog ops Q rest (a.put o.dst (V (some ⟨b, 0, none⟩))) w')(hgd : o.guard = none := by exact rfl)(ho : o.op = .box t x := by exact rfl)(hx : a.eval x = .agg cs := by exact rfl): wpList prog ops Q (o::rest) a w := qag t hgd x ho cs hx hr
theorem qbf(hf:fn.results=#[.cell p t,.tmp u])(tmps:Array Value)(w:World)(b:Nat)(cs:Array Value)(hp:tmps.getD p undef=V (some ⟨b,0,none⟩))(h:Row t w b cs)(d:TypeDesc)(hu:prog.underlying t=some d)(hd:d.isRow=true)(hi:(prog.info? t).map (·.size)=some cs.size):
  (results fn tmps).run prog w=.ok (.tuple #[.agg cs,tmps.getD u undef]) w:=by
 refine m14 ?_;intro hp' hl
 simp only[Array.toArray_toList] at hl
 simp[results,hf,hp',asAddr,hl]
theorem qai(hf:fn.results=#[.cell p t])(tmps:Array Value)(w:World)(b:Nat)(cs:Array Value)(hp:tmps.getD p undef=V (some ⟨b,0,none⟩))(h:Row t w b cs)(d:TypeDesc)(hu:prog.underlying t=some d)(hd:d.isRow=true)(hi:(prog.info? t).map (·.size)=some cs.size):
  (results fn tmps).run prog w=.ok (.agg cs) w:=by
 refine m14 ?_;intro hp' hl
 simp only[Array.toArray_toList] at hl
 simp[results,hf,hp',asAddr,hl]
theorem qlv{v:Tmp}(hf:fn.results=#[.cell p t,.tmp u,.tmp v])(tmps:Array Value)(w:World)(b:Nat)(cs:Array Value)(hp:tmps.getD p undef=V (some ⟨b,0,none⟩))(h:Row t w b cs)(d:TypeDesc)(hu:prog.underlying t=some d)(hd:d.isRow=true)(hi:(prog.info? t).map (·.size)=some cs.size):
  (results fn tmps).run prog w=.ok (.tuple #[.agg cs,tmps.getD u undef,tmps.getD v undef]) w:=by
 refine m14 ?_;intro hp' hl
 simp only[Array.toArray_toList] at hl
 simp[results,hf,hp',asAddr,hl]
theorem qb1(t:TypeId)(x y:Operand)(ho:o.op=.binOp .eql t x y t)(hw:Region.wanted o (yielded ops a.tmps)=true)(xs ys:Array Value)(hx:a.eval x=.agg xs)(hy:a.eval y=.agg ys)(hg:prog.eqGuardType prog.depth t=false)(r q:Bool)(he:(Op.equalIn 10000 t (.agg xs) (.agg ys)).run prog w=.ok r w)(hq:r=q)(hr:wpList prog ops Q rest (a.put o.dst (.bool q)) w):wpList prog ops Q (o::rest) a w:=
 wpList_step fun K hK=>by
  rw[if_pos hw]
  subst hq
  unfold Oper.wp execOp
  simp only[ho,hx,hy,Sem.run_bind,run_eqGuard_agg w .eql t x y xs ys hg,run_eql_struct,he,Result.andThen_ok,Sem.run_pure]
  exact hK _ _ hr
theorem qk0(t:TypeId)(x y:Operand)(ho:o.op=.binOp .neq t x y t)(hw:Region.wanted o (yielded ops a.tmps)=true)(xs ys:Array Value)(hx:a.eval x=.agg xs)(hy:a.eval y=.agg ys)(hg:prog.eqGuardType prog.depth t=false)(r q:Bool)(he:(Op.equalIn 10000 t (.agg xs) (.agg ys)).run prog w=.ok r w)(hq:(!r)=q)(hr:wpList prog ops Q rest (a.put o.dst (.bool q)) w):wpList prog ops Q (o::rest) a w:=
 wpList_step fun K hK=>by
  rw[if_pos hw]
  subst hq
  unfold Oper.wp execOp
  simp only[ho,hx,hy,Sem.run_bind,run_eqGuard_agg w .neq t x y xs ys hg,run_neq_struct,he,Result.andThen_ok,Sem.run_pure]
  exact hK _ _ hr
theorem qav(t:TypeId)(x:Operand)(ho:o.op=.load t x)(hw:Region.wanted o (yielded ops a.tmps)=true)(b:Nat)(hx:a.eval x=V (some ⟨b,0,none⟩))(cs:Array Value)(hS:∀w,S w->Row t w b cs)(d:TypeDesc)(hu:prog.underlying t=some d)(hd:d.isRow=true)(hi:(prog.info? t).map (·.size)=some cs.size):YieldsIf prog ops S o (.agg cs) a:=by
 have:=yieldsIf_load_mid (P:=prog) (S:=S) hw t x ho b 0 hx cs.toList d (fun w h=>(hS w h).range (fun j v hv=>by rw[Nat.zero_add];simpa using hv)) hu hd (by simpa using hi)
 simpa using this
theorem yx{S : World -> Prop}(t : TypeId)(x : Operand)(cs : Array Value)(hS : ∀w, S w -> Row t w b cs)(ho : o.op = .load t x := by exact rfl)(hw : Region.wanted o (yielded ops a.tmps) = true := by kernel_rfl)(hx : a.eval x = V (some ⟨b, 0, none⟩) := by kernel_rfl)(hu : (prog.underlying t).map (·.isRow) = some true := by kernel_rfl)(hi : (prog.info? t).map (·.size) = some cs.size := by kernel_rfl): YieldsIf prog ops S o (.agg cs) a := by
  obtain⟨d, h1, h2⟩ := Option.map_eq_some_iff.1 hu
  exact qav t x ho hw b hx cs hS d h1 h2 hi
theorem qhd(t:TypeId)(x y:Operand)(ho:o.op=.binOp .eql t x y t)(hw:Region.wanted o (yielded ops a.tmps)=true)(xs ys:Array Value)(hx:a.eval x=.agg xs)(hy:a.eval y=.agg ys)(hg:prog.eqGuardType prog.depth t=false)(r q:Bool)(he:∀w:World,(Op.equalIn 10000 t (.agg xs) (.agg ys)).run prog w=.ok r w)(hq:r=q):YieldsIf prog ops S o (.bool q) a:=
 .inl ⟨hw,fun w _=>by
  subst hq
  unfold execOp
  simp only[ho,hx,hy,Sem.run_bind,run_eqGuard_agg w .eql t x y xs ys hg,run_eql_struct,he w,Result.andThen_ok,Sem.run_pure]⟩
theorem qaf(k:Nat)(t:TypeId)(hk:o.dst=some k)(hgd:o.guard=none)(ho:o.op=.alloc t)(cs:Array Value)(hz:∀w:World,(zeroValue t).run prog w=.ok (.agg cs) w)(hr:∀b w',w.heap.size<=b->Row t w' b cs->Below w.heap.size w w'->wpList prog ops Q rest (a.put o.dst (V (some ⟨b,0,none⟩))) w'):wpList prog ops Q (o::rest) a w:=qa2 t hgd ho cs hz hr
theorem ax{Q : Exit -> Act -> World -> Prop}(k : Nat)(t : TypeId)(hz : ∀w : World, (zeroValue t).run prog w = .ok (.agg cs) w)(hr : ∀b w', w.heap.size <= b -> Row t w' b cs -> Below w.heap.size w w' -> wpList prog ops Q rest (a.put o.dst (V (some ⟨b, 0, none⟩))) w')(hk : o.dst = some k := by exact rfl)(hgd : o.guard = none := by exact rfl)(ho : o.op = .alloc t := by exact rfl): wpList prog ops Q (o::rest) a w := qaf k t hk hgd ho cs hz hr
theorem qau{K:Act->World->Prop}(t:TypeId)(x y:Operand)(ho:o.op=.store t x y)(b:Nat)(hx:a.eval x=V (some ⟨b,0,none⟩))(cs:Array Value)(hy:a.eval y=.agg cs)(old:Array Value)(h:Row t w b old)(hs:old.size=cs.size)(hi:(prog.info? t).map (·.size)=some cs.size)(h1:cs.all (·.oneCell')=true)(hr:∀w',Row t w' b cs->qbl b w w'->K (a.put o.dst undef) w'):o.wp prog a w K Q:=by
 have hst:=run_storeVar_row (P:=prog) w b t t old cs h hi hs h1
 unfold Oper.wp execOp
 simp only[ho,hx,hy,Instr.storeAt,Instr.sureAddr,Sem.run_bind,Sem.run_pure,Result.andThen_ok,hst]
 exact hr _ (setRow_heap w b old _ _ _ h) ⟨by simp,fun r hne=>setRow_other w b r _ hne,fun B w0 hB hb=>below_setRow hb hB _⟩
theorem sy{K : Act -> World -> Prop}{Q : Exit -> Act -> World -> Prop}(t : TypeId)(x y : Operand)(cs : Array Value)(h : Row t w b old)(hr : ∀w', Row t w' b cs -> qbl b w w' -> K (a.put o.dst undef) w')(ho : o.op = .store t x y := by exact rfl)(hx : a.eval x = V (some ⟨b, 0, none⟩) := by kernel_rfl)(hy : a.eval y = .agg cs := by kernel_rfl)(hs : old.size = cs.size := by kernel_rfl)(hi : (prog.info? t).map (·.size) = some cs.size := by kernel_rfl)(h1 : cs.all (·.oneCell') = true := by kernel_rfl): o.wp prog a w K Q := qau t x y ho b hx cs hy old h hs hi h1 hr
theorem qfx(b o:Nat)(v:Value)(w:World):qbl b w (w.setCell ⟨b,o,none⟩ v):=⟨by simp,fun r hne=>Below.heap_setCell _ _ _ _ hne,fun B w0 hB hb=>hb.setCell hB v⟩
theorem qae(R:Row t w b cs)(x:Operand)(ho:o.op=.load 3 x)(hw:Region.wanted o (yielded ops a.tmps)=true)(f:Nat)(hx:a.eval x=V (some ⟨b,f,none⟩))(n:Int)(hc:cs[f]?=some (I Z n))(hr:wpList prog ops Q rest (a.put o.dst (I Z n)) w):wpList prog ops Q (o::rest) a w:=
 wpList_step fun K hK=>by
  rw[if_pos hw];have hcell:=(R.cell f).trans hc
  unfold Oper.wp execOp
  simp only[ho,hx]
  simp[go_sem,hcell,underlying3]
  exact hK _ _ hr
theorem fx{Q : Exit -> Act -> World -> Prop}(R : Row t w b cs)(x : Operand)(f : Nat)(n : Int)(hr : wpList prog ops Q rest (a.put o.dst (I Z n)) w)(ho : o.op = .load 3 x := by exact rfl)(hx : a.eval x = V (some ⟨b, f, none⟩) := by exact rfl)(hc : cs[f]? = some (I Z n) := by exact rfl)(hw : Region.wanted o (yielded ops a.tmps) = true := by kernel_rfl): wpList prog ops Q (o::rest) a w := qae R x ho hw f hx n hc hr
theorem qbb(R:Row t w b cs)(hgd:o.guard=none)(x y:Operand)(ho:o.op=.store 3 x y)(f:Nat)(hx:a.eval x=V (some ⟨b,f,none⟩))(n:Int)(hy:a.eval y=I Z n)(m:Int)(hc:cs[f]?=some (I Z m))(ds:Array Value)(hd:cs.setIfInBounds f (I Z n)=ds)(hr:∀w',Row t w' b ds->qbl b w w'->wpList prog ops Q rest (a.put o.dst undef) w'):wpList prog ops Q (o::rest) a w:=
 wpList_plain hgd fun K hK=>by
  have hcell:=(R.cell f).trans hc;have hfr:=R.free f
  unfold Oper.wp execOp
  simp only[ho,hx,hy]
  simp[go_sem,hcell,hfr,underlying3]
  exact hK _ _ (hr _ (hd▸R.set) (qfx _ _ _ _))
section
variable {ops:Array Oper} {S:World->Prop} {o:Oper} {a:Act}
theorem qnrb(c x y:Operand)(b:Bool)(v:Value)(ho:o.op=.pick c x y)(hw:Region.wanted o (yielded ops a.tmps)=true)(hc:a.eval c=.bool b)(hx:(if b=true then a.eval x else a.eval y)=v):YieldsIf prog ops S o v a:=
 .inl ⟨hw,fun w _=>by cases b<;>simp at hx<;>(unfold execOp;simp[ho,hc,hx,asBool,Result.andThen])⟩
theorem q10(c x y:Operand)(v:Value)(ho:o.op=.pick c x y)(hw:Region.wanted o (yielded ops a.tmps)=true)(hc:a.eval c=.bool true)(hx:a.eval x=v):YieldsIf prog ops S o v a:=qnrb c x y true v ho hw hc (by rw[if_pos rfl];exact hx)
theorem qkib(c x y:Operand)(v:Value)(ho:o.op=.pick c x y)(hw:Region.wanted o (yielded ops a.tmps)=true)(hc:a.eval c=.bool false)(hy:a.eval y=v):YieldsIf prog ops S o v a:=qnrb c x y false v ho hw hc (by rw[if_neg zm];exact hy)
theorem qmnb(t:TypeId)(x y:Operand)(n m:Int)(b:Bool)(ho:o.op=.binOp .eql t x y t)(hw:Region.wanted o (yielded ops a.tmps)=true)(hx:a.eval x=I Z n)(hy:a.eval y=I Z m)(hb:(n==m)=b):YieldsIf prog ops S o (.bool b) a:=
 .inl ⟨hw,fun w _=>by unfold execOp;simp only[ho,hx,hy];simp[go_sem,hb,eqGuard]⟩
theorem qrk(t:TypeId)(x y:Operand)(n m:Int)(b:Bool)(ho:o.op=.binOp .neq t x y t)(hw:Region.wanted o (yielded ops a.tmps)=true)(hx:a.eval x=I Z n)(hy:a.eval y=I Z m)(hb:(n != m)=b):YieldsIf prog ops S o (.bool b) a:=
 .inl ⟨hw,fun w _=>by unfold execOp;simp only[ho,hx,hy];simp[go_sem,hb,eqGuard]⟩
theorem qymb(x y:Operand)(n m b:Bool)(ho:o.op=.binOp .eql 4 x y 4)(hw:Region.wanted o (yielded ops a.tmps)=true)(hx:a.eval x=.bool n)(hy:a.eval y=.bool m)(hb:(n==m)=b):YieldsIf prog ops S o (.bool b) a:=
 .inl ⟨hw,fun w _=>by unfold execOp;simp only[ho,hx,hy];simp[go_sem,hb,eqGuard]⟩
theorem qolb(x y:Operand)(n m b:Bool)(ho:o.op=.binOp .neq 4 x y 4)(hw:Region.wanted o (yielded ops a.tmps)=true)(hx:a.eval x=.bool n)(hy:a.eval y=.bool m)(hb:(n != m)=b):YieldsIf prog ops S o (.bool b) a:=
 .inl ⟨hw,fun w _=>by unfold execOp;simp only[ho,hx,hy];simp[go_sem,eqGuard];subst hb;cases n<;>cases m<;>rfl⟩
end
end Go.Proofs.Ytbboabfmoahipaa
