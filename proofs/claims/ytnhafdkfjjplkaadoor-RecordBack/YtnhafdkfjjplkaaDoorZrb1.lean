/-
  Of what a law stands on.
-/
import Derived.Test.YtnhafdkfjjplkaaDoorRows
import Derived.WalkKit
import Derived.ProofKit
import Derived.OpenShut
import Derived.Laws.IdiomStrings
import Derived.Below
import Derived.OneCell
import Derived.Deep.AppendSrc
import Derived.Laws.BitsAllLaws
import Derived.Deep.DeepFit
import Derived.Deep.MidRow
import Derived.Deep.RegionHeld3
import Derived.Laws.CopyOwn
import Derived.Test.YtnhafdkfjjplkaaDoorZrm
set_option linter.unusedSimpArgs false
set_option linter.unusedVariables false
namespace Go.Proofs.YtnhafdkfjjplkaaDoor
open Go.Value renaming int → I,pointer → V
open Go.IntKind renaming i64 → Z
open _root_.Go.Proofs.Tryd
set_option maxHeartbeats 16000000
set_option maxRecDepth 100000
variable {ops:Array Oper}{rest:List Oper}{o:Oper}{a:Act}{Q:Exit->Act->World->Prop}{v:Value}{b:Nat}{w:World}{t:TypeId}{cs old:Array Value}
section
open Go.ChangeShapes Go.WideShapes Go.ChangeAt Go.RowKit
def bc(l:List UInt8):List Value:=l.map fun b=>Value.int .u8 (b.toNat:Int)
theorem qvx(l m:List UInt8):bc (l++m)=bc l++bc m:=by simp[bc]
theorem qu7(l:List UInt8):∀u∈bc l,u.oneCell'=true:=by
 intro u hu
 obtain⟨_,_,rfl⟩:=List.mem_map.1 hu
 rfl
section
variable {P:Program} (w:World)
theorem qsc(base:Nat)(t tx ty e:TypeId)(i:TypeInfo)(z:Value)(ht:P.underlying t=some (.slice e))(hi:P.info? e=some i)(hz:i.zero=some z)(hsize:i.size=1)(hby:i.bytes=1)(hzs:z.cells.size=1)(v:Value)(n:Nat)(xs:List Value)(hown:w.ownsRow base e 1 v n xs)(x:Value)(m:Nat)(news:List Value)(hs:Src P 1 tx x m news w)(hbytes:n+m<=140737488355328)(hbase:base<=w.heap.size):
  ∃v' w',(Builtin.append_ #[t,tx] ty #[v,x]).run P w=.ok v' w'/\w'.ownsRow base e 1 v' (n+m) (xs++news)/\w.grownBy w' v.ownBlock/\
   (v'.ownBlock=v.ownBlock\/v'.ownBlock=some w.heap.size):=by
 (have h63:n+m<=maxLen:=by unfold maxLen;omega);have hl:=hs.newsLen;(have hlen:(xs++news).length=(n+m)*1:=by rw[List.length_append,hown.1,hl,Nat.add_mul]);(have hs':Src P i.size tx x m news w:=by rw[hsize];exact hs)
 have grown:∀(old:Nat),old<n+m->∀(row:Option Nat),
   (w.drew.alloc (.cells ((xs++news).toArray++Builtin.zeroCells z.cells (grownCap w (n+m) old e-(n+m))) e)).ownsRow base e 1
    (.slice (some ⟨w.heap.size,0,none⟩) (n+m) (grownCap w (n+m) old e)) (n+m) (xs++news)/\
   w.grownBy (w.drew.alloc (.cells ((xs++news).toArray++Builtin.zeroCells z.cells (grownCap w (n+m) old e-(n+m))) e)) row:=by
  intro old ho row;have hge:=grownCap_ge w (n+m) old e;have hcm:grownCap w (n+m) old e<=maxLen:=grownCap_le_maxLen w (n+m) old e h63
  refine⟨⟨hlen,.inr ⟨w.heap.size,_,_,rfl,hbase,heap_alloc_new w.drew _,hge,hcm,?_,?_⟩⟩,⟨rfl,rfl,rfl,by simp,fun k hk _=>Below.heap_alloc w.drew _ k hk⟩⟩
  ·simp only[Array.size_append,List.size_toArray,size_zeroCells,hzs,hlen]
   omega
  ·simp only[Array.toList_append]
   rw[←hlen]
   exact List.take_left
 rcases hown.2 with⟨rfl,rfl⟩|⟨g,cap,cur,rfl,hbg,hg,hnc,hcm,hcs,htake⟩
 ·have hx:xs=[]:=List.eq_nil_of_length_eq_zero (by simpa using hown.1)
  subst hx
  by_cases hm:m=0
  ·subst hm
   have hn:news=[]:=List.eq_nil_of_length_eq_zero (by simpa using hl)
   subst hn
   refine⟨.slice none 0 0,w,?_,World.ownsRow_nil w base e 1,⟨rfl,rfl,rfl,Nat.le_refl _,fun _ _ _=>rfl⟩,Or.inl rfl⟩
   rcases hs'.kind with⟨e',hk⟩|hk<;>simp[Builtin.append_,run_underlying ht,run_underlying hk,sizeOf,typeInfo,hi,hs'.len,hs'.cells]
  ·have hr:=run_append_grow_src (P:=P) w t tx ty e i z ht hi hz none 0 0 [] (by simpa using run_firstCells_none (P:=P) w.drew i.size 0 0 0) x m news hs' om om
    (by rw[hby,Nat.zero_add,nextslicecap_zero om];omega)
   have hgr:=grown 0 om (Value.ownBlock (.slice none 0 0))
   simp only[Nat.zero_add,List.nil_append] at hgr hr ⊢
   exact⟨_,_,hr,hgr.1,hgr.2,Or.inr rfl⟩
 ·by_cases hroom:n+m<=cap
  ·(have hfit:n*1+news.length<=cur.size:=by rw[hl,hcs,←Nat.add_mul];exact Nat.mul_le_mul_right _ hroom);have hst:=run_storeCells_at P g (n*i.size) e news 0 cur w hg (by rw[hsize];simpa using hfit) hs.one
   simp only[Nat.add_zero] at hst
   have hr:(Builtin.append_ #[t,tx] ty #[.slice (some ⟨g,0,none⟩) n cap,x]).run P w=.ok (.slice (some ⟨g,0,none⟩) (n+m) cap) (w.setRow g (cur.toList.take (n*i.size)++news++cur.toList.drop (n*i.size+news.length)).toArray):=by
    rcases hs'.kind with⟨e',hk⟩|hk<;>simp[Builtin.append_,run_underlying ht,run_underlying hk,sizeOf,typeInfo,hi,hs'.len,hroom,hs'.cells,Addr.add_lit,hst]
   rw[hsize] at hr
   refine⟨_,_,hr,⟨hlen,.inr ⟨g,cap,_,rfl,hbg,setRow_heap w g cur _ e _ hg,hroom,hcm,?_,?_⟩⟩,⟨rfl,rfl,rfl,by simp,fun k _ hk=>setRow_other w g k _ (fun e=>hk (by simp[Value.ownBlock,e]))⟩,Or.inl rfl⟩
   ·simp only[List.size_toArray,List.length_append,List.length_take,List.length_drop,Array.length_toList]
    omega
   ·rw[htake,←hlen]
    exact List.take_left
  ·(have holds:∀j u,xs[j]?=some u->w.drew.cell? ((⟨g,0,none⟩:Addr).add j)=some u:=by simpa using hown.cells (g:=g) rfl)
   have hr:=run_append_grow_src (P:=P) w t tx ty e i z ht hi hz (some ⟨g,0,none⟩) n cap xs (by rw[hsize];exact run_firstCells_some (P:=P) w.drew 1 n ⟨g,0,none⟩ n cap xs hown.1 holds) x m news hs' om om
    (by have:=growslice_fits (need:=n+m) (old:=cap) (bytes:=i.bytes) om (by rw[hby];omega);exact this)
   have hgr:=grown cap om (Value.ownBlock (.slice (some ⟨g,0,none⟩) n cap))
   exact⟨_,_,hr,hgr.1,hgr.2,Or.inr rfl⟩
theorem qfz(hgd:o.guard=none)(s y:Operand)(t tx:TypeId)(ho:o.op=.call { callee:=.builtin .append,args:=#[s,y],argTypes:=#[t,tx] })(base:Nat)(e:TypeId)(i:TypeInfo)(z:Value)(ht:P.underlying t=some (.slice e))(hi:P.info? e=some i)(hz:i.zero=some z)(hsize:i.size=1)(hby:i.bytes=1)(hzs:z.cells.size=1)(v:Value)(n:Nat)(xs:List Value)(hsv:a.eval s=v)(hown:w.ownsRow base e 1 v n xs)(x:Value)(m:Nat)(news:List Value)(hx:a.eval y=x)(hs:Src P 1 tx x m news w)(hbytes:n+m<=140737488355328)(hbase:base<=w.heap.size)(h:∀v' w',w'.ownsRow base e 1 v' (n+m) (xs++news)->w.grownBy w' v.ownBlock->(v'.ownBlock=v.ownBlock\/v'.ownBlock=some w.heap.size)->wpList P ops Q rest (a.put o.dst v') w'):
  wpList P ops Q (o::rest) a w:=by
 refine wpList_plain hgd fun K hK=>?_
 obtain⟨v',w',hr,h2,h3,h4⟩:=qsc (P:=P) w base t tx o.type e i z ht hi hz hsize hby hzs v n xs hown x m news hs hbytes hbase
 unfold Oper.wp execOp
 simp only[ho,resolve,invoke,builtin,Sem.run_bind,Sem.run_pure,Result.andThen_ok,List.map_toArray,List.map_cons,List.map_nil,hsv,hx,hr]
 exact hK _ _ (h v' w' h2 h3 h4)
end
theorem qpj:(prog.info? 5).map (fun i=>(i.zero,i.size,i.bytes))=some (some (.int .u8 0),1,1):=by kernel_rfl
end
theorem qje(c:UInt8):0<=(c.toNat:Int)/\(c.toNat:Int)<=255:=by
 have:=c.toNat_lt;omega
def b8(n:Int):UInt8:=UInt8.ofNat (n%256).toNat
theorem qc1(n:Int):((b8 n).toNat:Int)=n%256:=by
 unfold b8
 rw[UInt8.toNat_ofNat'];omega
theorem qjb(n:Int):IntKind.u8.wrap n=n%256:=by
 simp[IntKind.wrap,IntKind.bits,IntKind.signed]
def w16(n:Int):List UInt8:=[b8 (n/256),b8 n]
def l32(n:Int):List UInt8:=w16 (n/65536)++w16 n
@[simp] theorem qa4b(n:Int):(w16 n).length=2:=rfl
@[simp] theorem qa3b(n:Int):(l32 n).length=4:=rfl
def setW(l:List UInt8)(k:Nat)(n:Int):List UInt8:=(l.set k (b8 (n/256))).set (k+1) (b8 n)
@[simp] theorem q6p(l:List UInt8)(k:Nat)(n:Int):(setW l k n).length=l.length:=by simp[setW]
def txt(l:List UInt8):ByteArray:=⟨l.toArray⟩
theorem qds(l:List UInt8):(txt l).data.toList=l:=by simp[txt]
theorem qck(l:List UInt8):(txt l).size=l.length:=by simp[txt,ByteArray.size]
theorem qmw(s:ByteArray):txt s.data.toList=s:=by cases s;simp[txt]
def be(v:Int):Nat->List UInt8
 | 0=>[]
 | n+1=>be (v/256) n++[b8 v]
theorem qd8(v:Int)(n:Nat):(be v n).length=n:=by
 induction n generalizing v with
 | zero=>rfl
 | succ n ih=>simp[be,ih]
def hi(v:Int):Nat->Int
 | 0=>v
 | k+1=>hi v k/256
theorem qrrb(v:Int)(h0:0<=v)(h1:v<=9223372036854775807)(k:Nat):0<=hi v k/\hi v k<=9223372036854775807:=by
 induction k with
 | zero=>exact⟨h0,h1⟩
 | succ k ih=>unfold hi;omega
theorem qqpb(v:Int)(j:Nat):hi (v/256) j=hi v (j+1):=by
 induction j with
 | zero=>rfl
 | succ j ij=>unfold hi;rw[ij]
theorem qp7b(v:Int)(j:Nat):be v (j+1)=[b8 (hi v j)]++be v j:=by
 induction j generalizing v with
 | zero=>rfl
 | succ j ihj=>
  show be (v/256) (j+1)++[b8 v]=_
  rw[ihj (v/256),qqpb];simp[be]
theorem qp3b(c:UInt8)(l:List UInt8):txt ([c]++l)=⟨#[c]⟩++txt l:=by
 rw[←qmw ((⟨#[c]⟩:ByteArray)++txt l)]
 congr 1
def num(l:List UInt8):Int:=l.foldl (fun n c=>256*n+(c.toNat:Int)) 0
theorem qemb(l:List UInt8)(c:UInt8):num (l++[c])=256*num l+(c.toNat:Int):=by simp[num]
theorem qj5b(a b:List UInt8):txt a++txt b=txt (a++b):=by
 rw[←qmw (txt a++txt b)]
 congr 1
section
open Go.ChangeShapes Go.WideShapes Go.ChangeAt Go.RowKit
def Row(t:TypeId)(w:World)(b:Nat)(cs:Array Value):Prop:=w.heap[b]?=some (.cells cs t (0,0))
section
variable {t:TypeId} {w w':World} {b r:Nat} {cs:Array Value}
theorem Row.cell(h:Row t w b cs):∀o,w.cell? ⟨b,o,none⟩=cs[o]?:=by intro o;unfold Row at h;simp[World.cell?,h]
theorem Row.free(h:Row t w b cs):∀o,w.frozen? ⟨b,o,none⟩=false:=by intro o;unfold Row at h;simp[World.frozen?,h]
theorem Row.lt(h:Row t w b cs):b<w.heap.size:=(Array.getElem?_eq_some_iff.1 h).1
theorem Row.below(h:Row t w b cs)(hb:Below w.heap.size w w'):Row t w' b cs:=(hb.block b h.lt).trans h
theorem Row.keep{B:Nat}(h:Row t w b cs)(hb:Below B w w')(hlt:b<B):Row t w' b cs:=(hb.block b hlt).trans h
theorem Row.ne{c:Nat}(h:Row t w b cs)(hle:w.heap.size<=c):b≠c:=Nat.ne_of_lt (Nat.lt_of_lt_of_le h.lt hle)
theorem Row.new(t:TypeId)(w:World)(cs:Array Value):Row t (w.alloc (.cells cs t)) w.heap.size cs:=heap_alloc_new w _
theorem Row.alloc(h:Row t w b cs)(o:Obj):Row t (w.alloc o) b cs:=(Below.heap_alloc _ _ _ h.lt).trans h
theorem Row.other{o:Nat}(h:Row t w r cs)(hne:r≠b):Row t (w.setCell ⟨b,o,none⟩ v) r cs:=(Below.heap_setCell _ _ _ _ hne).trans h
theorem Row.set{o:Nat}(h:Row t w b cs):Row t (w.setCell ⟨b,o,none⟩ v) b (cs.setIfInBounds o v):=heap_setCell_same w b o _ t _ h
theorem Row.range{o:Nat}{l:List Value}(h:Row t w b cs)(hl:∀j v,l[j]?=some v->cs[o+j]?=some v):w.rangeAt b o l:=fun j v hv=>(h.cell _).trans (hl j v hv)
end
structure qbl(b:Nat)(w w':World):Prop where
 size:w'.heap.size=w.heap.size
 other:∀r,r≠b->w'.heap[r]?=w.heap[r]?
 below:∀B w0,B<=b->Below B w0 w->Below B w0 w'
theorem qbl.row{r:Nat}{w':World}(h:qbl b w w')(hr:Row t w r cs)(hne:r≠b):Row t w' r cs:=(h.other r hne).trans hr
theorem qac(t:TypeId)(x:Operand)(ho:o.op=.load t x)(hw:Region.wanted o (yielded ops a.tmps)=true)(b:Nat)(hx:a.eval x=V (some ⟨b,0,none⟩))(cs:Array Value)(h:Row t w b cs)(d:TypeDesc)(hu:prog.underlying t=some d)(hd:d.isRow=true)(hi:(prog.info? t).map (·.size)=some cs.size)(hr:wpList prog ops Q rest (a.put o.dst (.agg cs)) w):wpList prog ops Q (o::rest) a w:=
 wpList_step fun K hK=>by
  rw[if_pos hw]
  exact wp_load_mid t x ho b 0 hx cs.toList d (h.range (fun j v hv=>by rw[Nat.zero_add];simpa using hv)) hu hd (by simpa using hi) (by simpa using hK _ _ hr)
theorem lx{Q : Exit -> Act -> World -> Prop}(t : TypeId)(x : Operand)(cs : Array Value)(h : Row t w b cs)(hr : wpList prog ops Q rest (a.put o.dst (.agg cs)) w)(ho : o.op = .load t x := by exact rfl)(hx : a.eval x = V (some ⟨b, 0, none⟩) := by exact rfl)(hw : Region.wanted o (yielded ops a.tmps) = true := by kernel_rfl)(hu : (prog.underlying t).map (·.isRow) = some true := by kernel_rfl)(hi : (prog.info? t).map (·.size) = some cs.size := by kernel_rfl): wpList prog ops Q (o::rest) a w := by
  obtain⟨d, h1, h2⟩ := Option.map_eq_some_iff.1 hu
  exact qac t x ho hw b hx cs h d h1 h2 hi hr
theorem qab(t:TypeId)(hgd:o.guard=none)(x y:Operand)(ho:o.op=.store t x y)(b:Nat)(hx:a.eval x=V (some ⟨b,0,none⟩))(cs:Array Value)(hy:a.eval y=.agg cs)(old:Array Value)(h:Row t w b old)(hs:old.size=cs.size)(hi:(prog.info? t).map (·.size)=some cs.size)(h1:cs.all (·.oneCell')=true)(hr:∀w',Row t w' b cs->qbl b w w'->wpList prog ops Q rest (a.put o.dst undef) w'):wpList prog ops Q (o::rest) a w:=
 wpList_plain hgd fun K hK=>by
  have hst:=run_storeVar_row (P:=prog) w b t t old cs h hi hs h1
  unfold Oper.wp execOp
  simp only[ho,hx,hy,Instr.storeAt,Instr.sureAddr,Sem.run_bind,Sem.run_pure,Result.andThen_ok,hst]
  exact hK _ _ (hr _ (setRow_heap w b old _ _ _ h) ⟨by simp,fun r hne=>setRow_other w b r _ hne,fun B w0 hB hb=>below_setRow hb hB _⟩)
theorem sx{Q : Exit -> Act -> World -> Prop}(t : TypeId)(x y : Operand)(cs : Array Value)(h : Row t w b old)(hr : ∀w', Row t w' b cs -> qbl b w w' -> wpList prog ops Q rest (a.put o.dst undef) w')(hgd : o.guard = none := by exact rfl)(ho : o.op = .store t x y := by exact rfl)(hx : a.eval x = V (some ⟨b, 0, none⟩) := by exact rfl)(hy : a.eval y = .agg cs := by exact rfl)(hs : old.size = cs.size := by kernel_rfl)(hi : (prog.info? t).map (·.size) = some cs.size := by kernel_rfl)(h1 : cs.all (·.oneCell') = true := by kernel_rfl): wpList prog ops Q (o::rest) a w := qab t hgd x y ho b hx cs hy old h hs hi h1 hr
theorem qa2(t:TypeId)(hgd:o.guard=none)(ho:o.op=.alloc t)(cs:Array Value)(hz:∀w:World,(zeroValue t).run prog w=.ok (.agg cs) w)(hr:∀b w',w.heap.size<=b->Row t w' b cs->Below w.heap.size w w'->wpList prog ops Q rest (a.put o.dst (V (some ⟨b,0,none⟩))) w'):wpList prog ops Q (o::rest) a w:=
 wpList_plain hgd fun K hK=>by
  have h':=hr w.heap.size (w.alloc (.cells cs t)) (Nat.le_refl _) (Row.new t w cs) ((Below.refl _ _).alloc (Nat.le_refl _) _)
  unfold Oper.wp execOp
  simp[ho,Instr.alloc,newVar,hz w,Result.andThen,Value.cells]
  simp[go_sem]
  exact hK _ _ h'
theorem ay{Q : Exit -> Act -> World -> Prop}(t : TypeId)(hz : ∀w : World, (zeroValue t).run prog w = .ok (.agg cs) w)(hr : ∀b w', w.heap.size <= b -> Row t w' b cs -> Below w.heap.size w w' -> wpList prog ops Q rest (a.put o.dst (V (some ⟨b, 0, none⟩))) w')(hgd : o.guard = none := by exact rfl)(ho : o.op = .alloc t := by exact rfl): wpList prog ops Q (o::rest) a w := qa2 t hgd ho cs hz hr
theorem qag(t:TypeId)(hgd:o.guard=none)(x:Operand)(ho:o.op=.box t x)(cs:Array Value)(hx:a.eval x=.agg cs)(hr:∀b w',w.heap.size<=b->Row t w' b cs->Below w.heap.size w w'->wpList prog ops Q rest (a.put o.dst (V (some ⟨b,0,none⟩))) w'):wpList prog ops Q (o::rest) a w:=
 wpList_plain hgd fun K hK=>by
  have h':=hr w.heap.size (w.alloc (.cells cs t)) (Nat.le_refl _) (Row.new t w cs) ((Below.refl _ _).alloc (Nat.le_refl _) _)
  unfold Oper.wp execOp
  simp only[ho,hx,Instr.box,newVar,Value.cells]
  simp[go_sem]
  exact hK _ _ h'
theorem bx{Q : Exit -> Act -> World -> Prop}(t : TypeId)(x : Operand)(cs : Array Value)(hr : ∀b w', w.heap.size <= b -> Row t w' b cs -> Below w.heap.size w w' -> wpList prog ops Q rest (a.put o.dst (V (some ⟨b, 0, none⟩))) w')(hgd : o.guard = none := by exact rfl)(ho : o.op = .box t x := by exact rfl)(hx : a.eval x = .agg cs := by exact rfl): wpList prog ops Q (o::rest) a w := qag t hgd x ho cs hx hr
theorem qbf{fn:Func}{p u:Tmp}(hf:fn.results=#[.cell p t,.tmp u])(tmps:Array Value)(w:World)(b:Nat)(cs:Array Value)(hp:tmps.getD p undef=V (some ⟨b,0,none⟩))(h:Row t w b cs)(d:TypeDesc)(hu:prog.underlying t=some d)(hd:d.isRow=true)(hi:(prog.info? t).map (·.size)=some cs.size):
  (results fn tmps).run prog w=.ok (.tuple #[.agg cs,tmps.getD u undef]) w:=by
 (have hp':tmps[p]?.getD undef=V (some ⟨b,0,none⟩):=by simpa using hp);have hl:=run_loadVar_mid (P:=prog) w b 0 t cs.toList d (h.range (fun j v hv=>by rw[Nat.zero_add];simpa using hv)) hu hd (by simpa using hi)
 simp only[Array.toArray_toList] at hl
 simp[results,hf,hp',asAddr,hl]
theorem qb1(t:TypeId)(x y:Operand)(ho:o.op=.binOp .eql t x y t)(hw:Region.wanted o (yielded ops a.tmps)=true)(xs ys:Array Value)(hx:a.eval x=.agg xs)(hy:a.eval y=.agg ys)(hg:prog.eqGuardType prog.depth t=false)(r q:Bool)(he:(Op.equalIn 10000 t (.agg xs) (.agg ys)).run prog w=.ok r w)(hq:r=q)(hr:wpList prog ops Q rest (a.put o.dst (.bool q)) w):wpList prog ops Q (o::rest) a w:=
 wpList_step fun K hK=>by
  rw[if_pos hw]
  subst hq
  unfold Oper.wp execOp
  simp only[ho,hx,hy,Sem.run_bind,run_eqGuard_agg w .eql t x y xs ys hg,run_eql_struct,he,Result.andThen_ok,Sem.run_pure]
  exact hK _ _ hr
theorem qav{S:World->Prop}(t:TypeId)(x:Operand)(ho:o.op=.load t x)(hw:Region.wanted o (yielded ops a.tmps)=true)(b:Nat)(hx:a.eval x=V (some ⟨b,0,none⟩))(cs:Array Value)(hS:∀w,S w->Row t w b cs)(d:TypeDesc)(hu:prog.underlying t=some d)(hd:d.isRow=true)(hi:(prog.info? t).map (·.size)=some cs.size):YieldsIf prog ops S o (.agg cs) a:=by
 have:=yieldsIf_load_mid (P:=prog) (S:=S) hw t x ho b 0 hx cs.toList d (fun w h=>(hS w h).range (fun j v hv=>by rw[Nat.zero_add];simpa using hv)) hu hd (by simpa using hi)
 simpa using this
theorem yx{S : World -> Prop}(t : TypeId)(x : Operand)(cs : Array Value)(hS : ∀w, S w -> Row t w b cs)(ho : o.op = .load t x := by exact rfl)(hw : Region.wanted o (yielded ops a.tmps) = true := by kernel_rfl)(hx : a.eval x = V (some ⟨b, 0, none⟩) := by kernel_rfl)(hu : (prog.underlying t).map (·.isRow) = some true := by kernel_rfl)(hi : (prog.info? t).map (·.size) = some cs.size := by kernel_rfl): YieldsIf prog ops S o (.agg cs) a := by
  obtain⟨d, h1, h2⟩ := Option.map_eq_some_iff.1 hu
  exact qav t x ho hw b hx cs hS d h1 h2 hi
theorem qaf(k:Nat)(t:TypeId)(hk:o.dst=some k)(hgd:o.guard=none)(ho:o.op=.alloc t)(cs:Array Value)(hz:∀w:World,(zeroValue t).run prog w=.ok (.agg cs) w)(hr:∀b w',w.heap.size<=b->Row t w' b cs->Below w.heap.size w w'->wpList prog ops Q rest (a.put o.dst (V (some ⟨b,0,none⟩))) w'):wpList prog ops Q (o::rest) a w:=qa2 t hgd ho cs hz hr
theorem ax{Q : Exit -> Act -> World -> Prop}(k : Nat)(t : TypeId)(hz : ∀w : World, (zeroValue t).run prog w = .ok (.agg cs) w)(hr : ∀b w', w.heap.size <= b -> Row t w' b cs -> Below w.heap.size w w' -> wpList prog ops Q rest (a.put o.dst (V (some ⟨b, 0, none⟩))) w')(hk : o.dst = some k := by exact rfl)(hgd : o.guard = none := by exact rfl)(ho : o.op = .alloc t := by exact rfl): wpList prog ops Q (o::rest) a w := qaf k t hk hgd ho cs hz hr
theorem qau{K:Act->World->Prop}(t:TypeId)(x y:Operand)(ho:o.op=.store t x y)(b:Nat)(hx:a.eval x=V (some ⟨b,0,none⟩))(cs:Array Value)(hy:a.eval y=.agg cs)(old:Array Value)(h:Row t w b old)(hs:old.size=cs.size)(hi:(prog.info? t).map (·.size)=some cs.size)(h1:cs.all (·.oneCell')=true)(hr:∀w',Row t w' b cs->qbl b w w'->K (a.put o.dst undef) w'):o.wp prog a w K Q:=by
 have hst:=run_storeVar_row (P:=prog) w b t t old cs h hi hs h1
 unfold Oper.wp execOp
 simp only[ho,hx,hy,Instr.storeAt,Instr.sureAddr,Sem.run_bind,Sem.run_pure,Result.andThen_ok,hst]
 exact hr _ (setRow_heap w b old _ _ _ h) ⟨by simp,fun r hne=>setRow_other w b r _ hne,fun B w0 hB hb=>below_setRow hb hB _⟩
theorem sy{K : Act -> World -> Prop}{Q : Exit -> Act -> World -> Prop}(t : TypeId)(x y : Operand)(cs : Array Value)(h : Row t w b old)(hr : ∀w', Row t w' b cs -> qbl b w w' -> K (a.put o.dst undef) w')(ho : o.op = .store t x y := by exact rfl)(hx : a.eval x = V (some ⟨b, 0, none⟩) := by kernel_rfl)(hy : a.eval y = .agg cs := by kernel_rfl)(hs : old.size = cs.size := by kernel_rfl)(hi : (prog.info? t).map (·.size) = some cs.size := by kernel_rfl)(h1 : cs.all (·.oneCell') = true := by kernel_rfl): o.wp prog a w K Q := qau t x y ho b hx cs hy old h hs hi h1 hr
theorem qfx(b o:Nat)(v:Value)(w:World):qbl b w (w.setCell ⟨b,o,none⟩ v):=⟨by simp,fun r hne=>Below.heap_setCell _ _ _ _ hne,fun B w0 hB hb=>hb.setCell hB v⟩
theorem qae(R:Row t w b cs)(x:Operand)(ho:o.op=.load 3 x)(hw:Region.wanted o (yielded ops a.tmps)=true)(f:Nat)(hx:a.eval x=V (some ⟨b,f,none⟩))(n:Int)(hc:cs[f]?=some (I Z n))(hr:wpList prog ops Q rest (a.put o.dst (I Z n)) w):wpList prog ops Q (o::rest) a w:=
 wpList_step fun K hK=>by
  rw[if_pos hw];have hcell:=(R.cell f).trans hc
  unfold Oper.wp execOp
  simp only[ho,hx]
  simp[go_sem,hcell,underlying3]
  exact hK _ _ hr
theorem fx{Q : Exit -> Act -> World -> Prop}(R : Row t w b cs)(x : Operand)(f : Nat)(n : Int)(hr : wpList prog ops Q rest (a.put o.dst (I Z n)) w)(ho : o.op = .load 3 x := by exact rfl)(hx : a.eval x = V (some ⟨b, f, none⟩) := by exact rfl)(hc : cs[f]? = some (I Z n) := by exact rfl)(hw : Region.wanted o (yielded ops a.tmps) = true := by kernel_rfl): wpList prog ops Q (o::rest) a w := qae R x ho hw f hx n hc hr
theorem qbb(R:Row t w b cs)(hgd:o.guard=none)(x y:Operand)(ho:o.op=.store 3 x y)(f:Nat)(hx:a.eval x=V (some ⟨b,f,none⟩))(n:Int)(hy:a.eval y=I Z n)(m:Int)(hc:cs[f]?=some (I Z m))(ds:Array Value)(hd:cs.setIfInBounds f (I Z n)=ds)(hr:∀w',Row t w' b ds->qbl b w w'->wpList prog ops Q rest (a.put o.dst undef) w'):wpList prog ops Q (o::rest) a w:=
 wpList_plain hgd fun K hK=>by
  have hcell:=(R.cell f).trans hc;have hfr:=R.free f
  unfold Oper.wp execOp
  simp only[ho,hx,hy]
  simp[go_sem,hcell,hfr,underlying3]
  exact hK _ _ (hr _ (hd▸R.set) (qfx _ _ _ _))
section
variable {ops:Array Oper} {S:World->Prop} {o:Oper} {a:Act}
theorem qj4b(x:Operand)(v:Value)(ho:o.op=.move x)(hw:Region.wanted o (yielded ops a.tmps)=true)(hx:a.eval x=v):YieldsIf prog ops S o v a:=
 .inl ⟨hw,fun w _=>by unfold execOp;simp only[ho,hx,Sem.run_bind,Sem.run_pure,Result.andThen_ok]⟩
theorem qnrb(c x y:Operand)(b:Bool)(v:Value)(ho:o.op=.pick c x y)(hw:Region.wanted o (yielded ops a.tmps)=true)(hc:a.eval c=.bool b)(hx:(if b=true then a.eval x else a.eval y)=v):YieldsIf prog ops S o v a:=
 .inl ⟨hw,fun w _=>by cases b<;>simp at hx<;>(unfold execOp;simp[ho,hc,hx,asBool,Result.andThen])⟩
theorem q10(c x y:Operand)(v:Value)(ho:o.op=.pick c x y)(hw:Region.wanted o (yielded ops a.tmps)=true)(hc:a.eval c=.bool true)(hx:a.eval x=v):YieldsIf prog ops S o v a:=qnrb c x y true v ho hw hc (by rw[if_pos rfl];exact hx)
theorem qkib(c x y:Operand)(v:Value)(ho:o.op=.pick c x y)(hw:Region.wanted o (yielded ops a.tmps)=true)(hc:a.eval c=.bool false)(hy:a.eval y=v):YieldsIf prog ops S o v a:=qnrb c x y false v ho hw hc (by rw[if_neg zm];exact hy)
theorem qmnb(t:TypeId)(x y:Operand)(n m:Int)(b:Bool)(ho:o.op=.binOp .eql t x y t)(hw:Region.wanted o (yielded ops a.tmps)=true)(hx:a.eval x=I Z n)(hy:a.eval y=I Z m)(hb:(n==m)=b):YieldsIf prog ops S o (.bool b) a:=
 .inl ⟨hw,fun w _=>by unfold execOp;simp only[ho,hx,hy];simp[go_sem,hb,eqGuard]⟩
theorem qrk(t:TypeId)(x y:Operand)(n m:Int)(b:Bool)(ho:o.op=.binOp .neq t x y t)(hw:Region.wanted o (yielded ops a.tmps)=true)(hx:a.eval x=I Z n)(hy:a.eval y=I Z m)(hb:(n != m)=b):YieldsIf prog ops S o (.bool b) a:=
 .inl ⟨hw,fun w _=>by unfold execOp;simp only[ho,hx,hy];simp[go_sem,hb,eqGuard]⟩
theorem q0eb(x:Operand)(b c:Bool)(ho:o.op=.unOp .not 4 x)(hw:Region.wanted o (yielded ops a.tmps)=true)(hx:a.eval x=.bool b)(hb:(!b)=c):YieldsIf prog ops S o (.bool c) a:=
 .inl ⟨hw,fun w _=>by subst hb;unfold execOp;simp only[ho,hx];simp[go_sem]⟩
end
theorem qovb(w:World)(c:UInt8)(x:Int)(hx:x=(c.toNat:Int)):(convert 48 9 (.slice (some ⟨w.heap.size,0,none⟩) 1 1)).run prog (w.alloc (.cells #[.int .u8 x] 5))=.ok (.string ⟨#[c]⟩) (w.alloc (.cells #[.int .u8 x] 5)):=by
 subst hx
 refine run_convert_bytes_back (P:=prog) (w.alloc (.cells #[.int .u8 (c.toNat:Int)] 5)) 48 9 5 ⟨w.heap.size,0,none⟩ 1 [c] underlying48 underlying5 underlying9 ?_;intro j hj;(have hj':j=0:=by simp at hj;omega)
 subst hj'
 exact World.cell?_alloc_mark w #[.int .u8 (c.toNat:Int)] 5 (0,0) 0
theorem qkgb(v:Int)(n:Nat)(w:World)(h0:0<=v)(h1:v<=9223372036854775807)(hn:n<=8):
  Calls prog 26 #[I Z v,I Z (n:Int)] w fun e w'=>e=.returned (.string (txt (be v n)))/\Below w.heap.size w w':=by
 go_enter func26,ntmps26
 go_wp2
 go_loopw [0,1,5] (fun x m s W=>∃k:Nat,k<=n/\x=I Z (hi v k)/\m=I Z ((n-k:Nat):Int)/\s=.string (txt (be v k))/\Below w.heap.size w W) (fun _ m _ _=>(intOf m).toNat)
 case atStart=>exact⟨0,by omega,rfl,by simp,rfl,Below.refl _ _⟩
 case round=>
  obtain⟨k,hk,rfl,rfl,rfl,hB⟩:=hrel
  obtain⟨b0,b1⟩:=qrrb v h0 h1 k
  by_cases hlt:k<n
  ·have HB:Hid (be v (k+1)=[b8 (hi v k)]++be v k):=qp7b v k;(have hx:IntKind.u8.wrap (hi v k%256)=((b8 (hi v k)).toNat:Int):=by rw[qjb,qc1];omega);(have hc:=fun W=>qovb W (b8 (hi v k)) _ rfl);(have hsz:(txt (be v k)).size=k:=by rw[qck,qd8]);(have hs:((n-k:Nat):Int)-1=((n-(k+1):Nat):Int):=by omega);(have hp:(0:Int)<((n-k:Nat):Int):=by omega)
   go_wp2
   go_roundw
   case rel=>exact⟨k+1,by omega,rfl,rfl,by rw[HB.out,qp3b],hB.alloc hB.size _⟩
   case measure=>simp[intOf];omega
  ·(have e:k=n:=by omega)
   subst e
   go_wp2
   go_ret
   exact⟨rfl,hB⟩
theorem qfjb(s:ByteArray)(w:World):∃(C:Array Value) (cap:Nat),
  (convert 9 48 (.string s)).run prog w=.ok (.slice (some ⟨w.heap.size,0,none⟩) s.size cap) (w.drew.alloc (.cells C 5 (C.size,C.size+1)))/\
  ∀(j:Nat) (h:j<s.size),(w.alloc (.cells C 5 (C.size,C.size+1))).cell? ⟨w.heap.size,j,none⟩=some (.int .u8 (s[j].toNat:Int)):=by
 refine⟨_,_,run_bytes_of_string w 9 48 5 s underlying9 underlying48 underlying5,fun j h=>?_⟩
 exact(World.cell?_alloc_mark w _ 5 _ j).trans (bytesRow_at s _ j (by simpa using h))
end
end Go.Proofs.YtnhafdkfjjplkaaDoor
