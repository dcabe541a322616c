/-
  Of what a law stands on.
-/
import Derived.WideKeyEntry
import Derived.DeepKeys5
import Derived.Test.YtonnjgmognbnbaaGreatDoorZtTpW
set_option linter.unusedSimpArgs false
set_option linter.unusedVariables false
namespace Go.Proofs.YtonnjgmognbnbaaGreatDoor
open Go.Value renaming int → I,pointer → V
open Go.IntKind renaming i64 → Z
open _root_.Go.Proofs.Tryz Go.ChangeShapes Go.WideShapes Go.ChangeAt Go.RowKit Go.Maps
set_option maxHeartbeats 16000000
set_option maxRecDepth 100000
variable {b c n:Nat}{o:Obj}{W w:World}{L:List Mp}{v:Value}{ks:List Fl}{a:Option Addr}
structure Rb(w0 W:World)(L:List (Nat×Obj)):Prop where
 low:Below w0.heap.size w0 W
 nodup:(L.map (·.1)).Nodup
 rows:∀y∈L,W.heap[y.1]?=some y.2/\w0.heap.size<=y.1
section
variable {w0 W W':World} {L:List (Nat×Obj)}
theorem Rb.start(w:World):Rb w w []:=⟨Below.refl _ _,by simp,by simp⟩
theorem Rb.obj(h:Rb w0 W L)(i:Nat)(hi:L[i]?=some (c,o)):W.heap[c]?=some o:=(h.rows _ (List.mem_of_getElem? hi)).1
theorem Rb.row(h:Rb w0 W L)(i:Nat){t:TypeId}{cs:Array Value}(hi:L[i]?=some (c,ob t cs)):Row t W c cs:=h.obj i hi
theorem Rb.lt(h:Rb w0 W L)(hc:c∈L.map (·.1)):c<W.heap.size:=by
 obtain⟨y,hy,rfl⟩:=List.mem_map.1 hc
 exact(Array.getElem?_eq_some_iff.1 (h.rows y hy).1).1
theorem Rb.below(h:Rb w0 W L)(hb:Below W.heap.size W W'):Rb w0 W' L:=
 ⟨h.low.trans (hb.mono h.low.size),h.nodup,fun y hy=>⟨(hb.block _ (h.lt (List.mem_map.2 ⟨y,hy,rfl⟩))).trans (h.rows y hy).1,(h.rows y hy).2⟩⟩
theorem Rb.drew(h:Rb w0 W L):Rb w0 W.drew L:=h.below (Below.refl _ _).drew
theorem Rb.less{y:Nat×Obj}(h:Rb w0 W (y::L)):Rb w0 W L:=⟨h.low,by have:=h.nodup;rw[List.map_cons,List.nodup_cons] at this;exact this.2,fun z hz=>h.rows z (List.mem_cons_of_mem _ hz)⟩
theorem Rb.alloc(h:Rb w0 W L)(hl:W.heap.size<=c)(R:W'.heap[c]?=some o)(hb:Below W.heap.size W W'):Rb w0 W' ((c,o)::L):=by
 have h':=h.below hb
 refine⟨h'.low,?_,fun y hy=>?_⟩
 ·rw[List.map_cons,List.nodup_cons]
  exact⟨fun hm=>by have:=h.lt hm;simp only at *;omega,h.nodup⟩
 ·rcases List.mem_cons.1 hy with rfl|hy
  ·exact⟨R,Nat.le_trans h.low.size hl⟩
  ·exact h'.rows y hy
theorem Rb.turn(h:Rb w0 W L)(i:Nat){o':Obj}(hi:L[i]?=some (c,o))(R:W'.heap[c]?=some o')(T:qbl c W W'):Rb w0 W' (L.set i (c,o')):=by
 have hlt:i<L.length:=(List.getElem?_eq_some_iff.1 hi).1;have hLi:L[i]=(c,o):=(List.getElem?_eq_some_iff.1 hi).2
 have hm:(L.set i (c,o')).map (·.1)=L.map (·.1):=by
  apply List.ext_getElem?
  intro j;refine m4t ?_
  by_cases hj:i=j
  ·subst hj;simp[hlt,hLi]
  ·simp[hj]
 have hc:=h.rows _ (List.mem_of_getElem? hi)
 refine⟨T.below _ _ hc.2 h.low,by rw[hm];exact h.nodup,fun y hy=>?_⟩
 obtain⟨j,hj⟩:=List.mem_iff_getElem?.1 hy
 rw[List.getElem?_set] at hj
 by_cases hij:i=j
 ·subst hij
  rw[if_pos rfl,if_pos hlt] at hj
  obtain rfl:=Option.some.inj hj
  exact⟨R,hc.2⟩
 ·rw[if_neg hij] at hj
  have hy':=List.mem_of_getElem? hj
  refine⟨(T.other _ (fun e=>hij ?_)).trans (h.rows y hy').1,(h.rows y hy').2⟩
  refine m36 ?_;intro e1 e2
  exact(List.getElem?_inj (by simpa using hlt) h.nodup).1 (by rw[e1,e2])
end
theorem qhnb{W':World}(h:W.mapTurned W' b):qbl b W W':=by
 have hg:=h.grown
 obtain⟨es,c,es',c',hb,rfl⟩:=h
 (have hsz:(ChangeMaps.setBlock W b (.map es' c')).heap.size=W.heap.size:=by simp[ChangeMaps.setBlock]);(have ho:∀r,r≠b->(ChangeMaps.setBlock W b (.map es' c')).heap[r]?=W.heap[r]?:=fun r hr=>by simp[ChangeMaps.setBlock,Array.getElem?_setIfInBounds,Ne.symm hr])
 exact⟨hsz,ho,fun B w0 hB hb0=>⟨hg.os.trans hb0.os,hg.tape.trans hb0.tape,hg.output.trans hb0.output,Nat.le_trans hb0.size hg.size,fun k hk=>(ho k om).trans (hb0.block k hk)⟩⟩
def wfG(x:Int):Prop:=(Lit.int .i64 x).wf=true
def okG(m:Mp):Prop:=wfG m.1/\wfG m.2.1/\wfG m.2.2.1/\wfG m.2.2.2.1/\wfG m.2.2.2.2
theorem qhob{x:Int}(h:-9223372036854775808<=x/\x<=9223372036854775807):wfG x:=by unfold wfG;simpa[Lit.wf,IntKind.min,IntKind.max,IntKind.signed,IntKind.bits] using h
theorem qifb(a b:Mp)(h:Value.agg (mc a)=.agg (mc b)):a=b:=by
 obtain⟨a1,a2,a3,a4,a5⟩:=a;obtain⟨b1,b2,b3,b4,b5⟩:=b
 simp[mc] at h
 obtain⟨rfl,rfl,rfl,rfl,rfl⟩:=h
 rfl
theorem qinb:∃d,prog.types.size+1=d+2:=by
 (have h:decide (0<prog.types.size)=true:=by kernel_rfl)
 have:=of_decide_eq_true h
 exact⟨prog.types.size-1,by omega⟩
theorem qjeb:WideMaps.KeyLaw prog 50:=deep_law_gate kr (of_decide_eq_true kr) (of_decide_eq_true kr) kr kr
theorem qhlb:Keyed prog 50:=Keyed.of_law qjeb
theorem qhwb(x:Mp)(h:okG x):∃l,keyOf prog 50 (.agg (mc x))=some l:=by
 (have hk:prog.keyType 50=true:=by kernel_rfl);(have hf:(Value.agg (mc x)).formed prog 50=true:=by kernel_rfl);(have c5:prog.cellsOf 50=5:=by kernel_rfl);(have c1:prog.cellsOf 3=1:=by kernel_rfl);obtain⟨d,hd⟩:=qinb
 have hl:prog.keyLits (prog.types.size+1) 50 (Value.agg (mc x)).cells.toList=some [.int .i64 x.1,.int .i64 x.2.1,.int .i64 x.2.2.1,.int .i64 x.2.2.2.1,.int .i64 x.2.2.2.2]:=by
  rw[hd];obtain⟨h1,h2,h3,h4,h5⟩:=h
  unfold wfG at h1 h2 h3 h4 h5
  simp[Program.keyLits,Value.cells,mc,underlying50,underlying3,c5,c1,h1,h2,h3,h4,h5]
 unfold keyOf
 rw[underlying50]
 simp only[hk,hf,hl,Bool.and_self,if_true,Option.map_some]
 exact⟨_,rfl⟩
def Us(W:World)(b n:Nat)(L:List Mp):Prop:=
 ∃D:DataW Unit,W.ownsMap prog 50 (plainElem prog 4) b n D/\Tidy D/\Go.Maps.size D=L.length/\L.Nodup/\∀m l,keyOf prog 50 (.agg (mc m))=some l->Go.Maps.has D l=decide (m∈L)/\(m∈L->∀z,D.atKey l z=.lit (.bool true))
def UsO(o:Obj)(n:Nat)(L:List Mp):Prop:=∀(W:World) (b:Nat),W.heap[b]?=some o->Us W b n L
theorem Us.obj(h:Us W b n L):∃o,W.heap[b]?=some o/\UsO o n L:=by
 obtain⟨D,⟨es,c,hb,r⟩,h2⟩:=h
 exact⟨_,hb,fun W' b' hb'=>⟨D,⟨es,c,hb',r⟩,h2⟩⟩
theorem qi9b:UsO (.map #[] 0) 0 []:=fun W b hb=>⟨.map [],⟨#[],0,hb,by
 obtain⟨es,c,hb',r⟩:=World.ownsMap_made (H:=Unit) W prog 50 (plainElem prog 4);have e:(W.alloc (.map #[] 0)).heap[W.heap.size]?=some (.map #[] 0):=heap_alloc_new W _
 rw[e] at hb'
 injection hb' with hb'
 injection hb' with e1 e2
 subst e1 e2
 exact r⟩,tidy_empty,rfl,List.nodup_nil,fun m l _=>⟨by simp[Go.Maps.has],fun h=>by simp at h⟩⟩
def addU(L:List Mp)(m:Mp):List Mp:=if m∈L then L else m::L
theorem qhtb(L:List Mp)(m x:Mp):x∈addU L m↔x=m\/x∈L:=by
 unfold addU
 split
 ·rename_i h
  exact⟨.inr,fun h2=>h2.elim (fun e=>e▸h) id⟩
 ·exact List.mem_cons
theorem qjab(h:Us W b n L)(hn:n<maxLen)(m:Mp)(hm:okG m):∃w',(Instr.mapUpdate 48 (.map (some b)) (.agg (mc m)) (.bool true)).run prog W=.ok () w'/\Us w' b (n+1) (addU L m)/\W.mapTurned w' b:=by
 obtain⟨D,h1,ht,hs,hd,hk⟩:=h;obtain⟨l,hl⟩:=qhwb m hm;obtain⟨w',hr,ho,hg⟩:=h1.store qhlb (t:=48) (e:=4) underlying48 hn hl (plainElem_bool (H:=Unit) underlying4 true);have hkl:=qhlb.key hl
 refine⟨w',hr,⟨_,ho,ht.put hkl _,?_,?_,fun x lx hx=>?_⟩,hg⟩
 ·rw[size_put ht,(hk m l hl).1,hs]
  unfold addU
  by_cases e:m∈L
  ·rw[if_pos e];simp[e]
  ·rw[if_neg e];simp[e]
 ·unfold addU
  split
  ·exact hd
  ·rename_i e;exact List.nodup_cons.2 ⟨e,hd⟩
 ·by_cases e:x=m
  ·subst e
   obtain rfl:l=lx:=by rw[hl] at hx;exact Option.some.inj hx
   have hmem:x∈addU L x:=(qhtb _ _ _).2 (.inl rfl)
   exact⟨by rw[has_put_same ht.isMap hkl];simp[hmem],fun _ z=>atKey_put_same ht.isMap hkl _ _⟩
  ·(have hne:lx≠l:=fun e2=>e (qifb _ _ (qhlb.inj hx (by rw[e2];exact hl))));(have hiff:x∈addU L m↔x∈L:=(qhtb _ _ _).trans ⟨fun h=>h.elim (fun e2=>absurd e2 e) id,.inr⟩)
   refine⟨by rw[has_put_other hne,(hk x lx hx).1];exact decide_eq_decide.2 hiff.symm,fun hm2 z=>?_⟩
   rw[atKey_put_other hne]
   exact(hk x lx hx).2 (hiff.1 hm2) z
theorem qibb{x:Bool}{ps:List MemPlace}(h:plainElem (H:=Unit) prog 4 v=some (.lit (.bool x),ps)):v=.bool x:=by
 unfold plainElem at h
 rw[underlying4] at h
 cases v<;>simp at h
 ·exact congrArg Value.bool h.1
theorem qi7b(h:Us W b n L)(m:Mp)(hm:okG m)(hL:m∈L):(Instr.lookup 48 (.map (some b)) (.agg (mc m)) false).run prog W=.ok (.bool true) W:=by
 obtain⟨D,h1,ht,hs,hd,hk⟩:=h;obtain⟨l,hl⟩:=qhwb m hm;(obtain⟨v,ps,hr,hv⟩:=h1.lookup qhlb (t:=48) (e:=4) underlying48 (show(zeroValue 4).run prog W=.ok (.bool false) W by kernel_rfl) (plainElem_bool (H:=Unit) underlying4 false) hl)
 rw[(hk m l hl).2 hL] at hv
 rw[hr,qibb hv]
theorem qjdb(h:Us W b n L)(m:Mp)(hm:okG m)(hL:m∈L)(ty:TypeId):∃w',(Builtin.delete_ #[48,50] ty #[.map (some b),.agg (mc m)]).run prog W=.ok (.tuple #[]) w'/\Us w' b n (L.erase m)/\W.mapTurned w' b:=by
 obtain⟨D,h1,ht,hs,hd,hk⟩:=h;obtain⟨l,hl⟩:=qhwb m hm;obtain⟨w',hr,ho,hg⟩:=h1.drop qhlb (t:=48) (e:=4) underlying48 hl ty
 refine⟨w',hr,⟨_,ho,ht.del _,?_,hd.erase _,fun x lx hx=>?_⟩,hg⟩
 ·have e:=size_del (k:=l) ht
  rw[(hk m l hl).1,hs] at e
  simp[hL] at e
  rw[List.length_erase_of_mem hL]
  omega
 ·by_cases e:x=m
  ·subst e
   obtain rfl:l=lx:=by rw[hl] at hx;exact Option.some.inj hx
   (have hmem:¬x∈L.erase x:=fun h=>by rw[hd.mem_erase_iff] at h;exact h.1 rfl)
   exact⟨by rw[has_del_same];simp[hmem],fun h=>absurd h hmem⟩
  ·(have hne:lx≠l:=fun e2=>e (qifb _ _ (qhlb.inj hx (by rw[e2];exact hl))));(have hiff:x∈L.erase m↔x∈L:=by rw[hd.mem_erase_iff];exact⟨fun h=>h.2,fun h=>⟨e,h⟩⟩)
   refine⟨by rw[has_del_other hne,(hk x lx hx).1];exact decide_eq_decide.2 hiff.symm,fun hm2 z=>?_⟩
   rw[atKey_del_other hne]
   exact(hk x lx hx).2 (hiff.1 hm2) z
theorem qjfb(h:Us W b n L)(ty:TypeId):(Builtin.len_ #[48] ty #[.map (some b)]).run prog W=.ok (I Z (L.length:Int)) W:=by
 obtain⟨D,h1,ht,hs,hd,hk⟩:=h;rw[←hs]
 exact h1.len (t:=48) (e:=4) underlying48 ty
section
variable {ops:Array Oper} {rest:List Oper} {o:Oper} {a:Act} {w:World} {Q:Exit->Act->World->Prop} {b n:Nat} {L:List Mp}
theorem qipb(hgd:o.guard=none)(ho:o.op=.makeMap 48 none)(hr:∀b w',w.heap.size<=b->w'.heap[b]?=some (.map #[] 0)->Below w.heap.size w w'->wpList prog ops Q rest (a.put o.dst (.map (some b))) w'):wpList prog ops Q (o::rest) a w:=
 wpList_plain hgd fun K hK=>by
  have hm:=@run_makeMap prog 48 w
  unfold Oper.wp execOp
  simp only[ho,Option.map_none,Sem.run_bind,hm,Result.andThen_ok,Sem.run_pure]
  exact hK _ _ (hr _ _ (Nat.le_refl _) (heap_alloc_new _ _) ((Below.refl _ _).alloc (Nat.le_refl _) _))
theorem qiab(hgd:o.guard=none)(x y:Operand)(ho:o.op=.mapUpdate 48 x y (.const (.bool true)))(hx:a.eval x=.map (some b))(m:Mp)(hy:a.eval y=.agg (mc m))(hm:okG m)(h:Us w b n L)(hn:n<maxLen)(hr:∀w',Us w' b (n+1) (addU L m)->qbl b w w'->wpList prog ops Q rest (a.put o.dst undef) w'):wpList prog ops Q (o::rest) a w:=
 wpList_plain hgd fun K hK=>by
  obtain⟨w',h1,h2,h3⟩:=qjab h hn m hm;have hz:a.eval (.const (.bool true))=.bool true:=rfl
  unfold Oper.wp execOp
  simp only[ho,hx,hy,hz,Sem.run_bind,h1,Result.andThen_ok,Sem.run_pure]
  exact hK _ _ (hr w' h2 (qhnb h3))
theorem qh2b(hgd:o.guard=none)(x y:Operand)(ho:o.op=.lookup 48 x y false)(hx:a.eval x=.map (some b))(m:Mp)(hy:a.eval y=.agg (mc m))(hm:okG m)(h:Us w b n L)(hL:m∈L)(hr:wpList prog ops Q rest (a.put o.dst (.bool true)) w):wpList prog ops Q (o::rest) a w:=
 wpList_plain hgd fun K hK=>by
  unfold Oper.wp execOp
  simp only[ho,hx,hy,Sem.run_bind,qi7b h m hm hL,Result.andThen_ok,Sem.run_pure]
  exact hK _ _ hr
theorem qh9b(hgd:o.guard=none)(x y:Operand)(ho:o.op=.call { callee:=.builtin .delete,args:=#[x,y],argTypes:=#[48,50] })(hx:a.eval x=.map (some b))(m:Mp)(hy:a.eval y=.agg (mc m))(hm:okG m)(h:Us w b n L)(hL:m∈L)(hr:∀w',Us w' b n (L.erase m)->qbl b w w'->wpList prog ops Q rest (a.put o.dst (.tuple #[])) w'):wpList prog ops Q (o::rest) a w:=
 wpList_plain hgd fun K hK=>by
  obtain⟨w',h1,h2,h3⟩:=qjdb h m hm hL o.type
  unfold Oper.wp execOp
  simp only[ho,resolve,invoke,builtin,Sem.run_bind,Sem.run_pure,Result.andThen_ok,List.map_toArray,List.map_cons,List.map_nil,hx,hy,h1]
  exact hK _ _ (hr w' h2 (qhnb h3))
theorem qicb(hgd:o.guard=none)(x:Operand)(ho:o.op=.call { callee:=.builtin .len,args:=#[x],argTypes:=#[48] })(hx:a.eval x=.map (some b))(h:Us w b n L)(hr:wpList prog ops Q rest (a.put o.dst (I Z (L.length:Int))) w):wpList prog ops Q (o::rest) a w:=
 wpList_plain hgd fun K hK=>by
  unfold Oper.wp execOp
  simp only[ho,resolve,invoke,builtin,Sem.run_bind,Sem.run_pure,Result.andThen_ok,List.map_toArray,List.map_cons,List.map_nil,hx,qjfb h o.type]
  exact hK _ _ hr
end
theorem FlO.cap{base:Nat}(h:FlO w base v ks)(e:v=.slice a n c):n<=c:=by
 rcases h.2 with⟨e1,n0⟩|⟨b,cap,cur,hv,hbb,hh,hnc,_⟩
 ·rw[e1] at e;injection e with _ e2 e3;omega
 ·rw[hv] at e;injection e with _ e2 e3;omega
theorem qixb(a:Option Addr)(n c k:Nat)(hk:k<=n)(hn:n<=c)(w:World):(Instr.slice 41 (.slice a n c) none (some (I Z (k:Int))) none).run prog w=.ok (.slice a k c) w:=by
 (have hs:(sizeOf 52).run prog w=.ok 10 w:=by kernel_rfl);(have h1:(k:Int)<=(c:Int):=by omega);(have h2:¬(c:Int)<(k:Int):=by omega)
 cases a<;>simp[go_sem,underlying41,hs,h1,h2]
theorem qh6b{ops:Array Oper}{rest:List Oper}{o:Oper}{a:Act}{Q:Exit->Act->World->Prop}(hgd:o.guard=none)(x y:Operand)(ho:o.op=.slice 41 x none (some y) none)(a0:Option Addr)(n c k:Nat)(hx:a.eval x=.slice a0 n c)(hy:a.eval y=I Z (k:Int))(hk:k<=n)(hn:n<=c)(h:wpList prog ops Q rest (a.put o.dst (.slice a0 k c)) w):wpList prog ops Q (o::rest) a w:=
 wpList_plain hgd fun K hK=>by
  have h':=hK _ _ h
  unfold Oper.wp execOp
  simp only[ho,Option.map_some,Option.map_none,hx,hy,Sem.run_bind,run_sliceAt_slice _ _ _ _ _ _ underlying41,qixb a0 n c k hk hn,Result.andThen_ok,Sem.run_pure]
  exact h'
theorem qi6b(a:Option Addr)(n k c:Nat):eb (.slice a k c)=eb (.slice a n c)/\eo (.slice a k c)=eo (.slice a n c):=by cases a<;>exact⟨rfl,rfl⟩
theorem FlAt.take{cap:Nat}(h:FlAt w (.slice a n cap) ks)(k:Nat)(hk:k<=n):FlAt w (.slice a k cap) (ks.take k):=by
 obtain⟨a1,c1,e,h1,h2,h3⟩:=h
 injection e with e1 e2 e3
 subst e1 e2 e3
 have hl:(ks.take k).length=k:=List.length_take_of_le hk;obtain⟨eB,eO⟩:=qi6b a ks.length k cap
 refine⟨a,cap,by rw[hl],fun h0=>by rw[eB,eO];exact h1 om,fun j hj=>?_,by omega⟩
 have:=h2 j om
 rw[eB,eO,List.getElem_take]
 exact this
end Go.Proofs.YtonnjgmognbnbaaGreatDoor
