/-
  Of what a law stands on.
-/
import Derived.Test.YtnicenfgemkdnaaGreatDoorZxw2
set_option linter.unusedSimpArgs false
set_option linter.unusedVariables false
namespace Go.Proofs.YtnicenfgemkdnaaGreatDoor
open _root_.Go.Proofs.Tryz
set_option maxHeartbeats 16000000
set_option maxRecDepth 100000
open Go.ChangeShapes Go.WideShapes Go.ChangeAt Go.RowKit Go.Maps
def orZ(a b:Int):Int:=if a=0 then b else a
theorem q96(c:Nat)(a b:Int)(w:World)(h0:w.cell? ⟨c,0,none⟩=some (.int .i64 a))(h1:w.cell? ⟨c,1,none⟩=some (.int .i64 b)):
  Calls prog 148 #[.slice (some ⟨c,0,none⟩) 2 2] w fun e w'=>e=.returned (.int .i64 (orZ a b))/\w'=w:=by
 have I0:=fun w=>ixI c 2 2 0 om w
 have I1:=fun w=>ixI c 2 2 1 om w
 go_enter func148,ntmps148
 go_wp2
 go_loop [8] (fun i=>∃j:Nat,j<=2/\i=.int .i64 (j:Int)/\(1<=j->a=0)/\(2<=j->b=0)) (fun i=>2-(intOf i).toNat)
 case atStart=>exact⟨0,by omega,rfl,fun h=>by omega,fun h=>by omega⟩
 case round=>
  obtain⟨j,hj,rfl,ha,hb⟩:=hrel
  have hc:j=0\/j=1\/j=2:=by omega
  rcases hc with rfl|rfl|rfl
  ·clear ha hb hj
   by_cases e:a=0
   ·have hn:(a != 0)=false:=by simp[e]
    have HE:Hid (a=0):=e
    clear e
    go_wp2
    go_round
    case rel=>exact⟨1,by omega,rfl,fun _=>HE.out,fun h=>by omega⟩
    case measure=>simp[intOf]
   ·have hn:(a != 0)=true:=by simp[e]
    have HE:Hid (a≠0):=e
    clear e
    go_wp2
    go_ret
    exact⟨qny (by unfold orZ;rw[if_neg HE.out]),rfl⟩
  ·have HA:Hid (a=0):=ha om
   clear ha hb hj
   by_cases e:b=0
   ·have hn:(b != 0)=false:=by simp[e]
    have HE:Hid (b=0):=e
    clear e
    go_wp2
    go_round
    case rel=>exact⟨2,by omega,rfl,fun _=>HA.out,fun _=>HE.out⟩
    case measure=>simp[intOf]
   ·have hn:(b != 0)=true:=by simp[e]
    clear e
    go_wp2
    go_ret
    exact⟨qny (by unfold orZ;rw[if_pos HA.out]),rfl⟩
  ·have HA:Hid (a=0):=ha om
   have HB:Hid (b=0):=hb om
   clear ha hb hj
   go_wp2
   go_ret
   exact⟨qny (by unfold orZ;rw[if_pos HA.out,HB.out]),rfl⟩
theorem qxv(x y:Int)(W:World):Calls prog 149 #[.int .i64 x,.int .i64 y] W fun e w'=>e=.returned (.int .i64 (Lib.compareInt x y))/\w'=W:=AnyG.cmp_Compare_int cmpL x y W
def cmpZ(z:Int->Int)(x y:Int):Int:=orZ (Lib.compareInt (z x) (z y)) (Lib.compareInt x y)
theorem qkw{w:World}{b o:Nat}{v:Value}(h:w.cell? ⟨b,o,none⟩=some v)(x:Obj):(w.alloc x).cell? ⟨b,o,none⟩=some v:=by
 have hl:=World.block_lt_of_cell? w _ h
 rw[←h]
 exact World.cell?_of_block (Below.heap_alloc _ _ _ hl)
theorem cmpS{z:Int->Int}{x y p q:Int}(hp:Lib.compareInt (z x) (z y)=p)(hq:Lib.compareInt x y=q):cmpZ z x y=orZ p q:=by unfold cmpZ;rw[hp,hq]
theorem q5n{b o bm n bx:Nat}{D:DataW Unit}(z:Int->Int)(x y:Int)(hx:(Lit.int .i64 x).wf=true)(hy:(Lit.int .i64 y).wf=true)(hzx:atW' D x (z x))(hzy:atW' D y (z y))(W:World)(hb:W.cell? ⟨bx,0,none⟩=some (.pointer (some ⟨b,o,none⟩)))(c1:W.cell? ⟨b,o+1,none⟩=some (.map (some bm)))(hm:MapI W bm n D):
  Calls prog 147 #[.int .i64 x,.int .i64 y,.pointer (some ⟨bx,0,none⟩)] W fun e w'=>e=.returned (.int .i64 (cmpZ z x y))/\∃q os',w'=Sort.grow (W.drewN q) os':=by
 have kx:=keyOf_int_mk (P:=prog) (q:=.i64) (a:=x) underlying3 hx
 have ky:=keyOf_int_mk (P:=prog) (q:=.i64) (a:=y) underlying3 hy
 have hlx:∀W,MapI W bm n D->(Instr.lookup 85 (.map (some bm)) (.int .i64 x) false).run prog W=.ok (.int .i64 (z x)) W:=by
  intro W hW
  obtain⟨c,h1,h2,_⟩:=hW.lookup_int lawI underlying85 underlying3 (qjv _) kx
  rw[h1,qm8 hzx h2]
 have hly:∀W,MapI W bm n D->(Instr.lookup 85 (.map (some bm)) (.int .i64 y) false).run prog W=.ok (.int .i64 (z y)) W:=by
  intro W hW
  obtain⟨c,h1,h2,_⟩:=hW.lookup_int lawI underlying85 underlying3 (qjv _) ky
  rw[h1,qm8 hzy h2]
 have C1:=fun w=>qxv (z x) (z y) w
 have C2:=fun w=>qxv x y w
 obtain⟨p,hp⟩:∃p,Lib.compareInt (z x) (z y)=p:=⟨_,rfl⟩
 obtain⟨q,hq⟩:∃q,Lib.compareInt x y=q:=⟨_,rfl⟩
 rw[hp] at C1
 rw[hq] at C2
 rw[cmpS hp hq]
 clear hp hq kx ky hzx hzy hx hy
 go_enter func147,ntmps147
 go_wp2_with fail
 refine RD (fun W=>W.cell? ⟨bx,0,none⟩=some (.pointer (some ⟨b,o,none⟩))/\W.cell? ⟨b,o+1,none⟩=some (.map (some bm))/\MapI W bm n D) ⟨hb,c1,hm⟩ (fun _=>?_)
 refine tk 0 (.pointer (some ⟨b,o,none⟩)) rfl (Or.inl ⟨by kernel_rfl,by intro w hS;have hc:=hS.1;go_simp⟩) ⟨hb,c1,hm⟩ (tq 1 (.pointer (some ⟨b,o,none⟩)) rfl ⟨hb,c1,hm⟩ (tq 2 (.pointer (some ⟨b,o+1,none⟩)) rfl ⟨hb,c1,hm⟩ ?_))
 simp only[ZZ]
 refine tk 3 (.map (some bm)) rfl (Or.inl ⟨by kernel_rfl,by intro w hS;have hc:=hS.2.1;go_simp⟩) ⟨hb,c1,hm⟩ (tq 4 (.int .i64 x) rfl ⟨hb,c1,hm⟩ (tk 5 (.int .i64 (z x)) rfl (Or.inl ⟨by kernel_rfl,by intro w hS;have hc:=hlx w hS.2.2;go_simp⟩) ⟨hb,c1,hm⟩ ?_))
 simp only[ZZ]
 refine tk 6 (.pointer (some ⟨b,o,none⟩)) rfl (Or.inl ⟨by kernel_rfl,by intro w hS;have hc:=hS.1;go_simp⟩) ⟨hb,c1,hm⟩ (tq 7 (.pointer (some ⟨b,o,none⟩)) rfl ⟨hb,c1,hm⟩ (tq 8 (.pointer (some ⟨b,o+1,none⟩)) rfl ⟨hb,c1,hm⟩ ?_))
 simp only[ZZ]
 refine tk 9 (.map (some bm)) rfl (Or.inl ⟨by kernel_rfl,by intro w hS;have hc:=hS.2.1;go_simp⟩) ⟨hb,c1,hm⟩ (tq 10 (.int .i64 y) rfl ⟨hb,c1,hm⟩ (tk 11 (.int .i64 (z y)) rfl (Or.inl ⟨by kernel_rfl,by intro w hS;have hc:=hly w hS.2.2;go_simp⟩) ⟨hb,c1,hm⟩ ?_))
 simp only[ZZ]
 refine tq 13 (.int .i64 x) rfl ⟨hb,c1,hm⟩ (tq 14 (.int .i64 y) rfl ⟨hb,c1,hm⟩ ?_)
 simp only[ZZ]
 refine AR [12] ?_
 refine AC (fun K hK=>?_) ?_
 ·go_simp
  go_at_call 149;refine(C1 _).mono ?_;rintro e w' ⟨rfl,hw⟩;rw[hw];clear hw w'
  go_wp2_with fail
  refine hK.out _ _ ⟨hb,c1,hm⟩ (fun _=>?_)
  clear hK K
  try simp only[ZZ]
  refine AR [15] ?_
  refine AC (fun K hK=>?_) ?_
  ·go_simp
   go_at_call 149;refine(C2 _).mono ?_;rintro e w' ⟨rfl,hw⟩;rw[hw];clear hw w'
   go_wp2_with fail
   refine hK.out _ _ ⟨hb,c1,hm⟩ (fun _=>?_)
   clear hK K
   try simp only[ZZ]
   refine AR [16] ?_
   refine AC (fun K hK=>?_) ?_
   ·rw[if_pos kr]
    (unfold Oper.wp execOp;go_simp);have k0:=World.cell?_alloc_mark W #[.int .i64 p,.int .i64 q] 3 (0,0) 0;have k1:=World.cell?_alloc_mark W #[.int .i64 p,.int .i64 q] 3 (0,0) 1;replace hb:=qkw hb (.cells #[.int .i64 p,.int .i64 q] 3);replace c1:=qkw c1 (.cells #[.int .i64 p,.int .i64 q] 3);replace hm:=hm.alloc (.cells #[.int .i64 p,.int .i64 q] 3)
    refine hK.out _ _ ⟨hb,c1,hm⟩ (fun _=>?_)
    clear hK K
    try simp only[ZZ]
    refine AR [17] ?_
    refine AC (fun K hK=>?_) ?_
    ·go_simp
     go_at_call 148;refine(q96 _ p q _ ?_ ?_).mono ?_;exact k0;exact k1;rintro e w' ⟨rfl,hw⟩;rw[hw];clear hw w'
     go_wp2_with fail
     refine hK.out _ _ ⟨hb,c1,hm⟩ (fun _=>?_)
     clear hK K
     try simp only[ZZ]
     refine tq 18 (.int .i64 (orZ p q)) rfl ⟨hb,c1,hm⟩ ?_
     simp only[ZZ]
     refine AN ?_
     go_wp2
     go_ret
     exact⟨rfl,1,#[.cells #[.int .i64 p,.int .i64 q] 3],Sort.alloc_eq_grow (W.drewN 1) _⟩
    exact AZ
   exact AZ
  exact AZ
 exact AZ
end Go.Proofs.YtnicenfgemkdnaaGreatDoor
namespace Go.Proofs.YtnicenfgemkdnaaGreatDoor
open _root_.Go.Proofs.Tryz
set_option maxHeartbeats 16000000
set_option maxRecDepth 100000
open Go.ChangeShapes Go.WideShapes Go.ChangeAt Go.RowKit Go.Maps
open Go.Sort (grow ahead putRow Holds putCells SWO)
abbrev WfI:={ x:Int // (Lit.int .i64 x).wf=true }
def wf0:WfI:=⟨0,by decide⟩
def encW(x:WfI):Value:=.int .i64 x.val
def ltZ(z:Int->Int)(x y:Int):Bool:=decide (z x<z y\/z x=z y/\x<y)
def leZ(z:Int->Int)(x y:Int):Bool:=decide (z x<z y\/z x=z y/\x<=y)
def qcc(z:Int->Int)(l:List Int):List Int:=l.mergeSort (leZ z)
theorem qaab(z:Int->Int)(x y:Int):decide (cmpZ z x y<0)=ltZ z x y:=by
 unfold cmpZ orZ ltZ Lib.compareInt
 rw[decide_eq_decide]
 by_cases h1:z x<z y
 ·simp[h1]
 ·by_cases h2:z x>z y
  ·have:¬z x=z y:=by omega
   simp[h1,h2,this]
  ·have h3:z x=z y:=by omega
   by_cases h4:x<y
   ·simp[h3,h4]
   ·by_cases h5:x>y
    ·simp[h3,h4,h5]
    ·simp[h3,h4,h5]
theorem q9z(z:Int->Int)(x y:Int):(!ltZ z y x)=leZ z x y:=by
 unfold ltZ leZ
 rw[←decide_not,decide_eq_decide]
 omega
def cmpW(z:Int->Int)(x y:WfI):Int:=cmpZ z x.val y.val
theorem qon(z:Int->Int)(x y:WfI):ltOf (cmpW z) x y=ltZ z x.val y.val:=qaab z x.val y.val
theorem swo(z:Int->Int):SWO (ltOf (cmpW z)) where
 irrefl x:=by rw[qon];unfold ltZ;simp
 trans x y u h1 h2:=by rw[qon] at *;unfold ltZ at *;simp only[decide_eq_true_eq] at *;omega
 ntrans x y u h1 h2:=by rw[qon] at *;unfold ltZ at *;simp only[decide_eq_false_iff_not] at *;omega
theorem totW(z:Int->Int)(x y:WfI)(h1:ltOf (cmpW z) x y=false)(h2:ltOf (cmpW z) y x=false):x=y:=by
 rw[qon] at *
 unfold ltZ at *
 simp only[decide_eq_false_iff_not] at *
 exact Subtype.ext om
theorem q66(z:Int->Int)(l:List WfI):(l.mergeSort fun x y=>!(ltOf (cmpW z)) y x).map Subtype.val=qcc z (l.map Subtype.val):=by
 unfold qcc
 apply List.map_mergeSort
 intro a _ b _
 rw[qon,q9z]
section
variable [Inhabited WfI]
theorem qk5{w:World}{g m c:Nat}(d:Array WfI)(os:Array Obj)(hc:c≠g)(hlt:c<w.heap.size):(sortWorld encW w g 0 m d os).heap[c]?=w.heap[c]?:=by
 unfold sortWorld grow putRow Sort.mapBlock
 show((w.heap.modify g _)++os)[c]?=_
 rw[Array.getElem?_append_left (by simpa using hlt),Array.getElem?_modify,if_neg om]
theorem q3s{w:World}{g m:Nat}{cur:Array Value}{e:TypeId}{fr:Nat×Nat}(d:Array WfI)(os:Array Obj)(hb:w.heap[g]?=some (.cells cur e fr)):(sortWorld encW w g 0 m d os).heap[g]?=some (.cells (putCells encW 0 d cur) e fr):=by
 have hlt:g<w.heap.size:=(Array.getElem?_eq_some_iff.1 hb).1
 unfold sortWorld grow putRow Sort.mapBlock
 show((w.heap.modify g _)++os)[g]?=_
 rw[Array.getElem?_append_left (by simpa using hlt),Array.getElem?_modify,if_pos rfl,hb]
 rfl
theorem qy6{w:World}{g m:Nat}(d:Array WfI)(os:Array Obj):w.grownBy (sortWorld encW w g 0 m d os) (some g):=by
 refine⟨rfl,rfl,rfl,?_,fun k hk hne=>qk5 d os (fun e=>hne (by rw[e])) hk⟩
 unfold sortWorld grow putRow Sort.mapBlock
 show _<=((w.heap.modify g _)++os).size
 simp
theorem q4v(cur:Array Value)(ts:List WfI)(h:ts.length<=cur.size):(putCells encW 0 ts.toArray cur).toList.take ts.length=(ts.map Subtype.val).map (Value.int .i64):=by
 apply List.ext_getElem?
 intro i
 rw[List.getElem?_take,List.getElem?_map,List.getElem?_map]
 by_cases hi:i<ts.length
 ·rw[if_pos hi,Array.getElem?_toList]
  unfold putCells
  rw[Array.getElem?_mapIdx,Array.getElem?_eq_getElem om,List.getElem?_eq_getElem hi]
  have:(ts.toArray)[i-0]! = ts[i]:=by simp[hi]
  simp[hi,encW]
 ·rw[if_neg hi,List.getElem?_eq_none om];rfl
theorem q6v{w:World}{v:Value}{off:List Int}(h:Own w v off)(hl:0<off.length)(hm:off.length<=1000000000)(hwf:∀i∈off,(Lit.int .i64 i).wf=true)(z:Int->Int){b o bm n bx:Nat}{D:DataW Unit}(hz:Says D z)(hb:w.cell? ⟨bx,0,none⟩=some (.pointer (some ⟨b,o,none⟩)))(c1:w.cell? ⟨b,o+1,none⟩=some (.map (some bm)))(hmap:MapI w bm n D)(nx:v.ownBlock≠some bx)(nb:v.ownBlock≠some b):
  Calls prog 146 #[v,.func (.func 147) #[] #[.pointer (some ⟨bx,0,none⟩)]] w fun e w'=>e=.returned (.tuple #[])/\Own w' v (qcc z off)/\w.grownBy w' v.ownBlock:=by
 obtain⟨g,cap,cur,rfl,hg,hlc,hcm,hcs,ht⟩:=h.shape hl
 obtain⟨d,hd⟩:∃d:List WfI,d.map Subtype.val=off:=⟨off.attachWith _ hwf,by simp⟩
 have hdl:d.length=off.length:=by rw[←hd];simp
 have hlt:g<w.heap.size:=(Array.getElem?_eq_some_iff.1 hg).1
 have hnm:=h.ne_map hmap
 have gx:bx≠g:=fun e=>nx (by rw[e];rfl)
 have gb:b≠g:=fun e=>nb (by rw[e];rfl)
 have gm:bm≠g:=fun e=>hnm (by rw[e];rfl)
 have lx:=World.block_lt_of_cell? w _ hb
 have lb:=World.block_lt_of_cell? w _ c1
 have lm:=hmap.lt
 have hH:Holds encW w g 0 d.toArray:=by
  intro j hj
  have hj':j<off.length:=by simpa[hdl] using hj
  have hjd:j<d.length:=by omega
  have e:off[j]=(d[j]).val:=by
   have:(d.map Subtype.val)[j]'(by simpa using hjd)=off[j]:=by congr 1
   rw[←this];simp
  rw[Nat.zero_add]
  refine⟨(qia hg j).trans ((qis ht j hj').trans ?_),qnv hg j⟩
  simp[hjd,encW,e]
 have hcmp:CmpLays1 prog 147 #[.pointer (some ⟨bx,0,none⟩)] encW (cmpW z) g 0 d.toArray.size w:=by
  intro m os dk _ x y
  have e1:=qk5 (m:=m) dk os gx lx
  have e2:=qk5 (m:=m) dk os gb lb
  have e3:=qk5 (m:=m) dk os gm lm
  have hx:=hz x.val x.property
  have hy:=hz y.val y.property
  refine q5n z x.val y.val x.property y.property hx.1 hy.1 _ ((World.cell?_of_block e1).trans hb) ((World.cell?_of_block e2).trans c1) (n:=n) (D:=D) ?_
  obtain⟨es,clock,h1,h2⟩:=hmap
  exact⟨es,clock,e3.trans h1,h2⟩
 have eg:∀args w,(callFunc 147 args).run prog w=.ok (.enter 147 args) w:=enters_of func147 kr rfl
 have hS:=Any.slices_SortFunc_total q7a encW (fun _=>rfl) (cmpW z) (swo z) 147 #[.pointer (some ⟨bx,0,none⟩)] g 0 cap d.toArray w eg hcmp hH hlt (by simp[hdl];omega) (totW z)
 have hsz:d.toArray.size=off.length:=by simpa using hdl
 rw[hsz] at hS
 refine Calls.mono hS ?_
 rintro e w' ⟨rfl,q,os,rfl⟩
 have hsl:(d.toArray.toList.mergeSort fun x y=>!(ltOf (cmpW z)) y x).map Subtype.val=qcc z off:=by rw[q66];simp[hd]
 have hln:(d.toArray.toList.mergeSort fun x y=>!(ltOf (cmpW z)) y x).length=off.length:=by simp[hdl]
 generalize(d.toArray.toList.mergeSort fun x y=>!(ltOf (cmpW z)) y x)=ts at *
 have hl2:(qcc z off).length=off.length:=by rw[←hsl];simpa using hln
 refine⟨rfl,⟨by simp,.inr ⟨g,cap,_,by rw[hl2],Nat.zero_le _,q3s ts.toArray os hg,by omega,hcm,by unfold putCells;simp[hcs],?_⟩⟩,qy6 ts.toArray os⟩
 rw[Nat.mul_one,hl2,←hln,q4v cur ts om,hsl]
end
end Go.Proofs.YtnicenfgemkdnaaGreatDoor
namespace Go.Proofs.YtnicenfgemkdnaaGreatDoor
open _root_.Go.Proofs.Tryz
set_option maxHeartbeats 16000000
set_option maxRecDepth 100000
open Go.ChangeShapes Go.WideShapes Go.ChangeAt Go.RowKit Go.Maps
abbrev kI(i:Int):Lit:=.int .i64 i
structure qfm(D:DataW Unit)(du:Int->Option Int):Prop where
 tidy:Tidy D
 has:∀i,Maps.has D (kI i)=(du i).isSome
 time:∀i,atW' D i (dz du i)
theorem qmc{i j:Int}(h:i≠j):kI i≠kI j:=fun e=>h (by cases e;rfl)
theorem qmu(i:Int):WideAt.IsKeyLit (kI i):=by simp[WideAt.IsKeyLit]
def delD(du:Int->Option Int)(i:Int):Int->Option Int:=fun j=>if j=i then none else du j
def setD(du:Int->Option Int)(i d:Int):Int->Option Int:=fun j=>if j=i then some d else du j
theorem q2f:qfm (.map []) (fun _=>none):=⟨tidy_empty,fun i=>rfl,fun i=>rfl⟩
theorem qfm.del{D:DataW Unit}{du:Int->Option Int}(h:qfm D du)(i:Int):qfm (D.del (kI i)) (delD du i):=by
 refine⟨h.tidy.del _,fun j=>?_,fun j=>?_⟩
 ·by_cases e:j=i
  ·subst e;rw[has_del_same];simp[delD]
  ·rw[has_del_other (qmc e),h.has];simp[delD,e]
 ·unfold atW'
  by_cases e:j=i
  ·subst e
   rw[atKey_del_same];simp[dz,delD]
  ·have:=h.time j
   unfold atW' at this
   rw[atKey_del_other (qmc e),this];simp[dz,delD,e]
theorem qfm.put{D:DataW Unit}{du:Int->Option Int}(h:qfm D du)(i d:Int):qfm (D.put (kI i) (.lit (.int .i64 d))) (setD du i d):=by
 refine⟨h.tidy.put (qmu i) _,fun j=>?_,fun j=>?_⟩
 ·by_cases e:j=i
  ·subst e;rw[has_put_same h.tidy.isMap (qmu _)];simp[setD]
  ·rw[has_put_other (qmc e),h.has];simp[setD,e]
 ·unfold atW'
  by_cases e:j=i
  ·subst e
   rw[atKey_put_same h.tidy.isMap (qmu _)];simp[dz,setD]
  ·have:=h.time j
   unfold atW' at this
   rw[atKey_put_other (qmc e),this];simp[dz,setD,e]
def delF(D:DataW Unit)(l:List Int):DataW Unit:=l.foldl (fun D i=>D.del (kI i)) D
def ql9(du:Int->Option Int)(l:List Int):Int->Option Int:=fun j=>if j∈l then none else du j
theorem qzp{D:DataW Unit}{du:Int->Option Int}(l:List Int)(h:qfm D du):qfm (delF D l) (ql9 du l):=by
 induction l generalizing D du with
 | nil=>
  have e:ql9 du []=du:=by funext j;simp[ql9]
  rw[e];exact h
 | cons i r ih=>
  have:=ih (h.del i)
  have e:ql9 (delD du i) r=ql9 du (i::r):=by
   funext j
   simp only[ql9,delD,List.mem_cons]
   by_cases e1:j=i<;>by_cases e2:j∈r<;>simp[e1,e2]
  rw[←e]
  exact this
theorem q3h{D:DataW Unit}{du:Int->Option Int}(l:List Int)(h:qfm D du)(hn:l.Nodup)(hl:∀i∈l,(du i).isSome=true):Maps.size (delF D l)+l.length=Maps.size D:=by
 induction l generalizing D du with
 | nil=>rfl
 | cons i r ih=>
  have hn':=List.nodup_cons.1 hn
  have h1:=ih (h.del i) hn'.2 (fun j hj=>by
   have:j≠i:=fun e=>hn'.1 (e▸hj)
   simp only[delD,if_neg this];exact hl j (by simp[hj]))
  have h2:=size_del (k:=kI i) h.tidy
  rw[h.has,hl i zm] at h2
  simp only[if_true] at h2
  show Maps.size (delF (D.del (kI i)) r)+(r.length+1)=_
  omega
theorem qfm.says{D:DataW Unit}{du:Int->Option Int}(h:qfm D du)(hz:∀i,0<=dz du i/\dz du i<=1099511627776):Says D (dz du):=fun i _=>⟨h.time i,hz i⟩
theorem qarb{w:World}{b n:Nat}{D:DataW Unit}(h:MapI w b n D):MapI w b (Maps.size D) D:=by
 obtain⟨es,clock,h1,h2,h3,h4⟩:=h
 refine⟨es,clock,h1,h2,?_,h4⟩
 rw[h4]
 show es.size<=List.length _
 rw[length_sorted]
 simp
theorem WM.setMap{w w':World}{b o:Nat}{t:TypeId}{cs:Array Value}{now:Int}{bm:Nat}{D D':DataW Unit}{vs:Nat->Value}{L:Nat->List Int}(h:WM w b t cs o now (some bm) D vs L)(hg:w.grownBy w' (some bm)){n:Nat}(hn:n<=1000000)(hm:MapI w' bm n D'):WM w' b t cs o now (some bm) D' vs L:=by
 obtain⟨k,_,hm0⟩:=h.theMap
 have hne:=hm0.ne_row h.row
 refine⟨ql7 h.row hg (fun e=>hne (by cases e;rfl)),h.size,h.c0,h.c1,h.cl,fun j hj=>?_,h.nil,h.apart,h.notb,.inr ⟨bm,n,rfl,hn,hm⟩⟩
 exact(h.own j hj).keepGr (F:=fun c=>c=bm) (Gr.of_grown hg (fun c hc=>by cases hc;rfl)) (fun c hc e=>(h.own j hj).ne_map hm0 (by rw[hc,e]))
def qca(w:World)(b:Nat)(t:TypeId)(cs:Array Value)(o:Nat)(now:Int)(du:Int->Option Int)(cnt:Nat)(F:Nat->Prop):Prop:=
 ∃mb D vs L,WM w b t cs o now mb D vs L/\qfm D du/\qhg now du L/\(∀i d,du i=some d->(Lit.int .i64 i).wf=true)/\sumR 448 L=cnt/\Maps.size D=cnt/\cnt<=400/\(∀c,Fp b mb vs c->F c)
theorem qor{now:Int}{du:Int->Option Int}{L:Nat->List Int}(h:qhg now du L)(m:Nat)(hm:448<=m):L m=[]:=by
 rcases hl:L m with _|⟨i,r⟩
 ·rfl
 ·exfalso
  obtain⟨d,h1,h2⟩:=(h.mem m i).1 (by rw[hl];simp)
  have h3:=h.due i d h1
  have h4:=h.time
  have:=qug now.toNat d.toNat om om
  omega
theorem q6q{now:Int}{du:Int->Option Int}{L:Nat->List Int}(h:qhg now du L)(hw:∀i d,du i=some d->(Lit.int .i64 i).wf=true)(k:Nat)(i:Int)(hi:i∈L k):(Lit.int .i64 i).wf=true:=by
 obtain⟨d,h1,_⟩:=(h.mem k i).1 hi
 exact hw i d h1
theorem q0b{now:Int}{du:Int->Option Int}{L:Nat->List Int}(h:qhg now du L)(hd:∀i,du i=none)(k:Nat):L k=[]:=by
 rcases hl:L k with _|⟨i,r⟩
 ·rfl
 ·exfalso
  obtain⟨d,h1,h2⟩:=(h.mem k i).1 (by rw[hl];simp)
  rw[hd i] at h1
  cases h1
theorem qwx{du:Int->Option Int}(h:qfm (.map []) du)(i:Int):du i=none:=by
 have:=h.has i
 rcases hd:du i with _|d
 ·rfl
 ·rw[hd] at this;simp[Maps.has] at this
theorem q0q{t:Int}{du:Int->Option Int}{l:List Int}(h:∀i,i∈l↔∃d,du i=some d/\d<=t):ql9 du l=qiv t du:=by
 funext i
 unfold ql9 qiv
 by_cases hi:i∈l
 ·obtain⟨d,h1,h2⟩:=(h i).1 hi
  simp[hi,h1,h2]
 ·rw[if_neg hi]
  rcases hd:du i with _|d
  ·rfl
  ·have:¬d<=t:=fun hle=>hi ((h i).2 ⟨d,hd,hle⟩)
   simp[this]
theorem qzx(n:Int)(w:World):Calls prog 144 #[.int .i64 n] w fun e w'=>e=.returned (.bool (decide (0<=n)&&decide (n<=1099511627776)))/\w'=w:=by
 by_cases h0:0<=n
 ·by_cases h1:n<=1099511627776
  ·go_enter func144,ntmps144
   go_wp2
   go_ret
   exact⟨by simp[h0,h1],rfl⟩
  ·go_enter func144,ntmps144
   go_wp2
   go_ret
   exact⟨by simp[h0,h1],rfl⟩
 ·go_enter func144,ntmps144
  go_wp2
  go_ret
  exact⟨by rw[show decide (0<=n)=false by simpa using h0];rfl,rfl⟩
theorem qrq(n:Int)(w:World)(h:0<=n/\n<=1099511627776):Calls prog 144 #[.int .i64 n] w fun e w'=>e=.returned (.bool true)/\w'=w:=by
 have:=qzx n w
 rw[show(decide (0<=n)&&decide (n<=1099511627776))=true by simp[h.1,h.2]] at this
 exact this
theorem q4a(p:Option Addr)(c:Nat)(fv:Value)(w:World):Calls prog 146 #[.slice p 0 c,fv] w fun e w'=>e=.returned (.tuple #[])/\w'=w:=
 AnyF.slices_SortFunc_none (P:=prog) (ρ:=qs1) { q7a with } p c fv w
theorem q42{w:World}{v:Value}{off:List Int}(h:Own w v off)(hm:off.length<=1000000000)(hwf:∀i∈off,(Lit.int .i64 i).wf=true)(z:Int->Int){b o bx:Nat}{D:DataW Unit}(hz:Says D z)(hb:w.cell? ⟨bx,0,none⟩=some (.pointer (some ⟨b,o,none⟩)))(hmap:off≠[]->∃bm n,w.cell? ⟨b,o+1,none⟩=some (.map (some bm))/\MapI w bm n D)(nx:v.ownBlock≠some bx)(nb:v.ownBlock≠some b):
  Calls prog 146 #[v,.func (.func 147) #[] #[.pointer (some ⟨bx,0,none⟩)]] w fun e w'=>e=.returned (.tuple #[])/\Own w' v (qcc z off)/\w.grownBy w' v.ownBlock:=by
 by_cases hl:off=[]
 ·subst hl
  have hsh:∃a c,v=.slice a 0 c:=by
   rcases h.2 with⟨e,_⟩|⟨g,cap,cur,e,_⟩
   ·exact⟨_,_,e⟩
   ·exact⟨_,_,e⟩
  obtain⟨a,c,rfl⟩:=hsh
  refine(q4a a c _ w).mono ?_
  rintro e w' ⟨rfl,rfl⟩
  have hs:qcc z []=[]:=by simp[qcc]
  rw[hs]
  exact⟨rfl,h,rfl,rfl,rfl,Nat.le_refl _,fun _ _ _=>rfl⟩
 ·obtain⟨bm,n,c1,hm2⟩:=hmap hl
  haveI:Inhabited WfI:=⟨wf0⟩
  exact q6v h (List.length_pos_iff.2 hl) hm hwf z hz hb c1 hm2 nx nb
def DelR(w0 W:World)(b:Nat)(t:TypeId)(cs:Array Value)(o:Nat)(now:Int)(mb:Option Nat)(D:DataW Unit)(vs:Nat->Value)(L:Nat->List Int)(bx:Nat)(v:Value)(l:List Int):Prop:=
 WM W b t cs o now mb D vs L/\Own W v l/\W.cell? ⟨bx,0,none⟩=some (.pointer (some ⟨b,o,none⟩))/\Gr (fun c=>mb=some c) w0 W
theorem DelR.step{w0 W w':World}{b:Nat}{t:TypeId}{cs:Array Value}{o:Nat}{now:Int}{bm:Nat}{D D':DataW Unit}{vs:Nat->Value}{L:Nat->List Int}{bx:Nat}{v:Value}{l:List Int}(h:DelR w0 W b t cs o now (some bm) D vs L bx v l){n:Nat}(hn:n<=1000000)(hm:MapI w' bm n D')(ht:W.mapTurned w' bm):DelR w0 w' b t cs o now (some bm) D' vs L bx v l:=by
 obtain⟨hw,ho,hb,hg⟩:=h
 obtain⟨k,_,hm0⟩:=hw.theMap
 have hgr:=ht.grown
 have g1:Gr (fun c=>some bm=some c) W w':=Gr.of_grown hgr (fun c hc=>hc)
 refine⟨hw.setMap hgr hn hm,ho.keepGr g1 (fun c hc e=>ho.ne_map hm0 (by rw[hc,←e])),?_,hg.trans g1 (fun x hx=>.inl hx)⟩
 have hlt:=World.block_lt_of_cell? W _ hb
 have hne:bx≠bm:=by
  rintro rfl
  obtain⟨es,clock,h1,_⟩:=hm0
  simp[World.cell?,h1] at hb
 rw[←hb]
 exact World.cell?_of_block (hgr.block bx hlt (by simpa using hne))
theorem qeh{w:World}{v:Value}{l:List Int}(h:Own w v l):∃a c,v=.slice a l.length c:=by
 rcases h.2 with⟨e,n0⟩|⟨g,cap,cur,e,_⟩
 ·exact⟨none,0,by rw[e,n0]⟩
 ·exact⟨_,_,e⟩
theorem q38(D:DataW Unit)(l:List Int)(j:Nat)(hj:j<l.length):delF D (l.take (j+1))=(delF D (l.take j)).del (kI l[j]):=qta (fun D i=>DataW.del D (kI i)) D l j hj
theorem q46{w1 w2:World}{b:Nat}{t:TypeId}{cs:Array Value}{o:Nat}{now:Int}{mb:Option Nat}{D:DataW Unit}{vs:Nat->Value}{T:Nat}{TF:(Nat->List Int)×List Int}{ov:Value}(h:TuR w1 w2 b t cs o now mb D vs T TF ov)(z:Int->Int)(hz:Says D z)(hT:T<=1000000)(hoff:mb=none->TF.2=[])(hwf:∀i∈TF.2,(Lit.int .i64 i).wf=true){bx:Nat}(hbx:w1.cell? ⟨bx,0,none⟩=some (.pointer (some ⟨b,o,none⟩)))(hnf:¬Fp b mb vs bx):
  Calls prog 146 #[ov,.func (.func 147) #[] #[.pointer (some ⟨bx,0,none⟩)]] w2 fun e w3=>e=.returned (.tuple #[])/\∃cs2 vs2,DelR w3 w3 b t cs2 o now mb D vs2 TF.1 bx ov (qcc z TF.2)/\qb7 o cs cs2/\Gr (Fp b mb vs) w1 w3/\(∀c,Fp b mb vs2 c->Fp b mb vs c\/w1.heap.size<=c)/\ql5 ov (Fp b mb vs2)/\(∀c,ov.ownBlock=some c->w1.heap.size<=c):=by
 obtain⟨cs2,vs2,hm,hso,hgr,hfp,hov,htot,hmb⟩:=h
 have hbl:=World.block_lt_of_cell? w1 _ hbx
 have hb2:w2.cell? ⟨bx,0,none⟩=some (.pointer (some ⟨b,o,none⟩)):=(World.cell?_of_block (hgr.block bx hbl hnf)).trans hbx
 have nx:ov.ownBlock≠some bx:=fun e=>by have:=hov bx e;simp only at hbl;omega
 have nb:ov.ownBlock≠some b:=fun e=>hm.out b e (.inl rfl)
 have hof:=htot.off
 refine(q42 hm.own om hwf z hz hb2 (fun hne=>?_) nx nb).mono ?_
 ·rcases hm.wm.map with⟨h1,_⟩|⟨bm,n,h1,_,h3⟩
  ·exact absurd (hoff h1) hne
  ·refine⟨bm,n,?_,h3⟩
   rw[←h1]
   exact(hm.wm.cell _).trans hm.wm.c1
 ·rintro e w3 ⟨rfl,ho3,hg3⟩
  have g3:Gr (fun c=>ov.ownBlock=some c) w2 w3:=Gr.of_grown hg3 (fun c hc=>hc)
  refine⟨rfl,cs2,vs2,⟨hm.wm.keep g3 (fun c hc hd=>hm.out c hd hc),ho3,?_,Gr.refl _ _⟩,hso,hgr.trans g3 (fun x hx=>.inr (hov x hx)),hfp,hm.out,hov⟩
  have hl2:=World.block_lt_of_cell? w2 _ hb2
  rw[←hb2]
  exact World.cell?_of_block (g3.block bx hl2 nx)
theorem qxb{w:World}{b o:Nat}{t:TypeId}{cs:Array Value}{A tn:Nat}{mb:Option Nat}{D:DataW Unit}{vs:Nat->Value}{L:Nat->List Int}{T:Nat}(h:WM w b t cs o (A:Int) mb D vs L)(z:Int->Int)(hz:Says D z)(hzz:∀i,0<=z i/\z i<=1099511627776)(hA:A<=tn)(hto:tn<=1099511627776)(hT:T<=1000000)(htot:Tot T (L,[]))(hmb:mb=none->∀k,L k=[])(hTL:(qex (A:Int) (tn:Int) z L).2.length<=1000000)(hoff:mb=none->(qex (A:Int) (tn:Int) z L).2=[])(hwf:∀i∈(qex (A:Int) (tn:Int) z L).2,(Lit.int .i64 i).wf=true):
  Calls prog 106 #[.pointer (some ⟨b,o,none⟩),.int .i64 (tn:Int)] w fun e w'=>∃v,e=.returned (.tuple #[v,.int .i64 0])/\∃cs' vs',WM w' b t cs' o (tn:Int) mb (delF D (qcc z (qex (A:Int) (tn:Int) z L).2)) vs' (qex (A:Int) (tn:Int) z L).1/\Own w' v (qcc z (qex (A:Int) (tn:Int) z L).2)/\ql5 v (Fp b mb vs')/\qb7 o cs cs'/\Gr (Fp b mb vs) w w'/\(∀c,Fp b mb vs' c->Fp b mb vs c\/w.heap.size<=c)/\(∀c,v.ownBlock=some c->w.heap.size<=c):=by
 have hli:¬(tn:Int)<(A:Int):=by omega
 have c0:=qkw ((h.cell o).trans h.c0) (.cells #[.pointer (some ⟨b,o,none⟩)] 137)
 have CT:=q2w (h.alloc (.cells #[.pointer (some ⟨b,o,none⟩)] 137)) z hz hzz hA hto hT htot hmb
 have bx0:(w.alloc (.cells #[.pointer (some ⟨b,o,none⟩)] 137)).cell? ⟨w.heap.size,0,none⟩=some (.pointer (some ⟨b,o,none⟩)):=World.cell?_alloc_mark w #[.pointer (some ⟨b,o,none⟩)] 137 (0,0) 0
 have CI:=fun w=>qrq (tn:Int) w om
 have hfl:∀c,Fp b mb vs c->c<w.heap.size:=fun c hc=>Mid.fp_lt h hc
 have hws:(w.alloc (.cells #[.pointer (some ⟨b,o,none⟩)] 137)).heap.size=w.heap.size+1:=by simp
 generalize qex (A:Int) (tn:Int) z L=TF at *
 have hlen:(qcc z TF.2).length=TF.2.length:=by simp[qcc]
 have hwf':∀i∈qcc z TF.2,(Lit.int .i64 i).wf=true:=fun i hi=>hwf i (by simpa[qcc] using hi)
 have HTL0:Hid ((qcc z TF.2).length<=1000000):=by rw[hlen];exact hTL
 clear h htot hTL hlen
 generalize hw1:w.alloc (.cells #[.pointer (some ⟨b,o,none⟩)] 137)=w1 at *
 have HW1:Hid (w.alloc (.cells #[.pointer (some ⟨b,o,none⟩)] 137)=w1):=hw1
 have HB1:Hid (Below w.heap.size w w1):=by rw[←hw1];exact(Below.refl _ _).alloc (Nat.le_refl _) _
 have HTL:Hid ((qcc z TF.2).length<=1000000):=HTL0
 have HSZ:Hid (w1.heap.size=w.heap.size+1):=hws
 have HNF:Hid (¬Fp b mb vs w.heap.size):=fun hf=>by have:=hfl _ hf;omega
 clear hws
 go_enter func106,ntmps106
 go_wp2_with (first|(go_at_call 144;refine(CI _).mono ?_;rintro e w' ⟨rfl,hw⟩;rw[hw];clear hw w')|(go_at_call 145;refine CT.mono ?_;rintro e w2 ⟨ov,rfl,hTR⟩)|(go_at_call 146;have CS:=q46 hTR z hz hT hoff hwf bx0 HNF.out;go_fit CS;rintro e w3 ⟨rfl,cs2,vs2,hDR,hso2,hgr2,hfp2,hon,hov2⟩;clear CS hTR;obtain⟨al,kp,hal⟩:=qeh hDR.2.1;subst hal))
 obtain⟨N,hN⟩:∃N,N=(qcc z TF.2).length:=⟨_,rfl⟩
 rw[←hN] at hDR hon hov2 ⊢
 have HN:Hid (N=(qcc z TF.2).length):=hN
 have hNb:N<=1000000:=by have:=HTL.out;omega
 clear hN
 go_loopw [30] (fun i W=>∃j:Nat,j<=N/\i=.int .i64 (j:Int)/\DelR w3 W b t cs2 o (tn:Int) mb (delF D ((qcc z TF.2).take j)) vs2 TF.1 w.heap.size (.slice al N kp) (qcc z TF.2)) (fun i _=>N-(intOf i).toNat)
 case atStart=>exact⟨0,Nat.zero_le _,rfl,hDR⟩
 case round=>
  clear hDR
  obtain⟨j,hj,rfl,hDR⟩:=hrel
  by_cases hlt:j<N
  ·have hjl:j<(qcc z TF.2).length:=by have:=HN.out;omega
   obtain⟨bm,rfl⟩:∃bm,mb=some bm:=by
    rcases mb with _|bm
    ·have h0:=hoff rfl
     have:=HN.out
     rw[h0] at this
     simp[qcc] at this
     omega
    ·exact⟨bm,rfl⟩
   have hji:(j:Int)<(N:Int):=by omega
   have HM:=qha hlt
   obtain⟨hwm,hown,hbx,hgd⟩:=id hDR
   obtain⟨g,kp',cur,hsh,hg,_,_,_,ht⟩:=hown.shape om
   obtain⟨rfl,_,rfl⟩:al=some ⟨g,0,none⟩/\N=(qcc z TF.2).length/\kp=kp':=by simpa using hsh
   have hix:=fun w=>ixI g N kp j hlt w
   have hcx:=(qia hg j).trans (qis ht j hjl)
   have hwx:=hwf' _ (List.getElem_mem hjl)
   have hkey:=keyOf_int_mk (P:=prog) (q:=.i64) (a:=(qcc z TF.2)[j]) underlying3 hwx
   have hsn:=q38 D (qcc z TF.2) j hjl
   have HSN:Hid (delF D ((qcc z TF.2).take (j+1))=(delF D ((qcc z TF.2).take j)).del (kI (qcc z TF.2)[j])):=hsn
   obtain⟨n,hn,hm⟩:=hwm.theMap
   have c1:=(hwm.cell (o+1)).trans hwm.c1
   have HJ:Hid (j+1<=N):=hid om
   have hjw:=qhl (p:=j) om
   generalize(qcc z TF.2)[j]=x at *
   clear hsh ht hsn hwx hjl hj hlt hwm hown hgd hli hzz hA hto hT hfl hNb
   go_wp2_with (first|(at_delete;refine wpList_delete_own _ rfl _ _ 85 3 rfl 3 lawI underlying85 _ bm n _ rfl hm _ _ rfl hkey ?_;intro w4 hm4 ht4;simp only[Act.put,List.setIfInBounds_toArray,List.set_cons_succ,List.set_cons_zero]))
   go_roundw
   case rel=>
    refine⟨j+1,HJ.out,by go_num,?_⟩
    rw[HSN.out]
    exact hDR.step hn hm4 ht4
   case measure=>first|exact HM.out|(rw[hjw];exact HM.out)
  ·have hji:¬(j:Int)<(N:Int):=by omega
   obtain rfl:j=N:=by omega
   have e:(qcc z TF.2).take j=qcc z TF.2:=List.take_of_length_le (by have:=HN.out;omega)
   rw[e] at hDR
   clear e hj hlt
   go_wp2
   go_ret2
   obtain⟨hwm,hown,hbx,hgd⟩:=hDR
   have hsz:=HSZ.out
   have hb1:=HB1.out
   refine⟨_,rfl,cs2,vs2,hwm,hown,hon,hso2,?_,fun c hc=>?_,fun c hc=>?_⟩
   ·exact((Gr.of_below hb1).trans hgr2 (fun x hx=>.inl hx)).trans hgd (fun x hx=>(hfp2 x (.inr (.inl hx))).imp id (fun h=>by omega))
   ·exact(hfp2 c hc).imp id (fun h=>by omega)
   ·have:=hov2 c hc;omega
theorem qu9{T:Nat}(now:Int)(z:Int->Int)(hn:0<=now/\now<=1099511627776)(hz:∀i,0<=z i/\z i<=1099511627776)(ks:List Nat)(hk:∀k∈ks,k<448)(s:(Nat->List Int)×List Int)(h:Tot T s):Tot T (ks.foldl (sprF now z) s):=by
 induction ks generalizing s with
 | nil=>exact h
 | cons k r ih=>exact ih (fun q hq=>hk q (by simp[hq])) _ (qyj now z hn hz s h k (hk k zm))
theorem q6o{T:Nat}{a t:Nat}(z:Int->Int)(hat:a<=t)(ht:t<=1099511627776)(hz:∀i,0<=z i/\z i<=1099511627776)(L:Nat->List Int)(h:Tot T (L,[])):Tot T (qex (a:Int) (t:Int) z L):=by
 have h6:=qpa t a ht om
 have hl:=qgt t (lv t a)
 have hle:dg a (lv t a)<=dg t (lv t a):=(qnt a t om om hat).1
 unfold qex
 simp only[Int.toNat_natCast]
 rw[qtu]
 refine qu9 _ z om hz _ (fun k hk=>?_) _ (qu9 _ z om hz _ (fun k hk=>?_) _ h)
 ·obtain⟨q,rfl,h1,h2⟩:=qfy.1 hk;omega
 ·obtain⟨l,hl',hk'⟩:=List.mem_flatMap.1 hk
  obtain⟨q,rfl,h1,h2⟩:=qfy.1 hk'
  have:=qgt a l
  have:l<lv t a:=by simpa using hl'
  omega
theorem qoo(z:Int->Int)(l:List Int)(i:Int):i∈qcc z l↔i∈l:=by unfold qcc;simp
theorem qpy(z:Int->Int)(l:List Int)(h:l.Nodup):(qcc z l).Nodup:=((List.mergeSort_perm l (leZ z)).nodup_iff).2 h
theorem qo1(z:Int->Int)(l:List Int):(qcc z l).length=l.length:=by simp[qcc]
theorem qys{w:World}{b o:Nat}{t:TypeId}{cs:Array Value}{now tn:Int}{du:Int->Option Int}{cnt:Nat}{F:Nat->Prop}(h:qca w b t cs o now du cnt F)(h1:now<=tn)(h2:tn<=1099511627776):
  Calls prog 106 #[.pointer (some ⟨b,o,none⟩),.int .i64 tn] w fun e w'=>∃v,e=.returned (.tuple #[v,.int .i64 0])/\∃off cs' F' cnt',off.Nodup/\(∀i,i∈off↔∃d,du i=some d/\d<=tn)/\Own w' v (qcc (dz du) off)/\ql5 v F'/\qca w' b t cs' o tn (qiv tn du) cnt' F'/\qb7 o cs cs'/\Gr F w w'/\(∀c,F' c->F c\/w.heap.size<=c)/\(∀c,v.ownBlock=some c->w.heap.size<=c)/\cnt'+off.length=cnt:=by
 obtain⟨mb,D,vs,L,hwm,hrd,hwt,hwf,hsum,hsize,hcnt,hF⟩:=h
 have ht:=hwt.time
 obtain⟨A,rfl⟩:∃A:Nat,now=A:=⟨now.toNat,by omega⟩
 obtain⟨T,rfl⟩:∃T:Nat,tn=T:=⟨tn.toNat,by omega⟩
 have hz:=hwt.z
 have hsays:=hrd.says hz
 have htot:Tot cnt (L,[]):=⟨by simpa using hsum,fun m hm=>qor hwt m hm,fun k i hi=>q6q hwt hwf k i hi⟩
 have hmb:mb=none->∀i,du i=none:=fun e i=>by
  rcases hwm.map with⟨_,hD⟩|⟨bm,n,e2,_⟩
  ·rw[hD] at hrd;exact qwx hrd i
  ·rw[e] at e2;cases e2
 obtain⟨g1,g2,g3⟩:=q4u hwt h1 h2
 have htt:=q6o (dz du) (by omega:A<=T) om hz L htot
 have hoff:mb=none->(qex (A:Int) (T:Int) (dz du) L).2=[]:=fun e=>by
  rcases hl:(qex (A:Int) (T:Int) (dz du) L).2 with _|⟨i,r⟩
  ·rfl
  ·obtain⟨d,hd,_⟩:=(g3 i).1 (by rw[hl];simp)
   rw[hmb e i] at hd;cases hd
 refine(qxb hwm (dz du) hsays hz om om om htot (fun e k=>q0b hwt (hmb e) k) (by have:=htt.off;omega) hoff (fun i hi=>by obtain⟨d,hd,_⟩:=(g3 i).1 hi;exact hwf i d hd)).mono ?_
 rintro e w' ⟨v,rfl,cs',vs',hw',hown,hout,hso,hgr,hfp,hov⟩
 have hsm:=qoo (dz du) (qex (A:Int) (T:Int) (dz du) L).2
 have hrl:=qzp (qcc (dz du) (qex (A:Int) (T:Int) (dz du) L).2) hrd
 rw[q0q (t:=(T:Int)) (fun i=>(hsm i).trans (g3 i))] at hrl
 have hsz:=q3h _ hrd (qpy (dz du) _ g2) (fun i hi=>by obtain⟨d,hd,_⟩:=(g3 i).1 ((hsm i).1 hi);rw[hd];rfl)
 rw[qo1] at hsz
 have hs2:=htt.sum
 refine⟨v,rfl,_,cs',Fp b mb vs',Maps.size (delF D (qcc (dz du) (qex (A:Int) (T:Int) (dz du) L).2)),g2,g3,hown,hout,⟨mb,_,vs',_,hw',hrl,g1,fun i d hd=>hwf i d (qku.1 hd).1,by omega,rfl,by omega,fun c hc=>hc⟩,hso,hgr.mono hF,fun c hc=>(hfp c hc).imp (hF c) id,hov,by omega⟩
theorem q36(l:List Int)(i:Int):l.eraseIdx (l.idxOf i)=l.erase i:=by
 induction l with
 | nil=>rfl
 | cons b r ih=>
  by_cases e:b=i
  ·subst e;simp
  ·have e':(b==i)=false:=by simpa using e
   rw[List.idxOf_cons,e',List.erase_cons,if_neg (by simp[e'])]
   simp[ih]
theorem q06{now d:Int}{du:Int->Option Int}{L:Nat->List Int}(h:qhg now du L)(i:Int)(hi:du i=none)(h1:now<=d)(h2:d<=1099511627776):qhg now (setD du i d) (setL L (pk now.toNat d.toNat) (L (pk now.toNat d.toNat)++[i])):=by
 have hni:∀k,i ∉ L k:=fun k hk=>by obtain⟨e,he,_⟩:=(h.mem k i).1 hk;rw[hi] at he;cases he
 refine⟨h.time,fun j e he=>?_,fun k=>?_,fun k j=>?_⟩
 ·unfold setD at he
  split at he
  ·cases he;exact⟨h1,h2⟩
  ·exact h.due j e he
 ·unfold setL
  split
  ·rw[List.nodup_append]
   exact⟨h.nodup _,by simp,fun x hx y hy e=>by have e2:y=i:=(by simpa using hy);rw[e,e2] at hx;exact hni _ hx⟩
  ·exact h.nodup k
 ·unfold setL setD
  by_cases ej:j=i
  ·subst ej
   constructor
   ·intro hm
    refine⟨d,by simp,?_⟩
    split at hm
    ·rename_i e;exact e.symm
    ·exact absurd hm (hni k)
   ·rintro⟨e,he,hp⟩
    simp at he
    subst he
    rw[if_pos hp.symm];simp
  ·simp only[if_neg ej]
   constructor
   ·intro hm
    split at hm
    ·rename_i e
     rcases List.mem_append.1 hm with h3|h3
     ·have:=(h.mem _ j).1 h3;rw[e];exact this
     ·exact absurd (by simpa using h3) ej
    ·exact(h.mem k j).1 hm
   ·intro hm
    have:=(h.mem k j).2 hm
    split
    ·rename_i e;rw[←e];exact List.mem_append_left _ this
    ·exact this
theorem q2t{now d:Int}{du:Int->Option Int}{L:Nat->List Int}(h:qhg now du L)(i:Int)(hi:du i=some d):qhg now (delD du i) (setL L (pk now.toNat d.toNat) ((L (pk now.toNat d.toNat)).eraseIdx ((L (pk now.toNat d.toNat)).idxOf i))):=by
 rw[q36]
 refine⟨h.time,fun j e he=>?_,fun k=>?_,fun k j=>?_⟩
 ·unfold delD at he
  split at he
  ·cases he
  ·exact h.due j e he
 ·unfold setL
  split
  ·exact(h.nodup _).erase _
  ·exact h.nodup k
 ·unfold setL delD
  by_cases ej:j=i
  ·subst ej
   simp only[if_true]
   constructor
   ·intro hm
    split at hm
    ·exact absurd hm (by rw[(h.nodup _).mem_erase_iff];simp)
    ·rename_i e
     obtain⟨e',he',hp⟩:=(h.mem k j).1 hm
     rw[hi] at he';cases he'
     exact absurd hp.symm e
   ·rintro⟨e,he,_⟩;cases he
  ·simp only[if_neg ej]
   constructor
   ·intro hm
    split at hm
    ·rename_i e
     have:=(h.mem _ j).1 (List.mem_of_mem_erase hm)
     rw[e];exact this
    ·exact(h.mem k j).1 hm
   ·intro hm
    have:=(h.mem k j).2 hm
    split
    ·rename_i e
     rw[(h.nodup _).mem_erase_iff]
     exact⟨ej,by rw[←e];exact this⟩
    ·exact this
end Go.Proofs.YtnicenfgemkdnaaGreatDoor
