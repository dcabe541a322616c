/-
  Of what a law stands on.
-/
import Derived.Test.YtbboabfmoahipaaRows
import Derived.WalkKit
import Derived.ProofKit
import Derived.OpenShut
import Derived.Below
import Derived.Laws.AppendOwn
import Derived.Deep.DeepFit
import Derived.Deep.DeepCutAuto
import Derived.Deep.MidRow
import Derived.Laws.CopyOwn
import Derived.Test.YtbboabfmoahipaaZbm
set_option linter.unusedSimpArgs false
set_option linter.unusedVariables false
namespace Go.Proofs.Ytbboabfmoahipaa
open Go.Value renaming int → I,pointer → V
open Go.IntKind renaming i64 → Z
open _root_.Go.Proofs.Try Go.ChangeShapes Go.WideShapes Go.ChangeAt Go.RowKit
set_option maxHeartbeats 16000000
set_option maxRecDepth 100000
variable {f:Nat->Int}{a n:Int}{w w':World}{b base:Nat}{v:Value}{l:List Nat}{p:Prop}{cs:Array Value}{g:Nat->Bool}{o:Oper}{ops:Array Oper}{rest:List Oper}{Q:Exit->Act->World->Prop}{fn:Func}{t:Tmp}
def pc(f:Nat->Int)(g:Nat->Bool):Array Value:=#[I Z (f 0),I Z (f 1),I Z (f 2),I Z (f 3),I Z (f 4),I Z (f 5),I Z (f 6),I Z (f 7),I Z (f 8),I Z (f 9),I Z (f 10),I Z (f 11),I Z (f 12),I Z (f 13),I Z (f 14),I Z (f 15),I Z (f 16),I Z (f 17),.bool (g 0),.bool (g 1),.bool (g 2)]
def plv(f:Nat->Int)(g:Nat->Bool):Value:=.agg (pc f g)
def qgl(f:Nat->Int)(n:Nat):Prop:=∀i,i<n->0<=f i/\f i<=8
def qcv(f:Nat->Int):Bool:=(List.range 18).all fun i=>decide (0<=f i)&&decide (f i<=8)
theorem qxn(f:Nat->Int):qgl f 0:=fun i h=>absurd h (Nat.not_lt_zero i)
theorem qmj{n:Nat}(h:qgl f n)(h0:0<=f n)(h8:f n<=8):qgl f (n+1):=fun i hi=>by
 by_cases e:i=n
 ·subst e;exact⟨h0,h8⟩
 ·exact h i om
theorem qnj(h:qgl f 18):qcv f=true:=by
 unfold qcv
 rw[List.all_eq_true];intro i hi
 have:=h i (List.mem_range.1 hi)
 simp[this.1,this.2]
theorem qid(i:Nat)(hi:i<18)(h:f i<0\/8<f i):qcv f=false:=by
 unfold qcv
 rw[List.all_eq_false]
 exact⟨i,List.mem_range.2 hi,by simp;omega⟩
theorem qki(h:qcv f=true):qgl f 18:=by
 intro i hi
 unfold qcv at h
 have:=List.all_eq_true.1 h i (List.mem_range.2 hi)
 simpa using this
def qfl(h:Nat->Int)(n:Nat):List Nat:=(List.range n).filter fun k=>h k==0
def qbo(h:Nat->Int):List Nat:=qfl h 6
theorem qp2(h:Nat->Int)(n:Nat):qfl h (n+1)=qfl h n++if h n==0 then [n] else []:=by
 unfold qfl;rw[List.range_succ,List.filter_append];simp[List.filter];split<;>simp_all
theorem qks(h:Nat->Int)(n:Nat):(qfl h n).length<=n:=by
 have:=List.length_filter_le (fun k=>h k==0) (List.range n);simpa[qfl] using this
theorem qj8(h:Nat->Int)(k:Nat)(hk:k∈qbo h):k<6/\h k=0:=by
 simpa[qbo,qfl] using hk
def ic(l:List Nat):List Value:=l.map fun(k:Nat)=>Value.int .i64 (k:Int)
def Ints(w:World)(base:Nat)(v:Value)(l:List Nat):Prop:=w.ownsRow base 3 1 v l.length (ic l)
theorem Ints.nil(w:World)(base:Nat):Ints w base (.slice none 0 0) []:=by unfold Ints;exact World.ownsRow_nil w base 3 1
theorem Ints.kept(h:Ints w base v l)(hb:Below w.heap.size w w'):Ints w' base v l:=by
 refine⟨h.1,?_⟩
 rcases h.2 with e|⟨b,cap,cur,hv,hbb,hh,r⟩
 ·exact .inl e
 ·exact .inr ⟨b,cap,cur,hv,hbb,(hb.block b (Array.getElem?_eq_some_iff.1 hh).1).trans hh,r⟩
theorem Ints.len(h:Ints w base v l):∃a cap,v=.slice a l.length cap:=by
 rcases h.2 with⟨e,n0⟩|⟨b,cap,cur,hv,_⟩
 ·exact⟨none,0,by rw[e,n0]⟩
 ·exact⟨_,_,hv⟩
theorem Ints.at(h:Ints w base v l)(hl:0<l.length):∃b cap,v=.slice (some ⟨b,0,none⟩) l.length cap/\∀j (hj:j<l.length),w.cell? ⟨b,j,none⟩=some (I Z ((l[j]:Nat):Int)):=by
 rcases h.2 with⟨e,n0⟩|⟨b,cap,cur,hv,hbb,hh,_,_,_,ht⟩
 ·omega
 ·refine⟨b,cap,hv,fun j hj=>?_⟩
  (have e:(ic l)[j]?=some (I Z ((l[j]:Nat):Int)):=by simp[ic,hj])
  rw[←ht] at e
  rw[List.getElem?_take_of_lt om] at e
  simpa[World.cell?,hh] using e
theorem Ints.grown{w0:World}(h:Ints w base v l)(B:Below base w0 w)(hle:base<=w.heap.size)(hg:w.grownBy w' v.ownBlock):Below base w0 w':=by
 refine⟨hg.os.trans B.os,hg.tape.trans B.tape,hg.output.trans B.output,Nat.le_trans B.size hg.size,fun k hk=>?_⟩
 refine(hg.block k om ?_).trans (B.block k hk)
 intro e
 have:=h.lt k e.symm
 omega
theorem qahb(d n:Int)(hn:0<n):(if d.tmod n<0 then d.tmod n+n else d.tmod n)=d%n:=by
 have h1:=Int.tmod_eq_emod (a:=d) (b:=n);have h2:=Int.emod_nonneg d (b:=n) om;have h3:=Int.emod_lt_of_pos d hn;(have hab:(n.natAbs:Int)=n:=by omega)
 split at h1<;>split<;>omega
theorem qvk:(prog.info? 3).map (fun i=>(i.zero,i.size,i.bytes))=some (some (I Z 0),1,8):=by kernel_rfl
theorem qpe(w:World)(x:Value)(t:TypeId):∀j u,[x][j]?=some u->(w.alloc (.cells #[x] t)).cell? ((⟨w.heap.size,0,none⟩:Addr).add j)=some u:=by
 intro j u hu
 match j,hu with
 | 0,hu=>
  (have e:x=u:=by simpa using hu)
  subst e
  rw[Addr.add_lit,Nat.zero_add]
  exact World.cell?_alloc_mark w #[x] t (0,0) 0
theorem qo0(h:Nat->Int)(k:Nat)(hk:k<6)(w:World):(Instr.index 22 (.agg #[I Z (h 0),I Z (h 1),I Z (h 2),I Z (h 3),I Z (h 4),I Z (h 5)]) (I Z (k:Int))).run prog w=.ok (I Z (h k)) w:=by
 rcases(show k=0\/k=1\/k=2\/k=3\/k=4\/k=5 by omega) with rfl|rfl|rfl|rfl|rfl|rfl<;>kernel_rfl
theorem sZbp111(h:p:=by
 go_wp2
 go_round
 case rel=>
  refine⟨_,_,_,⟨j+1,by omega,?_,HG.out⟩,rfl,rfl,rfl⟩
  go_num
 case measure=>simp[intOf];omega):p:=h
theorem sZbp118(h:p:=by
 go_wp2
 go_ret
 exact⟨by rw[H.out];rfl,hB'⟩):p:=h
theorem sZbp11(h:p:=by
 clear hB
 obtain⟨k,hk,rfl,hg,hB⟩:=hrel
 rcases(show k=0\/k=1\/k=2\/k=3 by omega) with rfl|rfl|rfl|rfl
 ·(have ix:=fun j hj=>qo0 (fun k=>f (k)) j hj)
  try simp only[Nat.add_zero,Nat.zero_add,Nat.reduceAdd] at ix
  have hB':=hB.alloc hB.size (.cells #[I Z (f 0),I Z (f 1),I Z (f 2),I Z (f 3),I Z (f 4),I Z (f 5)] 22)
  go_wp2
  go_loop [13] (fun i=>∃j:Nat,j<=6/\i=I Z j/\qgl f (j)) (fun i=>6-(intOf i).toNat)
  case atStart=>exact⟨0,by omega,rfl,hg⟩
  case round=>
   obtain⟨j,hj,rfl,hgj⟩:=hrel
   by_cases hlt:j<6
   ·have ij:=ix j hlt
    by_cases h1:f (j)<0
    ·have H:Hid (qcv f=false):=qid (j) om (.inl h1)
     exact sZbp118
    ·(have h1':0<=f (j):=by omega);clear h1
     by_cases h2:8<f (j)
     ·have H:Hid (qcv f=false):=qid (j) om (.inr h2)
      exact sZbp118
     ·(have h2':f (j)<=8:=by omega);clear h2;have HG:Hid (qgl f ((j+1))):=qmj hgj h1' h2'
      exact sZbp111
   ·(have e:j=6:=by omega)
    subst e
    go_wp2
    go_roundw
    case rel=>exact⟨1,by omega,rfl,hgj,hB'⟩
    case measure=>simp[intOf]
 ·(have ix:=fun j hj=>qo0 (fun k=>f (6+k)) j hj)
  try simp only[Nat.add_zero,Nat.zero_add,Nat.reduceAdd] at ix
  have hB':=hB.alloc hB.size (.cells #[I Z (f 6),I Z (f 7),I Z (f 8),I Z (f 9),I Z (f 10),I Z (f 11)] 22)
  go_wp2
  go_loop [13] (fun i=>∃j:Nat,j<=6/\i=I Z j/\qgl f (6+j)) (fun i=>6-(intOf i).toNat)
  case atStart=>exact⟨0,by omega,rfl,hg⟩
  case round=>
   obtain⟨j,hj,rfl,hgj⟩:=hrel
   by_cases hlt:j<6
   ·have ij:=ix j hlt
    by_cases h1:f (6+j)<0
    ·have H:Hid (qcv f=false):=qid (6+j) om (.inl h1)
     exact sZbp118
    ·(have h1':0<=f (6+j):=by omega);clear h1
     by_cases h2:8<f (6+j)
     ·have H:Hid (qcv f=false):=qid (6+j) om (.inr h2)
      exact sZbp118
     ·(have h2':f (6+j)<=8:=by omega);clear h2;have HG:Hid (qgl f (6+(j+1))):=qmj hgj h1' h2'
      exact sZbp111
   ·(have e:j=6:=by omega)
    subst e
    go_wp2
    go_roundw
    case rel=>exact⟨2,by omega,rfl,hgj,hB'⟩
    case measure=>simp[intOf]
 ·(have ix:=fun j hj=>qo0 (fun k=>f (12+k)) j hj)
  try simp only[Nat.add_zero,Nat.zero_add,Nat.reduceAdd] at ix
  have hB':=hB.alloc hB.size (.cells #[I Z (f 12),I Z (f 13),I Z (f 14),I Z (f 15),I Z (f 16),I Z (f 17)] 22)
  go_wp2
  go_loop [13] (fun i=>∃j:Nat,j<=6/\i=I Z j/\qgl f (12+j)) (fun i=>6-(intOf i).toNat)
  case atStart=>exact⟨0,by omega,rfl,hg⟩
  case round=>
   obtain⟨j,hj,rfl,hgj⟩:=hrel
   by_cases hlt:j<6
   ·have ij:=ix j hlt
    by_cases h1:f (12+j)<0
    ·have H:Hid (qcv f=false):=qid (12+j) om (.inl h1)
     exact sZbp118
    ·(have h1':0<=f (12+j):=by omega);clear h1
     by_cases h2:8<f (12+j)
     ·have H:Hid (qcv f=false):=qid (12+j) om (.inr h2)
      exact sZbp118
     ·(have h2':f (12+j)<=8:=by omega);clear h2;have HG:Hid (qgl f (12+(j+1))):=qmj hgj h1' h2'
      exact sZbp111
   ·(have e:j=6:=by omega)
    subst e
    go_wp2
    go_roundw
    case rel=>exact⟨3,by omega,rfl,hgj,hB'⟩
    case measure=>simp[intOf]
 ·have H:Hid (qcv f=true):=qnj hg
  go_wp2
  go_ret
  exact⟨by rw[H.out];rfl,hB⟩):p:=h
theorem qni(f:Nat->Int)(g:Nat->Bool)(w:World):
  Calls prog 32 #[plv f g] w fun e w'=>e=.returned (.bool (qcv f))/\Below w.heap.size w w':=by
 refine m04 ?_;intro x0 x1 x2 hB
 unfold plv pc
 go_enter func32,ntmps32
 go_wp2
 go_loopw [9] (fun i W=>∃k:Nat,k<=3/\i=I Z k/\qgl f (6*k)/\Below w.heap.size w W) (fun i _=>3-(intOf i).toNat)
 case atStart=>exact⟨0,by omega,rfl,qxn f,hB⟩
 case round=>
  exact sZbp11
def inR(a n:Int):Bool:=decide (0<=a/\a<n)
theorem qed(h0:0<=a)(h1:a<n):inR a n=true:=by unfold inR;exact decide_eq_true ⟨h0,h1⟩
theorem qfe(h:a<0\/n<=a):inR a n=false:=by unfold inR;exact decide_eq_false om
theorem sZbp15(h:p:=by
 clear hz
 go_wp2
 go_roundw
 case rel=>
  first
   | exact⟨k+1,ao,cv,by omega,by go_num,by rw[HS.out],by rw[HS.out];exact hown,hB⟩| ((repeat apply Exists.intro);exact⟨⟨k+1,ao,cv,by omega,by go_num,by rw[HS.out],by rw[HS.out];exact hown,hB⟩,rfl⟩)| ((repeat apply Exists.intro);exact⟨⟨k+1,ao,cv,by omega,by go_num,by rw[HS.out],by rw[HS.out];exact hown,hB⟩,rfl,rfl⟩)
 case measure=>simp[intOf];omega):p:=h
theorem sZbp19(h:p:=by
 first
  | exact⟨k+1,a3,c3,by omega,by go_num,e3,hi',hb3⟩| ((repeat apply Exists.intro);exact⟨⟨k+1,a3,c3,by omega,by go_num,e3,hi',hb3⟩,rfl⟩)| ((repeat apply Exists.intro);exact⟨⟨k+1,a3,c3,by omega,by go_num,e3,hi',hb3⟩,rfl,rfl⟩)):p:=h
theorem sZbp110(h:p:=by
 unfold Ints ic at *
 rw[HS.out,List.length_append,List.map_append]
 exact hown'):p:=h
theorem sZbp119(h:p:=by
 subst e
 go_wp2
 go_ret
 exact⟨_,rfl,⟨_,_,rfl⟩,hown,hB⟩):p:=h
theorem qjc(h:Nat->Int)(w:World):
  Calls prog 61 #[.agg #[I Z (h 0),I Z (h 1),I Z (h 2),I Z (h 3),I Z (h 4),I Z (h 5)]] w fun e w'=>∃v,e=.returned v/\(∃a c,v=.slice a (qbo h).length c)/\Ints w' w.heap.size v (qbo h)/\Below w.heap.size w w':=by
 obtain⟨i0,hi,hz0,hz1,hz2⟩:=info_parts qvk;have hB0:Below w.heap.size w (w.alloc (.cells #[I Z (h 0),I Z (h 1),I Z (h 2),I Z (h 3),I Z (h 4),I Z (h 5)] 22)):=(Below.refl _ _).alloc (Nat.le_refl _) _
 go_enter func61,ntmps61
 go_wp2
 go_loopw [3,7] (fun v i wr=>∃(k:Nat) (ao:Option Addr) (cv:Nat),k<=6/\i=I Z k/\v=.slice ao (qfl h k).length cv/\Ints wr w.heap.size v (qfl h k)/\Below w.heap.size w wr) (fun _ i _=>6-(intOf i).toNat)
 case atStart=>exact⟨0,none,0,by omega,rfl,rfl,Ints.nil _ _,hB0⟩
 case round=>
  clear hB0
  obtain⟨k,ao,cv,hk,rfl,rfl,hown,hB⟩:=hrel
  have hsize:=hB.size;have hfl:=qks h k
  by_cases hlt:k<6
  ·have ik:=qo0 h k hlt
   by_cases hz:h k=0
   ·(have dz:(h k==0)=true:=by simpa using hz);(have HS:Hid (qfl h (k+1)=qfl h k++[k]):=by show _=_;rw[qp2,if_pos dz]);clear hz
    go_wp2_with (at_builtin;refine wpList_append_own _ rfl _ _ 96 rfl w.heap.size 3 i0 (I Z 0) 1 8 underlying96 hi hz0 hz1 hz2 rfl (by decide) _ _ _ rfl (hown.alloc _) ⟨wr.heap.size,0,none⟩ 1 1 [I Z (k:Int)] rfl rfl (qpe _ _ _) (fun x hx=>by simp at hx;subst hx;rfl) (by unfold maxLen;omega) om (by simp;omega) ?_;intro v' w3 hown' hgrow3 hnil3)
    go_roundw
    case rel=>
     have hi':Ints w3 w.heap.size v' (qfl h (k+1)):=by
      exact sZbp110
     obtain⟨a3,c3,e3⟩:=hi'.len;have hb3:Below w.heap.size w w3:=Ints.grown (l:=qfl h k) (hown.alloc _) (hB.alloc hB.size _) (by simp;omega) hgrow3
     exact sZbp19
    case measure=>simp[intOf];omega
   ·(have dz:(h k==0)=false:=by simpa using hz);(have HS:Hid (qfl h (k+1)=qfl h k):=by show _=_;rw[qp2,if_neg (by simp[dz])];simp)
    exact sZbp15
  ·(have e:k=6:=by omega)
   exact sZbp119
theorem sZbp120(h:p:=by
 go_wp2
 go_ret
 exact⟨by rw[H.out];rfl,rfl⟩):p:=h
theorem sZbp122(h:p:=by
 go_wp2
 go_ret
 exact⟨by rw[H.out];simp<;>omega,rfl⟩):p:=h
theorem qe7(a:Int)(w:World):Calls prog 57 #[I Z a] w fun e w'=>e=.returned (.bool (inR a 3))/\w'=w:=by
 by_cases h0:0<=a
 ·by_cases h1:a<3
  ·have H:Hid (inR a 3=true):=qed h0 h1
   go_enter func57,ntmps57
   exact sZbp120
  ·have H:Hid (inR a 3=false):=qfe om;(have h1':3<=a:=by omega);clear h1
   go_enter func57,ntmps57
   exact sZbp122
 ·have H:Hid (inR a 3=false):=qfe om;(have h0':a<0:=by omega);clear h0
  go_enter func57,ntmps57
  exact sZbp120
theorem sZbp126(h:p:=by
 go_enter func59,ntmps59
 exact sZbp120):p:=h
theorem qlq(a:Int)(w:World):Calls prog 59 #[I Z a] w fun e w'=>e=.returned (.bool (inR a 8))/\w'=w:=by
 by_cases h0:0<=a
 ·by_cases h1:a<8
  ·have H:Hid (inR a 8=true):=qed h0 h1
   exact sZbp126
  ·have H:Hid (inR a 8=false):=qfe om;(have h1':8<=a:=by omega);clear h1
   go_enter func59,ntmps59
   exact sZbp122
 ·have H:Hid (inR a 8=false):=qfe om;(have h0':a<0:=by omega);clear h0
  exact sZbp126
theorem qwv(a:Int)(w:World):Calls prog 58 #[I Z a] w fun e w'=>e=.returned (.bool (inR a 6))/\w'=w:=by
 by_cases h0:0<=a
 ·by_cases h1:a<6
  ·have H:Hid (inR a 6=true):=qed h0 h1
   go_enter func58,ntmps58
   exact sZbp120
  ·have H:Hid (inR a 6=false):=qfe om;(have h1':6<=a:=by omega);clear h1
   go_enter func58,ntmps58
   exact sZbp122
 ·have H:Hid (inR a 6=false):=qfe om;(have h0':a<0:=by omega);clear h0
  go_enter func58,ntmps58
  exact sZbp120
theorem q7c(d:Int)(n:Nat)(hn:0<n):0<=d%(n:Int)/\d%(n:Int)<n:=⟨Int.emod_nonneg d om,Int.emod_lt_of_pos d om⟩
def qep(l:List Nat)(d:Int):Nat:=l.getD (d%(l.length:Int)).toNat 0
theorem qiu(l:List Nat)(d:Int)(h:0<l.length):qep l d∈l:=by
 have:=q7c d l.length h
 unfold qep
 rw[List.getD_eq_getElem?_getD,List.getElem?_eq_getElem om]
 exact List.getElem_mem _
theorem sZbp123(h:p:=by
 go_enter func62,ntmps62
 go_wp2
 go_ret
 exact⟨by rw[HD.out];rfl,rfl⟩):p:=h
theorem sZbp125(h:p:=by
 unfold qep
 rw[List.getD_eq_getElem?_getD,List.getElem?_eq_getElem hq];rfl):p:=h
theorem qmf(base:Nat)(v:Value)(l:List Nat)(d:Int)(w:World)(hi:Ints w base v l)(hl:0<l.length)(hd:(Lit.int .i64 d).wf=true)(hm:l.length<=6):
  Calls prog 62 #[v,.int .i64 d] w fun e w'=>e=.returned (.int .i64 ((qep l d:Nat):Int))/\w'=w:=by
 obtain⟨b,cap,rfl,hc⟩:=hi.at hl
 have hr:=qahb d l.length om;obtain⟨a0,a1⟩:=q7c d l.length hl;(have hq:(d%(l.length:Int)).toNat<l.length:=by omega);have hcell:=hc _ hq
 have HD:Hid (qep l d=l[(d%(l.length:Int)).toNat]):=by
  show _=_
  exact sZbp125
 generalize hx:l[(d % (l.length:Int)).toNat]=x at *
 clear hx hc hi
 generalize hN:(l.length:Int)=N at *
 (have hn0:0<N:=by omega);(have hn6:N<=6:=by omega)
 by_cases ht:d.tmod N<0
 ·rw[if_pos ht] at hr
  exact sZbp123
 ·rw[if_neg ht] at hr
  (have ht':0<=d.tmod N:=by omega);clear ht
  exact sZbp123
theorem qlhb(d:Int)(n:Nat)(w:World)(hn:0<n)(hm:n<=6):
  Calls prog 56 #[I Z d,I Z (n:Int)] w fun e w'=>e=.returned (I Z (d%(n:Int)))/\w'=w:=by
 have hr:=qahb d n om;obtain⟨a0,a1⟩:=q7c d n hn;(have t1:=Int.tmod_lt_of_pos d (show(0:Int)<n by omega));(have t2:-(n:Int)<=d.tmod n:=by split at hr<;>omega);(have n6:(n:Int)<=6:=by omega);(have n0:0<(n:Int):=by omega)
 have HD:Hid ((d.tmod n+n)%n=d%n):=by
  show _=_
  split at hr
  ·rw[hr];exact Int.emod_emod _ _
  ·rw[hr,Int.add_emod_right];exact Int.emod_emod _ _
 generalize(n:Int)=N at *
 clear hr;(have hN0:N≠0:=by omega);(have hw:wrap64 (d.tmod N+N)=d.tmod N+N:=by unfold wrap64;omega)
 go_enter func56,ntmps56
 go_wp2
 go_ret
 refine⟨?_,rfl⟩
 rw[←HD.out];rfl
def rowF(f:Nat->Int)(a:Nat):Nat->Int:=fun k=>f (6*a+k)
def qe8(f:Nat->Int)(a:Int):Int:=if inR a 3=true then((qbo (rowF f a.toNat)).length:Int) else 0
theorem qne(f:Nat->Int)(a:Nat)(h:a<3):qe8 f (a:Int)=((qbo (rowF f a)).length:Int):=by
 unfold qe8;rw[if_pos (qed om om),Int.toNat_natCast]
theorem q4k(f:Nat->Int)(a:Int)(h:a<0\/3<=a):qe8 f a=0:=by
 unfold qe8;rw[if_neg (by simp[qfe h])]
theorem sZbp124(h:p:=by
 go_ret
 exact⟨by rw[HL.out];rfl,hB⟩):p:=h
theorem qqh(f:Nat->Int)(g:Nat->Bool)(a:Int)(w:World):
  Calls prog 64 #[plv f g,I Z a] w fun e w'=>e=.returned (I Z (qe8 f a))/\Below w.heap.size w w':=by
 have hB:Below w.heap.size w (w.alloc (.cells #[I Z (f 0),I Z (f 1),I Z (f 2),I Z (f 3),I Z (f 4),I Z (f 5),I Z (f 6),I Z (f 7),I Z (f 8),I Z (f 9),I Z (f 10),I Z (f 11),I Z (f 12),I Z (f 13),I Z (f 14),I Z (f 15),I Z (f 16),I Z (f 17),.bool (g 0),.bool (g 1),.bool (g 2)] 26)):=(Below.refl _ _).alloc (Nat.le_refl _) _
 unfold plv pc
 by_cases hin:0<=a/\a<3
 ·obtain⟨k,rfl⟩:∃k:Nat,a=k:=⟨a.toNat,by omega⟩
  have hi:inR (k:Int) 3=true:=qed hin.1 hin.2;have HL:Hid (qe8 f (k:Int)=_):=qne f k om
  rcases(show k=0\/k=1\/k=2 by omega) with rfl|rfl|rfl
  ·(have C0:∀w,Calls prog 61 #[.agg #[I Z (f 0),I Z (f 1),I Z (f 2),I Z (f 3),I Z (f 4),I Z (f 5)]] w fun e w'=>∃v,e=.returned v/\(∃a c,v=.slice a (qbo (rowF f 0)).length c)/\Ints w' w.heap.size v (qbo (rowF f 0))/\Below w.heap.size w w':=fun w=>qjc (rowF f 0) w)
   go_enter func64,ntmps64
   go_wp2_with (first|(go_at_call 57;refine(qe7 _ _).mono ?_;rintro e w' ⟨rfl,rfl⟩;(try rw[show inR ((0:Nat):Int) 3=true from hi]))|(go_at_call 61;go_fit (C0 _);rintro e w' ⟨v,rfl,⟨a1,c1,rfl⟩,hI,hb⟩;replace hB:=hB.trans (hb.mono hB.size)))
   exact sZbp124
  ·(have C1:∀w,Calls prog 61 #[.agg #[I Z (f 6),I Z (f 7),I Z (f 8),I Z (f 9),I Z (f 10),I Z (f 11)]] w fun e w'=>∃v,e=.returned v/\(∃a c,v=.slice a (qbo (rowF f 1)).length c)/\Ints w' w.heap.size v (qbo (rowF f 1))/\Below w.heap.size w w':=fun w=>qjc (rowF f 1) w)
   go_enter func64,ntmps64
   go_wp2_with (first|(go_at_call 57;refine(qe7 _ _).mono ?_;rintro e w' ⟨rfl,rfl⟩;(try rw[show inR ((1:Nat):Int) 3=true from hi]))|(go_at_call 61;go_fit (C1 _);rintro e w' ⟨v,rfl,⟨a1,c1,rfl⟩,hI,hb⟩;replace hB:=hB.trans (hb.mono hB.size)))
   exact sZbp124
  ·(have C2:∀w,Calls prog 61 #[.agg #[I Z (f 12),I Z (f 13),I Z (f 14),I Z (f 15),I Z (f 16),I Z (f 17)]] w fun e w'=>∃v,e=.returned v/\(∃a c,v=.slice a (qbo (rowF f 2)).length c)/\Ints w' w.heap.size v (qbo (rowF f 2))/\Below w.heap.size w w':=fun w=>qjc (rowF f 2) w)
   go_enter func64,ntmps64
   go_wp2_with (first|(go_at_call 57;refine(qe7 _ _).mono ?_;rintro e w' ⟨rfl,rfl⟩;(try rw[show inR ((2:Nat):Int) 3=true from hi]))|(go_at_call 61;go_fit (C2 _);rintro e w' ⟨v,rfl,⟨a1,c1,rfl⟩,hI,hb⟩;replace hB:=hB.trans (hb.mono hB.size)))
   exact sZbp124
 ·have hi:inR a 3=false:=qfe om;have HL:Hid (qe8 f a=0):=q4k f a om
  go_enter func64,ntmps64
  go_wp2_with (go_at_call 57;refine(qe7 _ _).mono ?_;rintro e w' ⟨rfl,rfl⟩)
  exact sZbp124
theorem qksb(f:Nat->Int)(g:Nat->Bool)(a:Nat)(ha:a<3)(w:World):
  Calls prog 55 #[plv f g,I Z (a:Int)] w fun e w'=>∃v,e=.returned v/\(∃a1 c1,v=.slice a1 (qbo (rowF f a)).length c1)/\Ints w' w.heap.size v (qbo (rowF f a))/\Below w.heap.size w w':=by
 obtain⟨i0,hi,hz0,hz1,hz2⟩:=info_parts qvk;have hB0:Below w.heap.size w (w.alloc (.cells #[I Z (f 0),I Z (f 1),I Z (f 2),I Z (f 3),I Z (f 4),I Z (f 5),I Z (f 6),I Z (f 7),I Z (f 8),I Z (f 9),I Z (f 10),I Z (f 11),I Z (f 12),I Z (f 13),I Z (f 14),I Z (f 15),I Z (f 16),I Z (f 17),.bool (g 0),.bool (g 1),.bool (g 2)] 26)):=(Below.refl _ _).alloc (Nat.le_refl _) _
 unfold plv pc
 rcases(show a=0\/a=1\/a=2 by omega) with rfl|rfl|rfl
 ·go_enter func55,ntmps55
  go_wp2
  go_loopw [5,18] (fun v i wr=>∃(k:Nat) (ao:Option Addr) (cv:Nat),k<=6/\i=I Z k/\v=.slice ao (qfl (rowF f 0) k).length cv/\Ints wr w.heap.size v (qfl (rowF f 0) k)/\Below w.heap.size w wr) (fun _ i _=>6-(intOf i).toNat)
  case atStart=>exact⟨0,none,0,by omega,rfl,rfl,Ints.nil _ _,hB0⟩
  case round=>
   clear hB0
   obtain⟨k,ao,cv,hk,rfl,rfl,hown,hB⟩:=hrel
   have hsize:=hB.size;have hfl:=qks (rowF f 0) k
   by_cases hlt:k<6
   ·(have ik:∀w,(Instr.index 22 (.agg #[I Z (f 0),I Z (f 1),I Z (f 2),I Z (f 3),I Z (f 4),I Z (f 5)]) (I Z (k:Int))).run prog w=.ok (I Z (rowF f 0 k)) w:=fun w=>qo0 (rowF f 0) k hlt w)
    by_cases hz:rowF f 0 k=0
    ·(have dz:(rowF f 0 k==0)=true:=by simpa using hz);(have HS:Hid (qfl (rowF f 0) (k+1)=qfl (rowF f 0) k++[k]):=by show _=_;rw[qp2,if_pos dz]);clear hz
     go_wp2_with (at_builtin;refine wpList_append_own _ rfl _ _ 96 rfl w.heap.size 3 i0 (I Z 0) 1 8 underlying96 hi hz0 hz1 hz2 rfl (by decide) _ _ _ rfl (hown.alloc _) ⟨wr.heap.size,0,none⟩ 1 1 [I Z (k:Int)] rfl rfl (qpe _ _ _) (fun x hx=>by simp at hx;subst hx;rfl) (by unfold maxLen;omega) om (by simp;omega) ?_;intro v' w3 hown' hgrow3 hnil3)
     go_roundw
     case rel=>
      have hi':Ints w3 w.heap.size v' (qfl (rowF f 0) (k+1)):=by
       exact sZbp110
      obtain⟨a3,c3,e3⟩:=hi'.len;have hb3:Below w.heap.size w w3:=Ints.grown (l:=qfl (rowF f 0) k) (hown.alloc _) (hB.alloc hB.size _) (by simp;omega) hgrow3
      exact sZbp19
     case measure=>simp[intOf];omega
    ·(have dz:(rowF f 0 k==0)=false:=by simpa using hz);(have HS:Hid (qfl (rowF f 0) (k+1)=qfl (rowF f 0) k):=by show _=_;rw[qp2,if_neg (by simp[dz])];simp)
     exact sZbp15
   ·(have e:k=6:=by omega)
    exact sZbp119
 ·go_enter func55,ntmps55
  go_wp2
  go_loopw [5,18] (fun v i wr=>∃(k:Nat) (ao:Option Addr) (cv:Nat),k<=6/\i=I Z k/\v=.slice ao (qfl (rowF f 1) k).length cv/\Ints wr w.heap.size v (qfl (rowF f 1) k)/\Below w.heap.size w wr) (fun _ i _=>6-(intOf i).toNat)
  case atStart=>exact⟨0,none,0,by omega,rfl,rfl,Ints.nil _ _,hB0⟩
  case round=>
   clear hB0
   obtain⟨k,ao,cv,hk,rfl,rfl,hown,hB⟩:=hrel
   have hsize:=hB.size;have hfl:=qks (rowF f 1) k
   by_cases hlt:k<6
   ·(have ik:∀w,(Instr.index 22 (.agg #[I Z (f 6),I Z (f 7),I Z (f 8),I Z (f 9),I Z (f 10),I Z (f 11)]) (I Z (k:Int))).run prog w=.ok (I Z (rowF f 1 k)) w:=fun w=>qo0 (rowF f 1) k hlt w)
    by_cases hz:rowF f 1 k=0
    ·(have dz:(rowF f 1 k==0)=true:=by simpa using hz);(have HS:Hid (qfl (rowF f 1) (k+1)=qfl (rowF f 1) k++[k]):=by show _=_;rw[qp2,if_pos dz]);clear hz
     go_wp2_with (at_builtin;refine wpList_append_own _ rfl _ _ 96 rfl w.heap.size 3 i0 (I Z 0) 1 8 underlying96 hi hz0 hz1 hz2 rfl (by decide) _ _ _ rfl (hown.alloc _) ⟨wr.heap.size,0,none⟩ 1 1 [I Z (k:Int)] rfl rfl (qpe _ _ _) (fun x hx=>by simp at hx;subst hx;rfl) (by unfold maxLen;omega) om (by simp;omega) ?_;intro v' w3 hown' hgrow3 hnil3)
     go_roundw
     case rel=>
      have hi':Ints w3 w.heap.size v' (qfl (rowF f 1) (k+1)):=by
       exact sZbp110
      obtain⟨a3,c3,e3⟩:=hi'.len;have hb3:Below w.heap.size w w3:=Ints.grown (l:=qfl (rowF f 1) k) (hown.alloc _) (hB.alloc hB.size _) (by simp;omega) hgrow3
      exact sZbp19
     case measure=>simp[intOf];omega
    ·(have dz:(rowF f 1 k==0)=false:=by simpa using hz);(have HS:Hid (qfl (rowF f 1) (k+1)=qfl (rowF f 1) k):=by show _=_;rw[qp2,if_neg (by simp[dz])];simp)
     exact sZbp15
   ·(have e:k=6:=by omega)
    exact sZbp119
 ·go_enter func55,ntmps55
  go_wp2
  go_loopw [5,18] (fun v i wr=>∃(k:Nat) (ao:Option Addr) (cv:Nat),k<=6/\i=I Z k/\v=.slice ao (qfl (rowF f 2) k).length cv/\Ints wr w.heap.size v (qfl (rowF f 2) k)/\Below w.heap.size w wr) (fun _ i _=>6-(intOf i).toNat)
  case atStart=>exact⟨0,none,0,by omega,rfl,rfl,Ints.nil _ _,hB0⟩
  case round=>
   clear hB0
   obtain⟨k,ao,cv,hk,rfl,rfl,hown,hB⟩:=hrel
   have hsize:=hB.size;have hfl:=qks (rowF f 2) k
   by_cases hlt:k<6
   ·(have ik:∀w,(Instr.index 22 (.agg #[I Z (f 12),I Z (f 13),I Z (f 14),I Z (f 15),I Z (f 16),I Z (f 17)]) (I Z (k:Int))).run prog w=.ok (I Z (rowF f 2 k)) w:=fun w=>qo0 (rowF f 2) k hlt w)
    by_cases hz:rowF f 2 k=0
    ·(have dz:(rowF f 2 k==0)=true:=by simpa using hz);(have HS:Hid (qfl (rowF f 2) (k+1)=qfl (rowF f 2) k++[k]):=by show _=_;rw[qp2,if_pos dz]);clear hz
     go_wp2_with (at_builtin;refine wpList_append_own _ rfl _ _ 96 rfl w.heap.size 3 i0 (I Z 0) 1 8 underlying96 hi hz0 hz1 hz2 rfl (by decide) _ _ _ rfl (hown.alloc _) ⟨wr.heap.size,0,none⟩ 1 1 [I Z (k:Int)] rfl rfl (qpe _ _ _) (fun x hx=>by simp at hx;subst hx;rfl) (by unfold maxLen;omega) om (by simp;omega) ?_;intro v' w3 hown' hgrow3 hnil3)
     go_roundw
     case rel=>
      have hi':Ints w3 w.heap.size v' (qfl (rowF f 2) (k+1)):=by
       exact sZbp110
      obtain⟨a3,c3,e3⟩:=hi'.len;have hb3:Below w.heap.size w w3:=Ints.grown (l:=qfl (rowF f 2) k) (hown.alloc _) (hB.alloc hB.size _) (by simp;omega) hgrow3
      exact sZbp19
     case measure=>simp[intOf];omega
    ·(have dz:(rowF f 2 k==0)=false:=by simpa using hz);(have HS:Hid (qfl (rowF f 2) (k+1)=qfl (rowF f 2) k):=by show _=_;rw[qp2,if_neg (by simp[dz])];simp)
     exact sZbp15
   ·(have e:k=6:=by omega)
    exact sZbp119
theorem qfg(f:Nat->Int)(g:Nat->Bool):(prog.info? 26).map (·.size)=some (pc f g).size:=by kernel_rfl
theorem qoq(f:Nat->Int)(g:Nat->Bool):(pc f g).all (·.oneCell')=true:=by kernel_rfl
theorem qf1(f:Nat->Int)(g:Nat->Bool):(pc f g).size=21:=rfl
theorem q1x(f:Nat->Int)(g:Nat->Bool)(k:Nat)(h:k<18):(pc f g)[k]?=some (I Z (f k)):=by
 rcases(show k=0\/k=1\/k=2\/k=3\/k=4\/k=5\/k=6\/k=7\/k=8\/k=9\/k=10\/k=11\/k=12\/k=13\/k=14\/k=15\/k=16\/k=17 by omega) with rfl|rfl|rfl|rfl|rfl|rfl|rfl|rfl|rfl|rfl|rfl|rfl|rfl|rfl|rfl|rfl|rfl|rfl<;>rfl
theorem qanb(f:Nat->Int)(g:Nat->Bool)(a:Nat)(h:a<3):(pc f g)[18+a]?=some (.bool (g a)):=by
 rcases(show a=0\/a=1\/a=2 by omega) with rfl|rfl|rfl<;>rfl
def upd(f:Nat->Int)(n:Nat)(x:Int):Nat->Int:=fun i=>if i=n then x else f i
def updB(g:Nat->Bool)(n:Nat)(x:Bool):Nat->Bool:=fun i=>if i=n then x else g i
theorem q97(f:Nat->Int)(g:Nat->Bool)(n:Nat)(x:Int)(h:n<18):(pc f g).setIfInBounds n (I Z x)=pc (upd f n x) g:=by
 rcases(show n=0\/n=1\/n=2\/n=3\/n=4\/n=5\/n=6\/n=7\/n=8\/n=9\/n=10\/n=11\/n=12\/n=13\/n=14\/n=15\/n=16\/n=17 by omega) with rfl|rfl|rfl|rfl|rfl|rfl|rfl|rfl|rfl|rfl|rfl|rfl|rfl|rfl|rfl|rfl|rfl|rfl<;>simp[pc,upd]
theorem q8y(f:Nat->Int)(g:Nat->Bool)(n:Nat)(x:Bool)(h:n<3):(pc f g).setIfInBounds (18+n) (.bool x)=pc f (updB g n x):=by
 rcases(show n=0\/n=1\/n=2 by omega) with rfl|rfl|rfl<;>simp[pc,updB]
def PRow(w:World)(b:Nat)(cs:Array Value):Prop:=w.heap[b]?=some (.cells cs 26 (0,0))
theorem PRow.cell(h:PRow w b cs):∀o,w.cell? ⟨b,o,none⟩=cs[o]?:=by
 intro o;unfold PRow at h;simp[World.cell?,h]
theorem PRow.free(h:PRow w b cs):∀o,w.frozen? ⟨b,o,none⟩=false:=by
 intro o;unfold PRow at h;simp[World.frozen?,h]
theorem PRow.own(h:PRow w b (pc f g))(k:Nat)(hk:k<18):w.cell? ⟨b,k,none⟩=some (I Z (f k)):=(h.cell k).trans (q1x f g k hk)
theorem PRow.dr(h:PRow w b (pc f g))(a:Nat)(ha:a<3):w.cell? ⟨b,18+a,none⟩=some (.bool (g a)):=(h.cell (18+a)).trans (qanb f g a ha)
theorem PRow.lt(h:PRow w b cs):b<w.heap.size:=(Array.getElem?_eq_some_iff.1 h).1
theorem PRow.below(h:PRow w b cs)(hb:Below w.heap.size w w'):PRow w' b cs:=(hb.block b h.lt).trans h
theorem PRow.keep{B:Nat}(h:PRow w b cs)(hb:Below B w w')(hlt:b<B):PRow w' b cs:=(hb.block b hlt).trans h
theorem PRow.new(w:World)(cs:Array Value):PRow (w.alloc (.cells cs 26)) w.heap.size cs:=heap_alloc_new w _
theorem PRow.alloc(h:PRow w b cs)(o:Obj):PRow (w.alloc o) b cs:=(Below.heap_alloc _ _ _ h.lt).trans h
theorem PRow.other{r o:Nat}(h:PRow w r cs)(hne:r≠b):PRow (w.setCell ⟨b,o,none⟩ v) r cs:=(Below.heap_setCell _ _ _ _ hne).trans h
theorem PRow.upd(h:PRow w b (pc f g))(n:Nat)(x:Int)(hn:n<18):PRow (w.setCell ⟨b,n,none⟩ (I Z x)) b (pc (upd f n x) g):=by
 rw[←q97 f g n x hn];exact heap_setCell_same w b n _ 26 _ h
theorem PRow.updB(h:PRow w b (pc f g))(n:Nat)(x:Bool)(hn:n<3):PRow (w.setCell ⟨b,18+n,none⟩ (.bool x)) b (pc f (updB g n x)):=by
 rw[←q8y f g n x hn];exact heap_setCell_same w b (18+n) _ 26 _ h
theorem qa1{W:World}(h:Below W.drew.heap.size W.drew w'):Below W.heap.size W w':=⟨h.os,h.tape,h.output,h.size,h.block⟩
theorem qat{a:Act}(x:Operand)(ho:o.op=.load 26 x)(hw:Region.wanted o (yielded ops a.tmps)=true)(b:Nat)(hx:a.eval x=V (some ⟨b,0,none⟩))(f:Nat->Int)(g:Nat->Bool)(h:PRow w b (pc f g))(hr:wpList prog ops Q rest (a.put o.dst (.agg (pc f g))) w):wpList prog ops Q (o::rest) a w:=
 wpList_step fun K hK=>by
  rw[if_pos hw]
  exact wp_load_row 26 x ho b hx 26 (pc f g) (0,0) _ h underlying26 rfl (qfg f g) (hK _ _ hr)
theorem qay{a:Act}(hgd:o.guard=none)(x y:Operand)(ho:o.op=.store 26 x y)(b:Nat)(hx:a.eval x=V (some ⟨b,0,none⟩))(f:Nat->Int)(g:Nat->Bool)(hy:a.eval y=.agg (pc f g))(old:Array Value)(h:PRow w b old)(hs:old.size=21)(hr:∀w',PRow w' b (pc f g)->w'.heap.size=w.heap.size->(∀r cs,r≠b->PRow w r cs->PRow w' r cs)->(∀B w0,B<=b->Below B w0 w->Below B w0 w')->wpList prog ops Q rest (a.put o.dst undef) w'):wpList prog ops Q (o::rest) a w:=
 wpList_plain hgd fun K hK=>by
  have hst:=run_storeVar_row (P:=prog) w b 26 26 old (pc f g) h (qfg f g) (by rw[hs,qf1]) (qoq f g)
  unfold Oper.wp execOp
  simp only[ho,hx,hy,Instr.storeAt,Instr.sureAddr,Sem.run_bind,Sem.run_pure,Result.andThen_ok,hst]
  exact hK _ _ (hr _ (setRow_heap w b old _ _ _ h) zm (fun r cs hne hr'=>(setRow_other w b r _ hne).trans hr') (fun B w0 hB hb=>below_setRow hb hB _))
theorem qbw{p:Tmp}(hf:fn.results=#[.cell p 26,.tmp t])(tmps:Array Value)(w:World)(b:Nat)(f:Nat->Int)(g:Nat->Bool)(hp:tmps.getD p undef=V (some ⟨b,0,none⟩))(h:PRow w b (pc f g)):
  (results fn tmps).run prog w=.ok (.tuple #[plv f g,tmps.getD t undef]) w:=by
 refine m4j ?_;intro hp' hl
 simp[results,hf,hp',asAddr,hl,plv]
theorem qc6{p u:Tmp}(hf:fn.results=#[.cell p 26,.tmp t,.tmp u])(tmps:Array Value)(w:World)(b:Nat)(f:Nat->Int)(g:Nat->Bool)(hp:tmps.getD p undef=V (some ⟨b,0,none⟩))(h:PRow w b (pc f g)):
  (results fn tmps).run prog w=.ok (.tuple #[plv f g,tmps.getD t undef,tmps.getD u undef]) w:=by
 refine m4j ?_;intro hp' hl
 simp[results,hf,hp',asAddr,hl,plv]
def qcp(f:Nat->Int)(g:Nat->Bool)(n:Nat):List Nat:=(List.range n).filter fun a=>!g a&&decide (0<(qbo (rowF f a)).length)
def qi5(f:Nat->Int)(g:Nat->Bool):List Nat:=qcp f g 3
theorem qeu(f:Nat->Int)(g:Nat->Bool)(n:Nat):qcp f g (n+1)=qcp f g n++if (!g n&&decide (0<(qbo (rowF f n)).length))=true then [n] else []:=by
 unfold qcp;rw[List.range_succ,List.filter_append];simp only[List.filter];split<;>simp_all
theorem qkn(f:Nat->Int)(g:Nat->Bool)(n:Nat):(qcp f g n).length<=n:=by
 have:=List.length_filter_le (fun a=>!g a&&decide (0<(qbo (rowF f a)).length)) (List.range n);simpa[qcp] using this
theorem qhgb(f:Nat->Int)(g:Nat->Bool)(a:Nat)(h:a∈qi5 f g):a<3/\g a=false/\0<(qbo (rowF f a)).length:=by
 simpa[qi5,qcp] using h
theorem Ints.low{b2:Nat}(h:Ints w base v l)(hb:b2<=base):Ints w b2 v l:=by
 refine⟨h.1,?_⟩
 rcases h.2 with e|⟨b,cap,cur,hv,hbb,r⟩
 ·exact .inl e
 ·exact .inr ⟨b,cap,cur,hv,by omega,r⟩
theorem sZbp12(h:p:=by
 go_roundw
 case rel=>
  first
   | exact⟨1,ao,cv,by omega,rfl,by rw[HS.out],by rw[HS.out];exact hown,T0,hB⟩| ((repeat apply Exists.intro);exact⟨⟨1,ao,cv,by omega,rfl,by rw[HS.out],by rw[HS.out];exact hown,T0,hB⟩,rfl⟩)| ((repeat apply Exists.intro);exact⟨⟨1,ao,cv,by omega,rfl,by rw[HS.out],by rw[HS.out];exact hown,T0,hB⟩,rfl,rfl⟩)| ((repeat apply Exists.intro);exact⟨⟨1,ao,cv,by omega,rfl,by rw[HS.out],by rw[HS.out];exact hown,T0,hB⟩,rfl,rfl,rfl⟩)
 case measure=>simp[intOf]):p:=h
theorem sZbp13(h:p:=by
 go_roundw
 case rel=>
  first
   | exact⟨2,ao,cv,by omega,rfl,by rw[HS.out],by rw[HS.out];exact hown,T0,hB⟩| ((repeat apply Exists.intro);exact⟨⟨2,ao,cv,by omega,rfl,by rw[HS.out],by rw[HS.out];exact hown,T0,hB⟩,rfl⟩)| ((repeat apply Exists.intro);exact⟨⟨2,ao,cv,by omega,rfl,by rw[HS.out],by rw[HS.out];exact hown,T0,hB⟩,rfl,rfl⟩)| ((repeat apply Exists.intro);exact⟨⟨2,ao,cv,by omega,rfl,by rw[HS.out],by rw[HS.out];exact hown,T0,hB⟩,rfl,rfl,rfl⟩)
 case measure=>simp[intOf]):p:=h
theorem sZbp14(h:p:=by
 go_roundw
 case rel=>
  first
   | exact⟨3,ao,cv,by omega,rfl,by rw[HS.out],by rw[HS.out];exact hown,T0,hB⟩| ((repeat apply Exists.intro);exact⟨⟨3,ao,cv,by omega,rfl,by rw[HS.out],by rw[HS.out];exact hown,T0,hB⟩,rfl⟩)| ((repeat apply Exists.intro);exact⟨⟨3,ao,cv,by omega,rfl,by rw[HS.out],by rw[HS.out];exact hown,T0,hB⟩,rfl,rfl⟩)| ((repeat apply Exists.intro);exact⟨⟨3,ao,cv,by omega,rfl,by rw[HS.out],by rw[HS.out];exact hown,T0,hB⟩,rfl,rfl,rfl⟩)
 case measure=>simp[intOf]):p:=h
theorem sZbp16(h:p:=by
 go_roundw
 case rel=>
  have hi':Ints w3 (w.heap.size+1) v' (qcp f g 1):=by
   exact sZbp110
  obtain⟨a3,c3,e3⟩:=hi'.len;have hb4:=Ints.grown (l:=qcp f g 0) (hown.alloc _) ((Below.refl _ _).alloc om _) (by simp;omega) hgrow3;have hT:=T0.keep hb4 om;have hb3:=hB.trans (hb4.mono om)
  first
   | exact⟨1,a3,c3,by omega,rfl,e3,hi',hT,hb3⟩| ((repeat apply Exists.intro);exact⟨⟨1,a3,c3,by omega,rfl,e3,hi',hT,hb3⟩,rfl⟩)| ((repeat apply Exists.intro);exact⟨⟨1,a3,c3,by omega,rfl,e3,hi',hT,hb3⟩,rfl,rfl⟩)| ((repeat apply Exists.intro);exact⟨⟨1,a3,c3,by omega,rfl,e3,hi',hT,hb3⟩,rfl,rfl,rfl⟩)
 case measure=>simp[intOf]):p:=h
theorem sZbp17(h:p:=by
 go_roundw
 case rel=>
  have hi':Ints w3 (w.heap.size+1) v' (qcp f g 2):=by
   exact sZbp110
  obtain⟨a3,c3,e3⟩:=hi'.len;have hb4:=Ints.grown (l:=qcp f g 1) (hown.alloc _) ((Below.refl _ _).alloc om _) (by simp;omega) hgrow3;have hT:=T0.keep hb4 om;have hb3:=hB.trans (hb4.mono om)
  first
   | exact⟨2,a3,c3,by omega,rfl,e3,hi',hT,hb3⟩| ((repeat apply Exists.intro);exact⟨⟨2,a3,c3,by omega,rfl,e3,hi',hT,hb3⟩,rfl⟩)| ((repeat apply Exists.intro);exact⟨⟨2,a3,c3,by omega,rfl,e3,hi',hT,hb3⟩,rfl,rfl⟩)| ((repeat apply Exists.intro);exact⟨⟨2,a3,c3,by omega,rfl,e3,hi',hT,hb3⟩,rfl,rfl,rfl⟩)
 case measure=>simp[intOf]):p:=h
theorem sZbp18(h:p:=by
 go_roundw
 case rel=>
  have hi':Ints w3 (w.heap.size+1) v' (qcp f g 3):=by
   exact sZbp110
  obtain⟨a3,c3,e3⟩:=hi'.len;have hb4:=Ints.grown (l:=qcp f g 2) (hown.alloc _) ((Below.refl _ _).alloc om _) (by simp;omega) hgrow3;have hT:=T0.keep hb4 om;have hb3:=hB.trans (hb4.mono om)
  first
   | exact⟨3,a3,c3,by omega,rfl,e3,hi',hT,hb3⟩| ((repeat apply Exists.intro);exact⟨⟨3,a3,c3,by omega,rfl,e3,hi',hT,hb3⟩,rfl⟩)| ((repeat apply Exists.intro);exact⟨⟨3,a3,c3,by omega,rfl,e3,hi',hT,hb3⟩,rfl,rfl⟩)| ((repeat apply Exists.intro);exact⟨⟨3,a3,c3,by omega,rfl,e3,hi',hT,hb3⟩,rfl,rfl,rfl⟩)
 case measure=>simp[intOf]):p:=h
theorem sZbp115(h:p:=by
 go_wp2_with (first|(refine qat _ rfl ?_ _ rfl f g T0 ?_;· rfl)|(go_at_call 64;go_fit (C0 _);rintro e w' ⟨rfl,hb⟩;refine m0n ?_;clear hb T0;intro hb hown T0 hB hsize hlt;replace d0:=T0.dr 0 om;rw[hg] at d0))
 exact sZbp12):p:=h
theorem sZbp116(h:p:=by
 go_wp2_with (first|(refine qat _ rfl ?_ _ rfl f g T0 ?_;· rfl)|(go_at_call 64;go_fit (C1 _);rintro e w' ⟨rfl,hb⟩;refine m0n ?_;clear hb T0;intro hb hown T0 hB hsize hlt;replace d0:=T0.dr 1 om;rw[hg] at d0))
 exact sZbp13):p:=h
theorem sZbp117(h:p:=by
 go_wp2_with (first|(refine qat _ rfl ?_ _ rfl f g T0 ?_;· rfl)|(go_at_call 64;go_fit (C2 _);rintro e w' ⟨rfl,hb⟩;refine m0n ?_;clear hb T0;intro hb hown T0 hB hsize hlt;replace d0:=T0.dr 2 om;rw[hg] at d0))
 exact sZbp14):p:=h
theorem qv5(f:Nat->Int)(g:Nat->Bool)(w:World):
  Calls prog 63 #[plv f g] w fun e w'=>∃v,e=.returned v/\(∃a c,v=.slice a (qi5 f g).length c)/\Ints w' w.heap.size v (qi5 f g)/\Below w.heap.size w w':=by
 obtain⟨i0,hi,hz0,hz1,hz2⟩:=info_parts qvk;refine m28 ?_;intro hB T0;(have C0:=fun w=>qqh f g 0 w);(have C1:=fun w=>qqh f g 1 w);(have C2:=fun w=>qqh f g 2 w);have L0:Hid (qe8 f 0=((qbo (rowF f 0)).length:Int)):=qne f 0 om;have L1:Hid (qe8 f 1=((qbo (rowF f 1)).length:Int)):=qne f 1 om;have L2:Hid (qe8 f 2=((qbo (rowF f 2)).length:Int)):=qne f 2 om
 unfold plv at *
 go_enter func63,ntmps63
 go_wp2
 go_loopw [3,5] (fun v i wr=>∃(k:Nat) (ao:Option Addr) (cv:Nat),k<=3/\i=I Z k/\v=.slice ao (qcp f g k).length cv/\Ints wr (w.heap.size+1) v (qcp f g k)/\PRow wr w.heap.size (pc f g)/\Below w.heap.size w wr) (fun _ i _=>3-(intOf i).toNat)
 case atStart=>exact⟨0,none,0,by omega,rfl,rfl,Ints.nil _ _,T0,hB⟩
 case round=>
  clear T0 hB
  obtain⟨k,ao,cv,hk,rfl,rfl,hown,T0,hB⟩:=hrel
  have hsize:=hB.size;have hlt:=T0.lt
  rcases(show k=0\/k=1\/k=2\/k=3 by omega) with rfl|rfl|rfl|rfl
  ·have hol:=qkn f g 0;have d0:=T0.dr 0 om
   by_cases hz:0<(qbo (rowF f 0)).length
   ·cases hg:g 0 with
    | true=>
     (have HS:Hid (qcp f g 1=qcp f g 0):=by show _=_;rw[qeu,if_neg (by simp[hg])];simp);(have hx:0<qe8 f 0:=by rw[L0.out];omega);clear hz
     rw[hg] at d0
     exact sZbp115
    | false=>
     (have HS:Hid (qcp f g 1=qcp f g 0++[0]):=by show _=_;rw[qeu,if_pos (by simp[hg,hz])]);(have hx:0<qe8 f 0:=by rw[L0.out];omega);clear hz
     rw[hg] at d0
     go_wp2_with (first|(refine qat _ rfl ?_ _ rfl f g T0 ?_;· rfl)|(go_at_call 64;go_fit (C0 _);rintro e w' ⟨rfl,hb⟩;refine m0n ?_;clear hb hown T0 hB hsize hlt;intro hb hown T0 hB hsize hlt;replace d0:=T0.dr 0 om;rw[hg] at d0)|(at_builtin;refine wpList_append_own _ rfl _ _ 96 rfl (w.heap.size+1) 3 i0 (I Z 0) 1 8 underlying96 hi hz0 hz1 hz2 rfl (by decide) _ _ _ rfl (hown.alloc _) _ 1 1 [I Z 0] rfl rfl (qpe _ _ _) (fun x hx=>by simp at hx;subst hx;rfl) (by unfold maxLen;omega) om (by simp;omega) ?_;intro v' w3 hown' hgrow3 hnil3))
     exact sZbp16
   ·(have HS:Hid (qcp f g 1=qcp f g 0):=by show _=_;rw[qeu,if_neg (by rw[Bool.and_eq_true];rintro⟨_,h⟩;exact hz (of_decide_eq_true h))];simp);(have hx:qe8 f 0=0:=by rw[L0.out];omega);clear hz
    cases hg:g 0 <;>
    ·rw[hg] at d0
     exact sZbp115
  ·have hol:=qkn f g 1;have d0:=T0.dr 1 om
   by_cases hz:0<(qbo (rowF f 1)).length
   ·cases hg:g 1 with
    | true=>
     (have HS:Hid (qcp f g 2=qcp f g 1):=by show _=_;rw[qeu,if_neg (by simp[hg])];simp);(have hx:0<qe8 f 1:=by rw[L1.out];omega);clear hz
     rw[hg] at d0
     exact sZbp116
    | false=>
     (have HS:Hid (qcp f g 2=qcp f g 1++[1]):=by show _=_;rw[qeu,if_pos (by simp[hg,hz])]);(have hx:0<qe8 f 1:=by rw[L1.out];omega);clear hz
     rw[hg] at d0
     go_wp2_with (first|(refine qat _ rfl ?_ _ rfl f g T0 ?_;· rfl)|(go_at_call 64;go_fit (C1 _);rintro e w' ⟨rfl,hb⟩;refine m0n ?_;clear hb hown T0 hB hsize hlt;intro hb hown T0 hB hsize hlt;replace d0:=T0.dr 1 om;rw[hg] at d0)|(at_builtin;refine wpList_append_own _ rfl _ _ 96 rfl (w.heap.size+1) 3 i0 (I Z 0) 1 8 underlying96 hi hz0 hz1 hz2 rfl (by decide) _ _ _ rfl (hown.alloc _) _ 1 1 [I Z 1] rfl rfl (qpe _ _ _) (fun x hx=>by simp at hx;subst hx;rfl) (by unfold maxLen;omega) om (by simp;omega) ?_;intro v' w3 hown' hgrow3 hnil3))
     exact sZbp17
   ·(have HS:Hid (qcp f g 2=qcp f g 1):=by show _=_;rw[qeu,if_neg (by rw[Bool.and_eq_true];rintro⟨_,h⟩;exact hz (of_decide_eq_true h))];simp);(have hx:qe8 f 1=0:=by rw[L1.out];omega);clear hz
    cases hg:g 1 <;>
    ·rw[hg] at d0
     exact sZbp116
  ·have hol:=qkn f g 2;have d0:=T0.dr 2 om
   by_cases hz:0<(qbo (rowF f 2)).length
   ·cases hg:g 2 with
    | true=>
     (have HS:Hid (qcp f g 3=qcp f g 2):=by show _=_;rw[qeu,if_neg (by simp[hg])];simp);(have hx:0<qe8 f 2:=by rw[L2.out];omega);clear hz
     rw[hg] at d0
     exact sZbp117
    | false=>
     (have HS:Hid (qcp f g 3=qcp f g 2++[2]):=by show _=_;rw[qeu,if_pos (by simp[hg,hz])]);(have hx:0<qe8 f 2:=by rw[L2.out];omega);clear hz
     rw[hg] at d0
     go_wp2_with (first|(refine qat _ rfl ?_ _ rfl f g T0 ?_;· rfl)|(go_at_call 64;go_fit (C2 _);rintro e w' ⟨rfl,hb⟩;refine m0n ?_;clear hb hown T0 hB hsize hlt;intro hb hown T0 hB hsize hlt;replace d0:=T0.dr 2 om;rw[hg] at d0)|(at_builtin;refine wpList_append_own _ rfl _ _ 96 rfl (w.heap.size+1) 3 i0 (I Z 0) 1 8 underlying96 hi hz0 hz1 hz2 rfl (by decide) _ _ _ rfl (hown.alloc _) _ 1 1 [I Z 2] rfl rfl (qpe _ _ _) (fun x hx=>by simp at hx;subst hx;rfl) (by unfold maxLen;omega) om (by simp;omega) ?_;intro v' w3 hown' hgrow3 hnil3))
     exact sZbp18
   ·(have HS:Hid (qcp f g 3=qcp f g 2):=by show _=_;rw[qeu,if_neg (by rw[Bool.and_eq_true];rintro⟨_,h⟩;exact hz (of_decide_eq_true h))];simp);(have hx:qe8 f 2=0:=by rw[L2.out];omega);clear hz
    cases hg:g 2 <;>
    ·rw[hg] at d0
     exact sZbp117
  ·go_wp2
   go_ret
   exact⟨_,rfl,⟨_,_,rfl⟩,Ints.low hown om,hB⟩
theorem qlyb(f:Nat->Int)(g:Nat->Bool)(w:World):
  Calls prog 37 #[plv f g] w fun e w'=>e=.returned (.bool (qcv f))/\Below w.heap.size w w':=by
 refine m04 ?_;intro x0 x1 x2 hB
 unfold plv pc
 go_enter func37,ntmps37
 go_wp2
 go_loopw [9] (fun i W=>∃k:Nat,k<=3/\i=I Z k/\qgl f (6*k)/\Below w.heap.size w W) (fun i _=>3-(intOf i).toNat)
 case atStart=>exact⟨0,by omega,rfl,qxn f,hB⟩
 case round=>
  exact sZbp11
def qk1(f:Nat->Int)(g:Nat->Bool):Int:=if qcv f=true then(if (qi5 f g).length=0 then 10 else 0) else 2
def qkr(f:Nat->Int)(g:Nat->Bool)(d:Int):Int:=if qcv f=true then(if (qi5 f g).length=0 then 0 else((qep (qi5 f g) d:Nat):Int)) else 0
theorem q3d(f:Nat->Int)(g:Nat->Bool):(qi5 f g).length<=3:=qkn f g 3
theorem sZbp121(h:p:=by
 go_ret2
 exact⟨by rw[H1.out,H2.out];rfl,hB⟩):p:=h
theorem q6b(f:Nat->Int)(g:Nat->Bool)(d:Int)(hd:(Lit.int .i64 d).wf=true)(w:World):
  Calls prog 60 #[plv f g,.int .i64 d] w fun e w'=>e=.returned (.tuple #[.int .i64 (qkr f g d),.int .i64 (qk1 f g)])/\Below w.heap.size w w':=by
 refine m28 ?_;intro hB T0;(have CG:=fun w=>qni f g w);(have CL:=fun w=>qv5 f g w);have hl:=q3d f g
 unfold plv at *
 cases hg:qcv f with
 | false=>
  (have H1:Hid (qkr f g d=0):=by show _=_;unfold qkr;rw[if_neg (by simp[hg])]);(have H2:Hid (qk1 f g=2):=by show _=_;unfold qk1;rw[if_neg (by simp[hg])])
  rw[hg] at CG
  go_enter func60,ntmps60
  go_wp2_with (first|(refine qat _ rfl ?_ _ rfl f g T0 ?_;· rfl)|(go_at_call 32;refine m2j ?_;clear T0 hB;intro w' hb T0 hB))
  exact sZbp121
 | true=>
  rw[hg] at CG
  by_cases hz:(qi5 f g).length=0
  ·(have H1:Hid (qkr f g d=0):=by show _=_;unfold qkr;rw[if_pos hg,if_pos hz]);(have H2:Hid (qk1 f g=10):=by show _=_;unfold qk1;rw[if_pos hg,if_pos hz]);(have hz':((qi5 f g).length:Int)=0:=by omega);clear hz
   go_enter func60,ntmps60
   go_wp2_with (first|(refine qat _ rfl ?_ _ rfl f g T0 ?_;· rfl)|(go_at_call 32;refine m2j ?_;clear T0 hB;intro w' hb T0 hB)|(go_at_call 63;go_fit (CL _);rintro e w' ⟨v,rfl,⟨a1,c1,rfl⟩,hI,hb⟩;(try replace hb:=qa1 hb);replace T0:=T0.below hb;replace hB:=hB.trans (hb.mono hB.size)))
   exact sZbp121
  ·(have H1:Hid (qkr f g d=((qep (qi5 f g) d:Nat):Int)):=by show _=_;unfold qkr;rw[if_pos hg,if_neg hz]);(have H2:Hid (qk1 f g=0):=by show _=_;unfold qk1;rw[if_pos hg,if_neg hz]);(have hz':(((qi5 f g).length:Int)==0)=false:=by simp;intro h;exact hz (by rw[h];rfl));(have hpos:0<(qi5 f g).length:=by omega);clear hz
   go_enter func60,ntmps60
   go_wp2_with (first|(refine qat _ rfl ?_ _ rfl f g T0 ?_;· rfl)|(go_at_call 32;refine m2j ?_;clear T0 hB;intro w' hb T0 hB)|(go_at_call 63;go_fit (CL _);rintro e w' ⟨v,rfl,⟨a1,c1,rfl⟩,hI,hb⟩;(try replace hb:=qa1 hb);replace T0:=T0.below hb;replace hB:=hB.trans (hb.mono hB.size))|(go_at_call 62;refine(qmf _ _ _ d _ hI hpos hd om).mono ?_;rintro e w' ⟨rfl,rfl⟩))
   exact sZbp121
theorem sZbp112(h:p:=by
 go_wp2_with (first|(refine qat _ rfl ?_ _ rfl f g T0 ?_;· rfl)|(go_at_call 55;go_fit (C0 _);rintro e w' ⟨v,rfl,⟨a1,c1,rfl⟩,_,hb⟩;refine m0n ?_;clear hb T0;intro hb hown T0 hB hsize hlt;replace d0:=T0.dr 0 om;rw[hg] at d0))
 exact sZbp12):p:=h
theorem sZbp113(h:p:=by
 go_wp2_with (first|(refine qat _ rfl ?_ _ rfl f g T0 ?_;· rfl)|(go_at_call 55;go_fit (C1 _);rintro e w' ⟨v,rfl,⟨a1,c1,rfl⟩,_,hb⟩;refine m0n ?_;clear hb T0;intro hb hown T0 hB hsize hlt;replace d0:=T0.dr 1 om;rw[hg] at d0))
 exact sZbp13):p:=h
theorem sZbp114(h:p:=by
 go_wp2_with (first|(refine qat _ rfl ?_ _ rfl f g T0 ?_;· rfl)|(go_at_call 55;go_fit (C2 _);rintro e w' ⟨v,rfl,⟨a1,c1,rfl⟩,_,hb⟩;refine m0n ?_;clear hb T0;intro hb hown T0 hB hsize hlt;replace d0:=T0.dr 2 om;rw[hg] at d0))
 exact sZbp14):p:=h
theorem qpdb(f:Nat->Int)(g:Nat->Bool)(d:Int)(hd:(Lit.int .i64 d).wf=true)(w:World):
  Calls prog 45 #[plv f g,.int .i64 d] w fun e w'=>e=.returned (.tuple #[.int .i64 (qkr f g d),.int .i64 (qk1 f g)])/\Below w.heap.size w w':=by
 obtain⟨i0,hi,hz0,hz1,hz2⟩:=info_parts qvk;refine m28 ?_;intro hB T0;(have CG:=fun w=>qlyb f g w);(have C0:=fun w=>qksb f g 0 om w);(have C1:=fun w=>qksb f g 1 om w);(have C2:=fun w=>qksb f g 2 om w);have hl:=q3d f g
 unfold plv at *
 cases hgp:qcv f with
 | false=>
  (have H1:Hid (qkr f g d=0):=by show _=_;unfold qkr;rw[if_neg (by simp[hgp])]);(have H2:Hid (qk1 f g=2):=by show _=_;unfold qk1;rw[if_neg (by simp[hgp])])
  rw[hgp] at CG
  go_enter func45,ntmps45
  go_wp2_with (first|(refine qat _ rfl ?_ _ rfl f g T0 ?_;· rfl)|(go_at_call 37;refine m2j ?_;clear T0 hB;intro w' hb T0 hB))
  exact sZbp121
 | true=>
  rw[hgp] at CG
  have HGP:Hid (qcv f=true):=hgp;clear hgp
  go_enter func45,ntmps45
  go_wp2_with (first|(refine qat _ rfl ?_ _ rfl f g T0 ?_;· rfl)|(go_at_call 37;refine m2j ?_;clear T0 hB;intro w' hb T0 hB))
  go_loopw [6,11] (fun v i wr=>∃(k:Nat) (ao:Option Addr) (cv:Nat),k<=3/\i=.int .i64 k/\v=.slice ao (qcp f g k).length cv/\Ints wr (w.heap.size+1) v (qcp f g k)/\PRow wr w.heap.size (pc f g)/\Below w.heap.size w wr) (fun _ i _=>3-(intOf i).toNat)
  case atStart=>exact⟨0,none,0,by omega,rfl,rfl,Ints.nil _ _,T0,hB⟩
  case round=>
   clear T0 hB
   obtain⟨k,ao,cv,hk,rfl,rfl,hown,T0,hB⟩:=hrel
   have hsize:=hB.size;have hlt:=T0.lt
   rcases(show k=0\/k=1\/k=2\/k=3 by omega) with rfl|rfl|rfl|rfl
   ·have hol:=qkn f g 0;have d0:=T0.dr 0 om
    by_cases hz:0<(qbo (rowF f 0)).length
    ·cases hg:g 0 with
     | true=>
      (have HS:Hid (qcp f g 1=qcp f g 0):=by show _=_;rw[qeu,if_neg (by simp[hg])];simp);(have hx:(0:Int)<((qbo (rowF f 0)).length:Int):=by omega);clear hz
      rw[hg] at d0
      exact sZbp112
     | false=>
      (have HS:Hid (qcp f g 1=qcp f g 0++[0]):=by show _=_;rw[qeu,if_pos (by simp[hg,hz])]);(have hx:(0:Int)<((qbo (rowF f 0)).length:Int):=by omega);clear hz
      rw[hg] at d0
      go_wp2_with (first|(refine qat _ rfl ?_ _ rfl f g T0 ?_;· rfl)|(go_at_call 55;go_fit (C0 _);rintro e w' ⟨v,rfl,⟨a1,c1,rfl⟩,_,hb⟩;refine m0n ?_;clear hb hown T0 hB hsize hlt;intro hb hown T0 hB hsize hlt;replace d0:=T0.dr 0 om;rw[hg] at d0)|(at_builtin;refine wpList_append_own _ rfl _ _ 96 rfl (w.heap.size+1) 3 i0 (.int .i64 0) 1 8 underlying96 hi hz0 hz1 hz2 rfl (by decide) _ _ _ rfl (hown.alloc _) _ 1 1 [.int .i64 0] rfl rfl (qpe _ _ _) (fun x hx=>by simp at hx;subst hx;rfl) (by unfold maxLen;omega) om (by simp;omega) ?_;intro v' w3 hown' hgrow3 hnil3))
      exact sZbp16
    ·(have HS:Hid (qcp f g 1=qcp f g 0):=by show _=_;rw[qeu,if_neg (by rw[Bool.and_eq_true];rintro⟨_,h⟩;exact hz (of_decide_eq_true h))];simp);(have hx:((qbo (rowF f 0)).length:Int)=0:=by omega);clear hz
     cases hg:g 0 <;>
     ·rw[hg] at d0
      exact sZbp112
   ·have hol:=qkn f g 1;have d0:=T0.dr 1 om
    by_cases hz:0<(qbo (rowF f 1)).length
    ·cases hg:g 1 with
     | true=>
      (have HS:Hid (qcp f g 2=qcp f g 1):=by show _=_;rw[qeu,if_neg (by simp[hg])];simp);(have hx:(0:Int)<((qbo (rowF f 1)).length:Int):=by omega);clear hz
      rw[hg] at d0
      exact sZbp113
     | false=>
      (have HS:Hid (qcp f g 2=qcp f g 1++[1]):=by show _=_;rw[qeu,if_pos (by simp[hg,hz])]);(have hx:(0:Int)<((qbo (rowF f 1)).length:Int):=by omega);clear hz
      rw[hg] at d0
      go_wp2_with (first|(refine qat _ rfl ?_ _ rfl f g T0 ?_;· rfl)|(go_at_call 55;go_fit (C1 _);rintro e w' ⟨v,rfl,⟨a1,c1,rfl⟩,_,hb⟩;refine m0n ?_;clear hb hown T0 hB hsize hlt;intro hb hown T0 hB hsize hlt;replace d0:=T0.dr 1 om;rw[hg] at d0)|(at_builtin;refine wpList_append_own _ rfl _ _ 96 rfl (w.heap.size+1) 3 i0 (.int .i64 0) 1 8 underlying96 hi hz0 hz1 hz2 rfl (by decide) _ _ _ rfl (hown.alloc _) _ 1 1 [.int .i64 1] rfl rfl (qpe _ _ _) (fun x hx=>by simp at hx;subst hx;rfl) (by unfold maxLen;omega) om (by simp;omega) ?_;intro v' w3 hown' hgrow3 hnil3))
      exact sZbp17
    ·(have HS:Hid (qcp f g 2=qcp f g 1):=by show _=_;rw[qeu,if_neg (by rw[Bool.and_eq_true];rintro⟨_,h⟩;exact hz (of_decide_eq_true h))];simp);(have hx:((qbo (rowF f 1)).length:Int)=0:=by omega);clear hz
     cases hg:g 1 <;>
     ·rw[hg] at d0
      exact sZbp113
   ·have hol:=qkn f g 2;have d0:=T0.dr 2 om
    by_cases hz:0<(qbo (rowF f 2)).length
    ·cases hg:g 2 with
     | true=>
      (have HS:Hid (qcp f g 3=qcp f g 2):=by show _=_;rw[qeu,if_neg (by simp[hg])];simp);(have hx:(0:Int)<((qbo (rowF f 2)).length:Int):=by omega);clear hz
      rw[hg] at d0
      exact sZbp114
     | false=>
      (have HS:Hid (qcp f g 3=qcp f g 2++[2]):=by show _=_;rw[qeu,if_pos (by simp[hg,hz])]);(have hx:(0:Int)<((qbo (rowF f 2)).length:Int):=by omega);clear hz
      rw[hg] at d0
      go_wp2_with (first|(refine qat _ rfl ?_ _ rfl f g T0 ?_;· rfl)|(go_at_call 55;go_fit (C2 _);rintro e w' ⟨v,rfl,⟨a1,c1,rfl⟩,_,hb⟩;refine m0n ?_;clear hb hown T0 hB hsize hlt;intro hb hown T0 hB hsize hlt;replace d0:=T0.dr 2 om;rw[hg] at d0)|(at_builtin;refine wpList_append_own _ rfl _ _ 96 rfl (w.heap.size+1) 3 i0 (.int .i64 0) 1 8 underlying96 hi hz0 hz1 hz2 rfl (by decide) _ _ _ rfl (hown.alloc _) _ 1 1 [.int .i64 2] rfl rfl (qpe _ _ _) (fun x hx=>by simp at hx;subst hx;rfl) (by unfold maxLen;omega) om (by simp;omega) ?_;intro v' w3 hown' hgrow3 hnil3))
      exact sZbp18
    ·(have HS:Hid (qcp f g 3=qcp f g 2):=by show _=_;rw[qeu,if_neg (by rw[Bool.and_eq_true];rintro⟨_,h⟩;exact hz (of_decide_eq_true h))];simp);(have hx:((qbo (rowF f 2)).length:Int)=0:=by omega);clear hz
     cases hg:g 2 <;>
     ·rw[hg] at d0
      exact sZbp114
   ·by_cases hz:(qi5 f g).length=0
    ·(have H1:Hid (qkr f g d=0):=by show _=_;unfold qkr;rw[if_pos HGP.out,if_pos hz]);(have H2:Hid (qk1 f g=10):=by show _=_;unfold qk1;rw[if_pos HGP.out,if_pos hz]);(have hz':((qcp f g 3).length:Int)=0:=by unfold qi5 at hz;omega);clear hz
     go_wp2
     exact sZbp121
    ·(have H1:Hid (qkr f g d=((qep (qi5 f g) d:Nat):Int)):=by show _=_;unfold qkr;rw[if_pos HGP.out,if_neg hz]);(have H2:Hid (qk1 f g=0):=by show _=_;unfold qk1;rw[if_pos HGP.out,if_neg hz]);(have hpos:0<(qcp f g 3).length:=by unfold qi5 at hz;omega);(have hz':(((qcp f g 3).length:Int)==0)=false:=by simp;intro h;rw[h] at hpos;simp at hpos);clear hz;obtain⟨b1,cap1,e1,hc⟩:=hown.at hpos;(have e2:ao=some ⟨b1,0,none⟩:=by injection e1)
     subst e2
     obtain⟨q0,q1⟩:=q7c d (qcp f g 3).length hpos;(have hq:(d%((qcp f g 3).length:Int)).toNat<(qcp f g 3).length:=by omega);have hcell:=hc _ hq
     have HD:Hid (qep (qi5 f g) d=(qcp f g 3)[(d%((qcp f g 3).length:Int)).toNat]):=by
      show qep (qcp f g 3) d=_
      exact sZbp125
     generalize(qcp f g 3)[(d % ((qcp f g 3).length:Int)).toNat]=x at *
     (have CC:=fun w=>qlhb d (qcp f g 3).length w hpos (by have:=q3d f g;unfold qi5 at this;omega));clear hc
     go_wp2_with (go_at_call 56;go_fit (CC _);rintro e w' ⟨rfl,rfl⟩)
     go_ret2
     exact⟨by rw[H1.out,H2.out,HD.out];rfl,hB⟩
end Go.Proofs.Ytbboabfmoahipaa
