/-
  Of what a law stands on.
-/
import Derived.Test.YtonnjgmognbnbaaGreatDoorRows
import Derived.WalkKit
import Derived.ProofKit
import Derived.OpenShut
import Derived.Below
import Derived.Laws.AppendOwn
import Derived.Deep.DeepFit
import Derived.Deep.DeepCutAuto
import Derived.Deep.MidRow
import Derived.Laws.CopyOwn
import Derived.DeepKeys
import Derived.SizedLaws
import Derived.Deep.RegionHeld3
import Derived.Test.YtonnjgmognbnbaaGreatDoorZtm
set_option linter.unusedSimpArgs false
set_option linter.unusedVariables false
namespace Go.Proofs.YtonnjgmognbnbaaGreatDoor
open Go.Value renaming int → I,pointer → V
open Go.IntKind renaming i64 → Z
open _root_.Go.Proofs.Tryz Go.ChangeShapes Go.WideShapes Go.ChangeAt Go.RowKit
set_option maxHeartbeats 16000000
set_option maxRecDepth 100000
variable {f:Nat->Int}{a d e k n s:Int}{w w':World}{b base:Nat}{v:Value}{l:List Nat}{p:Prop}{cs:Array Value}{g:Nat->Bool}{o:Oper}{ops:Array Oper}{rest:List Oper}{Q:Exit->Act->World->Prop}{fn:Func}{t:Tmp}
def pc(f:Nat->Int)(g:Nat->Bool):Array Value:=#[I Z (f 0),I Z (f 1),I Z (f 2),I Z (f 3),I Z (f 4),I Z (f 5),I Z (f 6),I Z (f 7),I Z (f 8),I Z (f 9),I Z (f 10),I Z (f 11),I Z (f 12),I Z (f 13),I Z (f 14),I Z (f 15),I Z (f 16),I Z (f 17),.bool (g 0),.bool (g 1),.bool (g 2)]
def plv(f:Nat->Int)(g:Nat->Bool):Value:=.agg (pc f g)
def qgl(f:Nat->Int)(n:Nat):Prop:=∀i,i<n->0<=f i/\f i<=8
def qcv(f:Nat->Int):Bool:=(List.range 18).all fun i=>decide (0<=f i)&&decide (f i<=8)
theorem qxn(f:Nat->Int):qgl f 0:=fun i h=>absurd h (Nat.not_lt_zero i)
theorem qmj{n:Nat}(h:qgl f n)(h0:0<=f n)(h8:f n<=8):qgl f (n+1):=fun i hi=>by
 by_cases e:i=n
 ·subst e;exact⟨h0,h8⟩
 ·exact h i om
theorem qnj(h:qgl f 18):qcv f=true:=by
 unfold qcv
 rw[List.all_eq_true];intro i hi
 have:=h i (List.mem_range.1 hi)
 simp[this.1,this.2]
theorem qid(i:Nat)(hi:i<18)(h:f i<0\/8<f i):qcv f=false:=by
 unfold qcv
 rw[List.all_eq_false]
 exact⟨i,List.mem_range.2 hi,by simp;omega⟩
theorem qki(h:qcv f=true):qgl f 18:=by
 intro i hi
 unfold qcv at h
 have:=List.all_eq_true.1 h i (List.mem_range.2 hi)
 simpa using this
def qfl(h:Nat->Int)(n:Nat):List Nat:=(List.range n).filter fun k=>h k==0
def qbo(h:Nat->Int):List Nat:=qfl h 6
theorem qp2(h:Nat->Int)(n:Nat):qfl h (n+1)=qfl h n++if h n==0 then [n] else []:=by
 unfold qfl;rw[List.range_succ,List.filter_append];simp[List.filter];split<;>simp_all
theorem qks(h:Nat->Int)(n:Nat):(qfl h n).length<=n:=by
 have:=List.length_filter_le (fun k=>h k==0) (List.range n);simpa[qfl] using this
theorem qj8(h:Nat->Int)(k:Nat)(hk:k∈qbo h):k<6/\h k=0:=by
 simpa[qbo,qfl] using hk
def ic(l:List Nat):List Value:=l.map fun(k:Nat)=>Value.int .i64 (k:Int)
def Ints(w:World)(base:Nat)(v:Value)(l:List Nat):Prop:=w.ownsRow base 3 1 v l.length (ic l)
theorem Ints.nil(w:World)(base:Nat):Ints w base (.slice none 0 0) []:=by unfold Ints;exact World.ownsRow_nil w base 3 1
theorem Ints.kept(h:Ints w base v l)(hb:Below w.heap.size w w'):Ints w' base v l:=by
 refine⟨h.1,?_⟩
 rcases h.2 with e|⟨b,cap,cur,hv,hbb,hh,r⟩
 ·exact .inl e
 ·exact .inr ⟨b,cap,cur,hv,hbb,(hb.block b (Array.getElem?_eq_some_iff.1 hh).1).trans hh,r⟩
theorem Ints.len(h:Ints w base v l):∃a cap,v=.slice a l.length cap:=by
 rcases h.2 with⟨e,n0⟩|⟨b,cap,cur,hv,_⟩
 ·exact⟨none,0,by rw[e,n0]⟩
 ·exact⟨_,_,hv⟩
theorem Ints.at(h:Ints w base v l)(hl:0<l.length):∃b cap,v=.slice (some ⟨b,0,none⟩) l.length cap/\∀j (hj:j<l.length),w.cell? ⟨b,j,none⟩=some (I Z ((l[j]:Nat):Int)):=by
 rcases h.2 with⟨e,n0⟩|⟨b,cap,cur,hv,hbb,hh,_,_,_,ht⟩
 ·omega
 ·refine⟨b,cap,hv,fun j hj=>?_⟩
  (have e:(ic l)[j]?=some (I Z ((l[j]:Nat):Int)):=by simp[ic,hj])
  rw[←ht] at e
  rw[List.getElem?_take_of_lt om] at e
  simpa[World.cell?,hh] using e
theorem Ints.grown{w0:World}(h:Ints w base v l)(B:Below base w0 w)(hle:base<=w.heap.size)(hg:w.grownBy w' v.ownBlock):Below base w0 w':=by
 refine⟨hg.os.trans B.os,hg.tape.trans B.tape,hg.output.trans B.output,Nat.le_trans B.size hg.size,fun k hk=>?_⟩
 refine(hg.block k om ?_).trans (B.block k hk)
 intro e
 have:=h.lt k e.symm
 omega
theorem qahb(d n:Int)(hn:0<n):(if d.tmod n<0 then d.tmod n+n else d.tmod n)=d%n:=by
 have h1:=Int.tmod_eq_emod (a:=d) (b:=n);have h2:=Int.emod_nonneg d (b:=n) om;have h3:=Int.emod_lt_of_pos d hn;(have hab:(n.natAbs:Int)=n:=by omega)
 split at h1<;>split<;>omega
theorem qvk:(prog.info? 3).map (fun i=>(i.zero,i.size,i.bytes))=some (some (I Z 0),1,8):=by kernel_rfl
theorem qpe(w:World)(x:Value)(t:TypeId):∀j u,[x][j]?=some u->(w.alloc (.cells #[x] t)).cell? ((⟨w.heap.size,0,none⟩:Addr).add j)=some u:=by
 intro j u hu
 match j,hu with
 | 0,hu=>
  (have e:x=u:=by simpa using hu)
  subst e
  rw[Addr.add_lit,Nat.zero_add]
  exact World.cell?_alloc_mark w #[x] t (0,0) 0
theorem qo0(h:Nat->Int)(k:Nat)(hk:k<6)(w:World):(Instr.index 31 (.agg #[I Z (h 0),I Z (h 1),I Z (h 2),I Z (h 3),I Z (h 4),I Z (h 5)]) (I Z (k:Int))).run prog w=.ok (I Z (h k)) w:=by
 rcases(show k=0\/k=1\/k=2\/k=3\/k=4\/k=5 by omega) with rfl|rfl|rfl|rfl|rfl|rfl<;>kernel_rfl
theorem sZtp16(h:p:=by
 go_wp2
 go_round
 case rel=>
  refine⟨_,_,_,⟨j+1,by omega,?_,HG.out⟩,rfl,rfl,rfl⟩
  go_num
 case measure=>simp[intOf];omega):p:=h
theorem sZtp17(h:p:=by
 go_wp2
 go_ret
 exact⟨by rw[H.out];rfl,hB'⟩):p:=h
theorem qni(f:Nat->Int)(g:Nat->Bool)(w:World):
  Calls prog 62 #[plv f g] w fun e w'=>e=.returned (.bool (qcv f))/\Below w.heap.size w w':=by
 (have x0:∀w:World,(Instr.index 32 (.agg #[I Z (f 0),I Z (f 1),I Z (f 2),I Z (f 3),I Z (f 4),I Z (f 5),I Z (f 6),I Z (f 7),I Z (f 8),I Z (f 9),I Z (f 10),I Z (f 11),I Z (f 12),I Z (f 13),I Z (f 14),I Z (f 15),I Z (f 16),I Z (f 17)]) (I Z 0)).run prog w=.ok (.agg #[I Z (f 0),I Z (f 1),I Z (f 2),I Z (f 3),I Z (f 4),I Z (f 5)]) w:=fun _=>by kernel_rfl);(have x1:∀w:World,(Instr.index 32 (.agg #[I Z (f 0),I Z (f 1),I Z (f 2),I Z (f 3),I Z (f 4),I Z (f 5),I Z (f 6),I Z (f 7),I Z (f 8),I Z (f 9),I Z (f 10),I Z (f 11),I Z (f 12),I Z (f 13),I Z (f 14),I Z (f 15),I Z (f 16),I Z (f 17)]) (I Z 1)).run prog w=.ok (.agg #[I Z (f 6),I Z (f 7),I Z (f 8),I Z (f 9),I Z (f 10),I Z (f 11)]) w:=fun _=>by kernel_rfl);(have x2:∀w:World,(Instr.index 32 (.agg #[I Z (f 0),I Z (f 1),I Z (f 2),I Z (f 3),I Z (f 4),I Z (f 5),I Z (f 6),I Z (f 7),I Z (f 8),I Z (f 9),I Z (f 10),I Z (f 11),I Z (f 12),I Z (f 13),I Z (f 14),I Z (f 15),I Z (f 16),I Z (f 17)]) (I Z 2)).run prog w=.ok (.agg #[I Z (f 12),I Z (f 13),I Z (f 14),I Z (f 15),I Z (f 16),I Z (f 17)]) w:=fun _=>by kernel_rfl);have hB:Below w.heap.size w (w.alloc (.cells #[I Z (f 0),I Z (f 1),I Z (f 2),I Z (f 3),I Z (f 4),I Z (f 5),I Z (f 6),I Z (f 7),I Z (f 8),I Z (f 9),I Z (f 10),I Z (f 11),I Z (f 12),I Z (f 13),I Z (f 14),I Z (f 15),I Z (f 16),I Z (f 17),.bool (g 0),.bool (g 1),.bool (g 2)] 35)):=(Below.refl _ _).alloc (Nat.le_refl _) _
 unfold plv pc
 go_enter func62,ntmps62
 go_wp2
 go_loopw [9] (fun i W=>∃k:Nat,k<=3/\i=I Z k/\qgl f (6*k)/\Below w.heap.size w W) (fun i _=>3-(intOf i).toNat)
 case atStart=>exact⟨0,by omega,rfl,qxn f,hB⟩
 case round=>
  clear hB
  obtain⟨k,hk,rfl,hg,hB⟩:=hrel
  rcases(show k=0\/k=1\/k=2\/k=3 by omega) with rfl|rfl|rfl|rfl
  ·(have ix:=fun j hj=>qo0 (fun k=>f (k)) j hj)
   try simp only[Nat.add_zero,Nat.zero_add,Nat.reduceAdd] at ix
   have hB':=hB.alloc hB.size (.cells #[I Z (f 0),I Z (f 1),I Z (f 2),I Z (f 3),I Z (f 4),I Z (f 5)] 31)
   go_wp2
   go_loop [13] (fun i=>∃j:Nat,j<=6/\i=I Z j/\qgl f (j)) (fun i=>6-(intOf i).toNat)
   case atStart=>exact⟨0,by omega,rfl,hg⟩
   case round=>
    obtain⟨j,hj,rfl,hgj⟩:=hrel
    by_cases hlt:j<6
    ·have ij:=ix j hlt
     by_cases h1:f (j)<0
     ·have H:Hid (qcv f=false):=qid (j) om (.inl h1)
      exact sZtp17
     ·(have h1':0<=f (j):=by omega);clear h1
      by_cases h2:8<f (j)
      ·have H:Hid (qcv f=false):=qid (j) om (.inr h2)
       exact sZtp17
      ·(have h2':f (j)<=8:=by omega);clear h2;have HG:Hid (qgl f ((j+1))):=qmj hgj h1' h2'
       exact sZtp16
    ·(have e:j=6:=by omega)
     subst e
     go_wp2
     go_roundw
     case rel=>exact⟨1,by omega,rfl,hgj,hB'⟩
     case measure=>simp[intOf]
  ·(have ix:=fun j hj=>qo0 (fun k=>f (6+k)) j hj)
   try simp only[Nat.add_zero,Nat.zero_add,Nat.reduceAdd] at ix
   have hB':=hB.alloc hB.size (.cells #[I Z (f 6),I Z (f 7),I Z (f 8),I Z (f 9),I Z (f 10),I Z (f 11)] 31)
   go_wp2
   go_loop [13] (fun i=>∃j:Nat,j<=6/\i=I Z j/\qgl f (6+j)) (fun i=>6-(intOf i).toNat)
   case atStart=>exact⟨0,by omega,rfl,hg⟩
   case round=>
    obtain⟨j,hj,rfl,hgj⟩:=hrel
    by_cases hlt:j<6
    ·have ij:=ix j hlt
     by_cases h1:f (6+j)<0
     ·have H:Hid (qcv f=false):=qid (6+j) om (.inl h1)
      exact sZtp17
     ·(have h1':0<=f (6+j):=by omega);clear h1
      by_cases h2:8<f (6+j)
      ·have H:Hid (qcv f=false):=qid (6+j) om (.inr h2)
       exact sZtp17
      ·(have h2':f (6+j)<=8:=by omega);clear h2;have HG:Hid (qgl f (6+(j+1))):=qmj hgj h1' h2'
       exact sZtp16
    ·(have e:j=6:=by omega)
     subst e
     go_wp2
     go_roundw
     case rel=>exact⟨2,by omega,rfl,hgj,hB'⟩
     case measure=>simp[intOf]
  ·(have ix:=fun j hj=>qo0 (fun k=>f (12+k)) j hj)
   try simp only[Nat.add_zero,Nat.zero_add,Nat.reduceAdd] at ix
   have hB':=hB.alloc hB.size (.cells #[I Z (f 12),I Z (f 13),I Z (f 14),I Z (f 15),I Z (f 16),I Z (f 17)] 31)
   go_wp2
   go_loop [13] (fun i=>∃j:Nat,j<=6/\i=I Z j/\qgl f (12+j)) (fun i=>6-(intOf i).toNat)
   case atStart=>exact⟨0,by omega,rfl,hg⟩
   case round=>
    obtain⟨j,hj,rfl,hgj⟩:=hrel
    by_cases hlt:j<6
    ·have ij:=ix j hlt
     by_cases h1:f (12+j)<0
     ·have H:Hid (qcv f=false):=qid (12+j) om (.inl h1)
      exact sZtp17
     ·(have h1':0<=f (12+j):=by omega);clear h1
      by_cases h2:8<f (12+j)
      ·have H:Hid (qcv f=false):=qid (12+j) om (.inr h2)
       exact sZtp17
      ·(have h2':f (12+j)<=8:=by omega);clear h2;have HG:Hid (qgl f (12+(j+1))):=qmj hgj h1' h2'
       exact sZtp16
    ·(have e:j=6:=by omega)
     subst e
     go_wp2
     go_roundw
     case rel=>exact⟨3,by omega,rfl,hgj,hB'⟩
     case measure=>simp[intOf]
  ·have H:Hid (qcv f=true):=qnj hg
   go_wp2
   go_ret
   exact⟨by rw[H.out];rfl,hB⟩
def inR(a n:Int):Bool:=decide (0<=a/\a<n)
theorem qed(h0:0<=a)(h1:a<n):inR a n=true:=by unfold inR;exact decide_eq_true ⟨h0,h1⟩
theorem qfe(h:a<0\/n<=a):inR a n=false:=by unfold inR;exact decide_eq_false om
theorem sZtp18(h:p:=by
 unfold Ints ic at *
 rw[HS.out,List.length_append,List.map_append]
 exact hown'):p:=h
theorem qjc(h:Nat->Int)(w:World):
  Calls prog 79 #[.agg #[I Z (h 0),I Z (h 1),I Z (h 2),I Z (h 3),I Z (h 4),I Z (h 5)]] w fun e w'=>∃v,e=.returned v/\(∃a c,v=.slice a (qbo h).length c)/\Ints w' w.heap.size v (qbo h)/\Below w.heap.size w w':=by
 obtain⟨i0,hi,hz0,hz1,hz2⟩:=info_parts qvk;have hB0:Below w.heap.size w (w.alloc (.cells #[I Z (h 0),I Z (h 1),I Z (h 2),I Z (h 3),I Z (h 4),I Z (h 5)] 31)):=(Below.refl _ _).alloc (Nat.le_refl _) _
 go_enter func79,ntmps79
 go_wp2
 go_loopw [3,7] (fun v i wr=>∃(k:Nat) (ao:Option Addr) (cv:Nat),k<=6/\i=I Z k/\v=.slice ao (qfl h k).length cv/\Ints wr w.heap.size v (qfl h k)/\Below w.heap.size w wr) (fun _ i _=>6-(intOf i).toNat)
 case atStart=>exact⟨0,none,0,by omega,rfl,rfl,Ints.nil _ _,hB0⟩
 case round=>
  clear hB0
  obtain⟨k,ao,cv,hk,rfl,rfl,hown,hB⟩:=hrel
  have hsize:=hB.size;have hfl:=qks h k
  by_cases hlt:k<6
  ·have ik:=qo0 h k hlt
   by_cases hz:h k=0
   ·(have dz:(h k==0)=true:=by simpa using hz);(have HS:Hid (qfl h (k+1)=qfl h k++[k]):=by show _=_;rw[qp2,if_pos dz]);clear hz
    go_wp2_with (at_builtin;refine wpList_append_own _ rfl _ _ 86 rfl w.heap.size 3 i0 (I Z 0) 1 8 underlying86 hi hz0 hz1 hz2 rfl (by decide) _ _ _ rfl (hown.alloc _) ⟨wr.heap.size,0,none⟩ 1 1 [I Z (k:Int)] rfl rfl (qpe _ _ _) (fun x hx=>by simp at hx;subst hx;rfl) (by unfold maxLen;omega) om (by simp;omega) ?_;intro v' w3 hown' hgrow3 hnil3)
    go_roundw
    case rel=>
     have hi':Ints w3 w.heap.size v' (qfl h (k+1)):=by
      exact sZtp18
     obtain⟨a3,c3,e3⟩:=hi'.len;have hb3:Below w.heap.size w w3:=Ints.grown (l:=qfl h k) (hown.alloc _) (hB.alloc hB.size _) (by simp;omega) hgrow3
     first
      | exact⟨k+1,a3,c3,by omega,by go_num,e3,hi',hb3⟩
      | ((repeat apply Exists.intro);exact⟨⟨k+1,a3,c3,by omega,by go_num,e3,hi',hb3⟩,rfl⟩)
      | ((repeat apply Exists.intro);exact⟨⟨k+1,a3,c3,by omega,by go_num,e3,hi',hb3⟩,rfl,rfl⟩)
    case measure=>simp[intOf];omega
   ·(have dz:(h k==0)=false:=by simpa using hz);(have HS:Hid (qfl h (k+1)=qfl h k):=by show _=_;rw[qp2,if_neg (by simp[dz])];simp);clear hz
    go_wp2
    go_roundw
    case rel=>
     first
      | exact⟨k+1,ao,cv,by omega,by go_num,by rw[HS.out],by rw[HS.out];exact hown,hB⟩
      | ((repeat apply Exists.intro);exact⟨⟨k+1,ao,cv,by omega,by go_num,by rw[HS.out],by rw[HS.out];exact hown,hB⟩,rfl⟩)
      | ((repeat apply Exists.intro);exact⟨⟨k+1,ao,cv,by omega,by go_num,by rw[HS.out],by rw[HS.out];exact hown,hB⟩,rfl,rfl⟩)
    case measure=>simp[intOf];omega
  ·(have e:k=6:=by omega)
   subst e
   go_wp2
   go_ret
   exact⟨_,rfl,⟨_,_,rfl⟩,hown,hB⟩
theorem sZtp19(h:p:=by
 go_wp2
 go_ret
 exact⟨by rw[H.out];rfl,rfl⟩):p:=h
theorem sZtp110(h:p:=by
 go_wp2
 go_ret
 exact⟨by rw[H.out];simp<;>omega,rfl⟩):p:=h
theorem qe7(a:Int)(w:World):Calls prog 78 #[I Z a] w fun e w'=>e=.returned (.bool (inR a 3))/\w'=w:=by
 by_cases h0:0<=a
 ·by_cases h1:a<3
  ·have H:Hid (inR a 3=true):=qed h0 h1
   go_enter func78,ntmps78
   exact sZtp19
  ·have H:Hid (inR a 3=false):=qfe om;(have h1':3<=a:=by omega);clear h1
   go_enter func78,ntmps78
   exact sZtp110
 ·have H:Hid (inR a 3=false):=qfe om;(have h0':a<0:=by omega);clear h0
  go_enter func78,ntmps78
  exact sZtp19
theorem sZtp115(h:p:=by
 go_enter func202,ntmps202
 exact sZtp19):p:=h
theorem qlq(a:Int)(w:World):Calls prog 202 #[I Z a] w fun e w'=>e=.returned (.bool (inR a 8))/\w'=w:=by
 by_cases h0:0<=a
 ·by_cases h1:a<8
  ·have H:Hid (inR a 8=true):=qed h0 h1
   exact sZtp115
  ·have H:Hid (inR a 8=false):=qfe om;(have h1':8<=a:=by omega);clear h1
   go_enter func202,ntmps202
   exact sZtp110
 ·have H:Hid (inR a 8=false):=qfe om;(have h0':a<0:=by omega);clear h0
  exact sZtp115
theorem qwv(a:Int)(w:World):Calls prog 201 #[I Z a] w fun e w'=>e=.returned (.bool (inR a 6))/\w'=w:=by
 by_cases h0:0<=a
 ·by_cases h1:a<6
  ·have H:Hid (inR a 6=true):=qed h0 h1
   go_enter func201,ntmps201
   exact sZtp19
  ·have H:Hid (inR a 6=false):=qfe om;(have h1':6<=a:=by omega);clear h1
   go_enter func201,ntmps201
   exact sZtp110
 ·have H:Hid (inR a 6=false):=qfe om;(have h0':a<0:=by omega);clear h0
  go_enter func201,ntmps201
  exact sZtp19
theorem q7c(d:Int)(n:Nat)(hn:0<n):0<=d%(n:Int)/\d%(n:Int)<n:=⟨Int.emod_nonneg d om,Int.emod_lt_of_pos d om⟩
def qep(l:List Nat)(d:Int):Nat:=l.getD (d%(l.length:Int)).toNat 0
theorem qiu(l:List Nat)(d:Int)(h:0<l.length):qep l d∈l:=by
 have:=q7c d l.length h
 unfold qep
 rw[List.getD_eq_getElem?_getD,List.getElem?_eq_getElem om]
 exact List.getElem_mem _
theorem sZtp111(h:p:=by
 go_enter func208,ntmps208
 go_wp2
 go_ret
 exact⟨by rw[HD.out];rfl,rfl⟩):p:=h
theorem qmf(base:Nat)(v:Value)(l:List Nat)(d:Int)(w:World)(hi:Ints w base v l)(hl:0<l.length)(hd:(Lit.int .i64 d).wf=true)(hm:l.length<=6):
  Calls prog 208 #[v,.int .i64 d] w fun e w'=>e=.returned (.int .i64 ((qep l d:Nat):Int))/\w'=w:=by
 obtain⟨b,cap,rfl,hc⟩:=hi.at hl
 have hr:=qahb d l.length om;obtain⟨a0,a1⟩:=q7c d l.length hl;(have hq:(d%(l.length:Int)).toNat<l.length:=by omega);have hcell:=hc _ hq
 have HD:Hid (qep l d=l[(d%(l.length:Int)).toNat]):=by
  show _=_
  unfold qep
  rw[List.getD_eq_getElem?_getD,List.getElem?_eq_getElem hq];rfl
 generalize hx:l[(d % (l.length:Int)).toNat]=x at *
 clear hx hc hi
 generalize hN:(l.length:Int)=N at *
 (have hn0:0<N:=by omega);(have hn6:N<=6:=by omega)
 by_cases ht:d.tmod N<0
 ·rw[if_pos ht] at hr
  exact sZtp111
 ·rw[if_neg ht] at hr
  (have ht':0<=d.tmod N:=by omega);clear ht
  exact sZtp111
def rowF(f:Nat->Int)(a:Nat):Nat->Int:=fun k=>f (6*a+k)
def qe8(f:Nat->Int)(a:Int):Int:=if inR a 3=true then((qbo (rowF f a.toNat)).length:Int) else 0
theorem qne(f:Nat->Int)(a:Nat)(h:a<3):qe8 f (a:Int)=((qbo (rowF f a)).length:Int):=by
 unfold qe8;rw[if_pos (qed om om),Int.toNat_natCast]
theorem q4k(f:Nat->Int)(a:Int)(h:a<0\/3<=a):qe8 f a=0:=by
 unfold qe8;rw[if_neg (by simp[qfe h])]
theorem sZtp112(h:p:=by
 go_ret
 exact⟨by rw[HL.out];rfl,hB⟩):p:=h
theorem qqh(f:Nat->Int)(g:Nat->Bool)(a:Int)(w:World):
  Calls prog 44 #[plv f g,I Z a] w fun e w'=>e=.returned (I Z (qe8 f a))/\Below w.heap.size w w':=by
 have hB:Below w.heap.size w (w.alloc (.cells #[I Z (f 0),I Z (f 1),I Z (f 2),I Z (f 3),I Z (f 4),I Z (f 5),I Z (f 6),I Z (f 7),I Z (f 8),I Z (f 9),I Z (f 10),I Z (f 11),I Z (f 12),I Z (f 13),I Z (f 14),I Z (f 15),I Z (f 16),I Z (f 17),.bool (g 0),.bool (g 1),.bool (g 2)] 35)):=(Below.refl _ _).alloc (Nat.le_refl _) _
 unfold plv pc
 by_cases hin:0<=a/\a<3
 ·obtain⟨k,rfl⟩:∃k:Nat,a=k:=⟨a.toNat,by omega⟩
  have hi:inR (k:Int) 3=true:=qed hin.1 hin.2;have HL:Hid (qe8 f (k:Int)=_):=qne f k om
  rcases(show k=0\/k=1\/k=2 by omega) with rfl|rfl|rfl
  ·(have C0:∀w,Calls prog 79 #[.agg #[I Z (f 0),I Z (f 1),I Z (f 2),I Z (f 3),I Z (f 4),I Z (f 5)]] w fun e w'=>∃v,e=.returned v/\(∃a c,v=.slice a (qbo (rowF f 0)).length c)/\Ints w' w.heap.size v (qbo (rowF f 0))/\Below w.heap.size w w':=fun w=>qjc (rowF f 0) w)
   go_enter func44,ntmps44
   go_wp2_with (first|(go_at_call 78;refine(qe7 _ _).mono ?_;rintro e w' ⟨rfl,rfl⟩;(try rw[show inR ((0:Nat):Int) 3=true from hi]))|(go_at_call 79;go_fit (C0 _);rintro e w' ⟨v,rfl,⟨a1,c1,rfl⟩,hI,hb⟩;replace hB:=hB.trans (hb.mono hB.size)))
   exact sZtp112
  ·(have C1:∀w,Calls prog 79 #[.agg #[I Z (f 6),I Z (f 7),I Z (f 8),I Z (f 9),I Z (f 10),I Z (f 11)]] w fun e w'=>∃v,e=.returned v/\(∃a c,v=.slice a (qbo (rowF f 1)).length c)/\Ints w' w.heap.size v (qbo (rowF f 1))/\Below w.heap.size w w':=fun w=>qjc (rowF f 1) w)
   go_enter func44,ntmps44
   go_wp2_with (first|(go_at_call 78;refine(qe7 _ _).mono ?_;rintro e w' ⟨rfl,rfl⟩;(try rw[show inR ((1:Nat):Int) 3=true from hi]))|(go_at_call 79;go_fit (C1 _);rintro e w' ⟨v,rfl,⟨a1,c1,rfl⟩,hI,hb⟩;replace hB:=hB.trans (hb.mono hB.size)))
   exact sZtp112
  ·(have C2:∀w,Calls prog 79 #[.agg #[I Z (f 12),I Z (f 13),I Z (f 14),I Z (f 15),I Z (f 16),I Z (f 17)]] w fun e w'=>∃v,e=.returned v/\(∃a c,v=.slice a (qbo (rowF f 2)).length c)/\Ints w' w.heap.size v (qbo (rowF f 2))/\Below w.heap.size w w':=fun w=>qjc (rowF f 2) w)
   go_enter func44,ntmps44
   go_wp2_with (first|(go_at_call 78;refine(qe7 _ _).mono ?_;rintro e w' ⟨rfl,rfl⟩;(try rw[show inR ((2:Nat):Int) 3=true from hi]))|(go_at_call 79;go_fit (C2 _);rintro e w' ⟨v,rfl,⟨a1,c1,rfl⟩,hI,hb⟩;replace hB:=hB.trans (hb.mono hB.size)))
   exact sZtp112
 ·have hi:inR a 3=false:=qfe om;have HL:Hid (qe8 f a=0):=q4k f a om
  go_enter func44,ntmps44
  go_wp2_with (go_at_call 78;refine(qe7 _ _).mono ?_;rintro e w' ⟨rfl,rfl⟩)
  exact sZtp112
theorem qfg(f:Nat->Int)(g:Nat->Bool):(prog.info? 35).map (·.size)=some (pc f g).size:=by kernel_rfl
theorem qoq(f:Nat->Int)(g:Nat->Bool):(pc f g).all (·.oneCell')=true:=by kernel_rfl
theorem qf1(f:Nat->Int)(g:Nat->Bool):(pc f g).size=21:=rfl
theorem q1x(f:Nat->Int)(g:Nat->Bool)(k:Nat)(h:k<18):(pc f g)[k]?=some (I Z (f k)):=by
 rcases(show k=0\/k=1\/k=2\/k=3\/k=4\/k=5\/k=6\/k=7\/k=8\/k=9\/k=10\/k=11\/k=12\/k=13\/k=14\/k=15\/k=16\/k=17 by omega) with rfl|rfl|rfl|rfl|rfl|rfl|rfl|rfl|rfl|rfl|rfl|rfl|rfl|rfl|rfl|rfl|rfl|rfl<;>rfl
theorem qanb(f:Nat->Int)(g:Nat->Bool)(a:Nat)(h:a<3):(pc f g)[18+a]?=some (.bool (g a)):=by
 rcases(show a=0\/a=1\/a=2 by omega) with rfl|rfl|rfl<;>rfl
def upd(f:Nat->Int)(n:Nat)(x:Int):Nat->Int:=fun i=>if i=n then x else f i
def updB(g:Nat->Bool)(n:Nat)(x:Bool):Nat->Bool:=fun i=>if i=n then x else g i
theorem q97(f:Nat->Int)(g:Nat->Bool)(n:Nat)(x:Int)(h:n<18):(pc f g).setIfInBounds n (I Z x)=pc (upd f n x) g:=by
 rcases(show n=0\/n=1\/n=2\/n=3\/n=4\/n=5\/n=6\/n=7\/n=8\/n=9\/n=10\/n=11\/n=12\/n=13\/n=14\/n=15\/n=16\/n=17 by omega) with rfl|rfl|rfl|rfl|rfl|rfl|rfl|rfl|rfl|rfl|rfl|rfl|rfl|rfl|rfl|rfl|rfl|rfl<;>simp[pc,upd]
theorem q8y(f:Nat->Int)(g:Nat->Bool)(n:Nat)(x:Bool)(h:n<3):(pc f g).setIfInBounds (18+n) (.bool x)=pc f (updB g n x):=by
 rcases(show n=0\/n=1\/n=2 by omega) with rfl|rfl|rfl<;>simp[pc,updB]
def PRow(w:World)(b:Nat)(cs:Array Value):Prop:=w.heap[b]?=some (.cells cs 35 (0,0))
theorem PRow.cell(h:PRow w b cs):∀o,w.cell? ⟨b,o,none⟩=cs[o]?:=by
 intro o;unfold PRow at h;simp[World.cell?,h]
theorem PRow.free(h:PRow w b cs):∀o,w.frozen? ⟨b,o,none⟩=false:=by
 intro o;unfold PRow at h;simp[World.frozen?,h]
theorem PRow.own(h:PRow w b (pc f g))(k:Nat)(hk:k<18):w.cell? ⟨b,k,none⟩=some (I Z (f k)):=(h.cell k).trans (q1x f g k hk)
theorem PRow.dr(h:PRow w b (pc f g))(a:Nat)(ha:a<3):w.cell? ⟨b,18+a,none⟩=some (.bool (g a)):=(h.cell (18+a)).trans (qanb f g a ha)
theorem PRow.lt(h:PRow w b cs):b<w.heap.size:=(Array.getElem?_eq_some_iff.1 h).1
theorem PRow.below(h:PRow w b cs)(hb:Below w.heap.size w w'):PRow w' b cs:=(hb.block b h.lt).trans h
theorem PRow.keep{B:Nat}(h:PRow w b cs)(hb:Below B w w')(hlt:b<B):PRow w' b cs:=(hb.block b hlt).trans h
theorem PRow.new(w:World)(cs:Array Value):PRow (w.alloc (.cells cs 35)) w.heap.size cs:=heap_alloc_new w _
theorem PRow.alloc(h:PRow w b cs)(o:Obj):PRow (w.alloc o) b cs:=(Below.heap_alloc _ _ _ h.lt).trans h
theorem PRow.other{r o:Nat}(h:PRow w r cs)(hne:r≠b):PRow (w.setCell ⟨b,o,none⟩ v) r cs:=(Below.heap_setCell _ _ _ _ hne).trans h
theorem PRow.upd(h:PRow w b (pc f g))(n:Nat)(x:Int)(hn:n<18):PRow (w.setCell ⟨b,n,none⟩ (I Z x)) b (pc (upd f n x) g):=by
 rw[←q97 f g n x hn];exact heap_setCell_same w b n _ 35 _ h
theorem PRow.updB(h:PRow w b (pc f g))(n:Nat)(x:Bool)(hn:n<3):PRow (w.setCell ⟨b,18+n,none⟩ (.bool x)) b (pc f (updB g n x)):=by
 rw[←q8y f g n x hn];exact heap_setCell_same w b (18+n) _ 35 _ h
theorem qa1{W:World}(h:Below W.drew.heap.size W.drew w'):Below W.heap.size W w':=⟨h.os,h.tape,h.output,h.size,h.block⟩
theorem qat{a:Act}(x:Operand)(ho:o.op=.load 35 x)(hw:Region.wanted o (yielded ops a.tmps)=true)(b:Nat)(hx:a.eval x=V (some ⟨b,0,none⟩))(f:Nat->Int)(g:Nat->Bool)(h:PRow w b (pc f g))(hr:wpList prog ops Q rest (a.put o.dst (.agg (pc f g))) w):wpList prog ops Q (o::rest) a w:=
 wpList_step fun K hK=>by
  rw[if_pos hw]
  exact wp_load_row 35 x ho b hx 35 (pc f g) (0,0) _ h underlying35 rfl (qfg f g) (hK _ _ hr)
theorem qay{a:Act}(hgd:o.guard=none)(x y:Operand)(ho:o.op=.store 35 x y)(b:Nat)(hx:a.eval x=V (some ⟨b,0,none⟩))(f:Nat->Int)(g:Nat->Bool)(hy:a.eval y=.agg (pc f g))(old:Array Value)(h:PRow w b old)(hs:old.size=21)(hr:∀w',PRow w' b (pc f g)->w'.heap.size=w.heap.size->(∀r cs,r≠b->PRow w r cs->PRow w' r cs)->(∀B w0,B<=b->Below B w0 w->Below B w0 w')->wpList prog ops Q rest (a.put o.dst undef) w'):wpList prog ops Q (o::rest) a w:=
 wpList_plain hgd fun K hK=>by
  have hst:=run_storeVar_row (P:=prog) w b 35 35 old (pc f g) h (qfg f g) (by rw[hs,qf1]) (qoq f g)
  unfold Oper.wp execOp
  simp only[ho,hx,hy,Instr.storeAt,Instr.sureAddr,Sem.run_bind,Sem.run_pure,Result.andThen_ok,hst]
  exact hK _ _ (hr _ (setRow_heap w b old _ _ _ h) zm (fun r cs hne hr'=>(setRow_other w b r _ hne).trans hr') (fun B w0 hB hb=>below_setRow hb hB _))
theorem qbw{p:Tmp}(hf:fn.results=#[.cell p 35,.tmp t])(tmps:Array Value)(w:World)(b:Nat)(f:Nat->Int)(g:Nat->Bool)(hp:tmps.getD p undef=V (some ⟨b,0,none⟩))(h:PRow w b (pc f g)):
  (results fn tmps).run prog w=.ok (.tuple #[plv f g,tmps.getD t undef]) w:=by
 refine m79 ?_;intro hp' hl
 simp[results,hf,hp',asAddr,hl,plv]
theorem qc6{p u:Tmp}(hf:fn.results=#[.cell p 35,.tmp t,.tmp u])(tmps:Array Value)(w:World)(b:Nat)(f:Nat->Int)(g:Nat->Bool)(hp:tmps.getD p undef=V (some ⟨b,0,none⟩))(h:PRow w b (pc f g)):
  (results fn tmps).run prog w=.ok (.tuple #[plv f g,tmps.getD t undef,tmps.getD u undef]) w:=by
 refine m79 ?_;intro hp' hl
 simp[results,hf,hp',asAddr,hl,plv]
def qcp(f:Nat->Int)(g:Nat->Bool)(n:Nat):List Nat:=(List.range n).filter fun a=>!g a&&decide (0<(qbo (rowF f a)).length)
def qi5(f:Nat->Int)(g:Nat->Bool):List Nat:=qcp f g 3
theorem qeu(f:Nat->Int)(g:Nat->Bool)(n:Nat):qcp f g (n+1)=qcp f g n++if (!g n&&decide (0<(qbo (rowF f n)).length))=true then [n] else []:=by
 unfold qcp;rw[List.range_succ,List.filter_append];simp only[List.filter];split<;>simp_all
theorem qkn(f:Nat->Int)(g:Nat->Bool)(n:Nat):(qcp f g n).length<=n:=by
 have:=List.length_filter_le (fun a=>!g a&&decide (0<(qbo (rowF f a)).length)) (List.range n);simpa[qcp] using this
theorem Ints.low{b2:Nat}(h:Ints w base v l)(hb:b2<=base):Ints w b2 v l:=by
 refine⟨h.1,?_⟩
 rcases h.2 with e|⟨b,cap,cur,hv,hbb,r⟩
 ·exact .inl e
 ·exact .inr ⟨b,cap,cur,hv,by omega,r⟩
theorem sZtp12(h:p:=by
 go_wp2_with (first|(refine qat _ rfl ?_ _ rfl f g T0 ?_;· rfl)|(go_at_call 44;go_fit (C0 _);refine m24 ?_;clear T0;intro w' hb hown T0 hB hsize hlt;replace d0:=T0.dr 0 om;rw[hg] at d0))
 go_roundw
 case rel=>
  first
   | exact⟨1,ao,cv,by omega,rfl,by rw[HS.out],by rw[HS.out];exact hown,T0,hB⟩| ((repeat apply Exists.intro);exact⟨⟨1,ao,cv,by omega,rfl,by rw[HS.out],by rw[HS.out];exact hown,T0,hB⟩,rfl⟩)| ((repeat apply Exists.intro);exact⟨⟨1,ao,cv,by omega,rfl,by rw[HS.out],by rw[HS.out];exact hown,T0,hB⟩,rfl,rfl⟩)| ((repeat apply Exists.intro);exact⟨⟨1,ao,cv,by omega,rfl,by rw[HS.out],by rw[HS.out];exact hown,T0,hB⟩,rfl,rfl,rfl⟩)
 case measure=>simp[intOf]):p:=h
theorem sZtp13(h:p:=by
 go_wp2_with (first|(refine qat _ rfl ?_ _ rfl f g T0 ?_;· rfl)|(go_at_call 44;go_fit (C1 _);refine m24 ?_;clear T0;intro w' hb hown T0 hB hsize hlt;replace d0:=T0.dr 1 om;rw[hg] at d0))
 go_roundw
 case rel=>
  first
   | exact⟨2,ao,cv,by omega,rfl,by rw[HS.out],by rw[HS.out];exact hown,T0,hB⟩| ((repeat apply Exists.intro);exact⟨⟨2,ao,cv,by omega,rfl,by rw[HS.out],by rw[HS.out];exact hown,T0,hB⟩,rfl⟩)| ((repeat apply Exists.intro);exact⟨⟨2,ao,cv,by omega,rfl,by rw[HS.out],by rw[HS.out];exact hown,T0,hB⟩,rfl,rfl⟩)| ((repeat apply Exists.intro);exact⟨⟨2,ao,cv,by omega,rfl,by rw[HS.out],by rw[HS.out];exact hown,T0,hB⟩,rfl,rfl,rfl⟩)
 case measure=>simp[intOf]):p:=h
theorem sZtp14(h:p:=by
 go_wp2_with (first|(refine qat _ rfl ?_ _ rfl f g T0 ?_;· rfl)|(go_at_call 44;go_fit (C2 _);refine m24 ?_;clear T0;intro w' hb hown T0 hB hsize hlt;replace d0:=T0.dr 2 om;rw[hg] at d0))
 go_roundw
 case rel=>
  first
   | exact⟨3,ao,cv,by omega,rfl,by rw[HS.out],by rw[HS.out];exact hown,T0,hB⟩| ((repeat apply Exists.intro);exact⟨⟨3,ao,cv,by omega,rfl,by rw[HS.out],by rw[HS.out];exact hown,T0,hB⟩,rfl⟩)| ((repeat apply Exists.intro);exact⟨⟨3,ao,cv,by omega,rfl,by rw[HS.out],by rw[HS.out];exact hown,T0,hB⟩,rfl,rfl⟩)| ((repeat apply Exists.intro);exact⟨⟨3,ao,cv,by omega,rfl,by rw[HS.out],by rw[HS.out];exact hown,T0,hB⟩,rfl,rfl,rfl⟩)
 case measure=>simp[intOf]):p:=h
theorem qv5(f:Nat->Int)(g:Nat->Bool)(w:World):
  Calls prog 214 #[plv f g] w fun e w'=>∃v,e=.returned v/\(∃a c,v=.slice a (qi5 f g).length c)/\Ints w' w.heap.size v (qi5 f g)/\Below w.heap.size w w':=by
 obtain⟨i0,hi,hz0,hz1,hz2⟩:=info_parts qvk;refine m38 ?_;intro hB T0;(have C0:=fun w=>qqh f g 0 w);(have C1:=fun w=>qqh f g 1 w);(have C2:=fun w=>qqh f g 2 w);have L0:Hid (qe8 f 0=((qbo (rowF f 0)).length:Int)):=qne f 0 om;have L1:Hid (qe8 f 1=((qbo (rowF f 1)).length:Int)):=qne f 1 om;have L2:Hid (qe8 f 2=((qbo (rowF f 2)).length:Int)):=qne f 2 om
 unfold plv at *
 go_enter func214,ntmps214
 go_wp2
 go_loopw [3,5] (fun v i wr=>∃(k:Nat) (ao:Option Addr) (cv:Nat),k<=3/\i=I Z k/\v=.slice ao (qcp f g k).length cv/\Ints wr (w.heap.size+1) v (qcp f g k)/\PRow wr w.heap.size (pc f g)/\Below w.heap.size w wr) (fun _ i _=>3-(intOf i).toNat)
 case atStart=>exact⟨0,none,0,by omega,rfl,rfl,Ints.nil _ _,T0,hB⟩
 case round=>
  clear T0 hB
  obtain⟨k,ao,cv,hk,rfl,rfl,hown,T0,hB⟩:=hrel
  have hsize:=hB.size;have hlt:=T0.lt
  rcases(show k=0\/k=1\/k=2\/k=3 by omega) with rfl|rfl|rfl|rfl
  ·have hol:=qkn f g 0;have d0:=T0.dr 0 om
   by_cases hz:0<(qbo (rowF f 0)).length
   ·cases hg:g 0 with
    | true=>
     (have HS:Hid (qcp f g 1=qcp f g 0):=by show _=_;rw[qeu,if_neg (by simp[hg])];simp);(have hx:0<qe8 f 0:=by rw[L0.out];omega);clear hz
     rw[hg] at d0
     exact sZtp12
    | false=>
     (have HS:Hid (qcp f g 1=qcp f g 0++[0]):=by show _=_;rw[qeu,if_pos (by simp[hg,hz])]);(have hx:0<qe8 f 0:=by rw[L0.out];omega);clear hz
     rw[hg] at d0
     go_wp2_with (first|(refine qat _ rfl ?_ _ rfl f g T0 ?_;· rfl)|(go_at_call 44;go_fit (C0 _);refine m24 ?_;clear hown T0 hB hsize hlt;intro w' hb hown T0 hB hsize hlt;replace d0:=T0.dr 0 om;rw[hg] at d0)|(at_builtin;refine wpList_append_own _ rfl _ _ 86 rfl (w.heap.size+1) 3 i0 (I Z 0) 1 8 underlying86 hi hz0 hz1 hz2 rfl (by decide) _ _ _ rfl (hown.alloc _) _ 1 1 [I Z 0] rfl rfl (qpe _ _ _) (fun x hx=>by simp at hx;subst hx;rfl) (by unfold maxLen;omega) om (by simp;omega) ?_;intro v' w3 hown' hgrow3 hnil3))
     go_roundw
     case rel=>
      have hi':Ints w3 (w.heap.size+1) v' (qcp f g 1):=by
       exact sZtp18
      obtain⟨a3,c3,e3⟩:=hi'.len;have hb4:=Ints.grown (l:=qcp f g 0) (hown.alloc _) ((Below.refl _ _).alloc om _) (by simp;omega) hgrow3;have hT:=T0.keep hb4 om;have hb3:=hB.trans (hb4.mono om)
      first
       | exact⟨1,a3,c3,by omega,rfl,e3,hi',hT,hb3⟩
       | ((repeat apply Exists.intro);exact⟨⟨1,a3,c3,by omega,rfl,e3,hi',hT,hb3⟩,rfl⟩)
       | ((repeat apply Exists.intro);exact⟨⟨1,a3,c3,by omega,rfl,e3,hi',hT,hb3⟩,rfl,rfl⟩)
       | ((repeat apply Exists.intro);exact⟨⟨1,a3,c3,by omega,rfl,e3,hi',hT,hb3⟩,rfl,rfl,rfl⟩)
     case measure=>simp[intOf]
   ·(have HS:Hid (qcp f g 1=qcp f g 0):=by show _=_;rw[qeu,if_neg (by rw[Bool.and_eq_true];rintro⟨_,h⟩;exact hz (of_decide_eq_true h))];simp);(have hx:qe8 f 0=0:=by rw[L0.out];omega);clear hz
    cases hg:g 0 <;>
    ·rw[hg] at d0
     exact sZtp12
  ·have hol:=qkn f g 1;have d0:=T0.dr 1 om
   by_cases hz:0<(qbo (rowF f 1)).length
   ·cases hg:g 1 with
    | true=>
     (have HS:Hid (qcp f g 2=qcp f g 1):=by show _=_;rw[qeu,if_neg (by simp[hg])];simp);(have hx:0<qe8 f 1:=by rw[L1.out];omega);clear hz
     rw[hg] at d0
     exact sZtp13
    | false=>
     (have HS:Hid (qcp f g 2=qcp f g 1++[1]):=by show _=_;rw[qeu,if_pos (by simp[hg,hz])]);(have hx:0<qe8 f 1:=by rw[L1.out];omega);clear hz
     rw[hg] at d0
     go_wp2_with (first|(refine qat _ rfl ?_ _ rfl f g T0 ?_;· rfl)|(go_at_call 44;go_fit (C1 _);refine m24 ?_;clear hown T0 hB hsize hlt;intro w' hb hown T0 hB hsize hlt;replace d0:=T0.dr 1 om;rw[hg] at d0)|(at_builtin;refine wpList_append_own _ rfl _ _ 86 rfl (w.heap.size+1) 3 i0 (I Z 0) 1 8 underlying86 hi hz0 hz1 hz2 rfl (by decide) _ _ _ rfl (hown.alloc _) _ 1 1 [I Z 1] rfl rfl (qpe _ _ _) (fun x hx=>by simp at hx;subst hx;rfl) (by unfold maxLen;omega) om (by simp;omega) ?_;intro v' w3 hown' hgrow3 hnil3))
     go_roundw
     case rel=>
      have hi':Ints w3 (w.heap.size+1) v' (qcp f g 2):=by
       exact sZtp18
      obtain⟨a3,c3,e3⟩:=hi'.len;have hb4:=Ints.grown (l:=qcp f g 1) (hown.alloc _) ((Below.refl _ _).alloc om _) (by simp;omega) hgrow3;have hT:=T0.keep hb4 om;have hb3:=hB.trans (hb4.mono om)
      first
       | exact⟨2,a3,c3,by omega,rfl,e3,hi',hT,hb3⟩
       | ((repeat apply Exists.intro);exact⟨⟨2,a3,c3,by omega,rfl,e3,hi',hT,hb3⟩,rfl⟩)
       | ((repeat apply Exists.intro);exact⟨⟨2,a3,c3,by omega,rfl,e3,hi',hT,hb3⟩,rfl,rfl⟩)
       | ((repeat apply Exists.intro);exact⟨⟨2,a3,c3,by omega,rfl,e3,hi',hT,hb3⟩,rfl,rfl,rfl⟩)
     case measure=>simp[intOf]
   ·(have HS:Hid (qcp f g 2=qcp f g 1):=by show _=_;rw[qeu,if_neg (by rw[Bool.and_eq_true];rintro⟨_,h⟩;exact hz (of_decide_eq_true h))];simp);(have hx:qe8 f 1=0:=by rw[L1.out];omega);clear hz
    cases hg:g 1 <;>
    ·rw[hg] at d0
     exact sZtp13
  ·have hol:=qkn f g 2;have d0:=T0.dr 2 om
   by_cases hz:0<(qbo (rowF f 2)).length
   ·cases hg:g 2 with
    | true=>
     (have HS:Hid (qcp f g 3=qcp f g 2):=by show _=_;rw[qeu,if_neg (by simp[hg])];simp);(have hx:0<qe8 f 2:=by rw[L2.out];omega);clear hz
     rw[hg] at d0
     exact sZtp14
    | false=>
     (have HS:Hid (qcp f g 3=qcp f g 2++[2]):=by show _=_;rw[qeu,if_pos (by simp[hg,hz])]);(have hx:0<qe8 f 2:=by rw[L2.out];omega);clear hz
     rw[hg] at d0
     go_wp2_with (first|(refine qat _ rfl ?_ _ rfl f g T0 ?_;· rfl)|(go_at_call 44;go_fit (C2 _);refine m24 ?_;clear hown T0 hB hsize hlt;intro w' hb hown T0 hB hsize hlt;replace d0:=T0.dr 2 om;rw[hg] at d0)|(at_builtin;refine wpList_append_own _ rfl _ _ 86 rfl (w.heap.size+1) 3 i0 (I Z 0) 1 8 underlying86 hi hz0 hz1 hz2 rfl (by decide) _ _ _ rfl (hown.alloc _) _ 1 1 [I Z 2] rfl rfl (qpe _ _ _) (fun x hx=>by simp at hx;subst hx;rfl) (by unfold maxLen;omega) om (by simp;omega) ?_;intro v' w3 hown' hgrow3 hnil3))
     go_roundw
     case rel=>
      have hi':Ints w3 (w.heap.size+1) v' (qcp f g 3):=by
       exact sZtp18
      obtain⟨a3,c3,e3⟩:=hi'.len;have hb4:=Ints.grown (l:=qcp f g 2) (hown.alloc _) ((Below.refl _ _).alloc om _) (by simp;omega) hgrow3;have hT:=T0.keep hb4 om;have hb3:=hB.trans (hb4.mono om)
      first
       | exact⟨3,a3,c3,by omega,rfl,e3,hi',hT,hb3⟩
       | ((repeat apply Exists.intro);exact⟨⟨3,a3,c3,by omega,rfl,e3,hi',hT,hb3⟩,rfl⟩)
       | ((repeat apply Exists.intro);exact⟨⟨3,a3,c3,by omega,rfl,e3,hi',hT,hb3⟩,rfl,rfl⟩)
       | ((repeat apply Exists.intro);exact⟨⟨3,a3,c3,by omega,rfl,e3,hi',hT,hb3⟩,rfl,rfl,rfl⟩)
     case measure=>simp[intOf]
   ·(have HS:Hid (qcp f g 3=qcp f g 2):=by show _=_;rw[qeu,if_neg (by rw[Bool.and_eq_true];rintro⟨_,h⟩;exact hz (of_decide_eq_true h))];simp);(have hx:qe8 f 2=0:=by rw[L2.out];omega);clear hz
    cases hg:g 2 <;>
    ·rw[hg] at d0
     exact sZtp14
  ·go_wp2
   go_ret
   exact⟨_,rfl,⟨_,_,rfl⟩,Ints.low hown om,hB⟩
def qk1(f:Nat->Int)(g:Nat->Bool):Int:=if qcv f=true then(if (qi5 f g).length=0 then 10 else 0) else 2
def qkr(f:Nat->Int)(g:Nat->Bool)(d:Int):Int:=if qcv f=true then(if (qi5 f g).length=0 then 0 else((qep (qi5 f g) d:Nat):Int)) else 0
theorem q3d(f:Nat->Int)(g:Nat->Bool):(qi5 f g).length<=3:=qkn f g 3
theorem sZtp113(h:p:=by
 go_ret2
 exact⟨by rw[H1.out,H2.out];rfl,hB⟩):p:=h
theorem q6b(f:Nat->Int)(g:Nat->Bool)(d:Int)(hd:(Lit.int .i64 d).wf=true)(w:World):
  Calls prog 207 #[plv f g,.int .i64 d] w fun e w'=>e=.returned (.tuple #[.int .i64 (qkr f g d),.int .i64 (qk1 f g)])/\Below w.heap.size w w':=by
 refine m38 ?_;intro hB T0;(have CG:=fun w=>qni f g w);(have CL:=fun w=>qv5 f g w);have hl:=q3d f g
 unfold plv at *
 cases hg:qcv f with
 | false=>
  (have H1:Hid (qkr f g d=0):=by show _=_;unfold qkr;rw[if_neg (by simp[hg])]);(have H2:Hid (qk1 f g=2):=by show _=_;unfold qk1;rw[if_neg (by simp[hg])])
  rw[hg] at CG
  go_enter func207,ntmps207
  go_wp2_with (first|(refine qat _ rfl ?_ _ rfl f g T0 ?_;· rfl)|(go_at_call 62;go_fit (CG _);rintro e w' ⟨rfl,hb⟩;refine m6d ?_;clear hb T0 hB;intro hb T0 hB))
  exact sZtp113
 | true=>
  rw[hg] at CG
  by_cases hz:(qi5 f g).length=0
  ·(have H1:Hid (qkr f g d=0):=by show _=_;unfold qkr;rw[if_pos hg,if_pos hz]);(have H2:Hid (qk1 f g=10):=by show _=_;unfold qk1;rw[if_pos hg,if_pos hz]);(have hz':((qi5 f g).length:Int)=0:=by omega);clear hz
   go_enter func207,ntmps207
   go_wp2_with (first|(refine qat _ rfl ?_ _ rfl f g T0 ?_;· rfl)|(go_at_call 62;go_fit (CG _);rintro e w' ⟨rfl,hb⟩;refine m6d ?_;clear hb T0 hB;intro hb T0 hB)|(go_at_call 214;go_fit (CL _);rintro e w' ⟨v,rfl,⟨a1,c1,rfl⟩,hI,hb⟩;refine m6d ?_;clear hb T0 hB;intro hb T0 hB))
   exact sZtp113
  ·(have H1:Hid (qkr f g d=((qep (qi5 f g) d:Nat):Int)):=by show _=_;unfold qkr;rw[if_pos hg,if_neg hz]);(have H2:Hid (qk1 f g=0):=by show _=_;unfold qk1;rw[if_pos hg,if_neg hz]);(have hz':(((qi5 f g).length:Int)==0)=false:=by simp;intro h;exact hz (by rw[h];rfl));(have hpos:0<(qi5 f g).length:=by omega);clear hz
   go_enter func207,ntmps207
   go_wp2_with (first|(refine qat _ rfl ?_ _ rfl f g T0 ?_;· rfl)|(go_at_call 62;go_fit (CG _);rintro e w' ⟨rfl,hb⟩;refine m6d ?_;clear hb T0 hB;intro hb T0 hB)|(go_at_call 214;go_fit (CL _);rintro e w' ⟨v,rfl,⟨a1,c1,rfl⟩,hI,hb⟩;refine m6d ?_;clear hb T0 hB;intro hb T0 hB)|(go_at_call 208;refine(qmf _ _ _ d _ hI hpos hd om).mono ?_;rintro e w' ⟨rfl,rfl⟩))
   exact sZtp113
theorem PRow.row0(h:PRow w b (pc f g)):w.rangeAt b 0 [I Z (rowF f 0 0),I Z (rowF f 0 1),I Z (rowF f 0 2),I Z (rowF f 0 3),I Z (rowF f 0 4),I Z (rowF f 0 5)]:=by
 intro j v hv
 match j,hv with
 | 0,hv=>obtain rfl:=Option.some.inj hv;exact h.own 0 om
 | 1,hv=>obtain rfl:=Option.some.inj hv;exact h.own 1 om
 | 2,hv=>obtain rfl:=Option.some.inj hv;exact h.own 2 om
 | 3,hv=>obtain rfl:=Option.some.inj hv;exact h.own 3 om
 | 4,hv=>obtain rfl:=Option.some.inj hv;exact h.own 4 om
 | 5,hv=>obtain rfl:=Option.some.inj hv;exact h.own 5 om
theorem PRow.row1(h:PRow w b (pc f g)):w.rangeAt b 6 [I Z (rowF f 1 0),I Z (rowF f 1 1),I Z (rowF f 1 2),I Z (rowF f 1 3),I Z (rowF f 1 4),I Z (rowF f 1 5)]:=by
 intro j v hv
 match j,hv with
 | 0,hv=>obtain rfl:=Option.some.inj hv;exact h.own 6 om
 | 1,hv=>obtain rfl:=Option.some.inj hv;exact h.own 7 om
 | 2,hv=>obtain rfl:=Option.some.inj hv;exact h.own 8 om
 | 3,hv=>obtain rfl:=Option.some.inj hv;exact h.own 9 om
 | 4,hv=>obtain rfl:=Option.some.inj hv;exact h.own 10 om
 | 5,hv=>obtain rfl:=Option.some.inj hv;exact h.own 11 om
theorem PRow.row2(h:PRow w b (pc f g)):w.rangeAt b 12 [I Z (rowF f 2 0),I Z (rowF f 2 1),I Z (rowF f 2 2),I Z (rowF f 2 3),I Z (rowF f 2 4),I Z (rowF f 2 5)]:=by
 intro j v hv
 match j,hv with
 | 0,hv=>obtain rfl:=Option.some.inj hv;exact h.own 12 om
 | 1,hv=>obtain rfl:=Option.some.inj hv;exact h.own 13 om
 | 2,hv=>obtain rfl:=Option.some.inj hv;exact h.own 14 om
 | 3,hv=>obtain rfl:=Option.some.inj hv;exact h.own 15 om
 | 4,hv=>obtain rfl:=Option.some.inj hv;exact h.own 16 om
 | 5,hv=>obtain rfl:=Option.some.inj hv;exact h.own 17 om
def qdh(f:Nat->Int)(g:Nat->Bool)(s a:Int):Int:=if qcv f=true then(if inR a 3=true/\inR s 8=true then(if g a.toNat=true then 9 else if (qbo (rowF f a.toNat)).length=0 then 10 else 0) else 7) else 2
def qft(f:Nat->Int)(g:Nat->Bool)(s a d:Int):Nat:=if qdh f g s a=0 then qep (qbo (rowF f a.toNat)) d else 0
def qi1(f:Nat->Int)(g:Nat->Bool)(s a d:Int):Nat->Int:=if qdh f g s a=0 then upd f (6*a.toNat+qft f g s a d) (s+1) else f
theorem q8a(f:Nat->Int)(g:Nat->Bool)(s a d e:Int)(h:qdh f g s a=e)(he:e≠0):qft f g s a d=0/\qi1 f g s a d=f:=by
 unfold qi1 qft;rw[if_neg om,if_neg om];exact⟨rfl,rfl⟩
theorem q5w(f:Nat->Int)(g:Nat->Bool)(s d:Int)(a:Nat)(h:qdh f g s a=0):qft f g s a d=qep (qbo (rowF f a)) d/\qi1 f g s a d=upd f (6*a+qep (qbo (rowF f a)) d) (s+1):=by
 (have e:qft f g s a d=qep (qbo (rowF f a)) d:=by unfold qft;rw[if_pos h,Int.toNat_natCast])
 refine⟨e,?_⟩
 unfold qi1;rw[if_pos h,e,Int.toNat_natCast]
theorem q1y(h:qcv f=false):qdh f g s a=2:=by unfold qdh;rw[if_neg (by simp[h])]
theorem qzh(h:qcv f=true)(h1:¬(inR a 3=true/\inR s 8=true)):qdh f g s a=7:=by unfold qdh;rw[if_pos h,if_neg h1]
theorem qqf{a:Nat}(h:qcv f=true)(h1:a<3)(h2:inR s 8=true)(h3:g a=true):qdh f g s a=9:=by
 unfold qdh;rw[if_pos h,if_pos ⟨qed om om,h2⟩,Int.toNat_natCast,if_pos h3]
theorem qnz{a:Nat}(h:qcv f=true)(h1:a<3)(h2:inR s 8=true)(h3:g a=false)(h4:(qbo (rowF f a)).length=0):qdh f g s a=10:=by
 unfold qdh;rw[if_pos h,if_pos ⟨qed om om,h2⟩,Int.toNat_natCast,if_neg (by simp[h3]),if_pos h4]
theorem qqu{a:Nat}(h:qcv f=true)(h1:a<3)(h2:inR s 8=true)(h3:g a=false)(h4:(qbo (rowF f a)).length≠0):qdh f g s a=0:=by
 unfold qdh;rw[if_pos h,if_pos ⟨qed om om,h2⟩,Int.toNat_natCast,if_neg (by simp[h3]),if_neg h4]
def qet(f:Nat->Int)(g:Nat->Bool)(s a d:Int):Value:=.tuple #[plv (qi1 f g s a d) g,I Z ((qft f g s a d:Nat):Int),I Z (qdh f g s a)]
theorem qg4(h:qdh f g s a=e)(he:e≠0):qet f g s a d=.tuple #[plv f g,I Z 0,I Z e]:=by
 obtain⟨h1,h2⟩:=q8a f g s a d e h he
 unfold qet;rw[h1,h2,h];rfl
theorem qo3{a:Nat}(h:qdh f g s a=0):qet f g s a d=.tuple #[plv (upd f (6*a+qep (qbo (rowF f a)) d) (s+1)) g,I Z ((qep (qbo (rowF f a)) d:Nat):Int),I Z 0]:=by
 obtain⟨h1,h2⟩:=q5w f g s d a h
 unfold qet;rw[h1,h2,h]
theorem sZtp15(h:p:=by
 refine m17 ?_;intro h8 e8
 rw[e8] at h8
 exact h8):p:=h
theorem qtm(f:Nat->Int)(g:Nat->Bool)(s a d:Int)(hd:(Lit.int .i64 d).wf=true)(w:World):
  Calls prog 189 #[plv f g,.int .i64 s,.int .i64 a,.int .i64 d] w fun e w'=>e=.returned (qet f g s a d)/\Below w.heap.size w w':=by
 have T0:PRow ((w.alloc (.cells (pc f g) 35)).alloc (.cells #[.int .i64 0,.int .i64 0,.int .i64 0,.int .i64 0,.int .i64 0,.int .i64 0,.int .i64 0,.int .i64 0,.int .i64 0,.int .i64 0,.int .i64 0,.int .i64 0,.int .i64 0,.int .i64 0,.int .i64 0,.int .i64 0,.int .i64 0,.int .i64 0,.bool false,.bool false,.bool false] 35)) w.heap.size (pc f g):=(PRow.new _ _).alloc _
 have T8:PRow ((w.alloc (.cells (pc f g) 35)).alloc (.cells #[.int .i64 0,.int .i64 0,.int .i64 0,.int .i64 0,.int .i64 0,.int .i64 0,.int .i64 0,.int .i64 0,.int .i64 0,.int .i64 0,.int .i64 0,.int .i64 0,.int .i64 0,.int .i64 0,.int .i64 0,.int .i64 0,.int .i64 0,.int .i64 0,.bool false,.bool false,.bool false] 35)) (w.heap.size+1) (pc (fun _=>0) (fun _=>false)):=by
  exact sZtp15
 refine m0c ?_;intro hB;(have CG:=fun w=>qni f g w);(have CA:=fun w=>qe7 a w);(have CS:=fun w=>qlq s w)
 unfold plv at CG
 unfold plv
 cases hgp:qcv f with
 | false=>
  have HS:Hid (qet f g s a d=_):=qg4 (q1y hgp) om
  rw[hgp] at CG
  go_enter func189,ntmps189
  go_wp2_with (first|(refine qat _ rfl ?_ _ rfl f g T0 ?_;· rfl)|(refine m0d ?_;clear T0 hB;intro w8 T8 hs8 hk8 hb8 T0 hB)|(go_at_call 62;refine m08 ?_;clear T0 T8 hB;intro w' hb T0 T8 hB))
  (refine m03 ?_;refine bodyPost_ret (qc6 rfl _ _ _ _ _ rfl T8) rfl ⟨?_,hB⟩)
  rw[HS.out];rfl
 | true=>
  rw[hgp] at CG
  by_cases hin:inR a 3=true/\inR s 8=true
  rotate_left
  ·have HS:Hid (qet f g s a d=_):=qg4 (qzh hgp hin) om;clear hgp
   cases ha:inR a 3 with
   | false=>
    rw[ha] at CA
    go_enter func189,ntmps189
    go_wp2_with (first|(refine qat _ rfl ?_ _ rfl f g T0 ?_;· rfl)|(refine m0d ?_;clear T0 hB;intro w8 T8 hs8 hk8 hb8 T0 hB)|(go_at_call 62;refine m08 ?_;clear T0 T8 hB;intro w' hb T0 T8 hB)|(go_at_call 78;go_fit (CA _);rintro e w' ⟨rfl,rfl⟩))
    (refine m03 ?_;refine bodyPost_ret (qc6 rfl _ _ _ _ _ rfl T8) rfl ⟨?_,hB⟩)
    rw[HS.out];rfl
   | true=>
    have hs:inR s 8=false:=by
     cases h:inR s 8 with
     | false=>rfl
     | true=>exact absurd ⟨ha,h⟩ hin
    rw[ha] at CA
    rw[hs] at CS
    go_enter func189,ntmps189
    go_wp2_with (first|(refine qat _ rfl ?_ _ rfl f g T0 ?_;· rfl)|(refine m0d ?_;clear T0 hB;intro w8 T8 hs8 hk8 hb8 T0 hB)|(go_at_call 62;refine m08 ?_;clear T0 T8 hB;intro w' hb T0 T8 hB)|(go_at_call 78;go_fit (CA _);rintro e w' ⟨rfl,rfl⟩)|(go_at_call 202;go_fit (CS _);rintro e w' ⟨rfl,rfl⟩))
    (refine m03 ?_;refine bodyPost_ret (qc6 rfl _ _ _ _ _ rfl T8) rfl ⟨?_,hB⟩)
    rw[HS.out];rfl
  obtain⟨hia,his⟩:=hin;have hba:0<=a/\a<3:=of_decide_eq_true hia;have hbs:0<=s/\s<8:=of_decide_eq_true his
  rw[hia] at CA
  rw[his] at CS
  obtain⟨n,rfl⟩:∃n:Nat,a=n:=⟨a.toNat,by omega⟩
  (have hn:n<3:=by omega);have hs0:0<=s:=hbs.1;(have hs7:s<=7:=by omega)
  rcases(show n=0\/n=1\/n=2 by omega) with rfl|rfl|rfl
  ·(have CF:=fun w=>qjc (rowF f 0) w)
   skip
   have dr:=T0.dr 0 om;have hfl:=qks (rowF f 0) 6;have hfl':(qbo (rowF f 0)).length<=6:=hfl;clear hfl
   cases hg:g 0 with
   | true=>
    have HS:Hid (qet f g s ((0:Nat):Int) d=_):=qg4 (qqf hgp hn his hg) om
    rw[hg] at dr
    clear hgp hia his
    go_enter func189,ntmps189
    go_wp2_with (first|(refine qat _ rfl ?_ _ rfl f g T0 ?_;· rfl)|(refine m0d ?_;clear T0 hB;intro w8 T8 hs8 hk8 hb8 T0 hB)|(go_at_call 62;refine m08 ?_;clear T0 T8 hB;intro w' hb T0 T8 hB;replace dr:=T0.dr 0 om;rw[hg] at dr)|(go_at_call 78;go_fit (CA _);rintro e w' ⟨rfl,rfl⟩)|(go_at_call 202;go_fit (CS _);rintro e w' ⟨rfl,rfl⟩))
    (refine m03 ?_;refine bodyPost_ret (qc6 rfl _ _ _ _ _ rfl T8) rfl ⟨?_,hB⟩)
    rw[HS.out];rfl
   | false=>
    rw[hg] at dr
    by_cases hz:(qbo (rowF f 0)).length=0
    ·have HS:Hid (qet f g s ((0:Nat):Int) d=_):=qg4 (qnz hgp hn his hg hz) om;(have hz':((qbo (rowF f 0)).length:Int)=0:=by omega);clear hgp hia his hz
     go_enter func189,ntmps189
     go_wp2_with (first|(refine qat _ rfl ?_ _ rfl f g T0 ?_;· rfl)|(refine m0d ?_;clear T0 hB;intro w8 T8 hs8 hk8 hb8 T0 hB)|(refine wpList_load_mid rfl 31 _ rfl _ 0 rfl [.int .i64 (rowF f 0 0),.int .i64 (rowF f 0 1),.int .i64 (rowF f 0 2),.int .i64 (rowF f 0 3),.int .i64 (rowF f 0 4),.int .i64 (rowF f 0 5)] _ (T0.row0) underlying31 rfl kr ?_)|(go_at_call 62;refine m08 ?_;clear T0 T8 hB;intro w' hb T0 T8 hB;replace dr:=T0.dr 0 om;rw[hg] at dr)|(go_at_call 78;go_fit (CA _);rintro e w' ⟨rfl,rfl⟩)|(go_at_call 202;go_fit (CS _);rintro e w' ⟨rfl,rfl⟩)|(go_at_call 79;go_fit (CF _);rintro e w' ⟨v,rfl,⟨a1,c1,rfl⟩,hI,hb⟩;refine m2r ?_;clear hb T0 T8 hB;intro hb T0 T8 hB))
     (refine m03 ?_;refine bodyPost_ret (qc6 rfl _ _ _ _ _ rfl T8) rfl ⟨?_,hB⟩)
     rw[HS.out];rfl
    ·have HS:Hid (qet f g s ((0:Nat):Int) d=_):=qo3 (qqu hgp hn his hg hz);(have hpos:0<(qbo (rowF f 0)).length:=by omega);(have hz':(((qbo (rowF f 0)).length:Int)==0)=false:=by simp;intro h;rw[h] at hpos;simp at hpos)
     obtain⟨K,hK⟩:∃K,qep (qbo (rowF f 0)) d=K:=⟨_,rfl⟩
     have hm:=qj8 _ _ (qiu (qbo (rowF f 0)) d hpos)
     rw[hK] at hm
     refine m7h ?_;intro hK6 hK0 hs1
     replace HS:Hid (qet f g s ((0:Nat):Int) d=.tuple #[plv (upd f (K) (s+1)) g,.int .i64 (K:Int),.int .i64 0]):=by
      show _=_
      rw[HS.out,hK];simp
     have hm6:K<6:=hm.1;clear hgp hia his hz hm
     go_enter func189,ntmps189
     go_wp2_with (first|(refine qat _ rfl ?_ _ rfl f g T0 ?_;· rfl)|(refine m0d ?_;clear T0 hB;intro w8 T8 hs8 hk8 hb8 T0 hB)|(replace T0:=T0.upd (K) (s+1) om;replace T8:=T8.other (o:=K) (v:=.int .i64 (s+1)) (show w.heap.size+1≠w.heap.size by omega);replace hB:=hB.setCell (p:=⟨w.heap.size,K,none⟩) (Nat.le_refl _) (.int .i64 (s+1));refine qat _ rfl ?_ _ rfl (upd f (K) (s+1)) g T0 ?_;· rfl)|(refine qay rfl _ _ rfl _ rfl (upd f (K) (s+1)) g rfl _ T8 rfl ?_;intro w8 T8 hs8 hk8 hb8;replace hB:=hb8 _ _ om hB)|(refine wpList_load_mid rfl 31 _ rfl _ 0 rfl [.int .i64 (rowF f 0 0),.int .i64 (rowF f 0 1),.int .i64 (rowF f 0 2),.int .i64 (rowF f 0 3),.int .i64 (rowF f 0 4),.int .i64 (rowF f 0 5)] _ (T0.row0) underlying31 rfl kr ?_)|(go_at_call 62;refine m08 ?_;clear T0 T8 hB;intro w' hb T0 T8 hB;replace dr:=T0.dr 0 om;rw[hg] at dr)|(go_at_call 78;go_fit (CA _);rintro e w' ⟨rfl,rfl⟩)|(go_at_call 202;go_fit (CS _);rintro e w' ⟨rfl,rfl⟩)|(go_at_call 79;go_fit (CF _);rintro e w' ⟨v,rfl,⟨a1,c1,rfl⟩,hI,hb⟩;refine m2r ?_;clear hb T0 T8 hB;intro hb T0 T8 hB;have cw:=T0.own (K) om;have fw:=T0.free (K))|(go_at_call 208;refine(qmf _ _ _ d _ hI hpos hd om).mono ?_;rintro e w' ⟨rfl,rfl⟩;rw[hK]))
     (refine m03 ?_;refine bodyPost_ret (qc6 rfl _ _ _ _ _ rfl T8) rfl ⟨?_,hB⟩)
     rw[HS.out];rfl
  ·(have CF:=fun w=>qjc (rowF f 1) w)
   skip
   have dr:=T0.dr 1 om;have hfl:=qks (rowF f 1) 6;have hfl':(qbo (rowF f 1)).length<=6:=hfl;clear hfl
   cases hg:g 1 with
   | true=>
    have HS:Hid (qet f g s ((1:Nat):Int) d=_):=qg4 (qqf hgp hn his hg) om
    rw[hg] at dr
    clear hgp hia his
    go_enter func189,ntmps189
    go_wp2_with (first|(refine qat _ rfl ?_ _ rfl f g T0 ?_;· rfl)|(refine m0d ?_;clear T0 hB;intro w8 T8 hs8 hk8 hb8 T0 hB)|(go_at_call 62;refine m08 ?_;clear T0 T8 hB;intro w' hb T0 T8 hB;replace dr:=T0.dr 1 om;rw[hg] at dr)|(go_at_call 78;go_fit (CA _);rintro e w' ⟨rfl,rfl⟩)|(go_at_call 202;go_fit (CS _);rintro e w' ⟨rfl,rfl⟩))
    (refine m03 ?_;refine bodyPost_ret (qc6 rfl _ _ _ _ _ rfl T8) rfl ⟨?_,hB⟩)
    rw[HS.out];rfl
   | false=>
    rw[hg] at dr
    by_cases hz:(qbo (rowF f 1)).length=0
    ·have HS:Hid (qet f g s ((1:Nat):Int) d=_):=qg4 (qnz hgp hn his hg hz) om;(have hz':((qbo (rowF f 1)).length:Int)=0:=by omega);clear hgp hia his hz
     go_enter func189,ntmps189
     go_wp2_with (first|(refine qat _ rfl ?_ _ rfl f g T0 ?_;· rfl)|(refine m0d ?_;clear T0 hB;intro w8 T8 hs8 hk8 hb8 T0 hB)|(refine wpList_load_mid rfl 31 _ rfl _ 6 rfl [.int .i64 (rowF f 1 0),.int .i64 (rowF f 1 1),.int .i64 (rowF f 1 2),.int .i64 (rowF f 1 3),.int .i64 (rowF f 1 4),.int .i64 (rowF f 1 5)] _ (T0.row1) underlying31 rfl kr ?_)|(go_at_call 62;refine m08 ?_;clear T0 T8 hB;intro w' hb T0 T8 hB;replace dr:=T0.dr 1 om;rw[hg] at dr)|(go_at_call 78;go_fit (CA _);rintro e w' ⟨rfl,rfl⟩)|(go_at_call 202;go_fit (CS _);rintro e w' ⟨rfl,rfl⟩)|(go_at_call 79;go_fit (CF _);rintro e w' ⟨v,rfl,⟨a1,c1,rfl⟩,hI,hb⟩;refine m2r ?_;clear hb T0 T8 hB;intro hb T0 T8 hB))
     (refine m03 ?_;refine bodyPost_ret (qc6 rfl _ _ _ _ _ rfl T8) rfl ⟨?_,hB⟩)
     rw[HS.out];rfl
    ·have HS:Hid (qet f g s ((1:Nat):Int) d=_):=qo3 (qqu hgp hn his hg hz);(have hpos:0<(qbo (rowF f 1)).length:=by omega);(have hz':(((qbo (rowF f 1)).length:Int)==0)=false:=by simp;intro h;rw[h] at hpos;simp at hpos)
     obtain⟨K,hK⟩:∃K,qep (qbo (rowF f 1)) d=K:=⟨_,rfl⟩
     have hm:=qj8 _ _ (qiu (qbo (rowF f 1)) d hpos)
     rw[hK] at hm
     refine m7h ?_;intro hK6 hK0 hs1
     replace HS:Hid (qet f g s ((1:Nat):Int) d=.tuple #[plv (upd f (6+K) (s+1)) g,.int .i64 (K:Int),.int .i64 0]):=by
      show _=_
      rw[HS.out,hK]
     have hm6:K<6:=hm.1;clear hgp hia his hz hm
     go_enter func189,ntmps189
     go_wp2_with (first|(refine qat _ rfl ?_ _ rfl f g T0 ?_;· rfl)|(refine m0d ?_;clear T0 hB;intro w8 T8 hs8 hk8 hb8 T0 hB)|(replace T0:=T0.upd (6+K) (s+1) om;replace T8:=T8.other (o:=6+K) (v:=.int .i64 (s+1)) (show w.heap.size+1≠w.heap.size by omega);replace hB:=hB.setCell (p:=⟨w.heap.size,6+K,none⟩) (Nat.le_refl _) (.int .i64 (s+1));refine qat _ rfl ?_ _ rfl (upd f (6+K) (s+1)) g T0 ?_;· rfl)|(refine qay rfl _ _ rfl _ rfl (upd f (6+K) (s+1)) g rfl _ T8 rfl ?_;intro w8 T8 hs8 hk8 hb8;replace hB:=hb8 _ _ om hB)|(refine wpList_load_mid rfl 31 _ rfl _ 6 rfl [.int .i64 (rowF f 1 0),.int .i64 (rowF f 1 1),.int .i64 (rowF f 1 2),.int .i64 (rowF f 1 3),.int .i64 (rowF f 1 4),.int .i64 (rowF f 1 5)] _ (T0.row1) underlying31 rfl kr ?_)|(go_at_call 62;refine m08 ?_;clear T0 T8 hB;intro w' hb T0 T8 hB;replace dr:=T0.dr 1 om;rw[hg] at dr)|(go_at_call 78;go_fit (CA _);rintro e w' ⟨rfl,rfl⟩)|(go_at_call 202;go_fit (CS _);rintro e w' ⟨rfl,rfl⟩)|(go_at_call 79;go_fit (CF _);rintro e w' ⟨v,rfl,⟨a1,c1,rfl⟩,hI,hb⟩;refine m2r ?_;clear hb T0 T8 hB;intro hb T0 T8 hB;have cw:=T0.own (6+K) om;have fw:=T0.free (6+K))|(go_at_call 208;refine(qmf _ _ _ d _ hI hpos hd om).mono ?_;rintro e w' ⟨rfl,rfl⟩;rw[hK]))
     (refine m03 ?_;refine bodyPost_ret (qc6 rfl _ _ _ _ _ rfl T8) rfl ⟨?_,hB⟩)
     rw[HS.out];rfl
  ·(have CF:=fun w=>qjc (rowF f 2) w)
   skip
   have dr:=T0.dr 2 om;have hfl:=qks (rowF f 2) 6;have hfl':(qbo (rowF f 2)).length<=6:=hfl;clear hfl
   cases hg:g 2 with
   | true=>
    have HS:Hid (qet f g s ((2:Nat):Int) d=_):=qg4 (qqf hgp hn his hg) om
    rw[hg] at dr
    clear hgp hia his
    go_enter func189,ntmps189
    go_wp2_with (first|(refine qat _ rfl ?_ _ rfl f g T0 ?_;· rfl)|(refine m0d ?_;clear T0 hB;intro w8 T8 hs8 hk8 hb8 T0 hB)|(go_at_call 62;refine m08 ?_;clear T0 T8 hB;intro w' hb T0 T8 hB;replace dr:=T0.dr 2 om;rw[hg] at dr)|(go_at_call 78;go_fit (CA _);rintro e w' ⟨rfl,rfl⟩)|(go_at_call 202;go_fit (CS _);rintro e w' ⟨rfl,rfl⟩))
    (refine m03 ?_;refine bodyPost_ret (qc6 rfl _ _ _ _ _ rfl T8) rfl ⟨?_,hB⟩)
    rw[HS.out];rfl
   | false=>
    rw[hg] at dr
    by_cases hz:(qbo (rowF f 2)).length=0
    ·have HS:Hid (qet f g s ((2:Nat):Int) d=_):=qg4 (qnz hgp hn his hg hz) om;(have hz':((qbo (rowF f 2)).length:Int)=0:=by omega);clear hgp hia his hz
     go_enter func189,ntmps189
     go_wp2_with (first|(refine qat _ rfl ?_ _ rfl f g T0 ?_;· rfl)|(refine m0d ?_;clear T0 hB;intro w8 T8 hs8 hk8 hb8 T0 hB)|(refine wpList_load_mid rfl 31 _ rfl _ 12 rfl [.int .i64 (rowF f 2 0),.int .i64 (rowF f 2 1),.int .i64 (rowF f 2 2),.int .i64 (rowF f 2 3),.int .i64 (rowF f 2 4),.int .i64 (rowF f 2 5)] _ (T0.row2) underlying31 rfl kr ?_)|(go_at_call 62;refine m08 ?_;clear T0 T8 hB;intro w' hb T0 T8 hB;replace dr:=T0.dr 2 om;rw[hg] at dr)|(go_at_call 78;go_fit (CA _);rintro e w' ⟨rfl,rfl⟩)|(go_at_call 202;go_fit (CS _);rintro e w' ⟨rfl,rfl⟩)|(go_at_call 79;go_fit (CF _);rintro e w' ⟨v,rfl,⟨a1,c1,rfl⟩,hI,hb⟩;refine m2r ?_;clear hb T0 T8 hB;intro hb T0 T8 hB))
     (refine m03 ?_;refine bodyPost_ret (qc6 rfl _ _ _ _ _ rfl T8) rfl ⟨?_,hB⟩)
     rw[HS.out];rfl
    ·have HS:Hid (qet f g s ((2:Nat):Int) d=_):=qo3 (qqu hgp hn his hg hz);(have hpos:0<(qbo (rowF f 2)).length:=by omega);(have hz':(((qbo (rowF f 2)).length:Int)==0)=false:=by simp;intro h;rw[h] at hpos;simp at hpos)
     obtain⟨K,hK⟩:∃K,qep (qbo (rowF f 2)) d=K:=⟨_,rfl⟩
     have hm:=qj8 _ _ (qiu (qbo (rowF f 2)) d hpos)
     rw[hK] at hm
     refine m7h ?_;intro hK6 hK0 hs1
     replace HS:Hid (qet f g s ((2:Nat):Int) d=.tuple #[plv (upd f (12+K) (s+1)) g,.int .i64 (K:Int),.int .i64 0]):=by
      show _=_
      rw[HS.out,hK]
     have hm6:K<6:=hm.1;clear hgp hia his hz hm
     go_enter func189,ntmps189
     go_wp2_with (first|(refine qat _ rfl ?_ _ rfl f g T0 ?_;· rfl)|(refine m0d ?_;clear T0 hB;intro w8 T8 hs8 hk8 hb8 T0 hB)|(replace T0:=T0.upd (12+K) (s+1) om;replace T8:=T8.other (o:=12+K) (v:=.int .i64 (s+1)) (show w.heap.size+1≠w.heap.size by omega);replace hB:=hB.setCell (p:=⟨w.heap.size,12+K,none⟩) (Nat.le_refl _) (.int .i64 (s+1));refine qat _ rfl ?_ _ rfl (upd f (12+K) (s+1)) g T0 ?_;· rfl)|(refine qay rfl _ _ rfl _ rfl (upd f (12+K) (s+1)) g rfl _ T8 rfl ?_;intro w8 T8 hs8 hk8 hb8;replace hB:=hb8 _ _ om hB)|(refine wpList_load_mid rfl 31 _ rfl _ 12 rfl [.int .i64 (rowF f 2 0),.int .i64 (rowF f 2 1),.int .i64 (rowF f 2 2),.int .i64 (rowF f 2 3),.int .i64 (rowF f 2 4),.int .i64 (rowF f 2 5)] _ (T0.row2) underlying31 rfl kr ?_)|(go_at_call 62;refine m08 ?_;clear T0 T8 hB;intro w' hb T0 T8 hB;replace dr:=T0.dr 2 om;rw[hg] at dr)|(go_at_call 78;go_fit (CA _);rintro e w' ⟨rfl,rfl⟩)|(go_at_call 202;go_fit (CS _);rintro e w' ⟨rfl,rfl⟩)|(go_at_call 79;go_fit (CF _);rintro e w' ⟨v,rfl,⟨a1,c1,rfl⟩,hI,hb⟩;refine m2r ?_;clear hb T0 T8 hB;intro hb T0 T8 hB;have cw:=T0.own (12+K) om;have fw:=T0.free (12+K))|(go_at_call 208;refine(qmf _ _ _ d _ hI hpos hd om).mono ?_;rintro e w' ⟨rfl,rfl⟩;rw[hK]))
     (refine m03 ?_;refine bodyPost_ret (qc6 rfl _ _ _ _ _ rfl T8) rfl ⟨?_,hB⟩)
     rw[HS.out];rfl
def wfF(f:Nat->Int):Prop:=∀i,i<18->(Lit.int .i64 (f i)).wf=true
theorem qs8(f:Nat->Int)(g:Nat->Bool)(hf:wfF f):prog.keyLits 4 35 (Value.agg (pc f g)).cells.toList=some [.int .i64 (f 0),.int .i64 (f 1),.int .i64 (f 2),.int .i64 (f 3),.int .i64 (f 4),.int .i64 (f 5),.int .i64 (f 6),.int .i64 (f 7),.int .i64 (f 8),.int .i64 (f 9),.int .i64 (f 10),.int .i64 (f 11),.int .i64 (f 12),.int .i64 (f 13),.int .i64 (f 14),.int .i64 (f 15),.int .i64 (f 16),.int .i64 (f 17),.bool (g 0),.bool (g 1),.bool (g 2)]:=by
 (have c47:prog.cellsOf 35=21:=by kernel_rfl);(have c44:prog.cellsOf 32=18:=by kernel_rfl);(have c43:prog.cellsOf 31=6:=by kernel_rfl);(have c45:prog.cellsOf 33=3:=by kernel_rfl);(have c3:prog.cellsOf 3=1:=by kernel_rfl);(have c4:prog.cellsOf 4=1:=by kernel_rfl);have h0:=hf 0 om;have h1:=hf 1 om;have h2:=hf 2 om;have h3:=hf 3 om;have h4:=hf 4 om;have h5:=hf 5 om;have h6:=hf 6 om;have h7:=hf 7 om;have h8:=hf 8 om;have h9:=hf 9 om;have h10:=hf 10 om;have h11:=hf 11 om;have h12:=hf 12 om;have h13:=hf 13 om;have h14:=hf 14 om;have h15:=hf 15 om;have h16:=hf 16 om;have h17:=hf 17 om
 simp[Program.keyLits,Value.cells,pc,underlying35,underlying32,underlying31,underlying33,underlying3,underlying4,c47,c44,c43,c45,c3,c4,List.range,List.range.loop,h0,h1,h2,h3,h4,h5,h6,h7,h8,h9,h10,h11,h12,h13,h14,h15,h16,h17]
theorem q84(f:Nat->Int)(g:Nat->Bool)(hf:wfF f)(w:World):(Op.equalIn 10000 35 (.agg (pc f g)) (.agg (pc f g))).run prog w=.ok true w:=by
 obtain⟨r,h1,h2⟩:=run_equalIn_deep (P:=prog) 9996 4 35 kr w 4 4 (.agg (pc f g)) (.agg (pc f g)) _ _ kr kr (qs8 f g hf) (qs8 f g hf)
 rw[h2.2 rfl] at h1
 exact h1
def qjx(f:Nat->Int)(s a k:Int):Int:=if qcv f=true then(if (inR a 3=true/\inR k 6=true)/\inR s 8=true/\f (6*a.toNat+k.toNat)=s+1 then 0 else 7) else 2
def que(f:Nat->Int)(s a k:Int):Nat->Int:=if qjx f s a k=0 then upd f (6*a.toNat+k.toNat) 0 else f
def qgh(f:Nat->Int)(g:Nat->Bool)(s a k:Int):Value:=.tuple #[plv (que f s a k) g,I Z (qjx f s a k)]
theorem q1s(h:qcv f=false):qjx f s a k=2:=by unfold qjx;rw[if_neg (by simp[h])]
theorem qk6(h:qcv f=true)(h1:¬((inR a 3=true/\inR k 6=true)/\inR s 8=true/\f (6*a.toNat+k.toNat)=s+1)):qjx f s a k=7:=by unfold qjx;rw[if_pos h,if_neg h1]
theorem qno{a k:Nat}(h:qcv f=true)(h1:a<3)(h2:k<6)(h3:inR s 8=true)(h4:f (6*a+k)=s+1):qjx f s a k=0:=by
 unfold qjx;rw[if_pos h,if_pos ⟨⟨qed om om,qed om om⟩,h3,by rw[Int.toNat_natCast,Int.toNat_natCast];exact h4⟩]
theorem qll(h:qjx f s a k=e)(he:e≠0):qgh f g s a k=.tuple #[plv f g,I Z e]:=by
 unfold qgh que;rw[if_neg om,h]
theorem qoz{a k:Nat}(h:qjx f s a k=0):qgh f g s a k=.tuple #[plv (upd f (6*a+k) 0) g,I Z 0]:=by
 unfold qgh que;rw[if_pos h,h,Int.toNat_natCast,Int.toNat_natCast]
theorem sZtp11(h:p:=by
 go_enter func180,ntmps180
 go_wp2_with (first|(refine qat _ rfl ?_ _ rfl f g T0 ?_;· rfl)|(refine m0d ?_;clear T0;intro w8 T8 hs8 hk8 hb8 T0 hB)|(go_at_call 62;refine m08 ?_;clear T0 T8 hB;intro w' hb T0 T8 hB)|(go_at_call 78;go_fit (CA _);rintro e w' ⟨rfl,rfl⟩)|(go_at_call 201;go_fit (CK _);rintro e w' ⟨rfl,rfl⟩)|(go_at_call 202;go_fit (CS _);rintro e w' ⟨rfl,rfl⟩))
 (refine m03 ?_;refine bodyPost_ret (qbw rfl _ _ _ _ _ rfl T8) rfl ⟨?_,hB⟩)
 rw[HS.out];rfl):p:=h
theorem sZtp114(h:p:=by
 show _=_
 rw[qoz (qno hgp hn hK his (by simpa using ho))]):p:=h
theorem quv(f:Nat->Int)(g:Nat->Bool)(s a k:Int)(w:World):
  Calls prog 180 #[plv f g,I Z s,I Z a,I Z k] w fun e w'=>e=.returned (qgh f g s a k)/\Below w.heap.size w w':=by
 have T0:PRow ((w.alloc (.cells (pc f g) 35)).alloc (.cells #[I Z 0,I Z 0,I Z 0,I Z 0,I Z 0,I Z 0,I Z 0,I Z 0,I Z 0,I Z 0,I Z 0,I Z 0,I Z 0,I Z 0,I Z 0,I Z 0,I Z 0,I Z 0,.bool false,.bool false,.bool false] 35)) w.heap.size (pc f g):=(PRow.new _ _).alloc _
 have T8:PRow ((w.alloc (.cells (pc f g) 35)).alloc (.cells #[I Z 0,I Z 0,I Z 0,I Z 0,I Z 0,I Z 0,I Z 0,I Z 0,I Z 0,I Z 0,I Z 0,I Z 0,I Z 0,I Z 0,I Z 0,I Z 0,I Z 0,I Z 0,.bool false,.bool false,.bool false] 35)) (w.heap.size+1) (pc (fun _=>0) (fun _=>false)):=by
  exact sZtp15
 refine m0c ?_;intro hB;(have CG:=fun w=>qni f g w);(have CA:=fun w=>qe7 a w);(have CK:=fun w=>qwv k w);(have CS:=fun w=>qlq s w)
 unfold plv at CG
 unfold plv
 cases hgp:qcv f with
 | false=>
  have HS:Hid (qgh f g s a k=_):=qll (q1s hgp) om
  rw[hgp] at CG
  exact sZtp11
 | true=>
  rw[hgp] at CG
  by_cases hin:(inR a 3=true/\inR k 6=true)/\inR s 8=true
  rotate_left
  ·have HS:Hid (qgh f g s a k=_):=qll (qk6 hgp (fun h=>hin ⟨h.1,h.2.1⟩)) om;clear hgp
   cases ha:inR a 3 with
   | false=>
    rw[ha] at CA
    exact sZtp11
   | true=>
    rw[ha] at CA
    cases hk:inR k 6 with
    | false=>
     rw[hk] at CK
     exact sZtp11
    | true=>
     rw[hk] at CK
     have hs:inR s 8=false:=by
      cases h:inR s 8 with
      | false=>rfl
      | true=>exact absurd ⟨⟨ha,hk⟩,h⟩ hin
     rw[hs] at CS
     exact sZtp11
  obtain⟨⟨hia,hik⟩,his⟩:=hin;have hba:0<=a/\a<3:=of_decide_eq_true hia;have hbk:0<=k/\k<6:=of_decide_eq_true hik;have hbs:0<=s/\s<8:=of_decide_eq_true his
  rw[hia] at CA
  rw[hik] at CK
  rw[his] at CS
  obtain⟨n,rfl⟩:∃n:Nat,a=n:=⟨a.toNat,by omega⟩
  obtain⟨K,rfl⟩:∃K:Nat,k=K:=⟨k.toNat,by omega⟩
  (have hn:n<3:=by omega);(have hK:K<6:=by omega);(have hK6:(K:Int)<6:=by omega);(have hK5:(K:Int)<=5:=by omega);(have hK0:(0:Int)<=(K:Int):=by omega);have hs0:0<=s:=hbs.1;(have hs7:s<=7:=by omega);(have hs1:wrap64 (s+1)=s+1:=by unfold wrap64;omega)
  rcases(show n=0\/n=1\/n=2 by omega) with rfl|rfl|rfl
  ·have cw:=T0.own (K) om;have fw:=T0.free (K)
   by_cases ho:f (K)=s+1
   rotate_left
   ·(have HS:Hid (qgh f g s ((0:Nat):Int) (K:Int)=_):=qll (qk6 hgp (fun h=>ho (by have:=h.2.2;rw[Int.toNat_natCast,Int.toNat_natCast] at this;simpa using this))) om);(have hne:(f (K) != s+1)=true:=by simpa using ho);clear ho hgp hia hik his
    go_enter func180,ntmps180
    go_wp2_with (first|(refine qat _ rfl ?_ _ rfl f g T0 ?_;· rfl)|(refine m0d ?_;clear T0 hB;intro w8 T8 hs8 hk8 hb8 T0 hB)|(go_at_call 62;refine m08 ?_;clear T0 T8 hB;intro w' hb T0 T8 hB;replace cw:=T0.own (K) om;replace fw:=T0.free (K))|(go_at_call 78;go_fit (CA _);rintro e w' ⟨rfl,rfl⟩)|(go_at_call 201;go_fit (CK _);rintro e w' ⟨rfl,rfl⟩)|(go_at_call 202;go_fit (CS _);rintro e w' ⟨rfl,rfl⟩))
    (refine m03 ?_;refine bodyPost_ret (qbw rfl _ _ _ _ _ rfl T8) rfl ⟨?_,hB⟩)
    rw[HS.out];rfl
   ·have HS:Hid (qgh f g s ((0:Nat):Int) (K:Int)=.tuple #[plv (upd f (K) 0) g,I Z 0]):=by
     show _=_
     rw[qoz (qno hgp hn hK his (by simpa using ho))];simp
    (have hne:(f (K) != s+1)=false:=by simpa using ho);clear ho hgp hia hik his
    go_enter func180,ntmps180
    go_wp2_with (first|(refine qat _ rfl ?_ _ rfl f g T0 ?_;· rfl)|(refine m0d ?_;clear T0 hB;intro w8 T8 hs8 hk8 hb8 T0 hB)|(replace T0:=T0.upd (K) (0) om;replace T8:=T8.other (o:=K) (v:=I Z (0)) (show w.heap.size+1≠w.heap.size by omega);replace hB:=hB.setCell (p:=⟨w.heap.size,K,none⟩) (Nat.le_refl _) (I Z (0));refine qat _ rfl ?_ _ rfl (upd f (K) (0)) g T0 ?_;· rfl)|(refine qay rfl _ _ rfl _ rfl (upd f (K) (0)) g rfl _ T8 rfl ?_;intro w8 T8 hs8 hk8 hb8;replace hB:=hb8 _ _ om hB)|(go_at_call 62;refine m08 ?_;clear T0 T8 hB;intro w' hb T0 T8 hB;replace cw:=T0.own (K) om;replace fw:=T0.free (K))|(go_at_call 78;go_fit (CA _);rintro e w' ⟨rfl,rfl⟩)|(go_at_call 201;go_fit (CK _);rintro e w' ⟨rfl,rfl⟩)|(go_at_call 202;go_fit (CS _);rintro e w' ⟨rfl,rfl⟩))
    (refine m03 ?_;refine bodyPost_ret (qbw rfl _ _ _ _ _ rfl T8) rfl ⟨?_,hB⟩)
    rw[HS.out];rfl
  ·have cw:=T0.own (6+K) om;have fw:=T0.free (6+K)
   by_cases ho:f (6+K)=s+1
   rotate_left
   ·(have HS:Hid (qgh f g s ((1:Nat):Int) (K:Int)=_):=qll (qk6 hgp (fun h=>ho (by have:=h.2.2;rw[Int.toNat_natCast,Int.toNat_natCast] at this;simpa using this))) om);(have hne:(f (6+K) != s+1)=true:=by simpa using ho);clear ho hgp hia hik his
    go_enter func180,ntmps180
    go_wp2_with (first|(refine qat _ rfl ?_ _ rfl f g T0 ?_;· rfl)|(refine m0d ?_;clear T0 hB;intro w8 T8 hs8 hk8 hb8 T0 hB)|(go_at_call 62;refine m08 ?_;clear T0 T8 hB;intro w' hb T0 T8 hB;replace cw:=T0.own (6+K) om;replace fw:=T0.free (6+K))|(go_at_call 78;go_fit (CA _);rintro e w' ⟨rfl,rfl⟩)|(go_at_call 201;go_fit (CK _);rintro e w' ⟨rfl,rfl⟩)|(go_at_call 202;go_fit (CS _);rintro e w' ⟨rfl,rfl⟩))
    (refine m03 ?_;refine bodyPost_ret (qbw rfl _ _ _ _ _ rfl T8) rfl ⟨?_,hB⟩)
    rw[HS.out];rfl
   ·have HS:Hid (qgh f g s ((1:Nat):Int) (K:Int)=.tuple #[plv (upd f (6+K) 0) g,I Z 0]):=by
     exact sZtp114
    (have hne:(f (6+K) != s+1)=false:=by simpa using ho);clear ho hgp hia hik his
    go_enter func180,ntmps180
    go_wp2_with (first|(refine qat _ rfl ?_ _ rfl f g T0 ?_;· rfl)|(refine m0d ?_;clear T0 hB;intro w8 T8 hs8 hk8 hb8 T0 hB)|(replace T0:=T0.upd (6+K) (0) om;replace T8:=T8.other (o:=6+K) (v:=I Z (0)) (show w.heap.size+1≠w.heap.size by omega);replace hB:=hB.setCell (p:=⟨w.heap.size,6+K,none⟩) (Nat.le_refl _) (I Z (0));refine qat _ rfl ?_ _ rfl (upd f (6+K) (0)) g T0 ?_;· rfl)|(refine qay rfl _ _ rfl _ rfl (upd f (6+K) (0)) g rfl _ T8 rfl ?_;intro w8 T8 hs8 hk8 hb8;replace hB:=hb8 _ _ om hB)|(go_at_call 62;refine m08 ?_;clear T0 T8 hB;intro w' hb T0 T8 hB;replace cw:=T0.own (6+K) om;replace fw:=T0.free (6+K))|(go_at_call 78;go_fit (CA _);rintro e w' ⟨rfl,rfl⟩)|(go_at_call 201;go_fit (CK _);rintro e w' ⟨rfl,rfl⟩)|(go_at_call 202;go_fit (CS _);rintro e w' ⟨rfl,rfl⟩))
    (refine m03 ?_;refine bodyPost_ret (qbw rfl _ _ _ _ _ rfl T8) rfl ⟨?_,hB⟩)
    rw[HS.out];rfl
  ·have cw:=T0.own (12+K) om;have fw:=T0.free (12+K)
   by_cases ho:f (12+K)=s+1
   rotate_left
   ·(have HS:Hid (qgh f g s ((2:Nat):Int) (K:Int)=_):=qll (qk6 hgp (fun h=>ho (by have:=h.2.2;rw[Int.toNat_natCast,Int.toNat_natCast] at this;simpa using this))) om);(have hne:(f (12+K) != s+1)=true:=by simpa using ho);clear ho hgp hia hik his
    go_enter func180,ntmps180
    go_wp2_with (first|(refine qat _ rfl ?_ _ rfl f g T0 ?_;· rfl)|(refine m0d ?_;clear T0 hB;intro w8 T8 hs8 hk8 hb8 T0 hB)|(go_at_call 62;refine m08 ?_;clear T0 T8 hB;intro w' hb T0 T8 hB;replace cw:=T0.own (12+K) om;replace fw:=T0.free (12+K))|(go_at_call 78;go_fit (CA _);rintro e w' ⟨rfl,rfl⟩)|(go_at_call 201;go_fit (CK _);rintro e w' ⟨rfl,rfl⟩)|(go_at_call 202;go_fit (CS _);rintro e w' ⟨rfl,rfl⟩))
    (refine m03 ?_;refine bodyPost_ret (qbw rfl _ _ _ _ _ rfl T8) rfl ⟨?_,hB⟩)
    rw[HS.out];rfl
   ·have HS:Hid (qgh f g s ((2:Nat):Int) (K:Int)=.tuple #[plv (upd f (12+K) 0) g,I Z 0]):=by
     exact sZtp114
    (have hne:(f (12+K) != s+1)=false:=by simpa using ho);clear ho hgp hia hik his
    go_enter func180,ntmps180
    go_wp2_with (first|(refine qat _ rfl ?_ _ rfl f g T0 ?_;· rfl)|(refine m0d ?_;clear T0 hB;intro w8 T8 hs8 hk8 hb8 T0 hB)|(replace T0:=T0.upd (12+K) (0) om;replace T8:=T8.other (o:=12+K) (v:=I Z (0)) (show w.heap.size+1≠w.heap.size by omega);replace hB:=hB.setCell (p:=⟨w.heap.size,12+K,none⟩) (Nat.le_refl _) (I Z (0));refine qat _ rfl ?_ _ rfl (upd f (12+K) (0)) g T0 ?_;· rfl)|(refine qay rfl _ _ rfl _ rfl (upd f (12+K) (0)) g rfl _ T8 rfl ?_;intro w8 T8 hs8 hk8 hb8;replace hB:=hb8 _ _ om hB)|(go_at_call 62;refine m08 ?_;clear T0 T8 hB;intro w' hb T0 T8 hB;replace cw:=T0.own (12+K) om;replace fw:=T0.free (12+K))|(go_at_call 78;go_fit (CA _);rintro e w' ⟨rfl,rfl⟩)|(go_at_call 201;go_fit (CK _);rintro e w' ⟨rfl,rfl⟩)|(go_at_call 202;go_fit (CS _);rintro e w' ⟨rfl,rfl⟩))
    (refine m03 ?_;refine bodyPost_ret (qbw rfl _ _ _ _ _ rfl T8) rfl ⟨?_,hB⟩)
    rw[HS.out];rfl
end Go.Proofs.YtonnjgmognbnbaaGreatDoor
