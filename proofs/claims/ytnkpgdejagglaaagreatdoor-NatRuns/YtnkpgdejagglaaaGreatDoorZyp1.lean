/-
  Of what a law stands on.
-/
import Derived.Test.YtnkpgdejagglaaaGreatDoorProg
import Derived.WalkKit
import Derived.ProofKit
import Derived.OpenShut
import Derived.Below
import Derived.Laws.AppendOwn
import Derived.Deep.DeepFit
import Derived.Deep.DeepCutAuto
import Derived.Deep.MidRow
import Derived.Laws.CopyOwn
import Derived.Test.YtnkpgdejagglaaaGreatDoorZym
set_option linter.all false
namespace Go.Proofs.YtnkpgdejagglaaaGreatDoor
open _root_.Bool renaming and_eq_true->eB
open _root_.Go renaming Calls->az,Value->ag,World->af,maxLen->jt,results->eQ,undef->gW,wpList->aM,wpList_append_own->dp
open _root_.Go.Proofs.Tryz renaming prog->ah
open _root_.Go.RowKit renaming Below->aq,Hid->aK,intOf->cY
open Go.Value renaming int → I,pointer → V
open Go.IntKind renaming i64 → Z
open _root_.Go.Proofs.Tryz Go.ChangeShapes Go.WideShapes Go.ChangeAt Go.RowKit
set_option maxHeartbeats 16000000
set_option maxRecDepth 100000
variable {f:Nat->Int}{a n:Int}{w w':World}{b base:Nat}{v:Value}{l:List Nat}{p:Prop}{cs:Array Value}{g:Nat->Bool}{o:Oper}{ops:Array Oper}{rest:List Oper}{Q:Exit->Act->World->Prop}{fn:Func}{t:Tmp}
def pc(f:Nat->Int)(g:Nat->Bool):Array ag:=#[I Z (f 0),I Z (f 1),I Z (f 2),I Z (f 3),I Z (f 4),I Z (f 5),I Z (f 6),I Z (f 7),I Z (f 8),I Z (f 9),I Z (f 10),I Z (f 11),I Z (f 12),I Z (f 13),I Z (f 14),I Z (f 15),I Z (f 16),I Z (f 17),.bool (g 0),.bool (g 1),.bool (g 2)]
def gg(f:Nat->Int)(g:Nat->Bool):ag:=.agg (pc f g)
def uO(f:Nat->Int)(n:Nat):Prop:=∀i,i<n->0<=f i/\f i<=8
def iX(f:Nat->Int):Bool:=(List.range 18).all fun i=>decide (0<=f i)&&decide (f i<=8)
def qxn(f:Nat->Int):uO f 0:=fun i h=>absurd h (Nat.not_lt_zero i)
theorem qmj{n:Nat}(h:uO f n)(h0:0<=f n)(h8:f n<=8):uO f (n+1):=by grind [uO]
theorem X3(h:uO f 18):iX f=true:=by grind [uO,iX]
theorem PF(i:Nat)(hi:i<18)(h:f i<0\/8<f i):iX f=false:=by grind [iX]
theorem GN(h:iX f=true):uO f 18:=by grind [iX,uO]
def ko(h:Nat->Int)(n:Nat):List Nat:=(List.range n).filter fun k=>h k==0
def fD(h:Nat->Int):List Nat:=ko h 6
theorem Iy(h:Nat->Int)(n:Nat):ko h (n+1)=ko h n++if h n==0 then [n] else []:=by
 unfold ko;rw[List.range_succ,List.filter_append];simp[List.filter];split<;>simp_all
theorem PG(h:Nat->Int)(n:Nat):(ko h n).length<=n:=by grind [ko]
theorem P9(h:Nat->Int)(k:Nat)(hk:k∈fD h):k<6/\h k=0:=by grind [fD,ko]
def ic(l:List Nat):List ag:=l.map fun(k:Nat)=>Value.int .i64 (k:Int)
def dM(w:af)(base:Nat)(v:ag)(l:List Nat):Prop:=w.ownsRow base 3 1 v l.length (ic l)
def dM.nil(w:af)(base:Nat):dM w base (.slice none 0 0) []:=by unfold dM;exact World.ownsRow_nil w base 3 1
theorem dM.kept(h:dM w base v l)(hb:aq w.heap.size w w'):dM w' base v l:=by
 refine⟨h.1,?_⟩
 rcases h.2 with e|⟨b,cap,cur,hv,fj,hh,r⟩
 .grind
 .exact .inr ⟨b,cap,cur,hv,fj,(hb.block b (Array.getElem?_eq_some_iff.1 hh).1).trans hh,r⟩
theorem dM.len(h:dM w base v l):∃a cap,v=.slice a l.length cap:=by
 rcases h.2 with⟨e,n0⟩|⟨b,cap,cur,hv,_⟩
 .grind
 grind
theorem dM.at(h:dM w base v l)(hl:0<l.length):∃b cap,v=.slice (some ⟨b,0,none⟩) l.length cap/\∀j (hj:j<l.length),w.cell? ⟨b,j,none⟩=some (I Z ((l[j]:Nat):Int)):=by
 rcases h.2 with⟨e,n0⟩|⟨b,cap,cur,hv,fj,hh,_,_,_,ht⟩
 .omega
 .refine⟨b,cap,hv,fun j hj=>?_⟩
  (have e:(ic l)[j]?=some (I Z ((l[j]:Nat):Int)):=by simp[ic,hj])
  rw[←ht] at e
  rw[List.getElem?_take_of_lt om] at e
  simpa[World.cell?,hh] using e
def dM.grown{w0:af}(h:dM w base v l)(B:aq base w0 w)(hle:base<=w.heap.size)(hg:w.grownBy w' v.ownBlock):aq base w0 w':=by
 refine⟨hg.os.trans B.os,hg.tape.trans B.tape,hg.output.trans B.output,Nat.le_trans B.size hg.size,fun k hk=>?_⟩
 refine(hg.block k om ?_).trans (B.block k hk)
 intro e
 have:=h.lt k e.symm
 omega
def at'(d n:Int):Int:=d%n
theorem TS(d n:Int)(hn:0<n):(if d.tmod n<0 then d.tmod n+n else d.tmod n)=d%n:=by
 have h2:=Int.emod_nonneg d (b:=n) om
 grind [Int.emod_lt_of_pos]
def W4:(ah.info? 3).map (fun i=>(i.zero,i.size,i.bytes))=some (some (I Z 0),1,8):=by kernel_rfl
def ER(w:af)(x:ag)(t:TypeId):∀j u,[x][j]?=some u->(w.alloc (.cells #[x] t)).cell? ((⟨w.heap.size,0,none⟩:Addr).add j)=some u:=by
 intro j u hu
 match j,hu with
 | 0,hu=>
  (have e:x=u:=by simpa using hu)
  subst e
  rw[Addr.add_lit,Nat.zero_add]
  exact World.cell?_alloc_mark w #[x] t (0,0) 0
def GS(h:Nat->Int)(k:Nat)(hk:k<6)(w:World):(Instr.index 34 (.agg #[I Z (h 0),I Z (h 1),I Z (h 2),I Z (h 3),I Z (h 4),I Z (h 5)]) (I Z (k:Int))).run prog w=.ok (I Z (h k)) w:=by
 rcases(show k=0\/k=1\/k=2\/k=3\/k=4\/k=5 by omega) with rfl|rfl|rfl|rfl|rfl|rfl<;>kernel_rfl
def sL(h:p:=by
 go_wp2
 go_round
 case rel=>
  refine⟨_,_,_,⟨j+1,by omega,?_,HG.out⟩,rfl,rfl,rfl⟩
  go_num
 case measure=>simp[intOf];omega):p:=h
def lW(h:p:=by
 go_wp2
 go_ret
 exact⟨by rw[H.out];rfl,PH⟩):p:=h
def Du(h:p:=by
 clear hB
 obtain⟨k,hk,rfl,hg,hB⟩:=hrel
 rcases(show k=0\/k=1\/k=2\/k=3 by omega) with rfl|rfl|rfl|rfl
 ·(have ix:=fun j hj=>GS (fun k=>f (k)) j hj);have PH:=hB.alloc hB.size (.cells #[I Z (f 0),I Z (f 1),I Z (f 2),I Z (f 3),I Z (f 4),I Z (f 5)] 34)
  go_wp2
  go_loop [13] (fun i=>∃j:Nat,j<=6/\i=I Z j/\uO f (j)) (fun i=>6-(intOf i).toNat)
  case atStart=>exact⟨0,by omega,rfl,hg⟩
  case round=>
   obtain⟨j,hj,rfl,Dv⟩:=hrel
   by_cases hlt:j<6
   .have ij:=ix j hlt
    by_cases h1:f (j)<0
    .have H:Hid (iX f=false):=PF (j) om (.inl h1)
     exact lW
    ·(have gY:0<=f (j):=by omega);clear h1
     by_cases h2:8<f (j)
     .have H:Hid (iX f=false):=PF (j) om (.inr h2)
      exact lW
     ·(have Es:f (j)<=8:=by omega);clear h2;have HG:Hid (uO f ((j+1))):=qmj Dv gY Es
      exact sL
   ·(have e:j=6:=by omega)
    subst e
    go_wp2
    go_roundw
    case rel=>exact⟨1,by omega,rfl,Dv,PH⟩
    case measure=>simp[intOf]
 ·(have ix:=fun j hj=>GS (fun k=>f (6+k)) j hj)
  try simp only[Nat.add_zero,Nat.zero_add,Nat.reduceAdd] at ix
  have PH:=hB.alloc hB.size (.cells #[I Z (f 6),I Z (f 7),I Z (f 8),I Z (f 9),I Z (f 10),I Z (f 11)] 34)
  go_wp2
  go_loop [13] (fun i=>∃j:Nat,j<=6/\i=I Z j/\uO f (6+j)) (fun i=>6-(intOf i).toNat)
  case atStart=>exact⟨0,by omega,rfl,hg⟩
  case round=>
   obtain⟨j,hj,rfl,Dv⟩:=hrel
   by_cases hlt:j<6
   .have ij:=ix j hlt
    by_cases h1:f (6+j)<0
    .have H:Hid (iX f=false):=PF (6+j) om (.inl h1)
     exact lW
    ·(have gY:0<=f (6+j):=by omega);clear h1
     by_cases h2:8<f (6+j)
     .have H:Hid (iX f=false):=PF (6+j) om (.inr h2)
      exact lW
     ·(have Es:f (6+j)<=8:=by omega);clear h2;have HG:Hid (uO f (6+(j+1))):=qmj Dv gY Es
      exact sL
   ·(have e:j=6:=by omega)
    subst e
    go_wp2
    go_roundw
    case rel=>exact⟨2,by omega,rfl,Dv,PH⟩
    case measure=>simp[intOf]
 ·(have ix:=fun j hj=>GS (fun k=>f (12+k)) j hj)
  try simp only[Nat.add_zero,Nat.zero_add,Nat.reduceAdd] at ix
  have PH:=hB.alloc hB.size (.cells #[I Z (f 12),I Z (f 13),I Z (f 14),I Z (f 15),I Z (f 16),I Z (f 17)] 34)
  go_wp2
  go_loop [13] (fun i=>∃j:Nat,j<=6/\i=I Z j/\uO f (12+j)) (fun i=>6-(intOf i).toNat)
  case atStart=>exact⟨0,by omega,rfl,hg⟩
  case round=>
   obtain⟨j,hj,rfl,Dv⟩:=hrel
   by_cases hlt:j<6
   .have ij:=ix j hlt
    by_cases h1:f (12+j)<0
    .have H:Hid (iX f=false):=PF (12+j) om (.inl h1)
     exact lW
    ·(have gY:0<=f (12+j):=by omega);clear h1
     by_cases h2:8<f (12+j)
     .have H:Hid (iX f=false):=PF (12+j) om (.inr h2)
      exact lW
     ·(have Es:f (12+j)<=8:=by omega);clear h2;have HG:Hid (uO f (12+(j+1))):=qmj Dv gY Es
      exact sL
   ·(have e:j=6:=by omega)
    subst e
    go_wp2
    go_roundw
    case rel=>exact⟨3,by omega,rfl,Dv,PH⟩
    case measure=>simp[intOf]
 .have H:Hid (iX f=true):=X3 hg
  go_wp2
  go_ret
  exact⟨by rw[H.out];rfl,hB⟩):p:=h
def Ve(f:Nat->Int)(g:Nat->Bool)(w:af):
  az ah 183 #[gg f g] w fun e w'=>e=.returned (.bool (iX f))/\aq w.heap.size w w':=by
 refine m03 ?_;intro x0 x1 x2 hB
 unfold gg pc
 go_enter func183,ntmps183
 go_wp2
 go_loopw [9] (fun i W=>∃k:Nat,k<=3/\i=I Z k/\uO f (6*k)/\aq w.heap.size w W) (fun i _=>3-(cY i).toNat)
 case atStart=>exact⟨0,by omega,rfl,qxn f,hB⟩
 case round=>
  exact Du
def iT(a n:Int):Bool:=decide (0<=a/\a<n)
theorem AA(h0:0<=a)(h1:a<n):iT a n=true:=by grind [iT]
theorem ES(h:a<0\/n<=a):iT a n=false:=by grind [iT]
def sM(h:p:=by
 clear hz
 go_wp2
 go_roundw
 case rel=>
  first
   | exact⟨k+1,ao,cv,by omega,by go_num,by rw[HS.out],by rw[HS.out];exact hown,hB⟩| ((repeat apply Exists.intro);exact⟨⟨k+1,ao,cv,by omega,by go_num,by rw[HS.out],by rw[HS.out];exact hown,hB⟩,rfl⟩)| ((repeat apply Exists.intro);exact⟨⟨k+1,ao,cv,by omega,by go_num,by rw[HS.out],by rw[HS.out];exact hown,hB⟩,rfl,rfl⟩)
 case measure=>simp[intOf];omega):p:=h
def pw(h:p:=by
 first
  | exact⟨k+1,a3,c3,by omega,by go_num,e3,hi',hb3⟩| ((repeat apply Exists.intro);exact⟨⟨k+1,a3,c3,by omega,by go_num,e3,hi',hb3⟩,rfl⟩)| ((repeat apply Exists.intro);exact⟨⟨k+1,a3,c3,by omega,by go_num,e3,hi',hb3⟩,rfl,rfl⟩)):p:=h
def kq(h:p:=by
 unfold dM ic at *
 rw[HS.out,List.length_append,List.map_append]
 exact hown'):p:=h
def px(h:p:=by
 subst e
 go_wp2
 go_ret
 exact⟨_,rfl,⟨_,_,rfl⟩,hown,hB⟩):p:=h
def W5(h:Nat->Int)(w:World):
  Calls prog 213 #[.agg #[I Z (h 0),I Z (h 1),I Z (h 2),I Z (h 3),I Z (h 4),I Z (h 5)]] w fun e w'=>∃v,e=.returned v/\(∃a c,v=.slice a (fD h).length c)/\dM w' w.heap.size v (fD h)/\Below w.heap.size w w':=by
 obtain⟨i0,hi,hz0,hz1,hz2⟩:=info_parts W4;have Gm:Below w.heap.size w (w.alloc (.cells #[I Z (h 0),I Z (h 1),I Z (h 2),I Z (h 3),I Z (h 4),I Z (h 5)] 34)):=(Below.refl _ _).alloc (Nat.le_refl _) _
 go_enter func213,ntmps213
 go_wp2
 go_loopw [3,7] (fun v i wr=>∃(k:Nat) (ao:Option Addr) (cv:Nat),k<=6/\i=I Z k/\v=.slice ao (ko h k).length cv/\dM wr w.heap.size v (ko h k)/\Below w.heap.size w wr) (fun _ i _=>6-(intOf i).toNat)
 case atStart=>exact⟨0,none,0,by omega,rfl,rfl,dM.nil _ _,Gm⟩
 case round=>
  clear Gm
  obtain⟨k,ao,cv,hk,rfl,rfl,hown,hB⟩:=hrel
  have hsize:=hB.size;have k7:=PG h k
  by_cases hlt:k<6
  .have ik:=GS h k hlt
   by_cases hz:h k=0
   ·(have dz:(h k==0)=true:=by simpa using hz);(have HS:Hid (ko h (k+1)=ko h k++[k]):=by show _=_;rw[Iy,aZ dz]);clear hz
    go_wp2_with (at_builtin;refine wpList_append_own _ rfl _ _ 44 rfl w.heap.size 3 i0 (I Z 0) 1 8 underlying44 hi hz0 hz1 hz2 rfl (by decide) _ _ _ rfl (hown.alloc _) ⟨wr.heap.size,0,none⟩ 1 1 [I Z (k:Int)] rfl rfl (ER _ _ _) (fun x hx=>by simp at hx;subst hx;rfl) (by unfold maxLen;omega) om (by simp;omega) ?_;intro v' w3 hown' fk hnil3)
    go_roundw
    case rel=>
     have hi':dM w3 w.heap.size v' (ko h (k+1)):=by
      exact kq
     obtain⟨a3,c3,e3⟩:=hi'.len;have hb3:Below w.heap.size w w3:=dM.grown (l:=ko h k) (hown.alloc _) (hB.alloc hB.size _) (by simp;omega) fk
     exact pw
    case measure=>simp[intOf];omega
   ·(have dz:(h k==0)=false:=by simpa using hz);(have HS:Hid (ko h (k+1)=ko h k):=by show _=_;rw[Iy,aT (by simp[dz])];simp)
    exact sM
  ·(have e:k=6:=by omega)
   exact px
def nA(h:p:=by
 go_wp2
 go_ret
 exact⟨by rw[H.out];rfl,rfl⟩):p:=h
def sO(h:p:=by
 go_wp2
 go_ret
 exact⟨by rw[H.out];simp<;>omega,rfl⟩):p:=h
def TT(a:Int)(w:af):az ah 101 #[I Z a] w fun e w'=>e=.returned (.bool (iT a 3))/\w'=w:=by
 by_cases h0:0<=a
 .by_cases h1:a<3
  .have H:aK (iT a 3=true):=AA h0 h1
   go_enter func101,ntmps101
   exact nA
  .have H:aK (iT a 3=false):=ES om;(have gY:3<=a:=by omega);clear h1
   go_enter func101,ntmps101
   exact sO
 .have H:aK (iT a 3=false):=ES om;(have GM:a<0:=by omega);clear h0
  go_enter func101,ntmps101
  exact nA
def xA(h:p:=by
 go_enter func205,ntmps205
 exact nA):p:=h
def qlq(a:Int)(w:af):az ah 205 #[I Z a] w fun e w'=>e=.returned (.bool (iT a 8))/\w'=w:=by
 by_cases h0:0<=a
 .by_cases h1:a<8
  .have H:aK (iT a 8=true):=AA h0 h1
   exact xA
  .have H:aK (iT a 8=false):=ES om;(have gY:8<=a:=by omega);clear h1
   go_enter func205,ntmps205
   exact sO
 .have H:aK (iT a 8=false):=ES om;(have GM:a<0:=by omega);clear h0
  exact xA
def qwv(a:Int)(w:af):az ah 204 #[I Z a] w fun e w'=>e=.returned (.bool (iT a 6))/\w'=w:=by
 by_cases h0:0<=a
 .by_cases h1:a<6
  .have H:aK (iT a 6=true):=AA h0 h1
   go_enter func204,ntmps204
   exact nA
  .have H:aK (iT a 6=false):=ES om;(have gY:6<=a:=by omega);clear h1
   go_enter func204,ntmps204
   exact sO
 .have H:aK (iT a 6=false):=ES om;(have GM:a<0:=by omega);clear h0
  go_enter func204,ntmps204
  exact nA
def TU(d:Int)(n:Nat)(hn:0<n):0<=d%(n:Int)/\d%(n:Int)<n:=⟨Int.emod_nonneg d om,Int.emod_lt_of_pos d om⟩
def o7(l:List Nat)(d:Int):Nat:=l.getD (d%(l.length:Int)).toNat 0
theorem Qa(l:List Nat)(d:Int)(h:0<l.length):o7 l d∈l:=by
 have:=TU d l.length h
 grind [o7]
def xB(h:p:=by
 go_enter func214,ntmps214
 go_wp2
 go_ret
 exact⟨by rw[HD.out];rfl,rfl⟩):p:=h
def xC(h:p:=by
 unfold o7
 rw[List.getD_eq_getElem?_getD,List.getElem?_eq_getElem hq];rfl):p:=h
def qmf(base:Nat)(v:ag)(l:List Nat)(d:Int)(w:af)(hi:dM w base v l)(hl:0<l.length)(hd:(Lit.int .i64 d).wf=true)(hm:l.length<=6):
  az ah 214 #[v,.int .i64 d] w fun e w'=>e=.returned (.int .i64 ((o7 l d:Nat):Int))/\w'=w:=by
 obtain⟨b,cap,rfl,hc⟩:=hi.at hl
 have hr:=TS d l.length om;obtain⟨a0,a1⟩:=TU d l.length hl;(have hq:(d%(l.length:Int)).toNat<l.length:=by omega);have hcell:=hc _ hq
 have HD:aK (o7 l d=l[(d%(l.length:Int)).toNat]):=by
  show _=_
  exact xC
 generalize hx:l[(d % (l.length:Int)).toNat]=x at *
 clear hx hc hi
 generalize hN:(l.length:Int)=N at *
 by_cases ht:d.tmod N<0
 .rw[aZ ht] at hr
  exact xB
 .rw[aT ht] at hr
  clear ht
  exact xB
def TV(d:Int)(n:Nat)(w:af)(hn:0<n)(hm:n<=6):
  az ah 169 #[I Z d,I Z (n:Int)] w fun e w'=>e=.returned (I Z (d%(n:Int)))/\w'=w:=by
 have hr:=TS d n om;obtain⟨a0,a1⟩:=TU d n hn;(have t1:=Int.tmod_lt_of_pos d (show(0:Int)<n by omega));(have t2:-(n:Int)<=d.tmod n:=by split at hr<;>omega);(have n6:(n:Int)<=6:=by omega);(have n0:0<(n:Int):=by omega)
 have HD:aK ((d.tmod n+n)%n=d%n):=by
  show _=_
  split at hr
  .rw[hr];exact Int.emod_emod _ _
  .rw[hr,Int.add_emod_right];exact Int.emod_emod _ _
 generalize(n:Int)=N at *
 clear hr;(have PD:N≠0:=by omega);(have hw:wrap64 (d.tmod N+N)=d.tmod N+N:=by unfold wrap64;omega)
 go_enter func169,ntmps169
 go_wp2
 go_ret
 refine⟨?_,rfl⟩
 rw[←HD.out];rfl
def aX(f:Nat->Int)(a:Nat):Nat->Int:=fun k=>f (6*a+k)
def sP(f:Nat->Int)(a:Int):Int:=if iT a 3=true then((fD (aX f a.toNat)).length:Int) else 0
theorem W6(f:Nat->Int)(a:Nat)(h:a<3):sP f (a:Int)=((fD (aX f a)).length:Int):=by grind [sP,AA,fD,aX]
theorem q4k(f:Nat->Int)(a:Int)(h:a<0\/3<=a):sP f a=0:=by grind [sP,ES]
def wq(h:p:=by
 go_enter func222,ntmps222
 go_wp2_with (first|(go_at_call 101;refine(TT _ _).mono ?_;rintro e w' ⟨rfl,rfl⟩)|(go_at_call 213;go_fit (C2 _);rintro e w' ⟨v,rfl,⟨a1,c1,rfl⟩,hI,hb⟩;replace hB:=hB.trans (hb.mono hB.size))|(go_at_call 213;go_fit (C1 _);rintro e w' ⟨v,rfl,⟨a1,c1,rfl⟩,hI,hb⟩;replace hB:=hB.trans (hb.mono hB.size))|(go_at_call 213;go_fit (C0 _);rintro e w' ⟨v,rfl,⟨a1,c1,rfl⟩,hI,hb⟩;replace hB:=hB.trans (hb.mono hB.size)))
 go_ret
 exact⟨by rw[HL.out];rfl,hB⟩):p:=h
def qqh(f:Nat->Int)(g:Nat->Bool)(a:Int)(w:af):
  az ah 222 #[gg f g,I Z a] w fun e w'=>e=.returned (I Z (sP f a))/\aq w.heap.size w w':=by
 have hB:aq w.heap.size w (w.alloc (.cells #[I Z (f 0),I Z (f 1),I Z (f 2),I Z (f 3),I Z (f 4),I Z (f 5),I Z (f 6),I Z (f 7),I Z (f 8),I Z (f 9),I Z (f 10),I Z (f 11),I Z (f 12),I Z (f 13),I Z (f 14),I Z (f 15),I Z (f 16),I Z (f 17),.bool (g 0),.bool (g 1),.bool (g 2)] 38)):=(Below.refl _ _).alloc (Nat.le_refl _) _
 unfold gg pc
 by_cases dR:0<=a/\a<3
 .obtain⟨k,rfl⟩:∃k:Nat,a=k:=⟨a.toNat,by omega⟩
  have hi:iT (k:Int) 3=true:=AA dR.1 dR.2;have HL:aK (sP f (k:Int)=_):=W6 f k om
  rcases(show k=0\/k=1\/k=2 by omega) with rfl|rfl|rfl
  ·(have C0:∀w,az ah 213 #[.agg #[I Z (f 0),I Z (f 1),I Z (f 2),I Z (f 3),I Z (f 4),I Z (f 5)]] w fun e w'=>∃v,e=.returned v/\(∃a c,v=.slice a (fD (aX f 0)).length c)/\dM w' w.heap.size v (fD (aX f 0))/\aq w.heap.size w w':=fun w=>W5 (aX f 0) w)
   exact wq
  ·(have C1:∀w,az ah 213 #[.agg #[I Z (f 6),I Z (f 7),I Z (f 8),I Z (f 9),I Z (f 10),I Z (f 11)]] w fun e w'=>∃v,e=.returned v/\(∃a c,v=.slice a (fD (aX f 1)).length c)/\dM w' w.heap.size v (fD (aX f 1))/\aq w.heap.size w w':=fun w=>W5 (aX f 1) w)
   exact wq
  ·(have C2:∀w,az ah 213 #[.agg #[I Z (f 12),I Z (f 13),I Z (f 14),I Z (f 15),I Z (f 16),I Z (f 17)]] w fun e w'=>∃v,e=.returned v/\(∃a c,v=.slice a (fD (aX f 2)).length c)/\dM w' w.heap.size v (fD (aX f 2))/\aq w.heap.size w w':=fun w=>W5 (aX f 2) w)
   exact wq
 .have hi:iT a 3=false:=ES om;have HL:aK (sP f a=0):=q4k f a om
  go_enter func222,ntmps222
  go_wp2_with (go_at_call 101;refine(TT _ _).mono ?_;rintro e w' ⟨rfl,rfl⟩)
  go_ret
  exact⟨by rw[HL.out];rfl,hB⟩
def Gn(f:Nat->Int)(g:Nat->Bool)(a:Nat)(ha:a<3)(w:af):
  az ah 168 #[gg f g,I Z (a:Int)] w fun e w'=>∃v,e=.returned v/\(∃a1 c1,v=.slice a1 (fD (aX f a)).length c1)/\dM w' w.heap.size v (fD (aX f a))/\aq w.heap.size w w':=by
 obtain⟨i0,hi,hz0,hz1,hz2⟩:=info_parts W4;have Gm:aq w.heap.size w (w.alloc (.cells #[I Z (f 0),I Z (f 1),I Z (f 2),I Z (f 3),I Z (f 4),I Z (f 5),I Z (f 6),I Z (f 7),I Z (f 8),I Z (f 9),I Z (f 10),I Z (f 11),I Z (f 12),I Z (f 13),I Z (f 14),I Z (f 15),I Z (f 16),I Z (f 17),.bool (g 0),.bool (g 1),.bool (g 2)] 38)):=(Below.refl _ _).alloc (Nat.le_refl _) _
 unfold gg pc
 rcases(show a=0\/a=1\/a=2 by omega) with rfl|rfl|rfl
 .go_enter func168,ntmps168
  go_wp2
  go_loopw [5,18] (fun v i wr=>∃(k:Nat) (ao:Option Addr) (cv:Nat),k<=6/\i=I Z k/\v=.slice ao (ko (aX f 0) k).length cv/\dM wr w.heap.size v (ko (aX f 0) k)/\aq w.heap.size w wr) (fun _ i _=>6-(cY i).toNat)
  case atStart=>exact⟨0,none,0,by omega,rfl,rfl,dM.nil _ _,Gm⟩
  case round=>
   clear Gm
   obtain⟨k,ao,cv,hk,rfl,rfl,hown,hB⟩:=hrel
   have hsize:=hB.size;have k7:=PG (aX f 0) k
   by_cases hlt:k<6
   ·(have ik:∀w,(Instr.index 34 (.agg #[I Z (f 0),I Z (f 1),I Z (f 2),I Z (f 3),I Z (f 4),I Z (f 5)]) (I Z (k:Int))).run ah w=.ok (I Z (aX f 0 k)) w:=fun w=>GS (aX f 0) k hlt w)
    by_cases hz:aX f 0 k=0
    ·(have dz:(aX f 0 k==0)=true:=by simpa using hz);(have HS:aK (ko (aX f 0) (k+1)=ko (aX f 0) k++[k]):=by show _=_;rw[Iy,aZ dz]);clear hz
     go_wp2_with (at_builtin;refine dp _ rfl _ _ 44 rfl w.heap.size 3 i0 (I Z 0) 1 8 underlying44 hi hz0 hz1 hz2 rfl (by decide) _ _ _ rfl (hown.alloc _) ⟨wr.heap.size,0,none⟩ 1 1 [I Z (k:Int)] rfl rfl (ER _ _ _) (fun x hx=>by simp at hx;subst hx;rfl) (by unfold jt;omega) om (by simp;omega) ?_;intro v' w3 hown' fk hnil3)
     go_roundw
     case rel=>
      have hi':dM w3 w.heap.size v' (ko (aX f 0) (k+1)):=by
       exact kq
      obtain⟨a3,c3,e3⟩:=hi'.len;have hb3:aq w.heap.size w w3:=dM.grown (l:=ko (aX f 0) k) (hown.alloc _) (hB.alloc hB.size _) (by simp;omega) fk
      exact pw
     case measure=>simp[cY];omega
    ·(have dz:(aX f 0 k==0)=false:=by simpa using hz);(have HS:aK (ko (aX f 0) (k+1)=ko (aX f 0) k):=by show _=_;rw[Iy,aT (by simp[dz])];simp)
     exact sM
   ·(have e:k=6:=by omega)
    exact px
 .go_enter func168,ntmps168
  go_wp2
  go_loopw [5,18] (fun v i wr=>∃(k:Nat) (ao:Option Addr) (cv:Nat),k<=6/\i=I Z k/\v=.slice ao (ko (aX f 1) k).length cv/\dM wr w.heap.size v (ko (aX f 1) k)/\aq w.heap.size w wr) (fun _ i _=>6-(cY i).toNat)
  case atStart=>exact⟨0,none,0,by omega,rfl,rfl,dM.nil _ _,Gm⟩
  case round=>
   clear Gm
   obtain⟨k,ao,cv,hk,rfl,rfl,hown,hB⟩:=hrel
   have hsize:=hB.size;have k7:=PG (aX f 1) k
   by_cases hlt:k<6
   ·(have ik:∀w,(Instr.index 34 (.agg #[I Z (f 6),I Z (f 7),I Z (f 8),I Z (f 9),I Z (f 10),I Z (f 11)]) (I Z (k:Int))).run ah w=.ok (I Z (aX f 1 k)) w:=fun w=>GS (aX f 1) k hlt w)
    by_cases hz:aX f 1 k=0
    ·(have dz:(aX f 1 k==0)=true:=by simpa using hz);(have HS:aK (ko (aX f 1) (k+1)=ko (aX f 1) k++[k]):=by show _=_;rw[Iy,aZ dz]);clear hz
     go_wp2_with (at_builtin;refine dp _ rfl _ _ 44 rfl w.heap.size 3 i0 (I Z 0) 1 8 underlying44 hi hz0 hz1 hz2 rfl (by decide) _ _ _ rfl (hown.alloc _) ⟨wr.heap.size,0,none⟩ 1 1 [I Z (k:Int)] rfl rfl (ER _ _ _) (fun x hx=>by simp at hx;subst hx;rfl) (by unfold jt;omega) om (by simp;omega) ?_;intro v' w3 hown' fk hnil3)
     go_roundw
     case rel=>
      have hi':dM w3 w.heap.size v' (ko (aX f 1) (k+1)):=by
       exact kq
      obtain⟨a3,c3,e3⟩:=hi'.len;have hb3:aq w.heap.size w w3:=dM.grown (l:=ko (aX f 1) k) (hown.alloc _) (hB.alloc hB.size _) (by simp;omega) fk
      exact pw
     case measure=>simp[cY];omega
    ·(have dz:(aX f 1 k==0)=false:=by simpa using hz);(have HS:aK (ko (aX f 1) (k+1)=ko (aX f 1) k):=by show _=_;rw[Iy,aT (by simp[dz])];simp)
     exact sM
   ·(have e:k=6:=by omega)
    exact px
 .go_enter func168,ntmps168
  go_wp2
  go_loopw [5,18] (fun v i wr=>∃(k:Nat) (ao:Option Addr) (cv:Nat),k<=6/\i=I Z k/\v=.slice ao (ko (aX f 2) k).length cv/\dM wr w.heap.size v (ko (aX f 2) k)/\aq w.heap.size w wr) (fun _ i _=>6-(cY i).toNat)
  case atStart=>exact⟨0,none,0,by omega,rfl,rfl,dM.nil _ _,Gm⟩
  case round=>
   clear Gm
   obtain⟨k,ao,cv,hk,rfl,rfl,hown,hB⟩:=hrel
   have hsize:=hB.size;have k7:=PG (aX f 2) k
   by_cases hlt:k<6
   ·(have ik:∀w,(Instr.index 34 (.agg #[I Z (f 12),I Z (f 13),I Z (f 14),I Z (f 15),I Z (f 16),I Z (f 17)]) (I Z (k:Int))).run ah w=.ok (I Z (aX f 2 k)) w:=fun w=>GS (aX f 2) k hlt w)
    by_cases hz:aX f 2 k=0
    ·(have dz:(aX f 2 k==0)=true:=by simpa using hz);(have HS:aK (ko (aX f 2) (k+1)=ko (aX f 2) k++[k]):=by show _=_;rw[Iy,aZ dz]);clear hz
     go_wp2_with (at_builtin;refine dp _ rfl _ _ 44 rfl w.heap.size 3 i0 (I Z 0) 1 8 underlying44 hi hz0 hz1 hz2 rfl (by decide) _ _ _ rfl (hown.alloc _) ⟨wr.heap.size,0,none⟩ 1 1 [I Z (k:Int)] rfl rfl (ER _ _ _) (fun x hx=>by simp at hx;subst hx;rfl) (by unfold jt;omega) om (by simp;omega) ?_;intro v' w3 hown' fk hnil3)
     go_roundw
     case rel=>
      have hi':dM w3 w.heap.size v' (ko (aX f 2) (k+1)):=by
       exact kq
      obtain⟨a3,c3,e3⟩:=hi'.len;have hb3:aq w.heap.size w w3:=dM.grown (l:=ko (aX f 2) k) (hown.alloc _) (hB.alloc hB.size _) (by simp;omega) fk
      exact pw
     case measure=>simp[cY];omega
    ·(have dz:(aX f 2 k==0)=false:=by simpa using hz);(have HS:aK (ko (aX f 2) (k+1)=ko (aX f 2) k):=by show _=_;rw[Iy,aT (by simp[dz])];simp)
     exact sM
   ·(have e:k=6:=by omega)
    exact px
def En(f:Nat->Int)(g:Nat->Bool):(ah.info? 38).map (·.size)=some (pc f g).size:=by kernel_rfl
def Ql(f:Nat->Int)(g:Nat->Bool):(pc f g).all (·.oneCell')=true:=by kernel_rfl
theorem Ae(f:Nat->Int)(g:Nat->Bool):(pc f g).size=21:=rfl
def q1x(f:Nat->Int)(g:Nat->Bool)(k:Nat)(h:k<18):(pc f g)[k]?=some (I Z (f k)):=by
 rcases(show k=0\/k=1\/k=2\/k=3\/k=4\/k=5\/k=6\/k=7\/k=8\/k=9\/k=10\/k=11\/k=12\/k=13\/k=14\/k=15\/k=16\/k=17 by omega) with rfl|rfl|rfl|rfl|rfl|rfl|rfl|rfl|rfl|rfl|rfl|rfl|rfl|rfl|rfl|rfl|rfl|rfl<;>rfl
def qhU(f:Nat->Int)(g:Nat->Bool)(a:Nat)(h:a<3):(pc f g)[18+a]?=some (.bool (g a)):=by
 rcases(show a=0\/a=1\/a=2 by omega) with rfl|rfl|rfl<;>rfl
def upd(f:Nat->Int)(n:Nat)(x:Int):Nat->Int:=fun i=>if i=n then x else f i
def updB(g:Nat->Bool)(n:Nat)(x:Bool):Nat->Bool:=fun i=>if i=n then x else g i
theorem q97(f:Nat->Int)(g:Nat->Bool)(n:Nat)(x:Int)(h:n<18):(pc f g).setIfInBounds n (I Z x)=pc (upd f n x) g:=by
 rcases(show n=0\/n=1\/n=2\/n=3\/n=4\/n=5\/n=6\/n=7\/n=8\/n=9\/n=10\/n=11\/n=12\/n=13\/n=14\/n=15\/n=16\/n=17 by omega) with rfl|rfl|rfl|rfl|rfl|rfl|rfl|rfl|rfl|rfl|rfl|rfl|rfl|rfl|rfl|rfl|rfl|rfl<;>simp[pc,upd]
theorem q8y(f:Nat->Int)(g:Nat->Bool)(n:Nat)(x:Bool)(h:n<3):(pc f g).setIfInBounds (18+n) (.bool x)=pc f (updB g n x):=by
 rcases(show n=0\/n=1\/n=2 by omega) with rfl|rfl|rfl<;>simp[pc,updB]
def cg(w:af)(b:Nat)(cs:Array ag):Prop:=w.heap[b]?=some (.cells cs 38 (0,0))
def cg.cell(h:cg w b cs):∀o,w.cell? ⟨b,o,none⟩=cs[o]?:=by
 intro o;unfold cg at h;simp[World.cell?,h]
def cg.free(h:cg w b cs):∀o,w.frozen? ⟨b,o,none⟩=false:=by
 intro o;unfold cg at h;simp[World.frozen?,h]
def cg.own(h:cg w b (pc f g))(k:Nat)(hk:k<18):w.cell? ⟨b,k,none⟩=some (I Z (f k)):=(h.cell k).trans (q1x f g k hk)
def cg.dr(h:cg w b (pc f g))(a:Nat)(ha:a<3):w.cell? ⟨b,18+a,none⟩=some (.bool (g a)):=(h.cell (18+a)).trans (qhU f g a ha)
def cg.lt(h:cg w b cs):b<w.heap.size:=(Array.getElem?_eq_some_iff.1 h).1
def cg.below(h:cg w b cs)(hb:aq w.heap.size w w'):cg w' b cs:=(hb.block b h.lt).trans h
def cg.keep{B:Nat}(h:cg w b cs)(hb:aq B w w')(hlt:b<B):cg w' b cs:=(hb.block b hlt).trans h
def cg.new(w:af)(cs:Array ag):cg (w.alloc (.cells cs 38)) w.heap.size cs:=heap_alloc_new w _
def cg.alloc(h:cg w b cs)(o:Obj):cg (w.alloc o) b cs:=(Below.heap_alloc _ _ _ h.lt).trans h
def cg.other{r o:Nat}(h:cg w r cs)(hne:r≠b):cg (w.setCell ⟨b,o,none⟩ v) r cs:=(Below.heap_setCell _ _ _ _ hne).trans h
theorem cg.upd(h:cg w b (pc f g))(n:Nat)(x:Int)(hn:n<18):cg (w.setCell ⟨b,n,none⟩ (I Z x)) b (pc (upd f n x) g):=by
 rw[←q97 f g n x hn];exact heap_setCell_same w b n _ 38 _ h
theorem cg.updB(h:cg w b (pc f g))(n:Nat)(x:Bool)(hn:n<3):cg (w.setCell ⟨b,18+n,none⟩ (.bool x)) b (pc f (updB g n x)):=by
 rw[←q8y f g n x hn];exact heap_setCell_same w b (18+n) _ 38 _ h
def GU{W:af}(h:aq W.drew.heap.size W.drew w'):aq W.heap.size W w':=⟨h.os,h.tape,h.output,h.size,h.block⟩
def lI{a:Act}(x:Operand)(ho:o.op=.load 38 x)(hw:Region.wanted o (yielded ops a.tmps)=true)(b:Nat)(hx:a.eval x=V (some ⟨b,0,none⟩))(f:Nat->Int)(g:Nat->Bool)(h:cg w b (pc f g))(hr:aM ah ops Q rest (a.put o.dst (.agg (pc f g))) w):aM ah ops Q (o::rest) a w:=
 wpList_step fun K hK=>by
  rw[aZ hw]
  exact wp_load_row 38 x ho b hx 38 (pc f g) (0,0) _ h underlying38 rfl (En f g) (hK _ _ hr)
def Hx{a:Act}(hgd:o.guard=none)(x y:Operand)(ho:o.op=.store 38 x y)(b:Nat)(hx:a.eval x=V (some ⟨b,0,none⟩))(f:Nat->Int)(g:Nat->Bool)(hy:a.eval y=.agg (pc f g))(old:Array ag)(h:cg w b old)(hs:old.size=21)(hr:∀w',cg w' b (pc f g)->w'.heap.size=w.heap.size->(∀r cs,r≠b->cg w r cs->cg w' r cs)->(∀B w0,B<=b->aq B w0 w->aq B w0 w')->aM ah ops Q rest (a.put o.dst gW) w'):aM ah ops Q (o::rest) a w:=
 wpList_plain hgd fun K hK=>by
  have hst:=run_storeVar_row (P:=ah) w b 38 38 old (pc f g) h (En f g) (by rw[hs,Ae]) (Ql f g)
  unfold Oper.wp execOp
  simp only[ho,hx,hy,Instr.storeAt,Instr.sureAddr,Sem.run_bind,Sem.run_pure,Result.andThen_ok,hst]
  exact hK _ _ (hr _ (setRow_heap w b old _ _ _ h) zm (fun r cs hne Mq=>(setRow_other w b r _ hne).trans Mq) (fun B w0 hB hb=>below_setRow hb hB _))
def NP{p:Tmp}(hf:fn.results=#[.cell p 38,.tmp t])(tmps:Array ag)(w:af)(b:Nat)(f:Nat->Int)(g:Nat->Bool)(hp:tmps.getD p gW=V (some ⟨b,0,none⟩))(h:cg w b (pc f g)):
  (eQ fn tmps).run ah w=.ok (.tuple #[gg f g,tmps.getD t gW]) w:=by
 refine m4q ?_;intro qm hl
 simp[eQ,hf,qm,asAddr,hl,gg]
def ET{p u:Tmp}(hf:fn.results=#[.cell p 38,.tmp t,.tmp u])(tmps:Array ag)(w:af)(b:Nat)(f:Nat->Int)(g:Nat->Bool)(hp:tmps.getD p gW=V (some ⟨b,0,none⟩))(h:cg w b (pc f g)):
  (eQ fn tmps).run ah w=.ok (.tuple #[gg f g,tmps.getD t gW,tmps.getD u gW]) w:=by
 refine m4q ?_;intro qm hl
 simp[eQ,hf,qm,asAddr,hl,gg]
def fZ(f:Nat->Int)(g:Nat->Bool)(n:Nat):List Nat:=(List.range n).filter fun a=>!g a&&decide (0<(fD (aX f a)).length)
def qZ(f:Nat->Int)(g:Nat->Bool):List Nat:=fZ f g 3
theorem tI(f:Nat->Int)(g:Nat->Bool)(n:Nat):fZ f g (n+1)=fZ f g n++if (!g n&&decide (0<(fD (aX f n)).length))=true then [n] else []:=by
 unfold fZ;rw[List.range_succ,List.filter_append];simp only[List.filter];split<;>simp_all
theorem NQ(f:Nat->Int)(g:Nat->Bool)(n:Nat):(fZ f g n).length<=n:=by grind [fZ]
def qaM(f:Nat->Int)(g:Nat->Bool)(a:Nat)(h:a∈qZ f g):a<3/\g a=false/\0<(fD (aX f a)).length:=by
 simpa[qZ,fZ] using h
theorem dM.low{b2:Nat}(h:dM w base v l)(hb:b2<=base):dM w b2 v l:=by
 refine⟨h.1,?_⟩
 rcases h.2 with e|⟨b,cap,cur,hv,fj,r⟩
 .grind
 .exact .inr ⟨b,cap,cur,hv,by omega,r⟩
def Dw(h:p:=by
 go_roundw
 case rel=>
  first
   | exact⟨1,ao,cv,by omega,rfl,by rw[HS.out],by rw[HS.out];exact hown,T0,hB⟩| ((repeat apply Exists.intro);exact⟨⟨1,ao,cv,by omega,rfl,by rw[HS.out],by rw[HS.out];exact hown,T0,hB⟩,rfl⟩)| ((repeat apply Exists.intro);exact⟨⟨1,ao,cv,by omega,rfl,by rw[HS.out],by rw[HS.out];exact hown,T0,hB⟩,rfl,rfl⟩)| ((repeat apply Exists.intro);exact⟨⟨1,ao,cv,by omega,rfl,by rw[HS.out],by rw[HS.out];exact hown,T0,hB⟩,rfl,rfl,rfl⟩)
 case measure=>simp[intOf]):p:=h
def Dx(h:p:=by
 go_roundw
 case rel=>
  first
   | exact⟨2,ao,cv,by omega,rfl,by rw[HS.out],by rw[HS.out];exact hown,T0,hB⟩| ((repeat apply Exists.intro);exact⟨⟨2,ao,cv,by omega,rfl,by rw[HS.out],by rw[HS.out];exact hown,T0,hB⟩,rfl⟩)| ((repeat apply Exists.intro);exact⟨⟨2,ao,cv,by omega,rfl,by rw[HS.out],by rw[HS.out];exact hown,T0,hB⟩,rfl,rfl⟩)| ((repeat apply Exists.intro);exact⟨⟨2,ao,cv,by omega,rfl,by rw[HS.out],by rw[HS.out];exact hown,T0,hB⟩,rfl,rfl,rfl⟩)
 case measure=>simp[intOf]):p:=h
def Dy(h:p:=by
 go_roundw
 case rel=>
  first
   | exact⟨3,ao,cv,by omega,rfl,by rw[HS.out],by rw[HS.out];exact hown,T0,hB⟩| ((repeat apply Exists.intro);exact⟨⟨3,ao,cv,by omega,rfl,by rw[HS.out],by rw[HS.out];exact hown,T0,hB⟩,rfl⟩)| ((repeat apply Exists.intro);exact⟨⟨3,ao,cv,by omega,rfl,by rw[HS.out],by rw[HS.out];exact hown,T0,hB⟩,rfl,rfl⟩)| ((repeat apply Exists.intro);exact⟨⟨3,ao,cv,by omega,rfl,by rw[HS.out],by rw[HS.out];exact hown,T0,hB⟩,rfl,rfl,rfl⟩)
 case measure=>simp[intOf]):p:=h
def DA(h:p:=by
 go_roundw
 case rel=>
  have hi':dM w3 (w.heap.size+1) v' (fZ f g 1):=by
   exact kq
  obtain⟨a3,c3,e3⟩:=hi'.len;have hb4:=dM.grown (l:=fZ f g 0) (hown.alloc _) ((Below.refl _ _).alloc om _) (by simp;omega) fk;have hT:=T0.keep hb4 om;have hb3:=hB.trans (hb4.mono om)
  first
   | exact⟨1,a3,c3,by omega,rfl,e3,hi',hT,hb3⟩| ((repeat apply Exists.intro);exact⟨⟨1,a3,c3,by omega,rfl,e3,hi',hT,hb3⟩,rfl⟩)| ((repeat apply Exists.intro);exact⟨⟨1,a3,c3,by omega,rfl,e3,hi',hT,hb3⟩,rfl,rfl⟩)| ((repeat apply Exists.intro);exact⟨⟨1,a3,c3,by omega,rfl,e3,hi',hT,hb3⟩,rfl,rfl,rfl⟩)
 case measure=>simp[intOf]):p:=h
def DB(h:p:=by
 go_roundw
 case rel=>
  have hi':dM w3 (w.heap.size+1) v' (fZ f g 2):=by
   exact kq
  obtain⟨a3,c3,e3⟩:=hi'.len;have hb4:=dM.grown (l:=fZ f g 1) (hown.alloc _) ((Below.refl _ _).alloc om _) (by simp;omega) fk;have hT:=T0.keep hb4 om;have hb3:=hB.trans (hb4.mono om)
  first
   | exact⟨2,a3,c3,by omega,rfl,e3,hi',hT,hb3⟩| ((repeat apply Exists.intro);exact⟨⟨2,a3,c3,by omega,rfl,e3,hi',hT,hb3⟩,rfl⟩)| ((repeat apply Exists.intro);exact⟨⟨2,a3,c3,by omega,rfl,e3,hi',hT,hb3⟩,rfl,rfl⟩)| ((repeat apply Exists.intro);exact⟨⟨2,a3,c3,by omega,rfl,e3,hi',hT,hb3⟩,rfl,rfl,rfl⟩)
 case measure=>simp[intOf]):p:=h
def xD(h:p:=by
 go_roundw
 case rel=>
  have hi':dM w3 (w.heap.size+1) v' (fZ f g 3):=by
   exact kq
  obtain⟨a3,c3,e3⟩:=hi'.len;have hb4:=dM.grown (l:=fZ f g 2) (hown.alloc _) ((Below.refl _ _).alloc om _) (by simp;omega) fk;have hT:=T0.keep hb4 om;have hb3:=hB.trans (hb4.mono om)
  first
   | exact⟨3,a3,c3,by omega,rfl,e3,hi',hT,hb3⟩| ((repeat apply Exists.intro);exact⟨⟨3,a3,c3,by omega,rfl,e3,hi',hT,hb3⟩,rfl⟩)| ((repeat apply Exists.intro);exact⟨⟨3,a3,c3,by omega,rfl,e3,hi',hT,hb3⟩,rfl,rfl⟩)| ((repeat apply Exists.intro);exact⟨⟨3,a3,c3,by omega,rfl,e3,hi',hT,hb3⟩,rfl,rfl,rfl⟩)
 case measure=>simp[intOf]):p:=h
def xE(h:p:=by
 go_wp2_with (first|(refine lI _ rfl ?_ _ rfl f g T0 ?_;· rfl)|(go_at_call 222;go_fit (C0 _);rintro e w' ⟨rfl,hb⟩;refine zC ?_;clear hb T0;intro hb hown T0 hB hsize hlt;replace d0:=T0.dr 0 om;rw[hg] at d0))
 exact Dw):p:=h
def xF(h:p:=by
 go_wp2_with (first|(refine lI _ rfl ?_ _ rfl f g T0 ?_;· rfl)|(go_at_call 222;go_fit (C1 _);rintro e w' ⟨rfl,hb⟩;refine zC ?_;clear hb T0;intro hb hown T0 hB hsize hlt;replace d0:=T0.dr 1 om;rw[hg] at d0))
 exact Dx):p:=h
def xG(h:p:=by
 go_wp2_with (first|(refine lI _ rfl ?_ _ rfl f g T0 ?_;· rfl)|(go_at_call 222;go_fit (C2 _);rintro e w' ⟨rfl,hb⟩;refine zC ?_;clear hb T0;intro hb hown T0 hB hsize hlt;replace d0:=T0.dr 2 om;rw[hg] at d0))
 exact Dy):p:=h
def qv5(f:Nat->Int)(g:Nat->Bool)(w:af):
  az ah 220 #[gg f g] w fun e w'=>∃v,e=.returned v/\(∃a c,v=.slice a (qZ f g).length c)/\dM w' w.heap.size v (qZ f g)/\aq w.heap.size w w':=by
 obtain⟨i0,hi,hz0,hz1,hz2⟩:=info_parts W4;refine m2g ?_;intro hB T0;(have C0:=fun w=>qqh f g 0 w);(have C1:=fun w=>qqh f g 1 w);(have C2:=fun w=>qqh f g 2 w);have L0:aK (sP f 0=((fD (aX f 0)).length:Int)):=W6 f 0 om;have L1:aK (sP f 1=((fD (aX f 1)).length:Int)):=W6 f 1 om;have L2:aK (sP f 2=((fD (aX f 2)).length:Int)):=W6 f 2 om
 unfold gg at *
 go_enter func220,ntmps220
 go_wp2
 go_loopw [3,5] (fun v i wr=>∃(k:Nat) (ao:Option Addr) (cv:Nat),k<=3/\i=I Z k/\v=.slice ao (fZ f g k).length cv/\dM wr (w.heap.size+1) v (fZ f g k)/\cg wr w.heap.size (pc f g)/\aq w.heap.size w wr) (fun _ i _=>3-(cY i).toNat)
 case atStart=>exact⟨0,none,0,by omega,rfl,rfl,dM.nil _ _,T0,hB⟩
 case round=>
  clear T0 hB
  obtain⟨k,ao,cv,hk,rfl,rfl,hown,T0,hB⟩:=hrel
  have hsize:=hB.size;have hlt:=T0.lt
  rcases(show k=0\/k=1\/k=2\/k=3 by omega) with rfl|rfl|rfl|rfl
  .have TW:=NQ f g 0;have d0:=T0.dr 0 om
   by_cases hz:0<(fD (aX f 0)).length
   .cases hg:g 0 with
    | true=>
     (have HS:aK (fZ f g 1=fZ f g 0):=by show _=_;rw[tI,aT (by simp[hg])];simp);(have hx:0<sP f 0:=by rw[L0.out];omega);clear hz
     rw[hg] at d0
     exact xE
    | false=>
     (have HS:aK (fZ f g 1=fZ f g 0++[0]):=by show _=_;rw[tI,aZ (by simp[hg,hz])]);(have hx:0<sP f 0:=by rw[L0.out];omega);clear hz
     rw[hg] at d0
     go_wp2_with (first|(refine lI _ rfl ?_ _ rfl f g T0 ?_;· rfl)|(go_at_call 222;go_fit (C0 _);rintro e w' ⟨rfl,hb⟩;refine zC ?_;clear hb hown T0 hB hsize hlt;intro hb hown T0 hB hsize hlt;replace d0:=T0.dr 0 om;rw[hg] at d0)|(at_builtin;refine dp _ rfl _ _ 44 rfl (w.heap.size+1) 3 i0 (I Z 0) 1 8 underlying44 hi hz0 hz1 hz2 rfl (by decide) _ _ _ rfl (hown.alloc _) _ 1 1 [I Z 0] rfl rfl (ER _ _ _) (fun x hx=>by simp at hx;subst hx;rfl) (by unfold jt;omega) om (by simp;omega) ?_;intro v' w3 hown' fk hnil3))
     exact DA
   ·(have HS:aK (fZ f g 1=fZ f g 0):=by show _=_;rw[tI,aT (by rw[eB];rintro⟨_,h⟩;exact hz (of_decide_eq_true h))];simp);(have hx:sP f 0=0:=by rw[L0.out];omega);clear hz
    cases hg:g 0 <;>
    .rw[hg] at d0
     exact xE
  .have TW:=NQ f g 1;have d0:=T0.dr 1 om
   by_cases hz:0<(fD (aX f 1)).length
   .cases hg:g 1 with
    | true=>
     (have HS:aK (fZ f g 2=fZ f g 1):=by show _=_;rw[tI,aT (by simp[hg])];simp);(have hx:0<sP f 1:=by rw[L1.out];omega);clear hz
     rw[hg] at d0
     exact xF
    | false=>
     (have HS:aK (fZ f g 2=fZ f g 1++[1]):=by show _=_;rw[tI,aZ (by simp[hg,hz])]);(have hx:0<sP f 1:=by rw[L1.out];omega);clear hz
     rw[hg] at d0
     go_wp2_with (first|(refine lI _ rfl ?_ _ rfl f g T0 ?_;· rfl)|(go_at_call 222;go_fit (C1 _);rintro e w' ⟨rfl,hb⟩;refine zC ?_;clear hb hown T0 hB hsize hlt;intro hb hown T0 hB hsize hlt;replace d0:=T0.dr 1 om;rw[hg] at d0)|(at_builtin;refine dp _ rfl _ _ 44 rfl (w.heap.size+1) 3 i0 (I Z 0) 1 8 underlying44 hi hz0 hz1 hz2 rfl (by decide) _ _ _ rfl (hown.alloc _) _ 1 1 [I Z 1] rfl rfl (ER _ _ _) (fun x hx=>by simp at hx;subst hx;rfl) (by unfold jt;omega) om (by simp;omega) ?_;intro v' w3 hown' fk hnil3))
     exact DB
   ·(have HS:aK (fZ f g 2=fZ f g 1):=by show _=_;rw[tI,aT (by rw[eB];rintro⟨_,h⟩;exact hz (of_decide_eq_true h))];simp);(have hx:sP f 1=0:=by rw[L1.out];omega);clear hz
    cases hg:g 1 <;>
    .rw[hg] at d0
     exact xF
  .have TW:=NQ f g 2;have d0:=T0.dr 2 om
   by_cases hz:0<(fD (aX f 2)).length
   .cases hg:g 2 with
    | true=>
     (have HS:aK (fZ f g 3=fZ f g 2):=by show _=_;rw[tI,aT (by simp[hg])];simp);(have hx:0<sP f 2:=by rw[L2.out];omega);clear hz
     rw[hg] at d0
     exact xG
    | false=>
     (have HS:aK (fZ f g 3=fZ f g 2++[2]):=by show _=_;rw[tI,aZ (by simp[hg,hz])]);(have hx:0<sP f 2:=by rw[L2.out];omega);clear hz
     rw[hg] at d0
     go_wp2_with (first|(refine lI _ rfl ?_ _ rfl f g T0 ?_;· rfl)|(go_at_call 222;go_fit (C2 _);rintro e w' ⟨rfl,hb⟩;refine zC ?_;clear hb hown T0 hB hsize hlt;intro hb hown T0 hB hsize hlt;replace d0:=T0.dr 2 om;rw[hg] at d0)|(at_builtin;refine dp _ rfl _ _ 44 rfl (w.heap.size+1) 3 i0 (I Z 0) 1 8 underlying44 hi hz0 hz1 hz2 rfl (by decide) _ _ _ rfl (hown.alloc _) _ 1 1 [I Z 2] rfl rfl (ER _ _ _) (fun x hx=>by simp at hx;subst hx;rfl) (by unfold jt;omega) om (by simp;omega) ?_;intro v' w3 hown' fk hnil3))
     exact xD
   ·(have HS:aK (fZ f g 3=fZ f g 2):=by show _=_;rw[tI,aT (by rw[eB];rintro⟨_,h⟩;exact hz (of_decide_eq_true h))];simp);(have hx:sP f 2=0:=by rw[L2.out];omega);clear hz
    cases hg:g 2 <;>
    .rw[hg] at d0
     exact xG
  .go_wp2
   go_ret
   exact⟨_,rfl,⟨_,_,rfl⟩,dM.low hown om,hB⟩
def MT(f:Nat->Int)(g:Nat->Bool)(w:af):
  az ah 167 #[gg f g] w fun e w'=>e=.returned (.bool (iX f))/\aq w.heap.size w w':=by
 refine m03 ?_;intro x0 x1 x2 hB
 unfold gg pc
 go_enter func167,ntmps167
 go_wp2
 go_loopw [9] (fun i W=>∃k:Nat,k<=3/\i=I Z k/\uO f (6*k)/\aq w.heap.size w W) (fun i _=>3-(cY i).toNat)
 case atStart=>exact⟨0,by omega,rfl,qxn f,hB⟩
 case round=>
  exact Du
def oJ(f:Nat->Int)(g:Nat->Bool):Int:=if iX f=true then(if (qZ f g).length=0 then 10 else 0) else 2
def nQ(f:Nat->Int)(g:Nat->Bool)(d:Int):Int:=if iX f=true then(if (qZ f g).length=0 then 0 else((o7 (qZ f g) d:Nat):Int)) else 0
def q3d(f:Nat->Int)(g:Nat->Bool):(qZ f g).length<=3:=NQ f g 3
def sQ(h:p:=by
 go_ret2
 exact⟨by rw[H1.out,H2.out];rfl,hB⟩):p:=h
def wu(h:p:=by
 go_enter func212,ntmps212
 go_wp2_with (first|(refine lI _ rfl ?_ _ rfl f g T0 ?_;· rfl)|(go_at_call 183;refine s8 ?_;intro w' hb;replace T0:=T0.below hb;replace hB:=hB.trans (hb.mono hB.size))|(go_at_call 220;go_fit (CL _);rintro e w' ⟨v,rfl,⟨a1,c1,rfl⟩,hI,hb⟩;replace T0:=T0.below hb;replace hB:=hB.trans (hb.mono hB.size))|(go_at_call 214;refine(qmf _ _ _ d _ hI gI hd om).mono ?_;rintro e w' ⟨rfl,rfl⟩))
 exact sQ):p:=h
def q6b(f:Nat->Int)(g:Nat->Bool)(d:Int)(hd:(Lit.int .i64 d).wf=true)(w:af):
  az ah 212 #[gg f g,.int .i64 d] w fun e w'=>e=.returned (.tuple #[.int .i64 (nQ f g d),.int .i64 (oJ f g)])/\aq w.heap.size w w':=by
 refine m2g ?_;intro hB T0;(have CG:=fun w=>Ve f g w);(have CL:=fun w=>qv5 f g w);have hl:=q3d f g
 unfold gg at *
 cases hg:iX f with
 | false=>
  (have H1:aK (nQ f g d=0):=by show _=_;unfold nQ;rw[aT (by simp[hg])]);(have H2:aK (oJ f g=2):=by show _=_;unfold oJ;rw[aT (by simp[hg])])
  rw[hg] at CG
  exact wu
 | true=>
  rw[hg] at CG
  by_cases hz:(qZ f g).length=0
  ·(have H1:aK (nQ f g d=0):=by show _=_;unfold nQ;rw[aZ hg,aZ hz]);(have H2:aK (oJ f g=10):=by show _=_;unfold oJ;rw[aZ hg,aZ hz]);(have hz':((qZ f g).length:Int)=0:=by omega);clear hz
   exact wu
  ·(have H1:aK (nQ f g d=((o7 (qZ f g) d:Nat):Int)):=by show _=_;unfold nQ;rw[aZ hg,aT hz]);(have H2:aK (oJ f g=0):=by show _=_;unfold oJ;rw[aZ hg,aT hz]);(have hz':(((qZ f g).length:Int)==0)=false:=by simp;intro h;exact hz (by rw[h];rfl));(have gI:0<(qZ f g).length:=by omega);clear hz
   exact wu
def xH(h:p:=by
 go_wp2_with (first|(refine lI _ rfl ?_ _ rfl f g T0 ?_;· rfl)|(go_at_call 168;go_fit (C0 _);rintro e w' ⟨v,rfl,⟨a1,c1,rfl⟩,_,hb⟩;refine zC ?_;clear hb T0;intro hb hown T0 hB hsize hlt;replace d0:=T0.dr 0 om;rw[hg] at d0))
 exact Dw):p:=h
def xI(h:p:=by
 go_wp2_with (first|(refine lI _ rfl ?_ _ rfl f g T0 ?_;· rfl)|(go_at_call 168;go_fit (C1 _);rintro e w' ⟨v,rfl,⟨a1,c1,rfl⟩,_,hb⟩;refine zC ?_;clear hb T0;intro hb hown T0 hB hsize hlt;replace d0:=T0.dr 1 om;rw[hg] at d0))
 exact Dx):p:=h
def xJ(h:p:=by
 go_wp2_with (first|(refine lI _ rfl ?_ _ rfl f g T0 ?_;· rfl)|(go_at_call 168;go_fit (C2 _);rintro e w' ⟨v,rfl,⟨a1,c1,rfl⟩,_,hb⟩;refine zC ?_;clear hb T0;intro hb hown T0 hB hsize hlt;replace d0:=T0.dr 2 om;rw[hg] at d0))
 exact Dy):p:=h
def qdX(f:Nat->Int)(g:Nat->Bool)(d:Int)(hd:(Lit.int .i64 d).wf=true)(w:af):
  az ah 117 #[gg f g,.int .i64 d] w fun e w'=>e=.returned (.tuple #[.int .i64 (nQ f g d),.int .i64 (oJ f g)])/\aq w.heap.size w w':=by
 obtain⟨i0,hi,hz0,hz1,hz2⟩:=info_parts W4;refine m2g ?_;intro hB T0;(have CG:=fun w=>MT f g w);(have C0:=fun w=>Gn f g 0 om w);(have C1:=fun w=>Gn f g 1 om w);(have C2:=fun w=>Gn f g 2 om w);have hl:=q3d f g
 unfold gg at *
 cases kM:iX f with
 | false=>
  (have H1:aK (nQ f g d=0):=by show _=_;unfold nQ;rw[aT (by simp[kM])]);(have H2:aK (oJ f g=2):=by show _=_;unfold oJ;rw[aT (by simp[kM])])
  rw[kM] at CG
  go_enter func117,ntmps117
  go_wp2_with (first|(refine lI _ rfl ?_ _ rfl f g T0 ?_;· rfl)|(go_at_call 167;refine s8 ?_;intro w' hb;(try replace hb:=GU hb);replace T0:=T0.below hb;replace hB:=hB.trans (hb.mono hB.size)))
  exact sQ
 | true=>
  rw[kM] at CG
  have W7:aK (iX f=true):=kM;clear kM
  go_enter func117,ntmps117
  go_wp2_with (first|(refine lI _ rfl ?_ _ rfl f g T0 ?_;· rfl)|(go_at_call 167;refine s8 ?_;intro w' hb;(try replace hb:=GU hb);replace T0:=T0.below hb;replace hB:=hB.trans (hb.mono hB.size)))
  go_loopw [6,11] (fun v i wr=>∃(k:Nat) (ao:Option Addr) (cv:Nat),k<=3/\i=.int .i64 k/\v=.slice ao (fZ f g k).length cv/\dM wr (w.heap.size+1) v (fZ f g k)/\cg wr w.heap.size (pc f g)/\aq w.heap.size w wr) (fun _ i _=>3-(cY i).toNat)
  case atStart=>exact⟨0,none,0,by omega,rfl,rfl,dM.nil _ _,T0,hB⟩
  case round=>
   clear T0 hB
   obtain⟨k,ao,cv,hk,rfl,rfl,hown,T0,hB⟩:=hrel
   have hsize:=hB.size;have hlt:=T0.lt
   rcases(show k=0\/k=1\/k=2\/k=3 by omega) with rfl|rfl|rfl|rfl
   .have TW:=NQ f g 0;have d0:=T0.dr 0 om
    by_cases hz:0<(fD (aX f 0)).length
    .cases hg:g 0 with
     | true=>
      (have HS:aK (fZ f g 1=fZ f g 0):=by show _=_;rw[tI,aT (by simp[hg])];simp);(have hx:(0:Int)<((fD (aX f 0)).length:Int):=by omega);clear hz
      rw[hg] at d0
      exact xH
     | false=>
      (have HS:aK (fZ f g 1=fZ f g 0++[0]):=by show _=_;rw[tI,aZ (by simp[hg,hz])]);(have hx:(0:Int)<((fD (aX f 0)).length:Int):=by omega);clear hz
      rw[hg] at d0
      go_wp2_with (first|(refine lI _ rfl ?_ _ rfl f g T0 ?_;· rfl)|(go_at_call 168;go_fit (C0 _);rintro e w' ⟨v,rfl,⟨a1,c1,rfl⟩,_,hb⟩;refine zC ?_;clear hb hown T0 hB hsize hlt;intro hb hown T0 hB hsize hlt;replace d0:=T0.dr 0 om;rw[hg] at d0)|(at_builtin;refine dp _ rfl _ _ 44 rfl (w.heap.size+1) 3 i0 (.int .i64 0) 1 8 underlying44 hi hz0 hz1 hz2 rfl (by decide) _ _ _ rfl (hown.alloc _) _ 1 1 [.int .i64 0] rfl rfl (ER _ _ _) (fun x hx=>by simp at hx;subst hx;rfl) (by unfold jt;omega) om (by simp;omega) ?_;intro v' w3 hown' fk hnil3))
      exact DA
    ·(have HS:aK (fZ f g 1=fZ f g 0):=by show _=_;rw[tI,aT (by rw[eB];rintro⟨_,h⟩;exact hz (of_decide_eq_true h))];simp);(have hx:((fD (aX f 0)).length:Int)=0:=by omega);clear hz
     cases hg:g 0 <;>
     .rw[hg] at d0
      exact xH
   .have TW:=NQ f g 1;have d0:=T0.dr 1 om
    by_cases hz:0<(fD (aX f 1)).length
    .cases hg:g 1 with
     | true=>
      (have HS:aK (fZ f g 2=fZ f g 1):=by show _=_;rw[tI,aT (by simp[hg])];simp);(have hx:(0:Int)<((fD (aX f 1)).length:Int):=by omega);clear hz
      rw[hg] at d0
      exact xI
     | false=>
      (have HS:aK (fZ f g 2=fZ f g 1++[1]):=by show _=_;rw[tI,aZ (by simp[hg,hz])]);(have hx:(0:Int)<((fD (aX f 1)).length:Int):=by omega);clear hz
      rw[hg] at d0
      go_wp2_with (first|(refine lI _ rfl ?_ _ rfl f g T0 ?_;· rfl)|(go_at_call 168;go_fit (C1 _);rintro e w' ⟨v,rfl,⟨a1,c1,rfl⟩,_,hb⟩;refine zC ?_;clear hb hown T0 hB hsize hlt;intro hb hown T0 hB hsize hlt;replace d0:=T0.dr 1 om;rw[hg] at d0)|(at_builtin;refine dp _ rfl _ _ 44 rfl (w.heap.size+1) 3 i0 (.int .i64 0) 1 8 underlying44 hi hz0 hz1 hz2 rfl (by decide) _ _ _ rfl (hown.alloc _) _ 1 1 [.int .i64 1] rfl rfl (ER _ _ _) (fun x hx=>by simp at hx;subst hx;rfl) (by unfold jt;omega) om (by simp;omega) ?_;intro v' w3 hown' fk hnil3))
      exact DB
    ·(have HS:aK (fZ f g 2=fZ f g 1):=by show _=_;rw[tI,aT (by rw[eB];rintro⟨_,h⟩;exact hz (of_decide_eq_true h))];simp);(have hx:((fD (aX f 1)).length:Int)=0:=by omega);clear hz
     cases hg:g 1 <;>
     .rw[hg] at d0
      exact xI
   .have TW:=NQ f g 2;have d0:=T0.dr 2 om
    by_cases hz:0<(fD (aX f 2)).length
    .cases hg:g 2 with
     | true=>
      (have HS:aK (fZ f g 3=fZ f g 2):=by show _=_;rw[tI,aT (by simp[hg])];simp);(have hx:(0:Int)<((fD (aX f 2)).length:Int):=by omega);clear hz
      rw[hg] at d0
      exact xJ
     | false=>
      (have HS:aK (fZ f g 3=fZ f g 2++[2]):=by show _=_;rw[tI,aZ (by simp[hg,hz])]);(have hx:(0:Int)<((fD (aX f 2)).length:Int):=by omega);clear hz
      rw[hg] at d0
      go_wp2_with (first|(refine lI _ rfl ?_ _ rfl f g T0 ?_;· rfl)|(go_at_call 168;go_fit (C2 _);rintro e w' ⟨v,rfl,⟨a1,c1,rfl⟩,_,hb⟩;refine zC ?_;clear hb hown T0 hB hsize hlt;intro hb hown T0 hB hsize hlt;replace d0:=T0.dr 2 om;rw[hg] at d0)|(at_builtin;refine dp _ rfl _ _ 44 rfl (w.heap.size+1) 3 i0 (.int .i64 0) 1 8 underlying44 hi hz0 hz1 hz2 rfl (by decide) _ _ _ rfl (hown.alloc _) _ 1 1 [.int .i64 2] rfl rfl (ER _ _ _) (fun x hx=>by simp at hx;subst hx;rfl) (by unfold jt;omega) om (by simp;omega) ?_;intro v' w3 hown' fk hnil3))
      exact xD
    ·(have HS:aK (fZ f g 3=fZ f g 2):=by show _=_;rw[tI,aT (by rw[eB];rintro⟨_,h⟩;exact hz (of_decide_eq_true h))];simp);(have hx:((fD (aX f 2)).length:Int)=0:=by omega);clear hz
     cases hg:g 2 <;>
     .rw[hg] at d0
      exact xJ
   .by_cases hz:(qZ f g).length=0
    ·(have H1:aK (nQ f g d=0):=by show _=_;unfold nQ;rw[aZ W7.out,aZ hz]);(have H2:aK (oJ f g=10):=by show _=_;unfold oJ;rw[aZ W7.out,aZ hz]);(have hz':((fZ f g 3).length:Int)=0:=by unfold qZ at hz;omega);clear hz
     go_wp2
     exact sQ
    ·(have H1:aK (nQ f g d=((o7 (qZ f g) d:Nat):Int)):=by show _=_;unfold nQ;rw[aZ W7.out,aT hz]);(have H2:aK (oJ f g=0):=by show _=_;unfold oJ;rw[aZ W7.out,aT hz]);(have gI:0<(fZ f g 3).length:=by unfold qZ at hz;omega);(have hz':(((fZ f g 3).length:Int)==0)=false:=by simp;intro h;rw[h] at gI;simp at gI);clear hz;obtain⟨b1,qhV,e1,hc⟩:=hown.at gI;(have e2:ao=some ⟨b1,0,none⟩:=by injection e1)
     subst e2
     obtain⟨q0,q1⟩:=TU d (fZ f g 3).length gI;(have hq:(d%((fZ f g 3).length:Int)).toNat<(fZ f g 3).length:=by omega);have hcell:=hc _ hq
     have HD:aK (o7 (qZ f g) d=(fZ f g 3)[(d%((fZ f g 3).length:Int)).toNat]):=by
      show o7 (fZ f g 3) d=_
      exact xC
     generalize(fZ f g 3)[(d % ((fZ f g 3).length:Int)).toNat]=x at *
     (have CC:=fun w=>TV d (fZ f g 3).length w gI (by have:=q3d f g;unfold qZ at this;omega));clear hc
     go_wp2_with (go_at_call 169;go_fit (CC _);rintro e w' ⟨rfl,rfl⟩)
     go_ret2
     exact⟨by rw[H1.out,H2.out,HD.out];rfl,hB⟩
end Go.Proofs.YtnkpgdejagglaaaGreatDoor
