/-
  Of what a law stands on.
-/
import Derived.Lib.ItoaNum
import Derived.WalkKit
import Derived.ProofKit
import Derived.Below
import Derived.Maps.OwnSet
import Derived.Maps.OwnOps
import Derived.Maps.AppendAt
import Derived.Deep.RegionHeld3
import Derived.Deep.RegionLaw
import Derived.Lib.SlicesDelete
import Derived.Lib.SliceRun
import Derived.Deep.DeepCutAuto
import Derived.Deep.DeepFit
import Derived.Test.YtnkpgdejagglaaaGreatDoorZyWhL
import Derived.Test.YtnkpgdejagglaaaGreatDoorZym
set_option linter.all false
namespace Go.Proofs.YtnkpgdejagglaaaGreatDoor
open _root_.Array renaming getElem?_eq_some_iff->aV,getElem?_setIfInBounds_ne->oA
open _root_.BitVec renaming ofInt->bW
open _root_.Go renaming Calls->az,DataW->mF,Operand->aU,TypeId->bt,Value->ag,World->af,execOp->bG
open _root_.Go.Proofs.Tryz renaming prog->ah
open _root_.Go.RowKit.Below renaming heap_setCell->eC,refl->cA
open _root_.Go.Value renaming int->bO,ownBlock->bA,slice->jK
open _root_.Go.World renaming cell?->cS,cell?_alloc_mark->en,frozen?->nk,ownsRow_nil->oy
open _root_.Int renaming toNat_natCast->j5
open _root_.List renaming filter_cons->kD,foldl_cons->lq,mem_append->dA,mem_filter->dW,mem_flatMap->kE,nil_append->jh,nodup_append->oz,nodup_iff_pairwise_ne->jl,range->aA,take->nr
open _root_.Nat renaming div_div_eq_div_mul->lp,div_le_div_right->iC,le_refl->au,le_trans->aw,lt_of_lt_of_le->bi,shiftRight_eq_div_pow->jL,xor_lt_two_pow->gF,zero_le->bZ
open Go.Value renaming int → I,pointer → V
open Go.IntKind renaming i64 → Z
open _root_.Go.Proofs.Tryz
set_option maxHeartbeats 16000000
set_option maxRecDepth 100000
variable {p:Prop}{l:List Int}{a w w' w2:World}{b bm c k n o:Nat}{d i now:Int}{du:Int->Option Int}{L:Nat->List Int}{t:TypeId}{F G:Nat->Prop}{v:Value}{D:DataW Unit}{cs:Array Value}{vs:Nat->Value}{r:Option Nat}{Q:Exit->Act->World->Prop}{ops:Array Oper}
def lv(a b:Nat):Nat:=(Lib.bitLen (a ^^^ b)-1)/6
def dg(t l:Nat):Nat:=t/64^l%64
def pk(now d:Nat):Nat:=64*lv d now+dg d (lv d now)
def Hz(t l:Nat):dg t l<64:=Nat.mod_lt _ (by decide)
theorem q7h(l:Nat):64^l=2^(6*l):=by grind [Nat.pow_mul]
theorem q2c(a b:Nat):a ^^^ b=0↔a=b:=by
 refine⟨fun h=>?_,fun h=>by rw[h,Nat.xor_self]⟩
 (have e:(a ^^^ b) ^^^ b=b:=by rw[h,Nat.zero_xor])
 grind
theorem qx9(a b n:Nat):(a ^^^ b)/2^n=0↔a/2^n=b/2^n:=by
 rw[←jL,←jL,←jL,Nat.shiftRight_xor_distrib]
 exact q2c _ _
theorem q8f:Lib.bitLen 0=0:=by decide
def qto(x:Nat)(h:x<2^64)(h0:x≠0):1<=Lib.bitLen x/\2^(Lib.bitLen x-1)<=x/\x<2^Lib.bitLen x:=Lib.bitLenAux_bounds 64 x h h0
theorem Gv(a b:Nat)(ha:a<2^64)(hb:b<2^64):a/64^(lv a b+1)=b/64^(lv a b+1):=by
 rw[q7h,←qx9]
 by_cases h0:a ^^^ b=0
 .simp_all
 .have hx:a ^^^ b<2^64:=gF ha hb;obtain⟨h1,h2,h3⟩:=qto _ hx h0
  apply Nat.div_eq_of_lt
  refine bi h3 (Nat.pow_le_pow_right (by decide) ?_)
  unfold lv;omega
theorem Uj(a b:Nat)(ha:a<2^64)(hb:b<2^64)(h:lv a b≠0):a/64^lv a b≠b/64^lv a b:=by
 rw[q7h];intro he
 rw[←qx9] at he
 have h0:a ^^^ b≠0:=by
  intro e;unfold lv at h;rw[e,q8f] at h;exact h rfl
 have hx:a ^^^ b<2^64:=gF ha hb;obtain⟨h1,h2,h3⟩:=qto _ hx h0;have h4:2^(6*lv a b)<=a ^^^ b:=aw (Nat.pow_le_pow_right (by decide) (by unfold lv;omega)) h2
 have:=Nat.div_pos h4 (Nat.pow_pos (by decide))
 omega
theorem Uk(a b l m:Nat)(h:a/64^l=b/64^l)(hm:l<=m):a/64^m=b/64^m:=by
 obtain⟨k,rfl⟩:=Nat.exists_eq_add_of_le hm
 rw[Nat.pow_add,←lp,←lp,h]
theorem q7b(a b l:Nat)(ha:a<2^64)(hb:b<2^64)(h1:a/64^(l+1)=b/64^(l+1))(h2:l=0\/a/64^l≠b/64^l):lv a b=l:=by
 have k1:=Gv a b ha hb
 grind [Uj,Uk]
def Tp(a b:Nat)(ha:a<=1099511627776)(hb:b<=1099511627776):lv a b<=6:=by
 have hx:a ^^^ b<2^41:=gF om om
 have:=Lib.bitLen_le (a ^^^ b) 41 (by decide) hx
 unfold lv;omega
theorem Xf(a b:Nat)(ha:a<=1099511627776)(hb:b<=1099511627776):pk a b<448:=by
 have:=Tp b a hb ha
 have:=Hz b (lv b a)
 unfold pk;omega
theorem Ul(t l:Nat):t/64^l=64*(t/64^(l+1))+dg t l:=by
 unfold dg
 rw[Nat.pow_succ,←lp]
 omega
def Xg(a b l:Nat)(h:a/64^l<b/64^l):a<b:=by
 apply Nat.lt_of_not_le
 intro hc
 have:=iC (c:=64^l) hc
 omega
theorem Xh(a d:Nat)(ha:a<2^64)(hd:d<2^64)(h:a<=d):dg a (lv d a)<=dg d (lv d a)/\(dg a (lv d a)=dg d (lv d a)->lv d a=0/\a=d):=by
 have k1:=Gv d a hd ha;have k2:=Uj d a hd ha;have e1:=Ul a (lv d a);have e2:=Ul d (lv d a);have e3:=iC (c:=64^lv d a) h
 grind
def qtt(a t d:Nat)(ha:a<2^64)(ht:t<2^64)(hd:d<2^64)(hat:a<=t)(h:lv d a<lv t a):d<t:=by
 have k1:=Gv d a hd ha;have k2:=Uj t a ht ha om;have k3:=Uk d a _ _ k1 h;have e3:=iC (c:=64^lv t a) hat
 exact Xg d t (lv t a) om
def D7(h:p:=by
 have k1:=Gv d a hd ha;have k2:=Gv t a ht ha;have e1:=Ul d (lv t a);have e2:=Ul t (lv t a)
 rw[h] at k1
 first
  | exact Xg d t (lv t a) om
  | exact⟨Xg t d (lv t a) om,q7b d t _ hd ht om (.inr om)⟩):p:=h
def qss(a t d:Nat)(ha:a<2^64)(ht:t<2^64)(hd:d<2^64)(h:lv d a=lv t a)(hl:dg d (lv t a)<dg t (lv t a)):d<t:=by
 exact D7
theorem q1e(a t d:Nat)(ha:a<2^64)(ht:t<2^64)(hd:d<2^64)(h:lv d a=lv t a)(hl:dg d (lv t a)=dg t (lv t a))(hgt:t<d):lv d t<lv t a:=by grind [Gv,Ul,Uj,Uk]
def q4f(a t d:Nat)(ha:a<2^64)(ht:t<2^64)(hd:d<2^64)(h:lv d a=lv t a)(hl:dg t (lv t a)<dg d (lv t a)):t<d/\lv d t=lv t a:=by
 exact D7
def q2u(a t d:Nat)(ha:a<2^64)(ht:t<2^64)(hd:d<2^64)(had:a<=d)(h:lv t a<lv d a):t<d/\lv d t=lv d a:=by
 have k1:=Gv d a hd ha;have k2:=Uj d a hd ha om;have k3:=Uk t a _ _ (Gv t a ht ha) h;have k4:=Uk t a _ _ (Gv t a ht ha) (show lv t a+1<=lv d a+1 by omega);have e3:=iC (c:=64^lv d a) had
 exact⟨Xg t d (lv d a) om,q7b d t _ hd ht om (.inr om)⟩
theorem qm4{l a m:Nat}(ha:a<64)(hb:b<64):64*l+a=64*m+b↔l=m/\a=b:=by omega
section
open Go.ChangeShapes Go.WideShapes Go.ChangeAt Go.RowKit
def q8w(a b:Nat)(ha:a<2^62)(hb:b<2^62):bits .xor .i64 (a:Int) (b:Int)=((a ^^^ b:Nat):Int):=by
 (have e1:(bW 64 (a:Int)).toNat=a:=by rw[BitVec.toNat_ofInt];omega);(have e2:(bW 64 (b:Int)).toNat=b:=by rw[BitVec.toNat_ofInt];omega);(have e3:(bW 64 (a:Int) ^^^ bW 64 (b:Int)).toNat=a ^^^ b:=by rw[BitVec.toNat_xor,e1,e2]);have hx:a ^^^ b<2^62:=gF ha hb
 unfold bits
 show IntKind.i64.wrap ((bW 64 (a:Int) ^^^ bW 64 (b:Int)).toNat:Int)=_
 rw[e3]
 simp[IntKind.wrap,IntKind.bits,IntKind.signed]
 omega
def q9a(x:Int)(w:af)(h0:0<=x)(h1:x<=18446744073709551615):az ah 152 #[.int .u64 x] w fun e w'=>e=.returned (I Z (Lib.bitLen x.toNat:Int))/\w'=w:=by
 (have C:=fun w=>q3v x w h0 h1)
 go_enter func152,ntmps152
 go_wp2_with (go_at_call 203;refine(C _).mono ?_;rintro e w' ⟨rfl,rfl⟩)
 go_ret
 exact⟨rfl,rfl⟩
def qsu(t l:Nat)(ht:t<=1099511627776)(hl:l<=6)(w:af):az ah 149 #[I Z (t:Int),I Z (l:Int)] w fun e w'=>e=.returned (I Z (dg t l:Int))/\w'=w:=by
 (have hc:l=0\/l=1\/l=2\/l=3\/l=4\/l=5\/l=6:=by omega)
 rcases hc with rfl|rfl|rfl|rfl|rfl|rfl|rfl
 all_goals
  go_enter func149,ntmps149
  go_wp2
  go_ret
  refine⟨?_,rfl⟩
  unfold dg
  first
  | rfl
  | (congr 2;simp;done)
def Ea(h:p:=by
 go_enter func148,ntmps148
 go_wp2_with (first|(go_at_call 152;refine(C _).mono ?_;rintro e w' ⟨rfl,rfl⟩)|(go_at_call 149;refine(D _).mono ?_;rintro e w' ⟨rfl,rfl⟩))
 go_ret2
 exact⟨rfl,rfl⟩):p:=h
def qoh(b o:Nat)(now d:Nat)(hn:now<=1099511627776)(hd:d<=1099511627776)(w:af)(c0:w.cell? ⟨b,o,none⟩=some (I Z (now:Int))):
  az ah 148 #[V (some ⟨b,o,none⟩),I Z (d:Int)] w fun e w'=>e=.returned (.tuple #[I Z (lv d now:Int),I Z (dg d (lv d now):Int)])/\w'=w:=by
 have hx:=q8w d now om om;have hxl:d ^^^ now<2^41:=gF om om;(have C:=fun w=>q9a ((d ^^^ now:Nat):Int) w om om)
 rw[j5] at C
 have hbl:=Lib.bitLen_le (d ^^^ now) 41 (by decide) hxl;have hlv:=Tp d now hd hn;(have D:=fun w=>qsu d (lv d now) hd hlv w);have Um:Hid (lv d now=(Lib.bitLen (d ^^^ now)-1)/6):=rfl
 generalize lv d now=v at *
 generalize Lib.bitLen (d ^^^ now)=q at *
 generalize d ^^^ now=x at *
 by_cases h0:0<q
 ·(have hv:((q:Int)-1)/6=(v:Int):=by have:=Um.out;omega);(have my:wrap64 ((q:Int)-1)=(q:Int)-1:=by unfold wrap64;omega)
  exact Ea
 .obtain rfl:q=0:=by omega
  obtain rfl:v=0:=by have:=Um.out;omega
  exact Ea
end
def dz(du:Int->Option Int)(i:Int):Int:=(du i).getD 0
def dw(L:Nat->List Int)(k:Nat)(l:List Int):Nat->List Int:=fun j=>if j=k then l else L j
def p8(now:Int)(z:Int->Int)(L:Nat->List Int)(i:Int):Nat->List Int:=dw L (pk now.toNat (z i).toNat) (L (pk now.toNat (z i).toNat)++[i])
def io(now:Int)(z:Int->Int)(s:(Nat->List Int)×List Int)(i:Int):(Nat->List Int)×List Int:=if z i<=now then(s.1,s.2++[i]) else(p8 now z s.1 i,s.2)
def iq(now:Int)(z:Int->Int)(s:(Nat->List Int)×List Int)(k:Nat):(Nat->List Int)×List Int:=(s.1 k).foldl (io now z) (dw s.1 k [],s.2)
def jg(l d n:Nat):List Nat:=(aA n).map fun i=>64*l+(d+i)
def p9(a:Nat)(now:Int)(z:Int->Int)(s:(Nat->List Int)×List Int)(l:Nat):(Nat->List Int)×List Int:=(jg l (dg a l) (64-dg a l)).foldl (iq now z) s
def qL(a t:Int)(z:Int->Int)(L:Nat->List Int):(Nat->List Int)×List Int:=
 (jg (lv t.toNat a.toNat) (dg a.toNat (lv t.toNat a.toNat)) (dg t.toNat (lv t.toNat a.toNat)+1-dg a.toNat (lv t.toNat a.toNat))).foldl (iq t z) ((aA (lv t.toNat a.toNat)).foldl (p9 a.toNat t z) (L,[]))
structure yX(now:Int)(du:Int->Option Int)(L:Nat->List Int):Prop where
 time:0<=now/\now<=1099511627776
 due:∀i d,du i=some d->now<=d/\d<=1099511627776
 nodup:∀k,(L k).Nodup
 mem:∀k i,i∈L k↔∃d,du i=some d/\pk now.toNat d.toNat=k
theorem yX.z(h:yX now du L)(i:Int):0<=dz du i/\dz du i<=1099511627776:=by
 unfold dz
 rcases hd:du i with _|d
 .simp
 .have:=h.due i d hd;have:=h.time;simp;omega
theorem qr5(h:du i=some d):dz du i=d:=by unfold dz;rw[h];rfl
def q88(now:Int)(z:Int->Int)(l:List Int)(s:(Nat->List Int)×List Int)(h:∀i∈l,z i<=now):l.foldl (io now z) s=(s.1,s.2++l):=by
 induction l generalizing s with
 | nil=>simp
 | cons i r ih=>
  rw[lq]
  have:io now z s i=(s.1,s.2++[i]):=by unfold io;rw[aZ (h i zm)]
  rw[this,ih _ (fun j hj=>h j (by simp[hj]))]
  simp
theorem qsq(now:Int)(z:Int->Int)(l:List Int)(s:(Nat->List Int)×List Int):l.foldl (io now z) s=(fun j=>s.1 j++l.filter (fun i=>decide (¬z i<=now)&&decide (pk now.toNat (z i).toNat=j)),s.2++l.filter (fun i=>decide (z i<=now))):=by
 induction l generalizing s with
 | nil=>simp
 | cons i r ih=>
  rw[lq,ih]
  by_cases h:z i<=now
  .have:io now z s i=(s.1,s.2++[i]):=by unfold io;rw[aZ h]
   rw[this];(have h':¬now<z i:=by omega)
   simp[kD,h,h']
  .have:io now z s i=(p8 now z s.1 i,s.2):=by unfold io;rw[aT h]
   rw[this]
   refine Prod.ext ?_ (by simp[kD,h])
   funext j
   simp only[p8,dw]
   by_cases e:j=pk now.toNat (z i).toNat
   .subst e;simp[kD,h]
   ·(have e':¬pk now.toNat (z i).toNat=j:=fun x=>e x.symm)
    simp[kD,h,e,e']
theorem q5q(now:Int)(z:Int->Int)(ks:List Nat)(L:Nat->List Int)(off:List Int)(hn:ks.Nodup)(h:∀k∈ks,∀i∈L k,z i<=now):ks.foldl (iq now z) (L,off)=(fun j=>if j∈ks then [] else L j,off++ks.flatMap L):=by
 induction ks generalizing L off with
 | nil=>simp
 | cons k r ih=>
  rw[lq];have hk:=q88 now z (L k) (dw L k [],off) (h k zm);have e1:iq now z (L,off) k=(dw L k [],off++L k):=hk;have Gw:=List.nodup_cons.1 hn;rw[e1,ih _ _ Gw.2 (fun q hq i hi=>?_)]
  .refine Prod.ext ?_ ?_
   .funext j
    by_cases hj:j∈r
    .simp[hj]
    .by_cases e:j=k
     .subst e;simp[hj,dw]
     .simp[hj,e,dw]
   .have:r.flatMap (dw L k [])=r.flatMap L:=by
     have hc:∀q∈r,dw L k [] q=L q:=by
      intro q hq
      have:q≠k:=fun e=>Gw.1 (e▸hq)
      simp[dw,this]
     rw[List.flatMap_def,List.flatMap_def,List.map_congr_left hc]
    simp[this]
  .have:q≠k:=fun e=>Gw.1 (e▸hq)
   simp only[dw,aT this] at hi
   exact h q (by simp[hq]) i hi
def EW{l d:Nat}:k∈jg l d n↔∃a,k=64*l+a/\d<=a/\a<d+n:=by
 unfold jg
 simp only[List.mem_map,List.mem_range]
 constructor
 .rintro⟨i,hi,rfl⟩;exact⟨d+i,rfl,by omega,by omega⟩
 .rintro⟨a,rfl,h1,h2⟩;exact⟨a-d,by omega,by omega⟩
def qrm(l d n:Nat):(jg l d n).Nodup:=by
 unfold jg
 rw[jl,List.pairwise_map]
 exact(List.nodup_range (n:=n)).imp (fun h e=>h om)
def yY(a t:Nat):List Nat:=(aA (lv t a)).flatMap (fun l=>jg l (dg a l) (64-dg a l))++jg (lv t a) (dg a (lv t a)) (dg t (lv t a)-dg a (lv t a))
theorem qtu(a:Nat)(now:Int)(z:Int->Int)(ls:List Nat)(s:(Nat->List Int)×List Int):ls.foldl (p9 a now z) s=(ls.flatMap (fun l=>jg l (dg a l) (64-dg a l))).foldl (iq now z) s:=by
 induction ls generalizing s with
 | nil=>rfl
 | cons l r ih=>rw[lq,List.flatMap_cons,List.foldl_append,ih];rfl
theorem q29(l d n:Nat)(h:d<=n):jg l d (n+1-d)=jg l d (n-d)++[64*l+n]:=by
 unfold jg
 (rw[show n+1-d=(n-d)+1 by omega,List.range_succ,List.map_append])
 simp;omega
theorem q51(a t:Int)(z:Int->Int)(L:Nat->List Int)(h:dg a.toNat (lv t.toNat a.toNat)<=dg t.toNat (lv t.toNat a.toNat)):qL a t z L=iq t z ((yY a.toNat t.toNat).foldl (iq t z) (L,[])) (64*lv t.toNat a.toNat+dg t.toNat (lv t.toNat a.toNat)):=by grind [qL,yY,q29,qtu,iq]
theorem PM(a t k:Nat)(ht:dg t (lv t a)<64):k∈yY a t↔∃l d,k=64*l+d/\d<64/\dg a l<=d/\(l<lv t a\/l=lv t a/\d<dg t (lv t a)):=by
 unfold yY
 rw[dA,kE]
 constructor
 .rintro(⟨l,hl,hk⟩|hk)
  .obtain⟨d,rfl,h1,h2⟩:=EW.1 hk
   grind
  .obtain⟨d,rfl,h1,h2⟩:=EW.1 hk
   exact⟨lv t a,d,rfl,by omega,h1,.inr ⟨rfl,by omega⟩⟩
 .rintro⟨l,d,rfl,h1,h2,h3|⟨rfl,h3⟩⟩
  .exact .inl ⟨l,by simpa using h3,EW.2 ⟨d,rfl,h2,by omega⟩⟩
  .exact .inr (EW.2 ⟨d,rfl,h2,by omega⟩)
theorem qrf(a t:Nat)(ht:dg t (lv t a)<64):(yY a t).Nodup:=by
 unfold yY
 rw[oz]
 refine⟨?_,qrm _ _ _,?_⟩
 .rw[jl,List.pairwise_flatMap]
  refine⟨fun l _=>qrm _ _ _,?_⟩
  refine(List.nodup_range (n:=lv t a)).imp (fun {l m} h x hx y hy e=>?_)
  obtain⟨d,rfl,h1,h2⟩:=EW.1 hx
  obtain⟨e',rfl,h3,h4⟩:=EW.1 hy
  omega
 .intro x hx y hy e;obtain⟨l,hl,hk⟩:=kE.1 hx
  obtain⟨d,rfl,h1,h2⟩:=EW.1 hk
  obtain⟨e',rfl,h3,h4⟩:=EW.1 hy
  grind
def Cl(t:Int)(du:Int->Option Int):Int->Option Int:=fun i=>match du i with|some d=>if d<=t then none else some d|none=>none
theorem Xi{t:Int}:Cl t du i=some d↔du i=some d/\t<d:=by grind [Cl]
theorem sV(h:p:=by
 have:D=D':=by have:=Option.some.inj gY;omega
 grind):p:=h
theorem q4u{a t:Int}(h:yX a du L)(hat:a<=t)(ht:t<=1099511627776):
  yX t (Cl t du) (qL a t (dz du) L).1/\(qL a t (dz du) L).2.Nodup/\∀i,i∈(qL a t (dz du) L).2↔∃d,du i=some d/\d<=t:=by
 have ha0:=h.time
 obtain⟨A,hA⟩:∃A:Nat,a=A:=⟨a.toNat,by omega⟩
 obtain⟨T,hT⟩:∃T:Nat,t=T:=⟨t.toNat,by omega⟩
 subst hA;subst hT
 (have Gx:A<2^64:=by omega);(have IE:T<2^64:=by omega);(have hAT:A<=T:=by omega);have Un:dg A (lv T A)<=dg T (lv T A):=(Xh A T Gx IE hAT).1;have wB:=Hz T (lv T A);rw[q51 _ _ _ _ (by simpa using Un)]
 simp only[j5]
 -- where a timer is
 have gI:∀k i,i∈L k->∃D:Nat,du i=some (D:Int)/\A<=D/\D<2^64/\pk A D=k/\dz du i=(D:Int):=by
  intro k i hi;obtain⟨d,h1,h2⟩:=(h.mem k i).1 hi;have h3:=h.due i d h1
  grind [qr5]
 have hall:∀k∈yY A T,∀i∈L k,dz du i<=(T:Int):=by
  intro k hk i hi;obtain⟨D,h1,h2,h3,h4,h5⟩:=gI k i hi;obtain⟨l,d,e1,e2,e3,e4⟩:=(PM A T k wB).1 hk;have hd:=Hz D (lv D A)
  unfold pk at h4
  rw[e1,qm4 hd e2] at h4
  obtain⟨f1,f2⟩:=h4;rw[h5]
  rcases e4 with e4|⟨e4,e5⟩
  .have:=qtt A T D Gx IE h3 hAT om;omega
  .have:=qss A T D Gx IE h3 om (by rw[←e4,←f1];rw[f2,f1,e4];exact e5);omega
 rw[q5q _ _ _ _ _ (qrf A T wB) hall]
 generalize hK:64*lv T A+dg T (lv T A)=K
 have hKn:K ∉ yY A T:=by
  grind [PM,qm4]
 unfold iq
 rw[qsq]
 simp only[j5,aT hKn,jh]
 -- a timer's list,by its time
 (have dR:∀i (D:Nat),du i=some (D:Int)->i∈L (pk A D):=fun i D hd=>(h.mem _ i).2 ⟨D,hd,by simp⟩)
 have hD:∀i d,du i=some d->∃D:Nat,d=D/\A<=D/\D<2^64:=by
  intro i d hd
  have:=h.due i d hd
  exact⟨d.toNat,by omega,by omega,by omega⟩
 -- which lists a timer may lie in
 have Uo:∀D:Nat,A<=D->D<2^64->(pk A D∈yY A T/\D<T)\/(pk A D=K/\(T<D->lv D T<lv T A))\/(pk A D ∉ yY A T/\pk A D≠K/\T<D/\pk T D=pk A D):=by
  intro D IG zP;have hl:=(Xh A D Gx zP IG).1;have hd:=Hz D (lv D A)
  rcases Nat.lt_trichotomy (lv D A) (lv T A) with hc|hc|hc
  .exact .inl ⟨(PM A T _ wB).2 ⟨lv D A,dg D (lv D A),rfl,hd,hl,.inl hc⟩,qtt A T D Gx IE zP hAT hc⟩
  .rcases Nat.lt_trichotomy (dg D (lv D A)) (dg T (lv T A)) with hq|hq|hq
   .exact .inl ⟨(PM A T _ wB).2 ⟨lv D A,dg D (lv D A),rfl,hd,hl,.inr ⟨hc,hq⟩⟩,qss A T D Gx IE zP hc (by rw[←hc];rw[←hc] at hq;exact hq)⟩
   .refine .inr (.inl ⟨by unfold pk;rw[hq,hc];exact hK,fun hg=>q1e A T D Gx IE zP hc (by rw[←hc];rw[←hc] at hq;exact hq) hg⟩)
   .have hg:=q4f A T D Gx IE zP hc (by rw[hc] at hq;exact hq)
    refine .inr (.inr ⟨fun hm=>?_,fun e=>?_,hg.1,?_⟩)
    .obtain⟨l,d,e1,e2,e3,e4⟩:=(PM A T _ wB).1 hm
     unfold pk at e1
     omega
    .unfold pk at e
     omega
    .unfold pk;rw[hg.2,hc]
  .have hg:=q2u A T D Gx IE zP IG hc
   refine .inr (.inr ⟨fun hm=>?_,fun e=>?_,hg.1,?_⟩)
   .obtain⟨l,d,e1,e2,e3,e4⟩:=(PM A T _ wB).1 hm
    unfold pk at e1
    omega
   .unfold pk at e
    omega
   .unfold pk;rw[hg.2]
 refine⟨⟨by omega,?_,?_,?_⟩,?_,?_⟩
 .intro i d hd;obtain⟨h1,h2⟩:=Xi.1 hd
  have:=h.due i d h1
  omega
 .intro k
  by_cases e:k=K
  .subst e
   simp only[dw,if_true,jh]
   exact(h.nodup _).filter _
  .simp only[dw,aT e]
   by_cases hm:k∈yY A T
   .simp only[aZ hm,jh]
    exact(h.nodup _).filter _
   .simp only[aT hm]
    rw[oz]
    refine⟨h.nodup _,(h.nodup _).filter _,fun x hx y hy e2=>?_⟩
    subst e2
    obtain⟨D,h1,h2,h3,h4,h5⟩:=gI k x hx;obtain⟨D',gY,Es,GP,OM,h5'⟩:=gI K x (dW.1 hy).1
    rw[h1] at gY
    exact sV
 .intro k i
  have key:∀D:Nat,du i=some (D:Int)->A<=D->D<2^64->(i∈(dw (fun j=>if j∈yY A T then [] else L j) K []) k++(L K).filter (fun i=>decide (¬dz du i<=(T:Int))&&decide (pk T (dz du i).toNat=k))↔T<D/\pk T D=k):=by
   intro D hd IG zP;have hzD:dz du i=(D:Int):=qr5 hd;have hi:=dR i D hd
   have pW:∀q,i∈L q->q=pk A D:=by
    intro q hq
    obtain⟨D',gY,_,_,OM,_⟩:=gI q i hq
    rw[hd] at gY
    exact sV
   rw[dA,dW]
   simp only[hzD,j5,Bool.and_eq_true,decide_eq_true_eq]
   constructor
   .rintro(hm|⟨hm,h1,h2⟩)
    .by_cases e:k=K
     .grind [dw]
     .simp only[dw,aT e] at hm
      grind
    omega
   .rintro⟨h1,h2⟩
    rcases Uo D IG zP with⟨c1,c2⟩|⟨c1,c2⟩|⟨c1,c2,c3,c4⟩
    .omega
    .grind
    grind [dw]
  constructor
  .intro hm
   have:∃d,du i=some d:=by
    rcases dA.1 hm with hm|hm
    .by_cases e:k=K
     .grind [dw]
     .simp only[dw,aT e] at hm
      by_cases uV:k∈yY A T
      .grind
      grind
    .obtain⟨d,h1,_⟩:=(h.mem K i).1 (dW.1 hm).1
     grind
   obtain⟨d,hd⟩:=this
   obtain⟨D,rfl,IG,zP⟩:=hD i d hd
   have:=(key D hd IG zP).1 hm
   exact⟨D,Xi.2 ⟨hd,by omega⟩,by simpa using this.2⟩
  .rintro⟨d,hd,h2⟩
   obtain⟨h1,h3⟩:=Xi.1 hd
   obtain⟨D,rfl,IG,zP⟩:=hD i d h1
   exact(key D h1 IG zP).2 ⟨by omega,by simpa using h2⟩
 .rw[oz]
  refine⟨?_,(h.nodup _).filter _,?_⟩
  .rw[jl,List.pairwise_flatMap]
   refine⟨fun k _=>h.nodup k,?_⟩
   refine(qrf A T wB).imp (fun {k m} hne x hx y hy e=>?_)
   subst e
   obtain⟨D,h1,_,_,h4,_⟩:=gI k x hx
   obtain⟨D',gY,_,_,OM,_⟩:=gI m x hy
   rw[h1] at gY
   exact sV
  .intro x hx y hy e
   subst e
   obtain⟨k,hk,Oa⟩:=kE.1 hx
   obtain⟨D,h1,_,_,h4,_⟩:=gI k x Oa
   obtain⟨D',gY,_,_,OM,_⟩:=gI K x (dW.1 hy).1
   rw[h1] at gY
   exact sV
 .intro i;rw[dA,kE,dW]
  constructor
  .rintro(⟨k,hk,hi⟩|⟨hi,h2⟩)
   .grind
   grind
  grind
section
open Go.ChangeShapes Go.WideShapes Go.ChangeAt Go.RowKit Go.Maps
structure Gr(F:Nat->Prop)(w w':af):Prop where
 os:w'.os=w.os
 tape:w'.tape=w.tape
 output:w'.output=w.output
 size:w.heap.size<=w'.heap.size
 block:∀c,c<w.heap.size->¬F c->w'.heap[c]?=w.heap[c]?
def Gr.refl(F:Nat->Prop)(w:af):Gr F w w:=⟨rfl,rfl,rfl,au _,fun _ _ _=>rfl⟩
theorem Gr.trans{b c:af}(h:Gr F a b)(k:Gr G b c)(hG:∀x,G x->F x\/a.heap.size<=x):Gr F a c:=
 ⟨k.os.trans h.os,k.tape.trans h.tape,k.output.trans h.output,aw h.size k.size,fun x hx hn=>(k.block x (bi hx h.size) (fun hg=>by rcases hG x hg with h1|h1;exact hn h1;omega)).trans (h.block x hx hn)⟩
def Gr.mono{b:af}(h:Gr F a b)(hG:∀x,F x->G x):Gr G a b:=⟨h.os,h.tape,h.output,h.size,fun x hx hn=>h.block x hx (fun hf=>hn (hG x hf))⟩
def Gr.below{B:Nat}(h:Gr F w w')(hF:∀c,F c->B<=c)(hB:B<=w.heap.size):Below B w w':=
 ⟨h.os,h.tape,h.output,h.size,fun k hk=>h.block k om (fun hf=>by have:=hF k hf;omega)⟩
def Gr.cU(h:Below w.heap.size w w'):Gr F w w':=⟨h.os,h.tape,h.output,h.size,fun k hk _=>h.block k hk⟩
def Gr.ep{row:Option Nat}(h:w.grownBy w' row)(hF:∀c,row=some c->F c):Gr F w w':=
 ⟨h.os,h.tape,h.output,h.size,fun k hk hn=>h.block k hk (fun e=>hn (hF k e.symm))⟩
def Gr.setCell(w:af)(b o:Nat)(v:ag)(hb:F b):Gr F w (w.setCell ⟨b,o,none⟩ v):=
 ⟨rfl,rfl,rfl,by simp[World.setCell],fun k hk hn=>eC _ _ _ _ (fun e=>hn (e▸hb))⟩
def Gr.drew(h:Gr F a w):Gr F a w.drew:=⟨h.os,h.tape,h.output,h.size,h.block⟩
def jA(ls:Nat->ag)(n:Nat)(v:ag):Nat->ag:=fun i=>if i=n then v else ls i
abbrev gT(w:af)(v:ag)(l:List Int):Prop:=w.ownsRow 0 3 1 v l.length (l.map (bO .i64))
abbrev j1(w:af)(b n:Nat)(D:mF Unit):Prop:=w.ownsMap ah 3 (plainElem ah 3) b n D
structure WM(w:af)(b:Nat)(t:bt)(cs:Array ag)(o:Nat)(now:Int)(mb:Option Nat)(D:mF Unit)(vs:Nat->ag)(L:Nat->List Int):Prop where
 row:w.heap[b]?=some (.cells cs t (0,0))
 size:o+450<=cs.size
 c0:cs[o]?=some (.int .i64 now)
 c1:cs[o+1]?=some (.map mb)
 cl:∀k,k<448->cs[o+2+k]?=some (vs k)
 own:∀k,k<448->gT w (vs k) (L k)
 nil:∀k,k<448->L k=[]->vs k=.slice none 0 0
 apart:∀j k c,j<448->k<448->(vs j).ownBlock=some c->(vs k).ownBlock=some c->j=k
 mM:∀k,k<448->(vs k).ownBlock≠some b
 map:(mb=none/\D=.map [])\/∃bm n,mb=some bm/\n<=1000000/\j1 w bm n D
def Fp(b:Nat)(mb:Option Nat)(vs:Nat->ag)(c:Nat):Prop:=c=b\/mb=some c\/∃k,k<448/\(vs k).ownBlock=some c
def lV(o:Nat)(cs cs':Array ag):Prop:=cs'.size=cs.size/\∀i,(i<o\/o+450<=i)->cs'[i]?=cs[i]?
def lV.refl(o:Nat)(cs:Array ag):lV o cs cs:=⟨rfl,fun _ _=>rfl⟩
theorem lV.trans{a b c:Array ag}(h:lV o a b)(k:lV o b c):lV o a c:=by grind [lV]
theorem lV.set(o i:Nat)(cs:Array ag)(v:ag)(h1:o<=i)(h2:i<o+450):lV o cs (cs.setIfInBounds i v):=by grind [lV]
section
variable {w:World} {b:Nat} {t:TypeId} {cs:Array Value} {o:Nat} {now:Int} {mb:Option Nat} {D:DataW Unit} {vs:Nat->Value} {L:Nat->List Int}
def WM.lt(h:WM w b t cs o now mb D vs L):b<w.heap.size:=(aV.1 h.row).1
def WM.cell(h:WM w b t cs o now mb D vs L)(i:Nat):w.cell? ⟨b,i,none⟩=cs[i]?:=by simp[cS,h.row]
def WM.free(h:WM w b t cs o now mb D vs L)(i:Nat):w.frozen? ⟨b,i,none⟩=false:=by simp[nk,h.row]
theorem gT.qb(h:gT w v l)(hm:j1 w bm n D):v.ownBlock≠some bm:=by
 obtain⟨es,clock,hb,_⟩:=hm
 rcases h.2 with⟨e,_⟩|⟨g,cap,cur,e,_,hg,_⟩
 .rw[e];simp[bA]
 .rw[e];intro he
  have:g=bm:=by simpa[bA] using he
  grind
theorem j1.pS(hr:w.heap[b]?=some (.cells cs t (0,0)))(hm:j1 w bm n D):bm≠b:=by
 obtain⟨es,clock,hb,_⟩:=hm
 grind
theorem gT.pS(h:gT w v l)(hr:w.heap[b]?=some (.cells cs t (0,0)))(ht:t≠3):v.ownBlock≠some b:=by
 rcases h.2 with⟨e,_⟩|⟨g,cap,cur,e,_,hg,_⟩
 .rw[e];simp[bA]
 .rw[e];intro he
  have:g=b:=by simpa[bA] using he
  grind
theorem WM.keep(h:WM w b t cs o now mb D vs L)(hg:Gr F w w')(hF:∀c,Fp b mb vs c->¬F c):WM w' b t cs o now mb D vs L:=by
 refine⟨(hg.block b h.lt (hF b (.inl rfl))).trans h.row,h.size,h.c0,h.c1,h.cl,fun k hk=>?_,h.nil,h.apart,h.mM,?_⟩
 .obtain⟨h1,h2⟩:=h.own k hk
  refine⟨h1,?_⟩
  rcases h2 with h2|⟨g,cap,cur,e,h3,h4,h5⟩
  .grind
  .refine .inr ⟨g,cap,cur,e,h3,?_,h5⟩
   rw[←h4]
   exact hg.block g (aV.1 h4).1 (hF g (.inr (.inr ⟨k,hk,by rw[e];rfl⟩)))
 .rcases h.map with h1|⟨bm,n,h1,hn,es,clock,h2,h3⟩
  .grind
  .exact .inr ⟨bm,n,h1,hn,es,clock,(hg.block bm (aV.1 h2).1 (hF bm (.inr (.inl h1)))).trans h2,h3⟩
def WM.below(h:WM w b t cs o now mb D vs L)(hb:Below w.heap.size w w'):WM w' b t cs o now mb D vs L:=h.keep (Gr.cU (F:=fun _=>False) hb) (fun _ _=>id)
def WM.alloc(h:WM w b t cs o now mb D vs L)(x:Obj):WM (w.alloc x) b t cs o now mb D vs L:=h.below ((cA _ _).alloc (au _) _)
def WM.drew(h:WM w b t cs o now mb D vs L):WM w.drew b t cs o now mb D vs L:=h.below (cA _ _).drew
theorem WM.Eb(h:WM w b t cs o now mb D vs L)(hk:k<448){v':ag}{l':List Int}(hg:w.grownBy w2 (vs k).ownBlock)(hown:gT w2 v' l')(hnil:l'=[]->v'=.slice none 0 0)(hloc:v'.ownBlock=none\/v'.ownBlock=(vs k).ownBlock\/∃c,v'.ownBlock=some c/\w.heap.size<=c){i:Nat}(hi:i=o+2+k):
  WM (w2.setCell ⟨b,i,none⟩ v') b t (cs.setIfInBounds i v') o now mb D (jA vs k v') (dw L k l')/\lV o cs (cs.setIfInBounds i v')/\Gr (Fp b mb vs) w (w2.setCell ⟨b,i,none⟩ v')/\∀c,Fp b mb (jA vs k v') c->Fp b mb vs c\/w.heap.size<=c:=by
 subst hi
 (have hbk:some b≠(vs k).ownBlock:=fun e=>h.mM k hk e.symm);have hrow:w2.heap[b]?=some (.cells cs t (0,0)):=(hg.block b h.lt hbk).trans h.row;have hsz:=h.size
 have hlt:∀c,v'.ownBlock=some c->c≠b:=by
  intro c hc e
  rcases hloc with h1|h1|⟨c',h1,h2⟩
  .grind
  .grind
  .rw[h1] at hc;cases hc;have:=h.lt;omega
 (have Xj:Gr (Fp b mb vs) w (w2.setCell ⟨b,o+2+k,none⟩ v'):=(Gr.ep hg (fun c hc=>.inr (.inr ⟨k,hk,hc⟩))).trans (Gr.setCell (F:=fun c=>c=b) w2 b _ v' rfl) (fun x hx=>.inl (.inl hx)));(have yw:∀c,c≠b->(w2.setCell ⟨b,o+2+k,none⟩ v').heap[c]?=w2.heap[c]?:=fun c hc=>eC _ _ _ _ hc)
 refine⟨⟨heap_setCell_same w2 b _ _ t _ hrow,by simpa using hsz,?_,?_,fun j hj=>?_,fun j hj=>?_,fun j hj hl=>?_,fun j j' c hj hj' h1 h2=>?_,fun j hj=>?_,?_⟩,lV.set o _ cs v' om om,Xj,fun c hc=>?_⟩
 .refine Pt ?_;exact h.c0
 .refine Pt ?_;exact h.c1
 .by_cases e:j=k
  .grind [jA]
  .rw[oA om,h.cl j hj]
   grind [jA]
 .by_cases e:j=k
  .subst e
   obtain⟨h1,h2⟩:=hown
   simp only[jA,dw,if_true]
   refine⟨h1,?_⟩
   rcases h2 with h2|⟨g,cap,cur,e,h3,h4,h5⟩
   .grind
   .exact .inr ⟨g,cap,cur,e,h3,(yw g (hlt g (by rw[e];rfl))).trans h4,h5⟩
  .simp only[jA,dw,aT e]
   obtain⟨h1,h2⟩:=h.own j hj
   refine⟨h1,?_⟩
   rcases h2 with h2|⟨g,cap,cur,e',h3,h4,h5⟩
   .grind
   ·(have Dv:(vs j).ownBlock=some g:=by rw[e'];rfl)
    refine .inr ⟨g,cap,cur,e',h3,?_,h5⟩
    rw[yw g (fun e2=>h.mM j hj (by rw[Dv,e2])),←h4]
    exact hg.block g (aV.1 h4).1 (fun e2=>e (h.apart j k g hj hk Dv e2.symm))
 .by_cases e:j=k
  .grind [jA,dw]
  .simp only[jA,dw,aT e] at hl ⊢;exact h.nil j hj hl
 .have key:∀m,m<448->m≠k->(vs m).ownBlock=some c->v'.ownBlock=some c->False:=by
   intro m hm GW h3 h4
   rcases hloc with h5|h5|⟨c',h5,h6⟩
   .grind
   .exact GW (h.apart m k c hm hk h3 (by rw[←h5,h4]))
   .rw[h5] at h4;cases h4
    have:=((h.own m hm).lt c h3).2
    omega
  by_cases e:j=k
  .grind [jA]
  .by_cases e':j'=k
   .grind [jA]
   .simp only[jA,aT e,aT e'] at h1 h2
    exact h.apart j j' c hj hj' h1 h2
 .by_cases e:j=k
  .grind [jA]
  .simp only[jA,aT e];exact h.mM j hj
 .rcases h.map with h1|⟨bm,n,h1,hn,hm⟩
  .grind
  .have hne:=hm.pS h.row;obtain⟨es,clock,h2,h3⟩:=id hm
   refine .inr ⟨bm,n,h1,hn,es,clock,?_,h3⟩
   rw[yw bm hne,←h2]
   exact hg.block bm (aV.1 h2).1 (fun e2=>(h.own k hk).qb hm e2.symm)
 .rcases hc with rfl|hc|⟨j,hj,hc⟩
  .exact .inl (.inl rfl)
  .exact .inl (.inr (.inl hc))
  .by_cases e:j=k
   .simp only[jA,aZ e] at hc
    rcases hloc with h5|h5|⟨c',h5,h6⟩
    .grind
    .exact .inl (.inr (.inr ⟨k,hk,by rw[←h5,hc]⟩))
    grind
   .simp only[jA,aT e] at hc
    exact .inl (.inr (.inr ⟨j,hj,hc⟩))
end
def NV(b o l:Nat)(h:l<7)(w:af):(Instr.indexAt 58 (V (some ⟨b,o,none⟩)) (I Z (l:Int))).run ah w=.ok (V (some ⟨b,o+64*l,none⟩)) w:=by
 (have hs:(sizeOf 57).run ah w=.ok 64 w:=by kernel_rfl);(have h1:(l:Int)<7:=by omega)
 simp[go_sem,underlying58,h1,h,hs]
def qy0(b o l:Nat)(h:l<64)(w:af):(Instr.indexAt 57 (V (some ⟨b,o,none⟩)) (I Z (l:Int))).run ah w=.ok (V (some ⟨b,o+l,none⟩)) w:=by
 (have hs:(sizeOf 44).run ah w=.ok 1 w:=by kernel_rfl);(have h1:(l:Int)<64:=by omega)
 simp[go_sem,underlying57,h1,h,hs]
def oh:Keyed ah 3:=int_keyed underlying3
def Nh(w:af):(zeroValue 3).run ah w=.ok (I Z 0) w:=by kernel_rfl
def q1h:(ah.info? 3).map (fun i=>(i.zero,i.size,i.bytes))=some (some (I Z 0),1,8):=by kernel_rfl
def nC(D:mF Unit)(i:Int)(d:Int):Prop:=D.atKey (.int .i64 i) (.lit (.int .i64 0))=.lit (.int .i64 d)
theorem gT.shape(h:gT w v l)(hl:0<l.length):∃g cap cur,v=.slice (some ⟨g,0,none⟩) l.length cap/\w.heap[g]?=some (.cells cur 3 (0,0))/\l.length<=cap/\cap<=maxLen/\cur.size=cap/\cur.toList.take l.length=l.map (bO .i64):=by
 rcases h.2 with⟨_,e⟩|⟨g,cap,cur,e,_,h1,h2,h3,h4,h5⟩
 .omega
 grind
theorem Gf{cur:Array ag}(h:cur.toList.take l.length=l.map (bO .i64))(j:Nat)(hj:j<l.length):cur[j]?=some (I Z l[j]):=by
 (have e:(cur.toList.take l.length)[j]?=some (I Z l[j]):=by rw[h];simp[hj])
 grind
def Xk{k:IntKind}{a b:Int}(h:a=b):Ending.returned (.int k a)=.returned (.int k b):=by rw[h]
def Ii(g n cap j:Nat)(hj:j<n)(w:af):(Instr.indexAt 44 (.slice (some ⟨g,0,none⟩) n cap) (I Z (j:Int))).run ah w=.ok (V (some ⟨g,j,none⟩)) w:=by
 (have hs:(sizeOf 3).run ah w=.ok 1 w:=by kernel_rfl);(have h1:(j:Int)<(n:Int):=by omega)
 simp[go_sem,underlying44,h1,hj,hs]
def q1w(h:gT w v l)(x:Int)(hx:x∈l)(hm:l.length<=1000000000):
  Calls prog 208 #[v,I Z x] w fun e w'=>e=.returned (I Z (l.idxOf x:Int))/\w'=w:=by
 have hlen:0<l.length:=List.length_pos_of_mem hx
 obtain⟨g,cap,cur,rfl,hg,_,_,_,ht⟩:=h.shape hlen
 have sk:=List.idxOf_lt_length_of_mem hx;(have hcell:∀j (hj:j<l.length),w.cell? ⟨g,j,none⟩=some (I Z l[j]):=fun j hj=>by simp[World.cell?,hg];exact Gf ht j hj)
 obtain⟨n,hn⟩:∃n,n=l.length:=⟨_,rfl⟩
 rw[←hn];have HN:Hid (n=l.length):=hn;(have hI:=fun j (hj:j<n) w=>Ii g n cap j hj w);clear hn h hg ht hlen
 go_enter func208,ntmps208
 go_wp2
 go_loop [8] (fun i=>∃j:Nat,j<=l.idxOf x/\i=I Z (j:Int)) (fun i=>n-(intOf i).toNat)
 case atStart=>exact⟨0,Nat.zero_le _,rfl⟩
 case round=>
  obtain⟨j,hj,rfl⟩:=hrel
  (have iu:j<l.length:=by omega);(have mA:(j:Int)<(n:Int):=by have:=HN.out;omega);(have hI':=fun w=>hI j (by have:=HN.out;omega) w);have hc:=hcell j iu
  by_cases he:l[j]=x
  ·(have hb:(x==l[j])=true:=by simp[he])
   have kQ:j=l.idxOf x:=by
    by_cases hlt:j<l.idxOf x
    .exact absurd he (by have:=List.not_of_lt_findIdx (p:=(· == x)) (xs:=l) hlt;simpa using this)
    .omega
   have HJ:Hid (j=l.idxOf x):=kQ;clear kQ he hI hcell
   go_wp2
   go_ret
   refine⟨Xk ?_,rfl⟩
   have:=HJ.out
   omega
  ·(have hb:(x==l[j])=false:=by simp;exact fun e=>he e.symm)
   have hlt:j<l.idxOf x:=by
    by_cases e:j=l.idxOf x
    .subst e;exact absurd (List.getElem_idxOf iu) he
    .omega
   (have hwr:wrap64 ((j:Int)+1)=(j:Int)+1:=by unfold wrap64;omega);have HL:Hid (j<l.idxOf x):=hlt;(have hmn:Hid (n-((j:Int)+1).toNat<n-((j:Int)).toNat):=by have:=HN.out;show _<_;omega);clear he hlt hI hcell
   go_wp2
   go_round
   case rel=>exact⟨j+1,HL.out,by go_num⟩
   case measure=>first|exact hmn.out 
def qM(cur:Array ag)(o:Nat)(vs:List ag):Array ag:=match vs with
 | []=>cur
 | v::r=>qM (cur.setIfInBounds o v) (o+1) r
theorem qtd(vs:List ag)(cur:Array ag)(o:Nat):(qM cur o vs).size=cur.size:=by
 induction vs generalizing cur o with
 | nil=>rfl
 | cons v r ih=>unfold qM;rw[ih];simp
theorem qvo(vs:List ag)(cur:Array ag)(o i:Nat)(hs:o+vs.length<=cur.size):(qM cur o vs)[i]?=if o<=i/\i<o+vs.length then vs[i-o]? else cur[i]?:=by
 induction vs generalizing cur o with
 | nil=>unfold qM;rw[aT zm]
 | cons v r ih=>
  unfold qM
  simp only[List.length_cons] at hs ⊢
  rw[ih _ _ (by simp;omega)]
  by_cases e:i=o
  .subst e
   rw[aT om,aZ om,Array.getElem?_setIfInBounds_self_of_lt om]
   simp
  .by_cases h1:o+1<=i/\i<o+1+r.length
   .rw[aZ h1,aZ om]
    obtain⟨q,rfl⟩:=Nat.exists_eq_add_of_le h1.1
    (rw[show o+1+q-(o+1)=q by omega,show o+1+q-o=q+1 by omega])
    simp
   .rw[aT h1,aT om,oA om]
def qn7(vs:List ag)(w:af)(g o:Nat)(cur:Array ag)(t:bt)(h:w.heap[g]?=some (.cells cur t (0,0))):(w.setCells g o vs).heap[g]?=some (.cells (qM cur o vs) t (0,0)):=by
 induction vs generalizing w cur o with
 | nil=>exact h
 | cons v r ih=>unfold qM World.setCells;exact ih _ _ _ (heap_setCell_same w g o _ t _ h)
def qm5(vs:List ag)(w:af)(g o:Nat):w.grownBy (w.setCells g o vs) (some g):=by
 induction vs generalizing w o with
 | nil=>exact⟨rfl,rfl,rfl,au _,fun _ _ _=>rfl⟩
 | cons v r ih=>
  unfold World.setCells
  (have h1:w.grownBy (w.setCell ⟨g,o,none⟩ v) (some g):=⟨rfl,rfl,rfl,by simp[World.setCell],fun k _ hk=>eC _ _ _ _ (fun e=>hk (by rw[e]))⟩)
  exact h1.trans (ih _ _)
def q0c(h:gT w v l)(j:Nat)(hj:j<l.length)(hm:l.length<=1000000000):
  Calls prog 209 #[v,I Z (j:Int),I Z ((j:Int)+1)] w fun e w'=>∃v',e=.returned v'/\gT w' v' (l.eraseIdx j)/\w.grownBy w' v.ownBlock/\v'.ownBlock=v.ownBlock/\∃a c,v'=.slice a (l.length-1) c:=by
 obtain⟨g,cap,cur,rfl,hg,hlc,hcm,hcs,ht⟩:=h.shape om
 obtain⟨i0,qY,hz0,hz1,hz2⟩:=info_parts q1h
 unfold maxLen at hcm
 (have hcell:∀k (hk:k<l.length),w.cell? ⟨g,k,none⟩=some (I Z l[k]):=fun k hk=>by simp[World.cell?,hg];exact Gf ht k hk);(have wI:∀k,w.frozen? ⟨g,k,none⟩=false:=fun k=>by simp[World.frozen?,hg])
 obtain⟨n,hn⟩:∃n,n=l.length:=⟨_,rfl⟩
 obtain⟨news,hnews⟩:∃news,news=(l.drop (j+1)).map (Value.int .i64):=⟨_,rfl⟩
 (have PN:news.length=n-(j+1):=by rw[hnews,hn];simp)
 obtain⟨A,hA,ub⟩:∃A:Addr,(if cap=j+1 then some (⟨g,0,none⟩:Addr) else some ⟨g,j+1,none⟩)=some A/\Hid (∀t u,news[t]?=some u->w.drew.cell? (A.add t)=some u):=by
  by_cases hc:cap=j+1
  .refine⟨⟨g,0,none⟩,by simp[hc],fun t u hu=>?_⟩
   (have h0:news.length=0:=by rw[PN];omega)
   rw[List.length_eq_zero_iff.1 h0] at hu
   simp at hu
  .refine⟨⟨g,j+1,none⟩,by simp[hc],fun t u hu=>?_⟩
   rw[Addr.add_lit]
   rw[hnews,List.getElem?_map,List.getElem?_drop] at hu
   have hlt:j+1+t<l.length:=by
    by_cases hlt:j+1+t<l.length
    .exact hlt
    .rw[List.getElem?_eq_none om] at hu;simp at hu
   rw[List.getElem?_eq_getElem hlt] at hu
   (have Qp:Value.int .i64 l[j+1+t]=u:=by simpa using hu)
   exact(hcell _ hlt).trans (by rw[Qp])
 (have s1:Hid (news.length=(n-(j+1))*1):=by rw[Nat.mul_one];exact PN)
 have s2:Hid (∀u∈news,u.oneCell'=true):=by
  intro u hu
  rw[hnews] at hu
  obtain⟨x,_,rfl⟩:=List.mem_map.1 hu
  rfl
 have s3:Hid (∀t,t<news.length->(w.drew.cell? ⟨g,0+j*1+t,none⟩).isSome=true/\w.drew.frozen? ⟨g,0+j*1+t,none⟩=false):=by
  intro t ht'
  rw[PN] at ht'
  rw[Nat.mul_one,Nat.zero_add]
  exact⟨by show(w.cell? _).isSome=true;rw[hcell (j+t) om];rfl,wI (j+t)⟩
 obtain⟨W1,hW1⟩:∃W1,W1=w.drew.setCells g (0+j*1) news:=⟨_,rfl⟩
 (have hg1:W1.heap[g]?=some (.cells (qM cur j news) 3 (0,0)):=by rw[hW1,Nat.mul_one,Nat.zero_add];exact qn7 news w.drew g j cur _ hg);(have hgr:w.grownBy W1 (some g):=by rw[hW1];have q:=qm5 news w.drew g (0+j*1);exact⟨q.os,q.tape,q.output,q.size,q.block⟩);(have rP:(qM cur j news).size=cap:=by rw[qtd,hcs])
 have kF:∀ty,(Builtin.clear_ #[44] ty #[.slice (some ⟨g,j+(n-(j+1)),none⟩) (n-(j+(n-(j+1)))) (cap-(j+(n-(j+1))))]).run prog W1=.ok (.tuple #[]) (W1.setCells g (j+(n-(j+1))) (List.replicate (n-(j+(n-(j+1)))) (I Z 0))):=
  fun ty=>Lib.run_clear_slice W1 _ _ ty _ underlying44 Nh rfl rfl g (j+(n-(j+1))) _ _ om (fun t ht'=>by simp[World.cell?,hg1];omega) (fun t ht'=>by simp[World.frozen?,hg1])
 have oW:gT (W1.setCells g (j+(n-(j+1))) (List.replicate (n-(j+(n-(j+1)))) (I Z 0))) (.slice (some ⟨g,0,none⟩) (j+(n-(j+1))) cap) (l.eraseIdx j):=by
  (have e1:j+(n-(j+1))=n-1:=by omega);(rw[e1,show n-(n-1)=1 by omega]);(have yT:(l.eraseIdx j).length=n-1:=by rw[List.length_eraseIdx,aZ hj,hn])
  refine⟨by simp,.inr ⟨g,cap,_,by rw[yT],Nat.zero_le _,qn7 _ W1 g (n-1) _ _ hg1,by omega,by unfold maxLen;omega,by rw[qtd,rP,Nat.mul_one],?_⟩⟩
  apply List.ext_getElem?
  intro i;rw[List.getElem?_take,Nat.mul_one,yT,List.getElem?_map]
  by_cases hi:i<n-1
  .rw[aZ hi,Array.getElem?_toList,qvo _ _ _ _ (by simp[rP];omega),aT om,qvo _ _ _ _ (by rw[PN,hcs];omega),PN]
   by_cases kQ:j<=i
   .rw[aZ om,hnews,List.getElem?_map,List.getElem?_drop,List.getElem?_eraseIdx_of_ge kQ];(rw[show j+1+(i-j)=i+1 by omega])
   .rw[aT om,List.getElem?_eraseIdx_of_lt om,Gf ht i om,List.getElem?_eq_getElem om]
    rfl
  .rw[aT hi,List.getElem?_eq_none om]
   rfl
 have yZ:=hgr.trans (qm5 (List.replicate (n-(j+(n-(j+1)))) (I Z 0)) W1 g (j+(n-(j+1))));have HF:Hid (gT (W1.setCells g (j+(n-(j+1))) (List.replicate (n-(j+(n-(j+1)))) (I Z 0))) (.slice (some ⟨g,0,none⟩) (j+(n-(j+1))) cap) (l.eraseIdx j)):=oW;have HG:Hid (w.grownBy (W1.setCells g (j+(n-(j+1))) (List.replicate (n-(j+(n-(j+1)))) (I Z 0))) (some g)):=yZ;have hW:Hid (W1=w.drew.setCells g (0+j*1) news):=hW1;(have hnb:n<=1000000000:=by omega);(have mA:j<n:=by omega);(have y7:n<=cap:=by omega);rw[←hn];(have m6:((j:Int)==(j:Int)+1)=false:=by simp;omega);(have hjc:j<=cap:=by omega);(have qkB:j+1<=cap:=by omega);(have hp0:(0:Int)<=(j:Int)+1:=by omega);(have jF:(j:Int)+1<=(n:Int):=by omega);(have EH:((j:Int)+1).toNat=j+1:=by omega);clear oW yZ hgr hW1 hn hg1 rP PN hnews hcell wI ht hg hlc hm hj hcs h
 go_enter func209,ntmps209
 go_wp2_with fail
 go_region_law (refine step_append_room rfl (.tmp 22) (.tmp 25) 44 rfl 3 i0 1 underlying44 qY hz1 g 0 j cap (by simp[Act.eval,Act.put]) A (n-(j+1)) (cap-(j+1)) news (by simp[Act.eval,Act.put]) s1.out ub.out s2.out om s3.out ?_;rw[←hW.out])
 go_wp2
 go_ret
 exact⟨_,rfl,HF.out,HG.out,rfl,some ⟨g,0,none⟩,cap,congrArg (fun q=>Value.slice (some ⟨g,0,none⟩) q cap) (show j+(n-(j+1))=n-1 by omega)⟩
theorem WM.lK(h:WM w b t cs o now (some bm) D vs L):∃n,n<=1000000/\j1 w bm n D:=by
 rcases h.map with⟨h1,_⟩|⟨bm',n,h1,h2,h3⟩
 all_goals grind
def ql7(h:w.heap[b]?=some (.cells cs t (0,0)))(hg:w.grownBy w2 r)(hr:r≠some b):w2.heap[b]?=some (.cells cs t (0,0)):=
 (hg.block b (Array.getElem?_eq_some_iff.1 h).1 (fun e=>hr e.symm)).trans h
theorem PR{c:Int}(h1:nC D i d)(h2:D.atKey (.int .i64 i) (.lit (.int .i64 0))=.lit (.int .i64 c)):c=d:=by grind [nC]
def qwr{now:Nat}(h:WM w b t cs o (now:Int) (some bm) D vs L)(i:Int)(d:Nat)(hi:(Lit.int .i64 i).wf=true)(hd:nC D i (d:Int))(hn:now<=1099511627776)(hdd:d<=1099511627776)(kO:i∈L (pk now d))(hlen:(L (pk now d)).length<=1000000000):
  az ah 177 #[.pointer (some ⟨b,o,none⟩),.int .i64 i] w fun e w'=>e=.returned (.tuple #[])/\∃cs' kT,WM w' b t cs' o (now:Int) (some bm) D kT (dw L (pk now d) ((L (pk now d)).eraseIdx ((L (pk now d)).idxOf i)))/\lV o cs cs'/\Gr (Fp b (some bm) vs) w w'/\∀c,Fp b (some bm) kT c->Fp b (some bm) vs c\/w.heap.size<=c:=by
 refine m30 ?_;intro hkey c0 c1 hl7 Nj Cb CP
 generalize lv d now=l at *
 generalize dg d l=a at *
 rw[Cb] at kO hlen ⊢
 (have hk:64*l+a<448:=by omega);have hown:=h.own _ hk;(have Xl:=fun w=>NV b (o+2) l om w);(have Gy:=fun w=>qy0 b (o+2+64*l) a om w);(have ho:o+2+64*l+a=o+2+(64*l+a):=by omega);(have cl:w.cell? ⟨b,o+2+64*l+a,none⟩=some (vs (64*l+a)):=by rw[ho];exact(h.cell _).trans (h.cl _ hk));obtain⟨n,Gw,hm⟩:=h.lK;(have CI:=fun(w:af) (h:gT w (vs (64*l+a)) (L (64*l+a)))=>q1w h i kO hlen);have sk:=List.idxOf_lt_length_of_mem kO;(have CD:=fun(w:af) (h:gT w (vs (64*l+a)) (L (64*l+a)))=>q0c h _ sk hlen);(have hwi:wrap64 ((List.idxOf i (L (64*l+a)):Int)+1)=(List.idxOf i (L (64*l+a)):Int)+1:=by unfold wrap64;omega);(have qY:(0:Int)<=(List.idxOf i (L (64*l+a)):Int):=by omega)
 have hne:∀w2 (u:ag),w.grownBy w2 (vs (64*l+a)).ownBlock->w2.cell? ⟨b,o+2+64*l+a,none⟩=some (vs (64*l+a))/\w2.frozen? ⟨b,o+2+64*l+a,none⟩=false:=by
  intro w2 u hg;have hr:=ql7 h.row hg (h.mM _ hk)
  exact⟨by simp only[cS,hr];rw[ho];exact h.cl _ hk,by simp[nk,hr]⟩
 (have oW:=fun(w2:af) (v':ag) (hg:w.grownBy w2 (vs (64*l+a)).ownBlock) (hw2:gT w2 v' ((L (64*l+a)).eraseIdx ((L (64*l+a)).idxOf i))) hnil hloc=>h.Eb hk hg hw2 hnil hloc ho);(have yT:((L (64*l+a)).eraseIdx ((L (64*l+a)).idxOf i)).length=(L (64*l+a)).length-1:=by rw[List.length_eraseIdx,aZ sk])
 generalize(L (64 * l+a)).eraseIdx ((L (64 * l+a)).idxOf i)=l' at *
 generalize List.idxOf i (L (64 * l+a))=q at *
 (have Up:Hid (∀(w2:af) (v':ag),w.grownBy w2 (vs (64*l+a)).ownBlock->gT w2 v' l'->(l'=[]->v'=.slice none 0 0)->(v'.ownBlock=none\/v'.ownBlock=(vs (64*l+a)).ownBlock\/∃c,v'.ownBlock=some c/\w.heap.size<=c)->∃cs' kT,WM (w2.setCell ⟨b,o+2+64*l+a,none⟩ v') b t cs' o (now:Int) (some bm) D kT (dw L (64*l+a) l')/\lV o cs cs'/\Gr (Fp b (some bm) vs) w (w2.setCell ⟨b,o+2+64*l+a,none⟩ v')/\∀c,Fp b (some bm) kT c->Fp b (some bm) vs c\/w.heap.size<=c):=fun w2 v' x1 x2 x3 x4=>⟨_,_,oW w2 v' x1 x2 x3 x4⟩)
 obtain⟨N,hN⟩:∃N,N=(L (64*l+a)).length-1:=⟨_,rfl⟩
 rw[←hN] at yT CD
 have WN:Hid (l'.length=N):=yT;clear Cb oW hlen kO ho yT hN sk
 by_cases PD:N=0
 ·(have hz:((N:Int)==0)=true:=by simp[PD])
  go_enter func177,ntmps177
  go_wp2_with (first|(at_lookup;refine m2m ?_;intro c hat hwc;obtain rfl:=PR hd hat;clear hat hwc)|(go_at_call 148;refine(CP _ c0).mono ?_;rintro e w' ⟨rfl,rfl⟩)|(go_at_call 208;refine(CI _ hown).mono ?_;rintro e w' ⟨rfl,rfl⟩)|(go_at_call 209;refine(CD _ hown).mono ?_;rintro e w2 ⟨v',rfl,PS,hg2,hb2,a2,k2,rfl⟩;obtain⟨cl2,fr2⟩:=hne w2 undef hg2))
  go_end0
  refine⟨rfl,Up.out w2 _ hg2 ?_ (fun _=>rfl) (.inl rfl)⟩
  have:l'=[]:=List.eq_nil_of_length_eq_zero (by have:=WN.out;omega)
  rw[this];exact oy _ _ _ _
 ·(have hz:((N:Int)==0)=false:=by simp;omega)
  go_enter func177,ntmps177
  go_wp2_with (first|(at_lookup;refine m2m ?_;intro c hat hwc;obtain rfl:=PR hd hat;clear hat hwc)|(go_at_call 148;refine(CP _ c0).mono ?_;rintro e w' ⟨rfl,rfl⟩)|(go_at_call 208;refine(CI _ hown).mono ?_;rintro e w' ⟨rfl,rfl⟩)|(go_at_call 209;refine(CD _ hown).mono ?_;rintro e w2 ⟨v',rfl,PS,hg2,hb2,a2,k2,rfl⟩;obtain⟨cl2,fr2⟩:=hne w2 undef hg2))
  go_end0
  exact⟨rfl,Up.out w2 _ hg2 PS (fun e=>absurd (by have:=WN.out;rw[e] at this;simpa using this.symm) PD) (.inr (.inl hb2))⟩
def Py(h:w.heap[b]?=some (.cells cs t (0,0)))(i:Nat):w.cell? ⟨b,i,none⟩=cs[i]?:=by simp[World.cell?,h]
def qnv(h:w.heap[b]?=some (.cells cs t (0,0)))(i:Nat):w.frozen? ⟨b,i,none⟩=false:=by simp[World.frozen?,h]
def qf7(h:w.drew.grownBy w2 r):w.grownBy w2 r:=⟨h.os,h.tape,h.output,h.size,h.block⟩
def q8i(hown:gT w v l)(c:Nat)(i:Int)(hc:w.cell? ⟨c,0,none⟩=some (I Z i))(hl:l.length<=1000000000)(ty:bt):
  ∃v' w',(Builtin.append_ #[44,44] ty #[v,.slice (some ⟨c,0,none⟩) 1 1]).run ah w=.ok v' w'/\gT w' v' (l++[i])/\w.grownBy w' v.ownBlock/\(v'.ownBlock=v.ownBlock\/v'.ownBlock=some w.heap.size)/\∃a k,v'=.slice a (l.length+1) k:=by
 obtain⟨i0,qY,hz0,hz1,hz2⟩:=info_parts q1h
 obtain⟨v',w',h1,h2,h3,h4,h5⟩:=run_append_own_at (P:=ah) w 0 44 ty 3 i0 (I Z 0) 1 8 underlying44 qY hz0 hz1 hz2 rfl (by decide) v l.length (l.map (bO .i64)) hown ⟨c,0,none⟩ 1 1 [I Z i] rfl (fun j u hu=>by
  match j,hu with
  | 0,hu=>
   (have e:bO .i64 i=u:=by simpa using hu)
   rw[←e];rw[Addr.add_lit];exact hc) (by simp[Value.oneCell']) (by unfold maxLen;omega) om (bZ _)
 refine⟨v',w',h1,by show w'.ownsRow 0 3 1 v' (l++[i]).length ((l++[i]).map (bO .i64));rw[List.length_append,List.map_append];exact h2,h3,h5,?_⟩
 rcases h2.2 with⟨_,e⟩|⟨g,cap,cur,e,_⟩
 .omega
 .exact⟨_,_,e⟩
def qwp{o:Oper}{a:Act}{K:Act->af->Prop}(s x:aU)(ho:o.op=.call { callee:=.builtin .append,args:=#[s,x],argTypes:=#[44,44] })(hs:a.eval s=v)(hown:gT w v l)(c:Nat)(i:Int)(hx:a.eval x=.slice (some ⟨c,0,none⟩) 1 1)(hc:w.cell? ⟨c,0,none⟩=some (I Z i))(hl:l.length<=1000000000)(hr:∀a' k' w',gT w' (.slice a' (l.length+1) k') (l++[i])->w.grownBy w' v.ownBlock->((jK a' (l.length+1) k').ownBlock=v.ownBlock\/(jK a' (l.length+1) k').ownBlock=some w.heap.size)->K (a.put o.dst (.slice a' (l.length+1) k')) w'):o.wp ah a w K Q:=by
 obtain⟨v',w',h1,h2,h3,h4,a',k',rfl⟩:=q8i hown c i hc hl o.type
 unfold Oper.wp bG
 simp only[ho,resolve,invoke,builtin,Sem.run_bind,Sem.run_pure,Result.andThen_ok,List.map_toArray,List.map_cons,List.map_nil,hs,hx,h1]
 exact hr a' k' w' h2 h3 h4
def qz6{rest:List Oper}{o:Oper}{a:Act}(hgd:o.guard=none)(s x:aU)(ho:o.op=.call { callee:=.builtin .append,args:=#[s,x],argTypes:=#[44,44] })(hs:a.eval s=v)(hown:gT w v l)(c:Nat)(i:Int)(hx:a.eval x=.slice (some ⟨c,0,none⟩) 1 1)(hc:w.cell? ⟨c,0,none⟩=some (I Z i))(hl:l.length<=1000000000)(hr:∀a' k' w',gT w' (.slice a' (l.length+1) k') (l++[i])->w.grownBy w' v.ownBlock->((jK a' (l.length+1) k').ownBlock=v.ownBlock\/(jK a' (l.length+1) k').ownBlock=some w.heap.size)->wpList ah ops Q rest (a.put o.dst (.slice a' (l.length+1) k')) w'):wpList ah ops Q (o::rest) a w:=
 wpList_plain hgd fun K hK=>qwp s x ho hs hown c i hx hc hl (fun a' k' w' h1 h2 h3=>hK _ _ (hr a' k' w' h1 h2 h3))
def Xm{S:af->Prop}{o:Oper}{a:Act}(t:bt)(x y:aU)(ho:o.op=.indexAddr t x y)(hw:Region.wanted o (yielded ops a.tmps)=true)(p i q:ag)(hx:a.eval x=p)(hy:a.eval y=i)(hrun:∀w:af,(Instr.indexAt t p i).run ah w=.ok q w):YieldsIf ah ops S o q a:=
 .inl ⟨hw,fun w _=>by unfold bG;simp only[ho,hx,hy,Sem.run_bind,hrun w,Result.andThen_ok,Sem.run_pure]⟩
def Ec(h:p:=by
 refine hK.out _ _ trivial (fun _=>?_)
 clear hK K;refine AR [13] ?_
 refine AP (fun K hK=>?_) ?_
 .refine qwp (v:=vs (64*l+a)) (.tmp 27) (.tmp 29) rfl rfl (h.own _ hk) _ i rfl h29 hlen ?_;intro a' k' w2 PS hg2 hl2;clear h29;replace hg2:=qf7 hg2
  refine hh ?_
  clear hK K;refine tk 17 (V (some ⟨b,o+2+64*l+a,none⟩)) rfl (Xm 57 (.tmp 33) (.tmp 19) rfl kr _ _ _ kr kr Gy) trivial ?_;simp only[ZZ];refine AR [18] ?_
  refine AP (fun K hK=>?_) AZ
  have hr2:=ql7 h.row hg2 (h.mM _ hk);have hc:=(Py hr2 (o+2+(64*l+a))).trans (h.cl _ hk);have hz:=qnv hr2 (o+2+(64*l+a));rw[←HO.out] at hc hz
  (unfold Oper.wp execOp;go_simp);clear hc hz
  refine hK.out _ _ trivial (fun _=>?_)
  clear hK K;refine AN ?_
  go_wp2
  go_end0
  have hq:=h.Eb hk hg2 PS (fun e=>absurd e zm) (.inr (hl2.imp id (fun e=>⟨_,e,Nat.le_refl _⟩))) HO.out
  exact⟨rfl,_,_,hq.1,hq.2.1,(Xj.trans hq.2.2.1 (fun x hx=>.inl hx)),fun c hc=>(hq.2.2.2 c hc).imp id (fun hh=>Nat.le_trans Xj.size hh)⟩
 exact AZ):p:=h
def ql3{now:Nat}(h:WM w b t cs o (now:Int) (some bm) D vs L)(i:Int)(d:Nat)(hi:(Lit.int .i64 i).wf=true)(hd:nC D i (d:Int))(hn:now<=1099511627776)(hdd:d<=1099511627776)(hlen:(L (pk now d)).length<=1000000000):
  az ah 178 #[.pointer (some ⟨b,o,none⟩),.int .i64 i] w fun e w'=>e=.returned (.tuple #[])/\∃cs' kT,WM w' b t cs' o (now:Int) (some bm) D kT (dw L (pk now d) (L (pk now d)++[i]))/\lV o cs cs'/\Gr (Fp b (some bm) vs) w w'/\∀c,Fp b (some bm) kT c->Fp b (some bm) vs c\/w.heap.size<=c:=by
 refine m30 ?_;intro hkey c0 c1 hl7 Nj Cb CP
 generalize lv d now=l at *
 generalize dg d l=a at *
 rw[Cb] at hlen ⊢
 (have hk:64*l+a<448:=by omega);(have Xl:=fun w=>NV b (o+2) l om w);(have Gy:=fun w=>qy0 b (o+2+64*l) a om w);(have HO:Hid (o+2+64*l+a=o+2+(64*l+a)):=(by omega:o+2+64*l+a=o+2+(64*l+a)));obtain⟨n,Gw,hm⟩:=h.lK;have Xj:Gr (Fp b (some bm) vs) w (w.alloc (.cells #[.int .i64 i] 3)):=Gr.cU ((cA _ _).alloc (au _) _);clear Cb
 go_enter func178,ntmps178
 go_wp2_with (first|(at_lookup;refine m2m ?_;intro c hat hwc;obtain rfl:=PR hd hat;clear hat hwc)|(go_at_call 148;refine(CP _ c0).mono ?_;refine gy ?_))
 clear c0 c1
 refine RD (fun _=>True) trivial (fun _=>?_)
 refine tq 0 (.pointer (some ⟨b,o,none⟩)) rfl trivial (tq 1 (.int .i64 (l:Int)) rfl trivial (tq 2 (.int .i64 (a:Int)) rfl trivial ?_));simp only[ZZ];refine tq 3 (.pointer (some ⟨b,o,none⟩)) rfl trivial (tq 4 (.int .i64 (l:Int)) rfl trivial (tq 5 (.int .i64 (a:Int)) rfl trivial ?_));simp only[ZZ];refine tq 6 (.pointer (some ⟨b,o,none⟩)) rfl trivial (tq 7 (.pointer (some ⟨b,o+2,none⟩)) rfl trivial (tk 8 (.pointer (some ⟨b,o+2+64*l,none⟩)) rfl (Xm 58 (.tmp 24) (.tmp 21) rfl kr _ _ _ kr kr Xl) trivial ?_));simp only[ZZ];refine tk 9 (.pointer (some ⟨b,o+2+64*l+a,none⟩)) rfl (Xm 57 (.tmp 25) (.tmp 22) rfl kr _ _ _ kr kr Gy) trivial (tq 11 (.int .i64 i) rfl trivial (tq 14 (.pointer (some ⟨b,o,none⟩)) rfl trivial ?_));simp only[ZZ];refine tq 15 (.pointer (some ⟨b,o+2,none⟩)) rfl trivial (tk 16 (.pointer (some ⟨b,o+2+64*l,none⟩)) rfl (Xm 58 (.tmp 32) (.tmp 18) rfl kr _ _ _ kr kr Xl) trivial ?_);simp only[ZZ];refine AR [10,12] ?_
 refine AP (fun K hK=>?_) ?_
 .have hc:=(h.cell (o+2+(64*l+a))).trans (h.cl _ hk);rw[←HO.out] at hc
  (unfold Oper.wp bG;go_simp);clear hc
  refine hK.out _ _ trivial (fun _=>?_)
  clear hK K;refine AR [12] ?_
  refine AP (fun K hK=>?_) AZ
  (unfold Oper.wp bG;go_simp);replace h:=h.alloc (.cells #[.int .i64 i] 3);have h29:cS _ ⟨_,0,none⟩=some (.int .i64 i):=en w #[.int .i64 i] 3 (0,0) 0
  exact Ec
 refine AP (fun K hK=>?_) AZ
 (unfold Oper.wp bG;go_simp);replace h:=h.alloc (.cells #[.int .i64 i] 3);have h29:cS _ ⟨_,0,none⟩=some (.int .i64 i):=en w #[.int .i64 i] 3 (0,0) 0
 refine hK.out _ _ trivial (fun _=>?_)
 clear hK K;refine AR [10] ?_
 refine AP (fun K hK=>?_) AZ
 have hc:=(h.cell (o+2+(64*l+a))).trans (h.cl _ hk);rw[←HO.out] at hc
 (unfold Oper.wp bG;go_simp);clear hc
 exact Ec
def Gr.NW(h:Gr F w.drew w'):Gr F w w':=⟨h.os,h.tape,h.output,h.size,h.block⟩
def IH(v:ag)(F:Nat->Prop):Prop:=∀c,v.ownBlock=some c->¬F c
theorem gT.ib(h:gT w v l)(hg:Gr F w w')(hn:IH v F):gT w' v l:=by
 obtain⟨h1,h2⟩:=h
 refine⟨h1,?_⟩
 rcases h2 with h2|⟨g,cap,cur,e,h3,h4,h5⟩
 .grind
 .exact .inr ⟨g,cap,cur,e,h3,(hg.block g (aV.1 h4).1 (hn g (by rw[e];rfl))).trans h4,h5⟩
def gT.PT(h:gT w v l)(hc:v.ownBlock=some c):c<w.heap.size:=(World.ownsRow.lt h c hc).2
def gT.alloc'(h:gT w v l)(o:Obj):gT (w.alloc o) v l:=World.ownsRow.alloc h o
theorem q81(now:Int)(z:Int->Int)(l:List Int)(s:(Nat->List Int)×List Int)(m:Nat):((l.foldl (io now z) s).1 m).length<=(s.1 m).length+l.length/\(l.foldl (io now z) s).2.length<=s.2.length+l.length:=by
 rw[qsq]
 grind
def qta{α β:Type}(f:β->α->β)(s:β)(l:List α)(j:Nat)(hj:j<l.length):(l.take (j+1)).foldl f s=f ((l.take j).foldl f s) l[j]:=by
 rw[List.take_succ_eq_append_getElem hj,List.foldl_append];rfl
def uy(D:mF Unit)(z:Int->Int):Prop:=∀i,(Lit.int .i64 i).wf=true->nC D i (z i)/\0<=z i/\z i<=1099511627776
structure NX(w:af)(b:Nat)(t:bt)(cs:Array ag)(o:Nat)(now:Int)(mb:Option Nat)(D:mF Unit)(vs:Nat->ag)(L:Nat->List Int)(ov:ag)(off:List Int):Prop where
 wm:WM w b t cs o now mb D vs L
 own:gT w ov off
 out:IH ov (Fp b mb vs)
theorem NX.II{mb:Option Nat}(h:WM w b t cs o now mb D vs L)(hc:Fp b mb vs c):c<w.heap.size:=by
 rcases hc with rfl|hc|⟨k,hk,hc⟩
 .exact h.lt
 .rcases h.map with⟨h1,_⟩|⟨bm,n,h1,_,hm⟩
  .grind
  .rw[h1] at hc;cases hc;exact hm.lt
 .exact(h.own k hk).PT hc
def Gz(w W:af)(b:Nat)(t:bt)(cs:Array ag)(o:Nat)(now:Int)(mb:Option Nat)(D:mF Unit)(vs:Nat->ag)(ov lv:ag)(ls:List Int)(s:(Nat->List Int)×List Int)(tv:ag)(cs':Array ag)(kT:Nat->ag):Prop:=
 NX W b t cs' o now mb D kT s.1 tv s.2/\gT W lv ls/\IH lv (Fp b mb kT)/\(∀c,tv.ownBlock=some c->lv.ownBlock≠some c)/\lV o cs cs'/\Gr (fun c=>Fp b mb vs c\/ov.ownBlock=some c) w W/\(∀c,Fp b mb kT c->Fp b mb vs c\/w.heap.size<=c)/\(∀c,tv.ownBlock=some c->ov.ownBlock=some c\/w.heap.size<=c)
section
variable {w W:World} {b:Nat} {t:TypeId} {cs:Array Value} {o:Nat} {now:Int} {mb:Option Nat} {D:DataW Unit} {vs:Nat->Value} {ov lv:Value} {ls:List Int} {s:(Nat->List Int)×List Int} {tv:Value} {cs':Array Value} {kT:Nat->Value}
theorem Gz.due(h:Gz w W b t cs o now mb D vs ov lv ls s tv cs' kT){w1:af}(h1:Below W.heap.size W w1){v2:ag}{l2:List Int}(hg:w1.grownBy w2 tv.ownBlock)(ho:gT w2 v2 l2)(hl:v2.ownBlock=tv.ownBlock\/v2.ownBlock=some w1.heap.size):Gz w w2 b t cs o now mb D vs ov lv ls (s.1,l2) v2 cs' kT:=by
 obtain⟨hm,NY,nV,Xn,tu,hgr,EX,Uq⟩:=h;have g1:Gr (fun c=>tv.ownBlock=some c) W w2:=(Gr.cU h1).trans (Gr.ep (F:=fun c=>tv.ownBlock=some c) hg (fun c hc=>hc)) (fun x hx=>.inl hx);have hsz:=h1.size
 refine⟨⟨hm.wm.keep g1 (fun c hc hd=>hm.out c hd hc),ho,fun c hc hf=>?_⟩,NY.ib g1 (fun c hc hd=>Xn c hd hc),nV,fun c hc hd=>?_,tu,hgr.trans g1 (fun x hx=>?_),EX,fun c hc=>?_⟩
 .rcases hl with hl|hl
  .exact hm.out c (hl▸hc) hf
  .rw[hl] at hc;cases hc;have:=NX.II hm.wm hf;omega
 .rcases hl with hl|hl
  .grind
  .rw[hl] at hc;cases hc;have:=NY.PT hd;omega
 .grind
 .rcases hl with hl|hl
  .grind
  .rw[hl] at hc;cases hc;have:=hgr.size;exact .inr om
theorem Gz.put(h:Gz w W b t cs o now mb D vs ov lv ls s tv cs' kT){tH:Array ag}{uP:Nat->ag}{L2:Nat->List Int}(hw:WM w2 b t tH o now mb D uP L2)(wC:lV o cs' tH)(hg:Gr (Fp b mb kT) W w2)(hf2:∀c,Fp b mb uP c->Fp b mb kT c\/W.heap.size<=c):Gz w w2 b t cs o now mb D vs ov lv ls (L2,s.2) tv tH uP:=by
 obtain⟨hm,NY,nV,Xn,tu,hgr,EX,Uq⟩:=h;have hsz:=hgr.size
 refine⟨⟨hw,hm.own.ib hg hm.out,fun c hc hf=>?_⟩,NY.ib hg nV,fun c hc hf=>?_,Xn,tu.trans wC,hgr.trans hg (fun x hx=>?_),fun c hc=>?_,Uq⟩
 .rcases hf2 c hf with h2|h2
  .exact hm.out c hc h2
  .have:=hm.own.PT hc;omega
 .rcases hf2 c hf with h2|h2
  .exact nV c hc h2
  .have:=NY.PT hc;omega
 .grind
 grind
end
def qzn{now:Nat}{mb:Option Nat}{ov:ag}{off:List Int}(h:NX w b t cs o (now:Int) mb D vs L ov off)(z:Int->Int)(hz:uy D z)(tL:∀k i,i∈L k->(Lit.int .i64 i).wf=true)(hn:now<=1099511627776)(l a:Nat)(hl:l<7)(ha:a<64)(hM:∀m,(L m).length+(L (64*l+a)).length<=1000000000)(hO:off.length+(L (64*l+a)).length<=1000000000)(wJ:mb=none->∀k,L k=[]):
  az ah 150 #[.pointer (some ⟨b,o,none⟩),.int .i64 (l:Int),.int .i64 (a:Int),ov] w fun e w'=>∃cs' kT qI,e=.returned qI/\NX w' b t cs' o (now:Int) mb D kT (iq (now:Int) z (L,off) (64*l+a)).1 qI (iq (now:Int) z (L,off) (64*l+a)).2/\lV o cs cs'/\Gr (fun c=>Fp b mb vs c\/ov.ownBlock=some c) w w'/\(∀c,Fp b mb kT c->Fp b mb vs c\/w.heap.size<=c)/\(∀c,qI.ownBlock=some c->ov.ownBlock=some c\/w.heap.size<=c):=by
 have ng:=h.wm;(have hk:64*l+a<448:=by omega);(have Xl:=fun w=>NV b (o+2) l om w);(have Gy:=fun w=>qy0 b (o+2+64*l) a om w);(have ho:o+2+64*l+a=o+2+(64*l+a):=by omega);(have cl:w.cell? ⟨b,o+2+64*l+a,none⟩=some (vs (64*l+a)):=by rw[ho];exact(ng.cell _).trans (ng.cl _ hk));have fl:w.frozen? ⟨b,o+2+64*l+a,none⟩=false:=ng.free _;(have hq:=ng.Eb hk (w2:=w) (l':=[]) ⟨rfl,rfl,rfl,au _,fun _ _ _=>rfl⟩ (oy w 0 3 1:gT w (.slice none 0 0) []) (fun _=>rfl) (.inl rfl) ho);(have uu:gT (w.setCell ⟨b,o+2+64*l+a,none⟩ (.slice none 0 0)) (vs (64*l+a)) (L (64*l+a)):=(ng.own _ hk).ib (F:=fun c=>c=b) (Gr.setCell w b _ _ rfl) (fun c hc e=>ng.mM _ hk (by rw[hc,e])));(have iA:gT (w.setCell ⟨b,o+2+64*l+a,none⟩ (.slice none 0 0)) ov off:=h.own.ib (F:=fun c=>c=b) (Gr.setCell w b _ _ rfl) (fun c hc e=>h.out c hc (.inl e)))
 have nV:IH (vs (64*l+a)) (Fp b mb (jA vs (64*l+a) (.slice none 0 0))):=by
  intro c hc hf
  rcases hf with rfl|hf|⟨j,hj,hf⟩
  .exact ng.mM _ hk hc
  .rcases ng.map with⟨h1,_⟩|⟨bm,n,h1,_,hm⟩
   .rw[h1] at hf;cases hf
   .rw[h1] at hf;cases hf;exact(ng.own _ hk).qb hm hc
  .by_cases e:j=64*l+a
   .rw[e] at hf;simp[jA,bA] at hf
   .simp only[jA,aT e] at hf
    exact e (ng.apart j _ c hj hk hf hc)
 (have Ir:IH ov (Fp b mb (jA vs (64*l+a) (.slice none 0 0))):=fun c hc hf=>(hq.2.2.2 c hf).elim (h.out c hc) (fun h2=>by have:=h.own.PT hc;omega));(have hlv:∀c,(vs (64*l+a)).ownBlock=some c->ov.ownBlock≠some c:=fun c hc hd=>h.out c hd (.inr (.inr ⟨_,hk,hc⟩)));(have Ur:∀c,(vs (64*l+a)).ownBlock=some c->c<w.heap.size:=fun c hc=>(ng.own _ hk).PT hc);have Us:Gr (fun c=>Fp b mb vs c\/ov.ownBlock=some c) w (w.setCell ⟨b,o+2+64*l+a,none⟩ (.slice none 0 0)):=hq.2.2.1.mono (fun x hx=>.inl hx);have HQ:Hid (WM (w.setCell ⟨b,o+2+64*l+a,none⟩ (.slice none 0 0)) b t (cs.setIfInBounds (o+2+64*l+a) (.slice none 0 0)) o (now:Int) mb D (jA vs (64*l+a) (.slice none 0 0)) (dw L (64*l+a) [])):=hq.1;have tu:=hq.2.1;have EX:=hq.2.2.2
 obtain⟨al,cap,hvl⟩:=(show ∃a' c',vs (64*l+a)=.slice a' (L (64*l+a)).length c' by
  rcases(ng.own _ hk).2 with⟨e,n0⟩|⟨g,cap,cur,e,_⟩
  .exact⟨none,0,by rw[e,n0]⟩
  .exact⟨_,_,e⟩)
 (have qiV:L (64*l+a)≠[]->∃bm,mb=some bm:=fun hne=>by rcases mb with _|bm;exact absurd (wJ rfl _) hne;exact⟨bm,rfl⟩);have hsp:iq (now:Int) z (L,off) (64*l+a)=(L (64*l+a)).foldl (io (now:Int) z) (dw L (64*l+a) [],off):=rfl;rw[hsp];(have MN:∀i∈L (64*l+a),(Lit.int .i64 i).wf=true:=fun i hi=>tL _ i hi)
 have hML:∀m,((dw L (64*l+a) []) m).length+(L (64*l+a)).length<=1000000000:=by
  intro m
  by_cases e:m=64*l+a
  .simp only[dw,aZ e];have:=hM m;simp;omega
  .simp only[dw,aT e];exact hM m
 generalize dw L (64 * l+a) []=L0 at *
 generalize jA vs (64 * l+a) (.slice none 0 0)=Xs at *
 generalize cs.setIfInBounds (o+2+64 * l+a) (.slice none 0 0)=cs0 at *
 rw[hvl] at cl uu nV hlv Ur
 generalize L (64 * l+a)=ls at *
 obtain⟨N,hN⟩:∃N,N=ls.length:=⟨_,rfl⟩
 rw[←hN] at cl uu nV hlv Ur hML
 have HN:Hid (N=ls.length):=hN;have HSO:Hid (lV o cs cs0):=tu;(have hNb:N<=1000000000:=by rw[hN];omega);(have HO':Hid (off.length+N<=1000000000):=by rw[hN];exact hO)
 have Ut:Hid (gT (w.setCell ⟨b,o+2+64*l+a,none⟩ (.slice none 0 0)) (.slice al N cap) ls):=by
  (have e:jK al N cap=.slice al ls.length cap:=by rw[hN])
  rw[e];rw[hN] at uu;exact uu
 clear hq hsp hN tu h ng hvl uu ho hM hO wJ
 go_enter func150,ntmps150
 go_wp2
 go_loopw [3,29] (fun tv i W=>∃j:Nat,j<=N/\i=.int .i64 (j:Int)/\∃cs' kT,Gz w W b t cs o (now:Int) mb D vs ov (.slice al N cap) ls ((ls.take j).foldl (io (now:Int) z) (L0,off)) tv cs' kT) (fun _ i _=>N-(intOf i).toNat)
 case atStart=>exact⟨0,bZ _,rfl,cs0,Xs,⟨HQ.out,iA,Ir⟩,Ut.out,nV,fun c hc hd=>hlv c hd hc,HSO.out,Us,EX,fun c hc=>.inl hc⟩
 case round=>
  clear iA Ut HQ nV Ir hlv cl fl Us HSO EX
  obtain⟨j,hjN,rfl,cs',kT,hR⟩:=hrel
  obtain⟨sW,NY,qkC,Xn,tu,hgr,qiW,Uq⟩:=id hR
  by_cases hlt:j<N
  ·(have iu:j<ls.length:=by have:=HN.out;omega);(have kQ:(j:Int)<(N:Int):=by omega);(have fU:wrap64 ((j:Int)+1)=(j:Int)+1:=by unfold wrap64;omega)
   obtain⟨g,cap',cur,pd,hg,_,_,_,ht⟩:=NY.shape om
   obtain⟨rfl,hNe,rfl⟩:al=some ⟨g,0,none⟩/\N=ls.length/\cap=cap':=by simpa using pd
   (have sk:=fun w=>Ii g N cap j hlt w);have TA:=(Py hg j).trans (Gf ht j iu);have hwx:=MN ls[j] (List.getElem_mem iu);obtain⟨hat,hz0,hz1⟩:=hz ls[j] hwx;have hst:=qta (io (now:Int) z) (L0,off) ls j iu;(have dB:=fun m=>q81 (now:Int) z (ls.take j) (L0,off) m);(have wP:(ls.take j).length=j:=by simp;omega)
   simp only[wP] at dB
   (have IJ:Hid (N-((j:Int)+1).toNat<N-((j:Int)).toNat):=(by omega:N-((j:Int)+1).toNat<N-((j:Int)).toNat));clear pd hNe ht
   generalize ls[j]=x at *
   have HST:Hid (List.foldl (io (now:Int) z) (L0,off) (nr (j+1) ls)=io (now:Int) z (List.foldl (io (now:Int) z) (L0,off) (nr j ls)) x):=hst;clear hst
   generalize List.foldl (io (now:Int) z) (L0,off) (nr j ls)=sj at *
   obtain⟨bm,rfl⟩:=qiV (fun e=>by rw[e] at iu;simp at iu)
   obtain⟨n,Gw,hm⟩:=sW.wm.lK;have hkey:=keyOf_int_mk (P:=ah) (q:=.i64) (a:=x) underlying3 hwx;have c0:=(sW.wm.cell o).trans sW.wm.c0;have c1:=(sW.wm.cell (o+1)).trans sW.wm.c1
   have Hw:∀W,j1 W bm n D->(Instr.lookup 56 (.map (some bm)) (.int .i64 x) false).run ah W=.ok (.int .i64 (z x)) W:=by
    intro W hW
    obtain⟨c,h1,h2,_⟩:=hW.lookup_int oh underlying56 underlying3 (Nh _) hkey
    rw[h1,PR hat h2]
   (have hOl:sj.2.length<=1000000000:=by have q1:=(dB 0).2;have q2:=HO'.out;omega);(have hLl:∀m,(sj.1 m).length<=1000000000:=by intro m;have q1:=(dB m).1;have q2:=hML m;omega);have HL:Hid (∀m,(sj.1 m).length<=1000000000):=hLl;clear dB hLl hML MN wP
   by_cases Uu:z x<=(now:Int)
   ·(have hs':io (now:Int) z sj x=(sj.1,sj.2++[x]):=by unfold io;rw[aZ Uu]);have HS:Hid (io (now:Int) z sj x=(sj.1,sj.2++[x])):=hs';clear hs'
    go_upto_region 6 with fail
    refine RD (fun W=>W.cell? ⟨b,o,none⟩=some (.int .i64 (now:Int))/\W.cell? ⟨b,o+1,none⟩=some (.map (some bm))/\j1 W bm n D) ⟨c0,c1,hm⟩ (fun _=>?_)
    refine m0x ?_;refine tk 9 (.int .i64 (now:Int)) rfl (Or.inl ⟨by kernel_rfl,by intro w hS;have hc:=hS.1;go_simp⟩) ⟨c0,c1,hm⟩ (tq 10 (.bool true) rfl ⟨c0,c1,hm⟩ ?_);refine oM ?_
    go_wp2_with ((at_builtin;refine qz6 (v:=u3) rfl (.tmp 44) (.tmp 46) rfl rfl (sW.own.alloc' _) _ x rfl (en _ #[.int .i64 x] 3 (0,0) 0) hOl ?_;intro a2 k2 w2 PS hg2 hl2))
    go_roundw
    case rel=>
     refine⟨j+1,by omega,by go_num,cs',kT,?_⟩
     rw[HST.out,HS.out]
     exact Gz.due hR ((cA _ _).alloc (au _) _) (qf7 hg2) PS hl2
    case measure=>first|exact IJ.out 
   ·(have hs':io (now:Int) z sj x=(p8 (now:Int) z sj.1 x,sj.2):=by unfold io;rw[aT Uu]);have HS:Hid (io (now:Int) z sj x=(p8 (now:Int) z sj.1 x,sj.2)):=hs';clear hs'
    obtain⟨d,hd⟩:∃d:Nat,z x=(d:Int):=⟨(z x).toNat,by omega⟩
    have CP:=ql3 sW.wm.drew x d hwx (by rw[←hd];exact hat) hn om (HL.out _);(have hpf:Hid (p8 (now:Int) z sj.1 x=dw sj.1 (pk now d) (sj.1 (pk now d)++[x])):=by show p8 (now:Int) z sj.1 x=_;unfold p8;rw[hd];rfl);clear hd
    go_upto_region 6 with fail
    refine RD (fun W=>W.cell? ⟨b,o,none⟩=some (.int .i64 (now:Int))/\W.cell? ⟨b,o+1,none⟩=some (.map (some bm))/\j1 W bm n D) ⟨c0,c1,hm⟩ (fun _=>?_)
    refine m0x ?_;refine tk 9 (.int .i64 (now:Int)) rfl (Or.inl ⟨by kernel_rfl,by intro w hS;have hc:=hS.1;go_simp⟩) ⟨c0,c1,hm⟩ (tq 10 (.bool false) rfl ⟨c0,c1,hm⟩ ?_);refine oM ?_
    go_wp2_with ((go_at_call 178;refine CP.mono ?_;rintro e w2 ⟨rfl,tH,uP,hw2,wC,yZ,y4⟩))
    go_roundw
    case rel=>
     refine⟨j+1,by omega,by go_num,tH,uP,?_⟩
     rw[HST.out,HS.out,hpf.out]
     exact Gz.put hR hw2 wC yZ.NW y4
    case measure=>first|exact IJ.out 
  ·(have kQ:¬(j:Int)<(N:Int):=by omega)
   go_wp2
   go_ret
   have e:nr j ls=ls:=List.take_of_length_le (by have:=HN.out;omega)
   rw[e] at sW
   exact⟨cs',kT,_,rfl,sW,tu,hgr,qiW,Uq⟩
end
end Go.Proofs.YtnkpgdejagglaaaGreatDoor
