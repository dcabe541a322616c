/-
  Of what a law stands on.
-/
import Derived.Lib.ItoaNum
import Derived.WalkKit
import Derived.ProofKit
import Derived.Below
import Derived.Maps.OwnSet
import Derived.Maps.OwnOps
import Derived.Maps.AppendAt
import Derived.Deep.RegionHeld3
import Derived.Deep.RegionLaw
import Derived.Lib.SlicesDelete
import Derived.Lib.SliceRun
import Derived.Deep.DeepCutAuto
import Derived.Deep.DeepFit
import Derived.Test.YtonnjgmognbnbaaGreatDoorZtWhL
import Derived.Test.YtonnjgmognbnbaaGreatDoorZtm
set_option linter.unusedSimpArgs false
set_option linter.unusedVariables false
namespace Go.Proofs.YtonnjgmognbnbaaGreatDoor
open Go.Value renaming int → I,pointer → V
open Go.IntKind renaming i64 → Z
open _root_.Go.Proofs.Tryz
set_option maxHeartbeats 16000000
set_option maxRecDepth 100000
variable {p:Prop}{l:List Int}{a w w' w2:World}{b bm c k n o:Nat}{d i now:Int}{du:Int->Option Int}{L:Nat->List Int}{t:TypeId}{F G:Nat->Prop}{v:Value}{D:DataW Unit}{cs:Array Value}{vs:Nat->Value}{r:Option Nat}{Q:Exit->Act->World->Prop}{ops:Array Oper}
def lv(a b:Nat):Nat:=(Lib.bitLen (a ^^^ b)-1)/6
def dg(t l:Nat):Nat:=t/64^l%64
def pk(now d:Nat):Nat:=64*lv d now+dg d (lv d now)
theorem qgt(t l:Nat):dg t l<64:=Nat.mod_lt _ (by decide)
theorem q7h(l:Nat):64^l=2^(6*l):=by rw[show(64:Nat)=2^6 from rfl,←Nat.pow_mul]
theorem q2c(a b:Nat):a ^^^ b=0↔a=b:=by
 refine⟨fun h=>?_,fun h=>by rw[h,Nat.xor_self]⟩
 (have e:(a ^^^ b) ^^^ b=b:=by rw[h,Nat.zero_xor])
 rwa [Nat.xor_assoc,Nat.xor_self,Nat.xor_zero] at e
theorem qx9(a b n:Nat):(a ^^^ b)/2^n=0↔a/2^n=b/2^n:=by
 rw[←Nat.shiftRight_eq_div_pow,←Nat.shiftRight_eq_div_pow,←Nat.shiftRight_eq_div_pow,Nat.shiftRight_xor_distrib]
 exact q2c _ _
theorem q8f:Lib.bitLen 0=0:=by decide
theorem qto(x:Nat)(h:x<2^64)(h0:x≠0):1<=Lib.bitLen x/\2^(Lib.bitLen x-1)<=x/\x<2^Lib.bitLen x:=Lib.bitLenAux_bounds 64 x h h0
theorem qh3(a b:Nat)(ha:a<2^64)(hb:b<2^64):a/64^(lv a b+1)=b/64^(lv a b+1):=by
 rw[q7h,←qx9]
 by_cases h0:a ^^^ b=0
 ·rw[h0];simp
 ·have hx:a ^^^ b<2^64:=Nat.xor_lt_two_pow ha hb;obtain⟨h1,h2,h3⟩:=qto _ hx h0
  apply Nat.div_eq_of_lt
  refine Nat.lt_of_lt_of_le h3 (Nat.pow_le_pow_right (by decide) ?_)
  unfold lv;omega
theorem qrt(a b:Nat)(ha:a<2^64)(hb:b<2^64)(h:lv a b≠0):a/64^lv a b≠b/64^lv a b:=by
 rw[q7h];intro he
 rw[←qx9] at he
 have h0:a ^^^ b≠0:=by
  intro e;unfold lv at h;rw[e,q8f] at h;exact h rfl
 have hx:a ^^^ b<2^64:=Nat.xor_lt_two_pow ha hb;obtain⟨h1,h2,h3⟩:=qto _ hx h0;have h4:2^(6*lv a b)<=a ^^^ b:=Nat.le_trans (Nat.pow_le_pow_right (by decide) (by unfold lv;omega)) h2
 have:=Nat.div_pos h4 (Nat.pow_pos (by decide))
 omega
theorem qmt(a b l m:Nat)(h:a/64^l=b/64^l)(hm:l<=m):a/64^m=b/64^m:=by
 obtain⟨k,rfl⟩:=Nat.exists_eq_add_of_le hm
 rw[Nat.pow_add,←Nat.div_div_eq_div_mul,←Nat.div_div_eq_div_mul,h]
theorem q7b(a b l:Nat)(ha:a<2^64)(hb:b<2^64)(h1:a/64^(l+1)=b/64^(l+1))(h2:l=0\/a/64^l≠b/64^l):lv a b=l:=by
 have k1:=qh3 a b ha hb;have k2:=qrt a b ha hb
 rcases Nat.lt_trichotomy (lv a b) l with h|h|h
 ·rcases h2 with h2|h2
  ·omega
  ·exact absurd (qmt a b _ _ k1 om) h2
 ·exact h
 ·exact absurd (qmt a b _ _ h1 om) (k2 om)
theorem qpa(a b:Nat)(ha:a<=1099511627776)(hb:b<=1099511627776):lv a b<=6:=by
 have hx:a ^^^ b<2^41:=Nat.xor_lt_two_pow om om
 have:=Lib.bitLen_le (a ^^^ b) 41 (by decide) hx
 unfold lv;omega
theorem qug(a b:Nat)(ha:a<=1099511627776)(hb:b<=1099511627776):pk a b<448:=by
 have:=qpa b a hb ha
 have:=qgt b (lv b a)
 unfold pk;omega
theorem qj3(t l:Nat):t/64^l=64*(t/64^(l+1))+dg t l:=by
 unfold dg
 rw[Nat.pow_succ,←Nat.div_div_eq_div_mul]
 omega
theorem qre(a b l:Nat)(h:a/64^l<b/64^l):a<b:=by
 apply Nat.lt_of_not_le
 intro hc
 have:=Nat.div_le_div_right (c:=64^l) hc
 omega
theorem qnt(a d:Nat)(ha:a<2^64)(hd:d<2^64)(h:a<=d):dg a (lv d a)<=dg d (lv d a)/\(dg a (lv d a)=dg d (lv d a)->lv d a=0/\a=d):=by
 have k1:=qh3 d a hd ha;have k2:=qrt d a hd ha;have e1:=qj3 a (lv d a);have e2:=qj3 d (lv d a);have e3:=Nat.div_le_div_right (c:=64^lv d a) h
 refine⟨by omega,fun e=>?_⟩
 have hz:lv d a=0:=by
  by_cases hz:lv d a=0
  ·exact hz
  ·exact absurd om (k2 hz)
 refine⟨hz,?_⟩
 rw[hz] at e1 e2 e k1
 simp at e1 e2 k1
 omega
theorem qtt(a t d:Nat)(ha:a<2^64)(ht:t<2^64)(hd:d<2^64)(hat:a<=t)(h:lv d a<lv t a):d<t:=by
 have k1:=qh3 d a hd ha;have k2:=qrt t a ht ha om;have k3:=qmt d a _ _ k1 h;have e3:=Nat.div_le_div_right (c:=64^lv t a) hat
 exact qre d t (lv t a) om
theorem sZtw13(h:p:=by
 have k1:=qh3 d a hd ha;have k2:=qh3 t a ht ha;have e1:=qj3 d (lv t a);have e2:=qj3 t (lv t a)
 rw[h] at k1
 first
  | exact qre d t (lv t a) om
  | exact⟨qre t d (lv t a) om,q7b d t _ hd ht om (.inr om)⟩):p:=h
theorem qss(a t d:Nat)(ha:a<2^64)(ht:t<2^64)(hd:d<2^64)(h:lv d a=lv t a)(hl:dg d (lv t a)<dg t (lv t a)):d<t:=by
 exact sZtw13
theorem q1e(a t d:Nat)(ha:a<2^64)(ht:t<2^64)(hd:d<2^64)(h:lv d a=lv t a)(hl:dg d (lv t a)=dg t (lv t a))(hgt:t<d):lv d t<lv t a:=by
 have k1:=qh3 d a hd ha;have k2:=qh3 t a ht ha;have e1:=qj3 d (lv t a);have e2:=qj3 t (lv t a)
 rw[h] at k1
 (have e3:d/64^lv t a=t/64^lv t a:=by omega)
 apply Nat.lt_of_not_le
 intro hc
 by_cases hz:lv d t=0
 ·have:lv t a=0:=by omega
  rw[this] at e3
  simp at e3
  omega
 ·exact qrt d t hd ht hz (qmt d t _ _ e3 hc)
theorem q4f(a t d:Nat)(ha:a<2^64)(ht:t<2^64)(hd:d<2^64)(h:lv d a=lv t a)(hl:dg t (lv t a)<dg d (lv t a)):t<d/\lv d t=lv t a:=by
 exact sZtw13
theorem q2u(a t d:Nat)(ha:a<2^64)(ht:t<2^64)(hd:d<2^64)(had:a<=d)(h:lv t a<lv d a):t<d/\lv d t=lv d a:=by
 have k1:=qh3 d a hd ha;have k2:=qrt d a hd ha om;have k3:=qmt t a _ _ (qh3 t a ht ha) h;have k4:=qmt t a _ _ (qh3 t a ht ha) (show lv t a+1<=lv d a+1 by omega);have e3:=Nat.div_le_div_right (c:=64^lv d a) had
 exact⟨qre t d (lv d a) om,q7b d t _ hd ht om (.inr om)⟩
theorem qm4{l a m:Nat}(ha:a<64)(hb:b<64):64*l+a=64*m+b↔l=m/\a=b:=by omega
section
open Go.ChangeShapes Go.WideShapes Go.ChangeAt Go.RowKit
theorem q8w(a b:Nat)(ha:a<2^62)(hb:b<2^62):bits .xor .i64 (a:Int) (b:Int)=((a ^^^ b:Nat):Int):=by
 (have e1:(BitVec.ofInt 64 (a:Int)).toNat=a:=by rw[BitVec.toNat_ofInt];omega);(have e2:(BitVec.ofInt 64 (b:Int)).toNat=b:=by rw[BitVec.toNat_ofInt];omega);(have e3:(BitVec.ofInt 64 (a:Int) ^^^ BitVec.ofInt 64 (b:Int)).toNat=a ^^^ b:=by rw[BitVec.toNat_xor,e1,e2]);have hx:a ^^^ b<2^62:=Nat.xor_lt_two_pow ha hb
 unfold bits
 show IntKind.i64.wrap ((BitVec.ofInt 64 (a:Int) ^^^ BitVec.ofInt 64 (b:Int)).toNat:Int)=_
 rw[e3]
 simp[IntKind.wrap,IntKind.bits,IntKind.signed]
 omega
theorem q9a(x:Int)(w:World)(h0:0<=x)(h1:x<=18446744073709551615):Calls prog 175 #[.int .u64 x] w fun e w'=>e=.returned (I Z (Lib.bitLen x.toNat:Int))/\w'=w:=by
 (have C:=fun w=>q3v x w h0 h1)
 go_enter func175,ntmps175
 go_wp2_with (go_at_call 200;refine(C _).mono ?_;rintro e w' ⟨rfl,rfl⟩)
 go_ret
 exact⟨rfl,rfl⟩
theorem qsu(t l:Nat)(ht:t<=1099511627776)(hl:l<=6)(w:World):Calls prog 172 #[I Z (t:Int),I Z (l:Int)] w fun e w'=>e=.returned (I Z (dg t l:Int))/\w'=w:=by
 (have hc:l=0\/l=1\/l=2\/l=3\/l=4\/l=5\/l=6:=by omega)
 rcases hc with rfl|rfl|rfl|rfl|rfl|rfl|rfl
 all_goals
  go_enter func172,ntmps172
  go_wp2
  go_ret
  refine⟨?_,rfl⟩
  unfold dg
  first
  | rfl
  | (congr 2;simp;done)
  | (congr 2;omega)
theorem sZtw12(h:p:=by
 go_enter func171,ntmps171
 go_wp2_with (first|(go_at_call 175;refine(C _).mono ?_;rintro e w' ⟨rfl,rfl⟩)|(go_at_call 172;refine(D _).mono ?_;rintro e w' ⟨rfl,rfl⟩))
 go_ret2
 exact⟨rfl,rfl⟩):p:=h
theorem qoh(b o:Nat)(now d:Nat)(hn:now<=1099511627776)(hd:d<=1099511627776)(w:World)(c0:w.cell? ⟨b,o,none⟩=some (I Z (now:Int))):
  Calls prog 171 #[V (some ⟨b,o,none⟩),I Z (d:Int)] w fun e w'=>e=.returned (.tuple #[I Z (lv d now:Int),I Z (dg d (lv d now):Int)])/\w'=w:=by
 have hx:=q8w d now om om;have hxl:d ^^^ now<2^41:=Nat.xor_lt_two_pow om om;(have C:=fun w=>q9a ((d ^^^ now:Nat):Int) w om om)
 rw[Int.toNat_natCast] at C
 have hbl:=Lib.bitLen_le (d ^^^ now) 41 (by decide) hxl;have hlv:=qpa d now hd hn;(have D:=fun w=>qsu d (lv d now) hd hlv w);have hlv2:Hid (lv d now=(Lib.bitLen (d ^^^ now)-1)/6):=rfl
 generalize lv d now=v at *
 generalize Lib.bitLen (d ^^^ now)=q at *
 generalize d ^^^ now=x at *
 by_cases h0:0<q
 ·(have hv:((q:Int)-1)/6=(v:Int):=by have:=hlv2.out;omega);(have hw1:wrap64 ((q:Int)-1)=(q:Int)-1:=by unfold wrap64;omega);(have hlt:(0:Int)<(q:Int):=by omega);(have hq1:0<=(q:Int)-1:=by omega)
  exact sZtw12
 ·obtain rfl:q=0:=by omega
  obtain rfl:v=0:=by have:=hlv2.out;omega
  exact sZtw12
end
def dz(du:Int->Option Int)(i:Int):Int:=(du i).getD 0
def setL(L:Nat->List Int)(k:Nat)(l:List Int):Nat->List Int:=fun j=>if j=k then l else L j
def putF(now:Int)(z:Int->Int)(L:Nat->List Int)(i:Int):Nat->List Int:=setL L (pk now.toNat (z i).toNat) (L (pk now.toNat (z i).toNat)++[i])
def sprS(now:Int)(z:Int->Int)(s:(Nat->List Int)×List Int)(i:Int):(Nat->List Int)×List Int:=if z i<=now then(s.1,s.2++[i]) else(putF now z s.1 i,s.2)
def sprF(now:Int)(z:Int->Int)(s:(Nat->List Int)×List Int)(k:Nat):(Nat->List Int)×List Int:=(s.1 k).foldl (sprS now z) (setL s.1 k [],s.2)
def rowP(l d n:Nat):List Nat:=(List.range n).map fun i=>64*l+(d+i)
def levF(a:Nat)(now:Int)(z:Int->Int)(s:(Nat->List Int)×List Int)(l:Nat):(Nat->List Int)×List Int:=(rowP l (dg a l) (64-dg a l)).foldl (sprF now z) s
def qex(a t:Int)(z:Int->Int)(L:Nat->List Int):(Nat->List Int)×List Int:=
 (rowP (lv t.toNat a.toNat) (dg a.toNat (lv t.toNat a.toNat)) (dg t.toNat (lv t.toNat a.toNat)+1-dg a.toNat (lv t.toNat a.toNat))).foldl (sprF t z) ((List.range (lv t.toNat a.toNat)).foldl (levF a.toNat t z) (L,[]))
structure qhg(now:Int)(du:Int->Option Int)(L:Nat->List Int):Prop where
 time:0<=now/\now<=1099511627776
 due:∀i d,du i=some d->now<=d/\d<=1099511627776
 nodup:∀k,(L k).Nodup
 mem:∀k i,i∈L k↔∃d,du i=some d/\pk now.toNat d.toNat=k
theorem qhg.z(h:qhg now du L)(i:Int):0<=dz du i/\dz du i<=1099511627776:=by
 unfold dz
 rcases hd:du i with _|d
 ·simp
 ·have:=h.due i d hd;have:=h.time;simp;omega
theorem qr5(h:du i=some d):dz du i=d:=by unfold dz;rw[h];rfl
theorem q88(now:Int)(z:Int->Int)(l:List Int)(s:(Nat->List Int)×List Int)(h:∀i∈l,z i<=now):l.foldl (sprS now z) s=(s.1,s.2++l):=by
 induction l generalizing s with
 | nil=>simp
 | cons i r ih=>
  rw[List.foldl_cons]
  have:sprS now z s i=(s.1,s.2++[i]):=by unfold sprS;rw[if_pos (h i zm)]
  rw[this,ih _ (fun j hj=>h j (by simp[hj]))]
  simp
theorem qsq(now:Int)(z:Int->Int)(l:List Int)(s:(Nat->List Int)×List Int):l.foldl (sprS now z) s=(fun j=>s.1 j++l.filter (fun i=>decide (¬z i<=now)&&decide (pk now.toNat (z i).toNat=j)),s.2++l.filter (fun i=>decide (z i<=now))):=by
 induction l generalizing s with
 | nil=>simp
 | cons i r ih=>
  rw[List.foldl_cons,ih]
  by_cases h:z i<=now
  ·have:sprS now z s i=(s.1,s.2++[i]):=by unfold sprS;rw[if_pos h]
   rw[this];(have h':¬now<z i:=by omega)
   simp[List.filter_cons,h,h']
  ·have:sprS now z s i=(putF now z s.1 i,s.2):=by unfold sprS;rw[if_neg h]
   rw[this]
   refine Prod.ext ?_ (by simp[List.filter_cons,h])
   funext j
   simp only[putF,setL]
   by_cases e:j=pk now.toNat (z i).toNat
   ·subst e;simp[List.filter_cons,h]
   ·(have e':¬pk now.toNat (z i).toNat=j:=fun x=>e x.symm)
    simp[List.filter_cons,h,e,e']
theorem q5q(now:Int)(z:Int->Int)(ks:List Nat)(L:Nat->List Int)(off:List Int)(hn:ks.Nodup)(h:∀k∈ks,∀i∈L k,z i<=now):ks.foldl (sprF now z) (L,off)=(fun j=>if j∈ks then [] else L j,off++ks.flatMap L):=by
 induction ks generalizing L off with
 | nil=>simp
 | cons k r ih=>
  rw[List.foldl_cons];have hk:=q88 now z (L k) (setL L k [],off) (h k zm);have e1:sprF now z (L,off) k=(setL L k [],off++L k):=hk;have hn':=List.nodup_cons.1 hn;rw[e1,ih _ _ hn'.2 (fun q hq i hi=>?_)]
  ·refine Prod.ext ?_ ?_
   ·funext j
    by_cases hj:j∈r
    ·simp[hj]
    ·by_cases e:j=k
     ·subst e;simp[hj,setL]
     ·simp[hj,e,setL]
   ·have:r.flatMap (setL L k [])=r.flatMap L:=by
     have hc:∀q∈r,setL L k [] q=L q:=by
      intro q hq
      have:q≠k:=fun e=>hn'.1 (e▸hq)
      simp[setL,this]
     rw[List.flatMap_def,List.flatMap_def,List.map_congr_left hc]
    simp[this]
  ·have:q≠k:=fun e=>hn'.1 (e▸hq)
   simp only[setL,if_neg this] at hi
   exact h q (by simp[hq]) i hi
theorem qfy{l d:Nat}:k∈rowP l d n↔∃a,k=64*l+a/\d<=a/\a<d+n:=by
 unfold rowP
 simp only[List.mem_map,List.mem_range]
 constructor
 ·rintro⟨i,hi,rfl⟩;exact⟨d+i,rfl,by omega,by omega⟩
 ·rintro⟨a,rfl,h1,h2⟩;exact⟨a-d,by omega,by omega⟩
theorem qrm(l d n:Nat):(rowP l d n).Nodup:=by
 unfold rowP
 rw[List.nodup_iff_pairwise_ne,List.pairwise_map]
 exact(List.nodup_range (n:=n)).imp (fun h e=>h om)
def qgu(a t:Nat):List Nat:=(List.range (lv t a)).flatMap (fun l=>rowP l (dg a l) (64-dg a l))++rowP (lv t a) (dg a (lv t a)) (dg t (lv t a)-dg a (lv t a))
theorem qtu(a:Nat)(now:Int)(z:Int->Int)(ls:List Nat)(s:(Nat->List Int)×List Int):ls.foldl (levF a now z) s=(ls.flatMap (fun l=>rowP l (dg a l) (64-dg a l))).foldl (sprF now z) s:=by
 induction ls generalizing s with
 | nil=>rfl
 | cons l r ih=>rw[List.foldl_cons,List.flatMap_cons,List.foldl_append,ih];rfl
theorem q29(l d n:Nat)(h:d<=n):rowP l d (n+1-d)=rowP l d (n-d)++[64*l+n]:=by
 unfold rowP
 (rw[show n+1-d=(n-d)+1 by omega,List.range_succ,List.map_append])
 simp;omega
theorem q51(a t:Int)(z:Int->Int)(L:Nat->List Int)(h:dg a.toNat (lv t.toNat a.toNat)<=dg t.toNat (lv t.toNat a.toNat)):qex a t z L=sprF t z ((qgu a.toNat t.toNat).foldl (sprF t z) (L,[])) (64*lv t.toNat a.toNat+dg t.toNat (lv t.toNat a.toNat)):=by
 unfold qex qgu
 rw[q29 _ _ _ h,qtu,List.foldl_append,List.foldl_append]
 rfl
theorem qjm(a t k:Nat)(ht:dg t (lv t a)<64):k∈qgu a t↔∃l d,k=64*l+d/\d<64/\dg a l<=d/\(l<lv t a\/l=lv t a/\d<dg t (lv t a)):=by
 unfold qgu
 rw[List.mem_append,List.mem_flatMap]
 constructor
 ·rintro(⟨l,hl,hk⟩|hk)
  ·obtain⟨d,rfl,h1,h2⟩:=qfy.1 hk
   exact⟨l,d,rfl,by omega,h1,.inl (by simpa using hl)⟩
  ·obtain⟨d,rfl,h1,h2⟩:=qfy.1 hk
   exact⟨lv t a,d,rfl,by omega,h1,.inr ⟨rfl,by omega⟩⟩
 ·rintro⟨l,d,rfl,h1,h2,h3|⟨rfl,h3⟩⟩
  ·exact .inl ⟨l,by simpa using h3,qfy.2 ⟨d,rfl,h2,by omega⟩⟩
  ·exact .inr (qfy.2 ⟨d,rfl,h2,by omega⟩)
theorem qrf(a t:Nat)(ht:dg t (lv t a)<64):(qgu a t).Nodup:=by
 unfold qgu
 rw[List.nodup_append]
 refine⟨?_,qrm _ _ _,?_⟩
 ·rw[List.nodup_iff_pairwise_ne,List.pairwise_flatMap]
  refine⟨fun l _=>qrm _ _ _,?_⟩
  refine(List.nodup_range (n:=lv t a)).imp (fun {l m} h x hx y hy e=>?_)
  obtain⟨d,rfl,h1,h2⟩:=qfy.1 hx
  obtain⟨e',rfl,h3,h4⟩:=qfy.1 hy
  have:=qgt a l
  have:=qgt a m
  exact h om
 ·intro x hx y hy e;obtain⟨l,hl,hk⟩:=List.mem_flatMap.1 hx
  obtain⟨d,rfl,h1,h2⟩:=qfy.1 hk
  obtain⟨e',rfl,h3,h4⟩:=qfy.1 hy
  have:=qgt a l
  have:l<lv t a:=by simpa using hl
  omega
def qiv(t:Int)(du:Int->Option Int):Int->Option Int:=fun i=>match du i with|some d=>if d<=t then none else some d|none=>none
theorem qku{t:Int}:qiv t du i=some d↔du i=some d/\t<d:=by
 unfold qiv
 rcases h:du i with _|e
 ·simp
 ·by_cases h2:e<=t
  ·simp[h2];intro h3;omega
  ·simp[h2];intro h3;omega
theorem sZtw14(h:p:=by
 unfold pk at e1
 rw[qm4 hd e2] at e1
 omega):p:=h
theorem q4u{a t:Int}(h:qhg a du L)(hat:a<=t)(ht:t<=1099511627776):
  qhg t (qiv t du) (qex a t (dz du) L).1/\(qex a t (dz du) L).2.Nodup/\∀i,i∈(qex a t (dz du) L).2↔∃d,du i=some d/\d<=t:=by
 have ha0:=h.time
 obtain⟨A,hA⟩:∃A:Nat,a=A:=⟨a.toNat,by omega⟩
 obtain⟨T,hT⟩:∃T:Nat,t=T:=⟨t.toNat,by omega⟩
 subst hA;subst hT
 (have hA1:A<2^64:=by omega);(have hT1:T<2^64:=by omega);(have hAT:A<=T:=by omega);have hlast:dg A (lv T A)<=dg T (lv T A):=(qnt A T hA1 hT1 hAT).1;have hltT:=qgt T (lv T A);rw[q51 _ _ _ _ (by simpa using hlast)]
 simp only[Int.toNat_natCast]
 -- where a timer is
 have hpos:∀k i,i∈L k->∃D:Nat,du i=some (D:Int)/\A<=D/\D<2^64/\pk A D=k/\dz du i=(D:Int):=by
  intro k i hi;obtain⟨d,h1,h2⟩:=(h.mem k i).1 hi;have h3:=h.due i d h1
  refine⟨d.toNat,?_,by omega,by omega,by simpa using h2,?_⟩
  ·rw[h1];congr 1;omega
  ·rw[qr5 h1];omega
 have hall:∀k∈qgu A T,∀i∈L k,dz du i<=(T:Int):=by
  intro k hk i hi;obtain⟨D,h1,h2,h3,h4,h5⟩:=hpos k i hi;obtain⟨l,d,e1,e2,e3,e4⟩:=(qjm A T k hltT).1 hk;have hd:=qgt D (lv D A)
  unfold pk at h4
  rw[e1,qm4 hd e2] at h4
  obtain⟨f1,f2⟩:=h4;rw[h5]
  rcases e4 with e4|⟨e4,e5⟩
  ·have:=qtt A T D hA1 hT1 h3 hAT om;omega
  ·have:=qss A T D hA1 hT1 h3 om (by rw[←e4,←f1];rw[f2,f1,e4];exact e5);omega
 rw[q5q _ _ _ _ _ (qrf A T hltT) hall]
 generalize hK:64*lv T A+dg T (lv T A)=K
 have hKn:K ∉ qgu A T:=by
  intro hc;obtain⟨l,d,e1,e2,e3,e4⟩:=(qjm A T K hltT).1 hc
  rw[←hK,qm4 hltT e2] at e1
  omega
 unfold sprF
 rw[qsq]
 simp only[Int.toNat_natCast,if_neg hKn,List.nil_append]
 (have hz:=fun i=>h.z i)
 -- a timer's list,by its time
 (have hin:∀i (D:Nat),du i=some (D:Int)->i∈L (pk A D):=fun i D hd=>(h.mem _ i).2 ⟨D,hd,by simp⟩)
 have hD:∀i d,du i=some d->∃D:Nat,d=D/\A<=D/\D<2^64:=by
  intro i d hd
  have:=h.due i d hd
  exact⟨d.toNat,by omega,by omega,by omega⟩
 -- which lists a timer may lie in
 have hcase:∀D:Nat,A<=D->D<2^64->(pk A D∈qgu A T/\D<T)\/(pk A D=K/\(T<D->lv D T<lv T A))\/(pk A D ∉ qgu A T/\pk A D≠K/\T<D/\pk T D=pk A D):=by
  intro D hD1 hD2;have hl:=(qnt A D hA1 hD2 hD1).1;have hd:=qgt D (lv D A)
  rcases Nat.lt_trichotomy (lv D A) (lv T A) with hc|hc|hc
  ·exact .inl ⟨(qjm A T _ hltT).2 ⟨lv D A,dg D (lv D A),rfl,hd,hl,.inl hc⟩,qtt A T D hA1 hT1 hD2 hAT hc⟩
  ·rcases Nat.lt_trichotomy (dg D (lv D A)) (dg T (lv T A)) with hq|hq|hq
   ·exact .inl ⟨(qjm A T _ hltT).2 ⟨lv D A,dg D (lv D A),rfl,hd,hl,.inr ⟨hc,hq⟩⟩,qss A T D hA1 hT1 hD2 hc (by rw[←hc];rw[←hc] at hq;exact hq)⟩
   ·refine .inr (.inl ⟨by unfold pk;rw[hq,hc];exact hK,fun hg=>q1e A T D hA1 hT1 hD2 hc (by rw[←hc];rw[←hc] at hq;exact hq) hg⟩)
   ·have hg:=q4f A T D hA1 hT1 hD2 hc (by rw[hc] at hq;exact hq)
    refine .inr (.inr ⟨fun hm=>?_,fun e=>?_,hg.1,?_⟩)
    ·obtain⟨l,d,e1,e2,e3,e4⟩:=(qjm A T _ hltT).1 hm
     exact sZtw14
    ·unfold pk at e
     rw[←hK,qm4 hd hltT] at e
     omega
    ·unfold pk;rw[hg.2,hc]
  ·have hg:=q2u A T D hA1 hT1 hD2 hD1 hc
   refine .inr (.inr ⟨fun hm=>?_,fun e=>?_,hg.1,?_⟩)
   ·obtain⟨l,d,e1,e2,e3,e4⟩:=(qjm A T _ hltT).1 hm
    exact sZtw14
   ·unfold pk at e
    rw[←hK,qm4 hd hltT] at e
    omega
   ·unfold pk;rw[hg.2]
 refine⟨⟨by omega,?_,?_,?_⟩,?_,?_⟩
 ·intro i d hd;obtain⟨h1,h2⟩:=qku.1 hd
  have:=h.due i d h1
  omega
 ·intro k
  by_cases e:k=K
  ·subst e
   simp only[setL,if_true,List.nil_append]
   exact(h.nodup _).filter _
  ·simp only[setL,if_neg e]
   by_cases hm:k∈qgu A T
   ·simp only[if_pos hm,List.nil_append]
    exact(h.nodup _).filter _
   ·simp only[if_neg hm]
    rw[List.nodup_append]
    refine⟨h.nodup _,(h.nodup _).filter _,fun x hx y hy e2=>?_⟩
    subst e2
    obtain⟨D,h1,h2,h3,h4,h5⟩:=hpos k x hx;obtain⟨D',h1',h2',h3',h4',h5'⟩:=hpos K x (List.mem_filter.1 hy).1
    rw[h1] at h1'
    have:D=D':=by have:=Option.some.inj h1';omega
    subst this
    exact e (h4.symm.trans h4')
 ·intro k i
  have key:∀D:Nat,du i=some (D:Int)->A<=D->D<2^64->(i∈(setL (fun j=>if j∈qgu A T then [] else L j) K []) k++(L K).filter (fun i=>decide (¬dz du i<=(T:Int))&&decide (pk T (dz du i).toNat=k))↔T<D/\pk T D=k):=by
   intro D hd hD1 hD2;have hzD:dz du i=(D:Int):=qr5 hd;have hi:=hin i D hd
   have huniq:∀q,i∈L q->q=pk A D:=by
    intro q hq
    obtain⟨D',h1',_,_,h4',_⟩:=hpos q i hq
    rw[hd] at h1'
    have:D=D':=by have:=Option.some.inj h1';omega
    subst this;exact h4'.symm
   rw[List.mem_append,List.mem_filter]
   simp only[hzD,Int.toNat_natCast,Bool.and_eq_true,decide_eq_true_eq]
   constructor
   ·rintro(hm|⟨hm,h1,h2⟩)
    ·by_cases e:k=K
     ·subst e;simp[setL] at hm
     ·simp only[setL,if_neg e] at hm
      by_cases hmm:k∈qgu A T
      ·simp[hmm] at hm
      ·simp only[if_neg hmm] at hm
       have hq:=huniq k hm
       subst hq
       rcases hcase D hD1 hD2 with⟨c1,c2⟩|⟨c1,c2⟩|⟨c1,c2,c3,c4⟩
       ·exact absurd c1 hmm
       ·exact absurd c1 e
       ·exact⟨c3,c4⟩
    ·exact⟨by omega,h2⟩
   ·rintro⟨h1,h2⟩
    rcases hcase D hD1 hD2 with⟨c1,c2⟩|⟨c1,c2⟩|⟨c1,c2,c3,c4⟩
    ·omega
    ·exact .inr ⟨c1▸hi,by omega,h2⟩
    ·left
     rw[c4] at h2
     subst h2
     simp only[setL,if_neg c2,if_neg c1]
     exact hi
  constructor
  ·intro hm
   have:∃d,du i=some d:=by
    rcases List.mem_append.1 hm with hm|hm
    ·by_cases e:k=K
     ·subst e;simp[setL] at hm
     ·simp only[setL,if_neg e] at hm
      by_cases hmm:k∈qgu A T
      ·simp[hmm] at hm
      ·simp only[if_neg hmm] at hm
       obtain⟨d,h1,_⟩:=(h.mem k i).1 hm
       exact⟨d,h1⟩
    ·obtain⟨d,h1,_⟩:=(h.mem K i).1 (List.mem_filter.1 hm).1
     exact⟨d,h1⟩
   obtain⟨d,hd⟩:=this
   obtain⟨D,rfl,hD1,hD2⟩:=hD i d hd
   have:=(key D hd hD1 hD2).1 hm
   exact⟨D,qku.2 ⟨hd,by omega⟩,by simpa using this.2⟩
  ·rintro⟨d,hd,h2⟩
   obtain⟨h1,h3⟩:=qku.1 hd
   obtain⟨D,rfl,hD1,hD2⟩:=hD i d h1
   exact(key D h1 hD1 hD2).2 ⟨by omega,by simpa using h2⟩
 ·rw[List.nodup_append]
  refine⟨?_,(h.nodup _).filter _,?_⟩
  ·rw[List.nodup_iff_pairwise_ne,List.pairwise_flatMap]
   refine⟨fun k _=>h.nodup k,?_⟩
   refine(qrf A T hltT).imp (fun {k m} hne x hx y hy e=>?_)
   subst e
   obtain⟨D,h1,_,_,h4,_⟩:=hpos k x hx
   obtain⟨D',h1',_,_,h4',_⟩:=hpos m x hy
   rw[h1] at h1'
   have:D=D':=by have:=Option.some.inj h1';omega
   subst this
   exact hne (h4.symm.trans h4')
  ·intro x hx y hy e
   subst e
   obtain⟨k,hk,hx'⟩:=List.mem_flatMap.1 hx
   obtain⟨D,h1,_,_,h4,_⟩:=hpos k x hx'
   obtain⟨D',h1',_,_,h4',_⟩:=hpos K x (List.mem_filter.1 hy).1
   rw[h1] at h1'
   have:D=D':=by have:=Option.some.inj h1';omega
   subst this
   exact hKn (by rw[←h4',h4];exact hk)
 ·intro i;rw[List.mem_append,List.mem_flatMap,List.mem_filter]
  constructor
  ·rintro(⟨k,hk,hi⟩|⟨hi,h2⟩)
   ·obtain⟨D,h1,_,_,_,h5⟩:=hpos k i hi
    exact⟨D,h1,by rw[←h5];exact hall k hk i hi⟩
   ·obtain⟨D,h1,_,_,_,h5⟩:=hpos K i hi
    exact⟨D,h1,by rw[←h5];simpa using h2⟩
  ·rintro⟨d,hd,hle⟩
   obtain⟨D,rfl,hD1,hD2⟩:=hD i d hd
   rcases hcase D hD1 hD2 with⟨c1,c2⟩|⟨c1,c2⟩|⟨c1,c2,c3,c4⟩
   ·exact .inl ⟨_,c1,hin i D hd⟩
   ·exact .inr ⟨c1▸hin i D hd,by rw[qr5 hd];simpa using hle⟩
   ·omega
section
open Go.ChangeShapes Go.WideShapes Go.ChangeAt Go.RowKit Go.Maps
structure Gr(F:Nat->Prop)(w w':World):Prop where
 os:w'.os=w.os
 tape:w'.tape=w.tape
 output:w'.output=w.output
 size:w.heap.size<=w'.heap.size
 block:∀c,c<w.heap.size->¬F c->w'.heap[c]?=w.heap[c]?
theorem Gr.refl(F:Nat->Prop)(w:World):Gr F w w:=⟨rfl,rfl,rfl,Nat.le_refl _,fun _ _ _=>rfl⟩
theorem Gr.trans{b c:World}(h:Gr F a b)(k:Gr G b c)(hG:∀x,G x->F x\/a.heap.size<=x):Gr F a c:=
 ⟨k.os.trans h.os,k.tape.trans h.tape,k.output.trans h.output,Nat.le_trans h.size k.size,fun x hx hn=>(k.block x (Nat.lt_of_lt_of_le hx h.size) (fun hg=>by rcases hG x hg with h1|h1;exact hn h1;omega)).trans (h.block x hx hn)⟩
theorem Gr.mono{b:World}(h:Gr F a b)(hG:∀x,F x->G x):Gr G a b:=⟨h.os,h.tape,h.output,h.size,fun x hx hn=>h.block x hx (fun hf=>hn (hG x hf))⟩
theorem Gr.below{B:Nat}(h:Gr F w w')(hF:∀c,F c->B<=c)(hB:B<=w.heap.size):Below B w w':=
 ⟨h.os,h.tape,h.output,h.size,fun k hk=>h.block k om (fun hf=>by have:=hF k hf;omega)⟩
theorem Gr.of_below(h:Below w.heap.size w w'):Gr F w w':=⟨h.os,h.tape,h.output,h.size,fun k hk _=>h.block k hk⟩
theorem Gr.of_grown{row:Option Nat}(h:w.grownBy w' row)(hF:∀c,row=some c->F c):Gr F w w':=
 ⟨h.os,h.tape,h.output,h.size,fun k hk hn=>h.block k hk (fun e=>hn (hF k e.symm))⟩
theorem Gr.setCell(w:World)(b o:Nat)(v:Value)(hb:F b):Gr F w (w.setCell ⟨b,o,none⟩ v):=
 ⟨rfl,rfl,rfl,by simp[World.setCell],fun k hk hn=>Below.heap_setCell _ _ _ _ (fun e=>hn (e▸hb))⟩
theorem Gr.drew(h:Gr F a w):Gr F a w.drew:=⟨h.os,h.tape,h.output,h.size,h.block⟩
def updV(ls:Nat->Value)(n:Nat)(v:Value):Nat->Value:=fun i=>if i=n then v else ls i
abbrev Own(w:World)(v:Value)(l:List Int):Prop:=w.ownsRow 0 3 1 v l.length (l.map (Value.int .i64))
abbrev MapI(w:World)(b n:Nat)(D:DataW Unit):Prop:=w.ownsMap prog 3 (plainElem prog 3) b n D
structure WM(w:World)(b:Nat)(t:TypeId)(cs:Array Value)(o:Nat)(now:Int)(mb:Option Nat)(D:DataW Unit)(vs:Nat->Value)(L:Nat->List Int):Prop where
 row:w.heap[b]?=some (.cells cs t (0,0))
 size:o+450<=cs.size
 c0:cs[o]?=some (.int .i64 now)
 c1:cs[o+1]?=some (.map mb)
 cl:∀k,k<448->cs[o+2+k]?=some (vs k)
 own:∀k,k<448->Own w (vs k) (L k)
 nil:∀k,k<448->L k=[]->vs k=.slice none 0 0
 apart:∀j k c,j<448->k<448->(vs j).ownBlock=some c->(vs k).ownBlock=some c->j=k
 notb:∀k,k<448->(vs k).ownBlock≠some b
 map:(mb=none/\D=.map [])\/∃bm n,mb=some bm/\n<=1000000/\MapI w bm n D
def Fp(b:Nat)(mb:Option Nat)(vs:Nat->Value)(c:Nat):Prop:=c=b\/mb=some c\/∃k,k<448/\(vs k).ownBlock=some c
def qb7(o:Nat)(cs cs':Array Value):Prop:=cs'.size=cs.size/\∀i,(i<o\/o+450<=i)->cs'[i]?=cs[i]?
theorem qb7.refl(o:Nat)(cs:Array Value):qb7 o cs cs:=⟨rfl,fun _ _=>rfl⟩
theorem qb7.trans{a b c:Array Value}(h:qb7 o a b)(k:qb7 o b c):qb7 o a c:=⟨k.1.trans h.1,fun i hi=>(k.2 i hi).trans (h.2 i hi)⟩
theorem qb7.set(o i:Nat)(cs:Array Value)(v:Value)(h1:o<=i)(h2:i<o+450):qb7 o cs (cs.setIfInBounds i v):=by
 refine⟨by simp,fun j hj=>?_⟩
 rw[Array.getElem?_setIfInBounds];rw[if_neg om]
section
variable {w:World} {b:Nat} {t:TypeId} {cs:Array Value} {o:Nat} {now:Int} {mb:Option Nat} {D:DataW Unit} {vs:Nat->Value} {L:Nat->List Int}
theorem WM.lt(h:WM w b t cs o now mb D vs L):b<w.heap.size:=(Array.getElem?_eq_some_iff.1 h.row).1
theorem WM.cell(h:WM w b t cs o now mb D vs L)(i:Nat):w.cell? ⟨b,i,none⟩=cs[i]?:=by simp[World.cell?,h.row]
theorem WM.free(h:WM w b t cs o now mb D vs L)(i:Nat):w.frozen? ⟨b,i,none⟩=false:=by simp[World.frozen?,h.row]
theorem Own.ne_map(h:Own w v l)(hm:MapI w bm n D):v.ownBlock≠some bm:=by
 obtain⟨es,clock,hb,_⟩:=hm
 rcases h.2 with⟨e,_⟩|⟨g,cap,cur,e,_,hg,_⟩
 ·rw[e];simp[Value.ownBlock]
 ·rw[e];intro he
  have:g=bm:=by simpa[Value.ownBlock] using he
  subst this
  rw[hg] at hb
  cases hb
theorem MapI.ne_row(hr:w.heap[b]?=some (.cells cs t (0,0)))(hm:MapI w bm n D):bm≠b:=by
 obtain⟨es,clock,hb,_⟩:=hm
 rintro rfl
 rw[hr] at hb
 cases hb
theorem Own.ne_row(h:Own w v l)(hr:w.heap[b]?=some (.cells cs t (0,0)))(ht:t≠3):v.ownBlock≠some b:=by
 rcases h.2 with⟨e,_⟩|⟨g,cap,cur,e,_,hg,_⟩
 ·rw[e];simp[Value.ownBlock]
 ·rw[e];intro he
  have:g=b:=by simpa[Value.ownBlock] using he
  subst this
  rw[hg] at hr
  cases hr
  exact ht rfl
theorem WM.keep(h:WM w b t cs o now mb D vs L)(hg:Gr F w w')(hF:∀c,Fp b mb vs c->¬F c):WM w' b t cs o now mb D vs L:=by
 refine⟨(hg.block b h.lt (hF b (.inl rfl))).trans h.row,h.size,h.c0,h.c1,h.cl,fun k hk=>?_,h.nil,h.apart,h.notb,?_⟩
 ·obtain⟨h1,h2⟩:=h.own k hk
  refine⟨h1,?_⟩
  rcases h2 with h2|⟨g,cap,cur,e,h3,h4,h5⟩
  ·exact .inl h2
  ·refine .inr ⟨g,cap,cur,e,h3,?_,h5⟩
   rw[←h4]
   exact hg.block g (Array.getElem?_eq_some_iff.1 h4).1 (hF g (.inr (.inr ⟨k,hk,by rw[e];rfl⟩)))
 ·rcases h.map with h1|⟨bm,n,h1,hn,es,clock,h2,h3⟩
  ·exact .inl h1
  ·exact .inr ⟨bm,n,h1,hn,es,clock,(hg.block bm (Array.getElem?_eq_some_iff.1 h2).1 (hF bm (.inr (.inl h1)))).trans h2,h3⟩
theorem WM.below(h:WM w b t cs o now mb D vs L)(hb:Below w.heap.size w w'):WM w' b t cs o now mb D vs L:=h.keep (Gr.of_below (F:=fun _=>False) hb) (fun _ _=>id)
theorem WM.alloc(h:WM w b t cs o now mb D vs L)(x:Obj):WM (w.alloc x) b t cs o now mb D vs L:=h.below ((Below.refl _ _).alloc (Nat.le_refl _) _)
theorem WM.drew(h:WM w b t cs o now mb D vs L):WM w.drew b t cs o now mb D vs L:=h.below (Below.refl _ _).drew
theorem WM.turnL(h:WM w b t cs o now mb D vs L)(hk:k<448){v':Value}{l':List Int}(hg:w.grownBy w2 (vs k).ownBlock)(hown:Own w2 v' l')(hnil:l'=[]->v'=.slice none 0 0)(hloc:v'.ownBlock=none\/v'.ownBlock=(vs k).ownBlock\/∃c,v'.ownBlock=some c/\w.heap.size<=c){i:Nat}(hi:i=o+2+k):
  WM (w2.setCell ⟨b,i,none⟩ v') b t (cs.setIfInBounds i v') o now mb D (updV vs k v') (setL L k l')/\qb7 o cs (cs.setIfInBounds i v')/\Gr (Fp b mb vs) w (w2.setCell ⟨b,i,none⟩ v')/\∀c,Fp b mb (updV vs k v') c->Fp b mb vs c\/w.heap.size<=c:=by
 subst hi
 (have hbk:some b≠(vs k).ownBlock:=fun e=>h.notb k hk e.symm);have hrow:w2.heap[b]?=some (.cells cs t (0,0)):=(hg.block b h.lt hbk).trans h.row;have hsz:=h.size
 have hlt:∀c,v'.ownBlock=some c->c≠b:=by
  intro c hc e
  rcases hloc with h1|h1|⟨c',h1,h2⟩
  ·rw[h1] at hc;cases hc
  ·exact h.notb k hk (by rw[←h1,hc,e])
  ·rw[h1] at hc;cases hc;have:=h.lt;omega
 (have hGr:Gr (Fp b mb vs) w (w2.setCell ⟨b,o+2+k,none⟩ v'):=(Gr.of_grown hg (fun c hc=>.inr (.inr ⟨k,hk,hc⟩))).trans (Gr.setCell (F:=fun c=>c=b) w2 b _ v' rfl) (fun x hx=>.inl (.inl hx)));(have hset:∀c,c≠b->(w2.setCell ⟨b,o+2+k,none⟩ v').heap[c]?=w2.heap[c]?:=fun c hc=>Below.heap_setCell _ _ _ _ hc)
 refine⟨⟨heap_setCell_same w2 b _ _ t _ hrow,by simpa using hsz,?_,?_,fun j hj=>?_,fun j hj=>?_,fun j hj hl=>?_,fun j j' c hj hj' h1 h2=>?_,fun j hj=>?_,?_⟩,qb7.set o _ cs v' om om,hGr,fun c hc=>?_⟩
 ·refine m7w ?_;exact h.c0
 ·refine m7w ?_;exact h.c1
 ·by_cases e:j=k
  ·subst e
   rw[Array.getElem?_setIfInBounds_self_of_lt om]
   simp[updV]
  ·rw[Array.getElem?_setIfInBounds_ne om,h.cl j hj]
   simp[updV,e]
 ·by_cases e:j=k
  ·subst e
   obtain⟨h1,h2⟩:=hown
   simp only[updV,setL,if_true]
   refine⟨h1,?_⟩
   rcases h2 with h2|⟨g,cap,cur,e,h3,h4,h5⟩
   ·exact .inl h2
   ·exact .inr ⟨g,cap,cur,e,h3,(hset g (hlt g (by rw[e];rfl))).trans h4,h5⟩
  ·simp only[updV,setL,if_neg e]
   obtain⟨h1,h2⟩:=h.own j hj
   refine⟨h1,?_⟩
   rcases h2 with h2|⟨g,cap,cur,e',h3,h4,h5⟩
   ·exact .inl h2
   ·(have hgj:(vs j).ownBlock=some g:=by rw[e'];rfl)
    refine .inr ⟨g,cap,cur,e',h3,?_,h5⟩
    rw[hset g (fun e2=>h.notb j hj (by rw[hgj,e2])),←h4]
    exact hg.block g (Array.getElem?_eq_some_iff.1 h4).1 (fun e2=>e (h.apart j k g hj hk hgj e2.symm))
 ·by_cases e:j=k
  ·subst e;simp only[updV,setL,if_true] at hl ⊢;exact hnil hl
  ·simp only[updV,setL,if_neg e] at hl ⊢;exact h.nil j hj hl
 ·have key:∀m,m<448->m≠k->(vs m).ownBlock=some c->v'.ownBlock=some c->False:=by
   intro m hm hmk h3 h4
   rcases hloc with h5|h5|⟨c',h5,h6⟩
   ·rw[h5] at h4;cases h4
   ·exact hmk (h.apart m k c hm hk h3 (by rw[←h5,h4]))
   ·rw[h5] at h4;cases h4
    have:=((h.own m hm).lt c h3).2
    omega
  by_cases e:j=k
  ·by_cases e':j'=k
   ·rw[e,e']
   ·simp only[updV,if_pos e,if_neg e'] at h1 h2
    exact(key j' hj' e' h2 h1).elim
  ·by_cases e':j'=k
   ·simp only[updV,if_neg e,if_pos e'] at h1 h2
    exact(key j hj e h1 h2).elim
   ·simp only[updV,if_neg e,if_neg e'] at h1 h2
    exact h.apart j j' c hj hj' h1 h2
 ·by_cases e:j=k
  ·simp only[updV,if_pos e]
   intro h1
   exact hlt b h1 rfl
  ·simp only[updV,if_neg e];exact h.notb j hj
 ·rcases h.map with h1|⟨bm,n,h1,hn,hm⟩
  ·exact .inl h1
  ·have hne:=hm.ne_row h.row;obtain⟨es,clock,h2,h3⟩:=id hm
   refine .inr ⟨bm,n,h1,hn,es,clock,?_,h3⟩
   rw[hset bm hne,←h2]
   exact hg.block bm (Array.getElem?_eq_some_iff.1 h2).1 (fun e2=>(h.own k hk).ne_map hm e2.symm)
 ·rcases hc with rfl|hc|⟨j,hj,hc⟩
  ·exact .inl (.inl rfl)
  ·exact .inl (.inr (.inl hc))
  ·by_cases e:j=k
   ·simp only[updV,if_pos e] at hc
    rcases hloc with h5|h5|⟨c',h5,h6⟩
    ·rw[h5] at hc;cases hc
    ·exact .inl (.inr (.inr ⟨k,hk,by rw[←h5,hc]⟩))
    ·rw[h5] at hc;cases hc;exact .inr h6
   ·simp only[updV,if_neg e] at hc
    exact .inl (.inr (.inr ⟨j,hj,hc⟩))
end
theorem idx7(b o l:Nat)(h:l<7)(w:World):(Instr.indexAt 89 (V (some ⟨b,o,none⟩)) (I Z (l:Int))).run prog w=.ok (V (some ⟨b,o+64*l,none⟩)) w:=by
 (have hs:(sizeOf 88).run prog w=.ok 64 w:=by kernel_rfl);(have h1:(l:Int)<7:=by omega)
 simp[go_sem,underlying89,h1,h,hs]
theorem qy0(b o l:Nat)(h:l<64)(w:World):(Instr.indexAt 88 (V (some ⟨b,o,none⟩)) (I Z (l:Int))).run prog w=.ok (V (some ⟨b,o+l,none⟩)) w:=by
 (have hs:(sizeOf 86).run prog w=.ok 1 w:=by kernel_rfl);(have h1:(l:Int)<64:=by omega)
 simp[go_sem,underlying88,h1,h,hs]
theorem lawI:Keyed prog 3:=int_keyed underlying3
theorem qjv(w:World):(zeroValue 3).run prog w=.ok (I Z 0) w:=by kernel_rfl
theorem q1h:(prog.info? 3).map (fun i=>(i.zero,i.size,i.bytes))=some (some (I Z 0),1,8):=by kernel_rfl
def atW'(D:DataW Unit)(i:Int)(d:Int):Prop:=D.atKey (.int .i64 i) (.lit (.int .i64 0))=.lit (.int .i64 d)
theorem Own.shape(h:Own w v l)(hl:0<l.length):∃g cap cur,v=.slice (some ⟨g,0,none⟩) l.length cap/\w.heap[g]?=some (.cells cur 3 (0,0))/\l.length<=cap/\cap<=maxLen/\cur.size=cap/\cur.toList.take l.length=l.map (Value.int .i64):=by
 rcases h.2 with⟨_,e⟩|⟨g,cap,cur,e,_,h1,h2,h3,h4,h5⟩
 ·omega
 ·exact⟨g,cap,cur,e,h1,h2,h3,by simpa using h4,by simpa using h5⟩
theorem qis{cur:Array Value}(h:cur.toList.take l.length=l.map (Value.int .i64))(j:Nat)(hj:j<l.length):cur[j]?=some (I Z l[j]):=by
 (have e:(cur.toList.take l.length)[j]?=some (I Z l[j]):=by rw[h];simp[hj])
 rw[List.getElem?_take,if_pos hj] at e
 simpa using e
theorem qny{k:IntKind}{a b:Int}(h:a=b):Ending.returned (.int k a)=.returned (.int k b):=by rw[h]
theorem ixI(g n cap j:Nat)(hj:j<n)(w:World):(Instr.indexAt 86 (.slice (some ⟨g,0,none⟩) n cap) (I Z (j:Int))).run prog w=.ok (V (some ⟨g,j,none⟩)) w:=by
 (have hs:(sizeOf 3).run prog w=.ok 1 w:=by kernel_rfl);(have h1:(j:Int)<(n:Int):=by omega)
 simp[go_sem,underlying86,h1,hj,hs]
theorem q1w(h:Own w v l)(x:Int)(hx:x∈l)(hm:l.length<=1000000000):
  Calls prog 204 #[v,I Z x] w fun e w'=>e=.returned (I Z (l.idxOf x:Int))/\w'=w:=by
 have hlen:0<l.length:=List.length_pos_of_mem hx
 obtain⟨g,cap,cur,rfl,hg,_,_,_,ht⟩:=h.shape hlen
 have hix:=List.idxOf_lt_length_of_mem hx;(have hcell:∀j (hj:j<l.length),w.cell? ⟨g,j,none⟩=some (I Z l[j]):=fun j hj=>by simp[World.cell?,hg];exact qis ht j hj)
 obtain⟨n,hn⟩:∃n,n=l.length:=⟨_,rfl⟩
 rw[←hn];have HN:Hid (n=l.length):=hn;(have hI:=fun j (hj:j<n) w=>ixI g n cap j hj w);clear hn h hg ht hlen
 go_enter func204,ntmps204
 go_wp2
 go_loop [8] (fun i=>∃j:Nat,j<=l.idxOf x/\i=I Z (j:Int)) (fun i=>n-(intOf i).toNat)
 case atStart=>exact⟨0,Nat.zero_le _,rfl⟩
 case round=>
  obtain⟨j,hj,rfl⟩:=hrel
  (have hjl:j<l.length:=by omega);(have hjn:(j:Int)<(n:Int):=by have:=HN.out;omega);(have hI':=fun w=>hI j (by have:=HN.out;omega) w);have hc:=hcell j hjl
  by_cases he:l[j]=x
  ·(have hb:(x==l[j])=true:=by simp[he])
   have hji:j=l.idxOf x:=by
    by_cases hlt:j<l.idxOf x
    ·exact absurd he (by have:=List.not_of_lt_findIdx (p:=(· == x)) (xs:=l) hlt;simpa using this)
    ·omega
   have HJ:Hid (j=l.idxOf x):=hji;clear hji he hI hcell
   go_wp2
   go_ret
   refine⟨qny ?_,rfl⟩
   have:=HJ.out
   omega
  ·(have hb:(x==l[j])=false:=by simp;exact fun e=>he e.symm)
   have hlt:j<l.idxOf x:=by
    by_cases e:j=l.idxOf x
    ·subst e;exact absurd (List.getElem_idxOf hjl) he
    ·omega
   (have hwr:wrap64 ((j:Int)+1)=(j:Int)+1:=by unfold wrap64;omega);have HL:Hid (j<l.idxOf x):=hlt;(have hmn:Hid (n-((j:Int)+1).toNat<n-((j:Int)).toNat):=by have:=HN.out;show _<_;omega);clear he hlt hI hcell
   go_wp2
   go_round
   case rel=>exact⟨j+1,HL.out,by go_num⟩
   case measure=>first|exact hmn.out|(rw[hwr];exact hmn.out)|(simp[intOf];exact hmn.out)
def putA(cur:Array Value)(o:Nat)(vs:List Value):Array Value:=match vs with
 | []=>cur
 | v::r=>putA (cur.setIfInBounds o v) (o+1) r
theorem qtd(vs:List Value)(cur:Array Value)(o:Nat):(putA cur o vs).size=cur.size:=by
 induction vs generalizing cur o with
 | nil=>rfl
 | cons v r ih=>unfold putA;rw[ih];simp
theorem qvo(vs:List Value)(cur:Array Value)(o i:Nat)(hs:o+vs.length<=cur.size):(putA cur o vs)[i]?=if o<=i/\i<o+vs.length then vs[i-o]? else cur[i]?:=by
 induction vs generalizing cur o with
 | nil=>unfold putA;rw[if_neg zm]
 | cons v r ih=>
  unfold putA
  simp only[List.length_cons] at hs ⊢
  rw[ih _ _ (by simp;omega)]
  by_cases e:i=o
  ·subst e
   rw[if_neg om,if_pos om,Array.getElem?_setIfInBounds_self_of_lt om]
   simp
  ·by_cases h1:o+1<=i/\i<o+1+r.length
   ·rw[if_pos h1,if_pos om]
    obtain⟨q,rfl⟩:=Nat.exists_eq_add_of_le h1.1
    (rw[show o+1+q-(o+1)=q by omega,show o+1+q-o=q+1 by omega])
    simp
   ·rw[if_neg h1,if_neg om,Array.getElem?_setIfInBounds_ne om]
theorem qn7(vs:List Value)(w:World)(g o:Nat)(cur:Array Value)(t:TypeId)(h:w.heap[g]?=some (.cells cur t (0,0))):(w.setCells g o vs).heap[g]?=some (.cells (putA cur o vs) t (0,0)):=by
 induction vs generalizing w cur o with
 | nil=>exact h
 | cons v r ih=>unfold putA World.setCells;exact ih _ _ _ (heap_setCell_same w g o _ t _ h)
theorem qm5(vs:List Value)(w:World)(g o:Nat):w.grownBy (w.setCells g o vs) (some g):=by
 induction vs generalizing w o with
 | nil=>exact⟨rfl,rfl,rfl,Nat.le_refl _,fun _ _ _=>rfl⟩
 | cons v r ih=>
  unfold World.setCells
  (have h1:w.grownBy (w.setCell ⟨g,o,none⟩ v) (some g):=⟨rfl,rfl,rfl,by simp[World.setCell],fun k _ hk=>Below.heap_setCell _ _ _ _ (fun e=>hk (by rw[e]))⟩)
  exact h1.trans (ih _ _)
theorem q0c(h:Own w v l)(j:Nat)(hj:j<l.length)(hm:l.length<=1000000000):
  Calls prog 205 #[v,I Z (j:Int),I Z ((j:Int)+1)] w fun e w'=>∃v',e=.returned v'/\Own w' v' (l.eraseIdx j)/\w.grownBy w' v.ownBlock/\v'.ownBlock=v.ownBlock/\∃a c,v'=.slice a (l.length-1) c:=by
 obtain⟨g,cap,cur,rfl,hg,hlc,hcm,hcs,ht⟩:=h.shape om
 obtain⟨i0,hi0,hz0,hz1,hz2⟩:=info_parts q1h
 unfold maxLen at hcm
 (have hcell:∀k (hk:k<l.length),w.cell? ⟨g,k,none⟩=some (I Z l[k]):=fun k hk=>by simp[World.cell?,hg];exact qis ht k hk);(have hfree:∀k,w.frozen? ⟨g,k,none⟩=false:=fun k=>by simp[World.frozen?,hg])
 obtain⟨n,hn⟩:∃n,n=l.length:=⟨_,rfl⟩
 obtain⟨news,hnews⟩:∃news,news=(l.drop (j+1)).map (Value.int .i64):=⟨_,rfl⟩
 (have hnl:news.length=n-(j+1):=by rw[hnews,hn];simp)
 obtain⟨A,hA,hsrc⟩:∃A:Addr,(if cap=j+1 then some (⟨g,0,none⟩:Addr) else some ⟨g,j+1,none⟩)=some A/\Hid (∀t u,news[t]?=some u->w.drew.cell? (A.add t)=some u):=by
  by_cases hc:cap=j+1
  ·refine⟨⟨g,0,none⟩,by simp[hc],fun t u hu=>?_⟩
   (have h0:news.length=0:=by rw[hnl];omega)
   rw[List.length_eq_zero_iff.1 h0] at hu
   simp at hu
  ·refine⟨⟨g,j+1,none⟩,by simp[hc],fun t u hu=>?_⟩
   rw[Addr.add_lit]
   rw[hnews,List.getElem?_map,List.getElem?_drop] at hu
   have hlt:j+1+t<l.length:=by
    by_cases hlt:j+1+t<l.length
    ·exact hlt
    ·rw[List.getElem?_eq_none om] at hu;simp at hu
   rw[List.getElem?_eq_getElem hlt] at hu
   (have hu':Value.int .i64 l[j+1+t]=u:=by simpa using hu)
   exact(hcell _ hlt).trans (by rw[hu'])
 (have s1:Hid (news.length=(n-(j+1))*1):=by rw[Nat.mul_one];exact hnl)
 have s2:Hid (∀u∈news,u.oneCell'=true):=by
  intro u hu
  rw[hnews] at hu
  obtain⟨x,_,rfl⟩:=List.mem_map.1 hu
  rfl
 have s3:Hid (∀t,t<news.length->(w.drew.cell? ⟨g,0+j*1+t,none⟩).isSome=true/\w.drew.frozen? ⟨g,0+j*1+t,none⟩=false):=by
  intro t ht'
  rw[hnl] at ht'
  rw[Nat.mul_one,Nat.zero_add]
  exact⟨by show(w.cell? _).isSome=true;rw[hcell (j+t) om];rfl,hfree (j+t)⟩
 obtain⟨W1,hW1⟩:∃W1,W1=w.drew.setCells g (0+j*1) news:=⟨_,rfl⟩
 (have hg1:W1.heap[g]?=some (.cells (putA cur j news) 3 (0,0)):=by rw[hW1,Nat.mul_one,Nat.zero_add];exact qn7 news w.drew g j cur _ hg);(have hgr:w.grownBy W1 (some g):=by rw[hW1];have q:=qm5 news w.drew g (0+j*1);exact⟨q.os,q.tape,q.output,q.size,q.block⟩);(have hps:(putA cur j news).size=cap:=by rw[qtd,hcs])
 have hcl:∀ty,(Builtin.clear_ #[86] ty #[.slice (some ⟨g,j+(n-(j+1)),none⟩) (n-(j+(n-(j+1)))) (cap-(j+(n-(j+1))))]).run prog W1=.ok (.tuple #[]) (W1.setCells g (j+(n-(j+1))) (List.replicate (n-(j+(n-(j+1)))) (I Z 0))):=
  fun ty=>Lib.run_clear_slice W1 _ _ ty _ underlying86 qjv rfl rfl g (j+(n-(j+1))) _ _ om (fun t ht'=>by simp[World.cell?,hg1];omega) (fun t ht'=>by simp[World.frozen?,hg1])
 have hfin:Own (W1.setCells g (j+(n-(j+1))) (List.replicate (n-(j+(n-(j+1)))) (I Z 0))) (.slice (some ⟨g,0,none⟩) (j+(n-(j+1))) cap) (l.eraseIdx j):=by
  (have e1:j+(n-(j+1))=n-1:=by omega);(rw[e1,show n-(n-1)=1 by omega]);(have hel:(l.eraseIdx j).length=n-1:=by rw[List.length_eraseIdx,if_pos hj,hn])
  refine⟨by simp,.inr ⟨g,cap,_,by rw[hel],Nat.zero_le _,qn7 _ W1 g (n-1) _ _ hg1,by omega,by unfold maxLen;omega,by rw[qtd,hps,Nat.mul_one],?_⟩⟩
  apply List.ext_getElem?
  intro i;rw[List.getElem?_take,Nat.mul_one,hel,List.getElem?_map]
  by_cases hi:i<n-1
  ·rw[if_pos hi,Array.getElem?_toList,qvo _ _ _ _ (by simp[hps];omega),if_neg om,qvo _ _ _ _ (by rw[hnl,hcs];omega),hnl]
   by_cases hji:j<=i
   ·rw[if_pos om,hnews,List.getElem?_map,List.getElem?_drop,List.getElem?_eraseIdx_of_ge hji];(rw[show j+1+(i-j)=i+1 by omega])
   ·rw[if_neg om,List.getElem?_eraseIdx_of_lt om,qis ht i om,List.getElem?_eq_getElem om]
    rfl
  ·rw[if_neg hi,List.getElem?_eq_none om]
   rfl
 have hgr2:=hgr.trans (qm5 (List.replicate (n-(j+(n-(j+1)))) (I Z 0)) W1 g (j+(n-(j+1))));have HF:Hid (Own (W1.setCells g (j+(n-(j+1))) (List.replicate (n-(j+(n-(j+1)))) (I Z 0))) (.slice (some ⟨g,0,none⟩) (j+(n-(j+1))) cap) (l.eraseIdx j)):=hfin;have HG:Hid (w.grownBy (W1.setCells g (j+(n-(j+1))) (List.replicate (n-(j+(n-(j+1)))) (I Z 0))) (some g)):=hgr2;have hW:Hid (W1=w.drew.setCells g (0+j*1) news):=hW1;have hN:Hid (n=l.length):=hn;(have hnb:n<=1000000000:=by omega);(have hjn:j<n:=by omega);(have hnc:n<=cap:=by omega);rw[←hn];(have hij:((j:Int)==(j:Int)+1)=false:=by simp;omega);(have hjc:j<=cap:=by omega);(have hj1c:j+1<=cap:=by omega);(have hp0:(0:Int)<=(j:Int)+1:=by omega);(have hp1:(j:Int)+1<=(n:Int):=by omega);(have hp2:((j:Int)+1).toNat=j+1:=by omega);clear hfin hgr2 hgr hW1 hn hg1 hps hnl hnews hcell hfree ht hg hlc hm hj hcs h
 go_enter func205,ntmps205
 go_wp2_with fail
 go_region_law (refine step_append_room rfl (.tmp 22) (.tmp 25) 86 rfl 3 i0 1 underlying86 hi0 hz1 g 0 j cap (by simp[Act.eval,Act.put]) A (n-(j+1)) (cap-(j+1)) news (by simp[Act.eval,Act.put]) s1.out hsrc.out s2.out om s3.out ?_;rw[←hW.out])
 go_wp2
 go_ret
 exact⟨_,rfl,HF.out,HG.out,rfl,some ⟨g,0,none⟩,cap,congrArg (fun q=>Value.slice (some ⟨g,0,none⟩) q cap) (show j+(n-(j+1))=n-1 by omega)⟩
theorem WM.theMap(h:WM w b t cs o now (some bm) D vs L):∃n,n<=1000000/\MapI w bm n D:=by
 rcases h.map with⟨h1,_⟩|⟨bm',n,h1,h2,h3⟩
 ·cases h1
 ·cases h1;exact⟨n,h2,h3⟩
theorem ql7(h:w.heap[b]?=some (.cells cs t (0,0)))(hg:w.grownBy w2 r)(hr:r≠some b):w2.heap[b]?=some (.cells cs t (0,0)):=
 (hg.block b (Array.getElem?_eq_some_iff.1 h).1 (fun e=>hr e.symm)).trans h
theorem qm8{c:Int}(h1:atW' D i d)(h2:D.atKey (.int .i64 i) (.lit (.int .i64 0))=.lit (.int .i64 c)):c=d:=by
 unfold atW' at h1
 rw[h1] at h2
 injection h2 with h3
 injection h3 with _ h4
 exact h4.symm
theorem qwr{now:Nat}(h:WM w b t cs o (now:Int) (some bm) D vs L)(i:Int)(d:Nat)(hi:(Lit.int .i64 i).wf=true)(hd:atW' D i (d:Int))(hn:now<=1099511627776)(hdd:d<=1099511627776)(hmem:i∈L (pk now d))(hlen:(L (pk now d)).length<=1000000000):
  Calls prog 184 #[.pointer (some ⟨b,o,none⟩),.int .i64 i] w fun e w'=>e=.returned (.tuple #[])/\∃cs' vs',WM w' b t cs' o (now:Int) (some bm) D vs' (setL L (pk now d) ((L (pk now d)).eraseIdx ((L (pk now d)).idxOf i)))/\qb7 o cs cs'/\Gr (Fp b (some bm) vs) w w'/\∀c,Fp b (some bm) vs' c->Fp b (some bm) vs c\/w.heap.size<=c:=by
 refine m43 ?_;intro hkey c0 c1 hl7 ha64 hpk CP
 generalize lv d now=l at *
 generalize dg d l=a at *
 rw[hpk] at hmem hlen ⊢
 (have hk:64*l+a<448:=by omega);have hown:=h.own _ hk;(have hI7:=fun w=>idx7 b (o+2) l om w);(have hI64:=fun w=>qy0 b (o+2+64*l) a om w);(have ho:o+2+64*l+a=o+2+(64*l+a):=by omega);(have cl:w.cell? ⟨b,o+2+64*l+a,none⟩=some (vs (64*l+a)):=by rw[ho];exact(h.cell _).trans (h.cl _ hk));obtain⟨n,hn',hm⟩:=h.theMap;(have CI:=fun(w:World) (h:Own w (vs (64*l+a)) (L (64*l+a)))=>q1w h i hmem hlen);have hix:=List.idxOf_lt_length_of_mem hmem;(have CD:=fun(w:World) (h:Own w (vs (64*l+a)) (L (64*l+a)))=>q0c h _ hix hlen);(have hwi:wrap64 ((List.idxOf i (L (64*l+a)):Int)+1)=(List.idxOf i (L (64*l+a)):Int)+1:=by unfold wrap64;omega);(have hi0:(0:Int)<=(List.idxOf i (L (64*l+a)):Int):=by omega)
 have hne:∀w2 (u:Value),w.grownBy w2 (vs (64*l+a)).ownBlock->w2.cell? ⟨b,o+2+64*l+a,none⟩=some (vs (64*l+a))/\w2.frozen? ⟨b,o+2+64*l+a,none⟩=false:=by
  intro w2 u hg;have hr:=ql7 h.row hg (h.notb _ hk)
  exact⟨by simp only[World.cell?,hr];rw[ho];exact h.cl _ hk,by simp[World.frozen?,hr]⟩
 (have hfin:=fun(w2:World) (v':Value) (hg:w.grownBy w2 (vs (64*l+a)).ownBlock) (hw2:Own w2 v' ((L (64*l+a)).eraseIdx ((L (64*l+a)).idxOf i))) hnil hloc=>h.turnL hk hg hw2 hnil hloc ho);(have hel:((L (64*l+a)).eraseIdx ((L (64*l+a)).idxOf i)).length=(L (64*l+a)).length-1:=by rw[List.length_eraseIdx,if_pos hix])
 generalize(L (64 * l+a)).eraseIdx ((L (64 * l+a)).idxOf i)=l' at *
 generalize List.idxOf i (L (64 * l+a))=q at *
 (have HFIN:Hid (∀(w2:World) (v':Value),w.grownBy w2 (vs (64*l+a)).ownBlock->Own w2 v' l'->(l'=[]->v'=.slice none 0 0)->(v'.ownBlock=none\/v'.ownBlock=(vs (64*l+a)).ownBlock\/∃c,v'.ownBlock=some c/\w.heap.size<=c)->∃cs' vs',WM (w2.setCell ⟨b,o+2+64*l+a,none⟩ v') b t cs' o (now:Int) (some bm) D vs' (setL L (64*l+a) l')/\qb7 o cs cs'/\Gr (Fp b (some bm) vs) w (w2.setCell ⟨b,o+2+64*l+a,none⟩ v')/\∀c,Fp b (some bm) vs' c->Fp b (some bm) vs c\/w.heap.size<=c):=fun w2 v' x1 x2 x3 x4=>⟨_,_,hfin w2 v' x1 x2 x3 x4⟩)
 obtain⟨N,hN⟩:∃N,N=(L (64*l+a)).length-1:=⟨_,rfl⟩
 have HN:Hid (N=(L (64*l+a)).length-1):=hN
 rw[←hN] at hel CD
 have HEL:Hid (l'.length=N):=hel;(have hNb:N<=1000000000:=by omega);clear hpk hfin hlen hmem ho hel hN hix
 by_cases hN0:N=0
 ·(have hz:((N:Int)==0)=true:=by simp[hN0])
  go_enter func184,ntmps184
  go_wp2_with (first|(at_lookup;refine m3h ?_;intro c hat hwc;obtain rfl:=qm8 hd hat;clear hat hwc)|(go_at_call 171;refine(CP _ c0).mono ?_;rintro e w' ⟨rfl,rfl⟩)|(go_at_call 204;refine(CI _ hown).mono ?_;rintro e w' ⟨rfl,rfl⟩)|(go_at_call 205;refine(CD _ hown).mono ?_;rintro e w2 ⟨v',rfl,ho2,hg2,hb2,a2,k2,rfl⟩;obtain⟨cl2,fr2⟩:=hne w2 undef hg2))
  go_end0
  refine⟨rfl,HFIN.out w2 _ hg2 ?_ (fun _=>rfl) (.inl rfl)⟩
  have:l'=[]:=List.eq_nil_of_length_eq_zero (by have:=HEL.out;omega)
  rw[this];exact World.ownsRow_nil _ _ _ _
 ·(have hz:((N:Int)==0)=false:=by simp;omega)
  go_enter func184,ntmps184
  go_wp2_with (first|(at_lookup;refine m3h ?_;intro c hat hwc;obtain rfl:=qm8 hd hat;clear hat hwc)|(go_at_call 171;refine(CP _ c0).mono ?_;rintro e w' ⟨rfl,rfl⟩)|(go_at_call 204;refine(CI _ hown).mono ?_;rintro e w' ⟨rfl,rfl⟩)|(go_at_call 205;refine(CD _ hown).mono ?_;rintro e w2 ⟨v',rfl,ho2,hg2,hb2,a2,k2,rfl⟩;obtain⟨cl2,fr2⟩:=hne w2 undef hg2))
  go_end0
  exact⟨rfl,HFIN.out w2 _ hg2 ho2 (fun e=>absurd (by have:=HEL.out;rw[e] at this;simpa using this.symm) hN0) (.inr (.inl hb2))⟩
theorem qia(h:w.heap[b]?=some (.cells cs t (0,0)))(i:Nat):w.cell? ⟨b,i,none⟩=cs[i]?:=by simp[World.cell?,h]
theorem qnv(h:w.heap[b]?=some (.cells cs t (0,0)))(i:Nat):w.frozen? ⟨b,i,none⟩=false:=by simp[World.frozen?,h]
theorem qf7(h:w.drew.grownBy w2 r):w.grownBy w2 r:=⟨h.os,h.tape,h.output,h.size,h.block⟩
theorem q8i(hown:Own w v l)(c:Nat)(i:Int)(hc:w.cell? ⟨c,0,none⟩=some (I Z i))(hl:l.length<=1000000000)(ty:TypeId):
  ∃v' w',(Builtin.append_ #[86,86] ty #[v,.slice (some ⟨c,0,none⟩) 1 1]).run prog w=.ok v' w'/\Own w' v' (l++[i])/\w.grownBy w' v.ownBlock/\(v'.ownBlock=v.ownBlock\/v'.ownBlock=some w.heap.size)/\∃a k,v'=.slice a (l.length+1) k:=by
 obtain⟨i0,hi0,hz0,hz1,hz2⟩:=info_parts q1h
 obtain⟨v',w',h1,h2,h3,h4,h5⟩:=run_append_own_at (P:=prog) w 0 86 ty 3 i0 (I Z 0) 1 8 underlying86 hi0 hz0 hz1 hz2 rfl (by decide) v l.length (l.map (Value.int .i64)) hown ⟨c,0,none⟩ 1 1 [I Z i] rfl (fun j u hu=>by
  match j,hu with
  | 0,hu=>
   (have e:Value.int .i64 i=u:=by simpa using hu)
   rw[←e];rw[Addr.add_lit];exact hc) (by simp[Value.oneCell']) (by unfold maxLen;omega) om (Nat.zero_le _)
 refine⟨v',w',h1,by show w'.ownsRow 0 3 1 v' (l++[i]).length ((l++[i]).map (Value.int .i64));rw[List.length_append,List.map_append];exact h2,h3,h5,?_⟩
 rcases h2.2 with⟨_,e⟩|⟨g,cap,cur,e,_⟩
 ·omega
 ·exact⟨_,_,e⟩
theorem qwp{o:Oper}{a:Act}{K:Act->World->Prop}(s x:Operand)(ho:o.op=.call { callee:=.builtin .append,args:=#[s,x],argTypes:=#[86,86] })(hs:a.eval s=v)(hown:Own w v l)(c:Nat)(i:Int)(hx:a.eval x=.slice (some ⟨c,0,none⟩) 1 1)(hc:w.cell? ⟨c,0,none⟩=some (I Z i))(hl:l.length<=1000000000)(hr:∀a' k' w',Own w' (.slice a' (l.length+1) k') (l++[i])->w.grownBy w' v.ownBlock->((Value.slice a' (l.length+1) k').ownBlock=v.ownBlock\/(Value.slice a' (l.length+1) k').ownBlock=some w.heap.size)->K (a.put o.dst (.slice a' (l.length+1) k')) w'):o.wp prog a w K Q:=by
 obtain⟨v',w',h1,h2,h3,h4,a',k',rfl⟩:=q8i hown c i hc hl o.type
 unfold Oper.wp execOp
 simp only[ho,resolve,invoke,builtin,Sem.run_bind,Sem.run_pure,Result.andThen_ok,List.map_toArray,List.map_cons,List.map_nil,hs,hx,h1]
 exact hr a' k' w' h2 h3 h4
theorem qz6{rest:List Oper}{o:Oper}{a:Act}(hgd:o.guard=none)(s x:Operand)(ho:o.op=.call { callee:=.builtin .append,args:=#[s,x],argTypes:=#[86,86] })(hs:a.eval s=v)(hown:Own w v l)(c:Nat)(i:Int)(hx:a.eval x=.slice (some ⟨c,0,none⟩) 1 1)(hc:w.cell? ⟨c,0,none⟩=some (I Z i))(hl:l.length<=1000000000)(hr:∀a' k' w',Own w' (.slice a' (l.length+1) k') (l++[i])->w.grownBy w' v.ownBlock->((Value.slice a' (l.length+1) k').ownBlock=v.ownBlock\/(Value.slice a' (l.length+1) k').ownBlock=some w.heap.size)->wpList prog ops Q rest (a.put o.dst (.slice a' (l.length+1) k')) w'):wpList prog ops Q (o::rest) a w:=
 wpList_plain hgd fun K hK=>qwp s x ho hs hown c i hx hc hl (fun a' k' w' h1 h2 h3=>hK _ _ (hr a' k' w' h1 h2 h3))
theorem qin{S:World->Prop}{o:Oper}{a:Act}(t:TypeId)(x y:Operand)(ho:o.op=.indexAddr t x y)(hw:Region.wanted o (yielded ops a.tmps)=true)(p i q:Value)(hx:a.eval x=p)(hy:a.eval y=i)(hrun:∀w:World,(Instr.indexAt t p i).run prog w=.ok q w):YieldsIf prog ops S o q a:=
 .inl ⟨hw,fun w _=>by unfold execOp;simp only[ho,hx,hy,Sem.run_bind,hrun w,Result.andThen_ok,Sem.run_pure]⟩
theorem sZtw11(h:p:=by
 refine hK.out _ _ trivial (fun _=>?_)
 clear hK K;(try simp only[ZZ]);refine AR [13] ?_
 refine AP (fun K hK=>?_) ?_
 ·refine qwp (v:=vs (64*l+a)) (.tmp 27) (.tmp 29) rfl rfl (h.own _ hk) _ i rfl h29 hlen ?_;intro a' k' w2 ho2 hg2 hl2;clear h29;replace hg2:=qf7 hg2
  refine hK.out _ _ trivial (fun _=>?_)
  clear hK K;(try simp only[ZZ]);refine tk 17 (V (some ⟨b,o+2+64*l+a,none⟩)) rfl (qin 88 (.tmp 33) (.tmp 19) rfl kr _ _ _ kr kr hI64) trivial ?_;refine m5i ?_;refine AR [18] ?_
  refine AP (fun K hK=>?_) AZ
  have hr2:=ql7 h.row hg2 (h.notb _ hk);have hc:=(qia hr2 (o+2+(64*l+a))).trans (h.cl _ hk);have hz:=qnv hr2 (o+2+(64*l+a));rw[←HO.out] at hc hz
  (unfold Oper.wp execOp;go_simp);clear hc hz
  refine hK.out _ _ trivial (fun _=>?_)
  clear hK K;(try simp only[ZZ]);refine AN ?_
  go_wp2
  go_end0
  have hq:=h.turnL hk hg2 ho2 (fun e=>absurd e zm) (.inr (hl2.imp id (fun e=>⟨_,e,Nat.le_refl _⟩))) HO.out
  exact⟨rfl,_,_,hq.1,hq.2.1,(hGr.trans hq.2.2.1 (fun x hx=>.inl hx)),fun c hc=>(hq.2.2.2 c hc).imp id (fun hh=>Nat.le_trans hGr.size hh)⟩
 exact AZ):p:=h
theorem ql3{now:Nat}(h:WM w b t cs o (now:Int) (some bm) D vs L)(i:Int)(d:Nat)(hi:(Lit.int .i64 i).wf=true)(hd:atW' D i (d:Int))(hn:now<=1099511627776)(hdd:d<=1099511627776)(hlen:(L (pk now d)).length<=1000000000):
  Calls prog 185 #[.pointer (some ⟨b,o,none⟩),.int .i64 i] w fun e w'=>e=.returned (.tuple #[])/\∃cs' vs',WM w' b t cs' o (now:Int) (some bm) D vs' (setL L (pk now d) (L (pk now d)++[i]))/\qb7 o cs cs'/\Gr (Fp b (some bm) vs) w w'/\∀c,Fp b (some bm) vs' c->Fp b (some bm) vs c\/w.heap.size<=c:=by
 refine m43 ?_;intro hkey c0 c1 hl7 ha64 hpk CP
 generalize lv d now=l at *
 generalize dg d l=a at *
 rw[hpk] at hlen ⊢
 (have hk:64*l+a<448:=by omega);(have hI7:=fun w=>idx7 b (o+2) l om w);(have hI64:=fun w=>qy0 b (o+2+64*l) a om w);(have HO:Hid (o+2+64*l+a=o+2+(64*l+a)):=(by omega:o+2+64*l+a=o+2+(64*l+a)));obtain⟨n,hn',hm⟩:=h.theMap;have hGr:Gr (Fp b (some bm) vs) w (w.alloc (.cells #[.int .i64 i] 3)):=Gr.of_below ((Below.refl _ _).alloc (Nat.le_refl _) _);clear hpk
 go_enter func185,ntmps185
 go_wp2_with (first|(at_lookup;refine m3h ?_;intro c hat hwc;obtain rfl:=qm8 hd hat;clear hat hwc)|(go_at_call 171;refine(CP _ c0).mono ?_;refine m04 ?_))
 clear c0 c1
 refine RD (fun _=>True) trivial (fun _=>?_)
 refine tq 0 (.pointer (some ⟨b,o,none⟩)) rfl trivial (tq 1 (.int .i64 (l:Int)) rfl trivial (tq 2 (.int .i64 (a:Int)) rfl trivial ?_));refine m5i ?_;refine tq 3 (.pointer (some ⟨b,o,none⟩)) rfl trivial (tq 4 (.int .i64 (l:Int)) rfl trivial (tq 5 (.int .i64 (a:Int)) rfl trivial ?_));refine m5i ?_;refine tq 6 (.pointer (some ⟨b,o,none⟩)) rfl trivial (tq 7 (.pointer (some ⟨b,o+2,none⟩)) rfl trivial (tk 8 (.pointer (some ⟨b,o+2+64*l,none⟩)) rfl (qin 89 (.tmp 24) (.tmp 21) rfl kr _ _ _ kr kr hI7) trivial ?_));refine m5i ?_;refine tk 9 (.pointer (some ⟨b,o+2+64*l+a,none⟩)) rfl (qin 88 (.tmp 25) (.tmp 22) rfl kr _ _ _ kr kr hI64) trivial (tq 11 (.int .i64 i) rfl trivial (tq 14 (.pointer (some ⟨b,o,none⟩)) rfl trivial ?_));refine m5i ?_;refine tq 15 (.pointer (some ⟨b,o+2,none⟩)) rfl trivial (tk 16 (.pointer (some ⟨b,o+2+64*l,none⟩)) rfl (qin 89 (.tmp 32) (.tmp 18) rfl kr _ _ _ kr kr hI7) trivial ?_);refine m5i ?_;refine AR [10,12] ?_
 refine AP (fun K hK=>?_) ?_
 ·have hc:=(h.cell (o+2+(64*l+a))).trans (h.cl _ hk);rw[←HO.out] at hc
  (unfold Oper.wp execOp;go_simp);clear hc
  refine hK.out _ _ trivial (fun _=>?_)
  clear hK K;(try simp only[ZZ]);refine AR [12] ?_
  refine AP (fun K hK=>?_) AZ
  (unfold Oper.wp execOp;go_simp);replace h:=h.alloc (.cells #[.int .i64 i] 3);have h29:World.cell? _ ⟨_,0,none⟩=some (.int .i64 i):=World.cell?_alloc_mark w #[.int .i64 i] 3 (0,0) 0
  exact sZtw11
 refine AP (fun K hK=>?_) AZ
 (unfold Oper.wp execOp;go_simp);replace h:=h.alloc (.cells #[.int .i64 i] 3);have h29:World.cell? _ ⟨_,0,none⟩=some (.int .i64 i):=World.cell?_alloc_mark w #[.int .i64 i] 3 (0,0) 0
 refine hK.out _ _ trivial (fun _=>?_)
 clear hK K;(try simp only[ZZ]);refine AR [10] ?_
 refine AP (fun K hK=>?_) AZ
 have hc:=(h.cell (o+2+(64*l+a))).trans (h.cl _ hk);rw[←HO.out] at hc
 (unfold Oper.wp execOp;go_simp);clear hc
 exact sZtw11
theorem Gr.undrew(h:Gr F w.drew w'):Gr F w w':=⟨h.os,h.tape,h.output,h.size,h.block⟩
def ql5(v:Value)(F:Nat->Prop):Prop:=∀c,v.ownBlock=some c->¬F c
theorem Own.keepGr(h:Own w v l)(hg:Gr F w w')(hn:ql5 v F):Own w' v l:=by
 obtain⟨h1,h2⟩:=h
 refine⟨h1,?_⟩
 rcases h2 with h2|⟨g,cap,cur,e,h3,h4,h5⟩
 ·exact .inl h2
 ·exact .inr ⟨g,cap,cur,e,h3,(hg.block g (Array.getElem?_eq_some_iff.1 h4).1 (hn g (by rw[e];rfl))).trans h4,h5⟩
theorem Own.lt'(h:Own w v l)(hc:v.ownBlock=some c):c<w.heap.size:=(World.ownsRow.lt h c hc).2
theorem Own.alloc'(h:Own w v l)(o:Obj):Own (w.alloc o) v l:=World.ownsRow.alloc h o
theorem q81(now:Int)(z:Int->Int)(l:List Int)(s:(Nat->List Int)×List Int)(m:Nat):((l.foldl (sprS now z) s).1 m).length<=(s.1 m).length+l.length/\(l.foldl (sprS now z) s).2.length<=s.2.length+l.length:=by
 rw[qsq];(have h1:=List.length_filter_le (fun i=>decide (¬z i<=now)&&decide (pk now.toNat (z i).toNat=m)) l);(have h2:=List.length_filter_le (fun i=>decide (z i<=now)) l)
 simp only[List.length_append]
 omega
theorem qta{α β:Type}(f:β->α->β)(s:β)(l:List α)(j:Nat)(hj:j<l.length):(l.take (j+1)).foldl f s=f ((l.take j).foldl f s) l[j]:=by
 rw[List.take_succ_eq_append_getElem hj,List.foldl_append];rfl
def Says(D:DataW Unit)(z:Int->Int):Prop:=∀i,(Lit.int .i64 i).wf=true->atW' D i (z i)/\0<=z i/\z i<=1099511627776
structure Mid(w:World)(b:Nat)(t:TypeId)(cs:Array Value)(o:Nat)(now:Int)(mb:Option Nat)(D:DataW Unit)(vs:Nat->Value)(L:Nat->List Int)(ov:Value)(off:List Int):Prop where
 wm:WM w b t cs o now mb D vs L
 own:Own w ov off
 out:ql5 ov (Fp b mb vs)
theorem Mid.fp_lt{mb:Option Nat}(h:WM w b t cs o now mb D vs L)(hc:Fp b mb vs c):c<w.heap.size:=by
 rcases hc with rfl|hc|⟨k,hk,hc⟩
 ·exact h.lt
 ·rcases h.map with⟨h1,_⟩|⟨bm,n,h1,_,hm⟩
  ·rw[h1] at hc;cases hc
  ·rw[h1] at hc;cases hc;exact hm.lt
 ·exact(h.own k hk).lt' hc
def SpR(w W:World)(b:Nat)(t:TypeId)(cs:Array Value)(o:Nat)(now:Int)(mb:Option Nat)(D:DataW Unit)(vs:Nat->Value)(ov lv:Value)(ls:List Int)(s:(Nat->List Int)×List Int)(tv:Value)(cs':Array Value)(vs':Nat->Value):Prop:=
 Mid W b t cs' o now mb D vs' s.1 tv s.2/\Own W lv ls/\ql5 lv (Fp b mb vs')/\(∀c,tv.ownBlock=some c->lv.ownBlock≠some c)/\qb7 o cs cs'/\Gr (fun c=>Fp b mb vs c\/ov.ownBlock=some c) w W/\(∀c,Fp b mb vs' c->Fp b mb vs c\/w.heap.size<=c)/\(∀c,tv.ownBlock=some c->ov.ownBlock=some c\/w.heap.size<=c)
section
variable {w W:World} {b:Nat} {t:TypeId} {cs:Array Value} {o:Nat} {now:Int} {mb:Option Nat} {D:DataW Unit} {vs:Nat->Value} {ov lv:Value} {ls:List Int} {s:(Nat->List Int)×List Int} {tv:Value} {cs':Array Value} {vs':Nat->Value}
theorem SpR.due(h:SpR w W b t cs o now mb D vs ov lv ls s tv cs' vs'){w1:World}(h1:Below W.heap.size W w1){v2:Value}{l2:List Int}(hg:w1.grownBy w2 tv.ownBlock)(ho:Own w2 v2 l2)(hl:v2.ownBlock=tv.ownBlock\/v2.ownBlock=some w1.heap.size):SpR w w2 b t cs o now mb D vs ov lv ls (s.1,l2) v2 cs' vs':=by
 obtain⟨hm,hls,hln,htl,hso,hgr,hfp,htv⟩:=h;have g1:Gr (fun c=>tv.ownBlock=some c) W w2:=(Gr.of_below h1).trans (Gr.of_grown (F:=fun c=>tv.ownBlock=some c) hg (fun c hc=>hc)) (fun x hx=>.inl hx);have hsz:=h1.size
 refine⟨⟨hm.wm.keep g1 (fun c hc hd=>hm.out c hd hc),ho,fun c hc hf=>?_⟩,hls.keepGr g1 (fun c hc hd=>htl c hd hc),hln,fun c hc hd=>?_,hso,hgr.trans g1 (fun x hx=>?_),hfp,fun c hc=>?_⟩
 ·rcases hl with hl|hl
  ·exact hm.out c (hl▸hc) hf
  ·rw[hl] at hc;cases hc;have:=Mid.fp_lt hm.wm hf;omega
 ·rcases hl with hl|hl
  ·exact htl c (hl▸hc) hd
  ·rw[hl] at hc;cases hc;have:=hls.lt' hd;omega
 ·rcases htv x hx with h2|h2
  ·exact .inl (.inr h2)
  ·exact .inr h2
 ·rcases hl with hl|hl
  ·exact htv c (hl▸hc)
  ·rw[hl] at hc;cases hc;have:=hgr.size;exact .inr om
theorem SpR.put(h:SpR w W b t cs o now mb D vs ov lv ls s tv cs' vs'){cs2:Array Value}{vs2:Nat->Value}{L2:Nat->List Int}(hw:WM w2 b t cs2 o now mb D vs2 L2)(hso2:qb7 o cs' cs2)(hg:Gr (Fp b mb vs') W w2)(hf2:∀c,Fp b mb vs2 c->Fp b mb vs' c\/W.heap.size<=c):SpR w w2 b t cs o now mb D vs ov lv ls (L2,s.2) tv cs2 vs2:=by
 obtain⟨hm,hls,hln,htl,hso,hgr,hfp,htv⟩:=h;have hsz:=hgr.size
 refine⟨⟨hw,hm.own.keepGr hg hm.out,fun c hc hf=>?_⟩,hls.keepGr hg hln,fun c hc hf=>?_,htl,hso.trans hso2,hgr.trans hg (fun x hx=>?_),fun c hc=>?_,htv⟩
 ·rcases hf2 c hf with h2|h2
  ·exact hm.out c hc h2
  ·have:=hm.own.lt' hc;omega
 ·rcases hf2 c hf with h2|h2
  ·exact hln c hc h2
  ·have:=hls.lt' hc;omega
 ·rcases hfp x hx with h2|h2
  ·exact .inl (.inl h2)
  ·exact .inr h2
 ·rcases hf2 c hc with h2|h2
  ·exact hfp c h2
  ·exact .inr om
end
theorem qzn{now:Nat}{mb:Option Nat}{ov:Value}{off:List Int}(h:Mid w b t cs o (now:Int) mb D vs L ov off)(z:Int->Int)(hz:Says D z)(hwf:∀k i,i∈L k->(Lit.int .i64 i).wf=true)(hn:now<=1099511627776)(l a:Nat)(hl:l<7)(ha:a<64)(hM:∀m,(L m).length+(L (64*l+a)).length<=1000000000)(hO:off.length+(L (64*l+a)).length<=1000000000)(hmb:mb=none->∀k,L k=[]):
  Calls prog 173 #[.pointer (some ⟨b,o,none⟩),.int .i64 (l:Int),.int .i64 (a:Int),ov] w fun e w'=>∃cs' vs' ov',e=.returned ov'/\Mid w' b t cs' o (now:Int) mb D vs' (sprF (now:Int) z (L,off) (64*l+a)).1 ov' (sprF (now:Int) z (L,off) (64*l+a)).2/\qb7 o cs cs'/\Gr (fun c=>Fp b mb vs c\/ov.ownBlock=some c) w w'/\(∀c,Fp b mb vs' c->Fp b mb vs c\/w.heap.size<=c)/\(∀c,ov'.ownBlock=some c->ov.ownBlock=some c\/w.heap.size<=c):=by
 have hwm:=h.wm;(have hk:64*l+a<448:=by omega);(have hI7:=fun w=>idx7 b (o+2) l om w);(have hI64:=fun w=>qy0 b (o+2+64*l) a om w);(have ho:o+2+64*l+a=o+2+(64*l+a):=by omega);(have cl:w.cell? ⟨b,o+2+64*l+a,none⟩=some (vs (64*l+a)):=by rw[ho];exact(hwm.cell _).trans (hwm.cl _ hk));have fl:w.frozen? ⟨b,o+2+64*l+a,none⟩=false:=hwm.free _;(have hq:=hwm.turnL hk (w2:=w) (l':=[]) ⟨rfl,rfl,rfl,Nat.le_refl _,fun _ _ _=>rfl⟩ (World.ownsRow_nil w 0 3 1:Own w (.slice none 0 0) []) (fun _=>rfl) (.inl rfl) ho);(have hlo:Own (w.setCell ⟨b,o+2+64*l+a,none⟩ (.slice none 0 0)) (vs (64*l+a)) (L (64*l+a)):=(hwm.own _ hk).keepGr (F:=fun c=>c=b) (Gr.setCell w b _ _ rfl) (fun c hc e=>hwm.notb _ hk (by rw[hc,e])));(have hov:Own (w.setCell ⟨b,o+2+64*l+a,none⟩ (.slice none 0 0)) ov off:=h.own.keepGr (F:=fun c=>c=b) (Gr.setCell w b _ _ rfl) (fun c hc e=>h.out c hc (.inl e)))
 have hln:ql5 (vs (64*l+a)) (Fp b mb (updV vs (64*l+a) (.slice none 0 0))):=by
  intro c hc hf
  rcases hf with rfl|hf|⟨j,hj,hf⟩
  ·exact hwm.notb _ hk hc
  ·rcases hwm.map with⟨h1,_⟩|⟨bm,n,h1,_,hm⟩
   ·rw[h1] at hf;cases hf
   ·rw[h1] at hf;cases hf;exact(hwm.own _ hk).ne_map hm hc
  ·by_cases e:j=64*l+a
   ·rw[e] at hf;simp[updV,Value.ownBlock] at hf
   ·simp only[updV,if_neg e] at hf
    exact e (hwm.apart j _ c hj hk hf hc)
 (have hon:ql5 ov (Fp b mb (updV vs (64*l+a) (.slice none 0 0))):=fun c hc hf=>(hq.2.2.2 c hf).elim (h.out c hc) (fun h2=>by have:=h.own.lt' hc;omega));(have hlv:∀c,(vs (64*l+a)).ownBlock=some c->ov.ownBlock≠some c:=fun c hc hd=>h.out c hd (.inr (.inr ⟨_,hk,hc⟩)));(have hfpl:∀c,(vs (64*l+a)).ownBlock=some c->c<w.heap.size:=fun c hc=>(hwm.own _ hk).lt' hc);have hGr0:Gr (fun c=>Fp b mb vs c\/ov.ownBlock=some c) w (w.setCell ⟨b,o+2+64*l+a,none⟩ (.slice none 0 0)):=hq.2.2.1.mono (fun x hx=>.inl hx);(have hws:(w.setCell ⟨b,o+2+64*l+a,none⟩ (.slice none 0 0)).heap.size=w.heap.size:=by simp[World.setCell]);have HQ:Hid (WM (w.setCell ⟨b,o+2+64*l+a,none⟩ (.slice none 0 0)) b t (cs.setIfInBounds (o+2+64*l+a) (.slice none 0 0)) o (now:Int) mb D (updV vs (64*l+a) (.slice none 0 0)) (setL L (64*l+a) [])):=hq.1;have hso:=hq.2.1;have hfp:=hq.2.2.2
 obtain⟨al,cap,hvl⟩:=(show ∃a' c',vs (64*l+a)=.slice a' (L (64*l+a)).length c' by
  rcases(hwm.own _ hk).2 with⟨e,n0⟩|⟨g,cap,cur,e,_⟩
  ·exact⟨none,0,by rw[e,n0]⟩
  ·exact⟨_,_,e⟩)
 (have hmb':L (64*l+a)≠[]->∃bm,mb=some bm:=fun hne=>by rcases mb with _|bm;exact absurd (hmb rfl _) hne;exact⟨bm,rfl⟩);have hsp:sprF (now:Int) z (L,off) (64*l+a)=(L (64*l+a)).foldl (sprS (now:Int) z) (setL L (64*l+a) [],off):=rfl;rw[hsp];(have hwl:∀i∈L (64*l+a),(Lit.int .i64 i).wf=true:=fun i hi=>hwf _ i hi)
 have hML:∀m,((setL L (64*l+a) []) m).length+(L (64*l+a)).length<=1000000000:=by
  intro m
  by_cases e:m=64*l+a
  ·simp only[setL,if_pos e];have:=hM m;simp;omega
  ·simp only[setL,if_neg e];exact hM m
 generalize setL L (64 * l+a) []=L0 at *
 generalize updV vs (64 * l+a) (.slice none 0 0)=vs0 at *
 generalize cs.setIfInBounds (o+2+64 * l+a) (.slice none 0 0)=cs0 at *
 rw[hvl] at cl hlo hln hlv hfpl
 generalize L (64 * l+a)=ls at *
 obtain⟨N,hN⟩:∃N,N=ls.length:=⟨_,rfl⟩
 rw[←hN] at cl hlo hln hlv hfpl hML
 have HN:Hid (N=ls.length):=hN;have HSO:Hid (qb7 o cs cs0):=hso;(have hNb:N<=1000000000:=by rw[hN];omega);(have HO':Hid (off.length+N<=1000000000):=by rw[hN];exact hO)
 have hlo':Hid (Own (w.setCell ⟨b,o+2+64*l+a,none⟩ (.slice none 0 0)) (.slice al N cap) ls):=by
  (have e:Value.slice al N cap=.slice al ls.length cap:=by rw[hN])
  rw[e];rw[hN] at hlo;exact hlo
 clear hq hsp hN hso h hwm hvl hlo ho hM hO hmb
 go_enter func173,ntmps173
 go_wp2
 go_loopw [3,29] (fun tv i W=>∃j:Nat,j<=N/\i=.int .i64 (j:Int)/\∃cs' vs',SpR w W b t cs o (now:Int) mb D vs ov (.slice al N cap) ls ((ls.take j).foldl (sprS (now:Int) z) (L0,off)) tv cs' vs') (fun _ i _=>N-(intOf i).toNat)
 case atStart=>exact⟨0,Nat.zero_le _,rfl,cs0,vs0,⟨HQ.out,hov,hon⟩,hlo'.out,hln,fun c hc hd=>hlv c hd hc,HSO.out,hGr0,hfp,fun c hc=>.inl hc⟩
 case round=>
  clear hov hlo' HQ hln hon hlv cl fl hGr0 hws HSO hfp
  obtain⟨j,hjN,rfl,cs',vs',hR⟩:=hrel
  obtain⟨hmid,hls,hlsn,htl,hso,hgr,hfpx,htv⟩:=id hR
  by_cases hlt:j<N
  ·(have hjl:j<ls.length:=by have:=HN.out;omega);(have hji:(j:Int)<(N:Int):=by omega);(have hjw:wrap64 ((j:Int)+1)=(j:Int)+1:=by unfold wrap64;omega)
   obtain⟨g,cap',cur,hsh,hg,_,_,_,ht⟩:=hls.shape om
   obtain⟨rfl,hNe,rfl⟩:al=some ⟨g,0,none⟩/\N=ls.length/\cap=cap':=by simpa using hsh
   (have hix:=fun w=>ixI g N cap j hlt w);have hcx:=(qia hg j).trans (qis ht j hjl);have hwx:=hwl ls[j] (List.getElem_mem hjl);obtain⟨hat,hz0,hz1⟩:=hz ls[j] hwx;have hst:=qta (sprS (now:Int) z) (L0,off) ls j hjl;(have hsl:=fun m=>q81 (now:Int) z (ls.take j) (L0,off) m);(have htk:(ls.take j).length=j:=by simp;omega)
   simp only[htk] at hsl
   (have hmeas:Hid (N-((j:Int)+1).toNat<N-((j:Int)).toNat):=(by omega:N-((j:Int)+1).toNat<N-((j:Int)).toNat));have HNE:Hid (N=ls.length):=hNe;clear hsh hNe ht
   generalize ls[j]=x at *
   have HST:Hid (List.foldl (sprS (now:Int) z) (L0,off) (List.take (j+1) ls)=sprS (now:Int) z (List.foldl (sprS (now:Int) z) (L0,off) (List.take j ls)) x):=hst;clear hst
   generalize List.foldl (sprS (now:Int) z) (L0,off) (List.take j ls)=sj at *
   obtain⟨bm,rfl⟩:=hmb' (fun e=>by rw[e] at hjl;simp at hjl)
   obtain⟨n,hn',hm⟩:=hmid.wm.theMap;have hkey:=keyOf_int_mk (P:=prog) (q:=.i64) (a:=x) underlying3 hwx;have c0:=(hmid.wm.cell o).trans hmid.wm.c0;have c1:=(hmid.wm.cell (o+1)).trans hmid.wm.c1
   have hlook:∀W,MapI W bm n D->(Instr.lookup 87 (.map (some bm)) (.int .i64 x) false).run prog W=.ok (.int .i64 (z x)) W:=by
    intro W hW
    obtain⟨c,h1,h2,_⟩:=hW.lookup_int lawI underlying87 underlying3 (qjv _) hkey
    rw[h1,qm8 hat h2]
   (have hOl:sj.2.length<=1000000000:=by have q1:=(hsl 0).2;have q2:=HO'.out;omega);(have hLl:∀m,(sj.1 m).length<=1000000000:=by intro m;have q1:=(hsl m).1;have q2:=hML m;omega);have HL:Hid (∀m,(sj.1 m).length<=1000000000):=hLl;clear hsl hLl hML hwl htk
   by_cases hdue:z x<=(now:Int)
   ·(have hs':sprS (now:Int) z sj x=(sj.1,sj.2++[x]):=by unfold sprS;rw[if_pos hdue]);have HS:Hid (sprS (now:Int) z sj x=(sj.1,sj.2++[x])):=hs';clear hs'
    go_upto_region 6 with fail
    refine RD (fun W=>W.cell? ⟨b,o,none⟩=some (.int .i64 (now:Int))/\W.cell? ⟨b,o+1,none⟩=some (.map (some bm))/\MapI W bm n D) ⟨c0,c1,hm⟩ (fun _=>?_)
    refine m18 ?_;refine tk 9 (.int .i64 (now:Int)) rfl (Or.inl ⟨by kernel_rfl,by intro w hS;have hc:=hS.1;go_simp⟩) ⟨c0,c1,hm⟩ (tq 10 (.bool true) rfl ⟨c0,c1,hm⟩ ?_);refine m1f ?_
    go_wp2_with (first|(at_builtin;refine qz6 (v:=u3) rfl (.tmp 44) (.tmp 46) rfl rfl (hmid.own.alloc' _) _ x rfl (World.cell?_alloc_mark _ #[.int .i64 x] 3 (0,0) 0) hOl ?_;intro a2 k2 w2 ho2 hg2 hl2))
    go_roundw
    case rel=>
     refine⟨j+1,by omega,by go_num,cs',vs',?_⟩
     rw[HST.out,HS.out]
     exact SpR.due hR ((Below.refl _ _).alloc (Nat.le_refl _) _) (qf7 hg2) ho2 hl2
    case measure=>first|exact hmeas.out|(rw[hjw];exact hmeas.out)
   ·(have hs':sprS (now:Int) z sj x=(putF (now:Int) z sj.1 x,sj.2):=by unfold sprS;rw[if_neg hdue]);have HS:Hid (sprS (now:Int) z sj x=(putF (now:Int) z sj.1 x,sj.2)):=hs';clear hs'
    obtain⟨d,hd⟩:∃d:Nat,z x=(d:Int):=⟨(z x).toNat,by omega⟩
    have CP:=ql3 hmid.wm.drew x d hwx (by rw[←hd];exact hat) hn om (HL.out _);(have hpf:Hid (putF (now:Int) z sj.1 x=setL sj.1 (pk now d) (sj.1 (pk now d)++[x])):=by show putF (now:Int) z sj.1 x=_;unfold putF;rw[hd];rfl);clear hd
    go_upto_region 6 with fail
    refine RD (fun W=>W.cell? ⟨b,o,none⟩=some (.int .i64 (now:Int))/\W.cell? ⟨b,o+1,none⟩=some (.map (some bm))/\MapI W bm n D) ⟨c0,c1,hm⟩ (fun _=>?_)
    refine m18 ?_;refine tk 9 (.int .i64 (now:Int)) rfl (Or.inl ⟨by kernel_rfl,by intro w hS;have hc:=hS.1;go_simp⟩) ⟨c0,c1,hm⟩ (tq 10 (.bool false) rfl ⟨c0,c1,hm⟩ ?_);refine m1f ?_
    go_wp2_with (first|(go_at_call 185;refine CP.mono ?_;rintro e w2 ⟨rfl,cs2,vs2,hw2,hso2,hgr2,hfp2⟩))
    go_roundw
    case rel=>
     refine⟨j+1,by omega,by go_num,cs2,vs2,?_⟩
     rw[HST.out,HS.out,hpf.out]
     exact SpR.put hR hw2 hso2 hgr2.undrew hfp2
    case measure=>first|exact hmeas.out|(rw[hjw];exact hmeas.out)
  ·(have hji:¬(j:Int)<(N:Int):=by omega)
   go_wp2
   go_ret
   have e:List.take j ls=ls:=List.take_of_length_le (by have:=HN.out;omega)
   rw[e] at hmid
   exact⟨cs',vs',_,rfl,hmid,hso,hgr,hfpx,htv⟩
end
end Go.Proofs.YtonnjgmognbnbaaGreatDoor
