/-
  Of what a law stands on.
-/
import Derived.Lib.ItoaNum
import Derived.WalkKit
import Derived.ProofKit
import Derived.Below
import Derived.Maps.OwnSet
import Derived.Maps.OwnOps
import Derived.Maps.AppendAt
import Derived.Deep.RegionHeld3
import Derived.Deep.RegionLaw
import Derived.Lib.SlicesDelete
import Derived.Lib.SliceRun
import Derived.Test.YtnicenfgemkdnaaGreatDoorZxWhL
import Derived.Test.YtnicenfgemkdnaaGreatDoorZx0
set_option linter.unusedSimpArgs false
set_option linter.unusedVariables false
namespace Go.Proofs.YtnicenfgemkdnaaGreatDoor
open _root_.Go.Proofs.Tryz
set_option maxHeartbeats 16000000
set_option maxRecDepth 100000
def lv(a b:Nat):Nat:=(Lib.bitLen (a ^^^ b)-1)/6
def dg(t l:Nat):Nat:=t/64^l%64
def pk(now d:Nat):Nat:=64*lv d now+dg d (lv d now)
theorem qgt(t l:Nat):dg t l<64:=Nat.mod_lt _ (by decide)
theorem q7h(l:Nat):64^l=2^(6*l):=by rw[show(64:Nat)=2^6 from rfl,←Nat.pow_mul]
theorem q2c(a b:Nat):a ^^^ b=0↔a=b:=by
 refine⟨fun h=>?_,fun h=>by rw[h,Nat.xor_self]⟩
 have e:(a ^^^ b) ^^^ b=b:=by rw[h,Nat.zero_xor]
 rwa [Nat.xor_assoc,Nat.xor_self,Nat.xor_zero] at e
theorem qx9(a b n:Nat):(a ^^^ b)/2^n=0↔a/2^n=b/2^n:=by
 rw[←Nat.shiftRight_eq_div_pow,←Nat.shiftRight_eq_div_pow,←Nat.shiftRight_eq_div_pow,Nat.shiftRight_xor_distrib]
 exact q2c _ _
theorem q8f:Lib.bitLen 0=0:=by decide
theorem qto(x:Nat)(h:x<2^64)(h0:x≠0):1<=Lib.bitLen x/\2^(Lib.bitLen x-1)<=x/\x<2^Lib.bitLen x:=Lib.bitLenAux_bounds 64 x h h0
theorem qh3(a b:Nat)(ha:a<2^64)(hb:b<2^64):a/64^(lv a b+1)=b/64^(lv a b+1):=by
 rw[q7h,←qx9]
 by_cases h0:a ^^^ b=0
 ·rw[h0];simp
 ·have hx:a ^^^ b<2^64:=Nat.xor_lt_two_pow ha hb
  obtain⟨h1,h2,h3⟩:=qto _ hx h0
  apply Nat.div_eq_of_lt
  refine Nat.lt_of_lt_of_le h3 (Nat.pow_le_pow_right (by decide) ?_)
  unfold lv;omega
theorem qrt(a b:Nat)(ha:a<2^64)(hb:b<2^64)(h:lv a b≠0):a/64^lv a b≠b/64^lv a b:=by
 rw[q7h]
 intro he
 rw[←qx9] at he
 have h0:a ^^^ b≠0:=by
  intro e;unfold lv at h;rw[e,q8f] at h;exact h rfl
 have hx:a ^^^ b<2^64:=Nat.xor_lt_two_pow ha hb
 obtain⟨h1,h2,h3⟩:=qto _ hx h0
 have h4:2^(6*lv a b)<=a ^^^ b:=Nat.le_trans (Nat.pow_le_pow_right (by decide) (by unfold lv;omega)) h2
 have:=Nat.div_pos h4 (Nat.pow_pos (by decide))
 omega
theorem qmt(a b l m:Nat)(h:a/64^l=b/64^l)(hm:l<=m):a/64^m=b/64^m:=by
 obtain⟨k,rfl⟩:=Nat.exists_eq_add_of_le hm
 rw[Nat.pow_add,←Nat.div_div_eq_div_mul,←Nat.div_div_eq_div_mul,h]
theorem q7b(a b l:Nat)(ha:a<2^64)(hb:b<2^64)(h1:a/64^(l+1)=b/64^(l+1))(h2:l=0\/a/64^l≠b/64^l):lv a b=l:=by
 have k1:=qh3 a b ha hb
 have k2:=qrt a b ha hb
 rcases Nat.lt_trichotomy (lv a b) l with h|h|h
 ·rcases h2 with h2|h2
  ·omega
  ·exact absurd (qmt a b _ _ k1 om) h2
 ·exact h
 ·exact absurd (qmt a b _ _ h1 om) (k2 om)
theorem qpa(a b:Nat)(ha:a<=1099511627776)(hb:b<=1099511627776):lv a b<=6:=by
 have hx:a ^^^ b<2^41:=Nat.xor_lt_two_pow om om
 have:=Lib.bitLen_le (a ^^^ b) 41 (by decide) hx
 unfold lv;omega
theorem qug(a b:Nat)(ha:a<=1099511627776)(hb:b<=1099511627776):pk a b<448:=by
 have:=qpa b a hb ha
 have:=qgt b (lv b a)
 unfold pk;omega
theorem qj3(t l:Nat):t/64^l=64*(t/64^(l+1))+dg t l:=by
 unfold dg
 rw[Nat.pow_succ,←Nat.div_div_eq_div_mul]
 omega
theorem qre(a b l:Nat)(h:a/64^l<b/64^l):a<b:=by
 apply Nat.lt_of_not_le
 intro hc
 have:=Nat.div_le_div_right (c:=64^l) hc
 omega
theorem qnt(a d:Nat)(ha:a<2^64)(hd:d<2^64)(h:a<=d):dg a (lv d a)<=dg d (lv d a)/\(dg a (lv d a)=dg d (lv d a)->lv d a=0/\a=d):=by
 have k1:=qh3 d a hd ha
 have k2:=qrt d a hd ha
 have e1:=qj3 a (lv d a)
 have e2:=qj3 d (lv d a)
 have e3:=Nat.div_le_div_right (c:=64^lv d a) h
 refine⟨by omega,fun e=>?_⟩
 have hz:lv d a=0:=by
  by_cases hz:lv d a=0
  ·exact hz
  ·exact absurd om (k2 hz)
 refine⟨hz,?_⟩
 rw[hz] at e1 e2 e k1
 simp at e1 e2 k1
 omega
theorem qtt(a t d:Nat)(ha:a<2^64)(ht:t<2^64)(hd:d<2^64)(hat:a<=t)(h:lv d a<lv t a):d<t:=by
 have k1:=qh3 d a hd ha
 have k2:=qrt t a ht ha om
 have k3:=qmt d a _ _ k1 h
 have e3:=Nat.div_le_div_right (c:=64^lv t a) hat
 exact qre d t (lv t a) om
theorem sZxw12{p:Prop}(h:p:=by
 have k1:=qh3 d a hd ha
 have k2:=qh3 t a ht ha
 have e1:=qj3 d (lv t a)
 have e2:=qj3 t (lv t a)
 rw[h] at k1
 first
  | exact qre d t (lv t a) om
  | exact⟨qre t d (lv t a) om,q7b d t _ hd ht om (.inr om)⟩):p:=h
theorem qss(a t d:Nat)(ha:a<2^64)(ht:t<2^64)(hd:d<2^64)(h:lv d a=lv t a)(hl:dg d (lv t a)<dg t (lv t a)):d<t:=by
 exact sZxw12
theorem q1e(a t d:Nat)(ha:a<2^64)(ht:t<2^64)(hd:d<2^64)(h:lv d a=lv t a)(hl:dg d (lv t a)=dg t (lv t a))(hgt:t<d):lv d t<lv t a:=by
 have k1:=qh3 d a hd ha
 have k2:=qh3 t a ht ha
 have e1:=qj3 d (lv t a)
 have e2:=qj3 t (lv t a)
 rw[h] at k1
 have e3:d/64^lv t a=t/64^lv t a:=by omega
 apply Nat.lt_of_not_le
 intro hc
 by_cases hz:lv d t=0
 ·have:lv t a=0:=by omega
  rw[this] at e3
  simp at e3
  omega
 ·exact qrt d t hd ht hz (qmt d t _ _ e3 hc)
theorem q4f(a t d:Nat)(ha:a<2^64)(ht:t<2^64)(hd:d<2^64)(h:lv d a=lv t a)(hl:dg t (lv t a)<dg d (lv t a)):t<d/\lv d t=lv t a:=by
 exact sZxw12
theorem q2u(a t d:Nat)(ha:a<2^64)(ht:t<2^64)(hd:d<2^64)(had:a<=d)(h:lv t a<lv d a):t<d/\lv d t=lv d a:=by
 have k1:=qh3 d a hd ha
 have k2:=qrt d a hd ha om
 have k3:=qmt t a _ _ (qh3 t a ht ha) h
 have k4:=qmt t a _ _ (qh3 t a ht ha) (show lv t a+1<=lv d a+1 by omega)
 have e3:=Nat.div_le_div_right (c:=64^lv d a) had
 exact⟨qre t d (lv d a) om,q7b d t _ hd ht om (.inr om)⟩
theorem qm4{l a m b:Nat}(ha:a<64)(hb:b<64):64*l+a=64*m+b↔l=m/\a=b:=by omega
end Go.Proofs.YtnicenfgemkdnaaGreatDoor
namespace Go.Proofs.YtnicenfgemkdnaaGreatDoor
open _root_.Go.Proofs.Tryz
set_option maxHeartbeats 16000000
set_option maxRecDepth 100000
open Go.ChangeShapes Go.WideShapes Go.ChangeAt Go.RowKit
theorem q8w(a b:Nat)(ha:a<2^62)(hb:b<2^62):bits .xor .i64 (a:Int) (b:Int)=((a ^^^ b:Nat):Int):=by
 have e1:(BitVec.ofInt 64 (a:Int)).toNat=a:=by rw[BitVec.toNat_ofInt];omega
 have e2:(BitVec.ofInt 64 (b:Int)).toNat=b:=by rw[BitVec.toNat_ofInt];omega
 have e3:(BitVec.ofInt 64 (a:Int) ^^^ BitVec.ofInt 64 (b:Int)).toNat=a ^^^ b:=by rw[BitVec.toNat_xor,e1,e2]
 have hx:a ^^^ b<2^62:=Nat.xor_lt_two_pow ha hb
 unfold bits
 show IntKind.i64.wrap ((BitVec.ofInt 64 (a:Int) ^^^ BitVec.ofInt 64 (b:Int)).toNat:Int)=_
 rw[e3]
 simp[IntKind.wrap,IntKind.bits,IntKind.signed]
 omega
theorem q9a(x:Int)(w:World)(h0:0<=x)(h1:x<=18446744073709551615):Calls prog 176 #[.int .u64 x] w fun e w'=>e=.returned (.int .i64 (Lib.bitLen x.toNat:Int))/\w'=w:=by
 have C:=fun w=>q3v x w h0 h1
 go_enter func176,ntmps176
 go_wp2_with (go_at_call 199;refine(C _).mono ?_;rintro e w' ⟨rfl,rfl⟩)
 go_ret
 exact⟨rfl,rfl⟩
theorem qsu(t l:Nat)(ht:t<=1099511627776)(hl:l<=6)(w:World):Calls prog 173 #[.int .i64 (t:Int),.int .i64 (l:Int)] w fun e w'=>e=.returned (.int .i64 (dg t l:Int))/\w'=w:=by
 have hc:l=0\/l=1\/l=2\/l=3\/l=4\/l=5\/l=6:=by omega
 rcases hc with rfl|rfl|rfl|rfl|rfl|rfl|rfl
 all_goals
  go_enter func173,ntmps173
  go_wp2
  go_ret
  refine⟨?_,rfl⟩
  unfold dg
  first
  | rfl
  | (congr 2;simp;done)
  | (congr 2;omega)
theorem sZxw11{p:Prop}(h:p:=by
 go_enter func172,ntmps172
 go_wp2_with (first|(go_at_call 176;refine(C _).mono ?_;rintro e w' ⟨rfl,rfl⟩)|(go_at_call 173;refine(D _).mono ?_;rintro e w' ⟨rfl,rfl⟩))
 go_ret2
 exact⟨rfl,rfl⟩):p:=h
theorem qoh(b o:Nat)(now d:Nat)(hn:now<=1099511627776)(hd:d<=1099511627776)(w:World)(c0:w.cell? ⟨b,o,none⟩=some (.int .i64 (now:Int))):
  Calls prog 172 #[.pointer (some ⟨b,o,none⟩),.int .i64 (d:Int)] w fun e w'=>e=.returned (.tuple #[.int .i64 (lv d now:Int),.int .i64 (dg d (lv d now):Int)])/\w'=w:=by
 have hx:=q8w d now om om
 have hxl:d ^^^ now<2^41:=Nat.xor_lt_two_pow om om
 have C:=fun w=>q9a ((d ^^^ now:Nat):Int) w om om
 rw[Int.toNat_natCast] at C
 have hbl:=Lib.bitLen_le (d ^^^ now) 41 (by decide) hxl
 have hlv:=qpa d now hd hn
 have D:=fun w=>qsu d (lv d now) hd hlv w
 have hlv2:Hid (lv d now=(Lib.bitLen (d ^^^ now)-1)/6):=rfl
 generalize lv d now=v at *
 generalize Lib.bitLen (d ^^^ now)=q at *
 generalize d ^^^ now=x at *
 by_cases h0:0<q
 ·have hv:((q:Int)-1)/6=(v:Int):=by have:=hlv2.out;omega
  have hw1:wrap64 ((q:Int)-1)=(q:Int)-1:=by unfold wrap64;omega
  have hlt:(0:Int)<(q:Int):=by omega
  have hq1:0<=(q:Int)-1:=by omega
  exact sZxw11
 ·obtain rfl:q=0:=by omega
  obtain rfl:v=0:=by have:=hlv2.out;omega
  exact sZxw11
end Go.Proofs.YtnicenfgemkdnaaGreatDoor
namespace Go.Proofs.YtnicenfgemkdnaaGreatDoor
open _root_.Go.Proofs.Tryz
set_option maxHeartbeats 16000000
set_option maxRecDepth 100000
def dz(du:Int->Option Int)(i:Int):Int:=(du i).getD 0
def setL(L:Nat->List Int)(k:Nat)(l:List Int):Nat->List Int:=fun j=>if j=k then l else L j
def putF(now:Int)(z:Int->Int)(L:Nat->List Int)(i:Int):Nat->List Int:=setL L (pk now.toNat (z i).toNat) (L (pk now.toNat (z i).toNat)++[i])
def sprS(now:Int)(z:Int->Int)(s:(Nat->List Int)×List Int)(i:Int):(Nat->List Int)×List Int:=if z i<=now then(s.1,s.2++[i]) else(putF now z s.1 i,s.2)
def sprF(now:Int)(z:Int->Int)(s:(Nat->List Int)×List Int)(k:Nat):(Nat->List Int)×List Int:=(s.1 k).foldl (sprS now z) (setL s.1 k [],s.2)
def rowP(l d n:Nat):List Nat:=(List.range n).map fun i=>64*l+(d+i)
def levF(a:Nat)(now:Int)(z:Int->Int)(s:(Nat->List Int)×List Int)(l:Nat):(Nat->List Int)×List Int:=(rowP l (dg a l) (64-dg a l)).foldl (sprF now z) s
def qex(a t:Int)(z:Int->Int)(L:Nat->List Int):(Nat->List Int)×List Int:=
 (rowP (lv t.toNat a.toNat) (dg a.toNat (lv t.toNat a.toNat)) (dg t.toNat (lv t.toNat a.toNat)+1-dg a.toNat (lv t.toNat a.toNat))).foldl (sprF t z) ((List.range (lv t.toNat a.toNat)).foldl (levF a.toNat t z) (L,[]))
structure qhg(now:Int)(du:Int->Option Int)(L:Nat->List Int):Prop where
 time:0<=now/\now<=1099511627776
 due:∀i d,du i=some d->now<=d/\d<=1099511627776
 nodup:∀k,(L k).Nodup
 mem:∀k i,i∈L k↔∃d,du i=some d/\pk now.toNat d.toNat=k
theorem qhg.z{now:Int}{du:Int->Option Int}{L:Nat->List Int}(h:qhg now du L)(i:Int):0<=dz du i/\dz du i<=1099511627776:=by
 unfold dz
 rcases hd:du i with _|d
 ·simp
 ·have:=h.due i d hd;have:=h.time;simp;omega
theorem qr5{du:Int->Option Int}{i d:Int}(h:du i=some d):dz du i=d:=by unfold dz;rw[h];rfl
theorem q88(now:Int)(z:Int->Int)(l:List Int)(s:(Nat->List Int)×List Int)(h:∀i∈l,z i<=now):l.foldl (sprS now z) s=(s.1,s.2++l):=by
 induction l generalizing s with
 | nil=>simp
 | cons i r ih=>
  rw[List.foldl_cons]
  have:sprS now z s i=(s.1,s.2++[i]):=by unfold sprS;rw[if_pos (h i zm)]
  rw[this,ih _ (fun j hj=>h j (by simp[hj]))]
  simp
theorem qsq(now:Int)(z:Int->Int)(l:List Int)(s:(Nat->List Int)×List Int):l.foldl (sprS now z) s=(fun j=>s.1 j++l.filter (fun i=>decide (¬z i<=now)&&decide (pk now.toNat (z i).toNat=j)),s.2++l.filter (fun i=>decide (z i<=now))):=by
 induction l generalizing s with
 | nil=>simp
 | cons i r ih=>
  rw[List.foldl_cons,ih]
  by_cases h:z i<=now
  ·have:sprS now z s i=(s.1,s.2++[i]):=by unfold sprS;rw[if_pos h]
   rw[this]
   have h':¬now<z i:=by omega
   simp[List.filter_cons,h,h']
  ·have:sprS now z s i=(putF now z s.1 i,s.2):=by unfold sprS;rw[if_neg h]
   rw[this]
   refine Prod.ext ?_ (by simp[List.filter_cons,h])
   funext j
   simp only[putF,setL]
   by_cases e:j=pk now.toNat (z i).toNat
   ·subst e;simp[List.filter_cons,h]
   ·have e':¬pk now.toNat (z i).toNat=j:=fun x=>e x.symm
    simp[List.filter_cons,h,e,e']
theorem q5q(now:Int)(z:Int->Int)(ks:List Nat)(L:Nat->List Int)(off:List Int)(hn:ks.Nodup)(h:∀k∈ks,∀i∈L k,z i<=now):ks.foldl (sprF now z) (L,off)=(fun j=>if j∈ks then [] else L j,off++ks.flatMap L):=by
 induction ks generalizing L off with
 | nil=>simp
 | cons k r ih=>
  rw[List.foldl_cons]
  have hk:=q88 now z (L k) (setL L k [],off) (h k zm)
  have e1:sprF now z (L,off) k=(setL L k [],off++L k):=hk
  have hn':=List.nodup_cons.1 hn
  rw[e1,ih _ _ hn'.2 (fun q hq i hi=>?_)]
  ·refine Prod.ext ?_ ?_
   ·funext j
    by_cases hj:j∈r
    ·simp[hj]
    ·by_cases e:j=k
     ·subst e;simp[hj,setL]
     ·simp[hj,e,setL]
   ·have:r.flatMap (setL L k [])=r.flatMap L:=by
     have hc:∀q∈r,setL L k [] q=L q:=by
      intro q hq
      have:q≠k:=fun e=>hn'.1 (e▸hq)
      simp[setL,this]
     rw[List.flatMap_def,List.flatMap_def,List.map_congr_left hc]
    simp[this]
  ·have:q≠k:=fun e=>hn'.1 (e▸hq)
   simp only[setL,if_neg this] at hi
   exact h q (by simp[hq]) i hi
theorem qfy{l d n k:Nat}:k∈rowP l d n↔∃a,k=64*l+a/\d<=a/\a<d+n:=by
 unfold rowP
 simp only[List.mem_map,List.mem_range]
 constructor
 ·rintro⟨i,hi,rfl⟩;exact⟨d+i,rfl,by omega,by omega⟩
 ·rintro⟨a,rfl,h1,h2⟩;exact⟨a-d,by omega,by omega⟩
theorem qrm(l d n:Nat):(rowP l d n).Nodup:=by
 unfold rowP
 rw[List.nodup_iff_pairwise_ne,List.pairwise_map]
 exact(List.nodup_range (n:=n)).imp (fun h e=>h om)
def qgu(a t:Nat):List Nat:=(List.range (lv t a)).flatMap (fun l=>rowP l (dg a l) (64-dg a l))++rowP (lv t a) (dg a (lv t a)) (dg t (lv t a)-dg a (lv t a))
theorem qtu(a:Nat)(now:Int)(z:Int->Int)(ls:List Nat)(s:(Nat->List Int)×List Int):ls.foldl (levF a now z) s=(ls.flatMap (fun l=>rowP l (dg a l) (64-dg a l))).foldl (sprF now z) s:=by
 induction ls generalizing s with
 | nil=>rfl
 | cons l r ih=>rw[List.foldl_cons,List.flatMap_cons,List.foldl_append,ih];rfl
theorem q29(l d n:Nat)(h:d<=n):rowP l d (n+1-d)=rowP l d (n-d)++[64*l+n]:=by
 unfold rowP
 rw[show n+1-d=(n-d)+1 by omega,List.range_succ,List.map_append]
 simp;omega
theorem q51(a t:Int)(z:Int->Int)(L:Nat->List Int)(h:dg a.toNat (lv t.toNat a.toNat)<=dg t.toNat (lv t.toNat a.toNat)):qex a t z L=sprF t z ((qgu a.toNat t.toNat).foldl (sprF t z) (L,[])) (64*lv t.toNat a.toNat+dg t.toNat (lv t.toNat a.toNat)):=by
 unfold qex qgu
 rw[q29 _ _ _ h,qtu,List.foldl_append,List.foldl_append]
 rfl
theorem qjm(a t k:Nat)(ht:dg t (lv t a)<64):k∈qgu a t↔∃l d,k=64*l+d/\d<64/\dg a l<=d/\(l<lv t a\/l=lv t a/\d<dg t (lv t a)):=by
 unfold qgu
 rw[List.mem_append,List.mem_flatMap]
 constructor
 ·rintro(⟨l,hl,hk⟩|hk)
  ·obtain⟨d,rfl,h1,h2⟩:=qfy.1 hk
   exact⟨l,d,rfl,by omega,h1,.inl (by simpa using hl)⟩
  ·obtain⟨d,rfl,h1,h2⟩:=qfy.1 hk
   exact⟨lv t a,d,rfl,by omega,h1,.inr ⟨rfl,by omega⟩⟩
 ·rintro⟨l,d,rfl,h1,h2,h3|⟨rfl,h3⟩⟩
  ·exact .inl ⟨l,by simpa using h3,qfy.2 ⟨d,rfl,h2,by omega⟩⟩
  ·exact .inr (qfy.2 ⟨d,rfl,h2,by omega⟩)
theorem qrf(a t:Nat)(ht:dg t (lv t a)<64):(qgu a t).Nodup:=by
 unfold qgu
 rw[List.nodup_append]
 refine⟨?_,qrm _ _ _,?_⟩
 ·rw[List.nodup_iff_pairwise_ne,List.pairwise_flatMap]
  refine⟨fun l _=>qrm _ _ _,?_⟩
  refine(List.nodup_range (n:=lv t a)).imp (fun {l m} h x hx y hy e=>?_)
  obtain⟨d,rfl,h1,h2⟩:=qfy.1 hx
  obtain⟨e',rfl,h3,h4⟩:=qfy.1 hy
  have:=qgt a l
  have:=qgt a m
  exact h om
 ·intro x hx y hy e
  obtain⟨l,hl,hk⟩:=List.mem_flatMap.1 hx
  obtain⟨d,rfl,h1,h2⟩:=qfy.1 hk
  obtain⟨e',rfl,h3,h4⟩:=qfy.1 hy
  have:=qgt a l
  have:l<lv t a:=by simpa using hl
  omega
def qiv(t:Int)(du:Int->Option Int):Int->Option Int:=fun i=>match du i with|some d=>if d<=t then none else some d|none=>none
theorem qku{t:Int}{du:Int->Option Int}{i d:Int}:qiv t du i=some d↔du i=some d/\t<d:=by
 unfold qiv
 rcases h:du i with _|e
 ·simp
 ·by_cases h2:e<=t
  ·simp[h2];intro h3;omega
  ·simp[h2];intro h3;omega
theorem sZxw13{p:Prop}(h:p:=by
 unfold pk at e1
 rw[qm4 hd e2] at e1
 omega):p:=h
theorem q4u{a t:Int}{du:Int->Option Int}{L:Nat->List Int}(h:qhg a du L)(hat:a<=t)(ht:t<=1099511627776):
  qhg t (qiv t du) (qex a t (dz du) L).1/\(qex a t (dz du) L).2.Nodup/\∀i,i∈(qex a t (dz du) L).2↔∃d,du i=some d/\d<=t:=by
 have ha0:=h.time
 obtain⟨A,hA⟩:∃A:Nat,a=A:=⟨a.toNat,by omega⟩
 obtain⟨T,hT⟩:∃T:Nat,t=T:=⟨t.toNat,by omega⟩
 subst hA;subst hT
 have hA1:A<2^64:=by omega
 have hT1:T<2^64:=by omega
 have hAT:A<=T:=by omega
 have hlast:dg A (lv T A)<=dg T (lv T A):=(qnt A T hA1 hT1 hAT).1
 have hltT:=qgt T (lv T A)
 rw[q51 _ _ _ _ (by simpa using hlast)]
 simp only[Int.toNat_natCast]
 -- where a timer is
 have hpos:∀k i,i∈L k->∃D:Nat,du i=some (D:Int)/\A<=D/\D<2^64/\pk A D=k/\dz du i=(D:Int):=by
  intro k i hi
  obtain⟨d,h1,h2⟩:=(h.mem k i).1 hi
  have h3:=h.due i d h1
  refine⟨d.toNat,?_,by omega,by omega,by simpa using h2,?_⟩
  ·rw[h1];congr 1;omega
  ·rw[qr5 h1];omega
 have hall:∀k∈qgu A T,∀i∈L k,dz du i<=(T:Int):=by
  intro k hk i hi
  obtain⟨D,h1,h2,h3,h4,h5⟩:=hpos k i hi
  obtain⟨l,d,e1,e2,e3,e4⟩:=(qjm A T k hltT).1 hk
  have hd:=qgt D (lv D A)
  unfold pk at h4
  rw[e1,qm4 hd e2] at h4
  obtain⟨f1,f2⟩:=h4
  rw[h5]
  rcases e4 with e4|⟨e4,e5⟩
  ·have:=qtt A T D hA1 hT1 h3 hAT om;omega
  ·have:=qss A T D hA1 hT1 h3 om (by rw[←e4,←f1];rw[f2,f1,e4];exact e5);omega
 rw[q5q _ _ _ _ _ (qrf A T hltT) hall]
 generalize hK:64*lv T A+dg T (lv T A)=K
 have hKn:K ∉ qgu A T:=by
  intro hc
  obtain⟨l,d,e1,e2,e3,e4⟩:=(qjm A T K hltT).1 hc
  rw[←hK,qm4 hltT e2] at e1
  omega
 unfold sprF
 rw[qsq]
 simp only[Int.toNat_natCast,if_neg hKn,List.nil_append]
 have hz:=fun i=>h.z i
 -- a timer's list,by its time
 have hin:∀i (D:Nat),du i=some (D:Int)->i∈L (pk A D):=fun i D hd=>(h.mem _ i).2 ⟨D,hd,by simp⟩
 have hD:∀i d,du i=some d->∃D:Nat,d=D/\A<=D/\D<2^64:=by
  intro i d hd
  have:=h.due i d hd
  exact⟨d.toNat,by omega,by omega,by omega⟩
 -- which lists a timer may lie in
 have hcase:∀D:Nat,A<=D->D<2^64->(pk A D∈qgu A T/\D<T)\/(pk A D=K/\(T<D->lv D T<lv T A))\/(pk A D ∉ qgu A T/\pk A D≠K/\T<D/\pk T D=pk A D):=by
  intro D hD1 hD2
  have hl:=(qnt A D hA1 hD2 hD1).1
  have hd:=qgt D (lv D A)
  rcases Nat.lt_trichotomy (lv D A) (lv T A) with hc|hc|hc
  ·exact .inl ⟨(qjm A T _ hltT).2 ⟨lv D A,dg D (lv D A),rfl,hd,hl,.inl hc⟩,qtt A T D hA1 hT1 hD2 hAT hc⟩
  ·rcases Nat.lt_trichotomy (dg D (lv D A)) (dg T (lv T A)) with hq|hq|hq
   ·exact .inl ⟨(qjm A T _ hltT).2 ⟨lv D A,dg D (lv D A),rfl,hd,hl,.inr ⟨hc,hq⟩⟩,qss A T D hA1 hT1 hD2 hc (by rw[←hc];rw[←hc] at hq;exact hq)⟩
   ·refine .inr (.inl ⟨by unfold pk;rw[hq,hc];exact hK,fun hg=>q1e A T D hA1 hT1 hD2 hc (by rw[←hc];rw[←hc] at hq;exact hq) hg⟩)
   ·have hg:=q4f A T D hA1 hT1 hD2 hc (by rw[hc] at hq;exact hq)
    refine .inr (.inr ⟨fun hm=>?_,fun e=>?_,hg.1,?_⟩)
    ·obtain⟨l,d,e1,e2,e3,e4⟩:=(qjm A T _ hltT).1 hm
     exact sZxw13
    ·unfold pk at e
     rw[←hK,qm4 hd hltT] at e
     omega
    ·unfold pk;rw[hg.2,hc]
  ·have hg:=q2u A T D hA1 hT1 hD2 hD1 hc
   refine .inr (.inr ⟨fun hm=>?_,fun e=>?_,hg.1,?_⟩)
   ·obtain⟨l,d,e1,e2,e3,e4⟩:=(qjm A T _ hltT).1 hm
    exact sZxw13
   ·unfold pk at e
    rw[←hK,qm4 hd hltT] at e
    omega
   ·unfold pk;rw[hg.2]
 refine⟨⟨by omega,?_,?_,?_⟩,?_,?_⟩
 ·intro i d hd
  obtain⟨h1,h2⟩:=qku.1 hd
  have:=h.due i d h1
  omega
 ·intro k
  by_cases e:k=K
  ·subst e
   simp only[setL,if_true,List.nil_append]
   exact(h.nodup _).filter _
  ·simp only[setL,if_neg e]
   by_cases hm:k∈qgu A T
   ·simp only[if_pos hm,List.nil_append]
    exact(h.nodup _).filter _
   ·simp only[if_neg hm]
    rw[List.nodup_append]
    refine⟨h.nodup _,(h.nodup _).filter _,fun x hx y hy e2=>?_⟩
    subst e2
    obtain⟨D,h1,h2,h3,h4,h5⟩:=hpos k x hx
    obtain⟨D',h1',h2',h3',h4',h5'⟩:=hpos K x (List.mem_filter.1 hy).1
    rw[h1] at h1'
    have:D=D':=by have:=Option.some.inj h1';omega
    subst this
    exact e (h4.symm.trans h4')
 ·intro k i
  have key:∀D:Nat,du i=some (D:Int)->A<=D->D<2^64->(i∈(setL (fun j=>if j∈qgu A T then [] else L j) K []) k++(L K).filter (fun i=>decide (¬dz du i<=(T:Int))&&decide (pk T (dz du i).toNat=k))↔T<D/\pk T D=k):=by
   intro D hd hD1 hD2
   have hzD:dz du i=(D:Int):=qr5 hd
   have hi:=hin i D hd
   have huniq:∀q,i∈L q->q=pk A D:=by
    intro q hq
    obtain⟨D',h1',_,_,h4',_⟩:=hpos q i hq
    rw[hd] at h1'
    have:D=D':=by have:=Option.some.inj h1';omega
    subst this;exact h4'.symm
   rw[List.mem_append,List.mem_filter]
   simp only[hzD,Int.toNat_natCast,Bool.and_eq_true,decide_eq_true_eq]
   constructor
   ·rintro(hm|⟨hm,h1,h2⟩)
    ·by_cases e:k=K
     ·subst e;simp[setL] at hm
     ·simp only[setL,if_neg e] at hm
      by_cases hmm:k∈qgu A T
      ·simp[hmm] at hm
      ·simp only[if_neg hmm] at hm
       have hq:=huniq k hm
       subst hq
       rcases hcase D hD1 hD2 with⟨c1,c2⟩|⟨c1,c2⟩|⟨c1,c2,c3,c4⟩
       ·exact absurd c1 hmm
       ·exact absurd c1 e
       ·exact⟨c3,c4⟩
    ·exact⟨by omega,h2⟩
   ·rintro⟨h1,h2⟩
    rcases hcase D hD1 hD2 with⟨c1,c2⟩|⟨c1,c2⟩|⟨c1,c2,c3,c4⟩
    ·omega
    ·exact .inr ⟨c1▸hi,by omega,h2⟩
    ·left
     rw[c4] at h2
     subst h2
     simp only[setL,if_neg c2,if_neg c1]
     exact hi
  constructor
  ·intro hm
   have:∃d,du i=some d:=by
    rcases List.mem_append.1 hm with hm|hm
    ·by_cases e:k=K
     ·subst e;simp[setL] at hm
     ·simp only[setL,if_neg e] at hm
      by_cases hmm:k∈qgu A T
      ·simp[hmm] at hm
      ·simp only[if_neg hmm] at hm
       obtain⟨d,h1,_⟩:=(h.mem k i).1 hm
       exact⟨d,h1⟩
    ·obtain⟨d,h1,_⟩:=(h.mem K i).1 (List.mem_filter.1 hm).1
     exact⟨d,h1⟩
   obtain⟨d,hd⟩:=this
   obtain⟨D,rfl,hD1,hD2⟩:=hD i d hd
   have:=(key D hd hD1 hD2).1 hm
   exact⟨D,qku.2 ⟨hd,by omega⟩,by simpa using this.2⟩
  ·rintro⟨d,hd,h2⟩
   obtain⟨h1,h3⟩:=qku.1 hd
   obtain⟨D,rfl,hD1,hD2⟩:=hD i d h1
   exact(key D h1 hD1 hD2).2 ⟨by omega,by simpa using h2⟩
 ·rw[List.nodup_append]
  refine⟨?_,(h.nodup _).filter _,?_⟩
  ·rw[List.nodup_iff_pairwise_ne,List.pairwise_flatMap]
   refine⟨fun k _=>h.nodup k,?_⟩
   refine(qrf A T hltT).imp (fun {k m} hne x hx y hy e=>?_)
   subst e
   obtain⟨D,h1,_,_,h4,_⟩:=hpos k x hx
   obtain⟨D',h1',_,_,h4',_⟩:=hpos m x hy
   rw[h1] at h1'
   have:D=D':=by have:=Option.some.inj h1';omega
   subst this
   exact hne (h4.symm.trans h4')
  ·intro x hx y hy e
   subst e
   obtain⟨k,hk,hx'⟩:=List.mem_flatMap.1 hx
   obtain⟨D,h1,_,_,h4,_⟩:=hpos k x hx'
   obtain⟨D',h1',_,_,h4',_⟩:=hpos K x (List.mem_filter.1 hy).1
   rw[h1] at h1'
   have:D=D':=by have:=Option.some.inj h1';omega
   subst this
   exact hKn (by rw[←h4',h4];exact hk)
 ·intro i
  rw[List.mem_append,List.mem_flatMap,List.mem_filter]
  constructor
  ·rintro(⟨k,hk,hi⟩|⟨hi,h2⟩)
   ·obtain⟨D,h1,_,_,_,h5⟩:=hpos k i hi
    exact⟨D,h1,by rw[←h5];exact hall k hk i hi⟩
   ·obtain⟨D,h1,_,_,_,h5⟩:=hpos K i hi
    exact⟨D,h1,by rw[←h5];simpa using h2⟩
  ·rintro⟨d,hd,hle⟩
   obtain⟨D,rfl,hD1,hD2⟩:=hD i d hd
   rcases hcase D hD1 hD2 with⟨c1,c2⟩|⟨c1,c2⟩|⟨c1,c2,c3,c4⟩
   ·exact .inl ⟨_,c1,hin i D hd⟩
   ·exact .inr ⟨c1▸hin i D hd,by rw[qr5 hd];simpa using hle⟩
   ·omega
end Go.Proofs.YtnicenfgemkdnaaGreatDoor
namespace Go.Proofs.YtnicenfgemkdnaaGreatDoor
open _root_.Go.Proofs.Tryz
set_option maxHeartbeats 16000000
set_option maxRecDepth 100000
open Go.ChangeShapes Go.WideShapes Go.ChangeAt Go.RowKit Go.Maps
structure Gr(F:Nat->Prop)(w w':World):Prop where
 os:w'.os=w.os
 tape:w'.tape=w.tape
 output:w'.output=w.output
 size:w.heap.size<=w'.heap.size
 block:∀c,c<w.heap.size->¬F c->w'.heap[c]?=w.heap[c]?
theorem Gr.refl(F:Nat->Prop)(w:World):Gr F w w:=⟨rfl,rfl,rfl,Nat.le_refl _,fun _ _ _=>rfl⟩
theorem Gr.trans{F G:Nat->Prop}{a b c:World}(h:Gr F a b)(k:Gr G b c)(hG:∀x,G x->F x\/a.heap.size<=x):Gr F a c:=
 ⟨k.os.trans h.os,k.tape.trans h.tape,k.output.trans h.output,Nat.le_trans h.size k.size,fun x hx hn=>(k.block x (Nat.lt_of_lt_of_le hx h.size) (fun hg=>by rcases hG x hg with h1|h1;exact hn h1;omega)).trans (h.block x hx hn)⟩
theorem Gr.mono{F G:Nat->Prop}{a b:World}(h:Gr F a b)(hG:∀x,F x->G x):Gr G a b:=⟨h.os,h.tape,h.output,h.size,fun x hx hn=>h.block x hx (fun hf=>hn (hG x hf))⟩
theorem Gr.below{F:Nat->Prop}{B:Nat}{w w':World}(h:Gr F w w')(hF:∀c,F c->B<=c)(hB:B<=w.heap.size):Below B w w':=
 ⟨h.os,h.tape,h.output,h.size,fun k hk=>h.block k om (fun hf=>by have:=hF k hf;omega)⟩
theorem Gr.of_below{F:Nat->Prop}{w w':World}(h:Below w.heap.size w w'):Gr F w w':=⟨h.os,h.tape,h.output,h.size,fun k hk _=>h.block k hk⟩
theorem Gr.of_grown{F:Nat->Prop}{w w':World}{row:Option Nat}(h:w.grownBy w' row)(hF:∀c,row=some c->F c):Gr F w w':=
 ⟨h.os,h.tape,h.output,h.size,fun k hk hn=>h.block k hk (fun e=>hn (hF k e.symm))⟩
theorem Gr.setCell{F:Nat->Prop}(w:World)(b o:Nat)(v:Value)(hb:F b):Gr F w (w.setCell ⟨b,o,none⟩ v):=
 ⟨rfl,rfl,rfl,by simp[World.setCell],fun k hk hn=>Below.heap_setCell _ _ _ _ (fun e=>hn (e▸hb))⟩
theorem Gr.drew{F:Nat->Prop}{a w:World}(h:Gr F a w):Gr F a w.drew:=⟨h.os,h.tape,h.output,h.size,h.block⟩
def updV(ls:Nat->Value)(n:Nat)(v:Value):Nat->Value:=fun i=>if i=n then v else ls i
abbrev Own(w:World)(v:Value)(l:List Int):Prop:=w.ownsRow 0 3 1 v l.length (l.map (Value.int .i64))
abbrev MapI(w:World)(b n:Nat)(D:DataW Unit):Prop:=w.ownsMap prog 3 (plainElem prog 3) b n D
structure WM(w:World)(b:Nat)(t:TypeId)(cs:Array Value)(o:Nat)(now:Int)(mb:Option Nat)(D:DataW Unit)(vs:Nat->Value)(L:Nat->List Int):Prop where
 row:w.heap[b]?=some (.cells cs t (0,0))
 size:o+450<=cs.size
 c0:cs[o]?=some (.int .i64 now)
 c1:cs[o+1]?=some (.map mb)
 cl:∀k,k<448->cs[o+2+k]?=some (vs k)
 own:∀k,k<448->Own w (vs k) (L k)
 nil:∀k,k<448->L k=[]->vs k=.slice none 0 0
 apart:∀j k c,j<448->k<448->(vs j).ownBlock=some c->(vs k).ownBlock=some c->j=k
 notb:∀k,k<448->(vs k).ownBlock≠some b
 map:(mb=none/\D=.map [])\/∃bm n,mb=some bm/\n<=1000000/\MapI w bm n D
def Fp(b:Nat)(mb:Option Nat)(vs:Nat->Value)(c:Nat):Prop:=c=b\/mb=some c\/∃k,k<448/\(vs k).ownBlock=some c
def qb7(o:Nat)(cs cs':Array Value):Prop:=cs'.size=cs.size/\∀i,(i<o\/o+450<=i)->cs'[i]?=cs[i]?
theorem qb7.refl(o:Nat)(cs:Array Value):qb7 o cs cs:=⟨rfl,fun _ _=>rfl⟩
theorem qb7.trans{o:Nat}{a b c:Array Value}(h:qb7 o a b)(k:qb7 o b c):qb7 o a c:=⟨k.1.trans h.1,fun i hi=>(k.2 i hi).trans (h.2 i hi)⟩
theorem qb7.set(o i:Nat)(cs:Array Value)(v:Value)(h1:o<=i)(h2:i<o+450):qb7 o cs (cs.setIfInBounds i v):=by
 refine⟨by simp,fun j hj=>?_⟩
 rw[Array.getElem?_setIfInBounds]
 rw[if_neg om]
section
variable {w:World} {b:Nat} {t:TypeId} {cs:Array Value} {o:Nat} {now:Int} {mb:Option Nat} {D:DataW Unit} {vs:Nat->Value} {L:Nat->List Int}
theorem WM.lt(h:WM w b t cs o now mb D vs L):b<w.heap.size:=(Array.getElem?_eq_some_iff.1 h.row).1
theorem WM.cell(h:WM w b t cs o now mb D vs L)(i:Nat):w.cell? ⟨b,i,none⟩=cs[i]?:=by simp[World.cell?,h.row]
theorem WM.free(h:WM w b t cs o now mb D vs L)(i:Nat):w.frozen? ⟨b,i,none⟩=false:=by simp[World.frozen?,h.row]
theorem Own.ne_map{w:World}{v:Value}{l:List Int}{bm n:Nat}{D:DataW Unit}(h:Own w v l)(hm:MapI w bm n D):v.ownBlock≠some bm:=by
 obtain⟨es,clock,hb,_⟩:=hm
 rcases h.2 with⟨e,_⟩|⟨g,cap,cur,e,_,hg,_⟩
 ·rw[e];simp[Value.ownBlock]
 ·rw[e]
  intro he
  have:g=bm:=by simpa[Value.ownBlock] using he
  subst this
  rw[hg] at hb
  cases hb
theorem MapI.ne_row{w:World}{b bm n:Nat}{t:TypeId}{cs:Array Value}{D:DataW Unit}(hr:w.heap[b]?=some (.cells cs t (0,0)))(hm:MapI w bm n D):bm≠b:=by
 obtain⟨es,clock,hb,_⟩:=hm
 rintro rfl
 rw[hr] at hb
 cases hb
theorem Own.ne_row{w:World}{v:Value}{l:List Int}{b:Nat}{t:TypeId}{cs:Array Value}(h:Own w v l)(hr:w.heap[b]?=some (.cells cs t (0,0)))(ht:t≠3):v.ownBlock≠some b:=by
 rcases h.2 with⟨e,_⟩|⟨g,cap,cur,e,_,hg,_⟩
 ·rw[e];simp[Value.ownBlock]
 ·rw[e]
  intro he
  have:g=b:=by simpa[Value.ownBlock] using he
  subst this
  rw[hg] at hr
  cases hr
  exact ht rfl
theorem WM.keep{w':World}{F:Nat->Prop}(h:WM w b t cs o now mb D vs L)(hg:Gr F w w')(hF:∀c,Fp b mb vs c->¬F c):WM w' b t cs o now mb D vs L:=by
 refine⟨(hg.block b h.lt (hF b (.inl rfl))).trans h.row,h.size,h.c0,h.c1,h.cl,fun k hk=>?_,h.nil,h.apart,h.notb,?_⟩
 ·obtain⟨h1,h2⟩:=h.own k hk
  refine⟨h1,?_⟩
  rcases h2 with h2|⟨g,cap,cur,e,h3,h4,h5⟩
  ·exact .inl h2
  ·refine .inr ⟨g,cap,cur,e,h3,?_,h5⟩
   rw[←h4]
   exact hg.block g (Array.getElem?_eq_some_iff.1 h4).1 (hF g (.inr (.inr ⟨k,hk,by rw[e];rfl⟩)))
 ·rcases h.map with h1|⟨bm,n,h1,hn,es,clock,h2,h3⟩
  ·exact .inl h1
  ·exact .inr ⟨bm,n,h1,hn,es,clock,(hg.block bm (Array.getElem?_eq_some_iff.1 h2).1 (hF bm (.inr (.inl h1)))).trans h2,h3⟩
theorem WM.below{w':World}(h:WM w b t cs o now mb D vs L)(hb:Below w.heap.size w w'):WM w' b t cs o now mb D vs L:=h.keep (Gr.of_below (F:=fun _=>False) hb) (fun _ _=>id)
theorem WM.alloc(h:WM w b t cs o now mb D vs L)(x:Obj):WM (w.alloc x) b t cs o now mb D vs L:=h.below ((Below.refl _ _).alloc (Nat.le_refl _) _)
theorem WM.drew(h:WM w b t cs o now mb D vs L):WM w.drew b t cs o now mb D vs L:=h.below (Below.refl _ _).drew
theorem WM.turnL{w2:World}(h:WM w b t cs o now mb D vs L){k:Nat}(hk:k<448){v':Value}{l':List Int}(hg:w.grownBy w2 (vs k).ownBlock)(hown:Own w2 v' l')(hnil:l'=[]->v'=.slice none 0 0)(hloc:v'.ownBlock=none\/v'.ownBlock=(vs k).ownBlock\/∃c,v'.ownBlock=some c/\w.heap.size<=c){i:Nat}(hi:i=o+2+k):
  WM (w2.setCell ⟨b,i,none⟩ v') b t (cs.setIfInBounds i v') o now mb D (updV vs k v') (setL L k l')/\qb7 o cs (cs.setIfInBounds i v')/\Gr (Fp b mb vs) w (w2.setCell ⟨b,i,none⟩ v')/\∀c,Fp b mb (updV vs k v') c->Fp b mb vs c\/w.heap.size<=c:=by
 subst hi
 have hbk:some b≠(vs k).ownBlock:=fun e=>h.notb k hk e.symm
 have hrow:w2.heap[b]?=some (.cells cs t (0,0)):=(hg.block b h.lt hbk).trans h.row
 have hsz:=h.size
 have hlt:∀c,v'.ownBlock=some c->c≠b:=by
  intro c hc e
  rcases hloc with h1|h1|⟨c',h1,h2⟩
  ·rw[h1] at hc;cases hc
  ·exact h.notb k hk (by rw[←h1,hc,e])
  ·rw[h1] at hc;cases hc;have:=h.lt;omega
 have hGr:Gr (Fp b mb vs) w (w2.setCell ⟨b,o+2+k,none⟩ v'):=(Gr.of_grown hg (fun c hc=>.inr (.inr ⟨k,hk,hc⟩))).trans (Gr.setCell (F:=fun c=>c=b) w2 b _ v' rfl) (fun x hx=>.inl (.inl hx))
 have hset:∀c,c≠b->(w2.setCell ⟨b,o+2+k,none⟩ v').heap[c]?=w2.heap[c]?:=fun c hc=>Below.heap_setCell _ _ _ _ hc
 refine⟨⟨heap_setCell_same w2 b _ _ t _ hrow,by simpa using hsz,?_,?_,fun j hj=>?_,fun j hj=>?_,fun j hj hl=>?_,fun j j' c hj hj' h1 h2=>?_,fun j hj=>?_,?_⟩,qb7.set o _ cs v' om om,hGr,fun c hc=>?_⟩
 ·rw[Array.getElem?_setIfInBounds_ne om];exact h.c0
 ·rw[Array.getElem?_setIfInBounds_ne om];exact h.c1
 ·by_cases e:j=k
  ·subst e
   rw[Array.getElem?_setIfInBounds_self_of_lt om]
   simp[updV]
  ·rw[Array.getElem?_setIfInBounds_ne om,h.cl j hj]
   simp[updV,e]
 ·by_cases e:j=k
  ·subst e
   obtain⟨h1,h2⟩:=hown
   simp only[updV,setL,if_true]
   refine⟨h1,?_⟩
   rcases h2 with h2|⟨g,cap,cur,e,h3,h4,h5⟩
   ·exact .inl h2
   ·exact .inr ⟨g,cap,cur,e,h3,(hset g (hlt g (by rw[e];rfl))).trans h4,h5⟩
  ·simp only[updV,setL,if_neg e]
   obtain⟨h1,h2⟩:=h.own j hj
   refine⟨h1,?_⟩
   rcases h2 with h2|⟨g,cap,cur,e',h3,h4,h5⟩
   ·exact .inl h2
   ·have hgj:(vs j).ownBlock=some g:=by rw[e'];rfl
    refine .inr ⟨g,cap,cur,e',h3,?_,h5⟩
    rw[hset g (fun e2=>h.notb j hj (by rw[hgj,e2])),←h4]
    exact hg.block g (Array.getElem?_eq_some_iff.1 h4).1 (fun e2=>e (h.apart j k g hj hk hgj e2.symm))
 ·by_cases e:j=k
  ·subst e;simp only[updV,setL,if_true] at hl ⊢;exact hnil hl
  ·simp only[updV,setL,if_neg e] at hl ⊢;exact h.nil j hj hl
 ·have key:∀m,m<448->m≠k->(vs m).ownBlock=some c->v'.ownBlock=some c->False:=by
   intro m hm hmk h3 h4
   rcases hloc with h5|h5|⟨c',h5,h6⟩
   ·rw[h5] at h4;cases h4
   ·exact hmk (h.apart m k c hm hk h3 (by rw[←h5,h4]))
   ·rw[h5] at h4;cases h4
    have:=((h.own m hm).lt c h3).2
    omega
  by_cases e:j=k
  ·by_cases e':j'=k
   ·rw[e,e']
   ·simp only[updV,if_pos e,if_neg e'] at h1 h2
    exact(key j' hj' e' h2 h1).elim
  ·by_cases e':j'=k
   ·simp only[updV,if_neg e,if_pos e'] at h1 h2
    exact(key j hj e h1 h2).elim
   ·simp only[updV,if_neg e,if_neg e'] at h1 h2
    exact h.apart j j' c hj hj' h1 h2
 ·by_cases e:j=k
  ·simp only[updV,if_pos e]
   intro h1
   exact hlt b h1 rfl
  ·simp only[updV,if_neg e];exact h.notb j hj
 ·rcases h.map with h1|⟨bm,n,h1,hn,hm⟩
  ·exact .inl h1
  ·have hne:=hm.ne_row h.row
   obtain⟨es,clock,h2,h3⟩:=id hm
   refine .inr ⟨bm,n,h1,hn,es,clock,?_,h3⟩
   rw[hset bm hne,←h2]
   exact hg.block bm (Array.getElem?_eq_some_iff.1 h2).1 (fun e2=>(h.own k hk).ne_map hm e2.symm)
 ·rcases hc with rfl|hc|⟨j,hj,hc⟩
  ·exact .inl (.inl rfl)
  ·exact .inl (.inr (.inl hc))
  ·by_cases e:j=k
   ·simp only[updV,if_pos e] at hc
    rcases hloc with h5|h5|⟨c',h5,h6⟩
    ·rw[h5] at hc;cases hc
    ·exact .inl (.inr (.inr ⟨k,hk,by rw[←h5,hc]⟩))
    ·rw[h5] at hc;cases hc;exact .inr h6
   ·simp only[updV,if_neg e] at hc
    exact .inl (.inr (.inr ⟨j,hj,hc⟩))
end
theorem idx7(b o l:Nat)(h:l<7)(w:World):(Instr.indexAt 87 (.pointer (some ⟨b,o,none⟩)) (.int .i64 (l:Int))).run prog w=.ok (.pointer (some ⟨b,o+64*l,none⟩)) w:=by
 have hs:(sizeOf 86).run prog w=.ok 64 w:=by kernel_rfl
 have h1:(l:Int)<7:=by omega
 simp[go_sem,underlying87,h1,h,hs]
theorem qy0(b o l:Nat)(h:l<64)(w:World):(Instr.indexAt 86 (.pointer (some ⟨b,o,none⟩)) (.int .i64 (l:Int))).run prog w=.ok (.pointer (some ⟨b,o+l,none⟩)) w:=by
 have hs:(sizeOf 84).run prog w=.ok 1 w:=by kernel_rfl
 have h1:(l:Int)<64:=by omega
 simp[go_sem,underlying86,h1,h,hs]
theorem lawI:Keyed prog 3:=int_keyed underlying3
theorem qjv(w:World):(zeroValue 3).run prog w=.ok (.int .i64 0) w:=by kernel_rfl
theorem q1h:(prog.info? 3).map (fun i=>(i.zero,i.size,i.bytes))=some (some (.int .i64 0),1,8):=by kernel_rfl
def atW'(D:DataW Unit)(i:Int)(d:Int):Prop:=D.atKey (.int .i64 i) (.lit (.int .i64 0))=.lit (.int .i64 d)
theorem Own.shape{w:World}{v:Value}{l:List Int}(h:Own w v l)(hl:0<l.length):∃g cap cur,v=.slice (some ⟨g,0,none⟩) l.length cap/\w.heap[g]?=some (.cells cur 3 (0,0))/\l.length<=cap/\cap<=maxLen/\cur.size=cap/\cur.toList.take l.length=l.map (Value.int .i64):=by
 rcases h.2 with⟨_,e⟩|⟨g,cap,cur,e,_,h1,h2,h3,h4,h5⟩
 ·omega
 ·exact⟨g,cap,cur,e,h1,h2,h3,by simpa using h4,by simpa using h5⟩
theorem qis{cur:Array Value}{l:List Int}(h:cur.toList.take l.length=l.map (Value.int .i64))(j:Nat)(hj:j<l.length):cur[j]?=some (.int .i64 l[j]):=by
 have e:(cur.toList.take l.length)[j]?=some (.int .i64 l[j]):=by rw[h];simp[hj]
 rw[List.getElem?_take,if_pos hj] at e
 simpa using e
theorem qny{k:IntKind}{a b:Int}(h:a=b):Ending.returned (.int k a)=.returned (.int k b):=by rw[h]
theorem ixI(g n cap j:Nat)(hj:j<n)(w:World):(Instr.indexAt 84 (.slice (some ⟨g,0,none⟩) n cap) (.int .i64 (j:Int))).run prog w=.ok (.pointer (some ⟨g,j,none⟩)) w:=by
 have hs:(sizeOf 3).run prog w=.ok 1 w:=by kernel_rfl
 have h1:(j:Int)<(n:Int):=by omega
 simp[go_sem,underlying84,h1,hj,hs]
theorem q1w{w:World}{v:Value}{l:List Int}(h:Own w v l)(x:Int)(hx:x∈l)(hm:l.length<=1000000000):
  Calls prog 202 #[v,.int .i64 x] w fun e w'=>e=.returned (.int .i64 (l.idxOf x:Int))/\w'=w:=by
 have hlen:0<l.length:=List.length_pos_of_mem hx
 obtain⟨g,cap,cur,rfl,hg,_,_,_,ht⟩:=h.shape hlen
 have hix:=List.idxOf_lt_length_of_mem hx
 have hcell:∀j (hj:j<l.length),w.cell? ⟨g,j,none⟩=some (.int .i64 l[j]):=fun j hj=>by simp[World.cell?,hg];exact qis ht j hj
 obtain⟨n,hn⟩:∃n,n=l.length:=⟨_,rfl⟩
 rw[←hn]
 have HN:Hid (n=l.length):=hn
 have hI:=fun j (hj:j<n) w=>ixI g n cap j hj w
 clear hn h hg ht hlen
 go_enter func202,ntmps202
 go_wp2
 go_loop [8] (fun i=>∃j:Nat,j<=l.idxOf x/\i=.int .i64 (j:Int)) (fun i=>n-(intOf i).toNat)
 case atStart=>exact⟨0,Nat.zero_le _,rfl⟩
 case round=>
  obtain⟨j,hj,rfl⟩:=hrel
  have hjl:j<l.length:=by omega
  have hjn:(j:Int)<(n:Int):=by have:=HN.out;omega
  have hI':=fun w=>hI j (by have:=HN.out;omega) w
  have hc:=hcell j hjl
  by_cases he:l[j]=x
  ·have hb:(x==l[j])=true:=by simp[he]
   have hji:j=l.idxOf x:=by
    by_cases hlt:j<l.idxOf x
    ·exact absurd he (by have:=List.not_of_lt_findIdx (p:=(· == x)) (xs:=l) hlt;simpa using this)
    ·omega
   have HJ:Hid (j=l.idxOf x):=hji
   clear hji he hI hcell
   go_wp2
   go_ret
   refine⟨qny ?_,rfl⟩
   have:=HJ.out
   omega
  ·have hb:(x==l[j])=false:=by simp;exact fun e=>he e.symm
   have hlt:j<l.idxOf x:=by
    by_cases e:j=l.idxOf x
    ·subst e;exact absurd (List.getElem_idxOf hjl) he
    ·omega
   have hwr:wrap64 ((j:Int)+1)=(j:Int)+1:=by unfold wrap64;omega
   have HL:Hid (j<l.idxOf x):=hlt
   have hmn:Hid (n-((j:Int)+1).toNat<n-((j:Int)).toNat):=by have:=HN.out;show _<_;omega
   clear he hlt hI hcell
   go_wp2
   go_round
   case rel=>exact⟨j+1,HL.out,by go_num⟩
   case measure=>first|exact hmn.out|(rw[hwr];exact hmn.out)|(simp[intOf];exact hmn.out)
def putA(cur:Array Value)(o:Nat)(vs:List Value):Array Value:=match vs with
 | []=>cur
 | v::r=>putA (cur.setIfInBounds o v) (o+1) r
theorem qtd(vs:List Value)(cur:Array Value)(o:Nat):(putA cur o vs).size=cur.size:=by
 induction vs generalizing cur o with
 | nil=>rfl
 | cons v r ih=>unfold putA;rw[ih];simp
theorem qvo(vs:List Value)(cur:Array Value)(o i:Nat)(hs:o+vs.length<=cur.size):(putA cur o vs)[i]?=if o<=i/\i<o+vs.length then vs[i-o]? else cur[i]?:=by
 induction vs generalizing cur o with
 | nil=>unfold putA;rw[if_neg zm]
 | cons v r ih=>
  unfold putA
  simp only[List.length_cons] at hs ⊢
  rw[ih _ _ (by simp;omega)]
  by_cases e:i=o
  ·subst e
   rw[if_neg om,if_pos om,Array.getElem?_setIfInBounds_self_of_lt om]
   simp
  ·by_cases h1:o+1<=i/\i<o+1+r.length
   ·rw[if_pos h1,if_pos om]
    obtain⟨q,rfl⟩:=Nat.exists_eq_add_of_le h1.1
    rw[show o+1+q-(o+1)=q by omega,show o+1+q-o=q+1 by omega]
    simp
   ·rw[if_neg h1,if_neg om,Array.getElem?_setIfInBounds_ne om]
theorem qn7(vs:List Value)(w:World)(g o:Nat)(cur:Array Value)(t:TypeId)(h:w.heap[g]?=some (.cells cur t (0,0))):(w.setCells g o vs).heap[g]?=some (.cells (putA cur o vs) t (0,0)):=by
 induction vs generalizing w cur o with
 | nil=>exact h
 | cons v r ih=>unfold putA World.setCells;exact ih _ _ _ (heap_setCell_same w g o _ t _ h)
theorem qm5(vs:List Value)(w:World)(g o:Nat):w.grownBy (w.setCells g o vs) (some g):=by
 induction vs generalizing w o with
 | nil=>exact⟨rfl,rfl,rfl,Nat.le_refl _,fun _ _ _=>rfl⟩
 | cons v r ih=>
  unfold World.setCells
  have h1:w.grownBy (w.setCell ⟨g,o,none⟩ v) (some g):=⟨rfl,rfl,rfl,by simp[World.setCell],fun k _ hk=>Below.heap_setCell _ _ _ _ (fun e=>hk (by rw[e]))⟩
  exact h1.trans (ih _ _)
theorem q0c{w:World}{v:Value}{l:List Int}(h:Own w v l)(j:Nat)(hj:j<l.length)(hm:l.length<=1000000000):
  Calls prog 203 #[v,.int .i64 (j:Int),.int .i64 ((j:Int)+1)] w fun e w'=>∃v',e=.returned v'/\Own w' v' (l.eraseIdx j)/\w.grownBy w' v.ownBlock/\v'.ownBlock=v.ownBlock/\∃a c,v'=.slice a (l.length-1) c:=by
 obtain⟨g,cap,cur,rfl,hg,hlc,hcm,hcs,ht⟩:=h.shape om
 obtain⟨i0,hi0,hz0,hz1,hz2⟩:=info_parts q1h
 unfold maxLen at hcm
 have hcell:∀k (hk:k<l.length),w.cell? ⟨g,k,none⟩=some (.int .i64 l[k]):=fun k hk=>by simp[World.cell?,hg];exact qis ht k hk
 have hfree:∀k,w.frozen? ⟨g,k,none⟩=false:=fun k=>by simp[World.frozen?,hg]
 obtain⟨n,hn⟩:∃n,n=l.length:=⟨_,rfl⟩
 obtain⟨news,hnews⟩:∃news,news=(l.drop (j+1)).map (Value.int .i64):=⟨_,rfl⟩
 have hnl:news.length=n-(j+1):=by rw[hnews,hn];simp
 obtain⟨A,hA,hsrc⟩:∃A:Addr,(if cap=j+1 then some (⟨g,0,none⟩:Addr) else some ⟨g,j+1,none⟩)=some A/\Hid (∀t u,news[t]?=some u->w.drew.cell? (A.add t)=some u):=by
  by_cases hc:cap=j+1
  ·refine⟨⟨g,0,none⟩,by simp[hc],fun t u hu=>?_⟩
   have h0:news.length=0:=by rw[hnl];omega
   rw[List.length_eq_zero_iff.1 h0] at hu
   simp at hu
  ·refine⟨⟨g,j+1,none⟩,by simp[hc],fun t u hu=>?_⟩
   rw[Addr.add_lit]
   rw[hnews,List.getElem?_map,List.getElem?_drop] at hu
   have hlt:j+1+t<l.length:=by
    by_cases hlt:j+1+t<l.length
    ·exact hlt
    ·rw[List.getElem?_eq_none om] at hu;simp at hu
   rw[List.getElem?_eq_getElem hlt] at hu
   have hu':Value.int .i64 l[j+1+t]=u:=by simpa using hu
   exact(hcell _ hlt).trans (by rw[hu'])
 have s1:Hid (news.length=(n-(j+1))*1):=by rw[Nat.mul_one];exact hnl
 have s2:Hid (∀u∈news,u.oneCell'=true):=by
  intro u hu
  rw[hnews] at hu
  obtain⟨x,_,rfl⟩:=List.mem_map.1 hu
  rfl
 have s3:Hid (∀t,t<news.length->(w.drew.cell? ⟨g,0+j*1+t,none⟩).isSome=true/\w.drew.frozen? ⟨g,0+j*1+t,none⟩=false):=by
  intro t ht'
  rw[hnl] at ht'
  rw[Nat.mul_one,Nat.zero_add]
  exact⟨by show(w.cell? _).isSome=true;rw[hcell (j+t) om];rfl,hfree (j+t)⟩
 obtain⟨W1,hW1⟩:∃W1,W1=w.drew.setCells g (0+j*1) news:=⟨_,rfl⟩
 have hg1:W1.heap[g]?=some (.cells (putA cur j news) 3 (0,0)):=by rw[hW1,Nat.mul_one,Nat.zero_add];exact qn7 news w.drew g j cur _ hg
 have hgr:w.grownBy W1 (some g):=by rw[hW1];have q:=qm5 news w.drew g (0+j*1);exact⟨q.os,q.tape,q.output,q.size,q.block⟩
 have hps:(putA cur j news).size=cap:=by rw[qtd,hcs]
 have hcl:∀ty,(Builtin.clear_ #[84] ty #[.slice (some ⟨g,j+(n-(j+1)),none⟩) (n-(j+(n-(j+1)))) (cap-(j+(n-(j+1))))]).run prog W1=.ok (.tuple #[]) (W1.setCells g (j+(n-(j+1))) (List.replicate (n-(j+(n-(j+1)))) (.int .i64 0))):=
  fun ty=>Lib.run_clear_slice W1 _ _ ty _ underlying84 qjv rfl rfl g (j+(n-(j+1))) _ _ om (fun t ht'=>by simp[World.cell?,hg1];omega) (fun t ht'=>by simp[World.frozen?,hg1])
 have hfin:Own (W1.setCells g (j+(n-(j+1))) (List.replicate (n-(j+(n-(j+1)))) (.int .i64 0))) (.slice (some ⟨g,0,none⟩) (j+(n-(j+1))) cap) (l.eraseIdx j):=by
  have e1:j+(n-(j+1))=n-1:=by omega
  rw[e1,show n-(n-1)=1 by omega]
  have hel:(l.eraseIdx j).length=n-1:=by rw[List.length_eraseIdx,if_pos hj,hn]
  refine⟨by simp,.inr ⟨g,cap,_,by rw[hel],Nat.zero_le _,qn7 _ W1 g (n-1) _ _ hg1,by omega,by unfold maxLen;omega,by rw[qtd,hps,Nat.mul_one],?_⟩⟩
  apply List.ext_getElem?
  intro i
  rw[List.getElem?_take,Nat.mul_one,hel,List.getElem?_map]
  by_cases hi:i<n-1
  ·rw[if_pos hi,Array.getElem?_toList,qvo _ _ _ _ (by simp[hps];omega),if_neg om,qvo _ _ _ _ (by rw[hnl,hcs];omega),hnl]
   by_cases hji:j<=i
   ·rw[if_pos om,hnews,List.getElem?_map,List.getElem?_drop,List.getElem?_eraseIdx_of_ge hji]
    rw[show j+1+(i-j)=i+1 by omega]
   ·rw[if_neg om,List.getElem?_eraseIdx_of_lt om,qis ht i om,List.getElem?_eq_getElem om]
    rfl
  ·rw[if_neg hi,List.getElem?_eq_none om]
   rfl
 have hgr2:=hgr.trans (qm5 (List.replicate (n-(j+(n-(j+1)))) (.int .i64 0)) W1 g (j+(n-(j+1))))
 have HF:Hid (Own (W1.setCells g (j+(n-(j+1))) (List.replicate (n-(j+(n-(j+1)))) (.int .i64 0))) (.slice (some ⟨g,0,none⟩) (j+(n-(j+1))) cap) (l.eraseIdx j)):=hfin
 have HG:Hid (w.grownBy (W1.setCells g (j+(n-(j+1))) (List.replicate (n-(j+(n-(j+1)))) (.int .i64 0))) (some g)):=hgr2
 have hW:Hid (W1=w.drew.setCells g (0+j*1) news):=hW1
 have hN:Hid (n=l.length):=hn
 have hnb:n<=1000000000:=by omega
 have hjn:j<n:=by omega
 have hnc:n<=cap:=by omega
 rw[←hn]
 have hij:((j:Int)==(j:Int)+1)=false:=by simp;omega
 have hjc:j<=cap:=by omega
 have hj1c:j+1<=cap:=by omega
 have hp0:(0:Int)<=(j:Int)+1:=by omega
 have hp1:(j:Int)+1<=(n:Int):=by omega
 have hp2:((j:Int)+1).toNat=j+1:=by omega
 clear hfin hgr2 hgr hW1 hn hg1 hps hnl hnews hcell hfree ht hg hlc hm hj hcs h
 go_enter func203,ntmps203
 go_wp2_with fail
 go_region_law (refine step_append_room rfl (.tmp 22) (.tmp 25) 84 rfl 3 i0 1 underlying84 hi0 hz1 g 0 j cap (by simp[Act.eval,Act.put]) A (n-(j+1)) (cap-(j+1)) news (by simp[Act.eval,Act.put]) s1.out hsrc.out s2.out om s3.out ?_;rw[←hW.out])
 go_wp2
 go_ret
 exact⟨_,rfl,HF.out,HG.out,rfl,some ⟨g,0,none⟩,cap,congrArg (fun q=>Value.slice (some ⟨g,0,none⟩) q cap) (show j+(n-(j+1))=n-1 by omega)⟩
theorem WM.theMap{w:World}{b o:Nat}{t:TypeId}{cs:Array Value}{now:Int}{bm:Nat}{D:DataW Unit}{vs:Nat->Value}{L:Nat->List Int}(h:WM w b t cs o now (some bm) D vs L):∃n,n<=1000000/\MapI w bm n D:=by
 rcases h.map with⟨h1,_⟩|⟨bm',n,h1,h2,h3⟩
 ·cases h1
 ·cases h1;exact⟨n,h2,h3⟩
theorem ql7{w w2:World}{b:Nat}{t:TypeId}{cs:Array Value}{r:Option Nat}(h:w.heap[b]?=some (.cells cs t (0,0)))(hg:w.grownBy w2 r)(hr:r≠some b):w2.heap[b]?=some (.cells cs t (0,0)):=
 (hg.block b (Array.getElem?_eq_some_iff.1 h).1 (fun e=>hr e.symm)).trans h
theorem qm8{D:DataW Unit}{i c d:Int}(h1:atW' D i d)(h2:D.atKey (.int .i64 i) (.lit (.int .i64 0))=.lit (.int .i64 c)):c=d:=by
 unfold atW' at h1
 rw[h1] at h2
 injection h2 with h3
 injection h3 with _ h4
 exact h4.symm
theorem qwr{w:World}{b o:Nat}{t:TypeId}{cs:Array Value}{now:Nat}{bm:Nat}{D:DataW Unit}{vs:Nat->Value}{L:Nat->List Int}(h:WM w b t cs o (now:Int) (some bm) D vs L)(i:Int)(d:Nat)(hi:(Lit.int .i64 i).wf=true)(hd:atW' D i (d:Int))(hn:now<=1099511627776)(hdd:d<=1099511627776)(hmem:i∈L (pk now d))(hlen:(L (pk now d)).length<=1000000000):
  Calls prog 183 #[.pointer (some ⟨b,o,none⟩),.int .i64 i] w fun e w'=>e=.returned (.tuple #[])/\∃cs' vs',WM w' b t cs' o (now:Int) (some bm) D vs' (setL L (pk now d) ((L (pk now d)).eraseIdx ((L (pk now d)).idxOf i)))/\qb7 o cs cs'/\Gr (Fp b (some bm) vs) w w'/\∀c,Fp b (some bm) vs' c->Fp b (some bm) vs c\/w.heap.size<=c:=by
 have hkey:=keyOf_int_mk (P:=prog) (q:=.i64) (a:=i) underlying3 hi
 have c0:w.cell? ⟨b,o,none⟩=some (.int .i64 (now:Int)):=(h.cell o).trans h.c0
 have c1:w.cell? ⟨b,o+1,none⟩=some (.map (some bm)):=(h.cell _).trans h.c1
 have hl7:=qpa d now hdd hn
 have ha64:=qgt d (lv d now)
 have hpk:pk now d=64*lv d now+dg d (lv d now):=rfl
 have CP:=fun w h=>qoh b o now d hn hdd w h
 generalize lv d now=l at *
 generalize dg d l=a at *
 rw[hpk] at hmem hlen ⊢
 have hk:64*l+a<448:=by omega
 have hown:=h.own _ hk
 have hI7:=fun w=>idx7 b (o+2) l om w
 have hI64:=fun w=>qy0 b (o+2+64*l) a om w
 have ho:o+2+64*l+a=o+2+(64*l+a):=by omega
 have cl:w.cell? ⟨b,o+2+64*l+a,none⟩=some (vs (64*l+a)):=by rw[ho];exact(h.cell _).trans (h.cl _ hk)
 obtain⟨n,hn',hm⟩:=h.theMap
 have CI:=fun(w:World) (h:Own w (vs (64*l+a)) (L (64*l+a)))=>q1w h i hmem hlen
 have hix:=List.idxOf_lt_length_of_mem hmem
 have CD:=fun(w:World) (h:Own w (vs (64*l+a)) (L (64*l+a)))=>q0c h _ hix hlen
 have hwi:wrap64 ((List.idxOf i (L (64*l+a)):Int)+1)=(List.idxOf i (L (64*l+a)):Int)+1:=by unfold wrap64;omega
 have hi0:(0:Int)<=(List.idxOf i (L (64*l+a)):Int):=by omega
 have hne:∀w2 (u:Value),w.grownBy w2 (vs (64*l+a)).ownBlock->w2.cell? ⟨b,o+2+64*l+a,none⟩=some (vs (64*l+a))/\w2.frozen? ⟨b,o+2+64*l+a,none⟩=false:=by
  intro w2 u hg
  have hr:=ql7 h.row hg (h.notb _ hk)
  exact⟨by simp only[World.cell?,hr];rw[ho];exact h.cl _ hk,by simp[World.frozen?,hr]⟩
 have hfin:=fun(w2:World) (v':Value) (hg:w.grownBy w2 (vs (64*l+a)).ownBlock) (hw2:Own w2 v' ((L (64*l+a)).eraseIdx ((L (64*l+a)).idxOf i))) hnil hloc=>h.turnL hk hg hw2 hnil hloc ho
 have hel:((L (64*l+a)).eraseIdx ((L (64*l+a)).idxOf i)).length=(L (64*l+a)).length-1:=by rw[List.length_eraseIdx,if_pos hix]
 generalize(L (64 * l+a)).eraseIdx ((L (64 * l+a)).idxOf i)=l' at *
 generalize List.idxOf i (L (64 * l+a))=q at *
 have HFIN:Hid (∀(w2:World) (v':Value),w.grownBy w2 (vs (64*l+a)).ownBlock->Own w2 v' l'->(l'=[]->v'=.slice none 0 0)->(v'.ownBlock=none\/v'.ownBlock=(vs (64*l+a)).ownBlock\/∃c,v'.ownBlock=some c/\w.heap.size<=c)->∃cs' vs',WM (w2.setCell ⟨b,o+2+64*l+a,none⟩ v') b t cs' o (now:Int) (some bm) D vs' (setL L (64*l+a) l')/\qb7 o cs cs'/\Gr (Fp b (some bm) vs) w (w2.setCell ⟨b,o+2+64*l+a,none⟩ v')/\∀c,Fp b (some bm) vs' c->Fp b (some bm) vs c\/w.heap.size<=c):=fun w2 v' x1 x2 x3 x4=>⟨_,_,hfin w2 v' x1 x2 x3 x4⟩
 obtain⟨N,hN⟩:∃N,N=(L (64*l+a)).length-1:=⟨_,rfl⟩
 have HN:Hid (N=(L (64*l+a)).length-1):=hN
 rw[←hN] at hel CD
 have HEL:Hid (l'.length=N):=hel
 have hNb:N<=1000000000:=by omega
 clear hpk hfin hlen hmem ho hel hN hix
 by_cases hN0:N=0
 ·have hz:((N:Int)==0)=true:=by simp[hN0]
  go_enter func183,ntmps183
  go_wp2_with (first|(at_lookup;refine wpList_lookup_own_int _ rfl _ _ 85 rfl 3 3 .i64 lawI underlying85 underlying3 (qjv _) bm n D rfl hm _ _ rfl hkey ?_;intro c hat hwc;obtain rfl:=qm8 hd hat;clear hat hwc)|(go_at_call 172;refine(CP _ c0).mono ?_;rintro e w' ⟨rfl,rfl⟩)|(go_at_call 202;refine(CI _ hown).mono ?_;rintro e w' ⟨rfl,rfl⟩)|(go_at_call 203;refine(CD _ hown).mono ?_;rintro e w2 ⟨v',rfl,ho2,hg2,hb2,a2,k2,rfl⟩;obtain⟨cl2,fr2⟩:=hne w2 undef hg2))
  go_end0
  refine⟨rfl,HFIN.out w2 _ hg2 ?_ (fun _=>rfl) (.inl rfl)⟩
  have:l'=[]:=List.eq_nil_of_length_eq_zero (by have:=HEL.out;omega)
  rw[this];exact World.ownsRow_nil _ _ _ _
 ·have hz:((N:Int)==0)=false:=by simp;omega
  go_enter func183,ntmps183
  go_wp2_with (first|(at_lookup;refine wpList_lookup_own_int _ rfl _ _ 85 rfl 3 3 .i64 lawI underlying85 underlying3 (qjv _) bm n D rfl hm _ _ rfl hkey ?_;intro c hat hwc;obtain rfl:=qm8 hd hat;clear hat hwc)|(go_at_call 172;refine(CP _ c0).mono ?_;rintro e w' ⟨rfl,rfl⟩)|(go_at_call 202;refine(CI _ hown).mono ?_;rintro e w' ⟨rfl,rfl⟩)|(go_at_call 203;refine(CD _ hown).mono ?_;rintro e w2 ⟨v',rfl,ho2,hg2,hb2,a2,k2,rfl⟩;obtain⟨cl2,fr2⟩:=hne w2 undef hg2))
  go_end0
  exact⟨rfl,HFIN.out w2 _ hg2 ho2 (fun e=>absurd (by have:=HEL.out;rw[e] at this;simpa using this.symm) hN0) (.inr (.inl hb2))⟩
end Go.Proofs.YtnicenfgemkdnaaGreatDoor
