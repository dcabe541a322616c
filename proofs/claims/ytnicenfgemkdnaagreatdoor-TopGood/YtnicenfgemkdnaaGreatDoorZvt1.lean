/-
  Of what a law stands on.
-/
import Derived.Test.YtnicenfgemkdnaaGreatDoorZvb1
set_option linter.unusedSimpArgs false
set_option linter.unusedVariables false
namespace Go.Proofs.YtnicenfgemkdnaaGreatDoor
open _root_.Go.Proofs.Tryz
set_option maxHeartbeats 16000000
set_option maxRecDepth 100000
open Go.ChangeShapes Go.WideShapes Go.ChangeAt Go.RowKit
def fl(x:Int):Nat:=(x%64).toNat
theorem q8e(n b:Nat)(hb:63 &&& b=b):n &&& b=(n%64) &&& b:=by
 have h:n &&& 63=n%64:=Nat.and_two_pow_sub_one_eq_mod n 6
 rw[←h,Nat.and_assoc,hb]
theorem qx6(x:Int)(b:Nat)(hb:63 &&& b=b)(hl:b<64):bits .and .i64 x (b:Int)=((fl x &&& b:Nat):Int):=by
 have e1:(BitVec.ofInt 64 x).toNat%64=fl x:=by
  rw[BitVec.toNat_ofInt]
  unfold fl
  omega
 have e2:(BitVec.ofInt 64 (b:Int)).toNat=b:=by
  rw[BitVec.toNat_ofInt]
  omega
 have e3:(BitVec.ofInt 64 x &&& BitVec.ofInt 64 (b:Int)).toNat=fl x &&& b:=by
  rw[BitVec.toNat_and,e2,q8e _ _ hb,e1]
 have hle:fl x &&& b<=b:=Nat.and_le_right
 unfold bits
 show IntKind.i64.wrap ((BitVec.ofInt 64 x &&& BitVec.ofInt 64 (b:Int)).toNat:Int)=_
 rw[e3]
 simp[IntKind.wrap,IntKind.bits,IntKind.signed]
 omega
def has(x:Int)(b:Nat):Bool:=(fl x &&& b)==b
def qnb(x:Int)(b:Nat):Bool:=(fl x &&& b)==0
theorem q70(x:Int)(b:Nat):(((fl x &&& b:Nat):Int)==(b:Int))=has x b:=by
 unfold has
 rw[Bool.eq_iff_iff];simp only[beq_iff_eq];omega
theorem q65(x:Int)(b:Nat):(((fl x &&& b:Nat):Int)==(0:Int))=qnb x b:=by
 unfold qnb
 rw[Bool.eq_iff_iff];simp only[beq_iff_eq];omega
def qb0(p s:Int):Int:=if p=1 then 8 else if p=17 then 20 else if s=2 then 60 else if s=1 then 4 else 6
theorem q9b(p s:Int):0<=qb0 p s/\qb0 p s<=60:=by unfold qb0;split<;>(try split)<;>(try split)<;>(try split)<;>omega
structure Fl where
 pr:Int
 s:Int
 i:Int
 a:Int
 port:Int
 rem:Int
 rp:Int
 st:Int
 sd:Int
 du:Int
def fc(k:Fl):Array Value:=#[.int .i64 k.pr,.int .i64 k.s,.int .i64 k.i,.int .i64 k.a,.int .i64 k.port,.int .i64 k.rem,.int .i64 k.rp,.int .i64 k.st,.int .i64 k.sd,.int .i64 k.du]
def qcf(b:Bool):Int:=if b then 1 else 0
def qbi(k:Fl)(x:Int)(inw:Bool):Fl×Bool:=
 if has x 4 then({ k with st:=4 },k.st != 4)
 else if k.st=1/\inw=true/\has x 18=true then({ k with st:=2 },true)
 else if k.st=2/\has x 1=true then({ k with st:=3,sd:=qcf inw },true)
 else if k.st=3/\has x 1=true/\qcf inw≠k.sd then({ k with st:=4 },true)
 else if k.st=1 then(k,!inw&&has x 2)
 else(k,k.st==2)
def qem(k:Fl)(x:Int)(inw:Bool):Fl×Bool:=if k.pr=6 then qbi k x inw else if k.pr=17 then(k,!inw) else(k,true)
def qcu(k:Fl)(x:Int)(inw:Bool)(now:Int):Fl:=if (qem k x inw).2 then { (qem k x inw).1 with du:=now+qb0 (qem k x inw).1.pr (qem k x inw).1.st } else(qem k x inw).1
theorem qh6{k:IntKind}{a b:Int}(h:a=b):Ending.returned (.int k a)=.returned (.int k b):=by rw[h]
theorem qj6{a b:Bool}(h:a=b):Ending.returned (.bool a)=.returned (.bool b):=by rw[h]
theorem sZvt11{p:Prop}(h:p:=by
 go_enter func164,ntmps164
 go_wp2
 go_ret
 exact⟨qh6 H.out,rfl⟩):p:=h
theorem qvq(p s:Int)(w:World):Calls prog 164 #[.int .i64 p,.int .i64 s] w fun e w'=>e=.returned (.int .i64 (qb0 p s))/\w'=w:=by
 by_cases h1:p=1
 ·have H:Hid ((8:Int)=qb0 p s):=by show(8:Int)=qb0 p s;simp[qb0,h1]
  have d1:(p==1)=true:=by simp[h1]
  clear h1
  exact sZvt11
 ·have d1:(p==1)=false:=by simp[h1]
  by_cases h2:p=17
  ·have H:Hid ((20:Int)=qb0 p s):=by show(20:Int)=qb0 p s;simp[qb0,h2]
   have d2:(p==17)=true:=by simp[h2]
   clear h1 h2
   exact sZvt11
  ·have d2:(p==17)=false:=by simp[h2]
   by_cases h3:s=2
   ·have H:Hid ((60:Int)=qb0 p s):=by show(60:Int)=qb0 p s;simp[qb0,h1,h2,h3]
    have d3:(s==2)=true:=by simp[h3]
    clear h1 h2 h3
    exact sZvt11
   ·have d3:(s==2)=false:=by simp[h3]
    by_cases h4:s=1
    ·have H:Hid ((4:Int)=qb0 p s):=by show(4:Int)=qb0 p s;simp[qb0,h1,h2,h3,h4]
     have d4:(s==1)=true:=by simp[h4]
     clear h1 h2 h3 h4
     exact sZvt11
    ·have H:Hid ((6:Int)=qb0 p s):=by show(6:Int)=qb0 p s;simp[qb0,h1,h2,h3,h4]
     have d4:(s==1)=false:=by simp[h4]
     clear h1 h2 h3 h4
     exact sZvt11
theorem sZvt12{p:Prop}(h:p:=by
 go_wp2
 go_ret
 exact⟨rfl,rfl⟩):p:=h
theorem qz9(x:Int)(b:Nat)(hb:63 &&& b=b)(hl:b<64)(w:World):Calls prog 131 #[.int .i64 x,.int .i64 (b:Int)] w fun e w'=>e=.returned (.bool (has x b))/\w'=w:=by
 have hA:=qx6 x b hb hl
 have hH:=q70 x b
 clear hb hl
 go_enter func131,ntmps131
 exact sZvt12
theorem qw1(x:Int)(b:Nat)(hb:63 &&& b=b)(hl:b<64)(w:World):Calls prog 132 #[.int .i64 x,.int .i64 (b:Int)] w fun e w'=>e=.returned (.bool (qnb x b))/\w'=w:=by
 have hA:=qx6 x b hb hl
 have hH:=q65 x b
 clear hb hl
 go_enter func132,ntmps132
 exact sZvt12
theorem qct(b:Bool)(w:World):Calls prog 204 #[.bool b] w fun e w'=>e=.returned (.int .i64 (qcf b))/\w'=w:=by
 cases b
 ·go_enter func204,ntmps204
  exact sZvt12
 ·go_enter func204,ntmps204
  exact sZvt12
end Go.Proofs.YtnicenfgemkdnaaGreatDoor
