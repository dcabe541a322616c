/-
  Of what a law stands on.
-/
import Derived.Deep.Cut
import Derived.SizedLaws
import Derived.Test.YtonnjgmognbnbaaGreatDoorZti1
set_option linter.unusedSimpArgs false
set_option linter.unusedVariables false
namespace Go.Proofs.YtonnjgmognbnbaaGreatDoor
open Go.Value renaming int → I,pointer → V
open Go.IntKind renaming i64 → Z
open _root_.Go.Proofs.Tryz Go.ChangeShapes Go.WideShapes Go.ChangeAt Go.RowKit
set_option maxHeartbeats 16000000
set_option maxRecDepth 100000
variable {a:Act}{b:Nat}{p:Prop}{x:Int}{i:Bool}{t:TypeId}{w w1 w2:World}{cs:Array Value}{ops:Array Oper}{rest:List Oper}{o:Oper}{Q:Exit->Act->World->Prop}
def fl(x:Int):Nat:=(x%64).toNat
theorem q8e(n b:Nat)(hb:63 &&& b=b):n &&& b=(n%64) &&& b:=by
 have h:n &&& 63=n%64:=Nat.and_two_pow_sub_one_eq_mod n 6;rw[←h,Nat.and_assoc,hb]
theorem qx6(x:Int)(b:Nat)(hb:63 &&& b=b)(hl:b<64):bits .and .i64 x (b:Int)=((fl x &&& b:Nat):Int):=by
 have e1:(BitVec.ofInt 64 x).toNat%64=fl x:=by
  rw[BitVec.toNat_ofInt]
  unfold fl
  omega
 have e2:(BitVec.ofInt 64 (b:Int)).toNat=b:=by
  rw[BitVec.toNat_ofInt]
  omega
 have e3:(BitVec.ofInt 64 x &&& BitVec.ofInt 64 (b:Int)).toNat=fl x &&& b:=by
  rw[BitVec.toNat_and,e2,q8e _ _ hb,e1]
 have hle:fl x &&& b<=b:=Nat.and_le_right
 unfold bits
 show IntKind.i64.wrap ((BitVec.ofInt 64 x &&& BitVec.ofInt 64 (b:Int)).toNat:Int)=_
 rw[e3]
 simp[IntKind.wrap,IntKind.bits,IntKind.signed]
 omega
def has(x:Int)(b:Nat):Bool:=(fl x &&& b)==b
def qnb(x:Int)(b:Nat):Bool:=(fl x &&& b)==0
theorem q70(x:Int)(b:Nat):(((fl x &&& b:Nat):Int)==(b:Int))=has x b:=by
 unfold has
 rw[Bool.eq_iff_iff];simp only[beq_iff_eq];omega
theorem q65(x:Int)(b:Nat):(((fl x &&& b:Nat):Int)==(0:Int))=qnb x b:=by
 unfold qnb
 rw[Bool.eq_iff_iff];simp only[beq_iff_eq];omega
def qb0(p s:Int):Int:=if p=1 then 8 else if p=17 then 20 else if s=2 then 60 else if s=1 then 4 else 6
theorem q9b(p s:Int):0<=qb0 p s/\qb0 p s<=60:=by unfold qb0;split<;>(try split)<;>(try split)<;>(try split)<;>omega
structure Fl where
 pr:Int
 s:Int
 i:Int
 a:Int
 port:Int
 rem:Int
 rp:Int
 st:Int
 sd:Int
 du:Int
def fc(k:Fl):Array Value:=#[I Z k.pr,I Z k.s,I Z k.i,I Z k.a,I Z k.port,I Z k.rem,I Z k.rp,I Z k.st,I Z k.sd,I Z k.du]
def qcf(b:Bool):Int:=if b then 1 else 0
def qbi(k:Fl)(x:Int)(inw:Bool):Fl×Bool:=
 if has x 4 then({ k with st:=4 },k.st != 4)
 else if k.st=1/\inw=true/\has x 18=true then({ k with st:=2 },true)
 else if k.st=2/\has x 1=true then({ k with st:=3,sd:=qcf inw },true)
 else if k.st=3/\has x 1=true/\qcf inw≠k.sd then({ k with st:=4 },true)
 else if k.st=1 then(k,!inw&&has x 2)
 else(k,k.st==2)
def qem(k:Fl)(x:Int)(inw:Bool):Fl×Bool:=if k.pr=6 then qbi k x inw else if k.pr=17 then(k,!inw) else(k,true)
def qcu(k:Fl)(x:Int)(inw:Bool)(now:Int):Fl:=if (qem k x inw).2 then { (qem k x inw).1 with du:=now+qb0 (qem k x inw).1.pr (qem k x inw).1.st } else(qem k x inw).1
theorem qh6{k:IntKind}{a b:Int}(h:a=b):Ending.returned (.int k a)=.returned (.int k b):=by rw[h]
theorem qj6{a b:Bool}(h:a=b):Ending.returned (.bool a)=.returned (.bool b):=by rw[h]
theorem sZtt14(h:p:=by
 go_enter func163,ntmps163
 go_wp2
 go_ret
 exact⟨qh6 H.out,rfl⟩):p:=h
theorem qvq(p s:Int)(w:World):Calls prog 163 #[I Z p,I Z s] w fun e w'=>e=.returned (I Z (qb0 p s))/\w'=w:=by
 by_cases h1:p=1
 ·(have H:Hid ((8:Int)=qb0 p s):=by show(8:Int)=qb0 p s;simp[qb0,h1]);(have d1:(p==1)=true:=by simp[h1]);clear h1
  exact sZtt14
 ·(have d1:(p==1)=false:=by simp[h1])
  by_cases h2:p=17
  ·(have H:Hid ((20:Int)=qb0 p s):=by show(20:Int)=qb0 p s;simp[qb0,h2]);(have d2:(p==17)=true:=by simp[h2]);clear h1 h2
   exact sZtt14
  ·(have d2:(p==17)=false:=by simp[h2])
   by_cases h3:s=2
   ·(have H:Hid ((60:Int)=qb0 p s):=by show(60:Int)=qb0 p s;simp[qb0,h1,h2,h3]);(have d3:(s==2)=true:=by simp[h3]);clear h1 h2 h3
    exact sZtt14
   ·(have d3:(s==2)=false:=by simp[h3])
    by_cases h4:s=1
    ·(have H:Hid ((4:Int)=qb0 p s):=by show(4:Int)=qb0 p s;simp[qb0,h1,h2,h3,h4]);(have d4:(s==1)=true:=by simp[h4]);clear h1 h2 h3 h4
     exact sZtt14
    ·(have H:Hid ((6:Int)=qb0 p s):=by show(6:Int)=qb0 p s;simp[qb0,h1,h2,h3,h4]);(have d4:(s==1)=false:=by simp[h4]);clear h1 h2 h3 h4
     exact sZtt14
theorem sZtt19(h:p:=by
 go_wp2
 go_ret
 exact⟨rfl,rfl⟩):p:=h
theorem qz9(x:Int)(b:Nat)(hb:63 &&& b=b)(hl:b<64)(w:World):Calls prog 126 #[I Z x,I Z (b:Int)] w fun e w'=>e=.returned (.bool (has x b))/\w'=w:=by
 have hA:=qx6 x b hb hl;have hH:=q70 x b;clear hb hl
 go_enter func126,ntmps126
 exact sZtt19
theorem qw1(x:Int)(b:Nat)(hb:63 &&& b=b)(hl:b<64)(w:World):Calls prog 127 #[I Z x,I Z (b:Int)] w fun e w'=>e=.returned (.bool (qnb x b))/\w'=w:=by
 have hA:=qx6 x b hb hl;have hH:=q65 x b;clear hb hl
 go_enter func127,ntmps127
 exact sZtt19
theorem qct(b:Bool)(w:World):Calls prog 206 #[.bool b] w fun e w'=>e=.returned (I Z (qcf b))/\w'=w:=by
 cases b
 ·go_enter func206,ntmps206
  exact sZtt19
 ·go_enter func206,ntmps206
  exact sZtt19
theorem qal(k:Fl):(prog.info? 52).map (·.size)=some (fc k).size:=by kernel_rfl
theorem qa5(k:Fl):(fc k).all (·.oneCell')=true:=by kernel_rfl
def noF:Fl:=⟨0,0,0,0,0,0,0,0,0,0⟩
theorem qa9(w:World):(zeroValue 52).run prog w=.ok (.agg (fc noF)) w:=by kernel_rfl
theorem qc3(x:Int)(b:Nat)(hb:63 &&& b=b)(hl:b<64)(r:Bool)(h:has x b=r)(w:World):Calls prog 126 #[I Z x,I Z (b:Int)] w fun e w'=>e=.returned (.bool r)/\w'=w:=by rw[←h];exact qz9 x b hb hl w
theorem qdg{k k':Fl}{r:Bool}(h:qbi k x i=(k',r)):Ending.returned (.tuple #[.agg (fc k'),.bool r])=.returned (.tuple #[.agg (fc (qbi k x i).1),.bool (qbi k x i).2]):=by rw[h]
theorem Row.drew(h:Row t w b cs):Row t w.drew b cs:=h
theorem qbv{B:Nat}{w0:World}(h:Below B w0 w):Below B w0 w.drew:=⟨h.os,h.tape,h.output,h.size,h.block⟩
theorem hidC(h:p):Hid p:=h
theorem atC{P:Program}(p:Op)(ho:o.op=p)(h:wpList P ops Q (o::rest) a w):wpList P ops Q (o::rest) a w:=h
theorem sZtt11(h:p:=by
 go_wp2_with (first|(go_at_call 126;first|(go_fit (C4 _);refine m04 ?_)|(go_fit (C18 _);refine m04 ?_)|(go_fit (C1 _);refine m04 ?_))|((with_reducible refine atC (.store 3 (.tmp 17) (.const (I Z 4))) rfl ?_);refine m3y ?_;refine m1z ?_;intro w4 R3 t4 R6 hB)|((with_reducible refine atC (.store 3 (.tmp 31) (.const (I Z 2))) rfl ?_);refine m3z ?_;refine m1z ?_;clear R6 hB;intro w4 R3 t4 R6 hB)|((with_reducible refine atC (.store 3 (.tmp 41) (.const (I Z 3))) rfl ?_);refine m40 ?_;refine m1z ?_;clear R6 hB;intro w4 R3 t4 R6 hB)|((with_reducible refine atC (.store 3 (.tmp 42) (.tmp 40)) rfl ?_);refine qbb R3 rfl (.tmp 42) (.tmp 40) rfl 8 rfl _ rfl _ rfl (fc { k with st:=3,sd:=qcf inw }) rfl ?_;refine m1z ?_;clear R6 hB;intro w4 R3 t4 R6 hB)|((with_reducible refine atC (.store 3 (.tmp 57) (.const (I Z 4))) rfl ?_);refine m41 ?_;refine m1z ?_;clear R6 hB;intro w4 R3 t4 R6 hB)|(refine lx 52 (.tmp 3) _ R3 ?_)|(refine fx R3 _ _ _ ?_)|(refine m6r ?_;clear R3 hB;intro w6 R6 t6 R3 hB))
 (refine m03 ?_;refine bodyPost_ret (qbf (p:=6) (u:=7) rfl _ _ _ _ rfl R6 _ underlying52 rfl (qal _)) rfl ⟨qdg HR.out,hB⟩)):p:=h
theorem sZtt15(h:p:=by
 refine m1f ?_
 go_wp2_with fail
 (refine m03 ?_;refine bodyPost_ret (qbf (p:=6) (u:=7) rfl _ _ _ _ rfl R6 _ underlying52 rfl (qal _)) rfl ⟨qdg HR.out,hB⟩)):p:=h
theorem sZtt17(h:p:=by
 clear h4 h1 e1 e2
 exact sZtt11):p:=h
theorem sZtt110(h:p:=by
 clear h4 h1 e1 e2 e3 e5
 exact sZtt11):p:=h
theorem qjub(k:Fl)(x:Int)(inw:Bool)(w:World):Calls prog 186 #[.agg (fc k),I Z x,.bool inw] w fun e w'=>e=.returned (.tuple #[.agg (fc (qbi k x inw).1),.bool (qbi k x inw).2])/\Below w.heap.size w w':=by
 refine m2a ?_;intro hB
 go_enter func186,ntmps186
 go_upto_region 1 with(first|(refine bx 52 _ _ ?_;intro b3 w1 l3 R3 hb1;replace l3:=Nat.le_trans hB.size l3;refine m5a ?_;clear hB;intro hB)|(refine m71 ?_;clear R3 hB;intro b6 w2 R6 hb2 n36 l6 R3 hB))
 refine RD (fun W=>Row 52 W b3 (fc k)) R3 (fun _=>?_)
 (refine tq 0 (V (some ⟨b3,7,none⟩)) rfl R3 (tk 1 (I Z k.st) rfl (Or.inl ⟨by kernel_rfl,by intro w hS;have hc:=(hS.cell 7).trans (show(fc k)[7]?=some (I Z k.st) from rfl);go_simp⟩) R3 (tq 2 (.bool inw) rfl R3 ?_)));refine m5i ?_;refine AR [3] ?_
 refine AC (fun K hK=>?_) AZ
 go_simp;go_at_call 206;refine(qct inw _).mono ?_;refine m0h ?_
 go_wp2_with fail
 refine hK.out _ _ R3 (fun _=>?_)
 clear hK K;(try simp only[ZZ]);refine tq 4 (I Z k.st) rfl R3 (tq 5 (I Z (qcf inw)) rfl R3 ?_);refine m1f ?_;replace R3:=R3.drew;replace R6:=R6.drew;replace hB:=qbv hB
 cases h4:has x 4 with
 | true=>
  (have C4:=fun w=>qc3 x 4 (by decide) (by decide) _ h4 w);have HR:Hid (qbi k x inw=({ k with st:=4 },k.st != 4)):=hidC (by simp[qbi,h4]);clear h4
  exact sZtt11
 | false=>
  (have C4:=fun w=>qc3 x 4 (by decide) (by decide) _ h4 w)
  by_cases e1:k.st=1
  ·(have s1:(k.st==1)=true:=by simp[e1]);(have s2:(k.st==2)=false:=by simp[e1]);(have s3:(k.st==3)=false:=by simp[e1])
   cases inw with
   | true=>
    cases h18:has x 18 with
    | true=>
     (have C18:=fun w=>qc3 x 18 (by decide) (by decide) _ h18 w);have HR:Hid (qbi k x true=({ k with st:=2 },true)):=hidC (by simp[qbi,h4,e1,h18]);clear h4 h18 e1
     go_wp2_with (first|(go_at_call 126;first|(go_fit (C4 _);refine m04 ?_)|(go_fit (C18 _);refine m04 ?_)|(go_fit (C1 _);refine m04 ?_))|((with_reducible refine atC (.store 3 (.tmp 17) (.const (I Z 4))) rfl ?_);refine m3y ?_;refine m1z ?_;clear R6 hB;intro w4 R3 t4 R6 hB)|((with_reducible refine atC (.store 3 (.tmp 31) (.const (I Z 2))) rfl ?_);refine m3z ?_;refine m1z ?_;clear R6 hB;intro w4 R3 t4 R6 hB)|((with_reducible refine atC (.store 3 (.tmp 41) (.const (I Z 3))) rfl ?_);refine m40 ?_;refine m1z ?_;clear R6 hB;intro w4 R3 t4 R6 hB)|((with_reducible refine atC (.store 3 (.tmp 42) (.tmp 40)) rfl ?_);refine qbb R3 rfl (.tmp 42) (.tmp 40) rfl 8 rfl _ rfl _ rfl (fc { k with st:=3,sd:=qcf true }) rfl ?_;refine m1z ?_;clear R6 hB;intro w4 R3 t4 R6 hB)|((with_reducible refine atC (.store 3 (.tmp 57) (.const (I Z 4))) rfl ?_);refine m41 ?_;refine m1z ?_;clear R6 hB;intro w4 R3 t4 R6 hB)|(refine lx 52 (.tmp 3) _ R3 ?_)|(refine fx R3 _ _ _ ?_)|(refine m6r ?_;clear R3 hB;intro w6 R6 t6 R3 hB))
     (refine m03 ?_;refine bodyPost_ret (qbf (p:=6) (u:=7) rfl _ _ _ _ rfl R6 _ underlying52 rfl (qal _)) rfl ⟨qdg HR.out,hB⟩)
    | false=>
     (have C18:=fun w=>qc3 x 18 (by decide) (by decide) _ h18 w);have HR:Hid (qbi k x true=(k,false)):=hidC (by simp[qbi,h4,e1,h18]);clear h4 h18 e1
     go_upto_region 15 with(first|(go_at_call 126;first|(go_fit (C4 _);refine m04 ?_)|(go_fit (C18 _);refine m04 ?_)|(go_fit (C1 _);refine m04 ?_))|((with_reducible refine atC (.store 3 (.tmp 17) (.const (I Z 4))) rfl ?_);refine m3y ?_;refine m1z ?_;clear R6 hB;intro w4 R3 t4 R6 hB)|((with_reducible refine atC (.store 3 (.tmp 31) (.const (I Z 2))) rfl ?_);refine m3z ?_;refine m1z ?_;clear R6 hB;intro w4 R3 t4 R6 hB)|((with_reducible refine atC (.store 3 (.tmp 41) (.const (I Z 3))) rfl ?_);refine m40 ?_;refine m1z ?_;clear R6 hB;intro w4 R3 t4 R6 hB)|((with_reducible refine atC (.store 3 (.tmp 42) (.tmp 40)) rfl ?_);refine qbb R3 rfl (.tmp 42) (.tmp 40) rfl 8 rfl _ rfl _ rfl (fc { k with st:=3,sd:=qcf true }) rfl ?_;refine m1z ?_;clear R6 hB;intro w4 R3 t4 R6 hB)|((with_reducible refine atC (.store 3 (.tmp 57) (.const (I Z 4))) rfl ?_);refine m41 ?_;refine m1z ?_;clear R6 hB;intro w4 R3 t4 R6 hB)|(refine lx 52 (.tmp 3) _ R3 ?_)|(refine fx R3 _ _ _ ?_)|(refine m6r ?_;clear R3 hB;intro w6 R6 t6 R3 hB))
     refine RD (fun W=>Row 52 W b3 (fc k)) R3 (fun _=>?_)
     refine tk 0 (.agg (fc k)) rfl (yx 52 (.tmp 3) (fc k) (fun _ h=>h)) R3 (tq 1 (.bool true) rfl R3 (tq 2 (.bool false) rfl R3 ?_))
     refine m5i ?_;refine tq 3 (.bool false) rfl R3 (tk 4 undef rfl (Or.inr ⟨by kernel_rfl,rfl⟩) R3 ?_);refine m5i ?_;refine AR [5] ?_
     refine AC (fun K hK=>?_) AZ
     rw[if_neg (ne_true_of_eq_false kr)]
     refine hK.out _ _ R3 (fun _=>?_)
     clear hK K;(try simp only[ZZ]);refine tq 6 (.bool false) rfl R3 ?_;refine m5i ?_;refine AR [7] ?_
     refine AP (fun K hK=>?_) AZ
     refine sy 52 (.tmp 6) (.tmp 62) (fc k) R6 ?_;intro w10 R6 t10;(first|replace R3:=t10.row R3 n36|replace R3:=t10.row R3.drew n36);(first|replace hB:=t10.below _ _ l6 hB|replace hB:=t10.below _ _ l6 (qbv hB))
     refine hK.out _ _ R3 (fun _=>?_)
     clear hK K;(try simp only[ZZ]);refine tq 8 (.bool false) rfl R3 ?_
     exact sZtt15
   | false=>
    obtain⟨B2,h2⟩:∃B,has x 2=B:=⟨_,rfl⟩
    (have C2:=fun w=>qc3 x 2 (by decide) (by decide) _ h2 w);have HR:Hid (qbi k x false=(k,B2)):=hidC (by simp[qbi,h4,e1,h2]);clear h4 h2 e1
    go_upto_region 15 with(first|(go_at_call 126;first|(go_fit (C4 _);refine m04 ?_)|(go_fit (C18 _);refine m04 ?_)|(go_fit (C1 _);refine m04 ?_))|((with_reducible refine atC (.store 3 (.tmp 17) (.const (I Z 4))) rfl ?_);refine m3y ?_;refine m1z ?_;clear R6 hB;intro w4 R3 t4 R6 hB)|((with_reducible refine atC (.store 3 (.tmp 31) (.const (I Z 2))) rfl ?_);refine m3z ?_;refine m1z ?_;clear R6 hB;intro w4 R3 t4 R6 hB)|((with_reducible refine atC (.store 3 (.tmp 41) (.const (I Z 3))) rfl ?_);refine m40 ?_;refine m1z ?_;clear R6 hB;intro w4 R3 t4 R6 hB)|((with_reducible refine atC (.store 3 (.tmp 42) (.tmp 40)) rfl ?_);refine qbb R3 rfl (.tmp 42) (.tmp 40) rfl 8 rfl _ rfl _ rfl (fc { k with st:=3,sd:=qcf false }) rfl ?_;refine m1z ?_;clear R6 hB;intro w4 R3 t4 R6 hB)|((with_reducible refine atC (.store 3 (.tmp 57) (.const (I Z 4))) rfl ?_);refine m41 ?_;refine m1z ?_;clear R6 hB;intro w4 R3 t4 R6 hB)|(refine lx 52 (.tmp 3) _ R3 ?_)|(refine fx R3 _ _ _ ?_)|(refine m6r ?_;clear R3 hB;intro w6 R6 t6 R3 hB))
    refine RD (fun W=>Row 52 W b3 (fc k)) R3 (fun _=>?_)
    refine tk 0 (.agg (fc k)) rfl (yx 52 (.tmp 3) (fc k) (fun _ h=>h)) R3 (tq 1 (.bool false) rfl R3 (tq 2 (.bool true) rfl R3 ?_))
    refine m5i ?_;refine tq 3 (.bool true) rfl R3 (tq 4 (I Z x) rfl R3 ?_);refine m5i ?_;refine AR [5] ?_
    refine AC (fun K hK=>?_) AZ
    go_simp;go_at_call 126;refine(C2 _).mono ?_;refine m0h ?_
    go_wp2_with fail
    refine hK.out _ _ R3 (fun _=>?_)
    clear hK K;(try simp only[ZZ]);refine tq 6 (.bool B2) rfl R3 ?_;refine m5i ?_;refine AR [7] ?_
    refine AP (fun K hK=>?_) AZ
    refine sy 52 (.tmp 6) (.tmp 62) (fc k) R6 ?_;intro w10 R6 t10;(first|replace R3:=t10.row R3 n36|replace R3:=t10.row R3.drew n36);(first|replace hB:=t10.below _ _ l6 hB|replace hB:=t10.below _ _ l6 (qbv hB))
    refine hK.out _ _ R3 (fun _=>?_)
    clear hK K;(try simp only[ZZ]);refine tq 8 (.bool B2) rfl R3 ?_
    exact sZtt15
  ·(have s1:(k.st==1)=false:=by simp[e1])
   cases h1:has x 1 with
   | true=>
    (have C1:=fun w=>qc3 x 1 (by decide) (by decide) _ h1 w)
    by_cases e2:k.st=2
    ·(have s2:(k.st==2)=true:=by simp[e2]);have HR:Hid (qbi k x inw=({ k with st:=3,sd:=qcf inw },true)):=hidC (by simp[qbi,h4,h1,e2])
     exact sZtt17
    ·(have s2:(k.st==2)=false:=by simp[e2])
     by_cases e3:k.st=3
     ·(have s3:(k.st==3)=true:=by simp[e3])
      by_cases e5:qcf inw=k.sd
      ·(have s5:(qcf inw != k.sd)=false:=by simp[e5]);have HR:Hid (qbi k x inw=(k,false)):=hidC (by simp[qbi,h4,h1,e3,e5])
       exact sZtt110
      ·(have s5:(qcf inw != k.sd)=true:=by simp[e5]);have HR:Hid (qbi k x inw=({ k with st:=4 },true)):=hidC (by simp[qbi,h4,h1,e3,e5])
       exact sZtt110
     ·(have s3:(k.st==3)=false:=by simp[e3]);have HR:Hid (qbi k x inw=(k,false)):=hidC (by simp[qbi,h4,e1,e2,e3]);clear h4 h1 e1 e2 e3
      exact sZtt11
   | false=>
    (have C1:=fun w=>qc3 x 1 (by decide) (by decide) _ h1 w)
    by_cases e2:k.st=2
    ·(have s2:(k.st==2)=true:=by simp[e2]);(have s3:(k.st==3)=false:=by simp[e2]);have HR:Hid (qbi k x inw=(k,true)):=hidC (by simp[qbi,h4,h1,e2])
     exact sZtt17
    ·(have s2:(k.st==2)=false:=by simp[e2]);have HR:Hid (qbi k x inw=(k,false)):=hidC (by simp[qbi,h4,h1,e1,e2])
     cases s3:(k.st==3) with
     | true=>
      exact sZtt17
     | false=>
      exact sZtt17
theorem quk(k:Fl)(x:Int)(w:World):Calls prog 186 #[.agg (fc k),I Z x,.bool true] w fun e w'=>e=.returned (.tuple #[.agg (fc (qbi k x true).1),.bool (qbi k x true).2])/\Below w.heap.size w w':=qjub k x true w
theorem qub(k:Fl)(x:Int)(w:World):Calls prog 186 #[.agg (fc k),I Z x,.bool false] w fun e w'=>e=.returned (.tuple #[.agg (fc (qbi k x false).1),.bool (qbi k x false).2])/\Below w.heap.size w w':=qjub k x false w
theorem qzt(k:Fl)(x:Int)(inw:Bool)(k':Fl)(r:Bool)(h:qbi k x inw=(k',r))(w:World):Calls prog 186 #[.agg (fc k),I Z x,.bool inw] w fun e w'=>e=.returned (.tuple #[.agg (fc k'),.bool r])/\Below w.heap.size w w':=by
 (have h1:k'=(qbi k x inw).1:=by rw[h]);(have h2:r=(qbi k x inw).2:=by rw[h]);rw[h1,h2]
 cases inw
 ·exact qub k x w
 ·exact quk k x w
theorem sZtt12(h:p:=by
 obtain⟨rfl,rfl⟩:=Prod.mk.inj h
 clear h e6 e17
 go_enter func162,ntmps162
 go_wp2_with (first|(refine bx 52 _ _ ?_;intro b3 w1 l3 R3 hb1;replace l3:=Nat.le_trans hB.size l3;refine m5a ?_;clear hB;intro hB)|(refine m71 ?_;clear R3 hB;intro b6 w2 R6 hb2 n36 l6 R3 hB)|(refine fx R3 _ _ _ ?_)|(refine lx 52 (.tmp 3) (fc k) R3 ?_)|(refine sx 52 (.tmp 6) _ (fc k) R6 ?_;intro w6 R6 t6;replace R3:=t6.row R3 n36;replace hB:=t6.below _ _ l6 hB))
 (refine m03 ?_;refine bodyPost_ret (qbf (p:=6) (u:=7) rfl _ _ _ _ rfl R6 _ underlying52 rfl (qal _)) rfl ⟨rfl,hB⟩)):p:=h
theorem q78(k:Fl)(x:Int)(inw:Bool)(k':Fl)(r:Bool)(h:qem k x inw=(k',r))(w:World):Calls prog 162 #[.agg (fc k),I Z x,.bool inw] w fun e w'=>e=.returned (.tuple #[.agg (fc k'),.bool r])/\Below w.heap.size w w':=by
 refine m2a ?_;intro hB
 unfold qem at h
 by_cases e6:k.pr=6
 ·rw[if_pos e6] at h
  (have d6:(k.pr==6)=true:=by simp[e6]);(have CT:=fun w=>qzt k x inw k' r h w);clear h e6
  go_enter func162,ntmps162
  go_wp2_with (first|(refine bx 52 _ _ ?_;intro b3 w1 l3 R3 hb1;replace l3:=Nat.le_trans hB.size l3;refine m5a ?_;clear hB;intro hB)|(refine m71 ?_;clear R3 hB;intro b6 w2 R6 hb2 n36 l6 R3 hB)|(refine fx R3 _ _ _ ?_)|(refine lx 52 (.tmp 3) (fc k) R3 ?_)|(refine sx 52 (.tmp 6) _ (fc k') R6 ?_;intro w6 R6 t6;replace R3:=t6.row R3 n36;replace hB:=t6.below _ _ l6 hB)|(go_at_call 186;go_fit (CT _);rintro e w5 ⟨rfl,hb5⟩;replace R3:=R3.below hb5;replace R6:=R6.below hb5;refine m2s ?_;clear hB;intro hB))
  (refine m03 ?_;refine bodyPost_ret (qbf (p:=6) (u:=7) rfl _ _ _ _ rfl R6 _ underlying52 rfl (qal _)) rfl ⟨rfl,hB⟩)
 ·rw[if_neg e6] at h
  (have d6:(k.pr==6)=false:=by simp[e6])
  by_cases e17:k.pr=17
  ·rw[if_pos e17] at h
   (have d17:(k.pr==17)=true:=by simp[e17])
   exact sZtt12
  ·rw[if_neg e17] at h
   (have d17:(k.pr==17)=false:=by simp[e17])
   exact sZtt12
theorem qu1{k k':Fl}{now:Int}(h:qcu k x i now=k'):Ending.returned (.agg (fc k'))=.returned (.agg (fc (qcu k x i now))):=by rw[h]
theorem qqt(k:Fl)(p:Pkt)(inw:Bool)(now:Int)(h0:0<=now)(h1:now<=1099511627776)(w:World):Calls prog 125 #[.agg (fc k),pv p,.bool inw,I Z now] w fun e w'=>e=.returned (.agg (fc (qcu k p.flags inw now)))/\Below w.heap.size w w':=by
 refine m2a ?_;intro hB
 obtain⟨k1,r,hT⟩:∃k1 r,qem k p.flags inw=(k1,r):=⟨_,_,rfl⟩
 (have CS:=fun w=>q78 k p.flags inw k1 r hT w);(have CL:=fun w=>qvq k1.pr k1.st w);(have hww:wrap64 (now+qb0 k1.pr k1.st)=now+qb0 k1.pr k1.st:=by have:=q9b k1.pr k1.st;unfold wrap64;omega)
 unfold pv
 cases r
 ·(have H:Hid (qcu k p.flags inw now=k1):=by show qcu k p.flags inw now=k1;simp[qcu,hT]);clear hT h0 h1 hww
  go_enter func125,ntmps125
  go_wp2_with (first|(refine bx 52 (.tmp 0) _ ?_;intro b4 w1 l4 R4 hb1;replace l4:=Nat.le_trans hB.size l4;refine m5a ?_;clear hB;intro hB)|(refine bx 61 (.tmp 1) _ ?_;intro b5 w1 l5 R5 hb1;replace R4:=R4.below hb1;refine m5a ?_;clear hB;intro hB)|(refine ax 8 52 qa9 ?_;intro b8 w2 l8 R8 hb2;replace l8:=Nat.le_trans hB.size l8;replace R4:=R4.below hb2;replace R5:=R5.below hb2;replace hB:=hB.trans (hb2.mono hB.size))|(refine fx R5 _ _ _ ?_)|(refine lx 52 (.tmp 4) (fc k) R4 ?_)|(go_at_call 162;go_fit (CS _);rintro e w5 ⟨rfl,hb5⟩;replace R8:=R8.below hb5;clear R4 R5;refine m2s ?_;clear hB;intro hB)|(refine ax 9 52 qa9 ?_;intro b9 w3 l9 R9 hb3;have n89:=R8.ne l9;replace l9:=Nat.le_trans hB.size l9;replace R8:=R8.below hb3;replace hB:=hB.trans (hb3.mono hB.size))|(refine sx 52 (.tmp 9) _ (fc k1) R9 ?_;intro w6 R9 t6;replace R8:=t6.row R8 n89;replace hB:=t6.below _ _ l9 hB)|(refine lx 52 (.tmp 9) (fc k1) R9 ?_)|(refine sx 52 (.tmp 8) _ (fc k1) R8 ?_;intro w7 R8 t7;replace hB:=t7.below _ _ l8 hB))
  (refine m03 ?_;refine bodyPost_ret (qai (p:=8) rfl _ _ _ _ rfl R8 _ underlying52 rfl (qal _)) rfl ⟨qu1 H.out,hB⟩)
 ·(have H:Hid (qcu k p.flags inw now={ k1 with du:=now+qb0 k1.pr k1.st }):=by show qcu k p.flags inw now={ k1 with du:=now+qb0 k1.pr k1.st };simp[qcu,hT]);clear hT h0 h1
  go_enter func125,ntmps125
  go_wp2_with (first|(refine bx 52 (.tmp 0) _ ?_;intro b4 w1 l4 R4 hb1;replace l4:=Nat.le_trans hB.size l4;refine m5a ?_;clear hB;intro hB)|(refine bx 61 (.tmp 1) _ ?_;intro b5 w1 l5 R5 hb1;replace R4:=R4.below hb1;refine m5a ?_;clear hB;intro hB)|(refine ax 8 52 qa9 ?_;intro b8 w2 l8 R8 hb2;replace l8:=Nat.le_trans hB.size l8;replace R4:=R4.below hb2;replace R5:=R5.below hb2;replace hB:=hB.trans (hb2.mono hB.size))|(refine fx R5 _ _ _ ?_)|(refine lx 52 (.tmp 4) (fc k) R4 ?_)|(go_at_call 162;go_fit (CS _);rintro e w5 ⟨rfl,hb5⟩;replace R8:=R8.below hb5;clear R4 R5;refine m2s ?_;clear hB;intro hB)|(refine ax 9 52 qa9 ?_;intro b9 w3 l9 R9 hb3;have n89:=R8.ne l9;replace l9:=Nat.le_trans hB.size l9;replace R8:=R8.below hb3;replace hB:=hB.trans (hb3.mono hB.size))|(refine sx 52 (.tmp 9) _ (fc k1) R9 ?_;intro w6 R9 t6;replace R8:=t6.row R8 n89;replace hB:=t6.below _ _ l9 hB)|(refine fx R9 _ _ _ ?_)|(go_at_call 163;go_fit (CL _);refine m04 ?_)|(refine qbb R9 rfl _ _ rfl _ rfl _ rfl _ rfl (fc { k1 with du:=now+qb0 k1.pr k1.st }) (by first|rfl|(rw[hww];rfl)) ?_;intro w4 R9 t4;replace R8:=t4.row R8 n89;replace hB:=t4.below _ _ l9 hB)|(refine lx 52 (.tmp 9) (fc { k1 with du:=now+qb0 k1.pr k1.st }) R9 ?_)|(refine sx 52 (.tmp 8) _ (fc { k1 with du:=now+qb0 k1.pr k1.st }) R8 ?_;intro w7 R8 t7;replace hB:=t7.below _ _ l8 hB))
  (refine m03 ?_;refine bodyPost_ret (qai (p:=8) rfl _ _ _ _ rfl R8 _ underlying52 rfl (qal _)) rfl ⟨qu1 H.out,hB⟩)
structure qhh(b:Nat)(w w':World):Prop where
 size:w.heap.size<=w'.heap.size
 other:∀r,r≠b->r<w.heap.size->w'.heap[r]?=w.heap[r]?
 below:∀B w0,B<=b->Below B w0 w->Below B w0 w'
theorem qhh.refl(b:Nat)(w:World):qhh b w w:=⟨Nat.le_refl _,fun _ _ _=>rfl,fun _ _ _ h=>h⟩
theorem qhh.grow(h:qhh b w w1)(hlt:b<w.heap.size)(hb:Below w1.heap.size w1 w2):qhh b w w2:=
 ⟨Nat.le_trans h.size hb.size,fun r hr hl=>(hb.block r (Nat.lt_of_lt_of_le hl h.size)).trans (h.other r hr hl),fun B w0 hB h0=>(h.below B w0 hB h0).trans (hb.mono (Nat.le_trans (Nat.le_of_lt (Nat.lt_of_le_of_lt hB hlt)) h.size))⟩
theorem qhh.turn(h:qhh b w w1)(t:qbl b w1 w2):qhh b w w2:=
 ⟨t.size▸h.size,fun r hr hl=>(t.other r hr).trans (h.other r hr hl),fun B w0 hB h0=>t.below B w0 hB (h.below B w0 hB h0)⟩
theorem qhh.drew(h:qhh b w w1):qhh b w w1.drew:=⟨h.size,h.other,fun B w0 hB h0=>qbv (h.below B w0 hB h0)⟩
theorem qhh.row{r:Nat}{w':World}(h:qhh b w w')(R:Row t w r cs)(hne:r≠b):Row t w' r cs:=(h.other r hne R.lt).trans R
theorem qd4{K:Act->World->Prop}(R:Row t w b cs)(x y:Operand)(ho:o.op=.store 3 x y)(f:Nat)(hx:a.eval x=V (some ⟨b,f,none⟩))(n:Int)(hy:a.eval y=I Z n)(m:Int)(hc:cs[f]?=some (I Z m))(ds:Array Value)(hd:cs.setIfInBounds f (I Z n)=ds)(hr:∀w',Row t w' b ds->qbl b w w'->K (a.put o.dst undef) w'):o.wp prog a w K Q:=by
 refine m6s ?_;intro hcell hfr
 unfold Oper.wp execOp
 simp only[ho,hx,hy]
 simp[go_sem,hcell,hfr,underlying3]
 exact hr _ (hd▸R.set) (qfx _ _ _ _)
theorem qpu(hgd:o.guard=none)(x:Operand)(ho:o.op=.box 3 x)(n:Int)(hx:a.eval x=I Z n)(hr:∀b w',w.heap.size<=b->Row 3 w' b #[I Z n]->Below w.heap.size w w'->wpList prog ops Q rest (a.put o.dst (V (some ⟨b,0,none⟩))) w'):wpList prog ops Q (o::rest) a w:=
 wpList_plain hgd fun K hK=>by
  have h':=hr w.heap.size (w.alloc (.cells #[I Z n] 3)) (Nat.le_refl _) (Row.new 3 w _) ((Below.refl _ _).alloc (Nat.le_refl _) _)
  unfold Oper.wp execOp
  simp only[ho,hx,Instr.box,newVar,Value.cells]
  simp[go_sem]
  exact hK _ _ h'
def pcl(p:Pkt):Array Value:=#[I Z p.proto,I Z p.src,I Z p.sport,I Z p.dst,I Z p.dport,I Z p.ttl,I Z p.id,I Z p.flags,I Z p.seq,I Z p.ack,I Z p.win,.string p.body]
theorem qa0(p:Pkt):(prog.info? 61).map (·.size)=some (pcl p).size:=by kernel_rfl
def qao(p:Int):Int:=if p=6 then 1 else 2
theorem sZtt13(h:p:=by
 go_wp2_with (first|(refine bx 61 (.tmp 0) (pcl p) ?_;intro b1 w1 l1 R1 hb1;refine m5a ?_;intro hB)|(refine qae R1 _ rfl ?_ _ rfl _ rfl ?_;· rfl))
 go_ret
 first
  | exact⟨qh6 HF.out,hB⟩
  | exact⟨qj6 HF.out,hB⟩):p:=h
theorem sZtt18(h:p:=by
 clear e6
 go_enter func131,ntmps131
 exact sZtt13):p:=h
theorem qcd(p:Pkt)(w:World):Calls prog 131 #[.agg (pcl p)] w fun e w'=>e=.returned (I Z (qao p.proto))/\Below w.heap.size w w':=by
 refine m2a ?_;intro hB
 by_cases e6:p.proto=6
 ·(have d6:(p.proto==6)=true:=by simp[e6]);(have HF:Hid ((1:Int)=qao p.proto):=by show(1:Int)=qao p.proto;simp[qao,e6])
  exact sZtt18
 ·(have d6:(p.proto==6)=false:=by simp[e6]);(have HF:Hid ((2:Int)=qao p.proto):=by show(2:Int)=qao p.proto;simp[qao,e6])
  exact sZtt18
def begB(p:Pkt):Bool:=p.proto==17||(p.proto==1&&p.flags==8)||(p.proto==6&&has p.flags 2&&qnb p.flags 21)
theorem qyx(x:Int)(b:Nat)(hb:63 &&& b=b)(hl:b<64)(r:Bool)(h:qnb x b=r)(w:World):Calls prog 127 #[I Z x,I Z (b:Int)] w fun e w'=>e=.returned (.bool r)/\w'=w:=by rw[←h];exact qw1 x b hb hl w
theorem sZtt16(h:p:=by
 go_enter func90,ntmps90
 exact sZtt13):p:=h
theorem qzv(p:Pkt)(w:World):Calls prog 90 #[.agg (pcl p)] w fun e w'=>e=.returned (.bool (begB p))/\Below w.heap.size w w':=by
 refine m2a ?_;intro hB
 obtain⟨r,hr⟩:∃r,begB p=r:=⟨_,rfl⟩
 rw[hr]
 unfold begB at hr
 by_cases e17:p.proto=17
 ·(have d17:(p.proto==17)=true:=by simp[e17]);(have HF:Hid (true=r):=by show true=r;rw[←hr];simp[e17]);clear hr e17
  exact sZtt16
 ·(have d17:(p.proto==17)=false:=by simp[e17])
  by_cases e1:p.proto=1
  ·(have d1:(p.proto==1)=true:=by simp[e1]);(have HF:Hid ((p.flags==8)=r):=by show(p.flags==8)=r;rw[←hr];simp[e1]);clear hr e17 e1
   exact sZtt16
  ·(have d1:(p.proto==1)=false:=by simp[e1])
   by_cases e6:p.proto=6
   ·(have d6:(p.proto==6)=true:=by simp[e6])
    cases h2:has p.flags 2 with
    | true=>
     (have C2:=fun w=>qc3 p.flags 2 (by decide) (by decide) _ h2 w);(have C21:=fun w=>qyx p.flags 21 (by decide) (by decide) _ rfl w);(have HF:Hid (qnb p.flags 21=r):=by show qnb p.flags 21=r;rw[←hr];simp[e6,h2]);clear hr e17 e1 e6 h2
     go_enter func90,ntmps90
     go_wp2_with (first|(refine bx 61 (.tmp 0) (pcl p) ?_;intro b1 w1 l1 R1 hb1;refine m5a ?_;clear hB;intro hB)|(refine qae R1 _ rfl ?_ _ rfl _ rfl ?_;· rfl)|(go_at_call 126;go_fit (C2 _);refine m04 ?_)|(go_at_call 127;go_fit (C21 _);refine m04 ?_))
     go_ret
     exact⟨qj6 HF.out,hB⟩
    | false=>
     (have C2:=fun w=>qc3 p.flags 2 (by decide) (by decide) _ h2 w);(have HF:Hid (false=r):=by show false=r;rw[←hr];simp[e6,h2]);clear hr e17 e1 e6 h2
     go_enter func90,ntmps90
     go_wp2_with (first|(refine bx 61 (.tmp 0) (pcl p) ?_;intro b1 w1 l1 R1 hb1;refine m5a ?_;clear hB;intro hB)|(refine qae R1 _ rfl ?_ _ rfl _ rfl ?_;· rfl)|(go_at_call 126;go_fit (C2 _);refine m04 ?_))
     go_ret
     exact⟨qj6 HF.out,hB⟩
   ·(have d6:(p.proto==6)=false:=by simp[e6]);(have HF:Hid (false=r):=by show false=r;rw[←hr];simp[e17,e1,e6]);clear hr e17 e1 e6
    exact sZtt16
theorem q7u(k:Fl)(w:World):(Op.equalIn 10000 52 (.agg (fc k)) (.agg (fc k))).run prog w=.ok true w:=by
 rw[show(10000:Nat)=9999+1 from rfl,run_equalIn_struct w 9999 52 _ _ kr kr]
 unfold fc
 simp[go_sem,underlying52,underlying50]
def Fl.wf(k:Fl):Prop:=(Lit.int .i64 k.pr).wf=true/\(Lit.int .i64 k.s).wf=true/\(Lit.int .i64 k.i).wf=true/\(Lit.int .i64 k.a).wf=true/\(Lit.int .i64 k.port).wf=true/\(Lit.int .i64 k.rem).wf=true/\(Lit.int .i64 k.rp).wf=true/\(Lit.int .i64 k.st).wf=true/\(Lit.int .i64 k.sd).wf=true/\(Lit.int .i64 k.du).wf=true
def fd(H:Type)(k:Fl):DataW H:=.agg [.agg [.lit (.int .i64 k.pr),.lit (.int .i64 k.s),.lit (.int .i64 k.i),.lit (.int .i64 k.a),.lit (.int .i64 k.port)],.lit (.int .i64 k.rem),.lit (.int .i64 k.rp),.lit (.int .i64 k.st),.lit (.int .i64 k.sd),.lit (.int .i64 k.du)]
end Go.Proofs.YtonnjgmognbnbaaGreatDoor
