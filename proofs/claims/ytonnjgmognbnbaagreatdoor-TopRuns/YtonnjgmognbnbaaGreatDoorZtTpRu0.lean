/-
  Of what a law stands on.
-/
import Derived.Test.YtonnjgmognbnbaaGreatDoorZto1
import Derived.Test.YtonnjgmognbnbaaGreatDoorZtTpO
set_option linter.unusedSimpArgs false
set_option linter.unusedVariables false
namespace Go.Proofs.YtonnjgmognbnbaaGreatDoor
open Go.Value renaming int → I,pointer → V
open Go.IntKind renaming i64 → Z
open _root_.Go.Proofs.Tryz Go.ChangeShapes Go.WideShapes Go.ChangeAt Go.RowKit Go.Maps
set_option maxHeartbeats 16000000
set_option maxRecDepth 100000
variable {ops:Array Oper}{rest:List Oper}{o:Oper}{a:Act}{w:World}{Q:Exit->Act->World->Prop}{n:Nat}
theorem qhqb(hgd:o.guard=none)(x y:Operand)(ho:o.op=.binOp .rem 3 x y 3)(m n r:Int)(hx:a.eval x=I Z m)(hy:a.eval y=I Z n)(hn:(n==0)=false)(hr:m.tmod n=r)(h:wpList prog ops Q rest (a.put o.dst (I Z r)) w):wpList prog ops Q (o::rest) a w:=
 wpList_plain hgd fun K hK=>by
  have h':=hK _ _ h;(have hn':n≠0:=by simpa using hn)
  subst hr
  unfold Oper.wp execOp
  simp only[ho,hx,hy]
  simp[go_sem,hn',underlying3]
  exact h'
theorem qiub(a:Option Addr)(n c k:Nat)(hk:k<=n)(hn:n<=c)(ha:0<n->∃b o,a=some ⟨b,o,none⟩)(w:World):(Instr.slice 44 (.slice a n c) none (some (I Z (k:Int))) none).run prog w=.ok (.slice a k c) w:=by
 (have hs:(sizeOf 23).run prog w=.ok 4 w:=by kernel_rfl);(have h1:(k:Int)<=(c:Int):=by omega);(have h2:¬(c:Int)<(k:Int):=by omega)
 cases a with
 | none=>
  have hn0:n=0:=by
   rcases Nat.eq_zero_or_pos n with h|h
   ·exact h
   ·obtain⟨b,o,e⟩:=ha h;cases e
  simp[go_sem,underlying44,hs,h1,h2]
 | some x=>simp[go_sem,underlying44,hs,h1,h2]
theorem qh4b(hgd:o.guard=none)(x y:Operand)(ho:o.op=.slice 44 x none (some y) none)(a0:Option Addr)(n c k:Nat)(hx:a.eval x=.slice a0 n c)(hy:a.eval y=I Z (k:Int))(hk:k<=n)(hn:n<=c)(ha:0<n->∃b o,a0=some ⟨b,o,none⟩)(h:wpList prog ops Q rest (a.put o.dst (.slice a0 k c)) w):wpList prog ops Q (o::rest) a w:=
 wpList_plain hgd fun K hK=>by
  have h':=hK _ _ h
  unfold Oper.wp execOp
  simp only[ho,Option.map_some,Option.map_none,hx,hy,Sem.run_bind,run_sliceAt_slice _ _ _ _ _ _ underlying44,qiub a0 n c k hk hn ha,Result.andThen_ok,Sem.run_pure]
  exact h'
def rpl(k:Rp):List Value:=k.cells.toList
theorem qi2b(k:Rp):(rpl k).toArray=k.cells:=by unfold rpl;simp
theorem qh1b(k:Rp):(prog.info? 27).map (·.size)=some (rpl k).length:=by kernel_rfl
theorem qjcb(k:Rp)(w:World):(Op.equalIn 10000 27 (.agg (rpl k).toArray) (.agg (rpl k).toArray)).run prog w=.ok true w:=by rw[qi2b];exact qhyb k w
theorem RpO.atL{base:Nat}{v:Value}{rs:List Rp}(h:RpO w base v rs)(j:Nat)(hj:j<rs.length){x:Rp}(hx:rs[j]=x):w.rangeAt (rpB v) (4*j) (rpl x):=h.at j hj hx
theorem AcAt.some{a:Option Addr}{cap:Nat}{es:List Ac}(h:AcAt w (.slice a n cap) es):0<n->∃b o,a=some ⟨b,o,none⟩:=by
 obtain⟨a1,c1,e,h1,_⟩:=h
 injection e with e1 e2 e3
 subst e1 e2 e3
 exact fun h=>⟨_,_,h1 h⟩
theorem qjgb(k:Int)(n:Nat):∃j:Nat,j<=n/\∃t:Int,k.tmod ((n:Int)+1)=t/\-((n:Int)+1)<t/\t<=n/\(t+n+1).tmod ((n:Int)+1)=(j:Int):=by
 obtain⟨h1,h2,h3,h4⟩:=qbrb k ((n:Int)+1) om;(have h5:=Int.emod_nonneg k (show(n:Int)+1≠0 by omega));(have h6:=Int.emod_lt_of_pos k (show(0:Int)<(n:Int)+1 by omega))
 generalize k.tmod ((n:Int)+1)=t at *
 refine⟨(k%((n:Int)+1)).toNat,by omega,t,rfl,by omega,by omega,?_⟩
 (rw[Int.tmod_eq_emod_of_nonneg om,Int.toNat_of_nonneg h5,show t+n+1=t+((n:Int)+1) by omega,Int.add_emod_right])
 by_cases ht:t<0
 ·have e:=h3 ht;(rw[show t=k%((n:Int)+1)+((n:Int)+1)*(-1) by omega,Int.add_mul_emod_self_left,Int.emod_emod_of_dvd _ (Int.dvd_refl _)])
 ·rw[h4 om,Int.emod_emod_of_dvd _ (Int.dvd_refl _)]
theorem qi3b{H:Type}{enc:TypeId×Value->H}{sp:Nat->Bool}{held:Bool}{fuel:Nat}{l:List Value}{x:DataW H×List MemPlace}(hf0:DataW.trod enc prog w 0 sp held fuel 44 l=some x){a:Option Addr}{c:Nat}(hl:l=[.slice a n c]):n<=c:=by
 rcases Go.Deep.open_slice underlying44 hf0 with⟨e,_⟩|⟨a,len,cap,m,n,D,Pl,e,hb,hle,_⟩
 ·rw[e] at hl
  injection hl with h1 _
  injection h1 with _ h2 h3
  omega
 ·rw[e] at hl
  injection hl with h1 _
  injection h1 with _ h2 h3
  omega
end Go.Proofs.YtonnjgmognbnbaaGreatDoor
