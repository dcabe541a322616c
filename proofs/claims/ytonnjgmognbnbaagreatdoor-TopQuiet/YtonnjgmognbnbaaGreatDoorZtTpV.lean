/-
  Of what a law stands on.
-/
import Derived.Test.YtonnjgmognbnbaaGreatDoorZtTpT
set_option linter.unusedSimpArgs false
set_option linter.unusedVariables false
namespace Go.Proofs.YtonnjgmognbnbaaGreatDoor
open _root_.Go.Proofs.Tryz Go.ChangeShapes Go.WideShapes Go.ChangeAt Go.RowKit
set_option maxHeartbeats 16000000
set_option maxRecDepth 100000
def a60:Ac:=⟨3,60,0,ByteArray.empty⟩
theorem qfhb{s:Nt}(h:Ci s)(ha:s.acts<300):(s.act a60).1.code=2\/((s.act a60).1.code=0/\(s.act a60).2.fs=[]/\(s.act a60).2.ms=[]/\(∀i,i<18->(s.act a60).2.f i=0)/\(∀i,i<8->(s.act a60).2.h i=0)):=by
 have hC:=h.act a60
 have eA:s.act a60=Nt.tick { s with acts:=s.acts+1 } 60:=by
  unfold Nt.act
  rw[if_neg om]
  rfl
 rw[eA] at hC ⊢
 have hT:=h.acts (s.acts+1);have F:=qsn hT 60;(have hd:∀x∈({ s with acts:=s.acts+1 }:Nt).fs,x.2.du<=({ s with acts:=s.acts+1 }:Nt).now+60:=fun x hx=>(hT.due x hx).2)
 generalize({ s with acts:=s.acts+1 }:Nt)=t at *
 by_cases hn:(60:Int)<1\/549755813888-t.now<60
 ·left
  unfold Nt.tick
  rw[if_pos hn]
  rfl
 ·right
  have e:t.tick 60=(⟨0,ByteArray.empty,false,((qbu (t.later 60) (t.dueL (t.now+60))).2.log (qbu (t.later 60) (t.dueL (t.now+60))).1).1⟩,((qbu (t.later 60) (t.dueL (t.now+60))).2.log (qbu (t.later 60) (t.dueL (t.now+60))).1).2):=by
   unfold Nt.tick
   rw[if_neg hn]
   rfl
  have hnow:(t.tick 60).2.now=t.now+60:=by
   rw[e];have h1:=(q5a (qbu (t.later 60) (t.dueL (t.now+60))).2 (qbu (t.later 60) (t.dueL (t.now+60))).1).now;have h2:(qbu (t.later 60) (t.dueL (t.now+60))).2.now=t.now+60:=F.rest.1
   exact h1.trans h2
  have hfs:(t.tick 60).2.fs=t.fs.filter fun x=>decide ((x.1:Int) ∉ t.dueL (t.now+60)):=by
   rw[e];have h1:=(q5a (qbu (t.later 60) (t.dueL (t.now+60))).2 (qbu (t.later 60) (t.dueL (t.now+60))).1).fs;(have h2:(qbu (t.later 60) (t.dueL (t.now+60))).2.fs=t.fs.filter fun x=>decide ((x.1:Int) ∉ t.dueL (t.now+60)):=F.fs)
   exact h1.trans h2
  (have hc:(t.tick 60).1.code=0:=by rw[e])
  have hnil:(t.tick 60).2.fs=[]:=by
   apply List.eq_nil_iff_forall_not_mem.2
   intro x hx;have h1:=(hC.due x hx).1
   rw[hnow] at h1
   rw[hfs] at hx
   have h2:=hd x (List.mem_filter.1 hx).1
   omega
  have hms:(t.tick 60).2.ms=[]:=by
   apply List.eq_nil_iff_forall_not_mem.2
   intro m hm
   obtain⟨x,hx,_⟩:=hC.used m hm
   rw[hnil] at hx
   cases hx
  refine⟨hc,hnil,hms,fun i hi=>?_,fun i hi=>?_⟩
  ·by_cases h0:(t.tick 60).2.f i=0
   ·exact h0
   ·obtain⟨m,hm,_⟩:=hC.good.own i hi h0
    rw[hms] at hm
    cases hm
  ·by_cases h0:(t.tick 60).2.h i=0
   ·exact h0
   ·obtain⟨m,hm,_⟩:=hC.good.home i hi h0
    rw[hms] at hm
    cases hm
theorem qecb(t q k:Int)(l:List UInt8):(msgT t q k l).size<=20+l.length:=by
 unfold msgT
 split
 ·rw[qck,qlj];exact Nat.le_refl _
 ·show ByteArray.empty.size<=_
  simp
theorem qf0b(n:Nat){es:List Ev}(h:es.length<=48):(logT n es).size<=1100:=by
 unfold logT
 split
 ·simp
 ·rw[ByteArray.size_append]
  have h1:(if n=0 then msgT 0 0 2 (tplB 6) else ByteArray.empty).size<=48:=by
   split
   ·have:=qecb 0 0 2 (tplB 6)
    rw[qqi] at this
    exact this
   ·simp
  have h2:(mesT (n:Int) es).size<=20+21*48:=by
   unfold mesT
   split
   ·simp
   ·split
    ·simp
    ·split
     ·have:=qecb (tmE es) (n:Int) 300 (setB es)
      rw[qnn] at this
      omega
     ·simp
  omega
end Go.Proofs.YtonnjgmognbnbaaGreatDoor
