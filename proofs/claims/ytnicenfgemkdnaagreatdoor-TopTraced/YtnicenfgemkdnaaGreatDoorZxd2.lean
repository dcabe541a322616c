/-
  Of what a law stands on.
-/
import Derived.Test.YtnicenfgemkdnaaGreatDoorZxd1
set_option linter.unusedSimpArgs false
set_option linter.unusedVariables false
namespace Go.Proofs.YtnicenfgemkdnaaGreatDoor
open _root_.Go.Proofs.Tryz
set_option maxHeartbeats 16000000
set_option maxRecDepth 100000
open Go.ChangeShapes Go.WideShapes Go.ChangeAt Go.RowKit
theorem qlt{x:Int}(h0:0<=x)(h8:x<=8):(Lit.int .i64 x).wf=true:=by simp[Lit.wf,IntKind.min,IntKind.max,IntKind.bits,IntKind.signed];omega
def wfH(h:Nat->Int):Prop:=∀i,i<8->(Lit.int .i64 (h i)).wf=true
theorem qul(f:Nat->Int)(hf:wfF f):prog.keyLits 3 32 (Value.agg (oc f)).cells.toList=some [.int .i64 (f 0),.int .i64 (f 1),.int .i64 (f 2),.int .i64 (f 3),.int .i64 (f 4),.int .i64 (f 5),.int .i64 (f 6),.int .i64 (f 7),.int .i64 (f 8),.int .i64 (f 9),.int .i64 (f 10),.int .i64 (f 11),.int .i64 (f 12),.int .i64 (f 13),.int .i64 (f 14),.int .i64 (f 15),.int .i64 (f 16),.int .i64 (f 17)]:=by
 have c44:prog.cellsOf 32=18:=by kernel_rfl
 have c43:prog.cellsOf 31=6:=by kernel_rfl
 have c3:prog.cellsOf 3=1:=by kernel_rfl
 have h0:=hf 0 om
 have h1:=hf 1 om
 have h2:=hf 2 om
 have h3:=hf 3 om
 have h4:=hf 4 om
 have h5:=hf 5 om
 have h6:=hf 6 om
 have h7:=hf 7 om
 have h8:=hf 8 om
 have h9:=hf 9 om
 have h10:=hf 10 om
 have h11:=hf 11 om
 have h12:=hf 12 om
 have h13:=hf 13 om
 have h14:=hf 14 om
 have h15:=hf 15 om
 have h16:=hf 16 om
 have h17:=hf 17 om
 simp[Program.keyLits,Value.cells,oc,underlying32,underlying31,underlying3,c44,c43,c3,List.range,List.range.loop,h0,h1,h2,h3,h4,h5,h6,h7,h8,h9,h10,h11,h12,h13,h14,h15,h16,h17]
def hc8(h:Nat->Int):Array Value:=(hcl h).toArray
theorem qtz(h:Nat->Int)(hh:wfH h):prog.keyLits 2 36 (Value.agg (hc8 h)).cells.toList=some [.int .i64 (h 0),.int .i64 (h 1),.int .i64 (h 2),.int .i64 (h 3),.int .i64 (h 4),.int .i64 (h 5),.int .i64 (h 6),.int .i64 (h 7)]:=by
 have c8:prog.cellsOf 36=8:=by kernel_rfl
 have c3:prog.cellsOf 3=1:=by kernel_rfl
 have h0:=hh 0 om
 have h1:=hh 1 om
 have h2:=hh 2 om
 have h3:=hh 3 om
 have h4:=hh 4 om
 have h5:=hh 5 om
 have h6:=hh 6 om
 have h7:=hh 7 om
 simp[Program.keyLits,Value.cells,hc8,hcl,underlying36,underlying3,c8,c3,List.range,List.range.loop,h0,h1,h2,h3,h4,h5,h6,h7]
def eqTo(f g:Nat->Int)(n:Nat):Bool:=(List.range n).all fun k=>f k==g k
theorem qjn(f g:Nat->Int)(n:Nat):eqTo f g n=true↔∀k,k<n->f k=g k:=by simp[eqTo]
theorem qv1(f g:Nat->Int)(n:Nat):((List.range n).map fun k=>Lit.int .i64 (f k))=((List.range n).map fun k=>Lit.int .i64 (g k))↔eqTo f g n=true:=by
 rw[qjn,List.map_inj_left]
 constructor
 ·intro h k hk;have:=h k (List.mem_range.2 hk);injection this
 ·intro h k hk;rw[h k (List.mem_range.1 hk)]
theorem qq8(f g:Nat->Int)(hf:wfF f)(hg:wfF g)(w:World):(Op.equalIn 10000 32 (.agg (oc f)) (.agg (oc g))).run prog w=.ok (eqTo f g 18) w:=by
 obtain⟨r,h1,h2⟩:=run_equalIn_deep (P:=prog) 9997 3 32 kr w 3 3 (.agg (oc f)) (.agg (oc g)) _ _ kr kr (qul f hf) (qul g hg)
 have e:r=eqTo f g 18:=by
  rw[Bool.eq_iff_iff,←qv1 f g 18]
  exact h2
 rw[e] at h1
 exact h1
theorem qmy(f g:Nat->Int)(hf:wfH f)(hg:wfH g)(w:World):(Op.equalIn 10000 36 (.agg (hc8 f)) (.agg (hc8 g))).run prog w=.ok (eqTo f g 8) w:=by
 obtain⟨r,h1,h2⟩:=run_equalIn_deep (P:=prog) 9998 2 36 kr w 2 2 (.agg (hc8 f)) (.agg (hc8 g)) _ _ kr kr (qtz f hf) (qtz g hg)
 have e:r=eqTo f g 8:=by
  rw[Bool.eq_iff_iff,←qv1 f g 8]
  exact h2
 rw[e] at h1
 exact h1
theorem qakb(h:Nat->Int)(j:Nat)(v:Value)(hv:(hcl h)[j]?=some v):j<8/\v=.int .i64 (h j):=by
 have hj:j<8:=(List.getElem?_eq_some_iff.1 hv).1
 refine⟨hj,?_⟩
 rcases(show j=0\/j=1\/j=2\/j=3\/j=4\/j=5\/j=6\/j=7 by omega) with rfl|rfl|rfl|rfl|rfl|rfl|rfl|rfl<;>exact(Option.some.inj hv).symm
theorem Row.homes{w:World}{b:Nat}{f:Nat->Int}{g:Nat->Bool}{h:Nat->Int}{sl:Value}(R:Row 39 w b (tc f g h sl)):w.rangeAt b 21 (hcl h):=R.range (fun j v hv=>by
 obtain⟨hj,rfl⟩:=qakb h j v hv
 exact qhc f g h sl j hj)
theorem qfd(h:Nat->Int):(prog.info? 36).map (·.size)=some (hcl h).length:=by kernel_rfl
theorem qkf(h:Nat->Int):(hcl h).toArray=hc8 h:=rfl
theorem Row.pool{w:World}{b:Nat}{f:Nat->Int}{g:Nat->Bool}{h:Nat->Int}{sl:Value}(R:Row 39 w b (tc f g h sl)):w.rangeAt b 0 (pc f g).toList:=R.range (fun j v hv=>by
 rw[Nat.zero_add]
 have hj:j<21:=by have:=(List.getElem?_eq_some_iff.1 hv).1;simpa[qf1] using this
 unfold tc
 rw[Array.getElem?_append_left (by simp[qf1,hcl];omega),Array.getElem?_append_left (by rw[qf1];omega)]
 simpa using hv)
theorem qkh(f:Nat->Int)(g:Nat->Bool):(prog.info? 35).map (·.size)=some (pc f g).toList.length:=by kernel_rfl
theorem q5z{f:Nat->Int}(ms:List Mp)(hg:qcv f=true):wfF (qd0 f ms):=fun i hi=>by
 have:=qki hg i hi
 unfold qd0;split
 ·exact qlt this.1 this.2
 ·exact qlt om om
theorem qpn{f:Nat->Int}(hg:qcv f=true):wfF f:=fun i hi=>qlt (qki hg i hi).1 (qki hg i hi).2
theorem q5e{h:Nat->Int}(ms:List Mp)(hh:wfH h):wfH (qdq h ms):=fun i hi=>by
 unfold qdq;split
 ·exact hh i hi
 ·exact qlt om om
theorem qtl{ms:List Mp}{j:Nat}{m o:Mp}(hlj:j<ms.length)(hm:ms[j]=o)(h:(inS m.1 m.2.1 m.2.2.1 o||outS m.1 m.2.2.2.1 m.2.2.2.2 o)=true):qc0 ms m=true:=by
 unfold qc0;rw[List.any_eq_true];exact⟨o,hm▸List.getElem_mem hlj,h⟩
theorem qxh{ms:List Mp}{j:Nat}{m o:Mp}(hno:qc0 (ms.take j) m=false)(hlj:j<ms.length)(hm:ms[j]=o)(h1:inS m.1 m.2.1 m.2.2.1 o=false)(h2:outS m.1 m.2.2.2.1 m.2.2.2.2 o=false):qc0 (ms.take (j+1)) m=false:=by
 unfold qc0 at *;rw[qic hlj hm,List.any_append,hno];simp[h1,h2]
theorem sZxd21{p:Prop}(h:p:=by
 simp only[ZZ]
 refine tq 11 (.bool true) rfl ⟨R6,R3⟩ ?_
 simp only[ZZ]
 refine AN ?_
 go_wp2
 go_ret
 exact⟨by rw[HF.out];rfl,hB⟩):p:=h
theorem qtp(sl:Value)(ms:List Mp)(m:Mp)(w:World)(hM:qaz w sl ms):
  Calls prog 54 #[sl,.agg (mc m)] w fun e w'=>e=.returned (.bool (qc0 ms m))/\Below w.heap.size w w':=by
 have hB:=Below.refl w.heap.size w
 have hM0:=hM
 obtain⟨a0,cap,hsl,-⟩:=hM0
 obtain⟨n,hn⟩:∃n,n=ms.length:=⟨_,rfl⟩
 rw[←hn] at hsl
 subst hsl
 have HN:Hid (n=ms.length):=hn
 clear hn
 have hlt:=hM.lt
 go_enter func54,ntmps54
 go_wp2_with (refine bx 46 _ _ ?_;intro b3 w1 l3 R3 hb1;replace l3:=Nat.le_trans hB.size l3;replace hB:=hB.trans (hb1.mono hB.size))
 go_loopw [9] (fun i W=>∃j:Nat,j<=ms.length/\i=.int .i64 j/\qc0 (ms.take j) m=false/\Below w.heap.size w W/\Row 46 W b3 (mc m)) (fun i _=>n-(intOf i).toNat)
 case atStart=>exact⟨0,by omega,rfl,by simp[qc0],hB,R3⟩
 case round=>
  clear hB R3 hb1
  obtain⟨j,hj,rfl,hno,hB,R3⟩:=hrel
  by_cases hlj:j<ms.length
  ·have hjn:(j:Int)<(n:Int):=by have:=HN.out;omega
   have hjw:=qga hlj hM.len
   obtain⟨o,hm⟩:∃o,ms[j]=o:=⟨_,rfl⟩
   have hMW:=hM.keep hB hlt
   have hrg:=hMW.at j hlj hm
   cases hin:inS m.1 m.2.1 m.2.2.1 o with
   | true=>
    have HF:Hid (qc0 ms m=true):=qtl hlj hm (by rw[hin];rfl)
    go_wp2_with (first|(refine qb5 rfl (.tmp 7) (.tmp 9) rfl (.slice a0 n cap) ms hMW rfl j rfl hlj ?_)|(refine wpList_load_mid rfl 46 _ rfl _ _ rfl (mcl o) _ hrg underlying46 rfl (qby o) ?_;rw[qc2])|(refine ay 46 qa4 ?_;intro b6 w3 l6 R6 hb3;have n3:=R3.ne l6;replace l6:=Nat.le_trans hB.size l6;replace R3:=R3.below hb3;replace hB:=hB.trans (hb3.mono hB.size))|(refine qab 46 rfl _ _ rfl b6 rfl (mc o) rfl _ R6 rfl (qak o) (qa3 o) ?_;intro w4 R6 t4;replace R3:=t4.row R3 n3;replace hB:=t4.below _ _ l6 hB))
    refine RD (fun W=>Row 46 W b6 (mc o)/\Row 46 W b3 (mc m)) ⟨R6,R3⟩ (fun _=>?_)
    refine tk 0 (.agg (mc o)) rfl (qav 46 (.tmp 6) rfl kr b6 kr (mc o) (fun _ h=>h.1) _ underlying46 rfl (qak o)) ⟨R6,R3⟩ (tk 2 (.agg (mc m)) rfl (qav 46 (.tmp 3) rfl kr b3 kr (mc m) (fun _ h=>h.2) _ underlying46 rfl (qak m)) ⟨R6,R3⟩ ?_)
    simp only[ZZ]
    refine AR [1] ?_
    refine AC (fun K hK=>?_) ?_
    ·go_simp
     go_at_call 66;refine(qfv o _).mono ?_;rintro e w5 ⟨rfl,hb5⟩;(try replace hb5:=qa1 hb5);replace R3:=R3.below hb5;replace R6:=R6.below hb5;replace hB:=hB.trans (hb5.mono hB.size)
     go_wp2_with fail
     refine hK.out _ _ ⟨R6,R3⟩ (fun _=>?_)
     clear hK K
     try simp only[ZZ]
     refine AR [3] ?_
     refine AC (fun K hK=>?_) ?_
     ·go_simp
      go_at_call 66;refine(qfv m _).mono ?_;rintro e w5 ⟨rfl,hb5⟩;(try replace hb5:=qa1 hb5);replace R3:=R3.below hb5;replace R6:=R6.below hb5;replace hB:=hB.trans (hb5.mono hB.size)
      go_wp2_with fail
      refine hK.out _ _ ⟨R6,R3⟩ (fun _=>?_)
      clear hK K
      try simp only[ZZ]
      refine tk 4 (.bool true) rfl (qhd 115 (.tmp 14) (.tmp 16) rfl kr (ic3 o.1 o.2.1 o.2.2.1) (ic3 m.1 m.2.1 m.2.2.1) kr kr eqGuardType115 _ _ (fun w=>qln _ _ _ _ _ _ w) hin) ⟨R6,R3⟩ (tq 5 (.bool true) rfl ⟨R6,R3⟩ (tk 6 undef rfl (Or.inr ⟨by kernel_rfl,rfl⟩) ⟨R6,R3⟩ ?_))
      simp only[ZZ]
      refine tk 8 undef rfl (Or.inr ⟨by kernel_rfl,rfl⟩) ⟨R6,R3⟩ ?_
      simp only[ZZ]
      refine AR [7] ?_
      refine AC (fun K hK=>?_) ?_
      ·rw[if_neg (ne_true_of_eq_false kr)]
       refine hK.out _ _ ⟨R6,R3⟩ (fun _=>?_)
       clear hK K
       try simp only[ZZ]
       refine AR [9] ?_
       refine AC (fun K hK=>?_) ?_
       ·rw[if_neg (ne_true_of_eq_false kr)]
        refine hK.out _ _ ⟨R6,R3⟩ (fun _=>?_)
        clear hK K
        try simp only[ZZ]
        refine tk 10 undef rfl (Or.inr ⟨by kernel_rfl,rfl⟩) ⟨R6,R3⟩ ?_
        exact sZxd21
       exact AZ
      exact AZ
     exact AZ
    exact AZ
   | false=>
    cases hout:outS m.1 m.2.2.2.1 m.2.2.2.2 o with
    | true=>
     have HF:Hid (qc0 ms m=true):=qtl hlj hm (by rw[hout];simp)
     go_wp2_with (first|(refine qb5 rfl (.tmp 7) (.tmp 9) rfl (.slice a0 n cap) ms hMW rfl j rfl hlj ?_)|(refine wpList_load_mid rfl 46 _ rfl _ _ rfl (mcl o) _ hrg underlying46 rfl (qby o) ?_;rw[qc2])|(refine ay 46 qa4 ?_;intro b6 w3 l6 R6 hb3;have n3:=R3.ne l6;replace l6:=Nat.le_trans hB.size l6;replace R3:=R3.below hb3;replace hB:=hB.trans (hb3.mono hB.size))|(refine qab 46 rfl _ _ rfl b6 rfl (mc o) rfl _ R6 rfl (qak o) (qa3 o) ?_;intro w4 R6 t4;replace R3:=t4.row R3 n3;replace hB:=t4.below _ _ l6 hB))
     refine RD (fun W=>Row 46 W b6 (mc o)/\Row 46 W b3 (mc m)) ⟨R6,R3⟩ (fun _=>?_)
     refine tk 0 (.agg (mc o)) rfl (qav 46 (.tmp 6) rfl kr b6 kr (mc o) (fun _ h=>h.1) _ underlying46 rfl (qak o)) ⟨R6,R3⟩ (tk 2 (.agg (mc m)) rfl (qav 46 (.tmp 3) rfl kr b3 kr (mc m) (fun _ h=>h.2) _ underlying46 rfl (qak m)) ⟨R6,R3⟩ ?_)
     simp only[ZZ]
     refine AR [1] ?_
     refine AC (fun K hK=>?_) ?_
     ·go_simp
      go_at_call 66;refine(qfv o _).mono ?_;rintro e w5 ⟨rfl,hb5⟩;(try replace hb5:=qa1 hb5);replace R3:=R3.below hb5;replace R6:=R6.below hb5;replace hB:=hB.trans (hb5.mono hB.size)
      go_wp2_with fail
      refine hK.out _ _ ⟨R6,R3⟩ (fun _=>?_)
      clear hK K
      try simp only[ZZ]
      refine AR [3] ?_
      refine AC (fun K hK=>?_) ?_
      ·go_simp
       go_at_call 66;refine(qfv m _).mono ?_;rintro e w5 ⟨rfl,hb5⟩;(try replace hb5:=qa1 hb5);replace R3:=R3.below hb5;replace R6:=R6.below hb5;replace hB:=hB.trans (hb5.mono hB.size)
       go_wp2_with fail
       refine hK.out _ _ ⟨R6,R3⟩ (fun _=>?_)
       clear hK K
       try simp only[ZZ]
       refine tk 4 (.bool false) rfl (qhd 115 (.tmp 14) (.tmp 16) rfl kr (ic3 o.1 o.2.1 o.2.2.1) (ic3 m.1 m.2.1 m.2.2.1) kr kr eqGuardType115 _ _ (fun w=>qln _ _ _ _ _ _ w) hin) ⟨R6,R3⟩ (tq 5 (.bool false) rfl ⟨R6,R3⟩ (tk 6 (.agg (mc o)) rfl (qav 46 (.tmp 6) rfl kr b6 kr (mc o) (fun _ h=>h.1) _ underlying46 rfl (qak o)) ⟨R6,R3⟩ ?_))
       simp only[ZZ]
       refine tk 8 (.agg (mc m)) rfl (qav 46 (.tmp 3) rfl kr b3 kr (mc m) (fun _ h=>h.2) _ underlying46 rfl (qak m)) ⟨R6,R3⟩ ?_
       simp only[ZZ]
       refine AR [7] ?_
       refine AC (fun K hK=>?_) ?_
       ·go_simp
        go_at_call 67;refine(qho o _).mono ?_;rintro e w5 ⟨rfl,hb5⟩;(try replace hb5:=qa1 hb5);replace R3:=R3.below hb5;replace R6:=R6.below hb5;replace hB:=hB.trans (hb5.mono hB.size)
        go_wp2_with fail
        refine hK.out _ _ ⟨R6,R3⟩ (fun _=>?_)
        clear hK K
        try simp only[ZZ]
        refine AR [9] ?_
        refine AC (fun K hK=>?_) ?_
        ·go_simp
         go_at_call 67;refine(qho m _).mono ?_;rintro e w5 ⟨rfl,hb5⟩;(try replace hb5:=qa1 hb5);replace R3:=R3.below hb5;replace R6:=R6.below hb5;replace hB:=hB.trans (hb5.mono hB.size)
         go_wp2_with fail
         refine hK.out _ _ ⟨R6,R3⟩ (fun _=>?_)
         clear hK K
         try simp only[ZZ]
         refine tk 10 (.bool true) rfl (qhd 118 (.tmp 20) (.tmp 22) rfl kr (ic3 o.1 o.2.2.2.1 o.2.2.2.2) (ic3 m.1 m.2.2.2.1 m.2.2.2.2) kr kr eqGuardType118 _ _ (fun w=>qnx _ _ _ _ _ _ w) hout) ⟨R6,R3⟩ ?_
         exact sZxd21
        exact AZ
       exact AZ
      exact AZ
     exact AZ
    | false=>
     have HF:Hid (qc0 (ms.take (j+1)) m=false):=qxh hno hlj hm hin hout
     go_wp2_with (first|(refine qb5 rfl (.tmp 7) (.tmp 9) rfl (.slice a0 n cap) ms hMW rfl j rfl hlj ?_)|(refine wpList_load_mid rfl 46 _ rfl _ _ rfl (mcl o) _ hrg underlying46 rfl (qby o) ?_;rw[qc2])|(refine ay 46 qa4 ?_;intro b6 w3 l6 R6 hb3;have n3:=R3.ne l6;replace l6:=Nat.le_trans hB.size l6;replace R3:=R3.below hb3;replace hB:=hB.trans (hb3.mono hB.size))|(refine qab 46 rfl _ _ rfl b6 rfl (mc o) rfl _ R6 rfl (qak o) (qa3 o) ?_;intro w4 R6 t4;replace R3:=t4.row R3 n3;replace hB:=t4.below _ _ l6 hB))
     refine RD (fun W=>Row 46 W b6 (mc o)/\Row 46 W b3 (mc m)) ⟨R6,R3⟩ (fun _=>?_)
     refine tk 0 (.agg (mc o)) rfl (qav 46 (.tmp 6) rfl kr b6 kr (mc o) (fun _ h=>h.1) _ underlying46 rfl (qak o)) ⟨R6,R3⟩ (tk 2 (.agg (mc m)) rfl (qav 46 (.tmp 3) rfl kr b3 kr (mc m) (fun _ h=>h.2) _ underlying46 rfl (qak m)) ⟨R6,R3⟩ ?_)
     simp only[ZZ]
     refine AR [1] ?_
     refine AC (fun K hK=>?_) ?_
     ·go_simp
      go_at_call 66;refine(qfv o _).mono ?_;rintro e w5 ⟨rfl,hb5⟩;(try replace hb5:=qa1 hb5);replace R3:=R3.below hb5;replace R6:=R6.below hb5;replace hB:=hB.trans (hb5.mono hB.size)
      go_wp2_with fail
      refine hK.out _ _ ⟨R6,R3⟩ (fun _=>?_)
      clear hK K
      try simp only[ZZ]
      refine AR [3] ?_
      refine AC (fun K hK=>?_) ?_
      ·go_simp
       go_at_call 66;refine(qfv m _).mono ?_;rintro e w5 ⟨rfl,hb5⟩;(try replace hb5:=qa1 hb5);replace R3:=R3.below hb5;replace R6:=R6.below hb5;replace hB:=hB.trans (hb5.mono hB.size)
       go_wp2_with fail
       refine hK.out _ _ ⟨R6,R3⟩ (fun _=>?_)
       clear hK K
       try simp only[ZZ]
       refine tk 4 (.bool false) rfl (qhd 115 (.tmp 14) (.tmp 16) rfl kr (ic3 o.1 o.2.1 o.2.2.1) (ic3 m.1 m.2.1 m.2.2.1) kr kr eqGuardType115 _ _ (fun w=>qln _ _ _ _ _ _ w) hin) ⟨R6,R3⟩ (tq 5 (.bool false) rfl ⟨R6,R3⟩ (tk 6 (.agg (mc o)) rfl (qav 46 (.tmp 6) rfl kr b6 kr (mc o) (fun _ h=>h.1) _ underlying46 rfl (qak o)) ⟨R6,R3⟩ ?_))
       simp only[ZZ]
       refine tk 8 (.agg (mc m)) rfl (qav 46 (.tmp 3) rfl kr b3 kr (mc m) (fun _ h=>h.2) _ underlying46 rfl (qak m)) ⟨R6,R3⟩ ?_
       simp only[ZZ]
       refine AR [7] ?_
       refine AC (fun K hK=>?_) ?_
       ·go_simp
        go_at_call 67;refine(qho o _).mono ?_;rintro e w5 ⟨rfl,hb5⟩;(try replace hb5:=qa1 hb5);replace R3:=R3.below hb5;replace R6:=R6.below hb5;replace hB:=hB.trans (hb5.mono hB.size)
        go_wp2_with fail
        refine hK.out _ _ ⟨R6,R3⟩ (fun _=>?_)
        clear hK K
        try simp only[ZZ]
        refine AR [9] ?_
        refine AC (fun K hK=>?_) ?_
        ·go_simp
         go_at_call 67;refine(qho m _).mono ?_;rintro e w5 ⟨rfl,hb5⟩;(try replace hb5:=qa1 hb5);replace R3:=R3.below hb5;replace R6:=R6.below hb5;replace hB:=hB.trans (hb5.mono hB.size)
         go_wp2_with fail
         refine hK.out _ _ ⟨R6,R3⟩ (fun _=>?_)
         clear hK K
         try simp only[ZZ]
         refine tk 10 (.bool false) rfl (qhd 118 (.tmp 20) (.tmp 22) rfl kr (ic3 o.1 o.2.2.2.1 o.2.2.2.2) (ic3 m.1 m.2.2.2.1 m.2.2.2.2) kr kr eqGuardType118 _ _ (fun w=>qnx _ _ _ _ _ _ w) hout) ⟨R6,R3⟩ (tq 11 (.bool false) rfl ⟨R6,R3⟩ ?_)
         simp only[ZZ]
         refine AN ?_
         go_wp2
         go_roundw
         case rel=>exact⟨j+1,by omega,by go_num,HF.out,hB,R3⟩
         case measure=>rw[hjw];exact qek (HN.out.symm▸hlj)
        exact AZ
       exact AZ
      exact AZ
     exact AZ
  ·have e:j=ms.length:=by omega
   have HF:Hid (qc0 ms m=false):=by
    show _=_
    rw[e,List.take_length] at hno;exact hno
   have hjn:(n:Int)<=(j:Int):=by have:=HN.out;omega
   clear e hno hj hlj
   go_wp2
   go_ret
   exact⟨by rw[HF.out];rfl,hB⟩
end Go.Proofs.YtnicenfgemkdnaaGreatDoor
