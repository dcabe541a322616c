/-
  Of what a law stands on.
-/
import Derived.Laws.MakeOwn
import Derived.Laws.AppendOwnNone
import Derived.Test.YtbboabfmoahipaaZbd1
set_option linter.unusedSimpArgs false
set_option linter.unusedVariables false
namespace Go.Proofs.Ytbboabfmoahipaa
open Go.Value renaming int → I,pointer → V
open Go.IntKind renaming i64 → Z
open _root_.Go.Proofs.Try Go.ChangeShapes Go.WideShapes Go.ChangeAt Go.RowKit
set_option maxHeartbeats 16000000
set_option maxRecDepth 100000
variable {ms:List Mp}{b base j n size:Nat}{m o:Mp}{p:Prop}{w w':World}{v:Value}{ops:Array Oper}{rest:List Oper}{a:Act}{Q:Exit->Act->World->Prop}{e:TypeId}{xs:List Value}
theorem qtl(hlj:j<ms.length)(hm:ms[j]=o)(h:(inS m.1 m.2.1 m.2.2.1 o||outS m.1 m.2.2.2.1 m.2.2.2.2 o)=true):qc0 ms m=true:=by
 unfold qc0;rw[List.any_eq_true];exact⟨o,hm▸List.getElem_mem hlj,h⟩
theorem qxh(hno:qc0 (ms.take j) m=false)(hlj:j<ms.length)(hm:ms[j]=o)(h1:inS m.1 m.2.1 m.2.2.1 o=false)(h2:outS m.1 m.2.2.2.1 m.2.2.2.2 o=false):qc0 (ms.take (j+1)) m=false:=by
 unfold qc0 at *;rw[qic hlj hm,List.any_append,hno];simp[h1,h2]
theorem sZbd23(h:p:=by
 refine m2c ?_
 go_wp2
 go_ret
 first
  | exact⟨by rw[HF.out];rfl,hB⟩
  | exact⟨_,by first|exact HF.out|simpa using HF.out,rfl,qea hB⟩):p:=h
theorem sZbd25(h:p:=by
 simp only[ZZ];refine tq 11 (.bool true) rfl ⟨R6,R3⟩ ?_
 exact sZbd23):p:=h
theorem qtp(sl:Value)(ms:List Mp)(m:Mp)(w:World)(hM:qaz w sl ms):
  Calls prog 34 #[sl,.agg (mc m)] w fun e w'=>e=.returned (.bool (qc0 ms m))/\Below w.heap.size w w':=by
 refine m1t ?_;intro hB hM0
 obtain⟨a0,cap,hsl,-⟩:=hM0
 obtain⟨n,hn⟩:∃n,n=ms.length:=⟨_,rfl⟩
 rw[←hn] at hsl
 subst hsl
 refine m2d ?_;clear hn;intro HN hlt
 go_enter func34,ntmps34
 go_wp2_with (refine m62 ?_;intro b3 w1 l3 R3 hb1;replace l3:=Nat.le_trans hB.size l3;replace hB:=hB.trans (hb1.mono hB.size))
 go_loopw [9] (fun i W=>∃j:Nat,j<=ms.length/\i=I Z j/\qc0 (ms.take j) m=false/\Below w.heap.size w W/\Row 32 W b3 (mc m)) (fun i _=>n-(intOf i).toNat)
 case atStart=>exact⟨0,by omega,rfl,by simp[qc0],hB,R3⟩
 case round=>
  clear hB R3 hb1
  obtain⟨j,hj,rfl,hno,hB,R3⟩:=hrel
  by_cases hlj:j<ms.length
  ·refine m0h ?_;intro hjn hjw
   obtain⟨o,hm⟩:∃o,ms[j]=o:=⟨_,rfl⟩
   refine m59 ?_;intro hMW hrg
   cases hin:inS m.1 m.2.1 m.2.2.1 o with
   | true=>
    have HF:Hid (qc0 ms m=true):=qtl hlj hm (by rw[hin];rfl)
    go_wp2_with (first|(refine qb5 rfl (.tmp 7) (.tmp 9) rfl (.slice a0 n cap) ms hMW rfl j rfl hlj ?_)|(refine m3o ?_)|(refine m5f ?_;intro b6 w3 l6 R6 hb3;have n3:=R3.ne l6;refine m32 ?_;clear l6 R3 hB;intro l6 R3 hB)|(refine m4d ?_;clear R3 hB;intro w4 R6 t4 R3 hB))
    refine RD (fun W=>Row 32 W b6 (mc o)/\Row 32 W b3 (mc m)) ⟨R6,R3⟩ (fun _=>?_)
    refine tk 0 (.agg (mc o)) rfl (qav 32 (.tmp 6) rfl kr b6 kr (mc o) (fun _ h=>h.1) _ underlying32 rfl (qak o)) ⟨R6,R3⟩ (tk 2 (.agg (mc m)) rfl (qav 32 (.tmp 3) rfl kr b3 kr (mc m) (fun _ h=>h.2) _ underlying32 rfl (qak m)) ⟨R6,R3⟩ ?_)
    simp only[ZZ];refine AR [1] ?_
    refine AC (fun K hK=>?_) AZ
    refine m5x ?_;refine(qfv o _).mono ?_;refine m0s ?_;clear R3 R6 hB;intro w5 hb5 R3 R6 hB
    go_wp2_with fail
    refine hK.out _ _ ⟨R6,R3⟩ (fun _=>?_)
    clear hK K;(try simp only[ZZ]);refine AR [3] ?_
    refine AC (fun K hK=>?_) AZ
    refine m5x ?_;refine(qfv m _).mono ?_;refine m0s ?_;clear R3 R6 hB;intro w5 hb5 R3 R6 hB
    go_wp2_with fail
    refine hK.out _ _ ⟨R6,R3⟩ (fun _=>?_)
    clear hK K;(try simp only[ZZ])
    refine tk 4 (.bool true) rfl (qhd 58 (.tmp 14) (.tmp 16) rfl kr (ic3 o.1 o.2.1 o.2.2.1) (ic3 m.1 m.2.1 m.2.2.1) kr kr eqGuardType58 _ _ (fun w=>qln _ _ _ _ _ _ w) hin) ⟨R6,R3⟩ (tq 5 (.bool true) rfl ⟨R6,R3⟩ (tk 6 undef rfl (Or.inr ⟨by kernel_rfl,rfl⟩) ⟨R6,R3⟩ ?_))
    simp only[ZZ];refine tk 8 undef rfl (Or.inr ⟨by kernel_rfl,rfl⟩) ⟨R6,R3⟩ ?_;simp only[ZZ];refine AR [7] ?_
    refine AC (fun K hK=>?_) AZ
    rw[if_neg (ne_true_of_eq_false kr)]
    refine hK.out _ _ ⟨R6,R3⟩ (fun _=>?_)
    clear hK K;(try simp only[ZZ]);refine AR [9] ?_
    refine AC (fun K hK=>?_) AZ
    rw[if_neg (ne_true_of_eq_false kr)]
    refine hK.out _ _ ⟨R6,R3⟩ (fun _=>?_)
    clear hK K;(try simp only[ZZ]);refine tk 10 undef rfl (Or.inr ⟨by kernel_rfl,rfl⟩) ⟨R6,R3⟩ ?_
    exact sZbd25
   | false=>
    cases hout:outS m.1 m.2.2.2.1 m.2.2.2.2 o with
    | true=>
     have HF:Hid (qc0 ms m=true):=qtl hlj hm (by rw[hout];simp)
     go_wp2_with (first|(refine qb5 rfl (.tmp 7) (.tmp 9) rfl (.slice a0 n cap) ms hMW rfl j rfl hlj ?_)|(refine m3o ?_)|(refine m5f ?_;intro b6 w3 l6 R6 hb3;have n3:=R3.ne l6;refine m32 ?_;clear l6 R3 hB;intro l6 R3 hB)|(refine m4d ?_;clear R3 hB;intro w4 R6 t4 R3 hB))
     refine RD (fun W=>Row 32 W b6 (mc o)/\Row 32 W b3 (mc m)) ⟨R6,R3⟩ (fun _=>?_)
     refine tk 0 (.agg (mc o)) rfl (qav 32 (.tmp 6) rfl kr b6 kr (mc o) (fun _ h=>h.1) _ underlying32 rfl (qak o)) ⟨R6,R3⟩ (tk 2 (.agg (mc m)) rfl (qav 32 (.tmp 3) rfl kr b3 kr (mc m) (fun _ h=>h.2) _ underlying32 rfl (qak m)) ⟨R6,R3⟩ ?_)
     simp only[ZZ];refine AR [1] ?_
     refine AC (fun K hK=>?_) AZ
     refine m5x ?_;refine(qfv o _).mono ?_;refine m0s ?_;clear R3 R6 hB;intro w5 hb5 R3 R6 hB
     go_wp2_with fail
     refine hK.out _ _ ⟨R6,R3⟩ (fun _=>?_)
     clear hK K;(try simp only[ZZ]);refine AR [3] ?_
     refine AC (fun K hK=>?_) AZ
     refine m5x ?_;refine(qfv m _).mono ?_;refine m0s ?_;clear R3 R6 hB;intro w5 hb5 R3 R6 hB
     go_wp2_with fail
     refine hK.out _ _ ⟨R6,R3⟩ (fun _=>?_)
     clear hK K;(try simp only[ZZ])
     refine tk 4 (.bool false) rfl (qhd 58 (.tmp 14) (.tmp 16) rfl kr (ic3 o.1 o.2.1 o.2.2.1) (ic3 m.1 m.2.1 m.2.2.1) kr kr eqGuardType58 _ _ (fun w=>qln _ _ _ _ _ _ w) hin) ⟨R6,R3⟩ (tq 5 (.bool false) rfl ⟨R6,R3⟩ (tk 6 (.agg (mc o)) rfl (qav 32 (.tmp 6) rfl kr b6 kr (mc o) (fun _ h=>h.1) _ underlying32 rfl (qak o)) ⟨R6,R3⟩ ?_))
     simp only[ZZ]
     refine tk 8 (.agg (mc m)) rfl (qav 32 (.tmp 3) rfl kr b3 kr (mc m) (fun _ h=>h.2) _ underlying32 rfl (qak m)) ⟨R6,R3⟩ ?_
     simp only[ZZ];refine AR [7] ?_
     refine AC (fun K hK=>?_) AZ
     go_simp;go_at_call 30;refine(qho o _).mono ?_;refine m0s ?_;clear R3 R6 hB;intro w5 hb5 R3 R6 hB
     go_wp2_with fail
     refine hK.out _ _ ⟨R6,R3⟩ (fun _=>?_)
     clear hK K;(try simp only[ZZ]);refine AR [9] ?_
     refine AC (fun K hK=>?_) AZ
     go_simp;go_at_call 30;refine(qho m _).mono ?_;refine m0s ?_;clear R3 R6 hB;intro w5 hb5 R3 R6 hB
     go_wp2_with fail
     refine hK.out _ _ ⟨R6,R3⟩ (fun _=>?_)
     clear hK K;(try simp only[ZZ])
     refine tk 10 (.bool true) rfl (qhd 61 (.tmp 20) (.tmp 22) rfl kr (ic3 o.1 o.2.2.2.1 o.2.2.2.2) (ic3 m.1 m.2.2.2.1 m.2.2.2.2) kr kr eqGuardType61 _ _ (fun w=>qnx _ _ _ _ _ _ w) hout) ⟨R6,R3⟩ ?_
     exact sZbd25
    | false=>
     have HF:Hid (qc0 (ms.take (j+1)) m=false):=qxh hno hlj hm hin hout
     go_wp2_with (first|(refine qb5 rfl (.tmp 7) (.tmp 9) rfl (.slice a0 n cap) ms hMW rfl j rfl hlj ?_)|(refine m3o ?_)|(refine m5f ?_;intro b6 w3 l6 R6 hb3;have n3:=R3.ne l6;refine m32 ?_;clear l6 R3 hB;intro l6 R3 hB)|(refine m4d ?_;clear R3 hB;intro w4 R6 t4 R3 hB))
     refine RD (fun W=>Row 32 W b6 (mc o)/\Row 32 W b3 (mc m)) ⟨R6,R3⟩ (fun _=>?_)
     refine tk 0 (.agg (mc o)) rfl (qav 32 (.tmp 6) rfl kr b6 kr (mc o) (fun _ h=>h.1) _ underlying32 rfl (qak o)) ⟨R6,R3⟩ (tk 2 (.agg (mc m)) rfl (qav 32 (.tmp 3) rfl kr b3 kr (mc m) (fun _ h=>h.2) _ underlying32 rfl (qak m)) ⟨R6,R3⟩ ?_)
     simp only[ZZ];refine AR [1] ?_
     refine AC (fun K hK=>?_) AZ
     refine m5x ?_;refine(qfv o _).mono ?_;refine m0s ?_;clear R3 R6 hB;intro w5 hb5 R3 R6 hB
     go_wp2_with fail
     refine hK.out _ _ ⟨R6,R3⟩ (fun _=>?_)
     clear hK K;(try simp only[ZZ]);refine AR [3] ?_
     refine AC (fun K hK=>?_) AZ
     refine m5x ?_;refine(qfv m _).mono ?_;refine m0s ?_;clear R3 R6 hB;intro w5 hb5 R3 R6 hB
     go_wp2_with fail
     refine hK.out _ _ ⟨R6,R3⟩ (fun _=>?_)
     clear hK K;(try simp only[ZZ])
     refine tk 4 (.bool false) rfl (qhd 58 (.tmp 14) (.tmp 16) rfl kr (ic3 o.1 o.2.1 o.2.2.1) (ic3 m.1 m.2.1 m.2.2.1) kr kr eqGuardType58 _ _ (fun w=>qln _ _ _ _ _ _ w) hin) ⟨R6,R3⟩ (tq 5 (.bool false) rfl ⟨R6,R3⟩ (tk 6 (.agg (mc o)) rfl (qav 32 (.tmp 6) rfl kr b6 kr (mc o) (fun _ h=>h.1) _ underlying32 rfl (qak o)) ⟨R6,R3⟩ ?_))
     simp only[ZZ]
     refine tk 8 (.agg (mc m)) rfl (qav 32 (.tmp 3) rfl kr b3 kr (mc m) (fun _ h=>h.2) _ underlying32 rfl (qak m)) ⟨R6,R3⟩ ?_
     simp only[ZZ];refine AR [7] ?_
     refine AC (fun K hK=>?_) AZ
     go_simp;go_at_call 30;refine(qho o _).mono ?_;refine m0s ?_;clear R3 R6 hB;intro w5 hb5 R3 R6 hB
     go_wp2_with fail
     refine hK.out _ _ ⟨R6,R3⟩ (fun _=>?_)
     clear hK K;(try simp only[ZZ]);refine AR [9] ?_
     refine AC (fun K hK=>?_) AZ
     go_simp;go_at_call 30;refine(qho m _).mono ?_;refine m0s ?_;clear R3 R6 hB;intro w5 hb5 R3 R6 hB
     go_wp2_with fail
     refine hK.out _ _ ⟨R6,R3⟩ (fun _=>?_)
     clear hK K;(try simp only[ZZ])
     refine tk 10 (.bool false) rfl (qhd 61 (.tmp 20) (.tmp 22) rfl kr (ic3 o.1 o.2.2.2.1 o.2.2.2.2) (ic3 m.1 m.2.2.2.1 m.2.2.2.2) kr kr eqGuardType61 _ _ (fun w=>qnx _ _ _ _ _ _ w) hout) ⟨R6,R3⟩ (tq 11 (.bool false) rfl ⟨R6,R3⟩ ?_)
     refine m2c ?_
     go_wp2
     go_roundw
     case rel=>exact⟨j+1,by omega,by go_num,HF.out,hB,R3⟩
     case measure=>rw[hjw];exact qek (HN.out.symm▸hlj)
  ·(have e:j=ms.length:=by omega)
   have HF:Hid (qc0 ms m=false):=by
    show _=_
    rw[e,List.take_length] at hno;exact hno
   refine m3r ?_;intro hjn;clear e hno hj hlj
   go_wp2
   go_ret
   exact⟨by rw[HF.out];rfl,hB⟩
section
variable {w:World} {b:Nat} {x y:Int}
theorem p0B(h:Row 67 w b (ic2 x y)):w.cell? ⟨b,0,none⟩=some (I Z x):=h.cell 0
theorem p1(h:Row 67 w b (ic2 x y)):w.cell? ⟨b,1,none⟩=some (I Z y):=h.cell 1
end
theorem sZbd21(h:p:=by
 go_enter func33,ntmps33
 go_wp2_with (first|(refine m2t ?_;intro b2 w1 R2 hb1 l2 hB)|(refine m1j ?_;clear R2 hB;intro b3 w2 R3 hb2 l3 R2 hB c0 c1 c2)|(go_at_call 39;go_fit (C1 _);refine m03 ?_)|(go_at_call 40;go_fit (C2 _);refine m03 ?_)|(go_at_call 41;go_fit (C3 _);refine m03 ?_)|(refine lx 32 _ (mc (p,s,i,a,q)) R3 ?_)|(go_at_call 35;refine m2n ?_;clear c0 c1 c2 R3 R2 hB;intro w5 hb5 R3 R2 hB)|(refine m19 ?_;clear R3 R2 hB;intro b5 w6 R5 hb6 n2 n3 l5 R3 R2 hB)|(refine sx 67 _ _ (ic2 0 0) R5 ?_;intro w7 R5 t7;replace R3:=t7.row R3 n3;replace R2:=t7.row R2 n2;replace hB:=t7.below _ _ l5 hB))
 go_ret
 exact⟨_,HF.out,rfl,hB⟩):p:=h
theorem sZbd24(h:p:=by
 simp only[ZZ];refine tq 26 (.bool false) rfl ⟨R3,R2,R5⟩ (tq 27 (.bool false) rfl ⟨R3,R2,R5⟩ ?_)
 exact sZbd23):p:=h
theorem sZbd22(h:p:=by
 simp only[ZZ];refine tq 11 (.bool false) rfl ⟨R3,R2,R5⟩ (tq 12 (.bool false) rfl ⟨R3,R2,R5⟩ (tk 13 undef rfl (Or.inr ⟨by kernel_rfl,rfl⟩) ⟨R3,R2,R5⟩ ?_));simp only[ZZ];refine tk 14 undef rfl (Or.inr ⟨by kernel_rfl,rfl⟩) ⟨R3,R2,R5⟩ (tk 15 undef rfl (Or.inr ⟨by kernel_rfl,rfl⟩) ⟨R3,R2,R5⟩ (tk 16 undef rfl (Or.inr ⟨by kernel_rfl,rfl⟩) ⟨R3,R2,R5⟩ ?_));simp only[ZZ];refine tk 17 undef rfl (Or.inr ⟨by kernel_rfl,rfl⟩) ⟨R3,R2,R5⟩ (tk 18 undef rfl (Or.inr ⟨by kernel_rfl,rfl⟩) ⟨R3,R2,R5⟩ (tk 19 undef rfl (Or.inr ⟨by kernel_rfl,rfl⟩) ⟨R3,R2,R5⟩ ?_));simp only[ZZ];refine tk 20 undef rfl (Or.inr ⟨by kernel_rfl,rfl⟩) ⟨R3,R2,R5⟩ (tk 21 undef rfl (Or.inr ⟨by kernel_rfl,rfl⟩) ⟨R3,R2,R5⟩ (tk 22 undef rfl (Or.inr ⟨by kernel_rfl,rfl⟩) ⟨R3,R2,R5⟩ ?_));simp only[ZZ];refine tk 23 undef rfl (Or.inr ⟨by kernel_rfl,rfl⟩) ⟨R3,R2,R5⟩ (tk 24 undef rfl (Or.inr ⟨by kernel_rfl,rfl⟩) ⟨R3,R2,R5⟩ (tk 25 undef rfl (Or.inr ⟨by kernel_rfl,rfl⟩) ⟨R3,R2,R5⟩ ?_))
 exact sZbd24):p:=h
theorem qnw(f:Nat->Int)(g:Nat->Bool)(h:Nat->Int)(sl:Value)(p s i a q:Int)(w:World):
  Calls prog 33 #[.agg (tc f g h sl),.agg (mc (p,s,i,a,q))] w fun e w'=>∃r:Bool,(r=true↔qdb f h (p,s,i,a,q))/\e=.returned (.bool r)/\Below w.heap.size w w':=by
 have hB:=Below.refl w.heap.size w;(have C1:=fun w=>qfh p w);(have C2:=fun w=>qig s w);(have C3:=fun w=>qhe i w);(have C4:=fun w=>qgp (p,s,i,a,q) w)
 cases hp:isP p with
 | false=>
  have HF:Hid ((false=true)↔qdb f h (p,s,i,a,q)):=by
    show _↔_
    exact⟨fun h=>by simp at h,fun h=>by have:=h.1;simp only at this;rw[hp] at this;simp at this⟩
  rw[hp] at C1
  clear hp
  exact sZbd21
 | true=>
  rw[hp] at C1
  by_cases hs:0<=s/\s<8
  rotate_left
  ·have HF:Hid ((false=true)↔qdb f h (p,s,i,a,q)):=by
    show _↔_
    exact⟨fun h=>by simp at h,fun h=>absurd h.2.1 hs⟩
   (have e2:(decide (0<=s)&&decide (s<8))=false:=by rw[Bool.eq_false_iff];intro h;simp at h;exact hs h)
   rw[e2] at C2
   clear hs e2
   exact sZbd21
  (have e2:(decide (0<=s)&&decide (s<8))=true:=by simp[hs.1,hs.2])
  rw[e2] at C2
  by_cases hi:0<=i/\i<=65535
  rotate_left
  ·have HF:Hid ((false=true)↔qdb f h (p,s,i,a,q)):=by
    show _↔_
    exact⟨fun h=>by simp at h,fun h=>absurd h.2.2.1 hi⟩
   (have e3:(decide (0<=i)&&decide (i<=65535))=false:=by rw[Bool.eq_false_iff];intro h;simp at h;exact hi h)
   rw[e3] at C3
   clear hs e2 hi e3
   exact sZbd21
  (have e3:(decide (0<=i)&&decide (i<=65535))=true:=by simp[hi.1,hi.2])
  rw[e3] at C3
  by_cases hin:(1024<=q/\q<1072)/\0<=a/\a<3
  rotate_left
  ·have HF:Hid ((false=true)↔qdb f h (p,s,i,a,q)):=by
    show _↔_
    exact⟨fun h=>by simp at h,fun h=>absurd ⟨h.2.2.2.1,h.2.2.2.2.1⟩ hin⟩
   have hI:inP (p,s,i,a,q)=false:=decide_eq_false hin;have hA:plA (p,s,i,a,q)=0:=if_neg (by rw[hI];simp);have hQ:plB (p,s,i,a,q)=0:=if_neg (by rw[hI];simp)
   rw[hI,hA,hQ] at C4
   clear hs e2 hi e3 hin hI hA hQ
   go_enter func33,ntmps33
   go_wp2_with (first|(refine m2t ?_;clear hB;intro b2 w1 R2 hb1 l2 hB)|(refine m1j ?_;clear R2 hB;intro b3 w2 R3 hb2 l3 R2 hB c0 c1 c2)|(go_at_call 39;go_fit (C1 _);refine m03 ?_)|(go_at_call 40;go_fit (C2 _);refine m03 ?_)|(go_at_call 41;go_fit (C3 _);refine m03 ?_)|(refine lx 32 _ (mc (p,s,i,a,q)) R3 ?_)|(go_at_call 35;refine m2n ?_;clear c0 c1 c2 R3 R2 hB;intro w5 hb5 R3 R2 hB)|(refine m19 ?_;clear R3 R2 hB;intro b5 w6 R5 hb6 n2 n3 l5 R3 R2 hB)|(refine sx 67 _ _ (ic2 0 0) R5 ?_;intro w7 R5 t7;replace R3:=t7.row R3 n3;replace R2:=t7.row R2 n2;replace hB:=t7.below _ _ l5 hB))
   refine RD (fun W=>Row 32 W b3 (mc (p,s,i,a,q))/\Row 30 W b2 (tc f g h sl)/\Row 67 W b5 (ic2 0 0)) ⟨R3,R2,R5⟩ (fun _=>?_)
   refine tq 0 (.bool false) rfl ⟨R3,R2,R5⟩ (tq 1 (.bool false) rfl ⟨R3,R2,R5⟩ (tk 2 undef rfl (Or.inr ⟨by kernel_rfl,rfl⟩) ⟨R3,R2,R5⟩ ?_));simp only[ZZ];refine tk 3 undef rfl (Or.inr ⟨by kernel_rfl,rfl⟩) ⟨R3,R2,R5⟩ (tk 4 undef rfl (Or.inr ⟨by kernel_rfl,rfl⟩) ⟨R3,R2,R5⟩ (tk 5 undef rfl (Or.inr ⟨by kernel_rfl,rfl⟩) ⟨R3,R2,R5⟩ ?_));simp only[ZZ];refine tk 6 undef rfl (Or.inr ⟨by kernel_rfl,rfl⟩) ⟨R3,R2,R5⟩ (tk 7 undef rfl (Or.inr ⟨by kernel_rfl,rfl⟩) ⟨R3,R2,R5⟩ (tk 8 undef rfl (Or.inr ⟨by kernel_rfl,rfl⟩) ⟨R3,R2,R5⟩ ?_));simp only[ZZ];refine tk 9 undef rfl (Or.inr ⟨by kernel_rfl,rfl⟩) ⟨R3,R2,R5⟩ (tk 10 undef rfl (Or.inr ⟨by kernel_rfl,rfl⟩) ⟨R3,R2,R5⟩ ?_)
   exact sZbd22
  have hI:inP (p,s,i,a,q)=true:=decide_eq_true hin;have hA:plA (p,s,i,a,q)=a:=if_pos hI;have hQ:plB (p,s,i,a,q)=(q-1024)/8:=if_pos hI
  rw[hI,hA,hQ] at C4
  obtain⟨K,hK⟩:∃K,K=(q-1024)/8:=⟨_,rfl⟩
  rw[←hK] at C4
  (have hpl:qdi a q=a.toNat*6+K.toNat:=by unfold qdi;rw[hK];omega);(have hK0:0<=K:=by omega);(have hK6:K<6:=by omega);have ha0:0<=a:=hin.2.1;have ha3:a<3:=hin.2.2;have hs0:0<=s:=hs.1;have hs8:s<8:=hs.2;refine m48 ?_;intro hsw haw hsw2 haw2;(have hH:∀W b,Row 30 W b (tc f g h sl)->W.cell? ⟨b,21+s.toNat,none⟩=some (I Z (h s.toNat)):=fun W b R=>(R.cell _).trans (qhc f g h sl s.toNat om));(have hO:∀W b,Row 30 W b (tc f g h sl)->W.cell? ⟨b,a.toNat*6+K.toNat,none⟩=some (I Z (f (a.toNat*6+K.toNat))):=fun W b R=>(R.cell _).trans (qvl f g h sl _ om))
  by_cases hhome:h s.toNat=a+1
  rotate_left
  ·have HF:Hid ((false=true)↔qdb f h (p,s,i,a,q)):=by
    show _↔_
    exact⟨fun h=>by simp at h,fun h=>absurd h.2.2.2.2.2.1 hhome⟩
   (have dz:(h s.toNat==a+1)=false:=by simpa using hhome);clear hs e2 hi e3 hin hI hA hQ hK hpl hhome
   go_enter func33,ntmps33
   go_wp2_with (first|(refine m2t ?_;clear hB;intro b2 w1 R2 hb1 l2 hB)|(refine m1j ?_;clear R2 hB;intro b3 w2 R3 hb2 l3 R2 hB c0 c1 c2)|(go_at_call 39;go_fit (C1 _);refine m03 ?_)|(go_at_call 40;go_fit (C2 _);refine m03 ?_)|(go_at_call 41;go_fit (C3 _);refine m03 ?_)|(refine lx 32 _ (mc (p,s,i,a,q)) R3 ?_)|(go_at_call 35;refine m2n ?_;clear c0 c1 c2 R3 R2 hB;intro w5 hb5 R3 R2 hB)|(refine m19 ?_;clear R3 R2 hB;intro b5 w6 R5 hb6 n2 n3 l5 R3 R2 hB)|(refine m6f ?_;clear R3 R2 hB;intro w7 R5 t7 R3 R2 hB))
   refine RD (fun W=>Row 32 W b3 (mc (p,s,i,a,q))/\Row 30 W b2 (tc f g h sl)/\Row 67 W b5 (ic2 a K)) ⟨R3,R2,R5⟩ (fun _=>?_)
   refine m2k ?_;simp only[ZZ];refine tk 3 (I Z s) rfl (Or.inl ⟨by kernel_rfl,by intro w hS;have hc:=m1 hS.1;go_simp⟩) ⟨R3,R2,R5⟩ (tq 4 ((V (some ⟨b2,21,none⟩))) rfl ⟨R3,R2,R5⟩ (tq 5 ((V (some ⟨b2,21+s.toNat,none⟩))) rfl ⟨R3,R2,R5⟩ ?_));simp only[ZZ];refine tk 6 (I Z (h s.toNat)) rfl (Or.inl ⟨by kernel_rfl,by intro w hS;have hc:=hH _ _ hS.2.1;go_simp⟩) ⟨R3,R2,R5⟩ (tq 7 ((V (some ⟨b3,3,none⟩))) rfl ⟨R3,R2,R5⟩ (tk 8 (I Z a) rfl (Or.inl ⟨by kernel_rfl,by intro w hS;have hc:=m3 hS.1;go_simp⟩) ⟨R3,R2,R5⟩ ?_));simp only[ZZ];refine tq 9 (I Z (a+1)) rfl ⟨R3,R2,R5⟩ (tq 10 (.bool false) rfl ⟨R3,R2,R5⟩ ?_)
   exact sZbd22
  (have dh:(h s.toNat==a+1)=true:=by simpa using hhome)
  by_cases hown:f (a.toNat*6+K.toNat)=s+1
  ·have HF:Hid ((true=true)↔qdb f h (p,s,i,a,q)):=by
    show _↔_
    exact⟨fun _=>⟨hp,hs,hi,hin.1,hin.2,hhome,by show f (qdi a q)=_;rw[hpl];exact hown⟩,fun _=>rfl⟩
   (have dz:(f (a.toNat*6+K.toNat)==s+1)=true:=by simpa using hown);clear hs e2 hi e3 hin hI hA hQ hK hpl hhome hown hp
   go_enter func33,ntmps33
   go_wp2_with (first|(refine m2t ?_;clear hB;intro b2 w1 R2 hb1 l2 hB)|(refine m1j ?_;clear R2 hB;intro b3 w2 R3 hb2 l3 R2 hB c0 c1 c2)|(go_at_call 39;go_fit (C1 _);refine m03 ?_)|(go_at_call 40;go_fit (C2 _);refine m03 ?_)|(go_at_call 41;go_fit (C3 _);refine m03 ?_)|(refine lx 32 _ (mc (p,s,i,a,q)) R3 ?_)|(go_at_call 35;refine m2n ?_;clear c0 c1 c2 R3 R2 hB;intro w5 hb5 R3 R2 hB)|(refine m19 ?_;clear R3 R2 hB;intro b5 w6 R5 hb6 n2 n3 l5 R3 R2 hB)|(refine m6f ?_;clear R3 R2 hB;intro w7 R5 t7 R3 R2 hB))
   refine RD (fun W=>Row 32 W b3 (mc (p,s,i,a,q))/\Row 30 W b2 (tc f g h sl)/\Row 67 W b5 (ic2 a K)) ⟨R3,R2,R5⟩ (fun _=>?_)
   refine m2k ?_;refine m07 ?_;simp only[ZZ];refine tq 24 (I Z (s+1)) rfl ⟨R3,R2,R5⟩ (tq 25 (.bool true) rfl ⟨R3,R2,R5⟩ (tq 26 (.bool true) rfl ⟨R3,R2,R5⟩ ?_));simp only[ZZ];refine tq 27 (.bool true) rfl ⟨R3,R2,R5⟩ ?_
   exact sZbd23
  ·have HF:Hid ((false=true)↔qdb f h (p,s,i,a,q)):=by
    show _↔_
    exact⟨fun h=>by simp at h,fun h=>absurd (by have:=h.2.2.2.2.2.2;simp only at this;rw[hpl] at this;exact this) hown⟩
   (have dz:(f (a.toNat*6+K.toNat)==s+1)=false:=by simpa using hown);clear hs e2 hi e3 hin hI hA hQ hK hpl hhome hown hp
   go_enter func33,ntmps33
   go_wp2_with (first|(refine m2t ?_;clear hB;intro b2 w1 R2 hb1 l2 hB)|(refine m1j ?_;clear R2 hB;intro b3 w2 R3 hb2 l3 R2 hB c0 c1 c2)|(go_at_call 39;go_fit (C1 _);refine m03 ?_)|(go_at_call 40;go_fit (C2 _);refine m03 ?_)|(go_at_call 41;go_fit (C3 _);refine m03 ?_)|(refine lx 32 _ (mc (p,s,i,a,q)) R3 ?_)|(go_at_call 35;refine m2n ?_;clear c0 c1 c2 R3 R2 hB;intro w5 hb5 R3 R2 hB)|(refine m19 ?_;clear R3 R2 hB;intro b5 w6 R5 hb6 n2 n3 l5 R3 R2 hB)|(refine m6f ?_;clear R3 R2 hB;intro w7 R5 t7 R3 R2 hB))
   refine RD (fun W=>Row 32 W b3 (mc (p,s,i,a,q))/\Row 30 W b2 (tc f g h sl)/\Row 67 W b5 (ic2 a K)) ⟨R3,R2,R5⟩ (fun _=>?_)
   refine m2k ?_;refine m07 ?_;simp only[ZZ];refine tq 24 (I Z (s+1)) rfl ⟨R3,R2,R5⟩ (tq 25 (.bool false) rfl ⟨R3,R2,R5⟩ ?_)
   exact sZbd24
theorem q8o(ms:List Mp)(h:∀m∈ms,0<=m.2.1/\m.2.1<8):ms.length=cntM ms 0+cntM ms 1+cntM ms 2+cntM ms 3+cntM ms 4+cntM ms 5+cntM ms 6+cntM ms 7:=by
 induction ms with
 | nil=>simp[cntM]
 | cons m r ih=>
  have hm:=h m zm
  have:=ih (fun o ho=>h o (by simp[ho]))
  have step:∀s:Int,cntM (m::r) s=cntM r s+if m.2.1=s then 1 else 0:=by
   intro s;unfold cntM;by_cases e:m.2.1=s
   ·simp[e]
   ·simp[e]
  simp only[step,List.length_cons]
  rcases(show m.2.1=0\/m.2.1=1\/m.2.1=2\/m.2.1=3\/m.2.1=4\/m.2.1=5\/m.2.1=6\/m.2.1=7 by omega) with e|e|e|e|e|e|e|e<;>rw[e]<;>simp<;>omega
theorem qbq.len{f h:Nat->Int}(G:qbq f h ms):ms.length<=96:=by
 have:=q8o ms (fun m hm=>(G.maps.1 m hm).2.1)
 have h0:cntM ms 0<=12:=(G.few 0 om).2;have h1:cntM ms 1<=12:=(G.few 1 om).2;have h2:cntM ms 2<=12:=(G.few 2 om).2;have h3:cntM ms 3<=12:=(G.few 3 om).2;have h4:cntM ms 4<=12:=(G.few 4 om).2;have h5:cntM ms 5<=12:=(G.few 5 om).2;have h6:cntM ms 6<=12:=(G.few 6 om).2;have h7:cntM ms 7<=12:=(G.few 7 om).2
 omega
def flat(ms:List Mp):List Value:=ms.flatMap mcl
theorem qka(ms:List Mp):(flat ms).length=ms.length*5:=by
 induction ms with
 | nil=>rfl
 | cons m r ih=>unfold flat at *;rw[List.flatMap_cons,List.length_append,ih,List.length_cons];simp[mcl];omega
theorem qvh(ms os:List Mp):flat (ms++os)=flat ms++flat os:=by unfold flat;exact List.flatMap_append
theorem qtx(m:Mp):flat [m]=mcl m:=by unfold flat;simp
theorem qwc(ms:List Mp)(j i:Nat)(hj:j<ms.length)(hi:i<5):(flat ms)[5*j+i]?=(mcl ms[j])[i]?:=by
 induction ms generalizing j with
 | nil=>simp at hj
 | cons m r ih=>
  (have e:flat (m::r)=mcl m++flat r:=by unfold flat;rw[List.flatMap_cons]);rw[e]
  cases j with
  | zero=>rw[List.getElem?_append_left (by simp[mcl];omega)];simp
  | succ j=>
   rw[List.getElem?_append_right (by simp[mcl];omega)]
   have:5*(j+1)+i-(mcl m).length=5*j+i:=by simp[mcl];omega
   rw[this,ih j (by simpa using hj)]
   simp
theorem qrv{o:Nat}(h:∀j (hj:j<ms.length),w.rangeAt b (o+5*j) (mcl ms[j])):∀k u,(flat ms)[k]?=some u->w.cell? ⟨b,o+k,none⟩=some u:=by
 intro k u hu;refine m4g ?_;intro hk;(have e:k=5*(k/5)+k%5:=by omega);(have hj:k/5<ms.length:=by omega)
 rw[e,qwc ms (k/5) (k%5) hj om] at hu
 have:=h (k/5) hj (k%5) u hu
 (rw[show o+k=o+5*(k/5)+k%5 by omega])
 exact this
theorem qov(ms:List Mp):∀u∈flat ms,u.oneCell'=true:=by
 intro u hu
 unfold flat at hu
 rw[List.mem_flatMap] at hu
 obtain⟨m,_,hm⟩:=hu
 simp[mcl] at hm
 rcases hm with rfl|rfl|rfl|rfl|rfl<;>rfl
def qcs(sl:Value):Prop:=∀n c,sl=.slice none n c->c=0
theorem qqm(h:w.ownsRow base 32 5 v ms.length (flat ms))(hl:ms.length<=140737488355328):qaz w v ms/\qcs v/\(0<ms.length->base<=mb v):=by
 rcases h.2 with⟨e,n0⟩|⟨b,cap,cur,hv,hbb,hh,hnc,hcm,hcs,ht⟩
 ·have:ms=[]:=List.eq_nil_of_length_eq_zero n0
  subst this
  rw[e]
  exact⟨qaz.nil w,fun n c e=>by injection e with _ _ e3;exact e3.symm,fun h=>absurd h zm⟩
 ·have hc:=h.cells (g:=b) (by rw[hv];rfl)
  subst hv
  refine⟨⟨_,_,rfl,fun _=>rfl,fun j hj i u hu=>?_,hl,_,rfl,hnc⟩,fun n c e=>(by injection e with e1;simp at e1),fun _=>hbb⟩
  have hi:i<5:=(List.getElem?_eq_some_iff.1 hu).1;have hg:=qwc ms j i hj hi
  rw[hu] at hg
  have:=hc _ _ hg
  rw[Addr.add_lit] at this
  simpa[mb,mo] using this
theorem qnm:(prog.info? 32).map (fun i=>(i.zero,i.size,i.bytes))=some (some (.agg (mc noM)),5,40):=by kernel_rfl
theorem qql(w:World)(m:Mp)(t:TypeId):∀j u,(mcl m)[j]?=some u->(w.alloc (.cells (mc m) t)).cell? ((⟨w.heap.size,0,none⟩:Addr).add j)=some u:=by
 intro j u hu;rw[Addr.add_lit,Nat.zero_add];rw[World.cell?_alloc_mark w (mc m) t (0,0) j]
 show(mcl m).toArray[j]?=some u
 simpa using hu
theorem qmp(m:Mp):∀u∈mcl m,u.oneCell'=true:=by
 intro u hu
 simp[mcl] at hu
 rcases hu with rfl|rfl|rfl|rfl|rfl<;>rfl
theorem qkl{o:Oper}(hgd:o.guard=none)(x:Operand)(ho:o.op=.buildSlice 28 1 #[(0,x)])(m:Mp)(hx:a.eval x=.agg (mc m))(hr:wpList prog ops Q rest (a.put o.dst (.slice (some ⟨w.heap.size,0,none⟩) 1 1)) (w.alloc (.cells (mc m) 32))):wpList prog ops Q (o::rest) a w:=
 wpList_plain hgd fun K hK=>by
  (have hb:(Instr.buildSlice 28 1 #[(0,.agg (mc m))]).run prog w=.ok (.slice (some ⟨w.heap.size,0,none⟩) 1 1) (w.alloc (.cells (mc m) 32)):=by kernel_rfl)
  unfold Oper.wp execOp
  simp only[ho,List.map_toArray,List.map_cons,List.map_nil,hx,Sem.run_bind,hb,Result.andThen_ok,Sem.run_pure]
  exact hK _ _ hr
theorem q25{t:TypeId}{cs:Array Value}(R:Row t w b cs)(h:w.ownsRow base e size v n xs)(hne:t≠e\/b<base)(hg:w.grownBy w' v.ownBlock):Row t w' b cs:=by
 refine(hg.block b R.lt ?_).trans R
 intro eq
 rcases hne with hne|hlt
 ·rcases h.2 with⟨e',_⟩|⟨g,cap,cur,hv,hbb,hh,r⟩
  ·rw[e'] at eq;simp[Value.ownBlock] at eq
  ·rw[hv] at eq
   (have e':b=g:=by simpa[Value.ownBlock] using eq)
   subst e'
   unfold Row at R
   rw[hh] at R
   injection R with R
   injection R with _ R2
   exact hne R2.symm
 ·have:=h.lt b eq.symm
  omega
theorem qok{w0:World}{B:Nat}(h:Below B w0 w)(hle:B<=w.heap.size)(hg:w.grownBy w' none):Below B w0 w':=
 ⟨hg.os.trans h.os,hg.tape.trans h.tape,hg.output.trans h.output,Nat.le_trans h.size hg.size,fun k hk=>(hg.block k (Nat.lt_of_lt_of_le hk hle) zm).trans (h.block k hk)⟩
theorem qkx(h:w.ownsRow base e size v n xs):∃a c,v=.slice a n c:=by
 rcases h.2 with⟨e,n0⟩|⟨b,cap,cur,hv,_⟩
 ·exact⟨none,0,by rw[e,n0]⟩
 ·exact⟨_,_,hv⟩
theorem qou{o:Oper}(hgd:o.guard=none)(x y:Operand)(ho:o.op=.makeSlice 28 x y)(hx:a.eval x=I Z 0)(c:Nat)(hy:a.eval y=I Z (c:Int))(hc:c<=1000)(hr:∀v w',v=.slice (some ⟨w.heap.size,0,none⟩) 0 c->w'.ownsRow w.heap.size 32 5 v 0 []->w.grownBy w' none->wpList prog ops Q rest (a.put o.dst v) w'):wpList prog ops Q (o::rest) a w:=
 wpList_plain hgd fun K hK=>by
  obtain⟨i0,hi,hz0,hz1,hz2⟩:=info_parts qnm;obtain⟨w',hrun,h1,h2⟩:=run_make_own (P:=prog) w w.heap.size 28 32 i0 (.agg (mc noM)) 5 underlying28 hi hz0 hz1 .i64 .i64 c (by rw[hz2];omega) (by unfold maxLen;omega) (Nat.le_refl _)
  unfold Oper.wp execOp
  simp only[ho,hx,hy,Sem.run_bind,hrun,Result.andThen_ok,Sem.run_pure]
  exact hK _ _ (hr _ w' rfl h1 h2)
theorem qn1{b2:Nat}(h:w.ownsRow base e size v n xs)(hb:b2<=base):w.ownsRow b2 e size v n xs:=by
 refine⟨h.1,?_⟩
 rcases h.2 with e|⟨b,cap,cur,hv,hbb,r⟩
 ·exact .inl e
 ·exact .inr ⟨b,cap,cur,hv,by omega,r⟩
theorem sZbd26(h:p:=by
 go_ret
 obtain⟨h1,h2,h3⟩:=fin _ _ hown4
 exact⟨_,rfl,h1,h2,h3,hB⟩):p:=h
theorem q50(sl:Value)(ms:List Mp)(m:Mp)(w:World)(hM:qaz w sl ms)(hno:qcs sl)(hl:ms.length<=96):
  Calls prog 44 #[sl,.agg (mc m)] w fun e w'=>∃v,e=.returned v/\qaz w' v (ms++[m])/\qcs v/\w.heap.size<=mb v/\Below w.heap.size w w':=by
 have hB:=Below.refl w.heap.size w;obtain⟨i0,hi,hz0,hz1,hz2⟩:=info_parts qnm;have hM0:=hM
 obtain⟨a0,cap,hsl,ha0,hrg,-⟩:=hM0
 obtain⟨n,hn⟩:∃n,n=ms.length:=⟨_,rfl⟩
 have HN:Hid (n=ms.length):=hn
 rw[←hn] at hsl
 (have hn96:n<=96:=by omega);(have hnw:wrap64 ((n:Int)+1)=((n+1:Nat):Int):=by unfold wrap64;omega);have hlt:=hM.lt
 have src:∀ {W:World},Below w.heap.size w W->∀k u,(flat ms)[k]?=some u->W.cell? ((⟨mb sl,mo sl,none⟩:Addr).add k)=some u:=by
  intro W hb k u hu;rw[Addr.add_lit]
  refine qrv (fun j hj=>?_) k u hu
  exact(hM.keep hb hlt).at j hj rfl
 have fin:∀(W:World) (v:Value),W.ownsRow w.heap.size 32 5 v (n+1) (flat ms++mcl m)->qaz W v (ms++[m])/\qcs v/\w.heap.size<=mb v:=by
  intro W v h;(have e1:(ms++[m]).length=n+1:=by simp[←hn]);(have h':W.ownsRow w.heap.size 32 5 v (ms++[m]).length (flat (ms++[m])):=by rw[e1,qvh,qtx];exact h)
  have:=qqm h' om
  exact⟨this.1,this.2.1,this.2.2 om⟩
 clear hn hrg
 cases a0 with
 | none=>
  obtain rfl:cap=0:=hno _ _ hsl
  have n0:ms.length=0:=by
   by_cases h:0<ms.length
   ·have:=ha0 h;simp at this
   ·omega
  have hms:ms=[]:=List.eq_nil_of_length_eq_zero n0
  obtain rfl:n=0:=HN.out.trans n0
  subst hsl
  clear ha0 src
  go_enter func44,ntmps44
  go_wp2_with (first|(refine m62 ?_;intro b3 w0 l3 R3 hb0;replace hB:=hB.trans (hb0.mono hB.size))|(refine qou rfl _ _ rfl rfl (0+1) rfl om ?_;intro v1 w1 hv1 hown1 hg1;have l3b:=R3.lt;replace R3:Row 32 w1 b3 (mc m):=(hg1.block b3 R3.lt zm).trans R3;replace hown1:=hown1;replace hB:=qok hB hB.size hg1;subst hv1)|(refine wpList_append_own_none rfl (.tmp 10) (.tmp 11) 28 rfl w.heap.size 32 i0 5 underlying28 hi _ _ _ rfl (qn1 hown1 (by have:=hb0.size;omega)) rfl ?_;have hown2:World.ownsRow _ w.heap.size 32 5 _ 0 []:=qn1 hown1 (by have:=hb0.size;omega);rw[hms] at fin)|(refine qac 32 _ rfl rfl _ rfl (mc m) R3 _ underlying32 rfl (qak m) ?_)|(refine qkl rfl _ rfl m rfl ?_)|(refine m2b ?_;clear hB;intro v4 w4 hown4 hg4 hB;obtain⟨a4,c4,rfl⟩:=qkx hown4))
  exact sZbd26
 | some ad=>
  have had:0<n->ad=⟨mb sl,mo sl,none⟩:=fun h=>by
   have:=ha0 (by rw[←HN.out];exact h)
   exact Option.some.inj this
  have src':∀ {W:World},Below w.heap.size w W->∀k u,(flat ms)[k]?=some u->W.cell? (ad.add k)=some u:=by
   intro W hb k u hu;refine m4g ?_;intro hk
   rw[had (by rw[HN.out];omega)]
   exact src hb k u hu
  subst hsl
  clear ha0 src had hno
  go_enter func44,ntmps44
  go_wp2_with (first|(refine m62 ?_;intro b3 w0 l3 R3 hb0;replace hB:=hB.trans (hb0.mono hB.size))|(refine qou rfl _ _ rfl rfl (n+1) rfl om ?_;intro v1 w1 hv1 hown1 hg1;have l3b:=R3.lt;replace R3:Row 32 w1 b3 (mc m):=(hg1.block b3 R3.lt zm).trans R3;replace hown1:=hown1;replace hB:=qok hB hB.size hg1;subst hv1)|(refine wpList_append_own _ rfl (.tmp 10) (.tmp 11) 28 rfl w.heap.size 32 i0 (.agg (mc noM)) 5 40 underlying28 hi hz0 hz1 hz2 rfl (by decide) _ _ _ rfl (qn1 hown1 (by have:=hb0.size;omega)) ad n cap (flat ms) rfl (by rw[qka,HN.out]) (src' hB) (qov ms) (by unfold maxLen;omega) om hB.size ?_;intro v2 w2 hown2 hg2 hn2;clear hn2;simp only[Nat.zero_add,List.nil_append] at hown2;replace R3:=q25 R3 hown1 (.inr l3b) hg2;replace hB:=qhq (qn1 hown1 (by have:=hb0.size;omega)) hB hB.size hg2;obtain⟨a2,c2,rfl⟩:=qkx hown2)|(refine qac 32 _ rfl rfl _ rfl (mc m) R3 _ underlying32 rfl (qak m) ?_)|(refine qkl rfl _ rfl m rfl ?_)|(refine m2b ?_;clear hB;intro v4 w4 hown4 hg4 hB;obtain⟨a4,c4,rfl⟩:=qkx hown4))
  exact sZbd26
end Go.Proofs.Ytbboabfmoahipaa
