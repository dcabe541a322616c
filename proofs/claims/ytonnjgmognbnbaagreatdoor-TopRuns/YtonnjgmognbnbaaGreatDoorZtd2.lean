/-
  Of what a law stands on.
-/
import Derived.Test.YtonnjgmognbnbaaGreatDoorZtd1
set_option linter.unusedSimpArgs false
set_option linter.unusedVariables false
namespace Go.Proofs.YtonnjgmognbnbaaGreatDoor
open Go.Value renaming int → I,pointer → V
open Go.IntKind renaming i64 → Z
open _root_.Go.Proofs.Tryz Go.ChangeShapes Go.WideShapes Go.ChangeAt Go.RowKit
set_option maxHeartbeats 16000000
set_option maxRecDepth 100000
variable {ms:List Mp}{base i j n:Nat}{m o:Mp}{p:Prop}{w:World}{v:Value}{l:List Nat}
theorem qtl(hlj:j<ms.length)(hm:ms[j]=o)(h:(inS m.1 m.2.1 m.2.2.1 o||outS m.1 m.2.2.2.1 m.2.2.2.2 o)=true):qc0 ms m=true:=by
 unfold qc0;rw[List.any_eq_true];exact⟨o,hm▸List.getElem_mem hlj,h⟩
theorem qxh(hno:qc0 (ms.take j) m=false)(hlj:j<ms.length)(hm:ms[j]=o)(h1:inS m.1 m.2.1 m.2.2.1 o=false)(h2:outS m.1 m.2.2.2.1 m.2.2.2.2 o=false):qc0 (ms.take (j+1)) m=false:=by
 unfold qc0 at *;rw[qic hlj hm,List.any_append,hno];simp[h1,h2]
theorem sZtd23(h:p:=by
 refine m1f ?_
 go_wp2
 go_ret
 first
  | exact⟨by rw[HF.out];rfl,hB⟩
  | exact⟨_,by first|exact HF.out|simpa using HF.out,rfl,qea hB⟩):p:=h
theorem sZtd25(h:p:=by
 refine m5i ?_;refine tq 11 (.bool true) rfl ⟨R6,R3⟩ ?_
 exact sZtd23):p:=h
theorem qtp(sl:Value)(ms:List Mp)(m:Mp)(w:World)(hM:qaz w sl ms):
  Calls prog 64 #[sl,.agg (mc m)] w fun e w'=>e=.returned (.bool (qc0 ms m))/\Below w.heap.size w w':=by
 refine m2a ?_;intro hB;have hM0:=hM
 obtain⟨a0,cap,hsl,-⟩:=hM0
 obtain⟨n,hn⟩:∃n,n=ms.length:=⟨_,rfl⟩
 rw[←hn] at hsl
 subst hsl
 refine m4n ?_;clear hn;intro HN hlt
 go_enter func64,ntmps64
 go_wp2_with (refine m8w ?_;intro b3 w1 l3 R3 hb1;replace l3:=Nat.le_trans hB.size l3;refine m5a ?_;clear hB;intro hB)
 go_loopw [9] (fun i W=>∃j:Nat,j<=ms.length/\i=I Z j/\qc0 (ms.take j) m=false/\Below w.heap.size w W/\Row 50 W b3 (mc m)) (fun i _=>n-(intOf i).toNat)
 case atStart=>exact⟨0,by omega,rfl,by simp[qc0],hB,R3⟩
 case round=>
  clear hB R3 hb1
  obtain⟨j,hj,rfl,hno,hB,R3⟩:=hrel
  by_cases hlj:j<ms.length
  ·refine m3l ?_;intro hjn hjw
   obtain⟨o,hm⟩:∃o,ms[j]=o:=⟨_,rfl⟩
   refine m96 ?_;intro hMW hrg
   cases hin:inS m.1 m.2.1 m.2.2.1 o with
   | true=>
    have HF:Hid (qc0 ms m=true):=qtl hlj hm (by rw[hin];rfl)
    go_wp2_with (first|(refine qb5 rfl (.tmp 7) (.tmp 9) rfl (.slice a0 n cap) ms hMW rfl j rfl hlj ?_)|(refine m5l ?_)|(refine m7z ?_;intro b6 w3 l6 R6 hb3;have n3:=R3.ne l6;refine m4o ?_;clear l6 R3 hB;intro l6 R3 hB)|(refine m6z ?_;clear R3 hB;intro w4 R6 t4 R3 hB))
    refine RD (fun W=>Row 50 W b6 (mc o)/\Row 50 W b3 (mc m)) ⟨R6,R3⟩ (fun _=>?_)
    refine tk 0 (.agg (mc o)) rfl (qav 50 (.tmp 6) rfl kr b6 kr (mc o) (fun _ h=>h.1) _ underlying50 rfl (qak o)) ⟨R6,R3⟩ (tk 2 (.agg (mc m)) rfl (qav 50 (.tmp 3) rfl kr b3 kr (mc m) (fun _ h=>h.2) _ underlying50 rfl (qak m)) ⟨R6,R3⟩ ?_)
    refine m5i ?_;refine AR [1] ?_
    refine AC (fun K hK=>?_) AZ
    refine m8q ?_;refine(qfv o _).mono ?_;refine m12 ?_;clear R3 R6 hB;intro w5 hb5 R3 R6 hB
    go_wp2_with fail
    refine hK.out _ _ ⟨R6,R3⟩ (fun _=>?_)
    clear hK K;(try simp only[ZZ]);refine AR [3] ?_
    refine AC (fun K hK=>?_) AZ
    refine m8q ?_;refine(qfv m _).mono ?_;refine m12 ?_;clear R3 R6 hB;intro w5 hb5 R3 R6 hB
    go_wp2_with fail
    refine hK.out _ _ ⟨R6,R3⟩ (fun _=>?_)
    clear hK K;(try simp only[ZZ])
    refine tk 4 (.bool true) rfl (qhd 122 (.tmp 14) (.tmp 16) rfl kr (ic3 o.1 o.2.1 o.2.2.1) (ic3 m.1 m.2.1 m.2.2.1) kr kr eqGuardType122 _ _ (fun w=>qln _ _ _ _ _ _ w) hin) ⟨R6,R3⟩ (tq 5 (.bool true) rfl ⟨R6,R3⟩ (tk 6 undef rfl (Or.inr ⟨by kernel_rfl,rfl⟩) ⟨R6,R3⟩ ?_))
    refine m5i ?_;refine tk 8 undef rfl (Or.inr ⟨by kernel_rfl,rfl⟩) ⟨R6,R3⟩ ?_;refine m5i ?_;refine AR [7] ?_
    refine AC (fun K hK=>?_) AZ
    rw[if_neg (ne_true_of_eq_false kr)]
    refine hK.out _ _ ⟨R6,R3⟩ (fun _=>?_)
    clear hK K;(try simp only[ZZ]);refine AR [9] ?_
    refine AC (fun K hK=>?_) AZ
    rw[if_neg (ne_true_of_eq_false kr)]
    refine hK.out _ _ ⟨R6,R3⟩ (fun _=>?_)
    clear hK K;(try simp only[ZZ]);refine tk 10 undef rfl (Or.inr ⟨by kernel_rfl,rfl⟩) ⟨R6,R3⟩ ?_
    exact sZtd25
   | false=>
    cases hout:outS m.1 m.2.2.2.1 m.2.2.2.2 o with
    | true=>
     have HF:Hid (qc0 ms m=true):=qtl hlj hm (by rw[hout];simp)
     go_wp2_with (first|(refine qb5 rfl (.tmp 7) (.tmp 9) rfl (.slice a0 n cap) ms hMW rfl j rfl hlj ?_)|(refine m5l ?_)|(refine m7z ?_;intro b6 w3 l6 R6 hb3;have n3:=R3.ne l6;refine m4o ?_;clear l6 R3 hB;intro l6 R3 hB)|(refine m6z ?_;clear R3 hB;intro w4 R6 t4 R3 hB))
     refine RD (fun W=>Row 50 W b6 (mc o)/\Row 50 W b3 (mc m)) ⟨R6,R3⟩ (fun _=>?_)
     refine tk 0 (.agg (mc o)) rfl (qav 50 (.tmp 6) rfl kr b6 kr (mc o) (fun _ h=>h.1) _ underlying50 rfl (qak o)) ⟨R6,R3⟩ (tk 2 (.agg (mc m)) rfl (qav 50 (.tmp 3) rfl kr b3 kr (mc m) (fun _ h=>h.2) _ underlying50 rfl (qak m)) ⟨R6,R3⟩ ?_)
     refine m5i ?_;refine AR [1] ?_
     refine AC (fun K hK=>?_) AZ
     refine m8q ?_;refine(qfv o _).mono ?_;refine m12 ?_;clear R3 R6 hB;intro w5 hb5 R3 R6 hB
     go_wp2_with fail
     refine hK.out _ _ ⟨R6,R3⟩ (fun _=>?_)
     clear hK K;(try simp only[ZZ]);refine AR [3] ?_
     refine AC (fun K hK=>?_) AZ
     refine m8q ?_;refine(qfv m _).mono ?_;refine m12 ?_;clear R3 R6 hB;intro w5 hb5 R3 R6 hB
     go_wp2_with fail
     refine hK.out _ _ ⟨R6,R3⟩ (fun _=>?_)
     clear hK K;(try simp only[ZZ])
     refine tk 4 (.bool false) rfl (qhd 122 (.tmp 14) (.tmp 16) rfl kr (ic3 o.1 o.2.1 o.2.2.1) (ic3 m.1 m.2.1 m.2.2.1) kr kr eqGuardType122 _ _ (fun w=>qln _ _ _ _ _ _ w) hin) ⟨R6,R3⟩ (tq 5 (.bool false) rfl ⟨R6,R3⟩ (tk 6 (.agg (mc o)) rfl (qav 50 (.tmp 6) rfl kr b6 kr (mc o) (fun _ h=>h.1) _ underlying50 rfl (qak o)) ⟨R6,R3⟩ ?_))
     refine m5i ?_
     refine tk 8 (.agg (mc m)) rfl (qav 50 (.tmp 3) rfl kr b3 kr (mc m) (fun _ h=>h.2) _ underlying50 rfl (qak m)) ⟨R6,R3⟩ ?_
     refine m5i ?_;refine AR [7] ?_
     refine AC (fun K hK=>?_) AZ
     go_simp;go_at_call 76;refine(qho o _).mono ?_;refine m12 ?_;clear R3 R6 hB;intro w5 hb5 R3 R6 hB
     go_wp2_with fail
     refine hK.out _ _ ⟨R6,R3⟩ (fun _=>?_)
     clear hK K;(try simp only[ZZ]);refine AR [9] ?_
     refine AC (fun K hK=>?_) AZ
     go_simp;go_at_call 76;refine(qho m _).mono ?_;refine m12 ?_;clear R3 R6 hB;intro w5 hb5 R3 R6 hB
     go_wp2_with fail
     refine hK.out _ _ ⟨R6,R3⟩ (fun _=>?_)
     clear hK K;(try simp only[ZZ])
     refine tk 10 (.bool true) rfl (qhd 125 (.tmp 20) (.tmp 22) rfl kr (ic3 o.1 o.2.2.2.1 o.2.2.2.2) (ic3 m.1 m.2.2.2.1 m.2.2.2.2) kr kr eqGuardType125 _ _ (fun w=>qnx _ _ _ _ _ _ w) hout) ⟨R6,R3⟩ ?_
     exact sZtd25
    | false=>
     have HF:Hid (qc0 (ms.take (j+1)) m=false):=qxh hno hlj hm hin hout
     go_wp2_with (first|(refine qb5 rfl (.tmp 7) (.tmp 9) rfl (.slice a0 n cap) ms hMW rfl j rfl hlj ?_)|(refine m5l ?_)|(refine m7z ?_;intro b6 w3 l6 R6 hb3;have n3:=R3.ne l6;refine m4o ?_;clear l6 R3 hB;intro l6 R3 hB)|(refine m6z ?_;clear R3 hB;intro w4 R6 t4 R3 hB))
     refine RD (fun W=>Row 50 W b6 (mc o)/\Row 50 W b3 (mc m)) ⟨R6,R3⟩ (fun _=>?_)
     refine tk 0 (.agg (mc o)) rfl (qav 50 (.tmp 6) rfl kr b6 kr (mc o) (fun _ h=>h.1) _ underlying50 rfl (qak o)) ⟨R6,R3⟩ (tk 2 (.agg (mc m)) rfl (qav 50 (.tmp 3) rfl kr b3 kr (mc m) (fun _ h=>h.2) _ underlying50 rfl (qak m)) ⟨R6,R3⟩ ?_)
     refine m5i ?_;refine AR [1] ?_
     refine AC (fun K hK=>?_) AZ
     refine m8q ?_;refine(qfv o _).mono ?_;refine m12 ?_;clear R3 R6 hB;intro w5 hb5 R3 R6 hB
     go_wp2_with fail
     refine hK.out _ _ ⟨R6,R3⟩ (fun _=>?_)
     clear hK K;(try simp only[ZZ]);refine AR [3] ?_
     refine AC (fun K hK=>?_) AZ
     refine m8q ?_;refine(qfv m _).mono ?_;refine m12 ?_;clear R3 R6 hB;intro w5 hb5 R3 R6 hB
     go_wp2_with fail
     refine hK.out _ _ ⟨R6,R3⟩ (fun _=>?_)
     clear hK K;(try simp only[ZZ])
     refine tk 4 (.bool false) rfl (qhd 122 (.tmp 14) (.tmp 16) rfl kr (ic3 o.1 o.2.1 o.2.2.1) (ic3 m.1 m.2.1 m.2.2.1) kr kr eqGuardType122 _ _ (fun w=>qln _ _ _ _ _ _ w) hin) ⟨R6,R3⟩ (tq 5 (.bool false) rfl ⟨R6,R3⟩ (tk 6 (.agg (mc o)) rfl (qav 50 (.tmp 6) rfl kr b6 kr (mc o) (fun _ h=>h.1) _ underlying50 rfl (qak o)) ⟨R6,R3⟩ ?_))
     refine m5i ?_
     refine tk 8 (.agg (mc m)) rfl (qav 50 (.tmp 3) rfl kr b3 kr (mc m) (fun _ h=>h.2) _ underlying50 rfl (qak m)) ⟨R6,R3⟩ ?_
     refine m5i ?_;refine AR [7] ?_
     refine AC (fun K hK=>?_) AZ
     go_simp;go_at_call 76;refine(qho o _).mono ?_;refine m12 ?_;clear R3 R6 hB;intro w5 hb5 R3 R6 hB
     go_wp2_with fail
     refine hK.out _ _ ⟨R6,R3⟩ (fun _=>?_)
     clear hK K;(try simp only[ZZ]);refine AR [9] ?_
     refine AC (fun K hK=>?_) AZ
     go_simp;go_at_call 76;refine(qho m _).mono ?_;refine m12 ?_;clear R3 R6 hB;intro w5 hb5 R3 R6 hB
     go_wp2_with fail
     refine hK.out _ _ ⟨R6,R3⟩ (fun _=>?_)
     clear hK K;(try simp only[ZZ])
     refine tk 10 (.bool false) rfl (qhd 125 (.tmp 20) (.tmp 22) rfl kr (ic3 o.1 o.2.2.2.1 o.2.2.2.2) (ic3 m.1 m.2.2.2.1 m.2.2.2.2) kr kr eqGuardType125 _ _ (fun w=>qnx _ _ _ _ _ _ w) hout) ⟨R6,R3⟩ (tq 11 (.bool false) rfl ⟨R6,R3⟩ ?_)
     refine m1f ?_
     go_wp2
     go_roundw
     case rel=>exact⟨j+1,by omega,by go_num,HF.out,hB,R3⟩
     case measure=>rw[hjw];exact qek (HN.out.symm▸hlj)
  ·(have e:j=ms.length:=by omega)
   have HF:Hid (qc0 ms m=false):=by
    show _=_
    rw[e,List.take_length] at hno;exact hno
   refine m6c ?_;intro hjn;clear e hno hj hlj
   go_wp2
   go_ret
   exact⟨by rw[HF.out];rfl,hB⟩
section
variable {w:World} {b:Nat} {x y:Int}
theorem p0B(h:Row 104 w b (ic2 x y)):w.cell? ⟨b,0,none⟩=some (I Z x):=h.cell 0
theorem p1(h:Row 104 w b (ic2 x y)):w.cell? ⟨b,1,none⟩=some (I Z y):=h.cell 1
end
theorem sZtd21(h:p:=by
 go_enter func63,ntmps63
 go_wp2_with (first|(refine m4b ?_;intro b2 w1 R2 hb1 l2 hB)|(refine m29 ?_;clear R2 hB;intro b3 w2 R3 hb2 l3 R2 hB c0 c1 c2)|(go_at_call 101;go_fit (C1 _);refine m04 ?_)|(go_at_call 102;go_fit (C2 _);refine m04 ?_)|(go_at_call 103;go_fit (C3 _);refine m04 ?_)|(refine lx 50 _ (mc (p,s,i,a,q)) R3 ?_)|(go_at_call 65;refine m7i ?_;clear c0 c1 c2 R3 R2;intro w5 hb5 R3 R2;refine m2s ?_;clear hB;intro hB)|(refine m1w ?_;clear R3 R2 hB;intro b5 w6 R5 hb6 n2 n3 l5 R3 R2 hB)|(refine sx 104 _ _ (ic2 0 0) R5 ?_;intro w7 R5 t7;replace R3:=t7.row R3 n3;replace R2:=t7.row R2 n2;replace hB:=t7.below _ _ l5 hB))
 go_ret
 exact⟨_,HF.out,rfl,hB⟩):p:=h
theorem sZtd24(h:p:=by
 refine m5i ?_;refine tq 26 (.bool false) rfl ⟨R3,R2,R5⟩ (tq 27 (.bool false) rfl ⟨R3,R2,R5⟩ ?_)
 exact sZtd23):p:=h
theorem sZtd22(h:p:=by
 refine m5i ?_;refine tq 11 (.bool false) rfl ⟨R3,R2,R5⟩ (tq 12 (.bool false) rfl ⟨R3,R2,R5⟩ (tk 13 undef rfl (Or.inr ⟨by kernel_rfl,rfl⟩) ⟨R3,R2,R5⟩ ?_));refine m5i ?_;refine tk 14 undef rfl (Or.inr ⟨by kernel_rfl,rfl⟩) ⟨R3,R2,R5⟩ (tk 15 undef rfl (Or.inr ⟨by kernel_rfl,rfl⟩) ⟨R3,R2,R5⟩ (tk 16 undef rfl (Or.inr ⟨by kernel_rfl,rfl⟩) ⟨R3,R2,R5⟩ ?_));refine m5i ?_;refine tk 17 undef rfl (Or.inr ⟨by kernel_rfl,rfl⟩) ⟨R3,R2,R5⟩ (tk 18 undef rfl (Or.inr ⟨by kernel_rfl,rfl⟩) ⟨R3,R2,R5⟩ (tk 19 undef rfl (Or.inr ⟨by kernel_rfl,rfl⟩) ⟨R3,R2,R5⟩ ?_));refine m5i ?_;refine tk 20 undef rfl (Or.inr ⟨by kernel_rfl,rfl⟩) ⟨R3,R2,R5⟩ (tk 21 undef rfl (Or.inr ⟨by kernel_rfl,rfl⟩) ⟨R3,R2,R5⟩ (tk 22 undef rfl (Or.inr ⟨by kernel_rfl,rfl⟩) ⟨R3,R2,R5⟩ ?_));refine m5i ?_;refine tk 23 undef rfl (Or.inr ⟨by kernel_rfl,rfl⟩) ⟨R3,R2,R5⟩ (tk 24 undef rfl (Or.inr ⟨by kernel_rfl,rfl⟩) ⟨R3,R2,R5⟩ (tk 25 undef rfl (Or.inr ⟨by kernel_rfl,rfl⟩) ⟨R3,R2,R5⟩ ?_))
 exact sZtd24):p:=h
theorem qnw(f:Nat->Int)(g:Nat->Bool)(h:Nat->Int)(sl:Value)(p s i a q:Int)(w:World):
  Calls prog 63 #[.agg (tc f g h sl),.agg (mc (p,s,i,a,q))] w fun e w'=>∃r:Bool,(r=true↔qdb f h (p,s,i,a,q))/\e=.returned (.bool r)/\Below w.heap.size w w':=by
 refine m2a ?_;intro hB;(have C1:=fun w=>qfh p w);(have C2:=fun w=>qig s w);(have C3:=fun w=>qhe i w);(have C4:=fun w=>qgp (p,s,i,a,q) w)
 cases hp:isP p with
 | false=>
  have HF:Hid ((false=true)↔qdb f h (p,s,i,a,q)):=by
    show _↔_
    exact⟨fun h=>by simp at h,fun h=>by have:=h.1;simp only at this;rw[hp] at this;simp at this⟩
  rw[hp] at C1
  clear hp
  exact sZtd21
 | true=>
  rw[hp] at C1
  by_cases hs:0<=s/\s<8
  rotate_left
  ·have HF:Hid ((false=true)↔qdb f h (p,s,i,a,q)):=by
    show _↔_
    exact⟨fun h=>by simp at h,fun h=>absurd h.2.1 hs⟩
   (have e2:(decide (0<=s)&&decide (s<8))=false:=by rw[Bool.eq_false_iff];intro h;simp at h;exact hs h)
   rw[e2] at C2
   clear hs e2
   exact sZtd21
  (have e2:(decide (0<=s)&&decide (s<8))=true:=by simp[hs.1,hs.2])
  rw[e2] at C2
  by_cases hi:0<=i/\i<=65535
  rotate_left
  ·have HF:Hid ((false=true)↔qdb f h (p,s,i,a,q)):=by
    show _↔_
    exact⟨fun h=>by simp at h,fun h=>absurd h.2.2.1 hi⟩
   (have e3:(decide (0<=i)&&decide (i<=65535))=false:=by rw[Bool.eq_false_iff];intro h;simp at h;exact hi h)
   rw[e3] at C3
   clear hs e2 hi e3
   exact sZtd21
  (have e3:(decide (0<=i)&&decide (i<=65535))=true:=by simp[hi.1,hi.2])
  rw[e3] at C3
  by_cases hin:(1024<=q/\q<1072)/\0<=a/\a<3
  rotate_left
  ·have HF:Hid ((false=true)↔qdb f h (p,s,i,a,q)):=by
    show _↔_
    exact⟨fun h=>by simp at h,fun h=>absurd ⟨h.2.2.2.1,h.2.2.2.2.1⟩ hin⟩
   have hI:inP (p,s,i,a,q)=false:=decide_eq_false hin;have hA:plA (p,s,i,a,q)=0:=if_neg (by rw[hI];simp);have hQ:plB (p,s,i,a,q)=0:=if_neg (by rw[hI];simp)
   rw[hI,hA,hQ] at C4
   clear hs e2 hi e3 hin hI hA hQ
   go_enter func63,ntmps63
   go_wp2_with (first|(refine m4b ?_;clear hB;intro b2 w1 R2 hb1 l2 hB)|(refine m29 ?_;clear R2 hB;intro b3 w2 R3 hb2 l3 R2 hB c0 c1 c2)|(go_at_call 101;go_fit (C1 _);refine m04 ?_)|(go_at_call 102;go_fit (C2 _);refine m04 ?_)|(go_at_call 103;go_fit (C3 _);refine m04 ?_)|(refine lx 50 _ (mc (p,s,i,a,q)) R3 ?_)|(go_at_call 65;refine m7i ?_;clear c0 c1 c2 R3 R2;intro w5 hb5 R3 R2;refine m2s ?_;clear hB;intro hB)|(refine m1w ?_;clear R3 R2 hB;intro b5 w6 R5 hb6 n2 n3 l5 R3 R2 hB)|(refine sx 104 _ _ (ic2 0 0) R5 ?_;intro w7 R5 t7;replace R3:=t7.row R3 n3;replace R2:=t7.row R2 n2;replace hB:=t7.below _ _ l5 hB))
   refine RD (fun W=>Row 50 W b3 (mc (p,s,i,a,q))/\Row 39 W b2 (tc f g h sl)/\Row 104 W b5 (ic2 0 0)) ⟨R3,R2,R5⟩ (fun _=>?_)
   refine tq 0 (.bool false) rfl ⟨R3,R2,R5⟩ (tq 1 (.bool false) rfl ⟨R3,R2,R5⟩ (tk 2 undef rfl (Or.inr ⟨by kernel_rfl,rfl⟩) ⟨R3,R2,R5⟩ ?_));refine m5i ?_;refine tk 3 undef rfl (Or.inr ⟨by kernel_rfl,rfl⟩) ⟨R3,R2,R5⟩ (tk 4 undef rfl (Or.inr ⟨by kernel_rfl,rfl⟩) ⟨R3,R2,R5⟩ (tk 5 undef rfl (Or.inr ⟨by kernel_rfl,rfl⟩) ⟨R3,R2,R5⟩ ?_));refine m5i ?_;refine tk 6 undef rfl (Or.inr ⟨by kernel_rfl,rfl⟩) ⟨R3,R2,R5⟩ (tk 7 undef rfl (Or.inr ⟨by kernel_rfl,rfl⟩) ⟨R3,R2,R5⟩ (tk 8 undef rfl (Or.inr ⟨by kernel_rfl,rfl⟩) ⟨R3,R2,R5⟩ ?_));refine m5i ?_;refine tk 9 undef rfl (Or.inr ⟨by kernel_rfl,rfl⟩) ⟨R3,R2,R5⟩ (tk 10 undef rfl (Or.inr ⟨by kernel_rfl,rfl⟩) ⟨R3,R2,R5⟩ ?_)
   exact sZtd22
  have hI:inP (p,s,i,a,q)=true:=decide_eq_true hin;have hA:plA (p,s,i,a,q)=a:=if_pos hI;have hQ:plB (p,s,i,a,q)=(q-1024)/8:=if_pos hI
  rw[hI,hA,hQ] at C4
  obtain⟨K,hK⟩:∃K,K=(q-1024)/8:=⟨_,rfl⟩
  rw[←hK] at C4
  (have hpl:qdi a q=a.toNat*6+K.toNat:=by unfold qdi;rw[hK];omega);(have hK0:0<=K:=by omega);(have hK6:K<6:=by omega);have ha0:0<=a:=hin.2.1;have ha3:a<3:=hin.2.2;have hs0:0<=s:=hs.1;have hs8:s<8:=hs.2;refine m6p ?_;intro hsw haw hsw2 haw2;(have hH:∀W b,Row 39 W b (tc f g h sl)->W.cell? ⟨b,21+s.toNat,none⟩=some (I Z (h s.toNat)):=fun W b R=>(R.cell _).trans (qhc f g h sl s.toNat om));(have hO:∀W b,Row 39 W b (tc f g h sl)->W.cell? ⟨b,a.toNat*6+K.toNat,none⟩=some (I Z (f (a.toNat*6+K.toNat))):=fun W b R=>(R.cell _).trans (qvl f g h sl _ om))
  by_cases hhome:h s.toNat=a+1
  rotate_left
  ·have HF:Hid ((false=true)↔qdb f h (p,s,i,a,q)):=by
    show _↔_
    exact⟨fun h=>by simp at h,fun h=>absurd h.2.2.2.2.2.1 hhome⟩
   (have dz:(h s.toNat==a+1)=false:=by simpa using hhome);clear hs e2 hi e3 hin hI hA hQ hK hpl hhome
   go_enter func63,ntmps63
   go_wp2_with (first|(refine m4b ?_;clear hB;intro b2 w1 R2 hb1 l2 hB)|(refine m29 ?_;clear R2 hB;intro b3 w2 R3 hb2 l3 R2 hB c0 c1 c2)|(go_at_call 101;go_fit (C1 _);refine m04 ?_)|(go_at_call 102;go_fit (C2 _);refine m04 ?_)|(go_at_call 103;go_fit (C3 _);refine m04 ?_)|(refine lx 50 _ (mc (p,s,i,a,q)) R3 ?_)|(go_at_call 65;refine m7i ?_;clear c0 c1 c2 R3 R2;intro w5 hb5 R3 R2;refine m2s ?_;clear hB;intro hB)|(refine m1w ?_;clear R3 R2 hB;intro b5 w6 R5 hb6 n2 n3 l5 R3 R2 hB)|(refine m97 ?_;clear R3 R2 hB;intro w7 R5 t7 R3 R2 hB))
   refine RD (fun W=>Row 50 W b3 (mc (p,s,i,a,q))/\Row 39 W b2 (tc f g h sl)/\Row 104 W b5 (ic2 a K)) ⟨R3,R2,R5⟩ (fun _=>?_)
   refine m3w ?_;refine m5i ?_;refine tk 3 (I Z s) rfl (Or.inl ⟨by kernel_rfl,by intro w hS;have hc:=m1 hS.1;go_simp⟩) ⟨R3,R2,R5⟩ (tq 4 ((V (some ⟨b2,21,none⟩))) rfl ⟨R3,R2,R5⟩ (tq 5 ((V (some ⟨b2,21+s.toNat,none⟩))) rfl ⟨R3,R2,R5⟩ ?_));refine m5i ?_;refine tk 6 (I Z (h s.toNat)) rfl (Or.inl ⟨by kernel_rfl,by intro w hS;have hc:=hH _ _ hS.2.1;go_simp⟩) ⟨R3,R2,R5⟩ (tq 7 ((V (some ⟨b3,3,none⟩))) rfl ⟨R3,R2,R5⟩ (tk 8 (I Z a) rfl (Or.inl ⟨by kernel_rfl,by intro w hS;have hc:=m3 hS.1;go_simp⟩) ⟨R3,R2,R5⟩ ?_));refine m5i ?_;refine tq 9 (I Z (a+1)) rfl ⟨R3,R2,R5⟩ (tq 10 (.bool false) rfl ⟨R3,R2,R5⟩ ?_)
   exact sZtd22
  (have dh:(h s.toNat==a+1)=true:=by simpa using hhome)
  by_cases hown:f (a.toNat*6+K.toNat)=s+1
  ·have HF:Hid ((true=true)↔qdb f h (p,s,i,a,q)):=by
    show _↔_
    exact⟨fun _=>⟨hp,hs,hi,hin.1,hin.2,hhome,by show f (qdi a q)=_;rw[hpl];exact hown⟩,fun _=>rfl⟩
   (have dz:(f (a.toNat*6+K.toNat)==s+1)=true:=by simpa using hown);clear hs e2 hi e3 hin hI hA hQ hK hpl hhome hown hp
   go_enter func63,ntmps63
   go_wp2_with (first|(refine m4b ?_;clear hB;intro b2 w1 R2 hb1 l2 hB)|(refine m29 ?_;clear R2 hB;intro b3 w2 R3 hb2 l3 R2 hB c0 c1 c2)|(go_at_call 101;go_fit (C1 _);refine m04 ?_)|(go_at_call 102;go_fit (C2 _);refine m04 ?_)|(go_at_call 103;go_fit (C3 _);refine m04 ?_)|(refine lx 50 _ (mc (p,s,i,a,q)) R3 ?_)|(go_at_call 65;refine m7i ?_;clear c0 c1 c2 R3 R2;intro w5 hb5 R3 R2;refine m2s ?_;clear hB;intro hB)|(refine m1w ?_;clear R3 R2 hB;intro b5 w6 R5 hb6 n2 n3 l5 R3 R2 hB)|(refine m97 ?_;clear R3 R2 hB;intro w7 R5 t7 R3 R2 hB))
   refine RD (fun W=>Row 50 W b3 (mc (p,s,i,a,q))/\Row 39 W b2 (tc f g h sl)/\Row 104 W b5 (ic2 a K)) ⟨R3,R2,R5⟩ (fun _=>?_)
   refine m3w ?_;refine m07 ?_;refine m5i ?_;refine tq 24 (I Z (s+1)) rfl ⟨R3,R2,R5⟩ (tq 25 (.bool true) rfl ⟨R3,R2,R5⟩ (tq 26 (.bool true) rfl ⟨R3,R2,R5⟩ ?_));refine m5i ?_;refine tq 27 (.bool true) rfl ⟨R3,R2,R5⟩ ?_
   exact sZtd23
  ·have HF:Hid ((false=true)↔qdb f h (p,s,i,a,q)):=by
    show _↔_
    exact⟨fun h=>by simp at h,fun h=>absurd (by have:=h.2.2.2.2.2.2;simp only at this;rw[hpl] at this;exact this) hown⟩
   (have dz:(f (a.toNat*6+K.toNat)==s+1)=false:=by simpa using hown);clear hs e2 hi e3 hin hI hA hQ hK hpl hhome hown hp
   go_enter func63,ntmps63
   go_wp2_with (first|(refine m4b ?_;clear hB;intro b2 w1 R2 hb1 l2 hB)|(refine m29 ?_;clear R2 hB;intro b3 w2 R3 hb2 l3 R2 hB c0 c1 c2)|(go_at_call 101;go_fit (C1 _);refine m04 ?_)|(go_at_call 102;go_fit (C2 _);refine m04 ?_)|(go_at_call 103;go_fit (C3 _);refine m04 ?_)|(refine lx 50 _ (mc (p,s,i,a,q)) R3 ?_)|(go_at_call 65;refine m7i ?_;clear c0 c1 c2 R3 R2;intro w5 hb5 R3 R2;refine m2s ?_;clear hB;intro hB)|(refine m1w ?_;clear R3 R2 hB;intro b5 w6 R5 hb6 n2 n3 l5 R3 R2 hB)|(refine m97 ?_;clear R3 R2 hB;intro w7 R5 t7 R3 R2 hB))
   refine RD (fun W=>Row 50 W b3 (mc (p,s,i,a,q))/\Row 39 W b2 (tc f g h sl)/\Row 104 W b5 (ic2 a K)) ⟨R3,R2,R5⟩ (fun _=>?_)
   refine m3w ?_;refine m07 ?_;refine m5i ?_;refine tq 24 (I Z (s+1)) rfl ⟨R3,R2,R5⟩ (tq 25 (.bool false) rfl ⟨R3,R2,R5⟩ ?_)
   exact sZtd24
theorem q5r{w':World}(h:Plc w base v l)(hb:Below w.heap.size w w'):Plc w' base v l:=qst h hb
def pl2(n:Nat):List Value:=[I Z ((n/6:Nat):Int),I Z ((n%6:Nat):Int)]
theorem q8v(l:List Nat)(j i:Nat)(hj:j<l.length)(hi:i<2):(plc l)[2*j+i]?=(pl2 l[j])[i]?:=by
 induction l generalizing j with
 | nil=>simp at hj
 | cons m r ih=>
  (have e:plc (m::r)=pl2 m++plc r:=by unfold plc pl2;rw[List.flatMap_cons]);rw[e]
  cases j with
  | zero=>rw[List.getElem?_append_left (by simp[pl2];omega)];simp
  | succ j=>
   rw[List.getElem?_append_right (by simp[pl2];omega)]
   have:2*(j+1)+i-(pl2 m).length=2*j+i:=by simp[pl2];omega
   rw[this,ih j (by simpa using hj)]
   simp
theorem Plc.at(h:Plc w base v l)(j:Nat)(hj:j<l.length)(hn:l[j]=n):w.rangeAt (mb v) (2*j) (pl2 n):=by
 rcases h.2 with⟨e,n0⟩|⟨b,cap,cur,hv,hbb,hh,hnc,hcm,hcs,ht⟩
 ·omega
 ·have hc:=World.ownsRow.cells h (g:=b) (by rw[hv];rfl);intro i u hu;have hi:i<2:=(List.getElem?_eq_some_iff.1 hu).1;have hg:=q8v l j i hj hi
  rw[hn,hu] at hg
  have:=hc _ _ hg
  rw[Addr.add_lit] at this
  rw[hv]
  simpa[mb] using this
theorem qua{ops:Array Oper}{rest:List Oper}{o:Oper}{a:Act}{Q:Exit->Act->World->Prop}(hgd:o.guard=none)(x y:Operand)(ho:o.op=.indexAddr 153 x y)(base:Nat)(v:Value)(l:List Nat)(hP:Plc w base v l)(hx:a.eval x=v)(j:Nat)(hy:a.eval y=I Z (j:Int))(hj:j<l.length)(hr:wpList prog ops Q rest (a.put o.dst (V (some ⟨mb v,2*j,none⟩))) w):wpList prog ops Q (o::rest) a w:=
 wpList_plain hgd fun K hK=>by
  rcases hP.2 with⟨e,n0⟩|⟨b,cap,cur,hv,hbb,hh,hnc,hcm,hcs,ht⟩
  ·omega
  ·subst hv
   (have hn:((j:Int)).toNat<l.length:=by simpa using hj);(have hjl:(j:Int)<(l.length:Int):=by omega);(have hs:(sizeOf 104).run prog w=.ok 2 w:=by kernel_rfl)
   have hrun:(Instr.indexAt 153 (.slice (some ⟨b,0,none⟩) l.length cap) (I Z (j:Int))).run prog w=.ok (V (some ⟨b,2*j,none⟩)) w:=by
    simp[go_sem,hj,hn,hjl,underlying153,hs]
   unfold Oper.wp execOp
   simp only[ho,hx,hy,Sem.run_bind,hrun,Result.andThen_ok,Sem.run_pure]
   exact hK _ _ hr
def unS:Option (Nat×Nat)->Value
 | some x=>.tuple #[I Z (qe5 x.1 x.2),.bool true]
 | none=>.tuple #[I Z 0,.bool false]
theorem q6n(n:Nat):(prog.info? 104).map (·.size)=some (pl2 n).length:=by kernel_rfl
theorem qq5(ms:List Mp)(p a q:Int):qk7 ms p a q=(ms.find? (outS p a q)).isSome:=by
 unfold qk7;rw[List.isSome_find?]
theorem qyq{p:Int}(hi:i<8)(hb:∀i',i'<i->qk7 ms p ((n/6:Nat):Int) (qe5 n i')=true)(hu:qk7 ms p ((n/6:Nat):Int) (qe5 n i)=false):qie ms p n=some i:=by
 unfold qie
 rw[List.find?_range_eq_some]
 exact⟨by rw[hu];rfl,List.mem_range.2 hi,fun j hj=>by rw[hb j hj];rfl⟩
theorem qxj{p:Int}(hb:∀i',i'<8->qk7 ms p ((n/6:Nat):Int) (qe5 n i')=true):qie ms p n=none:=by
 unfold qie
 rw[List.find?_eq_none];intro i hi
 rw[hb i (List.mem_range.1 hi)];simp
theorem qqj{p:Int}(hlj:j<l.length)(hn:l[j]=n)(h:qie ms p n=some i):qcy ms p (l.drop j)=some (n,i):=by
 rw[List.drop_eq_getElem_cons hlj,hn];unfold qcy;rw[h]
theorem qpp{p:Int}(hlj:j<l.length)(hn:l[j]=n)(h:qie ms p n=none):qcy ms p (l.drop j)=qcy ms p (l.drop (j+1)):=by
 rw[List.drop_eq_getElem_cons hlj,hn]
 conv=>lhs;unfold qcy
 rw[h]
theorem q0y(f:Nat->Int)(g:Nat->Bool)(h:Nat->Int)(sl:Value)(ms:List Mp)(p:Int)(base:Nat)(v:Value)(l:List Nat)(w:World)(hM:qaz w sl ms)(hP:Plc w base v l)(hl18:l.length<=18):
  Calls prog 187 #[.agg (tc f g h sl),I Z p,v] w fun e w'=>e=.returned (unS (qcy ms p l))/\Below w.heap.size w w':=by
 refine m2a ?_;intro hB;have hM0:=hM
 obtain⟨a0,cap,hsl,-⟩:=hM0
 obtain⟨n,hn⟩:∃n,n=ms.length:=⟨_,rfl⟩
 rw[←hn] at hsl
 subst hsl
 refine m4n ?_;clear hn;intro HN hlt;obtain⟨a1,c1,hv⟩:=hP.slice
 obtain⟨L,hL⟩:∃L,L=l.length:=⟨_,rfl⟩
 rw[←hL] at hv
 subst hv
 have HL:Hid (L=l.length):=hL;clear hL
 go_enter func187,ntmps187
 go_wp2_with (refine m1x ?_;clear hB;intro bT w1 RT hb1 lT hB)
 go_loopw [16] (fun i W=>∃j:Nat,j<=l.length/\i=I Z j/\qcy ms p l=qcy ms p (l.drop j)/\Below w.heap.size w W/\Row 39 W bT (tc f g h (.slice a0 n cap))) (fun i _=>L-(intOf i).toNat)
 case atStart=>exact⟨0,by omega,rfl,by rw[List.drop_zero],hB,RT⟩
 case round=>
  clear hB RT hb1
  obtain⟨j,hj,rfl,hun,hB,RT⟩:=hrel
  by_cases hlj:j<l.length
  ·(have hjn:(j:Int)<(L:Int):=by have:=HL.out;omega);(have hjw:wrap64 ((j:Int)+1)=(j:Int)+1:=by unfold wrap64;omega)
   obtain⟨N,hN⟩:∃N,l[j]=N:=⟨_,rfl⟩
   have hPW:Plc _ base (.slice a1 L c1) l:=q5r hP hB;have hrg:=hPW.at j hlj hN;have HU:Hid (qcy ms p l=qcy ms p (l.drop j)):=hun;clear hun;(have hN6:(0:Int)<=((N%6:Nat):Int):=by omega);(have hN6':((N%6:Nat):Int)<=6:=by omega)
   obtain⟨kA,hkA⟩:∃kA:Int,Hid (kA=((N/6:Nat):Int)):=⟨_,rfl⟩
   obtain⟨kB,hkB⟩:∃kB:Int,Hid (kB=((N%6:Nat):Int)):=⟨_,rfl⟩
   rw[←hkB.out] at hN6 hN6'
   (have C1:=fun w=>qkm kB hN6 hN6' w);(have hpi:(pl2 N).toArray=ic2 kA kB:=by rw[hkA.out,hkB.out];rfl)
   go_wp2_with (first|(refine qua rfl (.tmp 14) (.tmp 16) rfl base (.slice a1 L c1) l hPW rfl j rfl hlj ?_)|(refine wpList_load_mid rfl 104 _ rfl _ _ rfl (pl2 N) _ hrg underlying104 rfl (q6n N) ?_;rw[hpi])|(refine ay 104 qcn ?_;intro b9 w3 l9 R9 hb3;have nT:=RT.ne l9;replace l9:=Nat.le_trans hB.size l9;replace RT:=RT.below hb3;replace hB:=hB.trans (hb3.mono hB.size))|(refine sx 104 _ _ (ic2 kA kB) R9 ?_;intro w4 R9 t4;replace RT:=t4.row RT nT;replace hB:=t4.below _ _ l9 hB))
   go_loopw [20] (fun i W=>∃k:Nat,k<=8/\i=I Z k/\(∀i',i'<k->qk7 ms p ((N/6:Nat):Int) (qe5 N i')=true)/\Below w.heap.size w W/\Row 39 W bT (tc f g h (.slice a0 n cap))/\Row 104 W b9 (ic2 kA kB)) (fun i _=>8-(intOf i).toNat)
   case atStart=>exact⟨0,by omega,rfl,fun i' hi'=>absurd hi' om,hB,RT,R9⟩
   case round=>
    clear hB RT R9 hPW hrg
    obtain⟨k,hk,rfl,hused,hB,RT,R9⟩:=hrel
    by_cases hk8:k<8
    ·have d0:=p0B R9;have d1:=p1 R9
     have hPQ:Hid (1024+kB*8+(k:Int)=qe5 N k):=by
      show _=_
      have:=hkB.out;unfold qe5;omega
     (have CB:=fun w hM=>qqr f g h (.slice a0 n cap) ms p kA (1024+kB*8+(k:Int)) w hM)
     cases hfd:ms.find? (outS p kA (1024+kB*8+(k:Int))) with
     | none=>
      have HF:Hid (qcy ms p l=some (N,k)):=by
       show _=_
       rw[HU.out]
       exact qqj hlj hN (qyq hk8 hused (by rw[qq5,←hPQ.out,←hkA.out,hfd];rfl))
      rw[hfd] at CB
      unfold qhw at CB
      clear hN hfd hused hpi
      go_wp2_with (first|(go_at_call 74;go_fit (C1 _);refine m04 ?_)|(refine lx 39 _ (tc f g h (.slice a0 n cap)) RT ?_)|(go_at_call 34;go_fit (CB _ (hM.keep hB hlt));rintro e w5 ⟨rfl,hb5⟩;clear d0 d1;replace RT:=RT.below hb5;replace R9:=R9.below hb5;refine m2s ?_;clear hB;intro hB)|(refine m7z ?_;intro b12 w6 l12 R12 hb6;have nT2:=RT.ne l12;have n92:=R9.ne l12;replace l12:=Nat.le_trans hB.size l12;replace RT:=RT.below hb6;replace R9:=R9.below hb6;replace hB:=hB.trans (hb6.mono hB.size))|(refine sx 50 _ _ (mc noM) R12 ?_;intro w7 R12 t7;replace RT:=t7.row RT nT2;replace R9:=t7.row R9 n92;replace hB:=t7.below _ _ l12 hB))
      go_ret2
      exact⟨by rw[HF.out];show _=Ending.returned (.tuple #[I Z (qe5 N k),.bool true]);rw[←hPQ.out];rfl,hB⟩
     | some mm=>
      have HF:Hid (∀i',i'<k+1->qk7 ms p ((N/6:Nat):Int) (qe5 N i')=true):=by
       show ∀i',_
       intro i' hi'
       by_cases e:i'=k
       ·subst e;rw[qq5,←hPQ.out,←hkA.out,hfd];rfl
       ·exact hused i' om
      rw[hfd] at CB
      unfold qhw at CB
      clear hfd hused hpi
      go_wp2_with (first|(go_at_call 74;go_fit (C1 _);refine m04 ?_)|(refine lx 39 _ (tc f g h (.slice a0 n cap)) RT ?_)|(go_at_call 34;go_fit (CB _ (hM.keep hB hlt));rintro e w5 ⟨rfl,hb5⟩;clear d0 d1;replace RT:=RT.below hb5;replace R9:=R9.below hb5;refine m2s ?_;clear hB;intro hB)|(refine m7z ?_;intro b12 w6 l12 R12 hb6;have nT2:=RT.ne l12;have n92:=R9.ne l12;replace l12:=Nat.le_trans hB.size l12;replace RT:=RT.below hb6;replace R9:=R9.below hb6;replace hB:=hB.trans (hb6.mono hB.size))|(refine sx 50 _ _ (mc mm) R12 ?_;intro w7 R12 t7;replace RT:=t7.row RT nT2;replace R9:=t7.row R9 n92;replace hB:=t7.below _ _ l12 hB))
      go_roundw
      case rel=>exact⟨k+1,by omega,by go_num,HF.out,hB,RT,R9⟩
      case measure=>simp[intOf];omega
    ·(have e:k=8:=by omega)
     subst e
     have HF:Hid (qcy ms p l=qcy ms p (l.drop (j+1))):=by
      show _=_
      rw[HU.out]
      exact qpp hlj hN (qxj hused)
     clear hused hpi
     go_wp2
     go_roundw
     case rel=>exact⟨j+1,by omega,by go_num,HF.out,hB,RT⟩
     case measure=>(first|rw[hjw]|skip);exact qek (HL.out.symm▸hlj)
  ·(have e:j=l.length:=by omega);(have hjn:(L:Int)<=(j:Int):=by have:=HL.out;omega)
   have HF:Hid (qcy ms p l=none):=by
    show _=_
    rw[hun,e,List.drop_length];rfl
   clear e hj hlj hun
   go_wp2
   go_ret2
   exact⟨by rw[HF.out];rfl,hB⟩
theorem qxp(f:Nat->Int)(g:Nat->Bool)(h:Nat->Int)(sl:Value)(s d:Int)(hs0:0<=s)(hs8:s<8)(hh0:0<=h s.toNat)(hh3:h s.toNat<=3)(hd:(Lit.int .i64 d).wf=true)(w:World):
  Calls prog 188 #[.agg (tc f g h sl),.int .i64 s,.int .i64 d] w fun e w'=>e=.returned (.tuple #[.int .i64 (qdn f g h s d),.int .i64 (qgv f g h s)])/\Below w.heap.size w w':=by
 refine m2a ?_;intro hB;(have C:=fun w=>q6b f g d hd w)
 unfold plv at C
 by_cases hz:h s.toNat=0
 ·have HA:Hid (qdn f g h s d=qkr f g d):=if_pos hz;have HE:Hid (qgv f g h s=qk1 f g):=if_pos hz;(have dz:(h s.toNat != 0)=false:=by simp[hz]);clear hz
  go_enter func188,ntmps188
  go_wp2_with (first|(refine bx 39 _ _ ?_;intro b3 w1 l3 R3 hb1;refine m5a ?_;clear hB;intro hB;have cH:w1.cell? ⟨b3,21+s.toNat,none⟩=some (.int .i64 (h s.toNat)):=(R3.cell _).trans (qhc f g h sl s.toNat om);have hrp:=R3.pool)|(refine m4r ?_)|(go_at_call 207;go_fit (C _);rintro e w5 ⟨rfl,hb5⟩;refine m2s ?_;clear hB;intro hB))
  go_ret2
  exact⟨by rw[HA.out,HE.out];rfl,hB⟩
 ·have HA:Hid (qdn f g h s d=h s.toNat-1):=if_neg hz;have HE:Hid (qgv f g h s=0):=if_neg hz;(have dz:(h s.toNat != 0)=true:=by simp[hz]);(have hw1:wrap64 (h s.toNat-1)=h s.toNat-1:=by unfold wrap64;omega);clear hz
  go_enter func188,ntmps188
  go_wp2_with (refine bx 39 _ _ ?_;intro b3 w1 l3 R3 hb1;refine m5a ?_;clear hB;intro hB;have cH:w1.cell? ⟨b3,21+s.toNat,none⟩=some (.int .i64 (h s.toNat)):=(R3.cell _).trans (qhc f g h sl s.toNat om))
  go_ret2
  exact⟨by rw[HA.out,HE.out];rfl,hB⟩
end Go.Proofs.YtonnjgmognbnbaaGreatDoor
