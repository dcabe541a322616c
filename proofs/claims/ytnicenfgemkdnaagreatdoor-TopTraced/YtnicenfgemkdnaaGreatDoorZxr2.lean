/-
  Of what a law stands on.
-/
import Derived.Deep.Slices
import Derived.SizedLaws
import Derived.Test.YtnicenfgemkdnaaGreatDoorZxr1
set_option linter.unusedSimpArgs false
set_option linter.unusedVariables false
namespace Go.Proofs.YtnicenfgemkdnaaGreatDoor
open _root_.Go.Proofs.Tryz
set_option maxHeartbeats 16000000
set_option maxRecDepth 100000
open Go.ChangeShapes Go.WideShapes Go.ChangeAt Go.RowKit
theorem sZxr21{p:Prop}(h:p:=by
 simp only[ZZ]
 refine tq 11 (.bool true) rfl ⟨R8,c0⟩ ?_
 simp only[ZZ]
 refine AN ?_
 go_wp2
 go_ret2
 exact⟨by rw[HS.out];rfl,hB⟩):p:=h
theorem sZxr22{p:Prop}(h:p:=by
 go_enter func154,ntmps154
 go_wp2
 go_ret2
 exact⟨by rw[HS.out];rfl,hB⟩):p:=h
theorem qwm(seq:Int)(sl:Value)(es:List Ev)(w:World)(hM:EvAt w sl es):Calls prog 154 #[.int .i64 seq,sl] w fun x w'=>x=.returned (mesS seq es)/\Below w.heap.size w w':=by
 have hB:=Below.refl w.heap.size w
 obtain⟨a0,cap,hsl⟩:=hM.slice
 obtain⟨n,hn⟩:∃n,n=es.length:=⟨_,rfl⟩
 rw[←hn] at hsl
 subst hsl
 have HN:Hid (n=es.length):=hn
 have hlt:=hM.lt
 by_cases h0:n=0
 ·have HS:Hid (mesS seq es=_):=q15 om
  subst h0
  clear hn
  exact sZxr22
 have h0':((n:Int)==0)=false:=by simp;omega
 by_cases h64:64<n
 ·have HS:Hid (mesS seq es=_):=q18 om
  have h64':decide ((64:Int)<(n:Int))=true:=by simp;omega
  clear hn h0 h64
  exact sZxr22
 have h64':decide ((64:Int)<(n:Int))=false:=by simp;omega
 have hl0:0<es.length:=by omega
 have hl64:es.length<=64:=by omega
 have hT0:=hM.time0 hl0
 have I0:=fun w2=>hM.index0 hl0 w2
 clear hn h0 h64
 have hO:=Bys.nil w w.heap.size
 have hG:=Grew.refl (.slice none 0 0) w
 have hBG:∀ {v':Value} {w':World},Grew (.slice none 0 0) v' w w'->Below w.heap.size w w':=fun h=>h.below (Nat.le_refl _) (fun k hk=>by simp[Value.ownBlock] at hk)
 go_enter func154,ntmps154
 go_wp2
 go_loopw [6,19] (fun v i W=>∃j:Nat,j<=es.length/\i=.int .i64 (j:Int)/\Bys W w.heap.size v (setB (es.take j))/\Grew (.slice none 0 0) v w W/\okTo es j) (fun _ i _=>n-(intOf i).toNat)
 case atStart=>exact⟨0,by omega,rfl,hO,hG,q2g es⟩
 case round=>
  clear hO hG hB
  obtain⟨j,hj,rfl,hO,hG,hok⟩:=hrel
  have hB:=hBG hG
  have c0:World.cell? _ ⟨eb (.slice a0 n cap),eo (.slice a0 n cap),none⟩=some (.int .i64 (tmE es)):=(hM.keep hB hlt).time0 hl0
  have hBl:=hlt hl0
  by_cases hlj:j<es.length
  ·have hjn:(j:Int)<(n:Int):=by have:=HN.out;omega
   have hjw:=q8g hlj hM.len
   obtain⟨e,he⟩:∃e,es[j]=e:=⟨_,rfl⟩
   have hMW:=hM.keep hB hlt
   have hrg:=hMW.at j hlj he
   have IR:=fun w2=>hM.index j hlj w2
   by_cases hk:okE e
   ·have CG:∀w,Calls prog 59 #[.agg (ec e)] w fun x w'=>x=.returned (.int .i64 0)/\Below w.heap.size w w':=fun w=>by have:=qro e w;rw[qs0 hk] at this;exact this
    by_cases ht:e.t=tmE es
    ·have hte:(e.t != tmE es)=false:=by simpa using ht
     have HK:Hid (okTo es (j+1)):=q17 hok hlj he hk ht
     have HB:Hid (setB (es.take (j+1))=setB (es.take j)++evB e):=q23 hlj he
     have hlb:(setB (es.take j)).length<=2000:=by rw[qnn,List.length_take];omega
     clear ht he
     go_upto_region 9 with(first|((with_reducible refine atOp (.indexAddr 52 (.tmp 17) (.tmp 19)) rfl ?_);refine qh0 52 (.tmp 17) (.tmp 19) rfl rfl _ _ _ rfl rfl (IR _) ?_)|((with_reducible refine gL 105 21 ?_);refine qlr (.tmp 21) rfl rfl _ _ rfl e hrg ?_)|((with_reducible refine gA 105 ?_);refine ax 8 105 qr3 ?_;intro b8 w3 l8 R8 hb3;have hne:=qg7 hO l8;replace l8:=Nat.le_trans hB.size l8;replace c0:=qhi c0 hb3;replace hO:=hO.below hb3;replace hG:=hG.trans (Grew.ofBelow hb3);replace hB:=hBG hG;clear hrg hMW)|((with_reducible refine gS 105 8 22 ?_);refine qab 105 rfl (.tmp 8) (.tmp 22) rfl b8 rfl (ec e) rfl _ R8 rfl (qf2 e) (qqy e) ?_;intro w4 R8 t4;replace c0:=qnq c0 t4 (Nat.lt_of_lt_of_le hBl l8);replace hO:=qe9 hO hne t4;replace hG:=qew hG l8 t4;replace hB:=hBG hG))
     refine RD (fun W=>Row 105 W b8 (ec e)/\W.cell? ⟨eb (.slice a0 n cap),eo (.slice a0 n cap),none⟩=some (.int .i64 (tmE es))) ⟨R8,c0⟩ (fun _=>?_)
     refine tk 0 (.agg (ec e)) rfl (qav 105 (.tmp 8) rfl kr b8 kr (ec e) (fun w h=>h.1) _ underlying105 rfl (qf2 e)) ⟨R8,c0⟩ ?_
     simp only[ZZ]
     refine AR [1] ?_
     refine AC (fun K hK=>?_) ?_
     ·go_simp
      go_at_call 59;refine(CG _).mono ?_;rintro x w5 ⟨rfl,hb5⟩;replace hb5:=qmk hb5;replace R8:=R8.below hb5;replace c0:=qhi c0 hb5;replace hO:=hO.below hb5;replace hG:=hG.trans (Grew.ofBelow hb5);replace hB:=hBG hG
      go_wp2_with fail
      refine hK.out _ _ ⟨R8,c0⟩ (fun _=>?_)
      clear hK K
      try simp only[ZZ]
      refine tq 2 (.bool false) rfl ⟨R8,c0⟩ (tq 3 (.bool false) rfl ⟨R8,c0⟩ (tq 4 (.pointer (some ⟨b8,0,none⟩)) rfl ⟨R8,c0⟩ ?_))
      simp only[ZZ]
      refine tk 5 (.int .i64 e.t) rfl (qim (.tmp 27) rfl kr b8 0 kr e.t (fun w h=>(h.1.cell 0).trans rfl)) ⟨R8,c0⟩ (tq 6 (.slice a0 n cap) rfl ⟨R8,c0⟩ (tk 7 (.pointer (some ⟨eb (.slice a0 n cap),eo (.slice a0 n cap),none⟩)) rfl (qgk 52 (.tmp 29) (.const (.int .i64 0)) rfl kr _ _ _ kr kr I0) ⟨R8,c0⟩ ?_))
      simp only[ZZ]
      refine tq 8 (.pointer (some ⟨eb (.slice a0 n cap),eo (.slice a0 n cap),none⟩)) rfl ⟨R8,c0⟩ (tk 9 (.int .i64 (tmE es)) rfl (qim (.tmp 31) rfl kr (eb (.slice a0 n cap)) (eo (.slice a0 n cap)) kr (tmE es) (fun w h=>h.2)) ⟨R8,c0⟩ (tk 10 (.bool false) rfl (qrk 3 (.tmp 28) (.tmp 32) e.t (tmE es) false rfl kr kr kr hte) ⟨R8,c0⟩ ?_))
      simp only[ZZ]
      refine tq 11 (.bool false) rfl ⟨R8,c0⟩ ?_
      simp only[ZZ]
      refine AN ?_
      go_wp2_with (first|((with_reducible refine gL 105 8 ?_);refine qac 105 (.tmp 8) rfl rfl b8 rfl (ec e) R8 _ underlying105 rfl (qf2 e) ?_)|(go_at_call 161;go_fit (qvw e _ hO hB.size om hk);rintro x w5 ⟨v5,rfl,hO5,hG5⟩;replace hO:=hO5;replace hG:=hG.trans hG5;clear hO5 hG5))
      go_roundw
      case rel=>first|exact⟨j+1,by omega,by go_num,by rw[HB.out];exact hO,hG,HK.out⟩|((repeat apply Exists.intro);exact⟨⟨j+1,by omega,by go_num,by rw[HB.out];exact hO,hG,HK.out⟩,rfl⟩)
      case measure=>(first|rw[hjw]|skip);exact q8s (HN.out.symm▸hlj)
     exact AZ
    ·have hte:(e.t != tmE es)=true:=by simpa using ht
     have HS:Hid (mesS seq es=_):=qu6 hl0 hl64 (qx1 hlj he (fun h=>ht h.2))
     clear ht he
     go_upto_region 9 with(first|((with_reducible refine atOp (.indexAddr 52 (.tmp 17) (.tmp 19)) rfl ?_);refine qh0 52 (.tmp 17) (.tmp 19) rfl rfl _ _ _ rfl rfl (IR _) ?_)|((with_reducible refine gL 105 21 ?_);refine qlr (.tmp 21) rfl rfl _ _ rfl e hrg ?_)|((with_reducible refine gA 105 ?_);refine ax 8 105 qr3 ?_;intro b8 w3 l8 R8 hb3;have hne:=qg7 hO l8;replace l8:=Nat.le_trans hB.size l8;replace c0:=qhi c0 hb3;replace hO:=hO.below hb3;replace hG:=hG.trans (Grew.ofBelow hb3);replace hB:=hBG hG;clear hrg hMW)|((with_reducible refine gS 105 8 22 ?_);refine qab 105 rfl (.tmp 8) (.tmp 22) rfl b8 rfl (ec e) rfl _ R8 rfl (qf2 e) (qqy e) ?_;intro w4 R8 t4;replace c0:=qnq c0 t4 (Nat.lt_of_lt_of_le hBl l8);replace hO:=qe9 hO hne t4;replace hG:=qew hG l8 t4;replace hB:=hBG hG))
     refine RD (fun W=>Row 105 W b8 (ec e)/\W.cell? ⟨eb (.slice a0 n cap),eo (.slice a0 n cap),none⟩=some (.int .i64 (tmE es))) ⟨R8,c0⟩ (fun _=>?_)
     refine tk 0 (.agg (ec e)) rfl (qav 105 (.tmp 8) rfl kr b8 kr (ec e) (fun w h=>h.1) _ underlying105 rfl (qf2 e)) ⟨R8,c0⟩ ?_
     simp only[ZZ]
     refine AR [1] ?_
     refine AC (fun K hK=>?_) ?_
     ·go_simp
      go_at_call 59;refine(CG _).mono ?_;rintro x w5 ⟨rfl,hb5⟩;replace hb5:=qmk hb5;replace R8:=R8.below hb5;replace c0:=qhi c0 hb5;replace hO:=hO.below hb5;replace hG:=hG.trans (Grew.ofBelow hb5);replace hB:=hBG hG
      go_wp2_with fail
      refine hK.out _ _ ⟨R8,c0⟩ (fun _=>?_)
      clear hK K
      try simp only[ZZ]
      refine tq 2 (.bool false) rfl ⟨R8,c0⟩ (tq 3 (.bool false) rfl ⟨R8,c0⟩ (tq 4 (.pointer (some ⟨b8,0,none⟩)) rfl ⟨R8,c0⟩ ?_))
      simp only[ZZ]
      refine tk 5 (.int .i64 e.t) rfl (qim (.tmp 27) rfl kr b8 0 kr e.t (fun w h=>(h.1.cell 0).trans rfl)) ⟨R8,c0⟩ (tq 6 (.slice a0 n cap) rfl ⟨R8,c0⟩ (tk 7 (.pointer (some ⟨eb (.slice a0 n cap),eo (.slice a0 n cap),none⟩)) rfl (qgk 52 (.tmp 29) (.const (.int .i64 0)) rfl kr _ _ _ kr kr I0) ⟨R8,c0⟩ ?_))
      simp only[ZZ]
      refine tq 8 (.pointer (some ⟨eb (.slice a0 n cap),eo (.slice a0 n cap),none⟩)) rfl ⟨R8,c0⟩ (tk 9 (.int .i64 (tmE es)) rfl (qim (.tmp 31) rfl kr (eb (.slice a0 n cap)) (eo (.slice a0 n cap)) kr (tmE es) (fun w h=>h.2)) ⟨R8,c0⟩ (tk 10 (.bool true) rfl (qrk 3 (.tmp 28) (.tmp 32) e.t (tmE es) true rfl kr kr kr hte) ⟨R8,c0⟩ ?_))
      exact sZxr21
     exact AZ
   ·have CG:∀w,Calls prog 59 #[.agg (ec e)] w fun x w'=>x=.returned (.int .i64 2)/\Below w.heap.size w w':=fun w=>by have:=qro e w;rw[qlh hk] at this;exact this
    have HS:Hid (mesS seq es=_):=qu6 hl0 hl64 (qx1 hlj he (fun h=>hk h.1))
    clear hk he
    go_upto_region 9 with(first|((with_reducible refine atOp (.indexAddr 52 (.tmp 17) (.tmp 19)) rfl ?_);refine qh0 52 (.tmp 17) (.tmp 19) rfl rfl _ _ _ rfl rfl (IR _) ?_)|((with_reducible refine gL 105 21 ?_);refine qlr (.tmp 21) rfl rfl _ _ rfl e hrg ?_)|((with_reducible refine gA 105 ?_);refine ax 8 105 qr3 ?_;intro b8 w3 l8 R8 hb3;have hne:=qg7 hO l8;replace l8:=Nat.le_trans hB.size l8;replace c0:=qhi c0 hb3;replace hO:=hO.below hb3;replace hG:=hG.trans (Grew.ofBelow hb3);replace hB:=hBG hG;clear hrg hMW)|((with_reducible refine gS 105 8 22 ?_);refine qab 105 rfl (.tmp 8) (.tmp 22) rfl b8 rfl (ec e) rfl _ R8 rfl (qf2 e) (qqy e) ?_;intro w4 R8 t4;replace c0:=qnq c0 t4 (Nat.lt_of_lt_of_le hBl l8);replace hO:=qe9 hO hne t4;replace hG:=qew hG l8 t4;replace hB:=hBG hG))
    refine RD (fun W=>Row 105 W b8 (ec e)/\W.cell? ⟨eb (.slice a0 n cap),eo (.slice a0 n cap),none⟩=some (.int .i64 (tmE es))) ⟨R8,c0⟩ (fun _=>?_)
    refine tk 0 (.agg (ec e)) rfl (qav 105 (.tmp 8) rfl kr b8 kr (ec e) (fun w h=>h.1) _ underlying105 rfl (qf2 e)) ⟨R8,c0⟩ ?_
    simp only[ZZ]
    refine AR [1] ?_
    refine AC (fun K hK=>?_) ?_
    ·go_simp
     go_at_call 59;refine(CG _).mono ?_;rintro x w5 ⟨rfl,hb5⟩;replace hb5:=qmk hb5;replace R8:=R8.below hb5;replace c0:=qhi c0 hb5;replace hO:=hO.below hb5;replace hG:=hG.trans (Grew.ofBelow hb5);replace hB:=hBG hG
     go_wp2_with fail
     refine hK.out _ _ ⟨R8,c0⟩ (fun _=>?_)
     clear hK K
     try simp only[ZZ]
     refine tq 2 (.bool true) rfl ⟨R8,c0⟩ (tq 3 (.bool true) rfl ⟨R8,c0⟩ (tk 4 undef rfl (Or.inr ⟨by kernel_rfl,rfl⟩) ⟨R8,c0⟩ ?_))
     simp only[ZZ]
     refine tk 5 undef rfl (Or.inr ⟨by kernel_rfl,rfl⟩) ⟨R8,c0⟩ (tk 6 undef rfl (Or.inr ⟨by kernel_rfl,rfl⟩) ⟨R8,c0⟩ (tk 7 undef rfl (Or.inr ⟨by kernel_rfl,rfl⟩) ⟨R8,c0⟩ ?_))
     simp only[ZZ]
     refine tk 8 undef rfl (Or.inr ⟨by kernel_rfl,rfl⟩) ⟨R8,c0⟩ (tk 9 undef rfl (Or.inr ⟨by kernel_rfl,rfl⟩) ⟨R8,c0⟩ (tk 10 undef rfl (Or.inr ⟨by kernel_rfl,rfl⟩) ⟨R8,c0⟩ ?_))
     exact sZxr21
    exact AZ
  ·have hjn:¬(j:Int)<(n:Int):=by have:=HN.out;omega
   have hall:=q6a hok om
   have HS:Hid (mesS seq es=_):=q8j hl0 hl64 hall
   have hta:okE es[0]/\es[0].t=tmE es:=hall _ (List.getElem_mem hl0)
   obtain⟨hk0,hk1⟩:=hta
   have ht0:=hk0.1.1
   have ht1:=hk0.1.2
   rw[hk1] at ht0 ht1
   have ej:es.take j=es:=List.take_of_length_le om
   have hlb:(setB es).length=21*es.length:=qnn es
   rw[ej] at hO
   clear hall hk0 hk1 ej
   go_wp2_with (first|((with_reducible refine atOp (.indexAddr 52 (.tmp 39) (.const (.int .i64 0))) rfl ?_);refine qh0 52 (.tmp 39) (.const (.int .i64 0)) rfl rfl _ _ _ rfl rfl (I0 _) ?_)|((with_reducible refine gL 3 41 ?_);refine qvf (.tmp 41) rfl rfl _ _ rfl _ c0 ?_)|(go_at_call 160;go_fit (qp7 w.heap.size (tmE es) seq 300 _ hO om om ht0 ht1 om om);rintro x w5 ⟨rfl,hb5⟩;unfold msgS))
   go_ret2
   exact⟨by rw[HS.out];rfl,hB.trans (hb5.mono hB.size)⟩
theorem qwl(es:List Ev):(es.flatMap ecl).length=es.length*5:=by
 induction es with
 | nil=>rfl
 | cons e r ih=>rw[List.flatMap_cons,List.length_append,ih,List.length_cons];simp[ecl];omega
theorem qx0(es:List Ev)(q r:Nat)(hq:q<es.length)(hr:r<5):(es.flatMap ecl)[5*q+r]?=(ecl es[q])[r]?:=by
 induction es generalizing q with
 | nil=>simp at hq
 | cons e l ih=>
  rw[List.flatMap_cons]
  have hl:(ecl e).length=5:=rfl
  cases q with
  | zero=>rw[List.getElem?_append_left om];simp
  | succ q=>
   rw[List.getElem?_append_right om,hl,show 5*(q+1)+r-5=5*q+r by omega,ih q (by simpa using hq)]
   simp
theorem q4p(es:List Ev):∀u∈es.flatMap ecl,u.oneCell'=true:=by
 intro u hu
 obtain⟨e,_,he⟩:=List.mem_flatMap.1 hu
 simp[ecl] at he
 rcases he with rfl|rfl|rfl|rfl|rfl<;>rfl
theorem qyu:(prog.info? 105).map (fun i=>(i.zero,i.size,i.bytes))=some (some (.agg (ec noE)),5,40):=by kernel_rfl
theorem EvAt.src{w:World}{sl:Value}{es:List Ev}(h:EvAt w sl es):Src prog 5 52 sl es.length (es.flatMap ecl) w:=by
 obtain⟨a,cap,e,h1,h2,h3⟩:=h
 have hc:∀B O,(∀j (hj:j<es.length),w.rangeAt B (O+5*j) (ecl es[j]))->∀j u,(es.flatMap ecl)[j]?=some u->w.cell? ⟨B,O+j,none⟩=some u:=by
  intro B O hh j u hu
  have hj:j<es.length*5:=by have:=(List.getElem?_eq_some_iff.1 hu).1;rw[qwl] at this;exact this
  have e1:j=5*(j/5)+j%5:=by omega
  have hq:j/5<es.length:=by omega
  rw[e1,qx0 es (j/5) (j%5) hq om] at hu
  have:=hh (j/5) hq (j%5) u hu
  rw[show O+5*(j/5)+j%5=O+j by omega] at this
  exact this
 cases hes:es with
 | nil=>
  subst hes
  subst e
  cases a with
  | none=>exact Src.ofNil w underlying52 cap
  | some a=>exact Src.ofSlice w underlying52 a 0 cap [] rfl (fun j u hu=>by simp at hu) (fun _ h=>by cases h)
 | cons e0 r=>
  rw[←hes]
  have e1:=h1 (by rw[hes];simp)
  have hc':=hc _ _ h2
  generalize eb sl=B at *
  generalize eo sl=O at *
  subst e1
  subst e
  exact Src.ofSlice w underlying52 ⟨B,O,none⟩ es.length cap _ (qwl es) (fun j u hu=>by rw[Addr.add_lit];exact hc' j u hu) (q4p es)
theorem qgab(l:List UInt8)(n:Int)(h:0<=n):0<=l.foldl (fun n c=>256*n+(c.toNat:Int)) n/\l.foldl (fun n c=>256*n+(c.toNat:Int)) n<(n+1)*256^l.length:=by
 induction l generalizing n with
 | nil=>simp;omega
 | cons c r ih=>
  have hc:=qje c
  have:=ih (256*n+(c.toNat:Int)) om
  rw[List.foldl_cons,List.length_cons,Int.pow_succ]
  refine⟨this.1,Int.lt_of_lt_of_le this.2 ?_⟩
  have h1:(256*n+(c.toNat:Int)+1)<=(n+1)*256:=by omega
  have h2:(0:Int)<=256^r.length:=Int.pow_nonneg (by decide)
  have:=Int.mul_le_mul_of_nonneg_right h1 h2
  rw[Int.mul_comm (256^r.length) 256,←Int.mul_assoc]
  exact this
theorem qfrb(l:List UInt8):0<=num l/\num l<256^l.length:=by
 have:=qgab l 0 om
 simpa[num] using this
theorem qg1b{l:List UInt8}{k:Nat}(h:l.length<=k)(hk:k<=4):0<=num l/\num l<=4294967295:=by
 have h0:=qfrb l
 refine⟨h0.1,?_⟩
 rcases(show l.length=0\/l.length=1\/l.length=2\/l.length=3\/l.length=4 by omega) with e|e|e|e|e<;>rw[e] at h0<;>simp at h0<;>omega
theorem qgqb{l:List UInt8}(h:l.length<=2):num l<=65535:=by
 have h0:=qfrb l
 rcases(show l.length=0\/l.length=1\/l.length=2 by omega) with e|e|e<;>rw[e] at h0<;>simp at h0<;>omega
theorem qdkb{x:Int}(h0:-9223372036854775808<=x)(h1:x<=9223372036854775807):wrap64 x=x:=by unfold wrap64;omega
theorem qc9b(v:Int)(n:Nat):num (be v n)=v%256^n:=by
 induction n generalizing v with
 | zero=>simp[be,num]
 | succ n ih=>
  unfold be
  rw[qemb,ih,qc1,Int.pow_succ]
  have h2:(0:Int)<256^n:=Int.pow_pos (by decide)
  generalize(256:Int) ^ n=m at *
  have e1:=Int.emod_add_mul_ediv v 256
  have e2:=Int.emod_add_mul_ediv (v/256) m
  have e3:=Int.emod_nonneg (v/256) (b:=m) om
  have e4:=Int.emod_lt_of_pos (v/256) h2
  have e5:=Int.emod_nonneg v (b:=256) (by decide)
  have e6:=Int.emod_lt_of_pos v (b:=256) (by decide)
  have key:v=(256*((v/256)%m)+v%256)+(m*256)*((v/256)/m):=by
   have:256*(v/256)=256*((v/256)%m)+(m*256)*((v/256)/m):=by
    conv=>lhs;rw[←e2]
    rw[Int.mul_add,Int.mul_comm m 256,Int.mul_assoc]
   omega
  have hb:0<=256*((v/256)%m)+v%256:=by omega
  have hl:256*((v/256)%m)+v%256<m*256:=by omega
  conv=>rhs;rw[key]
  rw[Int.add_mul_emod_self_left,Int.emod_eq_of_lt hb hl]
def nAt(l:List UInt8)(a k:Nat):Int:=num ((l.drop a).take k)
theorem qc2b(l:List UInt8)(a k:Nat)(hk:k<=4):0<=nAt l a k/\nAt l a k<=4294967295:=qg1b (k:=k) (by rw[List.length_take];omega) hk
theorem qgsb(l:List UInt8)(a:Nat):nAt l a 2<=65535:=qgqb (by rw[List.length_take];omega)
def rdE(l:List UInt8):Ev:=⟨wrap64 (nAt l 0 8),nAt l 8 4-167772160-1,nAt l 12 4-3405803776-1,(nAt l 16 2-1024).tdiv 8,nAt l 20 1==2⟩
def okR(l:List UInt8):Prop:=okE (rdE l)/\evB (rdE l)=l.take 21
theorem qc4b(x y z:List UInt8)(k:Nat)(hy:y.length=k)(a:Nat)(ha:x.length=a):nAt (x++(y++z)) a k=num y:=by
 unfold nAt
 rw[←ha,List.drop_left,←hy,List.take_left]
theorem qg6b(e:Ev)(h:okE e)(z:List UInt8):rdE (evB e++z)=e:=by
 obtain⟨⟨t0,t1⟩,⟨s0,s1⟩,⟨a0,a1⟩,b0,b1⟩:=h
 have hk:=qadb e
 have e0:nAt (evB e++z) 0 8=e.t:=by
  have:=qc4b [] (be e.t 8) (be (167772161+e.s) 4++be (3405803777+e.a) 4++be (1024+e.b*8) 2++be (1024+e.b*8+8-1) 2++be (mkE e) 1++z) 8 (qd8 _ _) 0 rfl
  rw[qc9b] at this
  rw[show evB e++z=[]++(be e.t 8++(be (167772161+e.s) 4++be (3405803777+e.a) 4++be (1024+e.b*8) 2++be (1024+e.b*8+8-1) 2++be (mkE e) 1++z)) by simp[evB],this]
  omega
 have e1:nAt (evB e++z) 8 4=167772161+e.s:=by
  have:=qc4b (be e.t 8) (be (167772161+e.s) 4) (be (3405803777+e.a) 4++be (1024+e.b*8) 2++be (1024+e.b*8+8-1) 2++be (mkE e) 1++z) 4 (qd8 _ _) 8 (qd8 _ _)
  rw[qc9b] at this
  rw[show evB e++z=be e.t 8++(be (167772161+e.s) 4++(be (3405803777+e.a) 4++be (1024+e.b*8) 2++be (1024+e.b*8+8-1) 2++be (mkE e) 1++z)) by simp[evB],this]
  omega
 have e2:nAt (evB e++z) 12 4=3405803777+e.a:=by
  have:=qc4b (be e.t 8++be (167772161+e.s) 4) (be (3405803777+e.a) 4) (be (1024+e.b*8) 2++be (1024+e.b*8+8-1) 2++be (mkE e) 1++z) 4 (qd8 _ _) 12 (by simp[qd8])
  rw[qc9b] at this
  rw[show evB e++z=be e.t 8++be (167772161+e.s) 4++(be (3405803777+e.a) 4++(be (1024+e.b*8) 2++be (1024+e.b*8+8-1) 2++be (mkE e) 1++z)) by simp[evB],this]
  omega
 have e3:nAt (evB e++z) 16 2=1024+e.b*8:=by
  have:=qc4b (be e.t 8++be (167772161+e.s) 4++be (3405803777+e.a) 4) (be (1024+e.b*8) 2) (be (1024+e.b*8+8-1) 2++be (mkE e) 1++z) 2 (qd8 _ _) 16 (by simp[qd8])
  rw[qc9b] at this
  rw[show evB e++z=be e.t 8++be (167772161+e.s) 4++be (3405803777+e.a) 4++(be (1024+e.b*8) 2++(be (1024+e.b*8+8-1) 2++be (mkE e) 1++z)) by simp[evB],this]
  omega
 have e4:nAt (evB e++z) 20 1=mkE e:=by
  have:=qc4b (be e.t 8++be (167772161+e.s) 4++be (3405803777+e.a) 4++be (1024+e.b*8) 2++be (1024+e.b*8+8-1) 2) (be (mkE e) 1) z 1 (qd8 _ _) 20 (by simp[qd8])
  rw[qc9b] at this
  rw[show evB e++z=be e.t 8++be (167772161+e.s) 4++be (3405803777+e.a) 4++be (1024+e.b*8) 2++be (1024+e.b*8+8-1) 2++(be (mkE e) 1++z) by simp[evB],this]
  omega
 unfold rdE
 rw[e0,e1,e2,e3,e4,qdkb om om]
 obtain⟨t,s,a,b,fr⟩:=e
 simp only at *
 have h5:(1024+b*8-1024).tdiv 8=b:=by
  rw[show 1024+b*8-1024=8*b by omega,Int.mul_tdiv_cancel_left _ (by decide)]
 rw[h5,show 167772161+s-167772160-1=s by omega,show 3405803777+a-3405803776-1=a by omega]
 cases fr<;>simp[mkE]
def qcyb(es:List Ev)(t:Int):Bool:=match es.getLast? with
 | none=>false
 | some e=>decide (t<e.t)
theorem qfkb{es:List Ev}(h:0<es.length)(t:Int){e:Ev}(he:es[es.length-1]'om=e):qcyb es t=decide (t<e.t):=by
 unfold qcyb
 have:es.getLast?=some e:=by rw[List.getLast?_eq_getElem?,List.getElem?_eq_getElem om,he]
 rw[this]
open Classical in
noncomputable def evs(time:Int):Nat->List UInt8->List Ev->Option (List Ev)
 | 0,_,es=>some es
 | c+1,l,es=>if okR l/\(rdE l).t%4294967296=time/\qcyb es (rdE l).t=false then evs time c (l.drop 21) (es++[rdE l]) else none
theorem qd4b{time:Int}{c:Nat}{l:List UInt8}{es:List Ev}(h:okR l/\(rdE l).t%4294967296=time/\qcyb es (rdE l).t=false):evs time (c+1) l es=evs time c (l.drop 21) (es++[rdE l]):=if_pos h
theorem qd3b{time:Int}{c:Nat}{l:List UInt8}{es:List Ev}(h:¬(okR l/\(rdE l).t%4294967296=time/\qcyb es (rdE l).t=false)):evs time (c+1) l es=none:=if_neg h
def qctb(l:List UInt8):Int:=
 if l.length<16 then 1 else
 if nAt l 0 2≠10\/nAt l 2 2<20\/(l.length:Int)<nAt l 2 2\/nAt l 12 4≠1 then 1 else
 if (nAt l 16 2≠2/\nAt l 16 2≠300)\/nAt l 18 2≠nAt l 2 2-16 then 1 else 0
noncomputable def qcsb(l:List UInt8)(d:Bool)(es:List Ev):Int×List UInt8×Bool×List Ev:=
 if qctb l≠0 then(qctb l,[],false,[]) else
 if nAt l 8 4≠(es.length:Int) then(3,[],false,[]) else
 if nAt l 16 2=2 then(if l.take (nAt l 2 2).toNat=msgB 0 (es.length:Int) 2 (tplB 6) then(0,l.drop (nAt l 2 2).toNat,true,es) else(4,[],false,[])) else
 if d=false then(7,[],false,[]) else
 if nAt l 2 2=20\/(nAt l 2 2-20)%21≠0 then(1,[],false,[]) else
 match evs (nAt l 4 4) ((nAt l 2 2-20)/21).toNat (l.drop 20) es with
 | none=>(2,[],false,[])
 | some es'=>(0,l.drop (nAt l 2 2).toNat,d,es')
noncomputable def runM:Nat->List UInt8->Bool->List Ev->Int×List Ev
 | 0,_,_,es=>(0,es)
 | n+1,l,d,es=>if l.length=0 then(0,es) else if (qcsb l d es).1≠0 then((qcsb l d es).1,[]) else runM n (qcsb l d es).2.1 (qcsb l d es).2.2.1 (qcsb l d es).2.2.2
theorem qelb(n:Nat)(l:List UInt8)(d:Bool)(es:List Ev)(h:l.length=0):runM n l d es=(0,es):=by
 cases n with
 | zero=>rfl
 | succ n=>unfold runM;rw[if_pos h]
theorem qgbb(n:Nat)(l:List UInt8)(d:Bool)(es:List Ev)(h:l.length≠0)(hE:(qcsb l d es).1≠0):runM (n+1) l d es=((qcsb l d es).1,[]):=by
 unfold runM;rw[if_neg h,if_pos hE]
theorem qd9b(n:Nat)(l:List UInt8)(d:Bool)(es:List Ev)(h:l.length≠0){l':List UInt8}{d':Bool}{es':List Ev}(hE:qcsb l d es=(0,l',d',es')):runM (n+1) l d es=runM n l' d' es':=by
 conv=>lhs;unfold runM
 rw[if_neg h,hE];simp
theorem qghb(l:List UInt8):qctb l=0\/qctb l=1:=by unfold qctb;split<;>(try split)<;>(try split)<;>simp
theorem qf5b{l:List UInt8}(h:qctb l=0):16<=l.length/\nAt l 0 2=10/\20<=nAt l 2 2/\nAt l 2 2<=(l.length:Int)/\nAt l 12 4=1/\(nAt l 16 2=2\/nAt l 16 2=300)/\nAt l 18 2=nAt l 2 2-16:=by
 unfold qctb at h
 split at h
 ·simp at h
 ·split at h
  ·simp at h
  ·split at h
   ·simp at h
   ·omega
theorem qgob{time : Int}{c : Nat}{l : List UInt8}{es es' : List Ev}(h : evs time c l es = some es'): es'.length = es.length + c := by
  induction c generalizing l es with
  | zero => have : es = es' := by simpa[evs] using h
            subst this;rfl
  | succ c ih =>
    by_cases hk : okR l /\ (rdE l).t%4294967296 = time /\ qcyb es (rdE l).t = false
    · rw[qd4b hk] at h;have := ih h;simp at this;omega
    · rw[qd3b hk] at h;simp at h
structure qfb(p:Nat)(w w':World):Prop where
 os:w'.os=w.os
 tape:w'.tape=w.tape
 output:w'.output=w.output
 size:w.heap.size<=w'.heap.size
 block:∀k,k<w.heap.size->k≠p->w'.heap[k]?=w.heap[k]?
section
variable {p:Nat} {a b c:World}
theorem qfb.refl(p:Nat)(w:World):qfb p w w:=⟨rfl,rfl,rfl,Nat.le_refl _,fun _ _ _=>rfl⟩
theorem qfb.trans(h:qfb p a b)(k:qfb p b c):qfb p a c:=
 ⟨k.os.trans h.os,k.tape.trans h.tape,k.output.trans h.output,Nat.le_trans h.size k.size,fun i hi hp=>(k.block i (Nat.lt_of_lt_of_le hi h.size) hp).trans (h.block i hi hp)⟩
theorem qfb.ofBelow(h:Below a.heap.size a b):qfb p a b:=⟨h.os,h.tape,h.output,h.size,fun k hk _=>h.block k hk⟩
theorem qfb.drew(h:qfb p a b):qfb p a b.drew:=⟨h.os,h.tape,h.output,h.size,h.block⟩
theorem qfb.ofTurned(h:qbl p a b):qfb p a b:=by
 have:=h.below 0 a (Nat.zero_le _) (Below.refl _ _)
 exact⟨this.os,this.tape,this.output,this.size,fun k _ hp=>h.other k hp⟩
theorem qfb.turned{r:Nat}(h:qfb p a b)(t:qbl r b c)(hr:a.heap.size<=r):qfb p a c:=by
 have:=t.below 0 b (Nat.zero_le _) (Below.refl _ _)
 exact⟨this.os.trans h.os,this.tape.trans h.tape,this.output.trans h.output,Nat.le_trans h.size this.size,fun k hk hp=>(t.other k om).trans (h.block k hk hp)⟩
theorem qfb.below{B:Nat}(h:qfb p a b)(hB:B<=a.heap.size)(hp:B<=p):Below B a b:=⟨h.os,h.tape,h.output,h.size,fun k hk=>h.block k om om⟩
theorem qfb.row{t:TypeId}{r:Nat}{cs:Array Value}(h:qfb p a b)(R:Row t a r cs)(hne:r≠p):Row t b r cs:=(h.block r R.lt hne).trans R
theorem qfb.tab(h:qfb p a b)(T:Tab a)(hp:p≠0):Tab b:=fun j v hv=>by
 have:=T j v hv
 unfold World.cell? at *
 rw[h.block _ T.lt (fun e=>hp e.symm)]
 exact this
end
theorem qcm{ops:Array Oper}{rest:List Oper}{o:Oper}{a:Act}{w:World}{Q:Exit->Act->World->Prop}{t:TypeId}{b:Nat}{cs:Array Value}(R:Row t w b cs)(x:Operand)(ho:o.op=.load 9 x)(hw:Region.wanted o (yielded ops a.tmps)=true)(f:Nat)(hx:a.eval x=.pointer (some ⟨b,f,none⟩))(n:ByteArray)(hc:cs[f]?=some (.string n))(hr:wpList prog ops Q rest (a.put o.dst (.string n)) w):wpList prog ops Q (o::rest) a w:=
 wpList_step fun K hK=>by
  rw[if_pos hw]
  have hcell:=(R.cell f).trans hc
  unfold Oper.wp execOp
  simp only[ho,hx]
  simp[go_sem,hcell,underlying9]
  exact hK _ _ hr
theorem qdfb{ops:Array Oper}{rest:List Oper}{o:Oper}{a:Act}{w:World}{Q:Exit->Act->World->Prop}{t:TypeId}{b:Nat}{cs:Array Value}(R:Row t w b cs)(x:Operand)(ho:o.op=.load 52 x)(hw:Region.wanted o (yielded ops a.tmps)=true)(f:Nat)(hx:a.eval x=.pointer (some ⟨b,f,none⟩))(v:Value)(hc:cs[f]?=some v)(hr:wpList prog ops Q rest (a.put o.dst v) w):wpList prog ops Q (o::rest) a w:=
 wpList_step fun K hK=>by
  rw[if_pos hw]
  have hcell:=(R.cell f).trans hc
  unfold Oper.wp execOp
  simp only[ho,hx]
  simp[go_sem,hcell,underlying52]
  exact hK _ _ hr
theorem qeeb{ops:Array Oper}{rest:List Oper}{o:Oper}{a:Act}{w:World}{Q:Exit->Act->World->Prop}{t:TypeId}{b:Nat}{cs:Array Value}(R:Row t w b cs)(hgd:o.guard=none)(x y:Operand)(ho:o.op=.store 9 x y)(f:Nat)(hx:a.eval x=.pointer (some ⟨b,f,none⟩))(n:ByteArray)(hy:a.eval y=.string n)(m:ByteArray)(hc:cs[f]?=some (.string m))(ds:Array Value)(hd:cs.setIfInBounds f (.string n)=ds)(hr:∀w',Row t w' b ds->qbl b w w'->wpList prog ops Q rest (a.put o.dst undef) w'):wpList prog ops Q (o::rest) a w:=
 wpList_plain hgd fun K hK=>by
  have hcell:=(R.cell f).trans hc
  have hfr:=R.free f
  unfold Oper.wp execOp
  simp only[ho,hx,hy]
  simp[go_sem,hcell,hfr,underlying9]
  exact hK _ _ (hr _ (hd▸R.set) (qfx _ _ _ _))
theorem qdab{ops:Array Oper}{rest:List Oper}{o:Oper}{a:Act}{w:World}{Q:Exit->Act->World->Prop}{t:TypeId}{b:Nat}{cs:Array Value}(R:Row t w b cs)(hgd:o.guard=none)(x y:Operand)(ho:o.op=.store 4 x y)(f:Nat)(hx:a.eval x=.pointer (some ⟨b,f,none⟩))(n:Bool)(hy:a.eval y=.bool n)(m:Bool)(hc:cs[f]?=some (.bool m))(ds:Array Value)(hd:cs.setIfInBounds f (.bool n)=ds)(hr:∀w',Row t w' b ds->qbl b w w'->wpList prog ops Q rest (a.put o.dst undef) w'):wpList prog ops Q (o::rest) a w:=
 wpList_plain hgd fun K hK=>by
  have hcell:=(R.cell f).trans hc
  have hfr:=R.free f
  unfold Oper.wp execOp
  simp only[ho,hx,hy]
  simp[go_sem,hcell,hfr,underlying4]
  exact hK _ _ (hr _ (hd▸R.set) (qfx _ _ _ _))
def rc(l:List UInt8)(d:Bool)(v:Value):Array Value:=#[.string (txt l),.bool d,v]
def Rdr(w:World)(p:Nat)(l:List UInt8)(d:Bool)(v:Value):Prop:=Row 102 w p (rc l d v)
theorem qg4b(l m:List UInt8)(d:Bool)(v:Value):(rc l d v).setIfInBounds 0 (.string (txt m))=rc m d v:=rfl
theorem qe2b(l:List UInt8)(d e:Bool)(v:Value):(rc l d v).setIfInBounds 1 (.bool e)=rc l e v:=rfl
theorem qe4b(l:List UInt8)(d:Bool)(v u:Value):(rc l d v).setIfInBounds 2 u=rc l d u:=rfl
theorem qe3b(l:List UInt8)(a b:Nat):(txt l).extract a b=txt ((l.drop a).take (b-a)):=by
 rw[←qmw ((txt l).extract a b)]
 congr 1
 simp[txt]
theorem qdmb(l:List UInt8)(k:Nat):(txt l).extract 0 k=txt (l.take k):=by rw[qe3b];simp
theorem qfnb(l:List UInt8)(k:Nat):(txt l).extract k l.length=txt (l.drop k):=by
 rw[qe3b,List.take_of_length_le (by rw[List.length_drop];omega)]
theorem qeqb(p:Nat)(l:List UInt8)(d:Bool)(v:Value)(k:Nat)(w:World)(R:Rdr w p l d v)(hk:k<=l.length)(hl:l.length<=140737488351232):
  Calls prog 123 #[.pointer (some ⟨p,0,none⟩),.int .i64 (k:Int)] w fun x w'=>x=.returned (.string (txt (l.take k)))/\Rdr w' p (l.drop k) d v/\qfb p w w':=by
 have hsz:(txt l).size=l.length:=qck l
 have h1:=qdmb l k
 have h2:=qfnb l k
 have hM:=qfb.refl p w
 have hk':(k:Int)<=(l.length:Int):=by omega
 unfold Rdr at R
 go_enter func123,ntmps123
 go_wp2_with (first|((with_reducible refine gL 9 8 ?_);refine qcm R _ rfl rfl 0 rfl _ rfl ?_)|((with_reducible refine gL 9 15 ?_);refine qcm R _ rfl rfl 0 rfl _ rfl ?_)|((with_reducible refine gS 9 20 18 ?_);refine qeeb R rfl _ _ rfl 0 rfl (txt (l.drop k)) rfl _ rfl _ (qg4b _ _ _ _) ?_;intro w6 R t6;replace hM:=hM.trans (qfb.ofTurned t6)))
 go_ret
 exact⟨rfl,R,hM⟩
theorem qftb(l:List UInt8)(k j:Nat)(hj:j<k)(h:j<l.length)(h2:j<(txt (l.take k)).size):(txt (l.take k))[j]'h2=l[j]:=(show(l.take k)[j]'(by rw[List.length_take];omega)=l[j] from List.getElem_take)
theorem qefb(l:List UInt8)(j:Nat)(h:j<l.length):num (l.take (j+1))=256*num (l.take j)+(l[j].toNat:Int):=by
 rw[List.take_succ_eq_append_getElem h,qemb]
theorem qg2b(q b:Nat)(hb:b<256):256*q ||| b=256*q+b:=by
 have h:=Nat.shiftLeft_add_eq_or_of_lt (i:=8) (b:=b) om q
 rw[Nat.shiftLeft_eq] at h
 rw[show 256*q=q*2^8 by omega]
 exact h.symm
theorem qgpb(x:Int)(c:Int)(h0:0<=c)(h1:c<=255):bits .or .i64 (wrap64 (wrap64 x*256)) c=wrap64 (256*x+c):=by
 obtain⟨b,rfl⟩:∃b:Nat,c=b:=⟨c.toNat,by omega⟩
 have hb:b<256:=by omega
 have hw:wrap64 (wrap64 x*256)=wrap64 (256*x):=by unfold wrap64;omega
 rw[hw]
 have e1:(BitVec.ofInt 64 (wrap64 (256*x))).toNat=256*(x%72057594037927936).toNat:=by
  rw[BitVec.toNat_ofInt];unfold wrap64;omega
 have e2:(BitVec.ofInt 64 (b:Int)).toNat=b:=by rw[BitVec.toNat_ofInt];omega
 have e5:(BitVec.ofInt 64 (wrap64 (256*x)) ||| BitVec.ofInt 64 (b:Int)).toNat=256*(x%72057594037927936).toNat+b:=by
  rw[BitVec.toNat_or,e1,e2,qg2b _ _ hb]
 unfold bits
 show IntKind.i64.wrap ((BitVec.ofInt 64 (wrap64 (256*x)) ||| BitVec.ofInt 64 (b:Int)).toNat:Int)=_
 rw[e5]
 simp[IntKind.wrap,IntKind.bits,IntKind.signed]
 unfold wrap64
 omega
theorem qdjb(p:Nat)(l:List UInt8)(d:Bool)(v:Value)(k:Nat)(w:World)(R:Rdr w p l d v)(hk:k<=l.length)(hl:l.length<=140737488351232)(hk8:k<=8):
  Calls prog 121 #[.pointer (some ⟨p,0,none⟩),.int .i64 (k:Int)] w fun x w'=>x=.returned (.int .i64 (wrap64 (num (l.take k))))/\Rdr w' p (l.drop k) d v/\qfb p w w':=by
 have hlen:(l.take k).length=k:=by rw[List.length_take];omega
 go_enter func121,ntmps121
 go_wp2_with (go_at_call 123;refine(qeqb p l d v k _ R hk hl).mono ?_;rintro x w5 ⟨rfl,R5,hM⟩;obtain⟨C,cap,hconv,hcell⟩:=qfjb (txt (l.take k)) w5;have hsz:(txt (l.take k)).size=k:=(by rw[qck,hlen]);rw[hsz] at hconv)
 have R6:=R5.alloc (.cells C 5 (C.size,C.size+1))
 replace hM:=hM.trans (qfb.ofBelow ((Below.refl _ _).alloc (Nat.le_refl _) (.cells C 5 (C.size,C.size+1))))
 go_loop [5,13] (fun t i=>∃j:Nat,j<=k/\i=.int .i64 (j:Int)/\t=.int .i64 (wrap64 (num (l.take j)))) (fun _ i=>k-(intOf i).toNat)
 case atStart=>exact⟨0,by omega,rfl,by simp[num,wrap64]⟩
 case round=>
  obtain⟨j,hj,rfl,rfl⟩:=hrel
  by_cases hlt:j<k
  ·have hjl:j<l.length:=by omega
   have HS:Hid (num (l.take (j+1))=256*num (l.take j)+(l[j].toNat:Int)):=qefb l j hjl
   have c0:=qje l[j]
   have hc:World.cell? (w5.alloc (.cells C 5 (C.size,C.size+1))) ⟨w5.heap.size,j,none⟩=some (.int .u8 (l[j].toNat:Int)):=by
    have h5:=hcell j (by rw[hsz];exact hlt)
    rw[qftb l k j hlt hjl (by rw[hsz];exact hlt)] at h5
    exact h5
   have HO:Hid (_=wrap64 (256*num (l.take j)+(l[j].toNat:Int))):=qgpb (num (l.take j)) _ c0.1 c0.2
   clear hcell
   go_wp2
   go_round
   case rel=>exact⟨j+1,by omega,by go_num,by rw[HO.out,HS.out]⟩
   case measure=>simp[intOf];omega
  ·obtain rfl:j=k:=by omega
   go_wp2
   go_ret
   exact⟨rfl,R6,hM.drew⟩
end Go.Proofs.YtnicenfgemkdnaaGreatDoor
