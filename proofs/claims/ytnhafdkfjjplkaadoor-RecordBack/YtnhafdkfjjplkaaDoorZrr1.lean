/-
  Of what a law stands on.
-/
import Derived.Test.YtnhafdkfjjplkaaDoorZrp1
set_option linter.unusedSimpArgs false
set_option linter.unusedVariables false
namespace Go.Proofs.YtnhafdkfjjplkaaDoor
open Go.Value renaming int → I,pointer → V
open Go.IntKind renaming i64 → Z
open _root_.Go.Proofs.Tryd Go.ChangeShapes Go.WideShapes Go.ChangeAt Go.RowKit
set_option maxHeartbeats 16000000
set_option maxRecDepth 100000
variable {p:Prop}{ops:Array Oper}{S:World->Prop}{o:Oper}{a:Act}
theorem sZrr14(h:p:=by
 go_wp2
 go_ret2
 exact⟨by rw[HS.out];rfl,hB⟩):p:=h
theorem sZrr12(h:p:=by
 simp only[ZZ];refine tq 11 (.bool true) rfl ⟨R8,c0⟩ ?_;refine m1r ?_
 exact sZrr14):p:=h
theorem sZrr11(h:p:=by
 go_wp2_with fail
 refine hK.out _ _ ⟨R8,c0⟩ (fun _=>?_)
 clear hK K;(try simp only[ZZ]);refine tq 2 (.bool true) rfl ⟨R8,c0⟩ (tq 3 (.bool true) rfl ⟨R8,c0⟩ (tk 4 undef rfl (Or.inr ⟨by kernel_rfl,rfl⟩) ⟨R8,c0⟩ ?_));simp only[ZZ];refine tk 5 undef rfl (Or.inr ⟨by kernel_rfl,rfl⟩) ⟨R8,c0⟩ (tk 6 undef rfl (Or.inr ⟨by kernel_rfl,rfl⟩) ⟨R8,c0⟩ (tk 7 undef rfl (Or.inr ⟨by kernel_rfl,rfl⟩) ⟨R8,c0⟩ ?_));simp only[ZZ];refine tk 8 undef rfl (Or.inr ⟨by kernel_rfl,rfl⟩) ⟨R8,c0⟩ (tk 9 undef rfl (Or.inr ⟨by kernel_rfl,rfl⟩) ⟨R8,c0⟩ (tk 10 undef rfl (Or.inr ⟨by kernel_rfl,rfl⟩) ⟨R8,c0⟩ ?_))
 exact sZrr12):p:=h
theorem qwm(seq:Int)(sl:Value)(es:List Ev)(w:World)(hM:EvAt w sl es):Calls prog 8 #[I Z seq,sl] w fun x w'=>x=.returned (mesS seq es)/\Below w.heap.size w w':=by
 refine m2b ?_;intro hB;obtain⟨a0,cap,hsl⟩:=hM.slice
 obtain⟨n,hn⟩:∃n,n=es.length:=⟨_,rfl⟩
 rw[←hn] at hsl
 subst hsl
 have HN:Hid (n=es.length):=hn;have hlt:=hM.lt
 by_cases h0:n=0
 ·have HS:Hid (mesS seq es=_):=q15 om
  subst h0
  clear hn
  go_enter func8,ntmps8
  exact sZrr14
 (have h0':((n:Int)==0)=false:=by simp;omega)
 by_cases h64:64<n
 ·have HS:Hid (mesS seq es=_):=q18 om;(have h64':decide ((64:Int)<(n:Int))=true:=by simp;omega);clear hn h0 h64
  go_enter func8,ntmps8
  exact sZrr14
 (have h64':decide ((64:Int)<(n:Int))=false:=by simp;omega);(have hl0:0<es.length:=by omega);(have hl64:es.length<=64:=by omega);have hT0:=hM.time0 hl0;(have I0:=fun w2=>hM.index0 hl0 w2);clear hn h0 h64;have hO:=Bys.nil w w.heap.size;have hG:=Grew.refl (.slice none 0 0) w;(have hBG:∀ {v':Value} {w':World},Grew (.slice none 0 0) v' w w'->Below w.heap.size w w':=fun h=>h.below (Nat.le_refl _) (fun k hk=>by simp[Value.ownBlock] at hk))
 go_enter func8,ntmps8
 go_wp2
 go_loopw [6,19] (fun v i W=>∃j:Nat,j<=es.length/\i=I Z (j:Int)/\Bys W w.heap.size v (setB (es.take j))/\Grew (.slice none 0 0) v w W/\okTo es j) (fun _ i _=>n-(intOf i).toNat)
 case atStart=>exact⟨0,by omega,rfl,hO,hG,q2g es⟩
 case round=>
  clear hO hG hB
  obtain⟨j,hj,rfl,hO,hG,hok⟩:=hrel
  have hB:=hBG hG;have c0:World.cell? _ ⟨eb (.slice a0 n cap),eo (.slice a0 n cap),none⟩=some (I Z (tmE es)):=(hM.keep hB hlt).time0 hl0;have hBl:=hlt hl0
  by_cases hlj:j<es.length
  ·refine m28 ?_;intro hjn hjw
   obtain⟨e,he⟩:∃e,es[j]=e:=⟨_,rfl⟩
   refine m20 ?_;intro hMW hrg IR
   by_cases hk:okE e
   ·(have CG:∀w,Calls prog 12 #[.agg (ec e)] w fun x w'=>x=.returned (I Z 0)/\Below w.heap.size w w':=fun w=>by have:=qro e w;rw[qs0 hk] at this;exact this)
    by_cases ht:e.t=tmE es
    ·refine m24 ?_;intro hte HK HB hlb;clear ht he
     go_upto_region 9 with(first|((with_reducible refine atOp (.indexAddr 22 (.tmp 17) (.tmp 19)) rfl ?_);refine m2i ?_)|((with_reducible refine gL 29 21 ?_);refine qlr (.tmp 21) rfl rfl _ _ rfl e hrg ?_)|((with_reducible refine gA 29 ?_);refine m1x ?_;clear c0 hO hG hB hrg hMW;intro b8 w3 R8 hb3 hne l8 c0 hO hG hB)|((with_reducible refine gS 29 8 22 ?_);refine m1g ?_;clear c0 hO hG hB;intro w4 R8 t4 c0 hO hG hB))
     refine RD (fun W=>Row 29 W b8 (ec e)/\W.cell? ⟨eb (.slice a0 n cap),eo (.slice a0 n cap),none⟩=some (I Z (tmE es))) ⟨R8,c0⟩ (fun _=>?_)
     refine tk 0 (.agg (ec e)) rfl (qav 29 (.tmp 8) rfl kr b8 kr (ec e) (fun w h=>h.1) _ underlying29 rfl (qf2 e)) ⟨R8,c0⟩ ?_
     simp only[ZZ];refine AR [1] ?_
     refine AC (fun K hK=>?_) AZ
     go_simp;go_at_call 12;refine m1a ?_;clear R8 c0;intro w5 hb5 R8 c0;replace hO:=hO.below hb5;replace hG:=hG.trans (Grew.ofBelow hb5);replace hB:=hBG hG
     go_wp2_with fail
     refine hK.out _ _ ⟨R8,c0⟩ (fun _=>?_)
     clear hK K;(try simp only[ZZ]);refine m0t ?_
     refine tk 5 (I Z e.t) rfl (qim (.tmp 27) rfl kr b8 0 kr e.t (fun w h=>(h.1.cell 0).trans rfl)) ⟨R8,c0⟩ (tq 6 (.slice a0 n cap) rfl ⟨R8,c0⟩ (tk 7 (V (some ⟨eb (.slice a0 n cap),eo (.slice a0 n cap),none⟩)) rfl (qgk 22 (.tmp 29) (.const (I Z 0)) rfl kr _ _ _ kr kr I0) ⟨R8,c0⟩ ?_))
     simp only[ZZ]
     refine tq 8 (V (some ⟨eb (.slice a0 n cap),eo (.slice a0 n cap),none⟩)) rfl ⟨R8,c0⟩ (tk 9 (I Z (tmE es)) rfl (qim (.tmp 31) rfl kr (eb (.slice a0 n cap)) (eo (.slice a0 n cap)) kr (tmE es) (fun w h=>h.2)) ⟨R8,c0⟩ (tk 10 (.bool false) rfl (qrk 3 (.tmp 28) (.tmp 32) e.t (tmE es) false rfl kr kr kr hte) ⟨R8,c0⟩ ?_))
     simp only[ZZ];refine tq 11 (.bool false) rfl ⟨R8,c0⟩ ?_;refine m1r ?_
     go_wp2_with (first|((with_reducible refine gL 29 8 ?_);refine qac 29 (.tmp 8) rfl rfl b8 rfl (ec e) R8 _ underlying29 rfl (qf2 e) ?_)|(go_at_call 21;go_fit (qvw e _ hO hB.size om hk);rintro x w5 ⟨v5,rfl,hO5,hG5⟩;replace hO:=hO5;replace hG:=hG.trans hG5;clear hO5 hG5))
     go_roundw
     case rel=>first|exact⟨j+1,by omega,by go_num,by rw[HB.out];exact hO,hG,HK.out⟩|((repeat apply Exists.intro);exact⟨⟨j+1,by omega,by go_num,by rw[HB.out];exact hO,hG,HK.out⟩,rfl⟩)
     case measure=>(first|rw[hjw]|skip);exact q8s (HN.out.symm▸hlj)
    ·(have hte:(e.t != tmE es)=true:=by simpa using ht);have HS:Hid (mesS seq es=_):=qu6 hl0 hl64 (qx1 hlj he (fun h=>ht h.2));clear ht he
     go_upto_region 9 with(first|((with_reducible refine atOp (.indexAddr 22 (.tmp 17) (.tmp 19)) rfl ?_);refine m2i ?_)|((with_reducible refine gL 29 21 ?_);refine qlr (.tmp 21) rfl rfl _ _ rfl e hrg ?_)|((with_reducible refine gA 29 ?_);refine m1x ?_;clear c0 hO hG hB hrg hMW;intro b8 w3 R8 hb3 hne l8 c0 hO hG hB)|((with_reducible refine gS 29 8 22 ?_);refine m1g ?_;clear c0 hO hG hB;intro w4 R8 t4 c0 hO hG hB))
     refine RD (fun W=>Row 29 W b8 (ec e)/\W.cell? ⟨eb (.slice a0 n cap),eo (.slice a0 n cap),none⟩=some (I Z (tmE es))) ⟨R8,c0⟩ (fun _=>?_)
     refine tk 0 (.agg (ec e)) rfl (qav 29 (.tmp 8) rfl kr b8 kr (ec e) (fun w h=>h.1) _ underlying29 rfl (qf2 e)) ⟨R8,c0⟩ ?_
     simp only[ZZ];refine AR [1] ?_
     refine AC (fun K hK=>?_) AZ
     go_simp;go_at_call 12;refine m1a ?_;clear R8 c0;intro w5 hb5 R8 c0;replace hO:=hO.below hb5;replace hG:=hG.trans (Grew.ofBelow hb5);replace hB:=hBG hG
     go_wp2_with fail
     refine hK.out _ _ ⟨R8,c0⟩ (fun _=>?_)
     clear hK K;(try simp only[ZZ]);refine m0t ?_
     refine tk 5 (I Z e.t) rfl (qim (.tmp 27) rfl kr b8 0 kr e.t (fun w h=>(h.1.cell 0).trans rfl)) ⟨R8,c0⟩ (tq 6 (.slice a0 n cap) rfl ⟨R8,c0⟩ (tk 7 (V (some ⟨eb (.slice a0 n cap),eo (.slice a0 n cap),none⟩)) rfl (qgk 22 (.tmp 29) (.const (I Z 0)) rfl kr _ _ _ kr kr I0) ⟨R8,c0⟩ ?_))
     simp only[ZZ]
     refine tq 8 (V (some ⟨eb (.slice a0 n cap),eo (.slice a0 n cap),none⟩)) rfl ⟨R8,c0⟩ (tk 9 (I Z (tmE es)) rfl (qim (.tmp 31) rfl kr (eb (.slice a0 n cap)) (eo (.slice a0 n cap)) kr (tmE es) (fun w h=>h.2)) ⟨R8,c0⟩ (tk 10 (.bool true) rfl (qrk 3 (.tmp 28) (.tmp 32) e.t (tmE es) true rfl kr kr kr hte) ⟨R8,c0⟩ ?_))
     exact sZrr12
   ·refine m2p ?_;intro CG;have HS:Hid (mesS seq es=_):=qu6 hl0 hl64 (qx1 hlj he (fun h=>hk h.1));clear hk he
    go_upto_region 9 with(first|((with_reducible refine atOp (.indexAddr 22 (.tmp 17) (.tmp 19)) rfl ?_);refine m2i ?_)|((with_reducible refine gL 29 21 ?_);refine qlr (.tmp 21) rfl rfl _ _ rfl e hrg ?_)|((with_reducible refine gA 29 ?_);refine m1x ?_;clear c0 hO hG hB hrg hMW;intro b8 w3 R8 hb3 hne l8 c0 hO hG hB)|((with_reducible refine gS 29 8 22 ?_);refine m1g ?_;clear c0 hO hG hB;intro w4 R8 t4 c0 hO hG hB))
    refine RD (fun W=>Row 29 W b8 (ec e)/\W.cell? ⟨eb (.slice a0 n cap),eo (.slice a0 n cap),none⟩=some (I Z (tmE es))) ⟨R8,c0⟩ (fun _=>?_)
    refine tk 0 (.agg (ec e)) rfl (qav 29 (.tmp 8) rfl kr b8 kr (ec e) (fun w h=>h.1) _ underlying29 rfl (qf2 e)) ⟨R8,c0⟩ ?_
    simp only[ZZ];refine AR [1] ?_
    refine AC (fun K hK=>?_) AZ
    go_simp;go_at_call 12;refine m1a ?_;clear R8 c0;intro w5 hb5 R8 c0;replace hO:=hO.below hb5;replace hG:=hG.trans (Grew.ofBelow hb5);replace hB:=hBG hG
    exact sZrr11
  ·refine m2t ?_;intro hjn hall HS hta hk0 hk1 ht0 ht1
   rw[hk1] at ht0 ht1
   have ej:es.take j=es:=List.take_of_length_le om;have hlb:(setB es).length=21*es.length:=qnn es
   rw[ej] at hO
   clear hall hk0 hk1 ej
   go_wp2_with (first|((with_reducible refine atOp (.indexAddr 22 (.tmp 39) (.const (I Z 0))) rfl ?_);refine qh0 22 (.tmp 39) (.const (I Z 0)) rfl rfl _ _ _ rfl rfl (I0 _) ?_)|((with_reducible refine gL 3 41 ?_);refine qvf (.tmp 41) rfl rfl _ _ rfl _ c0 ?_)|(go_at_call 22;go_fit (qp7 w.heap.size (tmE es) seq 300 _ hO om om ht0 ht1 om om);rintro x w5 ⟨rfl,hb5⟩;unfold msgS))
   go_ret2
   exact⟨by rw[HS.out];rfl,hB.trans (hb5.mono hB.size)⟩
theorem qslb(v:Int)(w:World)(h0:0<=v)(h1:v<=9223372036854775807):Calls prog 26 #[I Z v,I Z 1] w fun e w'=>e=.returned (.string (txt (be v 1)))/\Below w.heap.size w w':=qkgb v 1 w h0 h1 om
theorem qj8b(v:Int)(w:World)(h0:0<=v)(h1:v<=9223372036854775807):Calls prog 26 #[I Z v,I Z 2] w fun e w'=>e=.returned (.string (txt (be v 2)))/\Below w.heap.size w w':=qkgb v 2 w h0 h1 om
theorem qpob(v:Int)(w:World)(h0:0<=v)(h1:v<=9223372036854775807):Calls prog 26 #[I Z v,I Z 4] w fun e w'=>e=.returned (.string (txt (be v 4)))/\Below w.heap.size w w':=qkgb v 4 w h0 h1 om
theorem qsjb(v:Int)(w:World)(h0:0<=v)(h1:v<=9223372036854775807):Calls prog 26 #[I Z v,I Z 8] w fun e w'=>e=.returned (.string (txt (be v 8)))/\Below w.heap.size w w':=qkgb v 8 w h0 h1 om
@[simp] theorem qr4b(v:Int)(n:Nat):(txt (be v n)).size=n:=by rw[qck,qd8]
theorem qseb(x y:Operand)(ho:o.op=.binOp .add 9 x y 9)(hw:Region.wanted o (yielded ops a.tmps)=true)(s t u:List UInt8)(hx:a.eval x=.string (txt s))(hy:a.eval y=.string (txt t))(hu:s++t=u)(hs:s.length<=1000000)(ht:t.length<=1000000):YieldsIf prog ops S o (.string (txt u)) a:=
 .inl ⟨hw,fun w _=>by
  subst hu
  (have h1:(txt s).size<=1000000:=by rw[qck];exact hs);(have h2:(txt t).size<=1000000:=by rw[qck];exact ht)
  unfold execOp
  simp only[ho,hx,hy]
  rw[←qj5b]
  generalize txt s=A at *
  generalize txt t=B at *
  simp[go_sem,eqGuard]
  try omega⟩
theorem qsfb(x y:Operand)(ho:o.op=.binOp .add 3 x y 3)(hw:Region.wanted o (yielded ops a.tmps)=true)(m n r:Int)(hx:a.eval x=I Z m)(hy:a.eval y=I Z n)(hr:m+n=r)(h0:-9223372036854775808<=r)(h1:r<=9223372036854775807):YieldsIf prog ops S o (I Z r) a:=
 .inl ⟨hw,fun w _=>by
  (have e:IntKind.i64.wrap (m+n)=r:=by rw[hr];simp[IntKind.wrap,IntKind.bits,IntKind.signed];omega)
  unfold execOp
  simp only[ho,hx,hy]
  simp[go_sem,e]⟩
theorem qsgb(x y:Operand)(ho:o.op=.binOp .mul 3 x y 3)(hw:Region.wanted o (yielded ops a.tmps)=true)(m n r:Int)(hx:a.eval x=I Z m)(hy:a.eval y=I Z n)(hr:m*n=r)(h0:-9223372036854775808<=r)(h1:r<=9223372036854775807):YieldsIf prog ops S o (I Z r) a:=
 .inl ⟨hw,fun w _=>by
  (have e:IntKind.i64.wrap (m*n)=r:=by rw[hr];simp[IntKind.wrap,IntKind.bits,IntKind.signed];omega)
  unfold execOp
  simp only[ho,hx,hy]
  simp[go_sem,e]⟩
theorem qsmb(e:Ev):be e.t 8++be (167772161+e.s) 4++be (3405803777+e.a) 4++be (1024+8*e.b) 2++be (1031+8*e.b) 2++be (mkE e) 1=evB e:=by
 unfold evB
 (rw[show 1024+e.b*8=1024+8*e.b by omega,show 1024+8*e.b+8-1=1031+8*e.b by omega])
theorem sZrr13(h:p:=by
 refine m1r ?_
 go_wp2
 go_ret
 exact⟨by rw[←HA.out];rfl,hB⟩):p:=h
theorem qsib(e:Ev)(w:World)(he:okE e):Calls prog 23 #[.agg (ec e)] w fun x w'=>x=.returned (.string (txt (evB e)))/\Below w.heap.size w w':=by
 refine m2b ?_;intro hB;have HA:Hid (_=evB e):=qsmb e;obtain⟨⟨t0,t1⟩,⟨s0,s1⟩,⟨a0,a1⟩,b0,b1'⟩:=he
 obtain⟨M,hM⟩:∃M,mkE e=M:=⟨_,rfl⟩
 have hMb:=qadb e
 rw[hM] at HA hMb
 obtain⟨m0,m1⟩:=hMb
 cases hfr:e.fr with
 | false=>
  (have hM2:M=1:=by rw[←hM];unfold mkE;rw[hfr];rfl);(have cF:(ec e)[4]?=some (.bool false):=by rw[←hfr];rfl)
  subst hM2
  clear hM hfr
  go_enter func23,ntmps23
  go_upto_region 4 with(first|((with_reducible refine gB 29 0 ?_);refine m0s ?_;clear hB;intro b1 w2 l1 R1 hb2 hB)|((with_reducible refine gL 4 4 ?_);refine qv3 R1 _ rfl rfl 4 rfl _ cF ?_))
  refine RD (fun W=>Row 29 W b1 (ec e)) R1 (fun _=>?_)
  refine tq 0 (V (some ⟨b1,0,none⟩)) rfl R1 (tk 1 (I Z e.t) rfl (qim (.tmp 6) rfl kr b1 0 kr e.t (fun w h=>(h.cell 0).trans rfl)) R1 (tq 3 (V (some ⟨b1,1,none⟩)) rfl R1 ?_))
  simp only[ZZ]
  refine tk 4 (I Z e.s) rfl (qim (.tmp 9) rfl kr b1 1 kr e.s (fun w h=>(h.cell 1).trans rfl)) R1 (tk 5 (I Z (167772161+e.s)) rfl (qsfb (.const (I Z 167772161)) (.tmp 10) rfl kr (167772161) (e.s) (167772161+e.s) kr kr rfl om om) R1 (tq 8 (V (some ⟨b1,2,none⟩)) rfl R1 ?_))
  simp only[ZZ]
  refine tk 9 (I Z e.a) rfl (qim (.tmp 14) rfl kr b1 2 kr e.a (fun w h=>(h.cell 2).trans rfl)) R1 (tk 10 (I Z (3405803777+e.a)) rfl (qsfb (.const (I Z 3405803777)) (.tmp 15) rfl kr (3405803777) (e.a) (3405803777+e.a) kr kr rfl om om) R1 (tq 13 (V (some ⟨b1,3,none⟩)) rfl R1 ?_))
  simp only[ZZ]
  refine tk 14 (I Z e.b) rfl (qim (.tmp 19) rfl kr b1 3 kr e.b (fun w h=>(h.cell 3).trans rfl)) R1 (tk 15 (I Z (8*e.b)) rfl (qsgb (.const (I Z 8)) (.tmp 20) rfl kr 8 e.b (8*e.b) kr kr rfl om om) R1 (tk 16 (I Z (1024+8*e.b)) rfl (qsfb (.const (I Z 1024)) (.tmp 21) rfl kr (1024) (8*e.b) (1024+8*e.b) kr kr rfl om om) R1 ?_))
  simp only[ZZ]
  refine tq 19 (V (some ⟨b1,3,none⟩)) rfl R1 (tk 20 (I Z e.b) rfl (qim (.tmp 25) rfl kr b1 3 kr e.b (fun w h=>(h.cell 3).trans rfl)) R1 (tk 21 (I Z (8*e.b)) rfl (qsgb (.const (I Z 8)) (.tmp 26) rfl kr 8 e.b (8*e.b) kr kr rfl om om) R1 ?_))
  simp only[ZZ];refine tk 22 (I Z (1031+8*e.b)) rfl (qsfb (.const (I Z 1031)) (.tmp 27) rfl kr (1031) (8*e.b) (1031+8*e.b) kr kr rfl om om) R1 (tq 25 (I Z 1) rfl R1 ?_);simp only[ZZ];refine AR [2] ?_
  refine AC (fun K hK=>?_) AZ
  refine m16 ?_;refine(qsjb _ _ om om).mono ?_;refine m09 ?_;clear R1 hB;intro w5 hb5 R1 hB
  go_wp2_with fail
  refine hK.out _ _ R1 (fun _=>?_)
  clear hK K;(try simp only[ZZ]);refine AR [6] ?_
  refine AC (fun K hK=>?_) AZ
  refine m16 ?_;refine(qpob _ _ om om).mono ?_;refine m09 ?_;clear R1 hB;intro w5 hb5 R1 hB
  go_wp2_with fail
  refine hK.out _ _ R1 (fun _=>?_)
  clear hK K;(try simp only[ZZ]);refine m1f ?_
  refine AC (fun K hK=>?_) AZ
  refine m16 ?_;refine(qpob _ _ om om).mono ?_;refine m09 ?_;clear R1 hB;intro w5 hb5 R1 hB
  go_wp2_with fail
  refine hK.out _ _ R1 (fun _=>?_)
  clear hK K;(try simp only[ZZ]);refine m12 ?_
  refine AC (fun K hK=>?_) AZ
  refine m16 ?_;refine(qj8b _ _ om om).mono ?_;refine m09 ?_;clear R1 hB;intro w5 hb5 R1 hB
  go_wp2_with fail
  refine hK.out _ _ R1 (fun _=>?_)
  clear hK K;(try simp only[ZZ]);refine m0v ?_
  refine AC (fun K hK=>?_) AZ
  refine m16 ?_;refine(qj8b _ _ om om).mono ?_;refine m09 ?_;clear R1 hB;intro w5 hb5 R1 hB
  go_wp2_with fail
  refine hK.out _ _ R1 (fun _=>?_)
  clear hK K;(try simp only[ZZ]);refine m0p ?_
  refine AC (fun K hK=>?_) AZ
  refine m16 ?_;refine(qslb _ _ om om).mono ?_;refine m09 ?_;clear R1 hB;intro w5 hb5 R1 hB
  go_wp2_with fail
  refine hK.out _ _ R1 (fun _=>?_)
  clear hK K;(try simp only[ZZ]);refine tk 27 (.string (txt (be e.t 8++be (167772161+e.s) 4++be (3405803777+e.a) 4++be (1024+8*e.b) 2++be (1031+8*e.b) 2++be 1 1))) rfl (qseb (.tmp 30) (.tmp 32) rfl kr (be e.t 8++be (167772161+e.s) 4++be (3405803777+e.a) 4++be (1024+8*e.b) 2++be (1031+8*e.b) 2) (be 1 1) (be e.t 8++be (167772161+e.s) 4++be (3405803777+e.a) 4++be (1024+8*e.b) 2++be (1031+8*e.b) 2++be 1 1) kr kr rfl (by simp only[List.length_append,qd8];omega) (by simp only[qd8];omega)) R1 (tq 28 (.string (txt (be e.t 8++be (167772161+e.s) 4++be (3405803777+e.a) 4++be (1024+8*e.b) 2++be (1031+8*e.b) 2++be 1 1))) rfl R1 ?_)
  exact sZrr13
 | true=>
  (have hM2:M=2:=by rw[←hM];unfold mkE;rw[hfr];rfl);(have cF:(ec e)[4]?=some (.bool true):=by rw[←hfr];rfl)
  subst hM2
  clear hM hfr
  go_enter func23,ntmps23
  go_upto_region 4 with(first|((with_reducible refine gB 29 0 ?_);refine m0s ?_;clear hB;intro b1 w2 l1 R1 hb2 hB)|((with_reducible refine gL 4 4 ?_);refine qv3 R1 _ rfl rfl 4 rfl _ cF ?_))
  refine RD (fun W=>Row 29 W b1 (ec e)) R1 (fun _=>?_)
  refine tq 0 (V (some ⟨b1,0,none⟩)) rfl R1 (tk 1 (I Z e.t) rfl (qim (.tmp 6) rfl kr b1 0 kr e.t (fun w h=>(h.cell 0).trans rfl)) R1 (tq 3 (V (some ⟨b1,1,none⟩)) rfl R1 ?_))
  simp only[ZZ]
  refine tk 4 (I Z e.s) rfl (qim (.tmp 9) rfl kr b1 1 kr e.s (fun w h=>(h.cell 1).trans rfl)) R1 (tk 5 (I Z (167772161+e.s)) rfl (qsfb (.const (I Z 167772161)) (.tmp 10) rfl kr (167772161) (e.s) (167772161+e.s) kr kr rfl om om) R1 (tq 8 (V (some ⟨b1,2,none⟩)) rfl R1 ?_))
  simp only[ZZ]
  refine tk 9 (I Z e.a) rfl (qim (.tmp 14) rfl kr b1 2 kr e.a (fun w h=>(h.cell 2).trans rfl)) R1 (tk 10 (I Z (3405803777+e.a)) rfl (qsfb (.const (I Z 3405803777)) (.tmp 15) rfl kr (3405803777) (e.a) (3405803777+e.a) kr kr rfl om om) R1 (tq 13 (V (some ⟨b1,3,none⟩)) rfl R1 ?_))
  simp only[ZZ]
  refine tk 14 (I Z e.b) rfl (qim (.tmp 19) rfl kr b1 3 kr e.b (fun w h=>(h.cell 3).trans rfl)) R1 (tk 15 (I Z (8*e.b)) rfl (qsgb (.const (I Z 8)) (.tmp 20) rfl kr 8 e.b (8*e.b) kr kr rfl om om) R1 (tk 16 (I Z (1024+8*e.b)) rfl (qsfb (.const (I Z 1024)) (.tmp 21) rfl kr (1024) (8*e.b) (1024+8*e.b) kr kr rfl om om) R1 ?_))
  simp only[ZZ]
  refine tq 19 (V (some ⟨b1,3,none⟩)) rfl R1 (tk 20 (I Z e.b) rfl (qim (.tmp 25) rfl kr b1 3 kr e.b (fun w h=>(h.cell 3).trans rfl)) R1 (tk 21 (I Z (8*e.b)) rfl (qsgb (.const (I Z 8)) (.tmp 26) rfl kr 8 e.b (8*e.b) kr kr rfl om om) R1 ?_))
  simp only[ZZ];refine tk 22 (I Z (1031+8*e.b)) rfl (qsfb (.const (I Z 1031)) (.tmp 27) rfl kr (1031) (8*e.b) (1031+8*e.b) kr kr rfl om om) R1 (tq 25 (I Z 2) rfl R1 ?_);simp only[ZZ];refine AR [2] ?_
  refine AC (fun K hK=>?_) AZ
  refine m16 ?_;refine(qsjb _ _ om om).mono ?_;refine m09 ?_;clear R1 hB;intro w5 hb5 R1 hB
  go_wp2_with fail
  refine hK.out _ _ R1 (fun _=>?_)
  clear hK K;(try simp only[ZZ]);refine AR [6] ?_
  refine AC (fun K hK=>?_) AZ
  refine m16 ?_;refine(qpob _ _ om om).mono ?_;refine m09 ?_;clear R1 hB;intro w5 hb5 R1 hB
  go_wp2_with fail
  refine hK.out _ _ R1 (fun _=>?_)
  clear hK K;(try simp only[ZZ]);refine m1f ?_
  refine AC (fun K hK=>?_) AZ
  refine m16 ?_;refine(qpob _ _ om om).mono ?_;refine m09 ?_;clear R1 hB;intro w5 hb5 R1 hB
  go_wp2_with fail
  refine hK.out _ _ R1 (fun _=>?_)
  clear hK K;(try simp only[ZZ]);refine m12 ?_
  refine AC (fun K hK=>?_) AZ
  refine m16 ?_;refine(qj8b _ _ om om).mono ?_;refine m09 ?_;clear R1 hB;intro w5 hb5 R1 hB
  go_wp2_with fail
  refine hK.out _ _ R1 (fun _=>?_)
  clear hK K;(try simp only[ZZ]);refine m0v ?_
  refine AC (fun K hK=>?_) AZ
  refine m16 ?_;refine(qj8b _ _ om om).mono ?_;refine m09 ?_;clear R1 hB;intro w5 hb5 R1 hB
  go_wp2_with fail
  refine hK.out _ _ R1 (fun _=>?_)
  clear hK K;(try simp only[ZZ]);refine m0p ?_
  refine AC (fun K hK=>?_) AZ
  refine m16 ?_;refine(qslb _ _ om om).mono ?_;refine m09 ?_;clear R1 hB;intro w5 hb5 R1 hB
  go_wp2_with fail
  refine hK.out _ _ R1 (fun _=>?_)
  clear hK K;(try simp only[ZZ]);refine tk 27 (.string (txt (be e.t 8++be (167772161+e.s) 4++be (3405803777+e.a) 4++be (1024+8*e.b) 2++be (1031+8*e.b) 2++be 2 1))) rfl (qseb (.tmp 30) (.tmp 32) rfl kr (be e.t 8++be (167772161+e.s) 4++be (3405803777+e.a) 4++be (1024+8*e.b) 2++be (1031+8*e.b) 2) (be 2 1) (be e.t 8++be (167772161+e.s) 4++be (3405803777+e.a) 4++be (1024+8*e.b) 2++be (1031+8*e.b) 2++be 2 1) kr kr rfl (by simp only[List.length_append,qd8];omega) (by simp only[qd8];omega)) R1 (tq 28 (.string (txt (be e.t 8++be (167772161+e.s) 4++be (3405803777+e.a) 4++be (1024+8*e.b) 2++be (1031+8*e.b) 2++be 2 1))) rfl R1 ?_)
  exact sZrr13
theorem qqlb(time seq kind:Int)(l:List UInt8):(⟨#[0,10]⟩:ByteArray)++txt (be (20+(l.length:Int)) 2)++txt (be (time%4294967296) 4)++txt (be seq 4)++⟨#[0,0,0,1]⟩++txt (be kind 2)++txt (be (4+(l.length:Int)) 2)++txt l=txt (msgB time seq kind l):=by
 rw[show(⟨#[0,10]⟩:ByteArray)=txt (be 10 2) from rfl,show(⟨#[0,0,0,1]⟩:ByteArray)=txt (be 1 4) from rfl]
 simp only[qj5b]
 rfl
theorem sZrr15(h:p:=by
 clear h hb
 go_enter func24,ntmps24
 exact sZrr14):p:=h
theorem qlqb(l:List UInt8)(time seq kind:Int)(w:World)(hl:l.length<=900000)(ht0:0<=time)(ht1:time<=1099511627776)(hk0:0<=kind)(hk1:kind<=300):
  Calls prog 24 #[I Z seq,I Z time,I Z kind,.string (txt l)] w fun x w'=>x=.returned (msgS time seq kind l)/\Below w.heap.size w w':=by
 refine m2b ?_;intro hB
 rcases hb:qi0 seq with _|_
 ·have HS:Hid (msgS time seq kind l=_):=q8h _ _ _ _ hb
  rcases q5u hb with h|h
  ·(have g0:decide (seq<0)=true:=by simpa using h)
   exact sZrr15
  ·(have g0:decide (seq<0)=false:=by simp;omega);(have g1:decide (4294967295<seq)=true:=by simpa using h)
   exact sZrr15
 ·have HS:Hid (msgS time seq kind l=_):=q4t _ _ _ _ hb;obtain⟨q0,q1⟩:=q2s hb;clear hb;have HC:Hid (_=txt (msgB time seq kind l)):=qqlb time seq kind l;(have g0:decide (seq<0)=false:=by simp;omega);(have g1:decide (4294967295<seq)=false:=by simp;omega);have hrem:time.tmod 4294967296=time%4294967296:=Int.tmod_eq_emod_of_nonneg ht0;(have hlow:0<=time%4294967296/\time%4294967296<4294967296:=by omega);have hsz:(txt l).size=l.length:=qck l;(have hl':(l.length:Int)<=900000:=by omega);obtain⟨x0,x1⟩:=hlow
  go_enter func24,ntmps24
  go_wp2_with (first|(go_at_call 26;go_fit (qj8b _ _ om om);refine m1k ?_;clear hB;intro w5 hb5 hB)|(go_at_call 26;go_fit (qpob _ _ om om);refine m1k ?_;clear hB;intro w5 hb5 hB))
  go_ret2
  exact⟨by rw[HS.out,←HC.out];rfl,hB⟩
def tplR(j:Nat):List UInt8:=be 300 2++be 6 2++(([323,8,8,4,225,4,361,2,362,2,230,1]:List Int).take j).flatMap (fun n=>be n 2)
theorem qprb:tplR 12=tplB 6:=rfl
theorem qo7b:be 300 2++be 6 2=tplR 0:=by simp[tplR]
theorem qq0b:tplR 0++be 323 2=tplR 1:=by simp[tplR]
theorem qrhb:tplR 1++be 8 2=tplR 2:=by simp[tplR]
theorem qrjb:tplR 2++be 8 2=tplR 3:=by simp[tplR]
theorem qqub:tplR 3++be 4 2=tplR 4:=by simp[tplR]
theorem qrkb:tplR 4++be 225 2=tplR 5:=by simp[tplR]
theorem qrib:tplR 5++be 4 2=tplR 6:=by simp[tplR]
theorem qqwb:tplR 6++be 361 2=tplR 7:=by simp[tplR]
theorem qqyb:tplR 7++be 2 2=tplR 8:=by simp[tplR]
theorem qq2b:tplR 8++be 362 2=tplR 9:=by simp[tplR]
theorem qqbb:tplR 9++be 2 2=tplR 10:=by simp[tplR]
theorem qqkb:tplR 10++be 230 2=tplR 11:=by simp[tplR]
theorem qqdb:tplR 11++be 1 2=tplR 12:=by simp[tplR]
theorem qkab(j:Nat)(h:j<=12):(tplR j).length<=28:=by
 rcases(show j=0\/j=1\/j=2\/j=3\/j=4\/j=5\/j=6\/j=7\/j=8\/j=9\/j=10\/j=11\/j=12 by omega) with rfl|rfl|rfl|rfl|rfl|rfl|rfl|rfl|rfl|rfl|rfl|rfl|rfl
 all_goals simp[tplR,qd8]
theorem qmsb(seq:Int)(w:World):Calls prog 11 #[I Z seq] w fun x w'=>x=.returned (msgS 0 seq 2 (tplB 6))/\Below w.heap.size w w':=by
 refine m2b ?_;intro hB;(have H0:Hid (txt (be 300 2)++txt (be 6 2)=txt (tplR 0)):=by show _=_;rw[qj5b,qo7b])
 go_enter func11,ntmps11
 go_wp2_with (first|(go_at_call 26;go_fit (qj8b _ _ om om);refine m1k ?_;clear hB;intro w5 hb5 hB))
 have R10:=Row.new 3 w5 #[I Z 323,I Z 8,I Z 8,I Z 4,I Z 225,I Z 4,I Z 361,I Z 2,I Z 362,I Z 2,I Z 230,I Z 1];replace hB:=hB.alloc hB.size (.cells #[I Z 323,I Z 8,I Z 8,I Z 4,I Z 225,I Z 4,I Z 361,I Z 2,I Z 362,I Z 2,I Z 230,I Z 1] 3);rw[H0.out]
 generalize w5.heap.size=B at *
 go_loopw [4,12] (fun t i W=>∃j:Nat,j<=12/\i=I Z (j:Int)/\t=.string (txt (tplR j))/\Below w.heap.size w W/\Row 3 W B #[I Z 323,I Z 8,I Z 8,I Z 4,I Z 225,I Z 4,I Z 361,I Z 2,I Z 362,I Z 2,I Z 230,I Z 1]) (fun _ i _=>12-(intOf i).toNat)
 case atStart=>exact⟨0,by omega,rfl,rfl,hB,R10⟩
 case round=>
  clear hB R10
  obtain⟨j,hj,rfl,rfl,hB,R10⟩:=hrel
  by_cases hlt:j<12
  ·rcases(show j=0\/j=1\/j=2\/j=3\/j=4\/j=5\/j=6\/j=7\/j=8\/j=9\/j=10\/j=11 by omega) with rfl|rfl|rfl|rfl|rfl|rfl|rfl|rfl|rfl|rfl|rfl|rfl
   ·(have HN:Hid (txt (tplR 0)++txt (be 323 2)=txt (tplR 1)):=by show _=_;rw[qj5b,qq0b]);(have hlen:(txt (tplR 0)).size<=28:=by rw[qck];exact qkab 0 om)
    go_wp2_with (first|((with_reducible refine gL 3 14 ?_);refine fx R10 _ 0 _ ?_)|(go_at_call 26;refine m0e ?_;clear R10 hB;intro w5 hb5 R10 hB))
    go_roundw
    case rel=>exact⟨1,by omega,rfl,by rw[HN.out],hB,R10⟩
    case measure=>simp[intOf]
   ·(have HN:Hid (txt (tplR 1)++txt (be 8 2)=txt (tplR 2)):=by show _=_;rw[qj5b,qrhb]);(have hlen:(txt (tplR 1)).size<=28:=by rw[qck];exact qkab 1 om)
    go_wp2_with (first|((with_reducible refine gL 3 14 ?_);refine fx R10 _ 1 _ ?_)|(go_at_call 26;refine m0e ?_;clear R10 hB;intro w5 hb5 R10 hB))
    go_roundw
    case rel=>exact⟨2,by omega,rfl,by rw[HN.out],hB,R10⟩
    case measure=>simp[intOf]
   ·(have HN:Hid (txt (tplR 2)++txt (be 8 2)=txt (tplR 3)):=by show _=_;rw[qj5b,qrjb]);(have hlen:(txt (tplR 2)).size<=28:=by rw[qck];exact qkab 2 om)
    go_wp2_with (first|((with_reducible refine gL 3 14 ?_);refine fx R10 _ 2 _ ?_)|(go_at_call 26;refine m0e ?_;clear R10 hB;intro w5 hb5 R10 hB))
    go_roundw
    case rel=>exact⟨3,by omega,rfl,by rw[HN.out],hB,R10⟩
    case measure=>simp[intOf]
   ·(have HN:Hid (txt (tplR 3)++txt (be 4 2)=txt (tplR 4)):=by show _=_;rw[qj5b,qqub]);(have hlen:(txt (tplR 3)).size<=28:=by rw[qck];exact qkab 3 om)
    go_wp2_with (first|((with_reducible refine gL 3 14 ?_);refine fx R10 _ 3 _ ?_)|(go_at_call 26;refine m0e ?_;clear R10 hB;intro w5 hb5 R10 hB))
    go_roundw
    case rel=>exact⟨4,by omega,rfl,by rw[HN.out],hB,R10⟩
    case measure=>simp[intOf]
   ·(have HN:Hid (txt (tplR 4)++txt (be 225 2)=txt (tplR 5)):=by show _=_;rw[qj5b,qrkb]);(have hlen:(txt (tplR 4)).size<=28:=by rw[qck];exact qkab 4 om)
    go_wp2_with (first|((with_reducible refine gL 3 14 ?_);refine fx R10 _ 4 _ ?_)|(go_at_call 26;refine m0e ?_;clear R10 hB;intro w5 hb5 R10 hB))
    go_roundw
    case rel=>exact⟨5,by omega,rfl,by rw[HN.out],hB,R10⟩
    case measure=>simp[intOf]
   ·(have HN:Hid (txt (tplR 5)++txt (be 4 2)=txt (tplR 6)):=by show _=_;rw[qj5b,qrib]);(have hlen:(txt (tplR 5)).size<=28:=by rw[qck];exact qkab 5 om)
    go_wp2_with (first|((with_reducible refine gL 3 14 ?_);refine fx R10 _ 5 _ ?_)|(go_at_call 26;refine m0e ?_;clear R10 hB;intro w5 hb5 R10 hB))
    go_roundw
    case rel=>exact⟨6,by omega,rfl,by rw[HN.out],hB,R10⟩
    case measure=>simp[intOf]
   ·(have HN:Hid (txt (tplR 6)++txt (be 361 2)=txt (tplR 7)):=by show _=_;rw[qj5b,qqwb]);(have hlen:(txt (tplR 6)).size<=28:=by rw[qck];exact qkab 6 om)
    go_wp2_with (first|((with_reducible refine gL 3 14 ?_);refine fx R10 _ 6 _ ?_)|(go_at_call 26;refine m0e ?_;clear R10 hB;intro w5 hb5 R10 hB))
    go_roundw
    case rel=>exact⟨7,by omega,rfl,by rw[HN.out],hB,R10⟩
    case measure=>simp[intOf]
   ·(have HN:Hid (txt (tplR 7)++txt (be 2 2)=txt (tplR 8)):=by show _=_;rw[qj5b,qqyb]);(have hlen:(txt (tplR 7)).size<=28:=by rw[qck];exact qkab 7 om)
    go_wp2_with (first|((with_reducible refine gL 3 14 ?_);refine fx R10 _ 7 _ ?_)|(go_at_call 26;refine m0e ?_;clear R10 hB;intro w5 hb5 R10 hB))
    go_roundw
    case rel=>exact⟨8,by omega,rfl,by rw[HN.out],hB,R10⟩
    case measure=>simp[intOf]
   ·(have HN:Hid (txt (tplR 8)++txt (be 362 2)=txt (tplR 9)):=by show _=_;rw[qj5b,qq2b]);(have hlen:(txt (tplR 8)).size<=28:=by rw[qck];exact qkab 8 om)
    go_wp2_with (first|((with_reducible refine gL 3 14 ?_);refine fx R10 _ 8 _ ?_)|(go_at_call 26;refine m0e ?_;clear R10 hB;intro w5 hb5 R10 hB))
    go_roundw
    case rel=>exact⟨9,by omega,rfl,by rw[HN.out],hB,R10⟩
    case measure=>simp[intOf]
   ·(have HN:Hid (txt (tplR 9)++txt (be 2 2)=txt (tplR 10)):=by show _=_;rw[qj5b,qqbb]);(have hlen:(txt (tplR 9)).size<=28:=by rw[qck];exact qkab 9 om)
    go_wp2_with (first|((with_reducible refine gL 3 14 ?_);refine fx R10 _ 9 _ ?_)|(go_at_call 26;refine m0e ?_;clear R10 hB;intro w5 hb5 R10 hB))
    go_roundw
    case rel=>exact⟨10,by omega,rfl,by rw[HN.out],hB,R10⟩
    case measure=>simp[intOf]
   ·(have HN:Hid (txt (tplR 10)++txt (be 230 2)=txt (tplR 11)):=by show _=_;rw[qj5b,qqkb]);(have hlen:(txt (tplR 10)).size<=28:=by rw[qck];exact qkab 10 om)
    go_wp2_with (first|((with_reducible refine gL 3 14 ?_);refine fx R10 _ 10 _ ?_)|(go_at_call 26;refine m0e ?_;clear R10 hB;intro w5 hb5 R10 hB))
    go_roundw
    case rel=>exact⟨11,by omega,rfl,by rw[HN.out],hB,R10⟩
    case measure=>simp[intOf]
   ·(have HN:Hid (txt (tplR 11)++txt (be 1 2)=txt (tplR 12)):=by show _=_;rw[qj5b,qqdb]);(have hlen:(txt (tplR 11)).size<=28:=by rw[qck];exact qkab 11 om)
    go_wp2_with (first|((with_reducible refine gL 3 14 ?_);refine fx R10 _ 11 _ ?_)|(go_at_call 26;refine m0e ?_;clear R10 hB;intro w5 hb5 R10 hB))
    go_roundw
    case rel=>exact⟨12,by omega,rfl,by rw[HN.out],hB,R10⟩
    case measure=>simp[intOf]
  ·obtain rfl:j=12:=by omega
   have hl6:=qqi;rw[qprb]
   go_wp2_with (go_at_call 24;go_fit (qlqb (tplB 6) 0 seq 2 _ om om om om om);rintro x w5 ⟨rfl,hb5⟩;unfold msgS)
   go_ret2
   exact⟨rfl,hB.trans (hb5.mono hB.size)⟩
theorem sZrr16(h:p:=by
 go_enter func9,ntmps9
 exact sZrr14):p:=h
theorem qskb(seq:Int)(sl:Value)(es:List Ev)(w:World)(hM:EvAt w sl es):Calls prog 9 #[I Z seq,sl] w fun x w'=>x=.returned (mesS seq es)/\Below w.heap.size w w':=by
 refine m2b ?_;intro hB;obtain⟨a0,cap,hsl⟩:=hM.slice
 obtain⟨n,hn⟩:∃n,n=es.length:=⟨_,rfl⟩
 rw[←hn] at hsl
 subst hsl
 have HN:Hid (n=es.length):=hn;have hlt:=hM.lt
 by_cases h0:n=0
 ·have HS:Hid (mesS seq es=_):=q15 om
  subst h0
  clear hn
  exact sZrr16
 (have h0':((n:Int)==0)=false:=by simp;omega)
 by_cases h64:64<n
 ·have HS:Hid (mesS seq es=_):=q18 om;(have h64':decide ((64:Int)<(n:Int))=true:=by simp;omega);clear hn h0 h64
  exact sZrr16
 (have h64':decide ((64:Int)<(n:Int))=false:=by simp;omega);(have hl0:0<es.length:=by omega);(have hl64:es.length<=64:=by omega);have hT0:=hM.time0 hl0;(have I0:=fun w2=>hM.index0 hl0 w2);clear hn h0 h64
 go_enter func9,ntmps9
 go_wp2
 go_loopw [6,17] (fun v i W=>∃j:Nat,j<=es.length/\i=I Z (j:Int)/\v=.string (txt (setB (es.take j)))/\Below w.heap.size w W/\okTo es j) (fun _ i _=>n-(intOf i).toNat)
 case atStart=>exact⟨0,by omega,rfl,rfl,hB,q2g es⟩
 case round=>
  clear hB
  obtain⟨j,hj,rfl,rfl,hB,hok⟩:=hrel
  have c0:World.cell? _ ⟨eb (.slice a0 n cap),eo (.slice a0 n cap),none⟩=some (I Z (tmE es)):=(hM.keep hB hlt).time0 hl0;have hBl:=hlt hl0
  by_cases hlj:j<es.length
  ·refine m28 ?_;intro hjn hjw
   obtain⟨e,he⟩:∃e,es[j]=e:=⟨_,rfl⟩
   refine m20 ?_;intro hMW hrg IR
   by_cases hk:okE e
   ·(have CG:∀w,Calls prog 13 #[.agg (ec e)] w fun x w'=>x=.returned (I Z 0)/\Below w.heap.size w w':=fun w=>by have:=qshb e w;rw[qs0 hk] at this;exact this)
    by_cases ht:e.t=tmE es
    ·refine m24 ?_;intro hte HK HB hlb;clear ht he
     go_upto_region 9 with(first|((with_reducible refine atOp (.indexAddr 22 (.tmp 15) (.tmp 17)) rfl ?_);refine m2j ?_)|((with_reducible refine gL 29 19 ?_);refine qlr (.tmp 19) rfl rfl _ _ rfl e hrg ?_)|((with_reducible refine gA 29 ?_);refine m2q ?_;clear c0 hB hrg hMW;intro b8 w3 R8 hb3 l8 c0 hB)|((with_reducible refine gS 29 8 20 ?_);refine m1m ?_;clear c0 hB;intro w4 R8 t4 c0 hB))
     refine RD (fun W=>Row 29 W b8 (ec e)/\W.cell? ⟨eb (.slice a0 n cap),eo (.slice a0 n cap),none⟩=some (I Z (tmE es))) ⟨R8,c0⟩ (fun _=>?_)
     refine tk 0 (.agg (ec e)) rfl (qav 29 (.tmp 8) rfl kr b8 kr (ec e) (fun w h=>h.1) _ underlying29 rfl (qf2 e)) ⟨R8,c0⟩ ?_
     simp only[ZZ];refine AR [1] ?_
     refine AC (fun K hK=>?_) AZ
     go_simp;go_at_call 13;refine m1a ?_;clear R8 c0;intro w5 hb5 R8 c0;replace hB:=hB.trans (hb5.mono hB.size)
     go_wp2_with fail
     refine hK.out _ _ ⟨R8,c0⟩ (fun _=>?_)
     clear hK K;(try simp only[ZZ]);refine m0t ?_
     refine tk 5 (I Z e.t) rfl (qim (.tmp 25) rfl kr b8 0 kr e.t (fun w h=>(h.1.cell 0).trans rfl)) ⟨R8,c0⟩ (tq 6 (.slice a0 n cap) rfl ⟨R8,c0⟩ (tk 7 (V (some ⟨eb (.slice a0 n cap),eo (.slice a0 n cap),none⟩)) rfl (qgk 22 (.tmp 27) (.const (I Z 0)) rfl kr _ _ _ kr kr I0) ⟨R8,c0⟩ ?_))
     simp only[ZZ]
     refine tq 8 (V (some ⟨eb (.slice a0 n cap),eo (.slice a0 n cap),none⟩)) rfl ⟨R8,c0⟩ (tk 9 (I Z (tmE es)) rfl (qim (.tmp 29) rfl kr (eb (.slice a0 n cap)) (eo (.slice a0 n cap)) kr (tmE es) (fun w h=>h.2)) ⟨R8,c0⟩ (tk 10 (.bool false) rfl (qrk 3 (.tmp 26) (.tmp 30) e.t (tmE es) false rfl kr kr kr hte) ⟨R8,c0⟩ ?_))
     simp only[ZZ];refine tq 11 (.bool false) rfl ⟨R8,c0⟩ ?_;refine m1r ?_;(have hs1:(txt (setB (es.take j))).size<=2000:=by rw[qck];exact hlb);(have hs2:(txt (evB e)).size=21:=by rw[qck,q80])
     go_wp2_with (first|((with_reducible refine gL 29 8 ?_);refine qac 29 (.tmp 8) rfl rfl b8 rfl (ec e) R8 _ underlying29 rfl (qf2 e) ?_)|(go_at_call 23;go_fit (qsib e _ hk);refine m1k ?_;clear hB;intro w5 hb5 hB))
     go_roundw
     case rel=>first|exact⟨j+1,by omega,by go_num,by rw[HB.out,←qj5b],hB,HK.out⟩|((repeat apply Exists.intro);exact⟨⟨j+1,by omega,by go_num,by rw[HB.out,←qj5b],hB,HK.out⟩,rfl⟩)
     case measure=>(first|rw[hjw]|skip);exact q8s (HN.out.symm▸hlj)
    ·(have hte:(e.t != tmE es)=true:=by simpa using ht);have HS:Hid (mesS seq es=_):=qu6 hl0 hl64 (qx1 hlj he (fun h=>ht h.2));clear ht he
     go_upto_region 9 with(first|((with_reducible refine atOp (.indexAddr 22 (.tmp 15) (.tmp 17)) rfl ?_);refine m2j ?_)|((with_reducible refine gL 29 19 ?_);refine qlr (.tmp 19) rfl rfl _ _ rfl e hrg ?_)|((with_reducible refine gA 29 ?_);refine m2q ?_;clear c0 hB hrg hMW;intro b8 w3 R8 hb3 l8 c0 hB)|((with_reducible refine gS 29 8 20 ?_);refine m1m ?_;clear c0 hB;intro w4 R8 t4 c0 hB))
     refine RD (fun W=>Row 29 W b8 (ec e)/\W.cell? ⟨eb (.slice a0 n cap),eo (.slice a0 n cap),none⟩=some (I Z (tmE es))) ⟨R8,c0⟩ (fun _=>?_)
     refine tk 0 (.agg (ec e)) rfl (qav 29 (.tmp 8) rfl kr b8 kr (ec e) (fun w h=>h.1) _ underlying29 rfl (qf2 e)) ⟨R8,c0⟩ ?_
     simp only[ZZ];refine AR [1] ?_
     refine AC (fun K hK=>?_) AZ
     go_simp;go_at_call 13;refine m1a ?_;clear R8 c0;intro w5 hb5 R8 c0;replace hB:=hB.trans (hb5.mono hB.size)
     go_wp2_with fail
     refine hK.out _ _ ⟨R8,c0⟩ (fun _=>?_)
     clear hK K;(try simp only[ZZ]);refine m0t ?_
     refine tk 5 (I Z e.t) rfl (qim (.tmp 25) rfl kr b8 0 kr e.t (fun w h=>(h.1.cell 0).trans rfl)) ⟨R8,c0⟩ (tq 6 (.slice a0 n cap) rfl ⟨R8,c0⟩ (tk 7 (V (some ⟨eb (.slice a0 n cap),eo (.slice a0 n cap),none⟩)) rfl (qgk 22 (.tmp 27) (.const (I Z 0)) rfl kr _ _ _ kr kr I0) ⟨R8,c0⟩ ?_))
     simp only[ZZ]
     refine tq 8 (V (some ⟨eb (.slice a0 n cap),eo (.slice a0 n cap),none⟩)) rfl ⟨R8,c0⟩ (tk 9 (I Z (tmE es)) rfl (qim (.tmp 29) rfl kr (eb (.slice a0 n cap)) (eo (.slice a0 n cap)) kr (tmE es) (fun w h=>h.2)) ⟨R8,c0⟩ (tk 10 (.bool true) rfl (qrk 3 (.tmp 26) (.tmp 30) e.t (tmE es) true rfl kr kr kr hte) ⟨R8,c0⟩ ?_))
     exact sZrr12
   ·refine m2e ?_;intro CG;have HS:Hid (mesS seq es=_):=qu6 hl0 hl64 (qx1 hlj he (fun h=>hk h.1));clear hk he
    go_upto_region 9 with(first|((with_reducible refine atOp (.indexAddr 22 (.tmp 15) (.tmp 17)) rfl ?_);refine m2j ?_)|((with_reducible refine gL 29 19 ?_);refine qlr (.tmp 19) rfl rfl _ _ rfl e hrg ?_)|((with_reducible refine gA 29 ?_);refine m2q ?_;clear c0 hB hrg hMW;intro b8 w3 R8 hb3 l8 c0 hB)|((with_reducible refine gS 29 8 20 ?_);refine m1m ?_;clear c0 hB;intro w4 R8 t4 c0 hB))
    refine RD (fun W=>Row 29 W b8 (ec e)/\W.cell? ⟨eb (.slice a0 n cap),eo (.slice a0 n cap),none⟩=some (I Z (tmE es))) ⟨R8,c0⟩ (fun _=>?_)
    refine tk 0 (.agg (ec e)) rfl (qav 29 (.tmp 8) rfl kr b8 kr (ec e) (fun w h=>h.1) _ underlying29 rfl (qf2 e)) ⟨R8,c0⟩ ?_
    simp only[ZZ];refine AR [1] ?_
    refine AC (fun K hK=>?_) AZ
    go_simp;go_at_call 13;refine m1a ?_;clear R8 c0;intro w5 hb5 R8 c0;replace hB:=hB.trans (hb5.mono hB.size)
    exact sZrr11
  ·refine m2t ?_;intro hjn hall HS hta hk0 hk1 ht0 ht1
   rw[hk1] at ht0 ht1
   have ej:es.take j=es:=List.take_of_length_le om;have hlb:(setB es).length=21*es.length:=qnn es;rw[ej];clear hall hk0 hk1 ej
   go_wp2_with (first|((with_reducible refine atOp (.indexAddr 22 (.tmp 39) (.const (I Z 0))) rfl ?_);refine qh0 22 (.tmp 39) (.const (I Z 0)) rfl rfl _ _ _ rfl rfl (I0 _) ?_)|((with_reducible refine gL 3 41 ?_);refine qvf (.tmp 41) rfl rfl _ _ rfl _ c0 ?_)|(go_at_call 24;go_fit (qlqb (setB es) (tmE es) seq 300 _ om ht0 ht1 om om);rintro x w5 ⟨rfl,hb5⟩;unfold msgS))
   go_ret2
   exact⟨by rw[HS.out];rfl,hB.trans (hb5.mono hB.size)⟩
theorem qz8b(x:Operand)(ho:o.op=.load 29 x)(hw:Region.wanted o (yielded ops a.tmps)=true)(b f:Nat)(hx:a.eval x=V (some ⟨b,f,none⟩))(e:Ev)(hS:∀w,S w->w.rangeAt b f (ecl e)):YieldsIf prog ops S o (.agg (ec e)) a:=
 yieldsIf_load_mid (P:=prog) (S:=S) hw 29 x ho b f hx (ecl e) _ hS underlying29 rfl (q5j e)
end Go.Proofs.YtnhafdkfjjplkaaDoor
