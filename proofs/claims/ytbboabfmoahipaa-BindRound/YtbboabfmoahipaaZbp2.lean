/-
  Of what a law stands on.
-/
import Derived.DeepKeys
import Derived.SizedLaws
import Derived.Deep.RegionHeld3
import Derived.Test.YtbboabfmoahipaaZbp1
set_option linter.unusedSimpArgs false
set_option linter.unusedVariables false
namespace Go.Proofs.Ytbboabfmoahipaa
open Go.Value renaming int → I,pointer → V
open Go.IntKind renaming i64 → Z
open _root_.Go.Proofs.Try Go.ChangeShapes Go.WideShapes Go.ChangeAt Go.RowKit
set_option maxHeartbeats 16000000
set_option maxRecDepth 100000
variable {w:World}{b:Nat}{f:Nat->Int}{g:Nat->Bool}{a d e k s:Int}{p:Prop}
theorem PRow.row0(h:PRow w b (pc f g)):w.rangeAt b 0 [I Z (rowF f 0 0),I Z (rowF f 0 1),I Z (rowF f 0 2),I Z (rowF f 0 3),I Z (rowF f 0 4),I Z (rowF f 0 5)]:=by
 intro j v hv
 match j,hv with
 | 0,hv=>obtain rfl:=Option.some.inj hv;exact h.own 0 om
 | 1,hv=>obtain rfl:=Option.some.inj hv;exact h.own 1 om
 | 2,hv=>obtain rfl:=Option.some.inj hv;exact h.own 2 om
 | 3,hv=>obtain rfl:=Option.some.inj hv;exact h.own 3 om
 | 4,hv=>obtain rfl:=Option.some.inj hv;exact h.own 4 om
 | 5,hv=>obtain rfl:=Option.some.inj hv;exact h.own 5 om
theorem PRow.row1(h:PRow w b (pc f g)):w.rangeAt b 6 [I Z (rowF f 1 0),I Z (rowF f 1 1),I Z (rowF f 1 2),I Z (rowF f 1 3),I Z (rowF f 1 4),I Z (rowF f 1 5)]:=by
 intro j v hv
 match j,hv with
 | 0,hv=>obtain rfl:=Option.some.inj hv;exact h.own 6 om
 | 1,hv=>obtain rfl:=Option.some.inj hv;exact h.own 7 om
 | 2,hv=>obtain rfl:=Option.some.inj hv;exact h.own 8 om
 | 3,hv=>obtain rfl:=Option.some.inj hv;exact h.own 9 om
 | 4,hv=>obtain rfl:=Option.some.inj hv;exact h.own 10 om
 | 5,hv=>obtain rfl:=Option.some.inj hv;exact h.own 11 om
theorem PRow.row2(h:PRow w b (pc f g)):w.rangeAt b 12 [I Z (rowF f 2 0),I Z (rowF f 2 1),I Z (rowF f 2 2),I Z (rowF f 2 3),I Z (rowF f 2 4),I Z (rowF f 2 5)]:=by
 intro j v hv
 match j,hv with
 | 0,hv=>obtain rfl:=Option.some.inj hv;exact h.own 12 om
 | 1,hv=>obtain rfl:=Option.some.inj hv;exact h.own 13 om
 | 2,hv=>obtain rfl:=Option.some.inj hv;exact h.own 14 om
 | 3,hv=>obtain rfl:=Option.some.inj hv;exact h.own 15 om
 | 4,hv=>obtain rfl:=Option.some.inj hv;exact h.own 16 om
 | 5,hv=>obtain rfl:=Option.some.inj hv;exact h.own 17 om
def qdh(f:Nat->Int)(g:Nat->Bool)(s a:Int):Int:=if qcv f=true then(if inR a 3=true/\inR s 8=true then(if g a.toNat=true then 9 else if (qbo (rowF f a.toNat)).length=0 then 10 else 0) else 7) else 2
def qft(f:Nat->Int)(g:Nat->Bool)(s a d:Int):Nat:=if qdh f g s a=0 then qep (qbo (rowF f a.toNat)) d else 0
def qi1(f:Nat->Int)(g:Nat->Bool)(s a d:Int):Nat->Int:=if qdh f g s a=0 then upd f (6*a.toNat+qft f g s a d) (s+1) else f
theorem q8a(f:Nat->Int)(g:Nat->Bool)(s a d e:Int)(h:qdh f g s a=e)(he:e≠0):qft f g s a d=0/\qi1 f g s a d=f:=by
 unfold qi1 qft;rw[if_neg om,if_neg om];exact⟨rfl,rfl⟩
theorem q5w(f:Nat->Int)(g:Nat->Bool)(s d:Int)(a:Nat)(h:qdh f g s a=0):qft f g s a d=qep (qbo (rowF f a)) d/\qi1 f g s a d=upd f (6*a+qep (qbo (rowF f a)) d) (s+1):=by
 (have e:qft f g s a d=qep (qbo (rowF f a)) d:=by unfold qft;rw[if_pos h,Int.toNat_natCast])
 refine⟨e,?_⟩
 unfold qi1;rw[if_pos h,e,Int.toNat_natCast]
theorem q1y(h:qcv f=false):qdh f g s a=2:=by unfold qdh;rw[if_neg (by simp[h])]
theorem qzh(h:qcv f=true)(h1:¬(inR a 3=true/\inR s 8=true)):qdh f g s a=7:=by unfold qdh;rw[if_pos h,if_neg h1]
theorem qqf{a:Nat}(h:qcv f=true)(h1:a<3)(h2:inR s 8=true)(h3:g a=true):qdh f g s a=9:=by
 unfold qdh;rw[if_pos h,if_pos ⟨qed om om,h2⟩,Int.toNat_natCast,if_pos h3]
theorem qnz{a:Nat}(h:qcv f=true)(h1:a<3)(h2:inR s 8=true)(h3:g a=false)(h4:(qbo (rowF f a)).length=0):qdh f g s a=10:=by
 unfold qdh;rw[if_pos h,if_pos ⟨qed om om,h2⟩,Int.toNat_natCast,if_neg (by simp[h3]),if_pos h4]
theorem qqu{a:Nat}(h:qcv f=true)(h1:a<3)(h2:inR s 8=true)(h3:g a=false)(h4:(qbo (rowF f a)).length≠0):qdh f g s a=0:=by
 unfold qdh;rw[if_pos h,if_pos ⟨qed om om,h2⟩,Int.toNat_natCast,if_neg (by simp[h3]),if_neg h4]
def qet(f:Nat->Int)(g:Nat->Bool)(s a d:Int):Value:=.tuple #[plv (qi1 f g s a d) g,I Z ((qft f g s a d:Nat):Int),I Z (qdh f g s a)]
theorem qg4(h:qdh f g s a=e)(he:e≠0):qet f g s a d=.tuple #[plv f g,I Z 0,I Z e]:=by
 obtain⟨h1,h2⟩:=q8a f g s a d e h he
 unfold qet;rw[h1,h2,h];rfl
theorem qo3{a:Nat}(h:qdh f g s a=0):qet f g s a d=.tuple #[plv (upd f (6*a+qep (qbo (rowF f a)) d) (s+1)) g,I Z ((qep (qbo (rowF f a)) d:Nat):Int),I Z 0]:=by
 obtain⟨h1,h2⟩:=q5w f g s d a h
 unfold qet;rw[h1,h2,h]
theorem sZbp21(h:p:=by
 have h8:PRow ((w.alloc (.cells (pc f g) 26)).alloc (.cells #[I Z 0,I Z 0,I Z 0,I Z 0,I Z 0,I Z 0,I Z 0,I Z 0,I Z 0,I Z 0,I Z 0,I Z 0,I Z 0,I Z 0,I Z 0,I Z 0,I Z 0,I Z 0,.bool false,.bool false,.bool false] 26)) (w.alloc (.cells (pc f g) 26)).heap.size #[I Z 0,I Z 0,I Z 0,I Z 0,I Z 0,I Z 0,I Z 0,I Z 0,I Z 0,I Z 0,I Z 0,I Z 0,I Z 0,I Z 0,I Z 0,I Z 0,I Z 0,I Z 0,.bool false,.bool false,.bool false]:=PRow.new _ _;(have e8:(w.alloc (.cells (pc f g) 26)).heap.size=w.heap.size+1:=by simp)
 rw[e8] at h8
 exact h8):p:=h
theorem qtm(f:Nat->Int)(g:Nat->Bool)(s a d:Int)(hd:(Lit.int .i64 d).wf=true)(w:World):
  Calls prog 54 #[plv f g,.int .i64 s,.int .i64 a,.int .i64 d] w fun e w'=>e=.returned (qet f g s a d)/\Below w.heap.size w w':=by
 have T0:PRow ((w.alloc (.cells (pc f g) 26)).alloc (.cells #[.int .i64 0,.int .i64 0,.int .i64 0,.int .i64 0,.int .i64 0,.int .i64 0,.int .i64 0,.int .i64 0,.int .i64 0,.int .i64 0,.int .i64 0,.int .i64 0,.int .i64 0,.int .i64 0,.int .i64 0,.int .i64 0,.int .i64 0,.int .i64 0,.bool false,.bool false,.bool false] 26)) w.heap.size (pc f g):=(PRow.new _ _).alloc _
 have T8:PRow ((w.alloc (.cells (pc f g) 26)).alloc (.cells #[.int .i64 0,.int .i64 0,.int .i64 0,.int .i64 0,.int .i64 0,.int .i64 0,.int .i64 0,.int .i64 0,.int .i64 0,.int .i64 0,.int .i64 0,.int .i64 0,.int .i64 0,.int .i64 0,.int .i64 0,.int .i64 0,.int .i64 0,.int .i64 0,.bool false,.bool false,.bool false] 26)) (w.heap.size+1) (pc (fun _=>0) (fun _=>false)):=by
  exact sZbp21
 refine m05 ?_;intro hB;(have CG:=fun w=>qni f g w);(have CA:=fun w=>qe7 a w);(have CS:=fun w=>qlq s w)
 unfold plv at CG
 unfold plv
 cases hgp:qcv f with
 | false=>
  have HS:Hid (qet f g s a d=_):=qg4 (q1y hgp) om
  rw[hgp] at CG
  go_enter func54,ntmps54
  go_wp2_with (first|(refine qat _ rfl ?_ _ rfl f g T0 ?_;· rfl)|(refine m02 ?_;clear T0 hB;intro w8 T8 hs8 hk8 hb8 T0 hB)|(go_at_call 32;refine m01 ?_;clear T0 T8 hB;intro w' hb T0 T8 hB))
  (refine m06 ?_;refine bodyPost_ret (qc6 rfl _ _ _ _ _ rfl T8) rfl ⟨?_,hB⟩)
  rw[HS.out];rfl
 | true=>
  rw[hgp] at CG
  by_cases hin:inR a 3=true/\inR s 8=true
  rotate_left
  ·have HS:Hid (qet f g s a d=_):=qg4 (qzh hgp hin) om;clear hgp
   cases ha:inR a 3 with
   | false=>
    rw[ha] at CA
    go_enter func54,ntmps54
    go_wp2_with (first|(refine qat _ rfl ?_ _ rfl f g T0 ?_;· rfl)|(refine m02 ?_;clear T0 hB;intro w8 T8 hs8 hk8 hb8 T0 hB)|(go_at_call 32;refine m01 ?_;clear T0 T8 hB;intro w' hb T0 T8 hB)|(go_at_call 57;go_fit (CA _);rintro e w' ⟨rfl,rfl⟩))
    (refine m06 ?_;refine bodyPost_ret (qc6 rfl _ _ _ _ _ rfl T8) rfl ⟨?_,hB⟩)
    rw[HS.out];rfl
   | true=>
    have hs:inR s 8=false:=by
     cases h:inR s 8 with
     | false=>rfl
     | true=>exact absurd ⟨ha,h⟩ hin
    rw[ha] at CA
    rw[hs] at CS
    go_enter func54,ntmps54
    go_wp2_with (first|(refine qat _ rfl ?_ _ rfl f g T0 ?_;· rfl)|(refine m02 ?_;clear T0 hB;intro w8 T8 hs8 hk8 hb8 T0 hB)|(go_at_call 32;refine m01 ?_;clear T0 T8 hB;intro w' hb T0 T8 hB)|(go_at_call 57;go_fit (CA _);rintro e w' ⟨rfl,rfl⟩)|(go_at_call 59;go_fit (CS _);rintro e w' ⟨rfl,rfl⟩))
    (refine m06 ?_;refine bodyPost_ret (qc6 rfl _ _ _ _ _ rfl T8) rfl ⟨?_,hB⟩)
    rw[HS.out];rfl
  obtain⟨hia,his⟩:=hin;have hba:0<=a/\a<3:=of_decide_eq_true hia;have hbs:0<=s/\s<8:=of_decide_eq_true his
  rw[hia] at CA
  rw[his] at CS
  obtain⟨n,rfl⟩:∃n:Nat,a=n:=⟨a.toNat,by omega⟩
  (have hn:n<3:=by omega);have hs0:0<=s:=hbs.1;(have hs7:s<=7:=by omega)
  rcases(show n=0\/n=1\/n=2 by omega) with rfl|rfl|rfl
  ·(have CF:=fun w=>qjc (rowF f 0) w)
   skip
   have dr:=T0.dr 0 om;have hfl:=qks (rowF f 0) 6;have hfl':(qbo (rowF f 0)).length<=6:=hfl;clear hfl
   cases hg:g 0 with
   | true=>
    have HS:Hid (qet f g s ((0:Nat):Int) d=_):=qg4 (qqf hgp hn his hg) om
    rw[hg] at dr
    clear hgp hia his
    go_enter func54,ntmps54
    go_wp2_with (first|(refine qat _ rfl ?_ _ rfl f g T0 ?_;· rfl)|(refine m02 ?_;clear T0 hB;intro w8 T8 hs8 hk8 hb8 T0 hB)|(go_at_call 32;refine m01 ?_;clear T0 T8 hB;intro w' hb T0 T8 hB;replace dr:=T0.dr 0 om;rw[hg] at dr)|(go_at_call 57;go_fit (CA _);rintro e w' ⟨rfl,rfl⟩)|(go_at_call 59;go_fit (CS _);rintro e w' ⟨rfl,rfl⟩))
    (refine m06 ?_;refine bodyPost_ret (qc6 rfl _ _ _ _ _ rfl T8) rfl ⟨?_,hB⟩)
    rw[HS.out];rfl
   | false=>
    rw[hg] at dr
    by_cases hz:(qbo (rowF f 0)).length=0
    ·have HS:Hid (qet f g s ((0:Nat):Int) d=_):=qg4 (qnz hgp hn his hg hz) om;(have hz':((qbo (rowF f 0)).length:Int)=0:=by omega);clear hgp hia his hz
     go_enter func54,ntmps54
     go_wp2_with (first|(refine qat _ rfl ?_ _ rfl f g T0 ?_;· rfl)|(refine m02 ?_;clear T0 hB;intro w8 T8 hs8 hk8 hb8 T0 hB)|(refine wpList_load_mid rfl 22 _ rfl _ 0 rfl [.int .i64 (rowF f 0 0),.int .i64 (rowF f 0 1),.int .i64 (rowF f 0 2),.int .i64 (rowF f 0 3),.int .i64 (rowF f 0 4),.int .i64 (rowF f 0 5)] _ (T0.row0) underlying22 rfl kr ?_)|(go_at_call 32;refine m01 ?_;clear T0 T8 hB;intro w' hb T0 T8 hB;replace dr:=T0.dr 0 om;rw[hg] at dr)|(go_at_call 57;go_fit (CA _);rintro e w' ⟨rfl,rfl⟩)|(go_at_call 59;go_fit (CS _);rintro e w' ⟨rfl,rfl⟩)|(go_at_call 61;go_fit (CF _);rintro e w' ⟨v,rfl,⟨a1,c1,rfl⟩,hI,hb⟩;refine m0t ?_;clear hb T0 T8 hB;intro hb T0 T8 hB))
     (refine m06 ?_;refine bodyPost_ret (qc6 rfl _ _ _ _ _ rfl T8) rfl ⟨?_,hB⟩)
     rw[HS.out];rfl
    ·refine m4p ?_;intro HS hpos hz'
     obtain⟨K,hK⟩:∃K,qep (qbo (rowF f 0)) d=K:=⟨_,rfl⟩
     have hm:=qj8 _ _ (qiu (qbo (rowF f 0)) d hpos)
     rw[hK] at hm
     refine m1n ?_;intro hK6 hK0 hs1
     replace HS:Hid (qet f g s ((0:Nat):Int) d=.tuple #[plv (upd f (K) (s+1)) g,.int .i64 (K:Int),.int .i64 0]):=by
      show _=_
      rw[HS.out,hK];simp
     have hm6:K<6:=hm.1;clear hgp hia his hz hm
     go_enter func54,ntmps54
     go_wp2_with (first|(refine qat _ rfl ?_ _ rfl f g T0 ?_;· rfl)|(refine m02 ?_;clear T0 hB;intro w8 T8 hs8 hk8 hb8 T0 hB)|(refine m5r ?_;clear T0 T8 hB;intro T0 T8 hB;refine qat _ rfl ?_ _ rfl (upd f (K) (s+1)) g T0 ?_;· rfl)|(refine qay rfl _ _ rfl _ rfl (upd f (K) (s+1)) g rfl _ T8 rfl ?_;intro w8 T8 hs8 hk8 hb8;replace hB:=hb8 _ _ om hB)|(refine wpList_load_mid rfl 22 _ rfl _ 0 rfl [.int .i64 (rowF f 0 0),.int .i64 (rowF f 0 1),.int .i64 (rowF f 0 2),.int .i64 (rowF f 0 3),.int .i64 (rowF f 0 4),.int .i64 (rowF f 0 5)] _ (T0.row0) underlying22 rfl kr ?_)|(go_at_call 32;refine m01 ?_;clear T0 T8 hB;intro w' hb T0 T8 hB;replace dr:=T0.dr 0 om;rw[hg] at dr)|(go_at_call 57;go_fit (CA _);rintro e w' ⟨rfl,rfl⟩)|(go_at_call 59;go_fit (CS _);rintro e w' ⟨rfl,rfl⟩)|(go_at_call 61;go_fit (CF _);rintro e w' ⟨v,rfl,⟨a1,c1,rfl⟩,hI,hb⟩;refine m0t ?_;clear hb T0 T8 hB;intro hb T0 T8 hB;have cw:=T0.own (K) om;have fw:=T0.free (K))|(go_at_call 62;refine(qmf _ _ _ d _ hI hpos hd om).mono ?_;rintro e w' ⟨rfl,rfl⟩;rw[hK]))
     (refine m06 ?_;refine bodyPost_ret (qc6 rfl _ _ _ _ _ rfl T8) rfl ⟨?_,hB⟩)
     rw[HS.out];rfl
  ·(have CF:=fun w=>qjc (rowF f 1) w)
   skip
   have dr:=T0.dr 1 om;have hfl:=qks (rowF f 1) 6;have hfl':(qbo (rowF f 1)).length<=6:=hfl;clear hfl
   cases hg:g 1 with
   | true=>
    have HS:Hid (qet f g s ((1:Nat):Int) d=_):=qg4 (qqf hgp hn his hg) om
    rw[hg] at dr
    clear hgp hia his
    go_enter func54,ntmps54
    go_wp2_with (first|(refine qat _ rfl ?_ _ rfl f g T0 ?_;· rfl)|(refine m02 ?_;clear T0 hB;intro w8 T8 hs8 hk8 hb8 T0 hB)|(go_at_call 32;refine m01 ?_;clear T0 T8 hB;intro w' hb T0 T8 hB;replace dr:=T0.dr 1 om;rw[hg] at dr)|(go_at_call 57;go_fit (CA _);rintro e w' ⟨rfl,rfl⟩)|(go_at_call 59;go_fit (CS _);rintro e w' ⟨rfl,rfl⟩))
    (refine m06 ?_;refine bodyPost_ret (qc6 rfl _ _ _ _ _ rfl T8) rfl ⟨?_,hB⟩)
    rw[HS.out];rfl
   | false=>
    rw[hg] at dr
    by_cases hz:(qbo (rowF f 1)).length=0
    ·have HS:Hid (qet f g s ((1:Nat):Int) d=_):=qg4 (qnz hgp hn his hg hz) om;(have hz':((qbo (rowF f 1)).length:Int)=0:=by omega);clear hgp hia his hz
     go_enter func54,ntmps54
     go_wp2_with (first|(refine qat _ rfl ?_ _ rfl f g T0 ?_;· rfl)|(refine m02 ?_;clear T0 hB;intro w8 T8 hs8 hk8 hb8 T0 hB)|(refine wpList_load_mid rfl 22 _ rfl _ 6 rfl [.int .i64 (rowF f 1 0),.int .i64 (rowF f 1 1),.int .i64 (rowF f 1 2),.int .i64 (rowF f 1 3),.int .i64 (rowF f 1 4),.int .i64 (rowF f 1 5)] _ (T0.row1) underlying22 rfl kr ?_)|(go_at_call 32;refine m01 ?_;clear T0 T8 hB;intro w' hb T0 T8 hB;replace dr:=T0.dr 1 om;rw[hg] at dr)|(go_at_call 57;go_fit (CA _);rintro e w' ⟨rfl,rfl⟩)|(go_at_call 59;go_fit (CS _);rintro e w' ⟨rfl,rfl⟩)|(go_at_call 61;go_fit (CF _);rintro e w' ⟨v,rfl,⟨a1,c1,rfl⟩,hI,hb⟩;refine m0t ?_;clear hb T0 T8 hB;intro hb T0 T8 hB))
     (refine m06 ?_;refine bodyPost_ret (qc6 rfl _ _ _ _ _ rfl T8) rfl ⟨?_,hB⟩)
     rw[HS.out];rfl
    ·refine m4q ?_;intro HS hpos hz'
     obtain⟨K,hK⟩:∃K,qep (qbo (rowF f 1)) d=K:=⟨_,rfl⟩
     have hm:=qj8 _ _ (qiu (qbo (rowF f 1)) d hpos)
     rw[hK] at hm
     refine m1n ?_;intro hK6 hK0 hs1
     replace HS:Hid (qet f g s ((1:Nat):Int) d=.tuple #[plv (upd f (6+K) (s+1)) g,.int .i64 (K:Int),.int .i64 0]):=by
      show _=_
      rw[HS.out,hK]
     have hm6:K<6:=hm.1;clear hgp hia his hz hm
     go_enter func54,ntmps54
     go_wp2_with (first|(refine qat _ rfl ?_ _ rfl f g T0 ?_;· rfl)|(refine m02 ?_;clear T0 hB;intro w8 T8 hs8 hk8 hb8 T0 hB)|(refine m5m ?_;clear T0 T8 hB;intro T0 T8 hB;refine qat _ rfl ?_ _ rfl (upd f (6+K) (s+1)) g T0 ?_;· rfl)|(refine qay rfl _ _ rfl _ rfl (upd f (6+K) (s+1)) g rfl _ T8 rfl ?_;intro w8 T8 hs8 hk8 hb8;replace hB:=hb8 _ _ om hB)|(refine wpList_load_mid rfl 22 _ rfl _ 6 rfl [.int .i64 (rowF f 1 0),.int .i64 (rowF f 1 1),.int .i64 (rowF f 1 2),.int .i64 (rowF f 1 3),.int .i64 (rowF f 1 4),.int .i64 (rowF f 1 5)] _ (T0.row1) underlying22 rfl kr ?_)|(go_at_call 32;refine m01 ?_;clear T0 T8 hB;intro w' hb T0 T8 hB;replace dr:=T0.dr 1 om;rw[hg] at dr)|(go_at_call 57;go_fit (CA _);rintro e w' ⟨rfl,rfl⟩)|(go_at_call 59;go_fit (CS _);rintro e w' ⟨rfl,rfl⟩)|(go_at_call 61;go_fit (CF _);rintro e w' ⟨v,rfl,⟨a1,c1,rfl⟩,hI,hb⟩;refine m0t ?_;clear hb T0 T8 hB;intro hb T0 T8 hB;have cw:=T0.own (6+K) om;have fw:=T0.free (6+K))|(go_at_call 62;refine(qmf _ _ _ d _ hI hpos hd om).mono ?_;rintro e w' ⟨rfl,rfl⟩;rw[hK]))
     (refine m06 ?_;refine bodyPost_ret (qc6 rfl _ _ _ _ _ rfl T8) rfl ⟨?_,hB⟩)
     rw[HS.out];rfl
  ·(have CF:=fun w=>qjc (rowF f 2) w)
   skip
   have dr:=T0.dr 2 om;have hfl:=qks (rowF f 2) 6;have hfl':(qbo (rowF f 2)).length<=6:=hfl;clear hfl
   cases hg:g 2 with
   | true=>
    have HS:Hid (qet f g s ((2:Nat):Int) d=_):=qg4 (qqf hgp hn his hg) om
    rw[hg] at dr
    clear hgp hia his
    go_enter func54,ntmps54
    go_wp2_with (first|(refine qat _ rfl ?_ _ rfl f g T0 ?_;· rfl)|(refine m02 ?_;clear T0 hB;intro w8 T8 hs8 hk8 hb8 T0 hB)|(go_at_call 32;refine m01 ?_;clear T0 T8 hB;intro w' hb T0 T8 hB;replace dr:=T0.dr 2 om;rw[hg] at dr)|(go_at_call 57;go_fit (CA _);rintro e w' ⟨rfl,rfl⟩)|(go_at_call 59;go_fit (CS _);rintro e w' ⟨rfl,rfl⟩))
    (refine m06 ?_;refine bodyPost_ret (qc6 rfl _ _ _ _ _ rfl T8) rfl ⟨?_,hB⟩)
    rw[HS.out];rfl
   | false=>
    rw[hg] at dr
    by_cases hz:(qbo (rowF f 2)).length=0
    ·have HS:Hid (qet f g s ((2:Nat):Int) d=_):=qg4 (qnz hgp hn his hg hz) om;(have hz':((qbo (rowF f 2)).length:Int)=0:=by omega);clear hgp hia his hz
     go_enter func54,ntmps54
     go_wp2_with (first|(refine qat _ rfl ?_ _ rfl f g T0 ?_;· rfl)|(refine m02 ?_;clear T0 hB;intro w8 T8 hs8 hk8 hb8 T0 hB)|(refine wpList_load_mid rfl 22 _ rfl _ 12 rfl [.int .i64 (rowF f 2 0),.int .i64 (rowF f 2 1),.int .i64 (rowF f 2 2),.int .i64 (rowF f 2 3),.int .i64 (rowF f 2 4),.int .i64 (rowF f 2 5)] _ (T0.row2) underlying22 rfl kr ?_)|(go_at_call 32;refine m01 ?_;clear T0 T8 hB;intro w' hb T0 T8 hB;replace dr:=T0.dr 2 om;rw[hg] at dr)|(go_at_call 57;go_fit (CA _);rintro e w' ⟨rfl,rfl⟩)|(go_at_call 59;go_fit (CS _);rintro e w' ⟨rfl,rfl⟩)|(go_at_call 61;go_fit (CF _);rintro e w' ⟨v,rfl,⟨a1,c1,rfl⟩,hI,hb⟩;refine m0t ?_;clear hb T0 T8 hB;intro hb T0 T8 hB))
     (refine m06 ?_;refine bodyPost_ret (qc6 rfl _ _ _ _ _ rfl T8) rfl ⟨?_,hB⟩)
     rw[HS.out];rfl
    ·refine m4r ?_;intro HS hpos hz'
     obtain⟨K,hK⟩:∃K,qep (qbo (rowF f 2)) d=K:=⟨_,rfl⟩
     have hm:=qj8 _ _ (qiu (qbo (rowF f 2)) d hpos)
     rw[hK] at hm
     refine m1n ?_;intro hK6 hK0 hs1
     replace HS:Hid (qet f g s ((2:Nat):Int) d=.tuple #[plv (upd f (12+K) (s+1)) g,.int .i64 (K:Int),.int .i64 0]):=by
      show _=_
      rw[HS.out,hK]
     have hm6:K<6:=hm.1;clear hgp hia his hz hm
     go_enter func54,ntmps54
     go_wp2_with (first|(refine qat _ rfl ?_ _ rfl f g T0 ?_;· rfl)|(refine m02 ?_;clear T0 hB;intro w8 T8 hs8 hk8 hb8 T0 hB)|(refine m5j ?_;clear T0 T8 hB;intro T0 T8 hB;refine qat _ rfl ?_ _ rfl (upd f (12+K) (s+1)) g T0 ?_;· rfl)|(refine qay rfl _ _ rfl _ rfl (upd f (12+K) (s+1)) g rfl _ T8 rfl ?_;intro w8 T8 hs8 hk8 hb8;replace hB:=hb8 _ _ om hB)|(refine wpList_load_mid rfl 22 _ rfl _ 12 rfl [.int .i64 (rowF f 2 0),.int .i64 (rowF f 2 1),.int .i64 (rowF f 2 2),.int .i64 (rowF f 2 3),.int .i64 (rowF f 2 4),.int .i64 (rowF f 2 5)] _ (T0.row2) underlying22 rfl kr ?_)|(go_at_call 32;refine m01 ?_;clear T0 T8 hB;intro w' hb T0 T8 hB;replace dr:=T0.dr 2 om;rw[hg] at dr)|(go_at_call 57;go_fit (CA _);rintro e w' ⟨rfl,rfl⟩)|(go_at_call 59;go_fit (CS _);rintro e w' ⟨rfl,rfl⟩)|(go_at_call 61;go_fit (CF _);rintro e w' ⟨v,rfl,⟨a1,c1,rfl⟩,hI,hb⟩;refine m0t ?_;clear hb T0 T8 hB;intro hb T0 T8 hB;have cw:=T0.own (12+K) om;have fw:=T0.free (12+K))|(go_at_call 62;refine(qmf _ _ _ d _ hI hpos hd om).mono ?_;rintro e w' ⟨rfl,rfl⟩;rw[hK]))
     (refine m06 ?_;refine bodyPost_ret (qc6 rfl _ _ _ _ _ rfl T8) rfl ⟨?_,hB⟩)
     rw[HS.out];rfl
theorem sZbp24(h:p:=by
 go_wp2_with (first|(refine qat _ rfl ?_ _ rfl f g T0 ?_;· rfl)|(refine m02 ?_;clear T0;intro w8 T8 hs8 hk8 hb8 T0 hB)|(go_at_call 37;refine m01 ?_;clear T0 T8 hB;intro w' hb T0 T8 hB))
 (refine m06 ?_;refine bodyPost_ret (qc6 rfl _ _ _ _ _ rfl T8) rfl ⟨?_,hB⟩)
 rw[HS.out];rfl):p:=h
theorem sZbp25(h:p:=by
 rw[←hK];unfold qep
 rw[List.getD_eq_getElem?_getD,List.getElem?_eq_getElem hq];rfl):p:=h
theorem sZbp26(h:p:=by
 go_enter func46,ntmps46
 exact sZbp24):p:=h
theorem qm2b(f:Nat->Int)(g:Nat->Bool)(s a d:Int)(hd:(Lit.int .i64 d).wf=true)(w:World):
  Calls prog 46 #[plv f g,.int .i64 s,.int .i64 a,.int .i64 d] w fun e w'=>e=.returned (qet f g s a d)/\Below w.heap.size w w':=by
 have T0:PRow ((w.alloc (.cells (pc f g) 26)).alloc (.cells #[.int .i64 0,.int .i64 0,.int .i64 0,.int .i64 0,.int .i64 0,.int .i64 0,.int .i64 0,.int .i64 0,.int .i64 0,.int .i64 0,.int .i64 0,.int .i64 0,.int .i64 0,.int .i64 0,.int .i64 0,.int .i64 0,.int .i64 0,.int .i64 0,.bool false,.bool false,.bool false] 26)) w.heap.size (pc f g):=(PRow.new _ _).alloc _
 have T8:PRow ((w.alloc (.cells (pc f g) 26)).alloc (.cells #[.int .i64 0,.int .i64 0,.int .i64 0,.int .i64 0,.int .i64 0,.int .i64 0,.int .i64 0,.int .i64 0,.int .i64 0,.int .i64 0,.int .i64 0,.int .i64 0,.int .i64 0,.int .i64 0,.int .i64 0,.int .i64 0,.int .i64 0,.int .i64 0,.bool false,.bool false,.bool false] 26)) (w.heap.size+1) (pc (fun _=>0) (fun _=>false)):=by
  exact sZbp21
 refine m05 ?_;intro hB;(have CG:=fun w=>qlyb f g w)
 unfold plv at CG
 unfold plv
 cases hgp:qcv f with
 | false=>
  have HS:Hid (qet f g s a d=_):=qg4 (q1y hgp) om
  rw[hgp] at CG
  exact sZbp26
 | true=>
  rw[hgp] at CG
  by_cases hin:inR a 3=true/\inR s 8=true
  rotate_left
  ·have HS:Hid (qet f g s a d=_):=qg4 (qzh hgp hin) om;clear hgp
   have hin':(a<0\/2<a)\/(s<0\/7<s):=by
    by_cases h:(a<0\/2<a)\/(s<0\/7<s)
    ·exact h
    ·exact absurd ⟨qed om om,qed om om⟩ hin
   clear hin
   by_cases h1:a<0
   ·go_enter func46,ntmps46
    exact sZbp24
   ·(have h1':0<=a:=by omega);clear h1
    by_cases h2:2<a
    ·go_enter func46,ntmps46
     exact sZbp24
    ·(have h2':a<=2:=by omega);clear h2
     by_cases h3:s<0
     ·go_enter func46,ntmps46
      exact sZbp24
     ·(have h3':0<=s:=by omega);(have h4':7<s:=by omega);clear h3 hin'
      exact sZbp26
  obtain⟨hia,his⟩:=hin;have hba:0<=a/\a<3:=of_decide_eq_true hia;have hbs:0<=s/\s<8:=of_decide_eq_true his
  obtain⟨n,rfl⟩:∃n:Nat,a=n:=⟨a.toNat,by omega⟩
  (have hn:n<3:=by omega);have hs0:0<=s:=hbs.1;(have hs7:s<=7:=by omega)
  rcases(show n=0\/n=1\/n=2 by omega) with rfl|rfl|rfl
  ·(have CF:=fun w=>qksb f g 0 om w)
   unfold plv at CF
   have dr:=T0.dr 0 om;have hfl:=qks (rowF f 0) 6;have hfl':(qbo (rowF f 0)).length<=6:=hfl;clear hfl
   cases hg:g 0 with
   | true=>
    have HS:Hid (qet f g s ((0:Nat):Int) d=_):=qg4 (qqf hgp hn his hg) om
    rw[hg] at dr
    clear hgp hia his
    go_enter func46,ntmps46
    go_wp2_with (first|(refine qat _ rfl ?_ _ rfl f g T0 ?_;· rfl)|(refine m02 ?_;clear T0 hB;intro w8 T8 hs8 hk8 hb8 T0 hB)|(go_at_call 37;refine m01 ?_;clear T0 T8 hB;intro w' hb T0 T8 hB;replace dr:=T0.dr 0 om;rw[hg] at dr))
    (refine m06 ?_;refine bodyPost_ret (qc6 rfl _ _ _ _ _ rfl T8) rfl ⟨?_,hB⟩)
    rw[HS.out];rfl
   | false=>
    rw[hg] at dr
    by_cases hz:(qbo (rowF f 0)).length=0
    ·have HS:Hid (qet f g s ((0:Nat):Int) d=_):=qg4 (qnz hgp hn his hg hz) om;(have hz':((qbo (rowF f 0)).length:Int)=0:=by omega);clear hgp hia his hz
     go_enter func46,ntmps46
     go_wp2_with (first|(refine qat _ rfl ?_ _ rfl f g T0 ?_;· rfl)|(refine m02 ?_;clear T0 hB;intro w8 T8 hs8 hk8 hb8 T0 hB)|(go_at_call 37;refine m01 ?_;clear T0 T8 hB;intro w' hb T0 T8 hB;replace dr:=T0.dr 0 om;rw[hg] at dr)|(go_at_call 55;go_fit (CF _);rintro e w' ⟨v,rfl,⟨a1,c1,rfl⟩,hI,hb⟩;refine m0t ?_;clear hb T0 T8 hB;intro hb T0 T8 hB))
     (refine m06 ?_;refine bodyPost_ret (qc6 rfl _ _ _ _ _ rfl T8) rfl ⟨?_,hB⟩)
     rw[HS.out];rfl
    ·refine m4p ?_;intro HS hpos hz'
     obtain⟨K,hK⟩:∃K,qep (qbo (rowF f 0)) d=K:=⟨_,rfl⟩
     have hm:=qj8 _ _ (qiu (qbo (rowF f 0)) d hpos)
     rw[hK] at hm
     refine m1n ?_;intro hK6 hK0 hs1
     replace HS:Hid (qet f g s ((0:Nat):Int) d=.tuple #[plv (upd f (K) (s+1)) g,.int .i64 (K:Int),.int .i64 0]):=by
      show _=_
      rw[HS.out,hK];simp
     obtain⟨q0,q1⟩:=q7c d (qbo (rowF f 0)).length hpos;(have hq:(d%((qbo (rowF f 0)).length:Int)).toNat<(qbo (rowF f 0)).length:=by omega)
     have hKq:(qbo (rowF f 0))[(d%((qbo (rowF f 0)).length:Int)).toNat]=K:=by
      exact sZbp25
     (have CC:=fun w=>qlhb d (qbo (rowF f 0)).length w hpos hfl');have hm6:K<6:=hm.1;clear hgp hia his hz hm
     go_enter func46,ntmps46
     go_wp2_with (first|(refine qat _ rfl ?_ _ rfl f g T0 ?_;· rfl)|(refine m02 ?_;clear T0 hB;intro w8 T8 hs8 hk8 hb8 T0 hB)|(refine m5r ?_;clear T0 T8 hB;intro T0 T8 hB;refine qat _ rfl ?_ _ rfl (upd f (K) (s+1)) g T0 ?_;· rfl)|(refine qay rfl _ _ rfl _ rfl (upd f (K) (s+1)) g rfl _ T8 rfl ?_;intro w8 T8 hs8 hk8 hb8;replace hB:=hb8 _ _ om hB)|(go_at_call 37;refine m01 ?_;clear T0 T8 hB;intro w' hb T0 T8 hB;replace dr:=T0.dr 0 om;rw[hg] at dr)|(go_at_call 55;go_fit (CF _);rintro e w' ⟨v,rfl,⟨a1,c1,rfl⟩,hI,hb⟩;refine m0t ?_;clear hb T0 T8 hB;intro hb T0 T8 hB;obtain⟨b1,cap1,e1,hc⟩:=hI.at hpos;have e2:a1=some ⟨b1,0,none⟩:=(by injection e1);subst e2;have hcell:=hc _ hq;rw[hKq] at hcell;clear hc;have cw:=T0.own (K) om;have fw:=T0.free (K))|(go_at_call 56;go_fit (CC _);rintro e w' ⟨rfl,rfl⟩))
     (refine m06 ?_;refine bodyPost_ret (qc6 rfl _ _ _ _ _ rfl T8) rfl ⟨?_,hB⟩)
     rw[HS.out];rfl
  ·(have CF:=fun w=>qksb f g 1 om w)
   unfold plv at CF
   have dr:=T0.dr 1 om;have hfl:=qks (rowF f 1) 6;have hfl':(qbo (rowF f 1)).length<=6:=hfl;clear hfl
   cases hg:g 1 with
   | true=>
    have HS:Hid (qet f g s ((1:Nat):Int) d=_):=qg4 (qqf hgp hn his hg) om
    rw[hg] at dr
    clear hgp hia his
    go_enter func46,ntmps46
    go_wp2_with (first|(refine qat _ rfl ?_ _ rfl f g T0 ?_;· rfl)|(refine m02 ?_;clear T0 hB;intro w8 T8 hs8 hk8 hb8 T0 hB)|(go_at_call 37;refine m01 ?_;clear T0 T8 hB;intro w' hb T0 T8 hB;replace dr:=T0.dr 1 om;rw[hg] at dr))
    (refine m06 ?_;refine bodyPost_ret (qc6 rfl _ _ _ _ _ rfl T8) rfl ⟨?_,hB⟩)
    rw[HS.out];rfl
   | false=>
    rw[hg] at dr
    by_cases hz:(qbo (rowF f 1)).length=0
    ·have HS:Hid (qet f g s ((1:Nat):Int) d=_):=qg4 (qnz hgp hn his hg hz) om;(have hz':((qbo (rowF f 1)).length:Int)=0:=by omega);clear hgp hia his hz
     go_enter func46,ntmps46
     go_wp2_with (first|(refine qat _ rfl ?_ _ rfl f g T0 ?_;· rfl)|(refine m02 ?_;clear T0 hB;intro w8 T8 hs8 hk8 hb8 T0 hB)|(go_at_call 37;refine m01 ?_;clear T0 T8 hB;intro w' hb T0 T8 hB;replace dr:=T0.dr 1 om;rw[hg] at dr)|(go_at_call 55;go_fit (CF _);rintro e w' ⟨v,rfl,⟨a1,c1,rfl⟩,hI,hb⟩;refine m0t ?_;clear hb T0 T8 hB;intro hb T0 T8 hB))
     (refine m06 ?_;refine bodyPost_ret (qc6 rfl _ _ _ _ _ rfl T8) rfl ⟨?_,hB⟩)
     rw[HS.out];rfl
    ·refine m4q ?_;intro HS hpos hz'
     obtain⟨K,hK⟩:∃K,qep (qbo (rowF f 1)) d=K:=⟨_,rfl⟩
     have hm:=qj8 _ _ (qiu (qbo (rowF f 1)) d hpos)
     rw[hK] at hm
     refine m1n ?_;intro hK6 hK0 hs1
     replace HS:Hid (qet f g s ((1:Nat):Int) d=.tuple #[plv (upd f (6+K) (s+1)) g,.int .i64 (K:Int),.int .i64 0]):=by
      show _=_
      rw[HS.out,hK]
     obtain⟨q0,q1⟩:=q7c d (qbo (rowF f 1)).length hpos;(have hq:(d%((qbo (rowF f 1)).length:Int)).toNat<(qbo (rowF f 1)).length:=by omega)
     have hKq:(qbo (rowF f 1))[(d%((qbo (rowF f 1)).length:Int)).toNat]=K:=by
      exact sZbp25
     (have CC:=fun w=>qlhb d (qbo (rowF f 1)).length w hpos hfl');have hm6:K<6:=hm.1;clear hgp hia his hz hm
     go_enter func46,ntmps46
     go_wp2_with (first|(refine qat _ rfl ?_ _ rfl f g T0 ?_;· rfl)|(refine m02 ?_;clear T0 hB;intro w8 T8 hs8 hk8 hb8 T0 hB)|(refine m5m ?_;clear T0 T8 hB;intro T0 T8 hB;refine qat _ rfl ?_ _ rfl (upd f (6+K) (s+1)) g T0 ?_;· rfl)|(refine qay rfl _ _ rfl _ rfl (upd f (6+K) (s+1)) g rfl _ T8 rfl ?_;intro w8 T8 hs8 hk8 hb8;replace hB:=hb8 _ _ om hB)|(go_at_call 37;refine m01 ?_;clear T0 T8 hB;intro w' hb T0 T8 hB;replace dr:=T0.dr 1 om;rw[hg] at dr)|(go_at_call 55;go_fit (CF _);rintro e w' ⟨v,rfl,⟨a1,c1,rfl⟩,hI,hb⟩;refine m0t ?_;clear hb T0 T8 hB;intro hb T0 T8 hB;obtain⟨b1,cap1,e1,hc⟩:=hI.at hpos;have e2:a1=some ⟨b1,0,none⟩:=(by injection e1);subst e2;have hcell:=hc _ hq;rw[hKq] at hcell;clear hc;have cw:=T0.own (6+K) om;have fw:=T0.free (6+K))|(go_at_call 56;go_fit (CC _);rintro e w' ⟨rfl,rfl⟩))
     (refine m06 ?_;refine bodyPost_ret (qc6 rfl _ _ _ _ _ rfl T8) rfl ⟨?_,hB⟩)
     rw[HS.out];rfl
  ·(have CF:=fun w=>qksb f g 2 om w)
   unfold plv at CF
   have dr:=T0.dr 2 om;have hfl:=qks (rowF f 2) 6;have hfl':(qbo (rowF f 2)).length<=6:=hfl;clear hfl
   cases hg:g 2 with
   | true=>
    have HS:Hid (qet f g s ((2:Nat):Int) d=_):=qg4 (qqf hgp hn his hg) om
    rw[hg] at dr
    clear hgp hia his
    go_enter func46,ntmps46
    go_wp2_with (first|(refine qat _ rfl ?_ _ rfl f g T0 ?_;· rfl)|(refine m02 ?_;clear T0 hB;intro w8 T8 hs8 hk8 hb8 T0 hB)|(go_at_call 37;refine m01 ?_;clear T0 T8 hB;intro w' hb T0 T8 hB;replace dr:=T0.dr 2 om;rw[hg] at dr))
    (refine m06 ?_;refine bodyPost_ret (qc6 rfl _ _ _ _ _ rfl T8) rfl ⟨?_,hB⟩)
    rw[HS.out];rfl
   | false=>
    rw[hg] at dr
    by_cases hz:(qbo (rowF f 2)).length=0
    ·have HS:Hid (qet f g s ((2:Nat):Int) d=_):=qg4 (qnz hgp hn his hg hz) om;(have hz':((qbo (rowF f 2)).length:Int)=0:=by omega);clear hgp hia his hz
     go_enter func46,ntmps46
     go_wp2_with (first|(refine qat _ rfl ?_ _ rfl f g T0 ?_;· rfl)|(refine m02 ?_;clear T0 hB;intro w8 T8 hs8 hk8 hb8 T0 hB)|(go_at_call 37;refine m01 ?_;clear T0 T8 hB;intro w' hb T0 T8 hB;replace dr:=T0.dr 2 om;rw[hg] at dr)|(go_at_call 55;go_fit (CF _);rintro e w' ⟨v,rfl,⟨a1,c1,rfl⟩,hI,hb⟩;refine m0t ?_;clear hb T0 T8 hB;intro hb T0 T8 hB))
     (refine m06 ?_;refine bodyPost_ret (qc6 rfl _ _ _ _ _ rfl T8) rfl ⟨?_,hB⟩)
     rw[HS.out];rfl
    ·refine m4r ?_;intro HS hpos hz'
     obtain⟨K,hK⟩:∃K,qep (qbo (rowF f 2)) d=K:=⟨_,rfl⟩
     have hm:=qj8 _ _ (qiu (qbo (rowF f 2)) d hpos)
     rw[hK] at hm
     refine m1n ?_;intro hK6 hK0 hs1
     replace HS:Hid (qet f g s ((2:Nat):Int) d=.tuple #[plv (upd f (12+K) (s+1)) g,.int .i64 (K:Int),.int .i64 0]):=by
      show _=_
      rw[HS.out,hK]
     obtain⟨q0,q1⟩:=q7c d (qbo (rowF f 2)).length hpos;(have hq:(d%((qbo (rowF f 2)).length:Int)).toNat<(qbo (rowF f 2)).length:=by omega)
     have hKq:(qbo (rowF f 2))[(d%((qbo (rowF f 2)).length:Int)).toNat]=K:=by
      exact sZbp25
     (have CC:=fun w=>qlhb d (qbo (rowF f 2)).length w hpos hfl');have hm6:K<6:=hm.1;clear hgp hia his hz hm
     go_enter func46,ntmps46
     go_wp2_with (first|(refine qat _ rfl ?_ _ rfl f g T0 ?_;· rfl)|(refine m02 ?_;clear T0 hB;intro w8 T8 hs8 hk8 hb8 T0 hB)|(refine m5j ?_;clear T0 T8 hB;intro T0 T8 hB;refine qat _ rfl ?_ _ rfl (upd f (12+K) (s+1)) g T0 ?_;· rfl)|(refine qay rfl _ _ rfl _ rfl (upd f (12+K) (s+1)) g rfl _ T8 rfl ?_;intro w8 T8 hs8 hk8 hb8;replace hB:=hb8 _ _ om hB)|(go_at_call 37;refine m01 ?_;clear T0 T8 hB;intro w' hb T0 T8 hB;replace dr:=T0.dr 2 om;rw[hg] at dr)|(go_at_call 55;go_fit (CF _);rintro e w' ⟨v,rfl,⟨a1,c1,rfl⟩,hI,hb⟩;refine m0t ?_;clear hb T0 T8 hB;intro hb T0 T8 hB;obtain⟨b1,cap1,e1,hc⟩:=hI.at hpos;have e2:a1=some ⟨b1,0,none⟩:=(by injection e1);subst e2;have hcell:=hc _ hq;rw[hKq] at hcell;clear hc;have cw:=T0.own (12+K) om;have fw:=T0.free (12+K))|(go_at_call 56;go_fit (CC _);rintro e w' ⟨rfl,rfl⟩))
     (refine m06 ?_;refine bodyPost_ret (qc6 rfl _ _ _ _ _ rfl T8) rfl ⟨?_,hB⟩)
     rw[HS.out];rfl
def wfF(f:Nat->Int):Prop:=∀i,i<18->(Lit.int .i64 (f i)).wf=true
theorem qs8(f:Nat->Int)(g:Nat->Bool)(hf:wfF f):prog.keyLits 4 26 (Value.agg (pc f g)).cells.toList=some [.int .i64 (f 0),.int .i64 (f 1),.int .i64 (f 2),.int .i64 (f 3),.int .i64 (f 4),.int .i64 (f 5),.int .i64 (f 6),.int .i64 (f 7),.int .i64 (f 8),.int .i64 (f 9),.int .i64 (f 10),.int .i64 (f 11),.int .i64 (f 12),.int .i64 (f 13),.int .i64 (f 14),.int .i64 (f 15),.int .i64 (f 16),.int .i64 (f 17),.bool (g 0),.bool (g 1),.bool (g 2)]:=by
 (have c47:prog.cellsOf 26=21:=by kernel_rfl);refine m5b ?_;intro c44 c43;(have c45:prog.cellsOf 24=3:=by kernel_rfl);(have c3:prog.cellsOf 3=1:=by kernel_rfl);(have c4:prog.cellsOf 4=1:=by kernel_rfl);have h0:=hf 0 om;have h1:=hf 1 om;have h2:=hf 2 om;have h3:=hf 3 om;have h4:=hf 4 om;have h5:=hf 5 om;have h6:=hf 6 om;have h7:=hf 7 om;have h8:=hf 8 om;have h9:=hf 9 om;have h10:=hf 10 om;have h11:=hf 11 om;have h12:=hf 12 om;have h13:=hf 13 om;have h14:=hf 14 om;have h15:=hf 15 om;have h16:=hf 16 om;have h17:=hf 17 om
 simp[Program.keyLits,Value.cells,pc,underlying26,underlying23,underlying22,underlying24,underlying3,underlying4,c47,c44,c43,c45,c3,c4,List.range,List.range.loop,h0,h1,h2,h3,h4,h5,h6,h7,h8,h9,h10,h11,h12,h13,h14,h15,h16,h17]
theorem q84(f:Nat->Int)(g:Nat->Bool)(hf:wfF f)(w:World):(Op.equalIn 10000 26 (.agg (pc f g)) (.agg (pc f g))).run prog w=.ok true w:=by
 obtain⟨r,h1,h2⟩:=run_equalIn_deep (P:=prog) 9996 4 26 kr w 4 4 (.agg (pc f g)) (.agg (pc f g)) _ _ kr kr (qs8 f g hf) (qs8 f g hf)
 rw[h2.2 rfl] at h1
 exact h1
structure qz1b where
 f:Nat->Int
 g:Nat->Bool
def qfu(g:Nat->Bool)(a:Int)(b:Bool):Int:=if inR a 3=true then(if g a.toNat=b then 8 else 0) else 7
def qg3(g:Nat->Bool)(a:Int)(b:Bool):Nat->Bool:=if qfu g a b=0 then updB g a.toNat b else g
def qd5(f:Nat->Int)(g:Nat->Bool)(a:Int)(b:Bool):Value:=.tuple #[plv f (qg3 g a b),I Z (qfu g a b)]
theorem qzd{b:Bool}(h:a<0\/3<=a):qd5 f g a b=.tuple #[plv f g,I Z 7]:=by
 (have e:qfu g a b=7:=by unfold qfu;rw[if_neg (by simp[qfe h])])
 unfold qd5 qg3;rw[e];rfl
theorem qlp{a:Nat}{b:Bool}(h:a<3)(h1:g a=b):qd5 f g a b=.tuple #[plv f g,I Z 8]:=by
 (have e:qfu g a b=8:=by unfold qfu;rw[if_pos (qed om om),Int.toNat_natCast,if_pos h1])
 unfold qd5 qg3;rw[e];rfl
theorem qox{a:Nat}{b:Bool}(h:a<3)(h1:g a≠b):qd5 f g a b=.tuple #[plv f (updB g a b),I Z 0]:=by
 (have e:qfu g a b=0:=by unfold qfu;rw[if_pos (qed om om),Int.toNat_natCast,if_neg h1])
 unfold qd5 qg3;rw[e,Int.toNat_natCast];rfl
theorem sZbp22(h:p:=by
 go_enter func51,ntmps51
 go_upto_region 1 with fail
 generalize((w.alloc (.cells (pc f g) 26)).alloc (.cells #[I Z 0,I Z 0,I Z 0,I Z 0,I Z 0,I Z 0,I Z 0,I Z 0,I Z 0,I Z 0,I Z 0,I Z 0,I Z 0,I Z 0,I Z 0,I Z 0,I Z 0,I Z 0,.bool false,.bool false,.bool false] 26))=w1 at *
 go_wp2_with (first|(refine qat _ rfl ?_ _ rfl f g T0 ?_;· rfl)|(refine m02 ?_;clear T0;intro w8 T8 hs8 hk8 hb8 T0 hB)|(go_at_call 57;go_fit (CA _);rintro e w' ⟨rfl,rfl⟩))
 (refine m06 ?_;refine bodyPost_ret (qbw rfl _ _ _ _ _ rfl T8) rfl ⟨?_,hB⟩)
 rw[HS.out];rfl):p:=h
theorem qsx(f:Nat->Int)(g:Nat->Bool)(a:Int)(b:Bool)(w:World):
  Calls prog 51 #[plv f g,I Z a,.bool b] w fun e w'=>e=.returned (qd5 f g a b)/\Below w.heap.size w w':=by
 have T0:PRow ((w.alloc (.cells (pc f g) 26)).alloc (.cells #[I Z 0,I Z 0,I Z 0,I Z 0,I Z 0,I Z 0,I Z 0,I Z 0,I Z 0,I Z 0,I Z 0,I Z 0,I Z 0,I Z 0,I Z 0,I Z 0,I Z 0,I Z 0,.bool false,.bool false,.bool false] 26)) w.heap.size (pc f g):=(PRow.new _ _).alloc _
 have T8:PRow ((w.alloc (.cells (pc f g) 26)).alloc (.cells #[I Z 0,I Z 0,I Z 0,I Z 0,I Z 0,I Z 0,I Z 0,I Z 0,I Z 0,I Z 0,I Z 0,I Z 0,I Z 0,I Z 0,I Z 0,I Z 0,I Z 0,I Z 0,.bool false,.bool false,.bool false] 26)) (w.heap.size+1) (pc (fun _=>0) (fun _=>false)):=by
  exact sZbp21
 refine m05 ?_;intro hB;(have CA:=fun w=>qe7 a w)
 unfold plv
 by_cases hin:0<=a/\a<3
 rotate_left
 ·have HS:Hid (qd5 f g a b=_):=qzd om
  rw[qfe om] at CA
  clear hin
  exact sZbp22
 obtain⟨n,rfl⟩:∃n:Nat,a=n:=⟨a.toNat,by omega⟩
 (have hn:n<3:=by omega)
 rw[qed hin.1 hin.2] at CA
 clear hin
 rcases(show n=0\/n=1\/n=2 by omega) with rfl|rfl|rfl
 ·have dr:((w.alloc (.cells (pc f g) 26)).alloc (.cells #[I Z 0,I Z 0,I Z 0,I Z 0,I Z 0,I Z 0,I Z 0,I Z 0,I Z 0,I Z 0,I Z 0,I Z 0,I Z 0,I Z 0,I Z 0,I Z 0,I Z 0,I Z 0,.bool false,.bool false,.bool false] 26)).cell? ⟨w.heap.size,18,none⟩=some (.bool (g 0)):=T0.dr 0 om;have fr:((w.alloc (.cells (pc f g) 26)).alloc (.cells #[I Z 0,I Z 0,I Z 0,I Z 0,I Z 0,I Z 0,I Z 0,I Z 0,I Z 0,I Z 0,I Z 0,I Z 0,I Z 0,I Z 0,I Z 0,I Z 0,I Z 0,I Z 0,.bool false,.bool false,.bool false] 26)).frozen? ⟨w.heap.size,18,none⟩=false:=T0.free 18
  by_cases he:g 0=b
  ·have HS:Hid (qd5 f g ((0:Nat):Int) b=_):=qlp hn he;(have hq:(g 0==b)=true:=by simpa using he);clear he
   exact sZbp22
  ·have HS:Hid (qd5 f g ((0:Nat):Int) b=_):=qox hn he;(have hq:(g 0==b)=false:=by simpa using he);clear he
   go_enter func51,ntmps51
   go_upto_region 1 with fail
   generalize((w.alloc (.cells (pc f g) 26)).alloc (.cells #[I Z 0,I Z 0,I Z 0,I Z 0,I Z 0,I Z 0,I Z 0,I Z 0,I Z 0,I Z 0,I Z 0,I Z 0,I Z 0,I Z 0,I Z 0,I Z 0,I Z 0,I Z 0,.bool false,.bool false,.bool false] 26))=w1 at *
   go_wp2_with (first|(refine qat _ rfl ?_ _ rfl f g T0 ?_;· rfl)|(refine m02 ?_;clear T0 hB;intro w8 T8 hs8 hk8 hb8 T0 hB)|(replace T0:=T0.updB 0 (b) om;replace T8:=T8.other (o:=18+0) (v:=.bool (b)) (show w.heap.size+1≠w.heap.size by omega);replace hB:=hB.setCell (p:=⟨w.heap.size,18+0,none⟩) (Nat.le_refl _) (.bool (b));refine qat _ rfl ?_ _ rfl f (updB g 0 (b)) T0 ?_;· rfl)|(refine qay rfl _ _ rfl _ rfl f (updB g 0 (b)) rfl _ T8 rfl ?_;intro w8 T8 hs8 hk8 hb8;replace hB:=hb8 _ _ om hB)|(go_at_call 57;go_fit (CA _);rintro e w' ⟨rfl,rfl⟩))
   (refine m06 ?_;refine bodyPost_ret (qbw rfl _ _ _ _ _ rfl T8) rfl ⟨?_,hB⟩)
   rw[HS.out];rfl
 ·have dr:((w.alloc (.cells (pc f g) 26)).alloc (.cells #[I Z 0,I Z 0,I Z 0,I Z 0,I Z 0,I Z 0,I Z 0,I Z 0,I Z 0,I Z 0,I Z 0,I Z 0,I Z 0,I Z 0,I Z 0,I Z 0,I Z 0,I Z 0,.bool false,.bool false,.bool false] 26)).cell? ⟨w.heap.size,19,none⟩=some (.bool (g 1)):=T0.dr 1 om;have fr:((w.alloc (.cells (pc f g) 26)).alloc (.cells #[I Z 0,I Z 0,I Z 0,I Z 0,I Z 0,I Z 0,I Z 0,I Z 0,I Z 0,I Z 0,I Z 0,I Z 0,I Z 0,I Z 0,I Z 0,I Z 0,I Z 0,I Z 0,.bool false,.bool false,.bool false] 26)).frozen? ⟨w.heap.size,19,none⟩=false:=T0.free 19
  by_cases he:g 1=b
  ·have HS:Hid (qd5 f g ((1:Nat):Int) b=_):=qlp hn he;(have hq:(g 1==b)=true:=by simpa using he);clear he
   exact sZbp22
  ·have HS:Hid (qd5 f g ((1:Nat):Int) b=_):=qox hn he;(have hq:(g 1==b)=false:=by simpa using he);clear he
   go_enter func51,ntmps51
   go_upto_region 1 with fail
   generalize((w.alloc (.cells (pc f g) 26)).alloc (.cells #[I Z 0,I Z 0,I Z 0,I Z 0,I Z 0,I Z 0,I Z 0,I Z 0,I Z 0,I Z 0,I Z 0,I Z 0,I Z 0,I Z 0,I Z 0,I Z 0,I Z 0,I Z 0,.bool false,.bool false,.bool false] 26))=w1 at *
   go_wp2_with (first|(refine qat _ rfl ?_ _ rfl f g T0 ?_;· rfl)|(refine m02 ?_;clear T0 hB;intro w8 T8 hs8 hk8 hb8 T0 hB)|(replace T0:=T0.updB 1 (b) om;replace T8:=T8.other (o:=18+1) (v:=.bool (b)) (show w.heap.size+1≠w.heap.size by omega);replace hB:=hB.setCell (p:=⟨w.heap.size,18+1,none⟩) (Nat.le_refl _) (.bool (b));refine qat _ rfl ?_ _ rfl f (updB g 1 (b)) T0 ?_;· rfl)|(refine qay rfl _ _ rfl _ rfl f (updB g 1 (b)) rfl _ T8 rfl ?_;intro w8 T8 hs8 hk8 hb8;replace hB:=hb8 _ _ om hB)|(go_at_call 57;go_fit (CA _);rintro e w' ⟨rfl,rfl⟩))
   (refine m06 ?_;refine bodyPost_ret (qbw rfl _ _ _ _ _ rfl T8) rfl ⟨?_,hB⟩)
   rw[HS.out];rfl
 ·have dr:((w.alloc (.cells (pc f g) 26)).alloc (.cells #[I Z 0,I Z 0,I Z 0,I Z 0,I Z 0,I Z 0,I Z 0,I Z 0,I Z 0,I Z 0,I Z 0,I Z 0,I Z 0,I Z 0,I Z 0,I Z 0,I Z 0,I Z 0,.bool false,.bool false,.bool false] 26)).cell? ⟨w.heap.size,20,none⟩=some (.bool (g 2)):=T0.dr 2 om;have fr:((w.alloc (.cells (pc f g) 26)).alloc (.cells #[I Z 0,I Z 0,I Z 0,I Z 0,I Z 0,I Z 0,I Z 0,I Z 0,I Z 0,I Z 0,I Z 0,I Z 0,I Z 0,I Z 0,I Z 0,I Z 0,I Z 0,I Z 0,.bool false,.bool false,.bool false] 26)).frozen? ⟨w.heap.size,20,none⟩=false:=T0.free 20
  by_cases he:g 2=b
  ·have HS:Hid (qd5 f g ((2:Nat):Int) b=_):=qlp hn he;(have hq:(g 2==b)=true:=by simpa using he);clear he
   exact sZbp22
  ·have HS:Hid (qd5 f g ((2:Nat):Int) b=_):=qox hn he;(have hq:(g 2==b)=false:=by simpa using he);clear he
   go_enter func51,ntmps51
   go_upto_region 1 with fail
   generalize((w.alloc (.cells (pc f g) 26)).alloc (.cells #[I Z 0,I Z 0,I Z 0,I Z 0,I Z 0,I Z 0,I Z 0,I Z 0,I Z 0,I Z 0,I Z 0,I Z 0,I Z 0,I Z 0,I Z 0,I Z 0,I Z 0,I Z 0,.bool false,.bool false,.bool false] 26))=w1 at *
   go_wp2_with (first|(refine qat _ rfl ?_ _ rfl f g T0 ?_;· rfl)|(refine m02 ?_;clear T0 hB;intro w8 T8 hs8 hk8 hb8 T0 hB)|(replace T0:=T0.updB 2 (b) om;replace T8:=T8.other (o:=18+2) (v:=.bool (b)) (show w.heap.size+1≠w.heap.size by omega);replace hB:=hB.setCell (p:=⟨w.heap.size,18+2,none⟩) (Nat.le_refl _) (.bool (b));refine qat _ rfl ?_ _ rfl f (updB g 2 (b)) T0 ?_;· rfl)|(refine qay rfl _ _ rfl _ rfl f (updB g 2 (b)) rfl _ T8 rfl ?_;intro w8 T8 hs8 hk8 hb8;replace hB:=hb8 _ _ om hB)|(go_at_call 57;go_fit (CA _);rintro e w' ⟨rfl,rfl⟩))
   (refine m06 ?_;refine bodyPost_ret (qbw rfl _ _ _ _ _ rfl T8) rfl ⟨?_,hB⟩)
   rw[HS.out];rfl
theorem q2r(f:Nat->Int)(g:Nat->Bool)(a:Int)(w:World):
  Calls prog 27 #[plv f g,I Z a] w fun e w'=>e=.returned (qd5 f g a true)/\Below w.heap.size w w':=by
 have T0:PRow ((w.alloc (.cells (pc f g) 26)).alloc (.cells #[I Z 0,I Z 0,I Z 0,I Z 0,I Z 0,I Z 0,I Z 0,I Z 0,I Z 0,I Z 0,I Z 0,I Z 0,I Z 0,I Z 0,I Z 0,I Z 0,I Z 0,I Z 0,.bool false,.bool false,.bool false] 26)) w.heap.size (pc f g):=(PRow.new _ _).alloc _
 have T8:PRow ((w.alloc (.cells (pc f g) 26)).alloc (.cells #[I Z 0,I Z 0,I Z 0,I Z 0,I Z 0,I Z 0,I Z 0,I Z 0,I Z 0,I Z 0,I Z 0,I Z 0,I Z 0,I Z 0,I Z 0,I Z 0,I Z 0,I Z 0,.bool false,.bool false,.bool false] 26)) (w.heap.size+1) (pc (fun _=>0) (fun _=>false)):=by
  exact sZbp21
 refine m05 ?_;intro hB;(have C:=fun w=>qsx f g a true w)
 unfold qd5 at *
 generalize qg3 g a true=G at *
 generalize qfu g a true=ee at *
 unfold plv at *
 go_enter func27,ntmps27
 go_wp2_with (first|(refine qat _ rfl ?_ _ rfl f g T0 ?_;· rfl)|(go_at_call 51;go_fit (C _);rintro e w' ⟨rfl,hb⟩;refine m0t ?_;clear hb T0 T8 hB;intro hb T0 T8 hB)|(refine qay rfl _ _ rfl _ rfl f G rfl _ T8 rfl ?_;intro w8 T8 hs8 hk8 hb8;replace hB:=hb8 _ _ om hB))
 (refine m06 ?_;refine bodyPost_ret (qbw rfl _ _ _ _ _ rfl T8) rfl ⟨rfl,hB⟩)
theorem qxg(f:Nat->Int)(g:Nat->Bool)(a:Int)(w:World):
  Calls prog 28 #[plv f g,I Z a] w fun e w'=>e=.returned (qd5 f g a false)/\Below w.heap.size w w':=by
 have T0:PRow ((w.alloc (.cells (pc f g) 26)).alloc (.cells #[I Z 0,I Z 0,I Z 0,I Z 0,I Z 0,I Z 0,I Z 0,I Z 0,I Z 0,I Z 0,I Z 0,I Z 0,I Z 0,I Z 0,I Z 0,I Z 0,I Z 0,I Z 0,.bool false,.bool false,.bool false] 26)) w.heap.size (pc f g):=(PRow.new _ _).alloc _
 have T8:PRow ((w.alloc (.cells (pc f g) 26)).alloc (.cells #[I Z 0,I Z 0,I Z 0,I Z 0,I Z 0,I Z 0,I Z 0,I Z 0,I Z 0,I Z 0,I Z 0,I Z 0,I Z 0,I Z 0,I Z 0,I Z 0,I Z 0,I Z 0,.bool false,.bool false,.bool false] 26)) (w.heap.size+1) (pc (fun _=>0) (fun _=>false)):=by
  exact sZbp21
 refine m05 ?_;intro hB;(have C:=fun w=>qsx f g a false w)
 unfold qd5 at *
 generalize qg3 g a false=G at *
 generalize qfu g a false=ee at *
 unfold plv at *
 go_enter func28,ntmps28
 go_wp2_with (first|(refine qat _ rfl ?_ _ rfl f g T0 ?_;· rfl)|(go_at_call 51;go_fit (C _);rintro e w' ⟨rfl,hb⟩;refine m0t ?_;clear hb T0 T8 hB;intro hb T0 T8 hB)|(refine qay rfl _ _ rfl _ rfl f G rfl _ T8 rfl ?_;intro w8 T8 hs8 hk8 hb8;replace hB:=hb8 _ _ om hB))
 (refine m06 ?_;refine bodyPost_ret (qbw rfl _ _ _ _ _ rfl T8) rfl ⟨rfl,hB⟩)
def qjx(f:Nat->Int)(s a k:Int):Int:=if qcv f=true then(if (inR a 3=true/\inR k 6=true)/\inR s 8=true/\f (6*a.toNat+k.toNat)=s+1 then 0 else 7) else 2
def que(f:Nat->Int)(s a k:Int):Nat->Int:=if qjx f s a k=0 then upd f (6*a.toNat+k.toNat) 0 else f
def qgh(f:Nat->Int)(g:Nat->Bool)(s a k:Int):Value:=.tuple #[plv (que f s a k) g,I Z (qjx f s a k)]
theorem q1s(h:qcv f=false):qjx f s a k=2:=by unfold qjx;rw[if_neg (by simp[h])]
theorem qk6(h:qcv f=true)(h1:¬((inR a 3=true/\inR k 6=true)/\inR s 8=true/\f (6*a.toNat+k.toNat)=s+1)):qjx f s a k=7:=by unfold qjx;rw[if_pos h,if_neg h1]
theorem qno{a k:Nat}(h:qcv f=true)(h1:a<3)(h2:k<6)(h3:inR s 8=true)(h4:f (6*a+k)=s+1):qjx f s a k=0:=by
 unfold qjx;rw[if_pos h,if_pos ⟨⟨qed om om,qed om om⟩,h3,by rw[Int.toNat_natCast,Int.toNat_natCast];exact h4⟩]
theorem qll(h:qjx f s a k=e)(he:e≠0):qgh f g s a k=.tuple #[plv f g,I Z e]:=by
 unfold qgh que;rw[if_neg om,h]
theorem qoz{a k:Nat}(h:qjx f s a k=0):qgh f g s a k=.tuple #[plv (upd f (6*a+k) 0) g,I Z 0]:=by
 unfold qgh que;rw[if_pos h,h,Int.toNat_natCast,Int.toNat_natCast]
theorem sZbp23(h:p:=by
 go_enter func49,ntmps49
 go_wp2_with (first|(refine qat _ rfl ?_ _ rfl f g T0 ?_;· rfl)|(refine m02 ?_;clear T0;intro w8 T8 hs8 hk8 hb8 T0 hB)|(go_at_call 32;refine m01 ?_;clear T0 T8 hB;intro w' hb T0 T8 hB)|(go_at_call 57;go_fit (CA _);rintro e w' ⟨rfl,rfl⟩)|(go_at_call 58;go_fit (CK _);rintro e w' ⟨rfl,rfl⟩)|(go_at_call 59;go_fit (CS _);rintro e w' ⟨rfl,rfl⟩))
 (refine m06 ?_;refine bodyPost_ret (qbw rfl _ _ _ _ _ rfl T8) rfl ⟨?_,hB⟩)
 rw[HS.out];rfl):p:=h
theorem sZbp27(h:p:=by
 show _=_
 rw[qoz (qno hgp hn hK his (by simpa using ho))]):p:=h
theorem quv(f:Nat->Int)(g:Nat->Bool)(s a k:Int)(w:World):
  Calls prog 49 #[plv f g,I Z s,I Z a,I Z k] w fun e w'=>e=.returned (qgh f g s a k)/\Below w.heap.size w w':=by
 have T0:PRow ((w.alloc (.cells (pc f g) 26)).alloc (.cells #[I Z 0,I Z 0,I Z 0,I Z 0,I Z 0,I Z 0,I Z 0,I Z 0,I Z 0,I Z 0,I Z 0,I Z 0,I Z 0,I Z 0,I Z 0,I Z 0,I Z 0,I Z 0,.bool false,.bool false,.bool false] 26)) w.heap.size (pc f g):=(PRow.new _ _).alloc _
 have T8:PRow ((w.alloc (.cells (pc f g) 26)).alloc (.cells #[I Z 0,I Z 0,I Z 0,I Z 0,I Z 0,I Z 0,I Z 0,I Z 0,I Z 0,I Z 0,I Z 0,I Z 0,I Z 0,I Z 0,I Z 0,I Z 0,I Z 0,I Z 0,.bool false,.bool false,.bool false] 26)) (w.heap.size+1) (pc (fun _=>0) (fun _=>false)):=by
  exact sZbp21
 refine m05 ?_;intro hB;(have CG:=fun w=>qni f g w);(have CA:=fun w=>qe7 a w);(have CK:=fun w=>qwv k w);(have CS:=fun w=>qlq s w)
 unfold plv at CG
 unfold plv
 cases hgp:qcv f with
 | false=>
  have HS:Hid (qgh f g s a k=_):=qll (q1s hgp) om
  rw[hgp] at CG
  exact sZbp23
 | true=>
  rw[hgp] at CG
  by_cases hin:(inR a 3=true/\inR k 6=true)/\inR s 8=true
  rotate_left
  ·have HS:Hid (qgh f g s a k=_):=qll (qk6 hgp (fun h=>hin ⟨h.1,h.2.1⟩)) om;clear hgp
   cases ha:inR a 3 with
   | false=>
    rw[ha] at CA
    exact sZbp23
   | true=>
    rw[ha] at CA
    cases hk:inR k 6 with
    | false=>
     rw[hk] at CK
     exact sZbp23
    | true=>
     rw[hk] at CK
     have hs:inR s 8=false:=by
      cases h:inR s 8 with
      | false=>rfl
      | true=>exact absurd ⟨⟨ha,hk⟩,h⟩ hin
     rw[hs] at CS
     exact sZbp23
  obtain⟨⟨hia,hik⟩,his⟩:=hin;have hba:0<=a/\a<3:=of_decide_eq_true hia;have hbk:0<=k/\k<6:=of_decide_eq_true hik;have hbs:0<=s/\s<8:=of_decide_eq_true his
  rw[hia] at CA
  rw[hik] at CK
  rw[his] at CS
  obtain⟨n,rfl⟩:∃n:Nat,a=n:=⟨a.toNat,by omega⟩
  obtain⟨K,rfl⟩:∃K:Nat,k=K:=⟨k.toNat,by omega⟩
  (have hn:n<3:=by omega);(have hK:K<6:=by omega);(have hK6:(K:Int)<6:=by omega);(have hK5:(K:Int)<=5:=by omega);(have hK0:(0:Int)<=(K:Int):=by omega);have hs0:0<=s:=hbs.1;(have hs7:s<=7:=by omega);(have hs1:wrap64 (s+1)=s+1:=by unfold wrap64;omega)
  rcases(show n=0\/n=1\/n=2 by omega) with rfl|rfl|rfl
  ·have cw:=T0.own (K) om;have fw:=T0.free (K)
   by_cases ho:f (K)=s+1
   rotate_left
   ·(have HS:Hid (qgh f g s ((0:Nat):Int) (K:Int)=_):=qll (qk6 hgp (fun h=>ho (by have:=h.2.2;rw[Int.toNat_natCast,Int.toNat_natCast] at this;simpa using this))) om);(have hne:(f (K) != s+1)=true:=by simpa using ho);clear ho hgp hia hik his
    go_enter func49,ntmps49
    go_wp2_with (first|(refine qat _ rfl ?_ _ rfl f g T0 ?_;· rfl)|(refine m02 ?_;clear T0 hB;intro w8 T8 hs8 hk8 hb8 T0 hB)|(go_at_call 32;refine m01 ?_;clear T0 T8 hB;intro w' hb T0 T8 hB;replace cw:=T0.own (K) om;replace fw:=T0.free (K))|(go_at_call 57;go_fit (CA _);rintro e w' ⟨rfl,rfl⟩)|(go_at_call 58;go_fit (CK _);rintro e w' ⟨rfl,rfl⟩)|(go_at_call 59;go_fit (CS _);rintro e w' ⟨rfl,rfl⟩))
    (refine m06 ?_;refine bodyPost_ret (qbw rfl _ _ _ _ _ rfl T8) rfl ⟨?_,hB⟩)
    rw[HS.out];rfl
   ·have HS:Hid (qgh f g s ((0:Nat):Int) (K:Int)=.tuple #[plv (upd f (K) 0) g,I Z 0]):=by
     show _=_
     rw[qoz (qno hgp hn hK his (by simpa using ho))];simp
    (have hne:(f (K) != s+1)=false:=by simpa using ho);clear ho hgp hia hik his
    go_enter func49,ntmps49
    go_wp2_with (first|(refine qat _ rfl ?_ _ rfl f g T0 ?_;· rfl)|(refine m02 ?_;clear T0 hB;intro w8 T8 hs8 hk8 hb8 T0 hB)|(replace T0:=T0.upd (K) (0) om;replace T8:=T8.other (o:=K) (v:=I Z (0)) (show w.heap.size+1≠w.heap.size by omega);replace hB:=hB.setCell (p:=⟨w.heap.size,K,none⟩) (Nat.le_refl _) (I Z (0));refine qat _ rfl ?_ _ rfl (upd f (K) (0)) g T0 ?_;· rfl)|(refine qay rfl _ _ rfl _ rfl (upd f (K) (0)) g rfl _ T8 rfl ?_;intro w8 T8 hs8 hk8 hb8;replace hB:=hb8 _ _ om hB)|(go_at_call 32;refine m01 ?_;clear T0 T8 hB;intro w' hb T0 T8 hB;replace cw:=T0.own (K) om;replace fw:=T0.free (K))|(go_at_call 57;go_fit (CA _);rintro e w' ⟨rfl,rfl⟩)|(go_at_call 58;go_fit (CK _);rintro e w' ⟨rfl,rfl⟩)|(go_at_call 59;go_fit (CS _);rintro e w' ⟨rfl,rfl⟩))
    (refine m06 ?_;refine bodyPost_ret (qbw rfl _ _ _ _ _ rfl T8) rfl ⟨?_,hB⟩)
    rw[HS.out];rfl
  ·have cw:=T0.own (6+K) om;have fw:=T0.free (6+K)
   by_cases ho:f (6+K)=s+1
   rotate_left
   ·(have HS:Hid (qgh f g s ((1:Nat):Int) (K:Int)=_):=qll (qk6 hgp (fun h=>ho (by have:=h.2.2;rw[Int.toNat_natCast,Int.toNat_natCast] at this;simpa using this))) om);(have hne:(f (6+K) != s+1)=true:=by simpa using ho);clear ho hgp hia hik his
    go_enter func49,ntmps49
    go_wp2_with (first|(refine qat _ rfl ?_ _ rfl f g T0 ?_;· rfl)|(refine m02 ?_;clear T0 hB;intro w8 T8 hs8 hk8 hb8 T0 hB)|(go_at_call 32;refine m01 ?_;clear T0 T8 hB;intro w' hb T0 T8 hB;replace cw:=T0.own (6+K) om;replace fw:=T0.free (6+K))|(go_at_call 57;go_fit (CA _);rintro e w' ⟨rfl,rfl⟩)|(go_at_call 58;go_fit (CK _);rintro e w' ⟨rfl,rfl⟩)|(go_at_call 59;go_fit (CS _);rintro e w' ⟨rfl,rfl⟩))
    (refine m06 ?_;refine bodyPost_ret (qbw rfl _ _ _ _ _ rfl T8) rfl ⟨?_,hB⟩)
    rw[HS.out];rfl
   ·have HS:Hid (qgh f g s ((1:Nat):Int) (K:Int)=.tuple #[plv (upd f (6+K) 0) g,I Z 0]):=by
     exact sZbp27
    (have hne:(f (6+K) != s+1)=false:=by simpa using ho);clear ho hgp hia hik his
    go_enter func49,ntmps49
    go_wp2_with (first|(refine qat _ rfl ?_ _ rfl f g T0 ?_;· rfl)|(refine m02 ?_;clear T0 hB;intro w8 T8 hs8 hk8 hb8 T0 hB)|(replace T0:=T0.upd (6+K) (0) om;replace T8:=T8.other (o:=6+K) (v:=I Z (0)) (show w.heap.size+1≠w.heap.size by omega);replace hB:=hB.setCell (p:=⟨w.heap.size,6+K,none⟩) (Nat.le_refl _) (I Z (0));refine qat _ rfl ?_ _ rfl (upd f (6+K) (0)) g T0 ?_;· rfl)|(refine qay rfl _ _ rfl _ rfl (upd f (6+K) (0)) g rfl _ T8 rfl ?_;intro w8 T8 hs8 hk8 hb8;replace hB:=hb8 _ _ om hB)|(go_at_call 32;refine m01 ?_;clear T0 T8 hB;intro w' hb T0 T8 hB;replace cw:=T0.own (6+K) om;replace fw:=T0.free (6+K))|(go_at_call 57;go_fit (CA _);rintro e w' ⟨rfl,rfl⟩)|(go_at_call 58;go_fit (CK _);rintro e w' ⟨rfl,rfl⟩)|(go_at_call 59;go_fit (CS _);rintro e w' ⟨rfl,rfl⟩))
    (refine m06 ?_;refine bodyPost_ret (qbw rfl _ _ _ _ _ rfl T8) rfl ⟨?_,hB⟩)
    rw[HS.out];rfl
  ·have cw:=T0.own (12+K) om;have fw:=T0.free (12+K)
   by_cases ho:f (12+K)=s+1
   rotate_left
   ·(have HS:Hid (qgh f g s ((2:Nat):Int) (K:Int)=_):=qll (qk6 hgp (fun h=>ho (by have:=h.2.2;rw[Int.toNat_natCast,Int.toNat_natCast] at this;simpa using this))) om);(have hne:(f (12+K) != s+1)=true:=by simpa using ho);clear ho hgp hia hik his
    go_enter func49,ntmps49
    go_wp2_with (first|(refine qat _ rfl ?_ _ rfl f g T0 ?_;· rfl)|(refine m02 ?_;clear T0 hB;intro w8 T8 hs8 hk8 hb8 T0 hB)|(go_at_call 32;refine m01 ?_;clear T0 T8 hB;intro w' hb T0 T8 hB;replace cw:=T0.own (12+K) om;replace fw:=T0.free (12+K))|(go_at_call 57;go_fit (CA _);rintro e w' ⟨rfl,rfl⟩)|(go_at_call 58;go_fit (CK _);rintro e w' ⟨rfl,rfl⟩)|(go_at_call 59;go_fit (CS _);rintro e w' ⟨rfl,rfl⟩))
    (refine m06 ?_;refine bodyPost_ret (qbw rfl _ _ _ _ _ rfl T8) rfl ⟨?_,hB⟩)
    rw[HS.out];rfl
   ·have HS:Hid (qgh f g s ((2:Nat):Int) (K:Int)=.tuple #[plv (upd f (12+K) 0) g,I Z 0]):=by
     exact sZbp27
    (have hne:(f (12+K) != s+1)=false:=by simpa using ho);clear ho hgp hia hik his
    go_enter func49,ntmps49
    go_wp2_with (first|(refine qat _ rfl ?_ _ rfl f g T0 ?_;· rfl)|(refine m02 ?_;clear T0 hB;intro w8 T8 hs8 hk8 hb8 T0 hB)|(replace T0:=T0.upd (12+K) (0) om;replace T8:=T8.other (o:=12+K) (v:=I Z (0)) (show w.heap.size+1≠w.heap.size by omega);replace hB:=hB.setCell (p:=⟨w.heap.size,12+K,none⟩) (Nat.le_refl _) (I Z (0));refine qat _ rfl ?_ _ rfl (upd f (12+K) (0)) g T0 ?_;· rfl)|(refine qay rfl _ _ rfl _ rfl (upd f (12+K) (0)) g rfl _ T8 rfl ?_;intro w8 T8 hs8 hk8 hb8;replace hB:=hb8 _ _ om hB)|(go_at_call 32;refine m01 ?_;clear T0 T8 hB;intro w' hb T0 T8 hB;replace cw:=T0.own (12+K) om;replace fw:=T0.free (12+K))|(go_at_call 57;go_fit (CA _);rintro e w' ⟨rfl,rfl⟩)|(go_at_call 58;go_fit (CK _);rintro e w' ⟨rfl,rfl⟩)|(go_at_call 59;go_fit (CS _);rintro e w' ⟨rfl,rfl⟩))
    (refine m06 ?_;refine bodyPost_ret (qbw rfl _ _ _ _ _ rfl T8) rfl ⟨?_,hB⟩)
    rw[HS.out];rfl
theorem qea{B:Nat}{w0:World}(h:Below B w0 w):Below B w0 w.drew:=⟨h.os,h.tape,h.output,h.size,h.block⟩
theorem qtj(h:qdh f g s a=0):qcv f=true/\(0<=a/\a<3)/\(0<=s/\s<8)/\g a.toNat=false/\0<(qbo (rowF f a.toNat)).length:=by
 unfold qdh at h
 by_cases h1:qcv f=true
 ·rw[if_pos h1] at h
  by_cases h2:inR a 3=true/\inR s 8=true
  ·rw[if_pos h2] at h
   by_cases h3:g a.toNat=true
   ·rw[if_pos h3] at h;omega
   ·rw[if_neg h3] at h
    by_cases h4:(qbo (rowF f a.toNat)).length=0
    ·rw[if_pos h4] at h;omega
    ·exact⟨h1,of_decide_eq_true h2.1,of_decide_eq_true h2.2,by simpa using h3,by omega⟩
  ·rw[if_neg h2] at h;omega
 ·rw[if_neg h1] at h;omega
end Go.Proofs.Ytbboabfmoahipaa
