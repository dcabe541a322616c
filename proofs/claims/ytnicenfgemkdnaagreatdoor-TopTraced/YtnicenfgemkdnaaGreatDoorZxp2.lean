/-
  Of what a law stands on.
-/
import Derived.DeepKeys
import Derived.SizedLaws
import Derived.Deep.RegionHeld3
import Derived.Test.YtnicenfgemkdnaaGreatDoorZxp1
set_option linter.unusedSimpArgs false
set_option linter.unusedVariables false
namespace Go.Proofs.YtnicenfgemkdnaaGreatDoor
open _root_.Go.Proofs.Tryz
set_option maxHeartbeats 16000000
set_option maxRecDepth 100000
open Go.ChangeShapes Go.WideShapes Go.ChangeAt Go.RowKit
theorem PRow.row0{w:World}{b:Nat}{f:Nat->Int}{g:Nat->Bool}(h:PRow w b (pc f g)):w.rangeAt b 0 [.int .i64 (rowF f 0 0),.int .i64 (rowF f 0 1),.int .i64 (rowF f 0 2),.int .i64 (rowF f 0 3),.int .i64 (rowF f 0 4),.int .i64 (rowF f 0 5)]:=by
 intro j v hv
 match j,hv with
 | 0,hv=>obtain rfl:=Option.some.inj hv;exact h.own 0 om
 | 1,hv=>obtain rfl:=Option.some.inj hv;exact h.own 1 om
 | 2,hv=>obtain rfl:=Option.some.inj hv;exact h.own 2 om
 | 3,hv=>obtain rfl:=Option.some.inj hv;exact h.own 3 om
 | 4,hv=>obtain rfl:=Option.some.inj hv;exact h.own 4 om
 | 5,hv=>obtain rfl:=Option.some.inj hv;exact h.own 5 om
theorem PRow.row1{w:World}{b:Nat}{f:Nat->Int}{g:Nat->Bool}(h:PRow w b (pc f g)):w.rangeAt b 6 [.int .i64 (rowF f 1 0),.int .i64 (rowF f 1 1),.int .i64 (rowF f 1 2),.int .i64 (rowF f 1 3),.int .i64 (rowF f 1 4),.int .i64 (rowF f 1 5)]:=by
 intro j v hv
 match j,hv with
 | 0,hv=>obtain rfl:=Option.some.inj hv;exact h.own 6 om
 | 1,hv=>obtain rfl:=Option.some.inj hv;exact h.own 7 om
 | 2,hv=>obtain rfl:=Option.some.inj hv;exact h.own 8 om
 | 3,hv=>obtain rfl:=Option.some.inj hv;exact h.own 9 om
 | 4,hv=>obtain rfl:=Option.some.inj hv;exact h.own 10 om
 | 5,hv=>obtain rfl:=Option.some.inj hv;exact h.own 11 om
theorem PRow.row2{w:World}{b:Nat}{f:Nat->Int}{g:Nat->Bool}(h:PRow w b (pc f g)):w.rangeAt b 12 [.int .i64 (rowF f 2 0),.int .i64 (rowF f 2 1),.int .i64 (rowF f 2 2),.int .i64 (rowF f 2 3),.int .i64 (rowF f 2 4),.int .i64 (rowF f 2 5)]:=by
 intro j v hv
 match j,hv with
 | 0,hv=>obtain rfl:=Option.some.inj hv;exact h.own 12 om
 | 1,hv=>obtain rfl:=Option.some.inj hv;exact h.own 13 om
 | 2,hv=>obtain rfl:=Option.some.inj hv;exact h.own 14 om
 | 3,hv=>obtain rfl:=Option.some.inj hv;exact h.own 15 om
 | 4,hv=>obtain rfl:=Option.some.inj hv;exact h.own 16 om
 | 5,hv=>obtain rfl:=Option.some.inj hv;exact h.own 17 om
def qdh(f:Nat->Int)(g:Nat->Bool)(s a:Int):Int:=if qcv f=true then(if inR a 3=true/\inR s 8=true then(if g a.toNat=true then 9 else if (qbo (rowF f a.toNat)).length=0 then 10 else 0) else 7) else 2
def qft(f:Nat->Int)(g:Nat->Bool)(s a d:Int):Nat:=if qdh f g s a=0 then qep (qbo (rowF f a.toNat)) d else 0
def qi1(f:Nat->Int)(g:Nat->Bool)(s a d:Int):Nat->Int:=if qdh f g s a=0 then upd f (6*a.toNat+qft f g s a d) (s+1) else f
theorem q8a(f:Nat->Int)(g:Nat->Bool)(s a d e:Int)(h:qdh f g s a=e)(he:e≠0):qft f g s a d=0/\qi1 f g s a d=f:=by
 unfold qi1 qft;rw[if_neg om,if_neg om];exact⟨rfl,rfl⟩
theorem q5w(f:Nat->Int)(g:Nat->Bool)(s d:Int)(a:Nat)(h:qdh f g s a=0):qft f g s a d=qep (qbo (rowF f a)) d/\qi1 f g s a d=upd f (6*a+qep (qbo (rowF f a)) d) (s+1):=by
 have e:qft f g s a d=qep (qbo (rowF f a)) d:=by unfold qft;rw[if_pos h,Int.toNat_natCast]
 refine⟨e,?_⟩
 unfold qi1;rw[if_pos h,e,Int.toNat_natCast]
theorem q1y{f:Nat->Int}{g:Nat->Bool}{s a:Int}(h:qcv f=false):qdh f g s a=2:=by unfold qdh;rw[if_neg (by simp[h])]
theorem qzh{f:Nat->Int}{g:Nat->Bool}{s a:Int}(h:qcv f=true)(h1:¬(inR a 3=true/\inR s 8=true)):qdh f g s a=7:=by unfold qdh;rw[if_pos h,if_neg h1]
theorem qqf{f:Nat->Int}{g:Nat->Bool}{s:Int}{a:Nat}(h:qcv f=true)(h1:a<3)(h2:inR s 8=true)(h3:g a=true):qdh f g s a=9:=by
 unfold qdh;rw[if_pos h,if_pos ⟨qed om om,h2⟩,Int.toNat_natCast,if_pos h3]
theorem qnz{f:Nat->Int}{g:Nat->Bool}{s:Int}{a:Nat}(h:qcv f=true)(h1:a<3)(h2:inR s 8=true)(h3:g a=false)(h4:(qbo (rowF f a)).length=0):qdh f g s a=10:=by
 unfold qdh;rw[if_pos h,if_pos ⟨qed om om,h2⟩,Int.toNat_natCast,if_neg (by simp[h3]),if_pos h4]
theorem qqu{f:Nat->Int}{g:Nat->Bool}{s:Int}{a:Nat}(h:qcv f=true)(h1:a<3)(h2:inR s 8=true)(h3:g a=false)(h4:(qbo (rowF f a)).length≠0):qdh f g s a=0:=by
 unfold qdh;rw[if_pos h,if_pos ⟨qed om om,h2⟩,Int.toNat_natCast,if_neg (by simp[h3]),if_neg h4]
def qet(f:Nat->Int)(g:Nat->Bool)(s a d:Int):Value:=.tuple #[plv (qi1 f g s a d) g,.int .i64 ((qft f g s a d:Nat):Int),.int .i64 (qdh f g s a)]
theorem qg4{f:Nat->Int}{g:Nat->Bool}{s a d e:Int}(h:qdh f g s a=e)(he:e≠0):qet f g s a d=.tuple #[plv f g,.int .i64 0,.int .i64 e]:=by
 obtain⟨h1,h2⟩:=q8a f g s a d e h he
 unfold qet;rw[h1,h2,h];rfl
theorem qo3{f:Nat->Int}{g:Nat->Bool}{s d:Int}{a:Nat}(h:qdh f g s a=0):qet f g s a d=.tuple #[plv (upd f (6*a+qep (qbo (rowF f a)) d) (s+1)) g,.int .i64 ((qep (qbo (rowF f a)) d:Nat):Int),.int .i64 0]:=by
 obtain⟨h1,h2⟩:=q5w f g s d a h
 unfold qet;rw[h1,h2,h]
theorem sZxp21{p:Prop}(h:p:=by
 have h8:PRow ((w.alloc (.cells (pc f g) 35)).alloc (.cells #[.int .i64 0,.int .i64 0,.int .i64 0,.int .i64 0,.int .i64 0,.int .i64 0,.int .i64 0,.int .i64 0,.int .i64 0,.int .i64 0,.int .i64 0,.int .i64 0,.int .i64 0,.int .i64 0,.int .i64 0,.int .i64 0,.int .i64 0,.int .i64 0,.bool false,.bool false,.bool false] 35)) (w.alloc (.cells (pc f g) 35)).heap.size #[.int .i64 0,.int .i64 0,.int .i64 0,.int .i64 0,.int .i64 0,.int .i64 0,.int .i64 0,.int .i64 0,.int .i64 0,.int .i64 0,.int .i64 0,.int .i64 0,.int .i64 0,.int .i64 0,.int .i64 0,.int .i64 0,.int .i64 0,.int .i64 0,.bool false,.bool false,.bool false]:=PRow.new _ _
 have e8:(w.alloc (.cells (pc f g) 35)).heap.size=w.heap.size+1:=by simp
 rw[e8] at h8
 exact h8):p:=h
theorem qtm(f:Nat->Int)(g:Nat->Bool)(s a d:Int)(hd:(Lit.int .i64 d).wf=true)(w:World):
  Calls prog 188 #[plv f g,.int .i64 s,.int .i64 a,.int .i64 d] w fun e w'=>e=.returned (qet f g s a d)/\Below w.heap.size w w':=by
 have T0:PRow ((w.alloc (.cells (pc f g) 35)).alloc (.cells #[.int .i64 0,.int .i64 0,.int .i64 0,.int .i64 0,.int .i64 0,.int .i64 0,.int .i64 0,.int .i64 0,.int .i64 0,.int .i64 0,.int .i64 0,.int .i64 0,.int .i64 0,.int .i64 0,.int .i64 0,.int .i64 0,.int .i64 0,.int .i64 0,.bool false,.bool false,.bool false] 35)) w.heap.size (pc f g):=(PRow.new _ _).alloc _
 have T8:PRow ((w.alloc (.cells (pc f g) 35)).alloc (.cells #[.int .i64 0,.int .i64 0,.int .i64 0,.int .i64 0,.int .i64 0,.int .i64 0,.int .i64 0,.int .i64 0,.int .i64 0,.int .i64 0,.int .i64 0,.int .i64 0,.int .i64 0,.int .i64 0,.int .i64 0,.int .i64 0,.int .i64 0,.int .i64 0,.bool false,.bool false,.bool false] 35)) (w.heap.size+1) (pc (fun _=>0) (fun _=>false)):=by
  exact sZxp21
 have hB:Below w.heap.size w ((w.alloc (.cells (pc f g) 35)).alloc (.cells #[.int .i64 0,.int .i64 0,.int .i64 0,.int .i64 0,.int .i64 0,.int .i64 0,.int .i64 0,.int .i64 0,.int .i64 0,.int .i64 0,.int .i64 0,.int .i64 0,.int .i64 0,.int .i64 0,.int .i64 0,.int .i64 0,.int .i64 0,.int .i64 0,.bool false,.bool false,.bool false] 35)):=((Below.refl _ _).alloc (Nat.le_refl _) _).alloc zm _
 have CG:=fun w=>qni f g w
 have CA:=fun w=>qe7 a w
 have CS:=fun w=>qlq s w
 unfold plv at CG
 unfold plv
 cases hgp:qcv f with
 | false=>
  have HS:Hid (qet f g s a d=_):=qg4 (q1y hgp) om
  rw[hgp] at CG
  go_enter func188,ntmps188
  go_wp2_with (first|(refine qat _ rfl ?_ _ rfl f g T0 ?_;· rfl)|(refine qay rfl _ _ rfl _ rfl f g rfl _ T8 rfl ?_;intro w8 T8 hs8 hk8 hb8;replace T0:=hk8 _ _ om T0;replace hB:=hb8 _ _ om hB)|(go_at_call 52;go_fit (CG _);rintro e w' ⟨rfl,hb⟩;(try replace hb:=qa1 hb);replace T0:=T0.below hb;replace T8:=T8.below hb;replace hB:=hB.trans (hb.mono hB.size)))
  ((try simp only[Exit.inBlock,Exit.then]);refine bodyPost_ret (qc6 rfl _ _ _ _ _ rfl T8) rfl ⟨?_,hB⟩)
  rw[HS.out];rfl
 | true=>
  rw[hgp] at CG
  by_cases hin:inR a 3=true/\inR s 8=true
  rotate_left
  ·have HS:Hid (qet f g s a d=_):=qg4 (qzh hgp hin) om
   clear hgp
   cases ha:inR a 3 with
   | false=>
    rw[ha] at CA
    go_enter func188,ntmps188
    go_wp2_with (first|(refine qat _ rfl ?_ _ rfl f g T0 ?_;· rfl)|(refine qay rfl _ _ rfl _ rfl f g rfl _ T8 rfl ?_;intro w8 T8 hs8 hk8 hb8;replace T0:=hk8 _ _ om T0;replace hB:=hb8 _ _ om hB)|(go_at_call 52;go_fit (CG _);rintro e w' ⟨rfl,hb⟩;(try replace hb:=qa1 hb);replace T0:=T0.below hb;replace T8:=T8.below hb;replace hB:=hB.trans (hb.mono hB.size))|(go_at_call 76;go_fit (CA _);rintro e w' ⟨rfl,rfl⟩))
    ((try simp only[Exit.inBlock,Exit.then]);refine bodyPost_ret (qc6 rfl _ _ _ _ _ rfl T8) rfl ⟨?_,hB⟩)
    rw[HS.out];rfl
   | true=>
    have hs:inR s 8=false:=by
     cases h:inR s 8 with
     | false=>rfl
     | true=>exact absurd ⟨ha,h⟩ hin
    rw[ha] at CA
    rw[hs] at CS
    go_enter func188,ntmps188
    go_wp2_with (first|(refine qat _ rfl ?_ _ rfl f g T0 ?_;· rfl)|(refine qay rfl _ _ rfl _ rfl f g rfl _ T8 rfl ?_;intro w8 T8 hs8 hk8 hb8;replace T0:=hk8 _ _ om T0;replace hB:=hb8 _ _ om hB)|(go_at_call 52;go_fit (CG _);rintro e w' ⟨rfl,hb⟩;(try replace hb:=qa1 hb);replace T0:=T0.below hb;replace T8:=T8.below hb;replace hB:=hB.trans (hb.mono hB.size))|(go_at_call 76;go_fit (CA _);rintro e w' ⟨rfl,rfl⟩)|(go_at_call 201;go_fit (CS _);rintro e w' ⟨rfl,rfl⟩))
    ((try simp only[Exit.inBlock,Exit.then]);refine bodyPost_ret (qc6 rfl _ _ _ _ _ rfl T8) rfl ⟨?_,hB⟩)
    rw[HS.out];rfl
  obtain⟨hia,his⟩:=hin
  have hba:0<=a/\a<3:=of_decide_eq_true hia
  have hbs:0<=s/\s<8:=of_decide_eq_true his
  rw[hia] at CA
  rw[his] at CS
  obtain⟨n,rfl⟩:∃n:Nat,a=n:=⟨a.toNat,by omega⟩
  have hn:n<3:=by omega
  have hs0:0<=s:=hbs.1
  have hs7:s<=7:=by omega
  rcases(show n=0\/n=1\/n=2 by omega) with rfl|rfl|rfl
  ·have CF:=fun w=>qjc (rowF f 0) w
   skip
   have dr:=T0.dr 0 om
   have hfl:=qks (rowF f 0) 6
   have hfl':(qbo (rowF f 0)).length<=6:=hfl
   clear hfl
   cases hg:g 0 with
   | true=>
    have HS:Hid (qet f g s ((0:Nat):Int) d=_):=qg4 (qqf hgp hn his hg) om
    rw[hg] at dr
    clear hgp hia his
    go_enter func188,ntmps188
    go_wp2_with (first|(refine qat _ rfl ?_ _ rfl f g T0 ?_;· rfl)|(refine qay rfl _ _ rfl _ rfl f g rfl _ T8 rfl ?_;intro w8 T8 hs8 hk8 hb8;replace T0:=hk8 _ _ om T0;replace hB:=hb8 _ _ om hB)|(go_at_call 52;go_fit (CG _);rintro e w' ⟨rfl,hb⟩;(try replace hb:=qa1 hb);replace T0:=T0.below hb;replace T8:=T8.below hb;replace hB:=hB.trans (hb.mono hB.size);replace dr:=T0.dr 0 om;rw[hg] at dr)|(go_at_call 76;go_fit (CA _);rintro e w' ⟨rfl,rfl⟩)|(go_at_call 201;go_fit (CS _);rintro e w' ⟨rfl,rfl⟩))
    ((try simp only[Exit.inBlock,Exit.then]);refine bodyPost_ret (qc6 rfl _ _ _ _ _ rfl T8) rfl ⟨?_,hB⟩)
    rw[HS.out];rfl
   | false=>
    rw[hg] at dr
    by_cases hz:(qbo (rowF f 0)).length=0
    ·have HS:Hid (qet f g s ((0:Nat):Int) d=_):=qg4 (qnz hgp hn his hg hz) om
     have hz':((qbo (rowF f 0)).length:Int)=0:=by omega
     clear hgp hia his hz
     go_enter func188,ntmps188
     go_wp2_with (first|(refine qat _ rfl ?_ _ rfl f g T0 ?_;· rfl)|(refine qay rfl _ _ rfl _ rfl f g rfl _ T8 rfl ?_;intro w8 T8 hs8 hk8 hb8;replace T0:=hk8 _ _ om T0;replace hB:=hb8 _ _ om hB)|(refine wpList_load_mid rfl 31 _ rfl _ 0 rfl [.int .i64 (rowF f 0 0),.int .i64 (rowF f 0 1),.int .i64 (rowF f 0 2),.int .i64 (rowF f 0 3),.int .i64 (rowF f 0 4),.int .i64 (rowF f 0 5)] _ (T0.row0) underlying31 rfl kr ?_)|(go_at_call 52;go_fit (CG _);rintro e w' ⟨rfl,hb⟩;(try replace hb:=qa1 hb);replace T0:=T0.below hb;replace T8:=T8.below hb;replace hB:=hB.trans (hb.mono hB.size);replace dr:=T0.dr 0 om;rw[hg] at dr)|(go_at_call 76;go_fit (CA _);rintro e w' ⟨rfl,rfl⟩)|(go_at_call 201;go_fit (CS _);rintro e w' ⟨rfl,rfl⟩)|(go_at_call 77;go_fit (CF _);rintro e w' ⟨v,rfl,⟨a1,c1,rfl⟩,hI,hb⟩;(try replace hb:=qa1 hb);replace T0:=T0.below hb;replace T8:=T8.below hb;replace hB:=hB.trans (hb.mono hB.size)))
     ((try simp only[Exit.inBlock,Exit.then]);refine bodyPost_ret (qc6 rfl _ _ _ _ _ rfl T8) rfl ⟨?_,hB⟩)
     rw[HS.out];rfl
    ·have HS:Hid (qet f g s ((0:Nat):Int) d=_):=qo3 (qqu hgp hn his hg hz)
     have hpos:0<(qbo (rowF f 0)).length:=by omega
     have hz':(((qbo (rowF f 0)).length:Int)==0)=false:=by simp;intro h;rw[h] at hpos;simp at hpos
     obtain⟨K,hK⟩:∃K,qep (qbo (rowF f 0)) d=K:=⟨_,rfl⟩
     have hm:=qj8 _ _ (qiu (qbo (rowF f 0)) d hpos)
     rw[hK] at hm
     have hK6:(K:Int)<6:=by omega
     have hK0:(0:Int)<=(K:Int):=by omega
     have hs1:wrap64 (s+1)=s+1:=by unfold wrap64;omega
     replace HS:Hid (qet f g s ((0:Nat):Int) d=.tuple #[plv (upd f (K) (s+1)) g,.int .i64 (K:Int),.int .i64 0]):=by
      show _=_
      rw[HS.out,hK];simp
     have hm6:K<6:=hm.1
     clear hgp hia his hz hm
     go_enter func188,ntmps188
     go_wp2_with (first|(refine qat _ rfl ?_ _ rfl f g T0 ?_;· rfl)|(refine qay rfl _ _ rfl _ rfl f g rfl _ T8 rfl ?_;intro w8 T8 hs8 hk8 hb8;replace T0:=hk8 _ _ om T0;replace hB:=hb8 _ _ om hB)|(replace T0:=T0.upd (K) (s+1) om;replace T8:=T8.other (o:=K) (v:=.int .i64 (s+1)) (show w.heap.size+1≠w.heap.size by omega);replace hB:=hB.setCell (p:=⟨w.heap.size,K,none⟩) (Nat.le_refl _) (.int .i64 (s+1));refine qat _ rfl ?_ _ rfl (upd f (K) (s+1)) g T0 ?_;· rfl)|(refine qay rfl _ _ rfl _ rfl (upd f (K) (s+1)) g rfl _ T8 rfl ?_;intro w8 T8 hs8 hk8 hb8;replace hB:=hb8 _ _ om hB)|(refine wpList_load_mid rfl 31 _ rfl _ 0 rfl [.int .i64 (rowF f 0 0),.int .i64 (rowF f 0 1),.int .i64 (rowF f 0 2),.int .i64 (rowF f 0 3),.int .i64 (rowF f 0 4),.int .i64 (rowF f 0 5)] _ (T0.row0) underlying31 rfl kr ?_)|(go_at_call 52;go_fit (CG _);rintro e w' ⟨rfl,hb⟩;(try replace hb:=qa1 hb);replace T0:=T0.below hb;replace T8:=T8.below hb;replace hB:=hB.trans (hb.mono hB.size);replace dr:=T0.dr 0 om;rw[hg] at dr)|(go_at_call 76;go_fit (CA _);rintro e w' ⟨rfl,rfl⟩)|(go_at_call 201;go_fit (CS _);rintro e w' ⟨rfl,rfl⟩)|(go_at_call 77;go_fit (CF _);rintro e w' ⟨v,rfl,⟨a1,c1,rfl⟩,hI,hb⟩;(try replace hb:=qa1 hb);replace T0:=T0.below hb;replace T8:=T8.below hb;replace hB:=hB.trans (hb.mono hB.size);have cw:=T0.own (K) om;have fw:=T0.free (K))|(go_at_call 206;refine(qmf _ _ _ d _ hI hpos hd om).mono ?_;rintro e w' ⟨rfl,rfl⟩;rw[hK]))
     ((try simp only[Exit.inBlock,Exit.then]);refine bodyPost_ret (qc6 rfl _ _ _ _ _ rfl T8) rfl ⟨?_,hB⟩)
     rw[HS.out];rfl
  ·have CF:=fun w=>qjc (rowF f 1) w
   skip
   have dr:=T0.dr 1 om
   have hfl:=qks (rowF f 1) 6
   have hfl':(qbo (rowF f 1)).length<=6:=hfl
   clear hfl
   cases hg:g 1 with
   | true=>
    have HS:Hid (qet f g s ((1:Nat):Int) d=_):=qg4 (qqf hgp hn his hg) om
    rw[hg] at dr
    clear hgp hia his
    go_enter func188,ntmps188
    go_wp2_with (first|(refine qat _ rfl ?_ _ rfl f g T0 ?_;· rfl)|(refine qay rfl _ _ rfl _ rfl f g rfl _ T8 rfl ?_;intro w8 T8 hs8 hk8 hb8;replace T0:=hk8 _ _ om T0;replace hB:=hb8 _ _ om hB)|(go_at_call 52;go_fit (CG _);rintro e w' ⟨rfl,hb⟩;(try replace hb:=qa1 hb);replace T0:=T0.below hb;replace T8:=T8.below hb;replace hB:=hB.trans (hb.mono hB.size);replace dr:=T0.dr 1 om;rw[hg] at dr)|(go_at_call 76;go_fit (CA _);rintro e w' ⟨rfl,rfl⟩)|(go_at_call 201;go_fit (CS _);rintro e w' ⟨rfl,rfl⟩))
    ((try simp only[Exit.inBlock,Exit.then]);refine bodyPost_ret (qc6 rfl _ _ _ _ _ rfl T8) rfl ⟨?_,hB⟩)
    rw[HS.out];rfl
   | false=>
    rw[hg] at dr
    by_cases hz:(qbo (rowF f 1)).length=0
    ·have HS:Hid (qet f g s ((1:Nat):Int) d=_):=qg4 (qnz hgp hn his hg hz) om
     have hz':((qbo (rowF f 1)).length:Int)=0:=by omega
     clear hgp hia his hz
     go_enter func188,ntmps188
     go_wp2_with (first|(refine qat _ rfl ?_ _ rfl f g T0 ?_;· rfl)|(refine qay rfl _ _ rfl _ rfl f g rfl _ T8 rfl ?_;intro w8 T8 hs8 hk8 hb8;replace T0:=hk8 _ _ om T0;replace hB:=hb8 _ _ om hB)|(refine wpList_load_mid rfl 31 _ rfl _ 6 rfl [.int .i64 (rowF f 1 0),.int .i64 (rowF f 1 1),.int .i64 (rowF f 1 2),.int .i64 (rowF f 1 3),.int .i64 (rowF f 1 4),.int .i64 (rowF f 1 5)] _ (T0.row1) underlying31 rfl kr ?_)|(go_at_call 52;go_fit (CG _);rintro e w' ⟨rfl,hb⟩;(try replace hb:=qa1 hb);replace T0:=T0.below hb;replace T8:=T8.below hb;replace hB:=hB.trans (hb.mono hB.size);replace dr:=T0.dr 1 om;rw[hg] at dr)|(go_at_call 76;go_fit (CA _);rintro e w' ⟨rfl,rfl⟩)|(go_at_call 201;go_fit (CS _);rintro e w' ⟨rfl,rfl⟩)|(go_at_call 77;go_fit (CF _);rintro e w' ⟨v,rfl,⟨a1,c1,rfl⟩,hI,hb⟩;(try replace hb:=qa1 hb);replace T0:=T0.below hb;replace T8:=T8.below hb;replace hB:=hB.trans (hb.mono hB.size)))
     ((try simp only[Exit.inBlock,Exit.then]);refine bodyPost_ret (qc6 rfl _ _ _ _ _ rfl T8) rfl ⟨?_,hB⟩)
     rw[HS.out];rfl
    ·have HS:Hid (qet f g s ((1:Nat):Int) d=_):=qo3 (qqu hgp hn his hg hz)
     have hpos:0<(qbo (rowF f 1)).length:=by omega
     have hz':(((qbo (rowF f 1)).length:Int)==0)=false:=by simp;intro h;rw[h] at hpos;simp at hpos
     obtain⟨K,hK⟩:∃K,qep (qbo (rowF f 1)) d=K:=⟨_,rfl⟩
     have hm:=qj8 _ _ (qiu (qbo (rowF f 1)) d hpos)
     rw[hK] at hm
     have hK6:(K:Int)<6:=by omega
     have hK0:(0:Int)<=(K:Int):=by omega
     have hs1:wrap64 (s+1)=s+1:=by unfold wrap64;omega
     replace HS:Hid (qet f g s ((1:Nat):Int) d=.tuple #[plv (upd f (6+K) (s+1)) g,.int .i64 (K:Int),.int .i64 0]):=by
      show _=_
      rw[HS.out,hK]
     have hm6:K<6:=hm.1
     clear hgp hia his hz hm
     go_enter func188,ntmps188
     go_wp2_with (first|(refine qat _ rfl ?_ _ rfl f g T0 ?_;· rfl)|(refine qay rfl _ _ rfl _ rfl f g rfl _ T8 rfl ?_;intro w8 T8 hs8 hk8 hb8;replace T0:=hk8 _ _ om T0;replace hB:=hb8 _ _ om hB)|(replace T0:=T0.upd (6+K) (s+1) om;replace T8:=T8.other (o:=6+K) (v:=.int .i64 (s+1)) (show w.heap.size+1≠w.heap.size by omega);replace hB:=hB.setCell (p:=⟨w.heap.size,6+K,none⟩) (Nat.le_refl _) (.int .i64 (s+1));refine qat _ rfl ?_ _ rfl (upd f (6+K) (s+1)) g T0 ?_;· rfl)|(refine qay rfl _ _ rfl _ rfl (upd f (6+K) (s+1)) g rfl _ T8 rfl ?_;intro w8 T8 hs8 hk8 hb8;replace hB:=hb8 _ _ om hB)|(refine wpList_load_mid rfl 31 _ rfl _ 6 rfl [.int .i64 (rowF f 1 0),.int .i64 (rowF f 1 1),.int .i64 (rowF f 1 2),.int .i64 (rowF f 1 3),.int .i64 (rowF f 1 4),.int .i64 (rowF f 1 5)] _ (T0.row1) underlying31 rfl kr ?_)|(go_at_call 52;go_fit (CG _);rintro e w' ⟨rfl,hb⟩;(try replace hb:=qa1 hb);replace T0:=T0.below hb;replace T8:=T8.below hb;replace hB:=hB.trans (hb.mono hB.size);replace dr:=T0.dr 1 om;rw[hg] at dr)|(go_at_call 76;go_fit (CA _);rintro e w' ⟨rfl,rfl⟩)|(go_at_call 201;go_fit (CS _);rintro e w' ⟨rfl,rfl⟩)|(go_at_call 77;go_fit (CF _);rintro e w' ⟨v,rfl,⟨a1,c1,rfl⟩,hI,hb⟩;(try replace hb:=qa1 hb);replace T0:=T0.below hb;replace T8:=T8.below hb;replace hB:=hB.trans (hb.mono hB.size);have cw:=T0.own (6+K) om;have fw:=T0.free (6+K))|(go_at_call 206;refine(qmf _ _ _ d _ hI hpos hd om).mono ?_;rintro e w' ⟨rfl,rfl⟩;rw[hK]))
     ((try simp only[Exit.inBlock,Exit.then]);refine bodyPost_ret (qc6 rfl _ _ _ _ _ rfl T8) rfl ⟨?_,hB⟩)
     rw[HS.out];rfl
  ·have CF:=fun w=>qjc (rowF f 2) w
   skip
   have dr:=T0.dr 2 om
   have hfl:=qks (rowF f 2) 6
   have hfl':(qbo (rowF f 2)).length<=6:=hfl
   clear hfl
   cases hg:g 2 with
   | true=>
    have HS:Hid (qet f g s ((2:Nat):Int) d=_):=qg4 (qqf hgp hn his hg) om
    rw[hg] at dr
    clear hgp hia his
    go_enter func188,ntmps188
    go_wp2_with (first|(refine qat _ rfl ?_ _ rfl f g T0 ?_;· rfl)|(refine qay rfl _ _ rfl _ rfl f g rfl _ T8 rfl ?_;intro w8 T8 hs8 hk8 hb8;replace T0:=hk8 _ _ om T0;replace hB:=hb8 _ _ om hB)|(go_at_call 52;go_fit (CG _);rintro e w' ⟨rfl,hb⟩;(try replace hb:=qa1 hb);replace T0:=T0.below hb;replace T8:=T8.below hb;replace hB:=hB.trans (hb.mono hB.size);replace dr:=T0.dr 2 om;rw[hg] at dr)|(go_at_call 76;go_fit (CA _);rintro e w' ⟨rfl,rfl⟩)|(go_at_call 201;go_fit (CS _);rintro e w' ⟨rfl,rfl⟩))
    ((try simp only[Exit.inBlock,Exit.then]);refine bodyPost_ret (qc6 rfl _ _ _ _ _ rfl T8) rfl ⟨?_,hB⟩)
    rw[HS.out];rfl
   | false=>
    rw[hg] at dr
    by_cases hz:(qbo (rowF f 2)).length=0
    ·have HS:Hid (qet f g s ((2:Nat):Int) d=_):=qg4 (qnz hgp hn his hg hz) om
     have hz':((qbo (rowF f 2)).length:Int)=0:=by omega
     clear hgp hia his hz
     go_enter func188,ntmps188
     go_wp2_with (first|(refine qat _ rfl ?_ _ rfl f g T0 ?_;· rfl)|(refine qay rfl _ _ rfl _ rfl f g rfl _ T8 rfl ?_;intro w8 T8 hs8 hk8 hb8;replace T0:=hk8 _ _ om T0;replace hB:=hb8 _ _ om hB)|(refine wpList_load_mid rfl 31 _ rfl _ 12 rfl [.int .i64 (rowF f 2 0),.int .i64 (rowF f 2 1),.int .i64 (rowF f 2 2),.int .i64 (rowF f 2 3),.int .i64 (rowF f 2 4),.int .i64 (rowF f 2 5)] _ (T0.row2) underlying31 rfl kr ?_)|(go_at_call 52;go_fit (CG _);rintro e w' ⟨rfl,hb⟩;(try replace hb:=qa1 hb);replace T0:=T0.below hb;replace T8:=T8.below hb;replace hB:=hB.trans (hb.mono hB.size);replace dr:=T0.dr 2 om;rw[hg] at dr)|(go_at_call 76;go_fit (CA _);rintro e w' ⟨rfl,rfl⟩)|(go_at_call 201;go_fit (CS _);rintro e w' ⟨rfl,rfl⟩)|(go_at_call 77;go_fit (CF _);rintro e w' ⟨v,rfl,⟨a1,c1,rfl⟩,hI,hb⟩;(try replace hb:=qa1 hb);replace T0:=T0.below hb;replace T8:=T8.below hb;replace hB:=hB.trans (hb.mono hB.size)))
     ((try simp only[Exit.inBlock,Exit.then]);refine bodyPost_ret (qc6 rfl _ _ _ _ _ rfl T8) rfl ⟨?_,hB⟩)
     rw[HS.out];rfl
    ·have HS:Hid (qet f g s ((2:Nat):Int) d=_):=qo3 (qqu hgp hn his hg hz)
     have hpos:0<(qbo (rowF f 2)).length:=by omega
     have hz':(((qbo (rowF f 2)).length:Int)==0)=false:=by simp;intro h;rw[h] at hpos;simp at hpos
     obtain⟨K,hK⟩:∃K,qep (qbo (rowF f 2)) d=K:=⟨_,rfl⟩
     have hm:=qj8 _ _ (qiu (qbo (rowF f 2)) d hpos)
     rw[hK] at hm
     have hK6:(K:Int)<6:=by omega
     have hK0:(0:Int)<=(K:Int):=by omega
     have hs1:wrap64 (s+1)=s+1:=by unfold wrap64;omega
     replace HS:Hid (qet f g s ((2:Nat):Int) d=.tuple #[plv (upd f (12+K) (s+1)) g,.int .i64 (K:Int),.int .i64 0]):=by
      show _=_
      rw[HS.out,hK]
     have hm6:K<6:=hm.1
     clear hgp hia his hz hm
     go_enter func188,ntmps188
     go_wp2_with (first|(refine qat _ rfl ?_ _ rfl f g T0 ?_;· rfl)|(refine qay rfl _ _ rfl _ rfl f g rfl _ T8 rfl ?_;intro w8 T8 hs8 hk8 hb8;replace T0:=hk8 _ _ om T0;replace hB:=hb8 _ _ om hB)|(replace T0:=T0.upd (12+K) (s+1) om;replace T8:=T8.other (o:=12+K) (v:=.int .i64 (s+1)) (show w.heap.size+1≠w.heap.size by omega);replace hB:=hB.setCell (p:=⟨w.heap.size,12+K,none⟩) (Nat.le_refl _) (.int .i64 (s+1));refine qat _ rfl ?_ _ rfl (upd f (12+K) (s+1)) g T0 ?_;· rfl)|(refine qay rfl _ _ rfl _ rfl (upd f (12+K) (s+1)) g rfl _ T8 rfl ?_;intro w8 T8 hs8 hk8 hb8;replace hB:=hb8 _ _ om hB)|(refine wpList_load_mid rfl 31 _ rfl _ 12 rfl [.int .i64 (rowF f 2 0),.int .i64 (rowF f 2 1),.int .i64 (rowF f 2 2),.int .i64 (rowF f 2 3),.int .i64 (rowF f 2 4),.int .i64 (rowF f 2 5)] _ (T0.row2) underlying31 rfl kr ?_)|(go_at_call 52;go_fit (CG _);rintro e w' ⟨rfl,hb⟩;(try replace hb:=qa1 hb);replace T0:=T0.below hb;replace T8:=T8.below hb;replace hB:=hB.trans (hb.mono hB.size);replace dr:=T0.dr 2 om;rw[hg] at dr)|(go_at_call 76;go_fit (CA _);rintro e w' ⟨rfl,rfl⟩)|(go_at_call 201;go_fit (CS _);rintro e w' ⟨rfl,rfl⟩)|(go_at_call 77;go_fit (CF _);rintro e w' ⟨v,rfl,⟨a1,c1,rfl⟩,hI,hb⟩;(try replace hb:=qa1 hb);replace T0:=T0.below hb;replace T8:=T8.below hb;replace hB:=hB.trans (hb.mono hB.size);have cw:=T0.own (12+K) om;have fw:=T0.free (12+K))|(go_at_call 206;refine(qmf _ _ _ d _ hI hpos hd om).mono ?_;rintro e w' ⟨rfl,rfl⟩;rw[hK]))
     ((try simp only[Exit.inBlock,Exit.then]);refine bodyPost_ret (qc6 rfl _ _ _ _ _ rfl T8) rfl ⟨?_,hB⟩)
     rw[HS.out];rfl
def wfF(f:Nat->Int):Prop:=∀i,i<18->(Lit.int .i64 (f i)).wf=true
def qjx(f:Nat->Int)(s a k:Int):Int:=if qcv f=true then(if (inR a 3=true/\inR k 6=true)/\inR s 8=true/\f (6*a.toNat+k.toNat)=s+1 then 0 else 7) else 2
def que(f:Nat->Int)(s a k:Int):Nat->Int:=if qjx f s a k=0 then upd f (6*a.toNat+k.toNat) 0 else f
def qgh(f:Nat->Int)(g:Nat->Bool)(s a k:Int):Value:=.tuple #[plv (que f s a k) g,.int .i64 (qjx f s a k)]
theorem q1s{f:Nat->Int}{s a k:Int}(h:qcv f=false):qjx f s a k=2:=by unfold qjx;rw[if_neg (by simp[h])]
theorem qk6{f:Nat->Int}{s a k:Int}(h:qcv f=true)(h1:¬((inR a 3=true/\inR k 6=true)/\inR s 8=true/\f (6*a.toNat+k.toNat)=s+1)):qjx f s a k=7:=by unfold qjx;rw[if_pos h,if_neg h1]
theorem qno{f:Nat->Int}{s:Int}{a k:Nat}(h:qcv f=true)(h1:a<3)(h2:k<6)(h3:inR s 8=true)(h4:f (6*a+k)=s+1):qjx f s a k=0:=by
 unfold qjx;rw[if_pos h,if_pos ⟨⟨qed om om,qed om om⟩,h3,by rw[Int.toNat_natCast,Int.toNat_natCast];exact h4⟩]
theorem qll{f:Nat->Int}{g:Nat->Bool}{s a k e:Int}(h:qjx f s a k=e)(he:e≠0):qgh f g s a k=.tuple #[plv f g,.int .i64 e]:=by
 unfold qgh que;rw[if_neg om,h]
theorem qoz{f:Nat->Int}{g:Nat->Bool}{s:Int}{a k:Nat}(h:qjx f s a k=0):qgh f g s a k=.tuple #[plv (upd f (6*a+k) 0) g,.int .i64 0]:=by
 unfold qgh que;rw[if_pos h,h,Int.toNat_natCast,Int.toNat_natCast]
theorem sZxp23{p:Prop}(h:p:=by
 go_enter func181,ntmps181
 go_wp2_with (first|(refine qat _ rfl ?_ _ rfl f g T0 ?_;· rfl)|(refine qay rfl _ _ rfl _ rfl f g rfl _ T8 rfl ?_;intro w8 T8 hs8 hk8 hb8;replace T0:=hk8 _ _ om T0;replace hB:=hb8 _ _ om hB)|(go_at_call 52;go_fit (CG _);rintro e w' ⟨rfl,hb⟩;(try replace hb:=qa1 hb);replace T0:=T0.below hb;replace T8:=T8.below hb;replace hB:=hB.trans (hb.mono hB.size))|(go_at_call 76;go_fit (CA _);rintro e w' ⟨rfl,rfl⟩)|(go_at_call 200;go_fit (CK _);rintro e w' ⟨rfl,rfl⟩)|(go_at_call 201;go_fit (CS _);rintro e w' ⟨rfl,rfl⟩))
 ((try simp only[Exit.inBlock,Exit.then]);refine bodyPost_ret (qbw rfl _ _ _ _ _ rfl T8) rfl ⟨?_,hB⟩)
 rw[HS.out];rfl):p:=h
theorem sZxp24{p:Prop}(h:p:=by
 show _=_
 rw[qoz (qno hgp hn hK his (by simpa using ho))]):p:=h
theorem quv(f:Nat->Int)(g:Nat->Bool)(s a k:Int)(w:World):
  Calls prog 181 #[plv f g,.int .i64 s,.int .i64 a,.int .i64 k] w fun e w'=>e=.returned (qgh f g s a k)/\Below w.heap.size w w':=by
 have T0:PRow ((w.alloc (.cells (pc f g) 35)).alloc (.cells #[.int .i64 0,.int .i64 0,.int .i64 0,.int .i64 0,.int .i64 0,.int .i64 0,.int .i64 0,.int .i64 0,.int .i64 0,.int .i64 0,.int .i64 0,.int .i64 0,.int .i64 0,.int .i64 0,.int .i64 0,.int .i64 0,.int .i64 0,.int .i64 0,.bool false,.bool false,.bool false] 35)) w.heap.size (pc f g):=(PRow.new _ _).alloc _
 have T8:PRow ((w.alloc (.cells (pc f g) 35)).alloc (.cells #[.int .i64 0,.int .i64 0,.int .i64 0,.int .i64 0,.int .i64 0,.int .i64 0,.int .i64 0,.int .i64 0,.int .i64 0,.int .i64 0,.int .i64 0,.int .i64 0,.int .i64 0,.int .i64 0,.int .i64 0,.int .i64 0,.int .i64 0,.int .i64 0,.bool false,.bool false,.bool false] 35)) (w.heap.size+1) (pc (fun _=>0) (fun _=>false)):=by
  exact sZxp21
 have hB:Below w.heap.size w ((w.alloc (.cells (pc f g) 35)).alloc (.cells #[.int .i64 0,.int .i64 0,.int .i64 0,.int .i64 0,.int .i64 0,.int .i64 0,.int .i64 0,.int .i64 0,.int .i64 0,.int .i64 0,.int .i64 0,.int .i64 0,.int .i64 0,.int .i64 0,.int .i64 0,.int .i64 0,.int .i64 0,.int .i64 0,.bool false,.bool false,.bool false] 35)):=((Below.refl _ _).alloc (Nat.le_refl _) _).alloc zm _
 have CG:=fun w=>qni f g w
 have CA:=fun w=>qe7 a w
 have CK:=fun w=>qwv k w
 have CS:=fun w=>qlq s w
 unfold plv at CG
 unfold plv
 cases hgp:qcv f with
 | false=>
  have HS:Hid (qgh f g s a k=_):=qll (q1s hgp) om
  rw[hgp] at CG
  exact sZxp23
 | true=>
  rw[hgp] at CG
  by_cases hin:(inR a 3=true/\inR k 6=true)/\inR s 8=true
  rotate_left
  ·have HS:Hid (qgh f g s a k=_):=qll (qk6 hgp (fun h=>hin ⟨h.1,h.2.1⟩)) om
   clear hgp
   cases ha:inR a 3 with
   | false=>
    rw[ha] at CA
    exact sZxp23
   | true=>
    rw[ha] at CA
    cases hk:inR k 6 with
    | false=>
     rw[hk] at CK
     exact sZxp23
    | true=>
     rw[hk] at CK
     have hs:inR s 8=false:=by
      cases h:inR s 8 with
      | false=>rfl
      | true=>exact absurd ⟨⟨ha,hk⟩,h⟩ hin
     rw[hs] at CS
     exact sZxp23
  obtain⟨⟨hia,hik⟩,his⟩:=hin
  have hba:0<=a/\a<3:=of_decide_eq_true hia
  have hbk:0<=k/\k<6:=of_decide_eq_true hik
  have hbs:0<=s/\s<8:=of_decide_eq_true his
  rw[hia] at CA
  rw[hik] at CK
  rw[his] at CS
  obtain⟨n,rfl⟩:∃n:Nat,a=n:=⟨a.toNat,by omega⟩
  obtain⟨K,rfl⟩:∃K:Nat,k=K:=⟨k.toNat,by omega⟩
  have hn:n<3:=by omega
  have hK:K<6:=by omega
  have hK6:(K:Int)<6:=by omega
  have hK5:(K:Int)<=5:=by omega
  have hK0:(0:Int)<=(K:Int):=by omega
  have hs0:0<=s:=hbs.1
  have hs7:s<=7:=by omega
  have hs1:wrap64 (s+1)=s+1:=by unfold wrap64;omega
  rcases(show n=0\/n=1\/n=2 by omega) with rfl|rfl|rfl
  ·have cw:=T0.own (K) om
   have fw:=T0.free (K)
   by_cases ho:f (K)=s+1
   rotate_left
   ·have HS:Hid (qgh f g s ((0:Nat):Int) (K:Int)=_):=qll (qk6 hgp (fun h=>ho (by have:=h.2.2;rw[Int.toNat_natCast,Int.toNat_natCast] at this;simpa using this))) om
    have hne:(f (K) != s+1)=true:=by simpa using ho
    clear ho hgp hia hik his
    go_enter func181,ntmps181
    go_wp2_with (first|(refine qat _ rfl ?_ _ rfl f g T0 ?_;· rfl)|(refine qay rfl _ _ rfl _ rfl f g rfl _ T8 rfl ?_;intro w8 T8 hs8 hk8 hb8;replace T0:=hk8 _ _ om T0;replace hB:=hb8 _ _ om hB)|(go_at_call 52;go_fit (CG _);rintro e w' ⟨rfl,hb⟩;(try replace hb:=qa1 hb);replace T0:=T0.below hb;replace T8:=T8.below hb;replace hB:=hB.trans (hb.mono hB.size);replace cw:=T0.own (K) om;replace fw:=T0.free (K))|(go_at_call 76;go_fit (CA _);rintro e w' ⟨rfl,rfl⟩)|(go_at_call 200;go_fit (CK _);rintro e w' ⟨rfl,rfl⟩)|(go_at_call 201;go_fit (CS _);rintro e w' ⟨rfl,rfl⟩))
    ((try simp only[Exit.inBlock,Exit.then]);refine bodyPost_ret (qbw rfl _ _ _ _ _ rfl T8) rfl ⟨?_,hB⟩)
    rw[HS.out];rfl
   ·have HS:Hid (qgh f g s ((0:Nat):Int) (K:Int)=.tuple #[plv (upd f (K) 0) g,.int .i64 0]):=by
     show _=_
     rw[qoz (qno hgp hn hK his (by simpa using ho))];simp
    have hne:(f (K) != s+1)=false:=by simpa using ho
    clear ho hgp hia hik his
    go_enter func181,ntmps181
    go_wp2_with (first|(refine qat _ rfl ?_ _ rfl f g T0 ?_;· rfl)|(refine qay rfl _ _ rfl _ rfl f g rfl _ T8 rfl ?_;intro w8 T8 hs8 hk8 hb8;replace T0:=hk8 _ _ om T0;replace hB:=hb8 _ _ om hB)|(replace T0:=T0.upd (K) (0) om;replace T8:=T8.other (o:=K) (v:=.int .i64 (0)) (show w.heap.size+1≠w.heap.size by omega);replace hB:=hB.setCell (p:=⟨w.heap.size,K,none⟩) (Nat.le_refl _) (.int .i64 (0));refine qat _ rfl ?_ _ rfl (upd f (K) (0)) g T0 ?_;· rfl)|(refine qay rfl _ _ rfl _ rfl (upd f (K) (0)) g rfl _ T8 rfl ?_;intro w8 T8 hs8 hk8 hb8;replace hB:=hb8 _ _ om hB)|(go_at_call 52;go_fit (CG _);rintro e w' ⟨rfl,hb⟩;(try replace hb:=qa1 hb);replace T0:=T0.below hb;replace T8:=T8.below hb;replace hB:=hB.trans (hb.mono hB.size);replace cw:=T0.own (K) om;replace fw:=T0.free (K))|(go_at_call 76;go_fit (CA _);rintro e w' ⟨rfl,rfl⟩)|(go_at_call 200;go_fit (CK _);rintro e w' ⟨rfl,rfl⟩)|(go_at_call 201;go_fit (CS _);rintro e w' ⟨rfl,rfl⟩))
    ((try simp only[Exit.inBlock,Exit.then]);refine bodyPost_ret (qbw rfl _ _ _ _ _ rfl T8) rfl ⟨?_,hB⟩)
    rw[HS.out];rfl
  ·have cw:=T0.own (6+K) om
   have fw:=T0.free (6+K)
   by_cases ho:f (6+K)=s+1
   rotate_left
   ·have HS:Hid (qgh f g s ((1:Nat):Int) (K:Int)=_):=qll (qk6 hgp (fun h=>ho (by have:=h.2.2;rw[Int.toNat_natCast,Int.toNat_natCast] at this;simpa using this))) om
    have hne:(f (6+K) != s+1)=true:=by simpa using ho
    clear ho hgp hia hik his
    go_enter func181,ntmps181
    go_wp2_with (first|(refine qat _ rfl ?_ _ rfl f g T0 ?_;· rfl)|(refine qay rfl _ _ rfl _ rfl f g rfl _ T8 rfl ?_;intro w8 T8 hs8 hk8 hb8;replace T0:=hk8 _ _ om T0;replace hB:=hb8 _ _ om hB)|(go_at_call 52;go_fit (CG _);rintro e w' ⟨rfl,hb⟩;(try replace hb:=qa1 hb);replace T0:=T0.below hb;replace T8:=T8.below hb;replace hB:=hB.trans (hb.mono hB.size);replace cw:=T0.own (6+K) om;replace fw:=T0.free (6+K))|(go_at_call 76;go_fit (CA _);rintro e w' ⟨rfl,rfl⟩)|(go_at_call 200;go_fit (CK _);rintro e w' ⟨rfl,rfl⟩)|(go_at_call 201;go_fit (CS _);rintro e w' ⟨rfl,rfl⟩))
    ((try simp only[Exit.inBlock,Exit.then]);refine bodyPost_ret (qbw rfl _ _ _ _ _ rfl T8) rfl ⟨?_,hB⟩)
    rw[HS.out];rfl
   ·have HS:Hid (qgh f g s ((1:Nat):Int) (K:Int)=.tuple #[plv (upd f (6+K) 0) g,.int .i64 0]):=by
     exact sZxp24
    have hne:(f (6+K) != s+1)=false:=by simpa using ho
    clear ho hgp hia hik his
    go_enter func181,ntmps181
    go_wp2_with (first|(refine qat _ rfl ?_ _ rfl f g T0 ?_;· rfl)|(refine qay rfl _ _ rfl _ rfl f g rfl _ T8 rfl ?_;intro w8 T8 hs8 hk8 hb8;replace T0:=hk8 _ _ om T0;replace hB:=hb8 _ _ om hB)|(replace T0:=T0.upd (6+K) (0) om;replace T8:=T8.other (o:=6+K) (v:=.int .i64 (0)) (show w.heap.size+1≠w.heap.size by omega);replace hB:=hB.setCell (p:=⟨w.heap.size,6+K,none⟩) (Nat.le_refl _) (.int .i64 (0));refine qat _ rfl ?_ _ rfl (upd f (6+K) (0)) g T0 ?_;· rfl)|(refine qay rfl _ _ rfl _ rfl (upd f (6+K) (0)) g rfl _ T8 rfl ?_;intro w8 T8 hs8 hk8 hb8;replace hB:=hb8 _ _ om hB)|(go_at_call 52;go_fit (CG _);rintro e w' ⟨rfl,hb⟩;(try replace hb:=qa1 hb);replace T0:=T0.below hb;replace T8:=T8.below hb;replace hB:=hB.trans (hb.mono hB.size);replace cw:=T0.own (6+K) om;replace fw:=T0.free (6+K))|(go_at_call 76;go_fit (CA _);rintro e w' ⟨rfl,rfl⟩)|(go_at_call 200;go_fit (CK _);rintro e w' ⟨rfl,rfl⟩)|(go_at_call 201;go_fit (CS _);rintro e w' ⟨rfl,rfl⟩))
    ((try simp only[Exit.inBlock,Exit.then]);refine bodyPost_ret (qbw rfl _ _ _ _ _ rfl T8) rfl ⟨?_,hB⟩)
    rw[HS.out];rfl
  ·have cw:=T0.own (12+K) om
   have fw:=T0.free (12+K)
   by_cases ho:f (12+K)=s+1
   rotate_left
   ·have HS:Hid (qgh f g s ((2:Nat):Int) (K:Int)=_):=qll (qk6 hgp (fun h=>ho (by have:=h.2.2;rw[Int.toNat_natCast,Int.toNat_natCast] at this;simpa using this))) om
    have hne:(f (12+K) != s+1)=true:=by simpa using ho
    clear ho hgp hia hik his
    go_enter func181,ntmps181
    go_wp2_with (first|(refine qat _ rfl ?_ _ rfl f g T0 ?_;· rfl)|(refine qay rfl _ _ rfl _ rfl f g rfl _ T8 rfl ?_;intro w8 T8 hs8 hk8 hb8;replace T0:=hk8 _ _ om T0;replace hB:=hb8 _ _ om hB)|(go_at_call 52;go_fit (CG _);rintro e w' ⟨rfl,hb⟩;(try replace hb:=qa1 hb);replace T0:=T0.below hb;replace T8:=T8.below hb;replace hB:=hB.trans (hb.mono hB.size);replace cw:=T0.own (12+K) om;replace fw:=T0.free (12+K))|(go_at_call 76;go_fit (CA _);rintro e w' ⟨rfl,rfl⟩)|(go_at_call 200;go_fit (CK _);rintro e w' ⟨rfl,rfl⟩)|(go_at_call 201;go_fit (CS _);rintro e w' ⟨rfl,rfl⟩))
    ((try simp only[Exit.inBlock,Exit.then]);refine bodyPost_ret (qbw rfl _ _ _ _ _ rfl T8) rfl ⟨?_,hB⟩)
    rw[HS.out];rfl
   ·have HS:Hid (qgh f g s ((2:Nat):Int) (K:Int)=.tuple #[plv (upd f (12+K) 0) g,.int .i64 0]):=by
     exact sZxp24
    have hne:(f (12+K) != s+1)=false:=by simpa using ho
    clear ho hgp hia hik his
    go_enter func181,ntmps181
    go_wp2_with (first|(refine qat _ rfl ?_ _ rfl f g T0 ?_;· rfl)|(refine qay rfl _ _ rfl _ rfl f g rfl _ T8 rfl ?_;intro w8 T8 hs8 hk8 hb8;replace T0:=hk8 _ _ om T0;replace hB:=hb8 _ _ om hB)|(replace T0:=T0.upd (12+K) (0) om;replace T8:=T8.other (o:=12+K) (v:=.int .i64 (0)) (show w.heap.size+1≠w.heap.size by omega);replace hB:=hB.setCell (p:=⟨w.heap.size,12+K,none⟩) (Nat.le_refl _) (.int .i64 (0));refine qat _ rfl ?_ _ rfl (upd f (12+K) (0)) g T0 ?_;· rfl)|(refine qay rfl _ _ rfl _ rfl (upd f (12+K) (0)) g rfl _ T8 rfl ?_;intro w8 T8 hs8 hk8 hb8;replace hB:=hb8 _ _ om hB)|(go_at_call 52;go_fit (CG _);rintro e w' ⟨rfl,hb⟩;(try replace hb:=qa1 hb);replace T0:=T0.below hb;replace T8:=T8.below hb;replace hB:=hB.trans (hb.mono hB.size);replace cw:=T0.own (12+K) om;replace fw:=T0.free (12+K))|(go_at_call 76;go_fit (CA _);rintro e w' ⟨rfl,rfl⟩)|(go_at_call 200;go_fit (CK _);rintro e w' ⟨rfl,rfl⟩)|(go_at_call 201;go_fit (CS _);rintro e w' ⟨rfl,rfl⟩))
    ((try simp only[Exit.inBlock,Exit.then]);refine bodyPost_ret (qbw rfl _ _ _ _ _ rfl T8) rfl ⟨?_,hB⟩)
    rw[HS.out];rfl
theorem qea{B:Nat}{w0 w:World}(h:Below B w0 w):Below B w0 w.drew:=⟨h.os,h.tape,h.output,h.size,h.block⟩
theorem qtj{f:Nat->Int}{g:Nat->Bool}{s a:Int}(h:qdh f g s a=0):qcv f=true/\(0<=a/\a<3)/\(0<=s/\s<8)/\g a.toNat=false/\0<(qbo (rowF f a.toNat)).length:=by
 unfold qdh at h
 by_cases h1:qcv f=true
 ·rw[if_pos h1] at h
  by_cases h2:inR a 3=true/\inR s 8=true
  ·rw[if_pos h2] at h
   by_cases h3:g a.toNat=true
   ·rw[if_pos h3] at h;omega
   ·rw[if_neg h3] at h
    by_cases h4:(qbo (rowF f a.toNat)).length=0
    ·rw[if_pos h4] at h;omega
    ·exact⟨h1,of_decide_eq_true h2.1,of_decide_eq_true h2.2,by simpa using h3,by omega⟩
  ·rw[if_neg h2] at h;omega
 ·rw[if_neg h1] at h;omega
def qfu(g:Nat->Bool)(a:Int)(b:Bool):Int:=if inR a 3=true then(if g a.toNat=b then 8 else 0) else 7
def qg3(g:Nat->Bool)(a:Int)(b:Bool):Nat->Bool:=if qfu g a b=0 then updB g a.toNat b else g
def qd5(f:Nat->Int)(g:Nat->Bool)(a:Int)(b:Bool):Value:=.tuple #[plv f (qg3 g a b),.int .i64 (qfu g a b)]
theorem qzd{f:Nat->Int}{g:Nat->Bool}{a:Int}{b:Bool}(h:a<0\/3<=a):qd5 f g a b=.tuple #[plv f g,.int .i64 7]:=by
 have e:qfu g a b=7:=by unfold qfu;rw[if_neg (by simp[qfe h])]
 unfold qd5 qg3;rw[e];rfl
theorem qlp{f:Nat->Int}{g:Nat->Bool}{a:Nat}{b:Bool}(h:a<3)(h1:g a=b):qd5 f g a b=.tuple #[plv f g,.int .i64 8]:=by
 have e:qfu g a b=8:=by unfold qfu;rw[if_pos (qed om om),Int.toNat_natCast,if_pos h1]
 unfold qd5 qg3;rw[e];rfl
theorem qox{f:Nat->Int}{g:Nat->Bool}{a:Nat}{b:Bool}(h:a<3)(h1:g a≠b):qd5 f g a b=.tuple #[plv f (updB g a b),.int .i64 0]:=by
 have e:qfu g a b=0:=by unfold qfu;rw[if_pos (qed om om),Int.toNat_natCast,if_neg h1]
 unfold qd5 qg3;rw[e,Int.toNat_natCast];rfl
theorem sZxp22{p:Prop}(h:p:=by
 go_enter func111,ntmps111
 go_upto_region 1 with fail
 generalize((w.alloc (.cells (pc f g) 35)).alloc (.cells #[.int .i64 0,.int .i64 0,.int .i64 0,.int .i64 0,.int .i64 0,.int .i64 0,.int .i64 0,.int .i64 0,.int .i64 0,.int .i64 0,.int .i64 0,.int .i64 0,.int .i64 0,.int .i64 0,.int .i64 0,.int .i64 0,.int .i64 0,.int .i64 0,.bool false,.bool false,.bool false] 35))=w1 at *
 go_wp2_with (first|(refine qat _ rfl ?_ _ rfl f g T0 ?_;· rfl)|(refine qay rfl _ _ rfl _ rfl f g rfl _ T8 rfl ?_;intro w8 T8 hs8 hk8 hb8;replace T0:=hk8 _ _ om T0;replace hB:=hb8 _ _ om hB)|(go_at_call 76;go_fit (CA _);rintro e w' ⟨rfl,rfl⟩))
 ((try simp only[Exit.inBlock,Exit.then]);refine bodyPost_ret (qbw rfl _ _ _ _ _ rfl T8) rfl ⟨?_,hB⟩)
 rw[HS.out];rfl):p:=h
theorem qsx(f:Nat->Int)(g:Nat->Bool)(a:Int)(b:Bool)(w:World):
  Calls prog 111 #[plv f g,.int .i64 a,.bool b] w fun e w'=>e=.returned (qd5 f g a b)/\Below w.heap.size w w':=by
 have T0:PRow ((w.alloc (.cells (pc f g) 35)).alloc (.cells #[.int .i64 0,.int .i64 0,.int .i64 0,.int .i64 0,.int .i64 0,.int .i64 0,.int .i64 0,.int .i64 0,.int .i64 0,.int .i64 0,.int .i64 0,.int .i64 0,.int .i64 0,.int .i64 0,.int .i64 0,.int .i64 0,.int .i64 0,.int .i64 0,.bool false,.bool false,.bool false] 35)) w.heap.size (pc f g):=(PRow.new _ _).alloc _
 have T8:PRow ((w.alloc (.cells (pc f g) 35)).alloc (.cells #[.int .i64 0,.int .i64 0,.int .i64 0,.int .i64 0,.int .i64 0,.int .i64 0,.int .i64 0,.int .i64 0,.int .i64 0,.int .i64 0,.int .i64 0,.int .i64 0,.int .i64 0,.int .i64 0,.int .i64 0,.int .i64 0,.int .i64 0,.int .i64 0,.bool false,.bool false,.bool false] 35)) (w.heap.size+1) (pc (fun _=>0) (fun _=>false)):=by
  exact sZxp21
 have hB:Below w.heap.size w ((w.alloc (.cells (pc f g) 35)).alloc (.cells #[.int .i64 0,.int .i64 0,.int .i64 0,.int .i64 0,.int .i64 0,.int .i64 0,.int .i64 0,.int .i64 0,.int .i64 0,.int .i64 0,.int .i64 0,.int .i64 0,.int .i64 0,.int .i64 0,.int .i64 0,.int .i64 0,.int .i64 0,.int .i64 0,.bool false,.bool false,.bool false] 35)):=((Below.refl _ _).alloc (Nat.le_refl _) _).alloc zm _
 have CA:=fun w=>qe7 a w
 unfold plv
 by_cases hin:0<=a/\a<3
 rotate_left
 ·have HS:Hid (qd5 f g a b=_):=qzd om
  rw[qfe om] at CA
  clear hin
  exact sZxp22
 obtain⟨n,rfl⟩:∃n:Nat,a=n:=⟨a.toNat,by omega⟩
 have hn:n<3:=by omega
 rw[qed hin.1 hin.2] at CA
 clear hin
 rcases(show n=0\/n=1\/n=2 by omega) with rfl|rfl|rfl
 ·have dr:((w.alloc (.cells (pc f g) 35)).alloc (.cells #[.int .i64 0,.int .i64 0,.int .i64 0,.int .i64 0,.int .i64 0,.int .i64 0,.int .i64 0,.int .i64 0,.int .i64 0,.int .i64 0,.int .i64 0,.int .i64 0,.int .i64 0,.int .i64 0,.int .i64 0,.int .i64 0,.int .i64 0,.int .i64 0,.bool false,.bool false,.bool false] 35)).cell? ⟨w.heap.size,18,none⟩=some (.bool (g 0)):=T0.dr 0 om
  have fr:((w.alloc (.cells (pc f g) 35)).alloc (.cells #[.int .i64 0,.int .i64 0,.int .i64 0,.int .i64 0,.int .i64 0,.int .i64 0,.int .i64 0,.int .i64 0,.int .i64 0,.int .i64 0,.int .i64 0,.int .i64 0,.int .i64 0,.int .i64 0,.int .i64 0,.int .i64 0,.int .i64 0,.int .i64 0,.bool false,.bool false,.bool false] 35)).frozen? ⟨w.heap.size,18,none⟩=false:=T0.free 18
  by_cases he:g 0=b
  ·have HS:Hid (qd5 f g ((0:Nat):Int) b=_):=qlp hn he
   have hq:(g 0==b)=true:=by simpa using he
   clear he
   exact sZxp22
  ·have HS:Hid (qd5 f g ((0:Nat):Int) b=_):=qox hn he
   have hq:(g 0==b)=false:=by simpa using he
   clear he
   go_enter func111,ntmps111
   go_upto_region 1 with fail
   generalize((w.alloc (.cells (pc f g) 35)).alloc (.cells #[.int .i64 0,.int .i64 0,.int .i64 0,.int .i64 0,.int .i64 0,.int .i64 0,.int .i64 0,.int .i64 0,.int .i64 0,.int .i64 0,.int .i64 0,.int .i64 0,.int .i64 0,.int .i64 0,.int .i64 0,.int .i64 0,.int .i64 0,.int .i64 0,.bool false,.bool false,.bool false] 35))=w1 at *
   go_wp2_with (first|(refine qat _ rfl ?_ _ rfl f g T0 ?_;· rfl)|(refine qay rfl _ _ rfl _ rfl f g rfl _ T8 rfl ?_;intro w8 T8 hs8 hk8 hb8;replace T0:=hk8 _ _ om T0;replace hB:=hb8 _ _ om hB)|(replace T0:=T0.updB 0 (b) om;replace T8:=T8.other (o:=18+0) (v:=.bool (b)) (show w.heap.size+1≠w.heap.size by omega);replace hB:=hB.setCell (p:=⟨w.heap.size,18+0,none⟩) (Nat.le_refl _) (.bool (b));refine qat _ rfl ?_ _ rfl f (updB g 0 (b)) T0 ?_;· rfl)|(refine qay rfl _ _ rfl _ rfl f (updB g 0 (b)) rfl _ T8 rfl ?_;intro w8 T8 hs8 hk8 hb8;replace hB:=hb8 _ _ om hB)|(go_at_call 76;go_fit (CA _);rintro e w' ⟨rfl,rfl⟩))
   ((try simp only[Exit.inBlock,Exit.then]);refine bodyPost_ret (qbw rfl _ _ _ _ _ rfl T8) rfl ⟨?_,hB⟩)
   rw[HS.out];rfl
 ·have dr:((w.alloc (.cells (pc f g) 35)).alloc (.cells #[.int .i64 0,.int .i64 0,.int .i64 0,.int .i64 0,.int .i64 0,.int .i64 0,.int .i64 0,.int .i64 0,.int .i64 0,.int .i64 0,.int .i64 0,.int .i64 0,.int .i64 0,.int .i64 0,.int .i64 0,.int .i64 0,.int .i64 0,.int .i64 0,.bool false,.bool false,.bool false] 35)).cell? ⟨w.heap.size,19,none⟩=some (.bool (g 1)):=T0.dr 1 om
  have fr:((w.alloc (.cells (pc f g) 35)).alloc (.cells #[.int .i64 0,.int .i64 0,.int .i64 0,.int .i64 0,.int .i64 0,.int .i64 0,.int .i64 0,.int .i64 0,.int .i64 0,.int .i64 0,.int .i64 0,.int .i64 0,.int .i64 0,.int .i64 0,.int .i64 0,.int .i64 0,.int .i64 0,.int .i64 0,.bool false,.bool false,.bool false] 35)).frozen? ⟨w.heap.size,19,none⟩=false:=T0.free 19
  by_cases he:g 1=b
  ·have HS:Hid (qd5 f g ((1:Nat):Int) b=_):=qlp hn he
   have hq:(g 1==b)=true:=by simpa using he
   clear he
   exact sZxp22
  ·have HS:Hid (qd5 f g ((1:Nat):Int) b=_):=qox hn he
   have hq:(g 1==b)=false:=by simpa using he
   clear he
   go_enter func111,ntmps111
   go_upto_region 1 with fail
   generalize((w.alloc (.cells (pc f g) 35)).alloc (.cells #[.int .i64 0,.int .i64 0,.int .i64 0,.int .i64 0,.int .i64 0,.int .i64 0,.int .i64 0,.int .i64 0,.int .i64 0,.int .i64 0,.int .i64 0,.int .i64 0,.int .i64 0,.int .i64 0,.int .i64 0,.int .i64 0,.int .i64 0,.int .i64 0,.bool false,.bool false,.bool false] 35))=w1 at *
   go_wp2_with (first|(refine qat _ rfl ?_ _ rfl f g T0 ?_;· rfl)|(refine qay rfl _ _ rfl _ rfl f g rfl _ T8 rfl ?_;intro w8 T8 hs8 hk8 hb8;replace T0:=hk8 _ _ om T0;replace hB:=hb8 _ _ om hB)|(replace T0:=T0.updB 1 (b) om;replace T8:=T8.other (o:=18+1) (v:=.bool (b)) (show w.heap.size+1≠w.heap.size by omega);replace hB:=hB.setCell (p:=⟨w.heap.size,18+1,none⟩) (Nat.le_refl _) (.bool (b));refine qat _ rfl ?_ _ rfl f (updB g 1 (b)) T0 ?_;· rfl)|(refine qay rfl _ _ rfl _ rfl f (updB g 1 (b)) rfl _ T8 rfl ?_;intro w8 T8 hs8 hk8 hb8;replace hB:=hb8 _ _ om hB)|(go_at_call 76;go_fit (CA _);rintro e w' ⟨rfl,rfl⟩))
   ((try simp only[Exit.inBlock,Exit.then]);refine bodyPost_ret (qbw rfl _ _ _ _ _ rfl T8) rfl ⟨?_,hB⟩)
   rw[HS.out];rfl
 ·have dr:((w.alloc (.cells (pc f g) 35)).alloc (.cells #[.int .i64 0,.int .i64 0,.int .i64 0,.int .i64 0,.int .i64 0,.int .i64 0,.int .i64 0,.int .i64 0,.int .i64 0,.int .i64 0,.int .i64 0,.int .i64 0,.int .i64 0,.int .i64 0,.int .i64 0,.int .i64 0,.int .i64 0,.int .i64 0,.bool false,.bool false,.bool false] 35)).cell? ⟨w.heap.size,20,none⟩=some (.bool (g 2)):=T0.dr 2 om
  have fr:((w.alloc (.cells (pc f g) 35)).alloc (.cells #[.int .i64 0,.int .i64 0,.int .i64 0,.int .i64 0,.int .i64 0,.int .i64 0,.int .i64 0,.int .i64 0,.int .i64 0,.int .i64 0,.int .i64 0,.int .i64 0,.int .i64 0,.int .i64 0,.int .i64 0,.int .i64 0,.int .i64 0,.int .i64 0,.bool false,.bool false,.bool false] 35)).frozen? ⟨w.heap.size,20,none⟩=false:=T0.free 20
  by_cases he:g 2=b
  ·have HS:Hid (qd5 f g ((2:Nat):Int) b=_):=qlp hn he
   have hq:(g 2==b)=true:=by simpa using he
   clear he
   exact sZxp22
  ·have HS:Hid (qd5 f g ((2:Nat):Int) b=_):=qox hn he
   have hq:(g 2==b)=false:=by simpa using he
   clear he
   go_enter func111,ntmps111
   go_upto_region 1 with fail
   generalize((w.alloc (.cells (pc f g) 35)).alloc (.cells #[.int .i64 0,.int .i64 0,.int .i64 0,.int .i64 0,.int .i64 0,.int .i64 0,.int .i64 0,.int .i64 0,.int .i64 0,.int .i64 0,.int .i64 0,.int .i64 0,.int .i64 0,.int .i64 0,.int .i64 0,.int .i64 0,.int .i64 0,.int .i64 0,.bool false,.bool false,.bool false] 35))=w1 at *
   go_wp2_with (first|(refine qat _ rfl ?_ _ rfl f g T0 ?_;· rfl)|(refine qay rfl _ _ rfl _ rfl f g rfl _ T8 rfl ?_;intro w8 T8 hs8 hk8 hb8;replace T0:=hk8 _ _ om T0;replace hB:=hb8 _ _ om hB)|(replace T0:=T0.updB 2 (b) om;replace T8:=T8.other (o:=18+2) (v:=.bool (b)) (show w.heap.size+1≠w.heap.size by omega);replace hB:=hB.setCell (p:=⟨w.heap.size,18+2,none⟩) (Nat.le_refl _) (.bool (b));refine qat _ rfl ?_ _ rfl f (updB g 2 (b)) T0 ?_;· rfl)|(refine qay rfl _ _ rfl _ rfl f (updB g 2 (b)) rfl _ T8 rfl ?_;intro w8 T8 hs8 hk8 hb8;replace hB:=hb8 _ _ om hB)|(go_at_call 76;go_fit (CA _);rintro e w' ⟨rfl,rfl⟩))
   ((try simp only[Exit.inBlock,Exit.then]);refine bodyPost_ret (qbw rfl _ _ _ _ _ rfl T8) rfl ⟨?_,hB⟩)
   rw[HS.out];rfl
theorem q2r(f:Nat->Int)(g:Nat->Bool)(a:Int)(w:World):
  Calls prog 73 #[plv f g,.int .i64 a] w fun e w'=>e=.returned (qd5 f g a true)/\Below w.heap.size w w':=by
 have T0:PRow ((w.alloc (.cells (pc f g) 35)).alloc (.cells #[.int .i64 0,.int .i64 0,.int .i64 0,.int .i64 0,.int .i64 0,.int .i64 0,.int .i64 0,.int .i64 0,.int .i64 0,.int .i64 0,.int .i64 0,.int .i64 0,.int .i64 0,.int .i64 0,.int .i64 0,.int .i64 0,.int .i64 0,.int .i64 0,.bool false,.bool false,.bool false] 35)) w.heap.size (pc f g):=(PRow.new _ _).alloc _
 have T8:PRow ((w.alloc (.cells (pc f g) 35)).alloc (.cells #[.int .i64 0,.int .i64 0,.int .i64 0,.int .i64 0,.int .i64 0,.int .i64 0,.int .i64 0,.int .i64 0,.int .i64 0,.int .i64 0,.int .i64 0,.int .i64 0,.int .i64 0,.int .i64 0,.int .i64 0,.int .i64 0,.int .i64 0,.int .i64 0,.bool false,.bool false,.bool false] 35)) (w.heap.size+1) (pc (fun _=>0) (fun _=>false)):=by
  exact sZxp21
 have hB:Below w.heap.size w ((w.alloc (.cells (pc f g) 35)).alloc (.cells #[.int .i64 0,.int .i64 0,.int .i64 0,.int .i64 0,.int .i64 0,.int .i64 0,.int .i64 0,.int .i64 0,.int .i64 0,.int .i64 0,.int .i64 0,.int .i64 0,.int .i64 0,.int .i64 0,.int .i64 0,.int .i64 0,.int .i64 0,.int .i64 0,.bool false,.bool false,.bool false] 35)):=((Below.refl _ _).alloc (Nat.le_refl _) _).alloc zm _
 have C:=fun w=>qsx f g a true w
 unfold qd5 at *
 generalize qg3 g a true=G at *
 generalize qfu g a true=ee at *
 unfold plv at *
 go_enter func73,ntmps73
 go_wp2_with (first|(refine qat _ rfl ?_ _ rfl f g T0 ?_;· rfl)|(go_at_call 111;go_fit (C _);rintro e w' ⟨rfl,hb⟩;(try replace hb:=qa1 hb);replace T0:=T0.below hb;replace T8:=T8.below hb;replace hB:=hB.trans (hb.mono hB.size))|(refine qay rfl _ _ rfl _ rfl f G rfl _ T8 rfl ?_;intro w8 T8 hs8 hk8 hb8;replace hB:=hb8 _ _ om hB))
 ((try simp only[Exit.inBlock,Exit.then]);refine bodyPost_ret (qbw rfl _ _ _ _ _ rfl T8) rfl ⟨rfl,hB⟩)
theorem qxg(f:Nat->Int)(g:Nat->Bool)(a:Int)(w:World):
  Calls prog 74 #[plv f g,.int .i64 a] w fun e w'=>e=.returned (qd5 f g a false)/\Below w.heap.size w w':=by
 have T0:PRow ((w.alloc (.cells (pc f g) 35)).alloc (.cells #[.int .i64 0,.int .i64 0,.int .i64 0,.int .i64 0,.int .i64 0,.int .i64 0,.int .i64 0,.int .i64 0,.int .i64 0,.int .i64 0,.int .i64 0,.int .i64 0,.int .i64 0,.int .i64 0,.int .i64 0,.int .i64 0,.int .i64 0,.int .i64 0,.bool false,.bool false,.bool false] 35)) w.heap.size (pc f g):=(PRow.new _ _).alloc _
 have T8:PRow ((w.alloc (.cells (pc f g) 35)).alloc (.cells #[.int .i64 0,.int .i64 0,.int .i64 0,.int .i64 0,.int .i64 0,.int .i64 0,.int .i64 0,.int .i64 0,.int .i64 0,.int .i64 0,.int .i64 0,.int .i64 0,.int .i64 0,.int .i64 0,.int .i64 0,.int .i64 0,.int .i64 0,.int .i64 0,.bool false,.bool false,.bool false] 35)) (w.heap.size+1) (pc (fun _=>0) (fun _=>false)):=by
  exact sZxp21
 have hB:Below w.heap.size w ((w.alloc (.cells (pc f g) 35)).alloc (.cells #[.int .i64 0,.int .i64 0,.int .i64 0,.int .i64 0,.int .i64 0,.int .i64 0,.int .i64 0,.int .i64 0,.int .i64 0,.int .i64 0,.int .i64 0,.int .i64 0,.int .i64 0,.int .i64 0,.int .i64 0,.int .i64 0,.int .i64 0,.int .i64 0,.bool false,.bool false,.bool false] 35)):=((Below.refl _ _).alloc (Nat.le_refl _) _).alloc zm _
 have C:=fun w=>qsx f g a false w
 unfold qd5 at *
 generalize qg3 g a false=G at *
 generalize qfu g a false=ee at *
 unfold plv at *
 go_enter func74,ntmps74
 go_wp2_with (first|(refine qat _ rfl ?_ _ rfl f g T0 ?_;· rfl)|(go_at_call 111;go_fit (C _);rintro e w' ⟨rfl,hb⟩;(try replace hb:=qa1 hb);replace T0:=T0.below hb;replace T8:=T8.below hb;replace hB:=hB.trans (hb.mono hB.size))|(refine qay rfl _ _ rfl _ rfl f G rfl _ T8 rfl ?_;intro w8 T8 hs8 hk8 hb8;replace hB:=hb8 _ _ om hB))
 ((try simp only[Exit.inBlock,Exit.then]);refine bodyPost_ret (qbw rfl _ _ _ _ _ rfl T8) rfl ⟨rfl,hB⟩)
end Go.Proofs.YtnicenfgemkdnaaGreatDoor
