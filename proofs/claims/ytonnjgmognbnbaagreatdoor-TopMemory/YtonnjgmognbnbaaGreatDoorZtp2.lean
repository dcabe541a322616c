/-
  Of what a law stands on.
-/
import Derived.Test.YtonnjgmognbnbaaGreatDoorZtp1
set_option linter.unusedSimpArgs false
set_option linter.unusedVariables false
namespace Go.Proofs.YtonnjgmognbnbaaGreatDoor
open Go.Value renaming int → I,pointer → V
open Go.IntKind renaming i64 → Z
open _root_.Go.Proofs.Tryz Go.ChangeShapes Go.WideShapes Go.ChangeAt Go.RowKit
set_option maxHeartbeats 16000000
set_option maxRecDepth 100000
variable {f:Nat->Int}{g:Nat->Bool}{a:Int}{b:Bool}{p:Prop}
theorem qea{B:Nat}{w0 w:World}(h:Below B w0 w):Below B w0 w.drew:=⟨h.os,h.tape,h.output,h.size,h.block⟩
theorem qtj{s:Int}(h:qdh f g s a=0):qcv f=true/\(0<=a/\a<3)/\(0<=s/\s<8)/\g a.toNat=false/\0<(qbo (rowF f a.toNat)).length:=by
 unfold qdh at h
 by_cases h1:qcv f=true
 ·rw[if_pos h1] at h
  by_cases h2:inR a 3=true/\inR s 8=true
  ·rw[if_pos h2] at h
   by_cases h3:g a.toNat=true
   ·rw[if_pos h3] at h;omega
   ·rw[if_neg h3] at h
    by_cases h4:(qbo (rowF f a.toNat)).length=0
    ·rw[if_pos h4] at h;omega
    ·exact⟨h1,of_decide_eq_true h2.1,of_decide_eq_true h2.2,by simpa using h3,by omega⟩
  ·rw[if_neg h2] at h;omega
 ·rw[if_neg h1] at h;omega
def qfu(g:Nat->Bool)(a:Int)(b:Bool):Int:=if inR a 3=true then(if g a.toNat=b then 8 else 0) else 7
def qg3(g:Nat->Bool)(a:Int)(b:Bool):Nat->Bool:=if qfu g a b=0 then updB g a.toNat b else g
def qd5(f:Nat->Int)(g:Nat->Bool)(a:Int)(b:Bool):Value:=.tuple #[plv f (qg3 g a b),I Z (qfu g a b)]
theorem qzd(h:a<0\/3<=a):qd5 f g a b=.tuple #[plv f g,I Z 7]:=by
 (have e:qfu g a b=7:=by unfold qfu;rw[if_neg (by simp[qfe h])])
 unfold qd5 qg3;rw[e];rfl
theorem qlp{a:Nat}(h:a<3)(h1:g a=b):qd5 f g a b=.tuple #[plv f g,I Z 8]:=by
 (have e:qfu g a b=8:=by unfold qfu;rw[if_pos (qed om om),Int.toNat_natCast,if_pos h1])
 unfold qd5 qg3;rw[e];rfl
theorem qox{a:Nat}(h:a<3)(h1:g a≠b):qd5 f g a b=.tuple #[plv f (updB g a b),I Z 0]:=by
 (have e:qfu g a b=0:=by unfold qfu;rw[if_pos (qed om om),Int.toNat_natCast,if_neg h1])
 unfold qd5 qg3;rw[e,Int.toNat_natCast];rfl
def qbub(f:Nat->Int)(g:Nat->Bool)(a:Int):Bool:=inR a 3&&g a.toNat&&(qe8 f a==6)
theorem qb6b(h:a<0\/3<=a):qbub f g a=false:=by unfold qbub;rw[qfe h];rfl
theorem qbyb{a:Nat}(h:a<3):qbub f g a=(g a&&(qe8 f a==6)):=by unfold qbub;rw[qed om om,Int.toNat_natCast];rfl
theorem sZtp21(h:p:=by
 go_enter func100,ntmps100
 go_upto_region 1 with fail
 generalize((w.alloc (.cells (pc f g) 35)).alloc (.cells #[I Z 0,I Z 0,I Z 0,I Z 0,I Z 0,I Z 0,I Z 0,I Z 0,I Z 0,I Z 0,I Z 0,I Z 0,I Z 0,I Z 0,I Z 0,I Z 0,I Z 0,I Z 0,.bool false,.bool false,.bool false] 35))=w1 at *
 go_wp2_with (first|(refine qat _ rfl ?_ _ rfl f g T0 ?_;· rfl)|(refine m0d ?_;clear T0;intro w8 T8 hs8 hk8 hb8 T0 hB)|(go_at_call 78;go_fit (CA _);rintro e w' ⟨rfl,rfl⟩))
 (refine m03 ?_;refine bodyPost_ret (qbw rfl _ _ _ _ _ rfl T8) rfl ⟨?_,hB⟩)
 rw[HS.out];rfl):p:=h
theorem sZtp23(h:p:=by
 refine m17 ?_;intro h8 e8
 rw[e8] at h8
 exact h8):p:=h
theorem qsx(f:Nat->Int)(g:Nat->Bool)(a:Int)(b:Bool)(w:World):
  Calls prog 100 #[plv f g,I Z a,.bool b] w fun e w'=>e=.returned (qd5 f g a b)/\Below w.heap.size w w':=by
 have T0:PRow ((w.alloc (.cells (pc f g) 35)).alloc (.cells #[I Z 0,I Z 0,I Z 0,I Z 0,I Z 0,I Z 0,I Z 0,I Z 0,I Z 0,I Z 0,I Z 0,I Z 0,I Z 0,I Z 0,I Z 0,I Z 0,I Z 0,I Z 0,.bool false,.bool false,.bool false] 35)) w.heap.size (pc f g):=(PRow.new _ _).alloc _
 have T8:PRow ((w.alloc (.cells (pc f g) 35)).alloc (.cells #[I Z 0,I Z 0,I Z 0,I Z 0,I Z 0,I Z 0,I Z 0,I Z 0,I Z 0,I Z 0,I Z 0,I Z 0,I Z 0,I Z 0,I Z 0,I Z 0,I Z 0,I Z 0,.bool false,.bool false,.bool false] 35)) (w.heap.size+1) (pc (fun _=>0) (fun _=>false)):=by
  exact sZtp23
 refine m0c ?_;intro hB;(have CA:=fun w=>qe7 a w)
 unfold plv
 by_cases hin:0<=a/\a<3
 rotate_left
 ·have HS:Hid (qd5 f g a b=_):=qzd om
  rw[qfe om] at CA
  clear hin
  exact sZtp21
 obtain⟨n,rfl⟩:∃n:Nat,a=n:=⟨a.toNat,by omega⟩
 (have hn:n<3:=by omega)
 rw[qed hin.1 hin.2] at CA
 clear hin
 rcases(show n=0\/n=1\/n=2 by omega) with rfl|rfl|rfl
 ·have dr:((w.alloc (.cells (pc f g) 35)).alloc (.cells #[I Z 0,I Z 0,I Z 0,I Z 0,I Z 0,I Z 0,I Z 0,I Z 0,I Z 0,I Z 0,I Z 0,I Z 0,I Z 0,I Z 0,I Z 0,I Z 0,I Z 0,I Z 0,.bool false,.bool false,.bool false] 35)).cell? ⟨w.heap.size,18,none⟩=some (.bool (g 0)):=T0.dr 0 om;have fr:((w.alloc (.cells (pc f g) 35)).alloc (.cells #[I Z 0,I Z 0,I Z 0,I Z 0,I Z 0,I Z 0,I Z 0,I Z 0,I Z 0,I Z 0,I Z 0,I Z 0,I Z 0,I Z 0,I Z 0,I Z 0,I Z 0,I Z 0,.bool false,.bool false,.bool false] 35)).frozen? ⟨w.heap.size,18,none⟩=false:=T0.free 18
  by_cases he:g 0=b
  ·have HS:Hid (qd5 f g ((0:Nat):Int) b=_):=qlp hn he;(have hq:(g 0==b)=true:=by simpa using he);clear he
   exact sZtp21
  ·have HS:Hid (qd5 f g ((0:Nat):Int) b=_):=qox hn he;(have hq:(g 0==b)=false:=by simpa using he);clear he
   go_enter func100,ntmps100
   go_upto_region 1 with fail
   generalize((w.alloc (.cells (pc f g) 35)).alloc (.cells #[I Z 0,I Z 0,I Z 0,I Z 0,I Z 0,I Z 0,I Z 0,I Z 0,I Z 0,I Z 0,I Z 0,I Z 0,I Z 0,I Z 0,I Z 0,I Z 0,I Z 0,I Z 0,.bool false,.bool false,.bool false] 35))=w1 at *
   go_wp2_with (first|(refine qat _ rfl ?_ _ rfl f g T0 ?_;· rfl)|(refine m0d ?_;clear T0 hB;intro w8 T8 hs8 hk8 hb8 T0 hB)|(replace T0:=T0.updB 0 (b) om;replace T8:=T8.other (o:=18+0) (v:=.bool (b)) (show w.heap.size+1≠w.heap.size by omega);replace hB:=hB.setCell (p:=⟨w.heap.size,18+0,none⟩) (Nat.le_refl _) (.bool (b));refine qat _ rfl ?_ _ rfl f (updB g 0 (b)) T0 ?_;· rfl)|(refine qay rfl _ _ rfl _ rfl f (updB g 0 (b)) rfl _ T8 rfl ?_;intro w8 T8 hs8 hk8 hb8;replace hB:=hb8 _ _ om hB)|(go_at_call 78;go_fit (CA _);rintro e w' ⟨rfl,rfl⟩))
   (refine m03 ?_;refine bodyPost_ret (qbw rfl _ _ _ _ _ rfl T8) rfl ⟨?_,hB⟩)
   rw[HS.out];rfl
 ·have dr:((w.alloc (.cells (pc f g) 35)).alloc (.cells #[I Z 0,I Z 0,I Z 0,I Z 0,I Z 0,I Z 0,I Z 0,I Z 0,I Z 0,I Z 0,I Z 0,I Z 0,I Z 0,I Z 0,I Z 0,I Z 0,I Z 0,I Z 0,.bool false,.bool false,.bool false] 35)).cell? ⟨w.heap.size,19,none⟩=some (.bool (g 1)):=T0.dr 1 om;have fr:((w.alloc (.cells (pc f g) 35)).alloc (.cells #[I Z 0,I Z 0,I Z 0,I Z 0,I Z 0,I Z 0,I Z 0,I Z 0,I Z 0,I Z 0,I Z 0,I Z 0,I Z 0,I Z 0,I Z 0,I Z 0,I Z 0,I Z 0,.bool false,.bool false,.bool false] 35)).frozen? ⟨w.heap.size,19,none⟩=false:=T0.free 19
  by_cases he:g 1=b
  ·have HS:Hid (qd5 f g ((1:Nat):Int) b=_):=qlp hn he;(have hq:(g 1==b)=true:=by simpa using he);clear he
   exact sZtp21
  ·have HS:Hid (qd5 f g ((1:Nat):Int) b=_):=qox hn he;(have hq:(g 1==b)=false:=by simpa using he);clear he
   go_enter func100,ntmps100
   go_upto_region 1 with fail
   generalize((w.alloc (.cells (pc f g) 35)).alloc (.cells #[I Z 0,I Z 0,I Z 0,I Z 0,I Z 0,I Z 0,I Z 0,I Z 0,I Z 0,I Z 0,I Z 0,I Z 0,I Z 0,I Z 0,I Z 0,I Z 0,I Z 0,I Z 0,.bool false,.bool false,.bool false] 35))=w1 at *
   go_wp2_with (first|(refine qat _ rfl ?_ _ rfl f g T0 ?_;· rfl)|(refine m0d ?_;clear T0 hB;intro w8 T8 hs8 hk8 hb8 T0 hB)|(replace T0:=T0.updB 1 (b) om;replace T8:=T8.other (o:=18+1) (v:=.bool (b)) (show w.heap.size+1≠w.heap.size by omega);replace hB:=hB.setCell (p:=⟨w.heap.size,18+1,none⟩) (Nat.le_refl _) (.bool (b));refine qat _ rfl ?_ _ rfl f (updB g 1 (b)) T0 ?_;· rfl)|(refine qay rfl _ _ rfl _ rfl f (updB g 1 (b)) rfl _ T8 rfl ?_;intro w8 T8 hs8 hk8 hb8;replace hB:=hb8 _ _ om hB)|(go_at_call 78;go_fit (CA _);rintro e w' ⟨rfl,rfl⟩))
   (refine m03 ?_;refine bodyPost_ret (qbw rfl _ _ _ _ _ rfl T8) rfl ⟨?_,hB⟩)
   rw[HS.out];rfl
 ·have dr:((w.alloc (.cells (pc f g) 35)).alloc (.cells #[I Z 0,I Z 0,I Z 0,I Z 0,I Z 0,I Z 0,I Z 0,I Z 0,I Z 0,I Z 0,I Z 0,I Z 0,I Z 0,I Z 0,I Z 0,I Z 0,I Z 0,I Z 0,.bool false,.bool false,.bool false] 35)).cell? ⟨w.heap.size,20,none⟩=some (.bool (g 2)):=T0.dr 2 om;have fr:((w.alloc (.cells (pc f g) 35)).alloc (.cells #[I Z 0,I Z 0,I Z 0,I Z 0,I Z 0,I Z 0,I Z 0,I Z 0,I Z 0,I Z 0,I Z 0,I Z 0,I Z 0,I Z 0,I Z 0,I Z 0,I Z 0,I Z 0,.bool false,.bool false,.bool false] 35)).frozen? ⟨w.heap.size,20,none⟩=false:=T0.free 20
  by_cases he:g 2=b
  ·have HS:Hid (qd5 f g ((2:Nat):Int) b=_):=qlp hn he;(have hq:(g 2==b)=true:=by simpa using he);clear he
   exact sZtp21
  ·have HS:Hid (qd5 f g ((2:Nat):Int) b=_):=qox hn he;(have hq:(g 2==b)=false:=by simpa using he);clear he
   go_enter func100,ntmps100
   go_upto_region 1 with fail
   generalize((w.alloc (.cells (pc f g) 35)).alloc (.cells #[I Z 0,I Z 0,I Z 0,I Z 0,I Z 0,I Z 0,I Z 0,I Z 0,I Z 0,I Z 0,I Z 0,I Z 0,I Z 0,I Z 0,I Z 0,I Z 0,I Z 0,I Z 0,.bool false,.bool false,.bool false] 35))=w1 at *
   go_wp2_with (first|(refine qat _ rfl ?_ _ rfl f g T0 ?_;· rfl)|(refine m0d ?_;clear T0 hB;intro w8 T8 hs8 hk8 hb8 T0 hB)|(replace T0:=T0.updB 2 (b) om;replace T8:=T8.other (o:=18+2) (v:=.bool (b)) (show w.heap.size+1≠w.heap.size by omega);replace hB:=hB.setCell (p:=⟨w.heap.size,18+2,none⟩) (Nat.le_refl _) (.bool (b));refine qat _ rfl ?_ _ rfl f (updB g 2 (b)) T0 ?_;· rfl)|(refine qay rfl _ _ rfl _ rfl f (updB g 2 (b)) rfl _ T8 rfl ?_;intro w8 T8 hs8 hk8 hb8;replace hB:=hb8 _ _ om hB)|(go_at_call 78;go_fit (CA _);rintro e w' ⟨rfl,rfl⟩))
   (refine m03 ?_;refine bodyPost_ret (qbw rfl _ _ _ _ _ rfl T8) rfl ⟨?_,hB⟩)
   rw[HS.out];rfl
theorem q2r(f:Nat->Int)(g:Nat->Bool)(a:Int)(w:World):
  Calls prog 58 #[plv f g,I Z a] w fun e w'=>e=.returned (qd5 f g a true)/\Below w.heap.size w w':=by
 have T0:PRow ((w.alloc (.cells (pc f g) 35)).alloc (.cells #[I Z 0,I Z 0,I Z 0,I Z 0,I Z 0,I Z 0,I Z 0,I Z 0,I Z 0,I Z 0,I Z 0,I Z 0,I Z 0,I Z 0,I Z 0,I Z 0,I Z 0,I Z 0,.bool false,.bool false,.bool false] 35)) w.heap.size (pc f g):=(PRow.new _ _).alloc _
 have T8:PRow ((w.alloc (.cells (pc f g) 35)).alloc (.cells #[I Z 0,I Z 0,I Z 0,I Z 0,I Z 0,I Z 0,I Z 0,I Z 0,I Z 0,I Z 0,I Z 0,I Z 0,I Z 0,I Z 0,I Z 0,I Z 0,I Z 0,I Z 0,.bool false,.bool false,.bool false] 35)) (w.heap.size+1) (pc (fun _=>0) (fun _=>false)):=by
  exact sZtp23
 refine m0c ?_;intro hB;(have C:=fun w=>qsx f g a true w)
 unfold qd5 at *
 generalize qg3 g a true=G at *
 generalize qfu g a true=ee at *
 unfold plv at *
 go_enter func58,ntmps58
 go_wp2_with (first|(refine qat _ rfl ?_ _ rfl f g T0 ?_;· rfl)|(go_at_call 100;go_fit (C _);rintro e w' ⟨rfl,hb⟩;refine m2r ?_;clear hb T0 T8 hB;intro hb T0 T8 hB)|(refine qay rfl _ _ rfl _ rfl f G rfl _ T8 rfl ?_;intro w8 T8 hs8 hk8 hb8;replace hB:=hb8 _ _ om hB))
 (refine m03 ?_;refine bodyPost_ret (qbw rfl _ _ _ _ _ rfl T8) rfl ⟨rfl,hB⟩)
theorem qxg(f:Nat->Int)(g:Nat->Bool)(a:Int)(w:World):
  Calls prog 59 #[plv f g,I Z a] w fun e w'=>e=.returned (qd5 f g a false)/\Below w.heap.size w w':=by
 have T0:PRow ((w.alloc (.cells (pc f g) 35)).alloc (.cells #[I Z 0,I Z 0,I Z 0,I Z 0,I Z 0,I Z 0,I Z 0,I Z 0,I Z 0,I Z 0,I Z 0,I Z 0,I Z 0,I Z 0,I Z 0,I Z 0,I Z 0,I Z 0,.bool false,.bool false,.bool false] 35)) w.heap.size (pc f g):=(PRow.new _ _).alloc _
 have T8:PRow ((w.alloc (.cells (pc f g) 35)).alloc (.cells #[I Z 0,I Z 0,I Z 0,I Z 0,I Z 0,I Z 0,I Z 0,I Z 0,I Z 0,I Z 0,I Z 0,I Z 0,I Z 0,I Z 0,I Z 0,I Z 0,I Z 0,I Z 0,.bool false,.bool false,.bool false] 35)) (w.heap.size+1) (pc (fun _=>0) (fun _=>false)):=by
  exact sZtp23
 refine m0c ?_;intro hB;(have C:=fun w=>qsx f g a false w)
 unfold qd5 at *
 generalize qg3 g a false=G at *
 generalize qfu g a false=ee at *
 unfold plv at *
 go_enter func59,ntmps59
 go_wp2_with (first|(refine qat _ rfl ?_ _ rfl f g T0 ?_;· rfl)|(go_at_call 100;go_fit (C _);rintro e w' ⟨rfl,hb⟩;refine m2r ?_;clear hb T0 T8 hB;intro hb T0 T8 hB)|(refine qay rfl _ _ rfl _ rfl f G rfl _ T8 rfl ?_;intro w8 T8 hs8 hk8 hb8;replace hB:=hb8 _ _ om hB))
 (refine m03 ?_;refine bodyPost_ret (qbw rfl _ _ _ _ _ rfl T8) rfl ⟨rfl,hB⟩)
theorem sZtp22(h:p:=by
 rw[hg] at dr
 go_enter func43,ntmps43
 go_wp2_with (first|(refine qat _ rfl ?_ _ rfl f g T0 ?_;· rfl)|(go_at_call 78;go_fit (CA _);rintro e w' ⟨rfl,rfl⟩)|(go_at_call 44;go_fit (CL _);rintro e w' ⟨rfl,hb⟩;refine m6d ?_;clear hb T0;intro hb T0 hB))
 go_ret
 exact⟨by rw[H.out,hg];rfl,hB⟩):p:=h
theorem qb7b(f:Nat->Int)(g:Nat->Bool)(a:Int)(w:World):
  Calls prog 43 #[plv f g,I Z a] w fun e w'=>e=.returned (.bool (qbub f g a))/\Below w.heap.size w w':=by
 refine m38 ?_;intro hB T0;(have CA:=fun w=>qe7 a w);(have CL:=fun w=>qqh f g a w)
 unfold plv at *
 by_cases hin:0<=a/\a<3
 rotate_left
 ·have H:Hid (qbub f g a=false):=qb6b om
  rw[qfe om] at CA
  clear hin
  go_enter func43,ntmps43
  go_wp2_with (first|(refine qat _ rfl ?_ _ rfl f g T0 ?_;· rfl)|(go_at_call 78;go_fit (CA _);rintro e w' ⟨rfl,rfl⟩))
  go_ret
  exact⟨by rw[H.out];first|rfl|(simp<;>omega),hB⟩
 obtain⟨n,rfl⟩:∃n:Nat,a=n:=⟨a.toNat,by omega⟩
 (have hn:n<3:=by omega)
 rw[qed hin.1 hin.2] at CA
 clear hin;have L:Hid (qe8 f (n:Int)=((qbo (rowF f n)).length:Int)):=qne f n hn;have H:Hid (qbub f g (n:Int)=_):=qbyb hn
 rcases(show n=0\/n=1\/n=2 by omega) with rfl|rfl|rfl
 ·have dr:(w.alloc (.cells (pc f g) 35)).cell? ⟨w.heap.size,18,none⟩=some (.bool (g 0)):=T0.dr 0 om
  cases hg:g 0 with
  | false=>
   exact sZtp22
  | true=>
   exact sZtp22
 ·have dr:(w.alloc (.cells (pc f g) 35)).cell? ⟨w.heap.size,19,none⟩=some (.bool (g 1)):=T0.dr 1 om
  cases hg:g 1 with
  | false=>
   exact sZtp22
  | true=>
   exact sZtp22
 ·have dr:(w.alloc (.cells (pc f g) 35)).cell? ⟨w.heap.size,20,none⟩=some (.bool (g 2)):=T0.dr 2 om
  cases hg:g 2 with
  | false=>
   exact sZtp22
  | true=>
   exact sZtp22
end Go.Proofs.YtonnjgmognbnbaaGreatDoor
