/-
  Of what a law stands on.
-/
import Derived.DeepKeys
import Derived.SizedLaws
import Derived.Deep.RegionHeld3
import Derived.Test.YtnkpgdejagglaaaGreatDoorZyp1
set_option linter.all false
namespace Go.Proofs.YtnkpgdejagglaaaGreatDoor
open _root_.Go renaming Calls->az,World->af,bodyPost_ret->aL,wpList_load_mid->jB
open _root_.Go.RowKit renaming Below->aq,Hid->aK,wrap64->bK
open _root_.Option.some renaming inj->bC
open Go.Value renaming int → I,pointer → V
open Go.IntKind renaming i64 → Z
open _root_.Go.Proofs.Tryz Go.ChangeShapes Go.WideShapes Go.ChangeAt Go.RowKit
set_option maxHeartbeats 16000000
set_option maxRecDepth 100000
variable {w:World}{b:Bool}{f:Nat->Int}{g:Nat->Bool}{d s:Int}{a k:Nat}{p:Prop}
def MI(b o l:Nat)(h:l<3)(w:af):(Instr.indexAt 35 (V (some ⟨b,o,none⟩)) (I Z (l:Int))).run prog w=.ok (V (some ⟨b,o+6*l,none⟩)) w:=by
 (have hs:(sizeOf 34).run prog w=.ok 6 w:=by kernel_rfl);(have h1:(l:Int)<3:=by omega)
 simp[go_sem,underlying35,h1,h,hs]
def MJ(b o l:Nat)(h:l<6)(w:af):(Instr.indexAt 34 (V (some ⟨b,o,none⟩)) (I Z (l:Int))).run prog w=.ok (V (some ⟨b,o+l,none⟩)) w:=by
 (have hs:(sizeOf 3).run prog w=.ok 1 w:=by kernel_rfl);(have h1:(l:Int)<6:=by omega)
 simp[go_sem,underlying34,h1,h,hs]
def ixd(b o l:Nat)(h:l<3)(w:af):(Instr.indexAt 36 (V (some ⟨b,o,none⟩)) (I Z (l:Int))).run prog w=.ok (V (some ⟨b,o+l,none⟩)) w:=by
 (have hs:(sizeOf 4).run prog w=.ok 1 w:=by kernel_rfl);(have h1:(l:Int)<3:=by omega)
 simp[go_sem,underlying36,h1,h,hs]
def cg.TX{b:Nat}(h:cg w b (pc f g)){n:Nat}(hn:n<3):w.rangeAt b (6*n) [I Z (aX f n 0),I Z (aX f n 1),I Z (aX f n 2),I Z (aX f n 3),I Z (aX f n 4),I Z (aX f n 5)]:=by
 intro j v hv
 match j,hv with
 | 0,hv=>obtain rfl:=bC hv;exact h.own _ om
 | 1,hv=>obtain rfl:=bC hv;exact h.own _ om
 | 2,hv=>obtain rfl:=bC hv;exact h.own _ om
 | 3,hv=>obtain rfl:=bC hv;exact h.own _ om
 | 4,hv=>obtain rfl:=bC hv;exact h.own _ om
 | 5,hv=>obtain rfl:=bC hv;exact h.own _ om
def iY(f:Nat->Int)(g:Nat->Bool)(s a:Int):Int:=if iX f=true then(if iT a 3=true/\iT s 8=true then(if g a.toNat=true then 9 else if (fD (aX f a.toNat)).length=0 then 10 else 0) else 7) else 2
def oK(f:Nat->Int)(g:Nat->Bool)(s a d:Int):Nat:=if iY f g s a=0 then o7 (fD (aX f a.toNat)) d else 0
def tR(f:Nat->Int)(g:Nat->Bool)(s a d:Int):Nat->Int:=if iY f g s a=0 then upd f (6*a.toNat+oK f g s a d) (s+1) else f
theorem q8a(f:Nat->Int)(g:Nat->Bool)(s a d e:Int)(h:iY f g s a=e)(he:e≠0):oK f g s a d=0/\tR f g s a d=f:=by grind [iY,oK,tR]
theorem q5w(f:Nat->Int)(g:Nat->Bool)(s d:Int)(a:Nat)(h:iY f g s a=0):oK f g s a d=o7 (fD (aX f a)) d/\tR f g s a d=upd f (6*a+o7 (fD (aX f a)) d) (s+1):=by grind [iY,oK,o7,fD,aX,tR,upd]
theorem q1y{a:Int}(h:iX f=false):iY f g s a=2:=by grind [iX,iY]
theorem qzh{a:Int}(h:iX f=true)(h1:¬(iT a 3=true/\iT s 8=true)):iY f g s a=7:=by grind [iX,iT,iY]
theorem qqf(h:iX f=true)(h1:a<3)(h2:iT s 8=true)(h3:g a=true):iY f g s a=9:=by grind [iX,iT,iY]
theorem qnz(h:iX f=true)(h1:a<3)(h2:iT s 8=true)(h3:g a=false)(h4:(fD (aX f a)).length=0):iY f g s a=10:=by grind [iX,iT,fD,aX,iY]
theorem qqu(h:iX f=true)(h1:a<3)(h2:iT s 8=true)(h3:g a=false)(h4:(fD (aX f a)).length≠0):iY f g s a=0:=by grind [iX,iT,fD,aX,iY]
def qW(f:Nat->Int)(g:Nat->Bool)(s a d:Int):Value:=.tuple #[gg (tR f g s a d) g,I Z ((oK f g s a d:Nat):Int),I Z (iY f g s a)]
theorem Iz{a e:Int}(h:iY f g s a=e)(he:e≠0):qW f g s a d=.tuple #[gg f g,I Z 0,I Z e]:=by
 obtain⟨h1,h2⟩:=q8a f g s a d e h he
 grind [iY,qW,gg]
theorem qo3(h:iY f g s a=0):qW f g s a d=.tuple #[gg (upd f (6*a+o7 (fD (aX f a)) d) (s+1)) g,I Z ((o7 (fD (aX f a)) d:Nat):Int),I Z 0]:=by grind [q5w,qW,iY,gg,upd,o7,fD,aX]
def mP(h:p:=by
 have h8:cg ((w.alloc (.cells (pc f g) 38)).alloc (.cells #[I Z 0,I Z 0,I Z 0,I Z 0,I Z 0,I Z 0,I Z 0,I Z 0,I Z 0,I Z 0,I Z 0,I Z 0,I Z 0,I Z 0,I Z 0,I Z 0,I Z 0,I Z 0,.bool false,.bool false,.bool false] 38)) (w.alloc (.cells (pc f g) 38)).heap.size #[I Z 0,I Z 0,I Z 0,I Z 0,I Z 0,I Z 0,I Z 0,I Z 0,I Z 0,I Z 0,I Z 0,I Z 0,I Z 0,I Z 0,I Z 0,I Z 0,I Z 0,I Z 0,.bool false,.bool false,.bool false]:=cg.new _ _;(have e8:(w.alloc (.cells (pc f g) 38)).heap.size=w.heap.size+1:=by simp)
 rw[e8] at h8
 exact h8):p:=h
def qtm(f:Nat->Int)(g:Nat->Bool)(s a d:Int)(hd:(Lit.int .i64 d).wf=true)(w:af):
  az prog 190 #[gg f g,.int .i64 s,.int .i64 a,.int .i64 d] w fun e w'=>e=.returned (qW f g s a d)/\aq w.heap.size w w':=by
 have T0:cg ((w.alloc (.cells (pc f g) 38)).alloc (.cells #[.int .i64 0,.int .i64 0,.int .i64 0,.int .i64 0,.int .i64 0,.int .i64 0,.int .i64 0,.int .i64 0,.int .i64 0,.int .i64 0,.int .i64 0,.int .i64 0,.int .i64 0,.int .i64 0,.int .i64 0,.int .i64 0,.int .i64 0,.int .i64 0,.bool false,.bool false,.bool false] 38)) w.heap.size (pc f g):=(cg.new _ _).alloc _
 have T8:cg ((w.alloc (.cells (pc f g) 38)).alloc (.cells #[.int .i64 0,.int .i64 0,.int .i64 0,.int .i64 0,.int .i64 0,.int .i64 0,.int .i64 0,.int .i64 0,.int .i64 0,.int .i64 0,.int .i64 0,.int .i64 0,.int .i64 0,.int .i64 0,.int .i64 0,.int .i64 0,.int .i64 0,.int .i64 0,.bool false,.bool false,.bool false] 38)) (w.heap.size+1) (pc (fun _=>0) (fun _=>false)):=by
  exact mP
 refine Na ?_;intro hB;(have CG:=fun w=>Ve f g w);(have CA:=fun w=>TT a w);(have CS:=fun w=>qlq s w)
 unfold gg at CG
 unfold gg
 cases kM:iX f with
 | false=>
  have HS:aK (qW f g s a d=_):=Iz (q1y kM) om
  rw[kM] at CG
  go_enter func190,ntmps190
  go_wp2_with (first|(refine lI _ rfl ?_ _ rfl f g T0 ?_;· rfl)|(refine B9 ?_;clear T0 hB;intro w8 T8 kG nR iQ T0 hB)|(go_at_call 183;refine s8 ?_;intro w' hb;refine um ?_;clear T0 T8 hB;intro T0 T8 hB))
  (refine aL (ET rfl _ _ _ _ _ rfl T8) rfl ⟨?_,hB⟩)
  rw[HS.out];rfl
 | true=>
  rw[kM] at CG
  by_cases dR:iT a 3=true/\iT s 8=true
  rotate_left
  .have HS:aK (qW f g s a d=_):=Iz (qzh kM dR) om;clear kM
   cases ha:iT a 3 with
   | false=>
    rw[ha] at CA
    go_enter func190,ntmps190
    go_wp2_with (first|(refine lI _ rfl ?_ _ rfl f g T0 ?_;· rfl)|(refine B9 ?_;clear T0 hB;intro w8 T8 kG nR iQ T0 hB)|(go_at_call 183;refine s8 ?_;intro w' hb;refine um ?_;clear T0 T8 hB;intro T0 T8 hB)|(go_at_call 101;go_fit (CA _);rintro e w' ⟨rfl,rfl⟩))
    (refine aL (ET rfl _ _ _ _ _ rfl T8) rfl ⟨?_,hB⟩)
    rw[HS.out];rfl
   | true=>
    have hs:iT s 8=false:=by
     cases h:iT s 8 with
     | false=>rfl
     | true=>exact absurd ⟨ha,h⟩ dR
    rw[ha] at CA
    rw[hs] at CS
    go_enter func190,ntmps190
    go_wp2_with (first|(refine lI _ rfl ?_ _ rfl f g T0 ?_;· rfl)|(refine B9 ?_;clear T0 hB;intro w8 T8 kG nR iQ T0 hB)|(go_at_call 183;refine s8 ?_;intro w' hb;refine um ?_;clear T0 T8 hB;intro T0 T8 hB)|(go_at_call 101;go_fit (CA _);rintro e w' ⟨rfl,rfl⟩)|(go_at_call 205;go_fit (CS _);rintro e w' ⟨rfl,rfl⟩))
    (refine aL (ET rfl _ _ _ _ _ rfl T8) rfl ⟨?_,hB⟩)
    rw[HS.out];rfl
  obtain⟨xK,sG⟩:=dR;have hba:0<=a/\a<3:=of_decide_eq_true xK;have OH:0<=s/\s<8:=of_decide_eq_true sG
  rw[xK] at CA
  rw[sG] at CS
  obtain⟨n,rfl⟩:∃n:Nat,a=n:=⟨a.toNat,by omega⟩
  (have hn:n<3:=by omega);(have I3:=fun b w=>MI b 0 n hn w);(have ID:=fun b w=>ixd b 18 n hn w)
  simp only[Nat.zero_add] at I3
  (have CF:=fun w=>W5 (aX f n) w);have dr:=T0.dr n hn;have k7:=PG (aX f n) 6;have TY:(fD (aX f n)).length<=6:=k7;clear k7
  cases hg:g n with
  | true=>
   have HS:aK (qW f g s (n:Int) d=_):=Iz (qqf kM hn sG hg) om
   rw[hg] at dr
   clear kM xK sG
   go_enter func190,ntmps190
   go_wp2_with (first|(refine lI _ rfl ?_ _ rfl f g T0 ?_;· rfl)|(refine B9 ?_;clear T0 hB;intro w8 T8 kG nR iQ T0 hB)|(go_at_call 183;refine s8 ?_;intro w' hb;refine um ?_;clear T0 T8 hB;intro T0 T8 hB;replace dr:=T0.dr n hn;rw[hg] at dr)|(go_at_call 101;go_fit (CA _);rintro e w' ⟨rfl,rfl⟩)|(go_at_call 205;go_fit (CS _);rintro e w' ⟨rfl,rfl⟩))
   (refine aL (ET rfl _ _ _ _ _ rfl T8) rfl ⟨?_,hB⟩)
   rw[HS.out];rfl
  | false=>
   rw[hg] at dr
   by_cases hz:(fD (aX f n)).length=0
   .have HS:aK (qW f g s (n:Int) d=_):=Iz (qnz kM hn sG hg hz) om;(have hz':((fD (aX f n)).length:Int)=0:=by omega);clear kM xK sG hz
    go_enter func190,ntmps190
    go_wp2_with (first|(refine lI _ rfl ?_ _ rfl f g T0 ?_;· rfl)|(refine B9 ?_;clear T0 hB;intro w8 T8 kG nR iQ T0 hB)|(refine jB rfl 34 _ rfl _ (6*n) rfl [.int .i64 (aX f n 0),.int .i64 (aX f n 1),.int .i64 (aX f n 2),.int .i64 (aX f n 3),.int .i64 (aX f n 4),.int .i64 (aX f n 5)] _ (T0.TX hn) underlying34 rfl kr ?_)|(go_at_call 183;refine s8 ?_;intro w' hb;refine um ?_;clear T0 T8 hB;intro T0 T8 hB;replace dr:=T0.dr n hn;rw[hg] at dr)|(go_at_call 101;go_fit (CA _);rintro e w' ⟨rfl,rfl⟩)|(go_at_call 205;go_fit (CS _);rintro e w' ⟨rfl,rfl⟩)|(go_at_call 213;go_fit (CF _);rintro e w' ⟨v,rfl,⟨a1,c1,rfl⟩,hI,hb⟩;refine um ?_;clear T0 T8 hB;intro T0 T8 hB))
    (refine aL (ET rfl _ _ _ _ _ rfl T8) rfl ⟨?_,hB⟩)
    rw[HS.out];rfl
   .refine m54 ?_;intro HS gI hz'
    obtain⟨K,hK⟩:∃K,o7 (fD (aX f n)) d=K:=⟨_,rfl⟩
    have hm:=P9 _ _ (Qa (fD (aX f n)) d gI)
    rw[hK] at hm
    (have Qf:(K:Int)<6:=by omega);(have Yt:(0:Int)<=(K:Int):=by omega);(have hs1:bK (s+1)=s+1:=by unfold bK;omega)
    replace HS:aK (qW f g s (n:Int) d=.tuple #[gg (upd f (6*n+K) (s+1)) g,.int .i64 (K:Int),.int .i64 0]):=by
     show _=_
     rw[HS.out,hK]
    have hm6:K<6:=hm.1;(have vT:6*n+K<18:=by omega);(have I6:=fun b w=>MJ b (6*n) K hm6 w);clear kM xK sG hz hm
    go_enter func190,ntmps190
    go_wp2_with (first|(refine lI _ rfl ?_ _ rfl f g T0 ?_;· rfl)|(refine m5a ?_;clear T0 T8 hB;intro T0 T8 hB;refine lI _ rfl ?_ _ rfl (upd f (6*n+K) (s+1)) g T0 ?_;· rfl)|(refine Hx rfl _ _ rfl _ rfl (upd f (6*n+K) (s+1)) g rfl _ T8 rfl ?_;intro w8 T8 kG nR iQ;replace hB:=iQ _ _ om hB)|(refine jB rfl 34 _ rfl _ (6*n) rfl [.int .i64 (aX f n 0),.int .i64 (aX f n 1),.int .i64 (aX f n 2),.int .i64 (aX f n 3),.int .i64 (aX f n 4),.int .i64 (aX f n 5)] _ (T0.TX hn) underlying34 rfl kr ?_)|(go_at_call 183;refine s8 ?_;intro w' hb;refine um ?_;clear T0 T8 hB;intro T0 T8 hB;replace dr:=T0.dr n hn;rw[hg] at dr)|(go_at_call 101;go_fit (CA _);rintro e w' ⟨rfl,rfl⟩)|(go_at_call 205;go_fit (CS _);rintro e w' ⟨rfl,rfl⟩)|(go_at_call 213;go_fit (CF _);rintro e w' ⟨v,rfl,⟨a1,c1,rfl⟩,hI,hb⟩;refine um ?_;clear T0 T8 hB;intro T0 T8 hB;have cw:=T0.own (6*n+K) vT;have fw:=T0.free (6*n+K))|(go_at_call 214;refine(qmf _ _ _ d _ hI gI hd om).mono ?_;rintro e w' ⟨rfl,rfl⟩;rw[hK]))
    (refine aL (ET rfl _ _ _ _ _ rfl T8) rfl ⟨?_,hB⟩)
    rw[HS.out];rfl
def sR(h:p:=by
 go_wp2_with (first|(refine lI _ rfl ?_ _ rfl f g T0 ?_;· rfl)|(refine B9 ?_;clear T0;intro w8 T8 kG nR iQ T0 hB)|(go_at_call 167;refine s8 ?_;intro w' hb;refine um ?_;clear T0 T8 hB;intro T0 T8 hB))
 (refine bodyPost_ret (ET rfl _ _ _ _ _ rfl T8) rfl ⟨?_,hB⟩)
 rw[HS.out];rfl):p:=h
def DC(h:p:=by
 go_enter func118,ntmps118
 exact sR):p:=h
def qdW(f:Nat->Int)(g:Nat->Bool)(s a d:Int)(hd:(Lit.int .i64 d).wf=true)(w:af):
  az prog 118 #[gg f g,.int .i64 s,.int .i64 a,.int .i64 d] w fun e w'=>e=.returned (qW f g s a d)/\aq w.heap.size w w':=by
 have T0:cg ((w.alloc (.cells (pc f g) 38)).alloc (.cells #[.int .i64 0,.int .i64 0,.int .i64 0,.int .i64 0,.int .i64 0,.int .i64 0,.int .i64 0,.int .i64 0,.int .i64 0,.int .i64 0,.int .i64 0,.int .i64 0,.int .i64 0,.int .i64 0,.int .i64 0,.int .i64 0,.int .i64 0,.int .i64 0,.bool false,.bool false,.bool false] 38)) w.heap.size (pc f g):=(cg.new _ _).alloc _
 have T8:cg ((w.alloc (.cells (pc f g) 38)).alloc (.cells #[.int .i64 0,.int .i64 0,.int .i64 0,.int .i64 0,.int .i64 0,.int .i64 0,.int .i64 0,.int .i64 0,.int .i64 0,.int .i64 0,.int .i64 0,.int .i64 0,.int .i64 0,.int .i64 0,.int .i64 0,.int .i64 0,.int .i64 0,.int .i64 0,.bool false,.bool false,.bool false] 38)) (w.heap.size+1) (pc (fun _=>0) (fun _=>false)):=by
  exact mP
 refine Na ?_;intro hB;(have CG:=fun w=>MT f g w)
 unfold gg at CG
 unfold gg
 cases kM:iX f with
 | false=>
  have HS:aK (qW f g s a d=_):=Iz (q1y kM) om
  rw[kM] at CG
  exact DC
 | true=>
  rw[kM] at CG
  by_cases dR:iT a 3=true/\iT s 8=true
  rotate_left
  .have HS:aK (qW f g s a d=_):=Iz (qzh kM dR) om;clear kM
   have lr:(a<0\/2<a)\/(s<0\/7<s):=by
    by_cases h:(a<0\/2<a)\/(s<0\/7<s)
    .exact h
    .exact absurd ⟨AA om om,AA om om⟩ dR
   clear dR
   by_cases h1:a<0
   .go_enter func118,ntmps118
    exact sR
   ·(have gY:0<=a:=by omega);clear h1
    by_cases h2:2<a
    .go_enter func118,ntmps118
     exact sR
    ·(have Es:a<=2:=by omega);clear h2
     by_cases h3:s<0
     .go_enter func118,ntmps118
      exact sR
     ·(have GP:0<=s:=by omega);(have OM:7<s:=by omega);clear h3 lr
      exact DC
  obtain⟨xK,sG⟩:=dR;have hba:0<=a/\a<3:=of_decide_eq_true xK;have OH:0<=s/\s<8:=of_decide_eq_true sG
  obtain⟨n,rfl⟩:∃n:Nat,a=n:=⟨a.toNat,by omega⟩
  (have hn:n<3:=by omega);(have I3:=fun b w=>MI b 0 n hn w);(have ID:=fun b w=>ixd b 18 n hn w)
  simp only[Nat.zero_add] at I3
  have d2:decide (2<(n:Int))=false:=decide_eq_false om;(have CF:=fun w=>Gn f g n om w)
  unfold gg at CF
  have dr:=T0.dr n hn;have k7:=PG (aX f n) 6;have TY:(fD (aX f n)).length<=6:=k7;clear k7
  cases hg:g n with
  | true=>
   have HS:aK (qW f g s (n:Int) d=_):=Iz (qqf kM hn sG hg) om
   rw[hg] at dr
   clear kM xK sG
   go_enter func118,ntmps118
   go_wp2_with (first|(refine lI _ rfl ?_ _ rfl f g T0 ?_;· rfl)|(refine B9 ?_;clear T0 hB;intro w8 T8 kG nR iQ T0 hB)|(go_at_call 167;refine s8 ?_;intro w' hb;refine um ?_;clear T0 T8 hB;intro T0 T8 hB;replace dr:=T0.dr n hn;rw[hg] at dr))
   (refine aL (ET rfl _ _ _ _ _ rfl T8) rfl ⟨?_,hB⟩)
   rw[HS.out];rfl
  | false=>
   rw[hg] at dr
   by_cases hz:(fD (aX f n)).length=0
   .have HS:aK (qW f g s (n:Int) d=_):=Iz (qnz kM hn sG hg hz) om;(have hz':((fD (aX f n)).length:Int)=0:=by omega);clear kM xK sG hz
    go_enter func118,ntmps118
    go_wp2_with (first|(refine lI _ rfl ?_ _ rfl f g T0 ?_;· rfl)|(refine B9 ?_;clear T0 hB;intro w8 T8 kG nR iQ T0 hB)|(go_at_call 167;refine s8 ?_;intro w' hb;refine um ?_;clear T0 T8 hB;intro T0 T8 hB;replace dr:=T0.dr n hn;rw[hg] at dr)|(go_at_call 168;go_fit (CF _);rintro e w' ⟨v,rfl,⟨a1,c1,rfl⟩,hI,hb⟩;refine um ?_;clear T0 T8 hB;intro T0 T8 hB))
    (refine aL (ET rfl _ _ _ _ _ rfl T8) rfl ⟨?_,hB⟩)
    rw[HS.out];rfl
   .refine m54 ?_;intro HS gI hz'
    obtain⟨K,hK⟩:∃K,o7 (fD (aX f n)) d=K:=⟨_,rfl⟩
    have hm:=P9 _ _ (Qa (fD (aX f n)) d gI)
    rw[hK] at hm
    (have Qf:(K:Int)<6:=by omega);(have Yt:(0:Int)<=(K:Int):=by omega);(have hs1:bK (s+1)=s+1:=by unfold bK;omega)
    replace HS:aK (qW f g s (n:Int) d=.tuple #[gg (upd f (6*n+K) (s+1)) g,.int .i64 (K:Int),.int .i64 0]):=by
     show _=_
     rw[HS.out,hK]
    obtain⟨q0,q1⟩:=TU d (fD (aX f n)).length gI;(have hq:(d%((fD (aX f n)).length:Int)).toNat<(fD (aX f n)).length:=by omega)
    have hKq:(fD (aX f n))[(d%((fD (aX f n)).length:Int)).toNat]=K:=by
     rw[←hK];unfold o7
     rw[List.getD_eq_getElem?_getD,List.getElem?_eq_getElem hq];rfl
    (have CC:=fun w=>TV d (fD (aX f n)).length w gI TY);have hm6:K<6:=hm.1;(have vT:6*n+K<18:=by omega);(have I6:=fun b w=>MJ b (6*n) K hm6 w);clear kM xK sG hz hm
    go_enter func118,ntmps118
    go_wp2_with (first|(refine lI _ rfl ?_ _ rfl f g T0 ?_;· rfl)|(refine m5a ?_;clear T0 T8 hB;intro T0 T8 hB;refine lI _ rfl ?_ _ rfl (upd f (6*n+K) (s+1)) g T0 ?_;· rfl)|(refine Hx rfl _ _ rfl _ rfl (upd f (6*n+K) (s+1)) g rfl _ T8 rfl ?_;intro w8 T8 kG nR iQ;replace hB:=iQ _ _ om hB)|(go_at_call 167;refine s8 ?_;intro w' hb;refine um ?_;clear T0 T8 hB;intro T0 T8 hB;replace dr:=T0.dr n hn;rw[hg] at dr)|(go_at_call 168;go_fit (CF _);rintro e w' ⟨v,rfl,⟨a1,c1,rfl⟩,hI,hb⟩;refine um ?_;clear T0 T8 hB;intro T0 T8 hB;obtain⟨b1,qhV,e1,hc⟩:=hI.at gI;have e2:a1=some ⟨b1,0,none⟩:=(by injection e1);subst e2;have hcell:=hc _ hq;rw[hKq] at hcell;clear hc;have cw:=T0.own (6*n+K) vT;have fw:=T0.free (6*n+K))|(go_at_call 169;go_fit (CC _);rintro e w' ⟨rfl,rfl⟩))
    (refine aL (ET rfl _ _ _ _ _ rfl T8) rfl ⟨?_,hB⟩)
    rw[HS.out];rfl
def E1(f:Nat->Int):Prop:=∀i,i<18->(Lit.int .i64 (f i)).wf=true
def qs8(f:Nat->Int)(g:Nat->Bool)(hf:E1 f):prog.keyLits 4 38 (Value.agg (pc f g)).cells.toList=some [.int .i64 (f 0),.int .i64 (f 1),.int .i64 (f 2),.int .i64 (f 3),.int .i64 (f 4),.int .i64 (f 5),.int .i64 (f 6),.int .i64 (f 7),.int .i64 (f 8),.int .i64 (f 9),.int .i64 (f 10),.int .i64 (f 11),.int .i64 (f 12),.int .i64 (f 13),.int .i64 (f 14),.int .i64 (f 15),.int .i64 (f 16),.int .i64 (f 17),.bool (g 0),.bool (g 1),.bool (g 2)]:=by
 (have c47:prog.cellsOf 38=21:=by kernel_rfl);(have Yk:prog.cellsOf 35=18:=by kernel_rfl);(have Yl:prog.cellsOf 34=6:=by kernel_rfl);(have c45:prog.cellsOf 36=3:=by kernel_rfl);(have c3:prog.cellsOf 3=1:=by kernel_rfl);(have c4:prog.cellsOf 4=1:=by kernel_rfl);have h0:=hf 0 om;have h1:=hf 1 om;have h2:=hf 2 om;have h3:=hf 3 om;have h4:=hf 4 om;have h5:=hf 5 om;have h6:=hf 6 om;have h7:=hf 7 om;have h8:=hf 8 om;have h9:=hf 9 om;have h10:=hf 10 om;have h11:=hf 11 om;have EZ:=hf 12 om;have Ym:=hf 13 om;have Yn:=hf 14 om;have Yo:=hf 15 om;have Em:=hf 16 om;have qg:=hf 17 om
 simp[Program.keyLits,Value.cells,pc,underlying38,underlying35,underlying34,underlying36,underlying3,underlying4,c47,Yk,Yl,c45,c3,c4,List.range,List.range.loop,h0,h1,h2,h3,h4,h5,h6,h7,h8,h9,h10,h11,EZ,Ym,Yn,Yo,Em,qg]
def q84(f:Nat->Int)(g:Nat->Bool)(hf:E1 f)(w:af):(Op.equalIn 10000 38 (.agg (pc f g)) (.agg (pc f g))).run prog w=.ok true w:=by
 obtain⟨r,h1,h2⟩:=run_equalIn_deep (P:=prog) 9996 4 38 kr w 4 4 (.agg (pc f g)) (.agg (pc f g)) _ _ kr kr (qs8 f g hf) (qs8 f g hf)
 rw[h2.2 rfl] at h1
 exact h1
def Fa(f:Nat->Int)(s a k:Int):Int:=if iX f=true then(if (iT a 3=true/\iT k 6=true)/\iT s 8=true/\f (6*a.toNat+k.toNat)=s+1 then 0 else 7) else 2
def que(f:Nat->Int)(s a k:Int):Nat->Int:=if Fa f s a k=0 then upd f (6*a.toNat+k.toNat) 0 else f
def Vp(f:Nat->Int)(g:Nat->Bool)(s a k:Int):Value:=.tuple #[gg (que f s a k) g,I Z (Fa f s a k)]
theorem qno(h:iX f=true)(h1:a<3)(h2:k<6)(h3:iT s 8=true)(h4:f (6*a+k)=s+1):Fa f s a k=0:=by grind [iX,iT,Fa]
theorem qoz(h:Fa f s a k=0):Vp f g s a k=.tuple #[gg (upd f (6*a+k) 0) g,I Z 0]:=by grind [Vp,que,Fa,gg,upd]
theorem Qz{a k:Int}(h:Fa f s a k=0)(w:af):
  az prog 158 #[gg f g,I Z s,I Z a,I Z k] w fun e w'=>e=.returned (Vp f g s a k)/\aq w.heap.size w w':=by
 have T0:cg ((w.alloc (.cells (pc f g) 38)).alloc (.cells #[I Z 0,I Z 0,I Z 0,I Z 0,I Z 0,I Z 0,I Z 0,I Z 0,I Z 0,I Z 0,I Z 0,I Z 0,I Z 0,I Z 0,I Z 0,I Z 0,I Z 0,I Z 0,.bool false,.bool false,.bool false] 38)) w.heap.size (pc f g):=(cg.new _ _).alloc _
 have T8:cg ((w.alloc (.cells (pc f g) 38)).alloc (.cells #[I Z 0,I Z 0,I Z 0,I Z 0,I Z 0,I Z 0,I Z 0,I Z 0,I Z 0,I Z 0,I Z 0,I Z 0,I Z 0,I Z 0,I Z 0,I Z 0,I Z 0,I Z 0,.bool false,.bool false,.bool false] 38)) (w.heap.size+1) (pc (fun _=>0) (fun _=>false)):=by
  exact mP
 refine Na ?_;intro hB;(have CG:=fun w=>Ve f g w);(have CA:=fun w=>TT a w);(have CK:=fun w=>qwv k w);(have CS:=fun w=>qlq s w)
 unfold gg at CG
 unfold gg
 obtain⟨kM,⟨xK,hik⟩,sG,ho⟩:iX f=true/\(iT a 3=true/\iT k 6=true)/\iT s 8=true/\f (6*a.toNat+k.toNat)=s+1:=by grind [Fa]
 have hba:0<=a/\a<3:=of_decide_eq_true xK;have hbk:0<=k/\k<6:=of_decide_eq_true hik;have OH:0<=s/\s<8:=of_decide_eq_true sG
 rw[kM] at CG
 rw[xK] at CA
 rw[hik] at CK
 rw[sG] at CS
 obtain⟨n,rfl⟩:∃n:Nat,a=n:=⟨a.toNat,by omega⟩
 obtain⟨K,rfl⟩:∃K:Nat,k=K:=⟨k.toNat,by omega⟩
 have HS:aK _:=qoz (g:=g) h;(have I3:=fun b w=>MI b 0 n om w);(have I6:=fun b w=>MJ b (6*n) K om w)
 simp only[Nat.zero_add] at I3
 (have vT:6*n+K<18:=by omega);(have hs1:bK (s+1)=s+1:=by unfold bK;omega)
 simp only[Int.toNat_natCast] at ho
 (have hne:(f (6*n+K) != s+1)=false:=by simpa using ho);have cw:=T0.own (6*n+K) vT;have fw:=T0.free (6*n+K);clear h ho kM xK hik sG hba hbk OH
 go_enter func158,ntmps158
 go_wp2_with (first|(refine lI _ rfl ?_ _ rfl f g T0 ?_;· rfl)|(refine B9 ?_;clear T0 hB;intro w8 T8 kG nR iQ T0 hB)|(replace T0:=T0.upd (6*n+K) (0) vT;replace T8:=T8.other (o:=6*n+K) (v:=I Z (0)) (show w.heap.size+1≠w.heap.size by omega);replace hB:=hB.setCell (p:=⟨w.heap.size,6*n+K,none⟩) (Nat.le_refl _) (I Z (0));refine lI _ rfl ?_ _ rfl (upd f (6*n+K) (0)) g T0 ?_;· rfl)|(refine Hx rfl _ _ rfl _ rfl (upd f (6*n+K) (0)) g rfl _ T8 rfl ?_;intro w8 T8 kG nR iQ;replace hB:=iQ _ _ om hB)|(go_at_call 183;refine s8 ?_;intro w' hb;(try replace hb:=GU hb);refine um ?_;clear T0 T8 hB;intro T0 T8 hB;replace cw:=T0.own (6*n+K) vT;replace fw:=T0.free (6*n+K))|(go_at_call 101;go_fit (CA _);rintro e w' ⟨rfl,rfl⟩)|(go_at_call 204;go_fit (CK _);rintro e w' ⟨rfl,rfl⟩)|(go_at_call 205;go_fit (CS _);rintro e w' ⟨rfl,rfl⟩))
 ((try simp only[Exit.inBlock,Exit.then]);refine aL (NP rfl _ _ _ _ _ rfl T8) rfl ⟨?_,hB⟩)
 rw[HS.out];rfl
def Qg{B:Nat}{w0:af}(h:aq B w0 w):aq B w0 w.drew:=⟨h.os,h.tape,h.output,h.size,h.block⟩
theorem qtj{a:Int}(h:iY f g s a=0):iX f=true/\(0<=a/\a<3)/\(0<=s/\s<8)/\g a.toNat=false/\0<(fD (aX f a.toNat)).length:=by grind [iY,iX,iT,fD,aX]
def yI(g:Nat->Bool)(a:Int)(b:Bool):Int:=if iT a 3=true then(if g a.toNat=b then 8 else 0) else 7
def BX(g:Nat->Bool)(a:Int)(b:Bool):Nat->Bool:=if yI g a b=0 then updB g a.toNat b else g
def qD(f:Nat->Int)(g:Nat->Bool)(a:Int)(b:Bool):Value:=.tuple #[gg f (BX g a b),I Z (yI g a b)]
theorem qzd{a:Int}(h:a<0\/3<=a):qD f g a b=.tuple #[gg f g,I Z 7]:=by grind [yI,ES,qD,BX,gg]
theorem qlp(h:a<3)(h1:g a=b):qD f g a b=.tuple #[gg f g,I Z 8]:=by grind [yI,AA,qD,BX,gg]
theorem qox(h:a<3)(h1:g a≠b):qD f g a b=.tuple #[gg f (updB g a b),I Z 0]:=by grind [yI,AA,qD,BX,gg,updB]
def DD(h:p:=by
 go_enter func46,ntmps46
 go_upto_region 1 with fail
 generalize((w.alloc (.cells (pc f g) 38)).alloc (.cells #[I Z 0,I Z 0,I Z 0,I Z 0,I Z 0,I Z 0,I Z 0,I Z 0,I Z 0,I Z 0,I Z 0,I Z 0,I Z 0,I Z 0,I Z 0,I Z 0,I Z 0,I Z 0,.bool false,.bool false,.bool false] 38))=w1 at *
 go_wp2_with (first|(refine lI _ rfl ?_ _ rfl f g T0 ?_;· rfl)|(refine B9 ?_;clear T0;intro w8 T8 kG nR iQ T0 hB)|(go_at_call 101;go_fit (CA _);rintro e w' ⟨rfl,rfl⟩))
 (refine bodyPost_ret (NP rfl _ _ _ _ _ rfl T8) rfl ⟨?_,hB⟩)
 rw[HS.out];rfl):p:=h
def qsx(f:Nat->Int)(g:Nat->Bool)(a:Int)(b:Bool)(w:af):
  az prog 46 #[gg f g,I Z a,.bool b] w fun e w'=>e=.returned (qD f g a b)/\aq w.heap.size w w':=by
 have T0:cg ((w.alloc (.cells (pc f g) 38)).alloc (.cells #[I Z 0,I Z 0,I Z 0,I Z 0,I Z 0,I Z 0,I Z 0,I Z 0,I Z 0,I Z 0,I Z 0,I Z 0,I Z 0,I Z 0,I Z 0,I Z 0,I Z 0,I Z 0,.bool false,.bool false,.bool false] 38)) w.heap.size (pc f g):=(cg.new _ _).alloc _
 have T8:cg ((w.alloc (.cells (pc f g) 38)).alloc (.cells #[I Z 0,I Z 0,I Z 0,I Z 0,I Z 0,I Z 0,I Z 0,I Z 0,I Z 0,I Z 0,I Z 0,I Z 0,I Z 0,I Z 0,I Z 0,I Z 0,I Z 0,I Z 0,.bool false,.bool false,.bool false] 38)) (w.heap.size+1) (pc (fun _=>0) (fun _=>false)):=by
  exact mP
 refine Na ?_;intro hB;(have CA:=fun w=>TT a w)
 unfold gg
 by_cases dR:0<=a/\a<3
 rotate_left
 .have HS:aK (qD f g a b=_):=qzd om
  rw[ES om] at CA
  clear dR
  exact DD
 obtain⟨n,rfl⟩:∃n:Nat,a=n:=⟨a.toNat,by omega⟩
 (have hn:n<3:=by omega)
 rw[AA dR.1 dR.2] at CA
 clear dR;refine m0s ?_;intro ID dr fr
 by_cases he:g n=b
 .have HS:aK (qD f g (n:Int) b=_):=qlp hn he;(have hq:(g n==b)=true:=by simpa using he);clear he
  exact DD
 .have HS:aK (qD f g (n:Int) b=_):=qox hn he;(have hq:(g n==b)=false:=by simpa using he);clear he
  go_enter func46,ntmps46
  go_upto_region 1 with fail
  generalize((w.alloc (.cells (pc f g) 38)).alloc (.cells #[I Z 0,I Z 0,I Z 0,I Z 0,I Z 0,I Z 0,I Z 0,I Z 0,I Z 0,I Z 0,I Z 0,I Z 0,I Z 0,I Z 0,I Z 0,I Z 0,I Z 0,I Z 0,.bool false,.bool false,.bool false] 38))=w1 at *
  go_wp2_with (first|(refine m66 ?_;clear T0 T8 hB;intro T0 T8 hB;refine lI _ rfl ?_ _ rfl f (updB g n (b)) T0 ?_;· rfl)|(refine Hx rfl _ _ rfl _ rfl f (updB g n (b)) rfl _ T8 rfl ?_;intro w8 T8 kG nR iQ;replace hB:=iQ _ _ om hB)|(go_at_call 101;go_fit (CA _);rintro e w' ⟨rfl,rfl⟩))
  (refine aL (NP rfl _ _ _ _ _ rfl T8) rfl ⟨?_,hB⟩)
  rw[HS.out];rfl
def ww(h:p:=by
 go_enter func26,ntmps26
 go_upto_region 1 with fail
 generalize((w.alloc (.cells (pc f g) 38)).alloc (.cells #[I Z 0,I Z 0,I Z 0,I Z 0,I Z 0,I Z 0,I Z 0,I Z 0,I Z 0,I Z 0,I Z 0,I Z 0,I Z 0,I Z 0,I Z 0,I Z 0,I Z 0,I Z 0,.bool false,.bool false,.bool false] 38))=w1 at *
 go_wp2_with (first|(refine lI _ rfl ?_ _ rfl f g T0 ?_;· rfl)|(refine B9 ?_;clear T0;intro w8 T8 kG nR iQ T0 hB))
 (refine bodyPost_ret (NP rfl _ _ _ _ _ rfl T8) rfl ⟨?_,hB⟩)
 rw[HS.out];rfl):p:=h
def qgF(f:Nat->Int)(g:Nat->Bool)(a:Int)(b:Bool)(w:af):
  az prog 26 #[gg f g,I Z a,.bool b] w fun e w'=>e=.returned (qD f g a b)/\aq w.heap.size w w':=by
 have T0:cg ((w.alloc (.cells (pc f g) 38)).alloc (.cells #[I Z 0,I Z 0,I Z 0,I Z 0,I Z 0,I Z 0,I Z 0,I Z 0,I Z 0,I Z 0,I Z 0,I Z 0,I Z 0,I Z 0,I Z 0,I Z 0,I Z 0,I Z 0,.bool false,.bool false,.bool false] 38)) w.heap.size (pc f g):=(cg.new _ _).alloc _
 have T8:cg ((w.alloc (.cells (pc f g) 38)).alloc (.cells #[I Z 0,I Z 0,I Z 0,I Z 0,I Z 0,I Z 0,I Z 0,I Z 0,I Z 0,I Z 0,I Z 0,I Z 0,I Z 0,I Z 0,I Z 0,I Z 0,I Z 0,I Z 0,.bool false,.bool false,.bool false] 38)) (w.heap.size+1) (pc (fun _=>0) (fun _=>false)):=by
  exact mP
 refine Na ?_;intro hB
 unfold gg
 by_cases dR:0<=a/\a<3
 rotate_left
 .have HS:aK (qD f g a b=_):=qzd om
  by_cases h0:a<0
  .clear dR
   exact ww
  (have g0:0<=a:=by omega);(have g1:2<a:=by omega);clear h0 dR
  exact ww
 obtain⟨n,rfl⟩:∃n:Nat,a=n:=⟨a.toNat,by omega⟩
 (have hn:n<3:=by omega);clear dR;refine m0s ?_;intro ID dr fr
 by_cases he:g n=b
 .have HS:aK (qD f g (n:Int) b=_):=qlp hn he;(have hq:(g n==b)=true:=by simpa using he);clear he
  exact ww
 .have HS:aK (qD f g (n:Int) b=_):=qox hn he;(have hq:(g n==b)=false:=by simpa using he);clear he
  go_enter func26,ntmps26
  go_upto_region 1 with fail
  generalize((w.alloc (.cells (pc f g) 38)).alloc (.cells #[I Z 0,I Z 0,I Z 0,I Z 0,I Z 0,I Z 0,I Z 0,I Z 0,I Z 0,I Z 0,I Z 0,I Z 0,I Z 0,I Z 0,I Z 0,I Z 0,I Z 0,I Z 0,.bool false,.bool false,.bool false] 38))=w1 at *
  go_wp2_with (first|(refine m66 ?_;clear T0 T8 hB;intro T0 T8 hB;refine lI _ rfl ?_ _ rfl f (updB g n (b)) T0 ?_;· rfl)|(refine Hx rfl _ _ rfl _ rfl f (updB g n (b)) rfl _ T8 rfl ?_;intro w8 T8 kG nR iQ;replace hB:=iQ _ _ om hB))
  (refine aL (NP rfl _ _ _ _ _ rfl T8) rfl ⟨?_,hB⟩)
  rw[HS.out];rfl
def q2r(f:Nat->Int)(g:Nat->Bool)(a:Int)(w:af):
  az prog 20 #[gg f g,I Z a] w fun e w'=>e=.returned (qD f g a true)/\aq w.heap.size w w':=by
 have T0:cg ((w.alloc (.cells (pc f g) 38)).alloc (.cells #[I Z 0,I Z 0,I Z 0,I Z 0,I Z 0,I Z 0,I Z 0,I Z 0,I Z 0,I Z 0,I Z 0,I Z 0,I Z 0,I Z 0,I Z 0,I Z 0,I Z 0,I Z 0,.bool false,.bool false,.bool false] 38)) w.heap.size (pc f g):=(cg.new _ _).alloc _
 have T8:cg ((w.alloc (.cells (pc f g) 38)).alloc (.cells #[I Z 0,I Z 0,I Z 0,I Z 0,I Z 0,I Z 0,I Z 0,I Z 0,I Z 0,I Z 0,I Z 0,I Z 0,I Z 0,I Z 0,I Z 0,I Z 0,I Z 0,I Z 0,.bool false,.bool false,.bool false] 38)) (w.heap.size+1) (pc (fun _=>0) (fun _=>false)):=by
  exact mP
 refine Na ?_;intro hB;(have C:=fun w=>qsx f g a true w)
 unfold qD at *
 generalize BX g a true=G at *
 generalize yI g a true=ee at *
 unfold gg at *
 go_enter func20,ntmps20
 go_wp2_with (first|(refine lI _ rfl ?_ _ rfl f g T0 ?_;· rfl)|(go_at_call 46;go_fit (C _);rintro e w' ⟨rfl,hb⟩;refine um ?_;clear T0 T8 hB;intro T0 T8 hB)|(refine Hx rfl _ _ rfl _ rfl f G rfl _ T8 rfl ?_;intro w8 T8 kG nR iQ;replace hB:=iQ _ _ om hB))
 (refine aL (NP rfl _ _ _ _ _ rfl T8) rfl ⟨rfl,hB⟩)
def qxg(f:Nat->Int)(g:Nat->Bool)(a:Int)(w:af):
  az prog 21 #[gg f g,I Z a] w fun e w'=>e=.returned (qD f g a false)/\aq w.heap.size w w':=by
 have T0:cg ((w.alloc (.cells (pc f g) 38)).alloc (.cells #[I Z 0,I Z 0,I Z 0,I Z 0,I Z 0,I Z 0,I Z 0,I Z 0,I Z 0,I Z 0,I Z 0,I Z 0,I Z 0,I Z 0,I Z 0,I Z 0,I Z 0,I Z 0,.bool false,.bool false,.bool false] 38)) w.heap.size (pc f g):=(cg.new _ _).alloc _
 have T8:cg ((w.alloc (.cells (pc f g) 38)).alloc (.cells #[I Z 0,I Z 0,I Z 0,I Z 0,I Z 0,I Z 0,I Z 0,I Z 0,I Z 0,I Z 0,I Z 0,I Z 0,I Z 0,I Z 0,I Z 0,I Z 0,I Z 0,I Z 0,.bool false,.bool false,.bool false] 38)) (w.heap.size+1) (pc (fun _=>0) (fun _=>false)):=by
  exact mP
 refine Na ?_;intro hB;(have C:=fun w=>qsx f g a false w)
 unfold qD at *
 generalize BX g a false=G at *
 generalize yI g a false=ee at *
 unfold gg at *
 go_enter func21,ntmps21
 go_wp2_with (first|(refine lI _ rfl ?_ _ rfl f g T0 ?_;· rfl)|(go_at_call 46;go_fit (C _);rintro e w' ⟨rfl,hb⟩;refine um ?_;clear T0 T8 hB;intro T0 T8 hB)|(refine Hx rfl _ _ rfl _ rfl f G rfl _ T8 rfl ?_;intro w8 T8 kG nR iQ;replace hB:=iQ _ _ om hB))
 (refine aL (NP rfl _ _ _ _ _ rfl T8) rfl ⟨rfl,hB⟩)
end Go.Proofs.YtnkpgdejagglaaaGreatDoor
