/-
  Of what a law stands on.
-/
import Derived.BigQuiet
import Derived.Test.YtbboabfmoahipaaZbd4
set_option linter.unusedSimpArgs false
set_option linter.unusedVariables false
namespace Go.Proofs.Ytbboabfmoahipaa
open Go.Value renaming int → I,pointer → V
open Go.IntKind renaming i64 → Z
open _root_.Go.Proofs.Try Go.ChangeShapes Go.WideShapes Go.ChangeAt Go.RowKit
set_option maxHeartbeats 16000000
set_option maxRecDepth 100000
variable {f h:Nat->Int}{m:Mp}{ms ms':List Mp}{o:Oper}{ops:Array Oper}{rest:List Oper}{a:Act}{w:World}{Q:Exit->Act->World->Prop}{t:TypeId}{b:Nat}{cs:Array Value}{sl v:Value}{S:World->Prop}
theorem qml{l:List Mp}(hall:∀o∈l,qdb f h o)(hs:qdb f h m):qfr l (plA m) (plB m)=l.any (fun o=>qa7 o==qa7 m):=by
 (have hin:∀o,qdb f h o->inP o=true:=fun o x=>by unfold inP;exact decide_eq_true ⟨x.2.2.2.1,x.2.2.2.2.1⟩);rw[Bool.eq_iff_iff]
 unfold qfr
 simp only[List.any_eq_true]
 constructor
 ·rintro⟨o,ho,h1⟩
  refine⟨o,ho,?_⟩
  have x:=hall o ho
  rw[hin o x] at h1
  unfold plA plB at h1
  rw[hin o x,hin m hs] at h1
  simp at h1
  have:=(qrg x.2.2.2.2.1 x.2.2.2.1 hs.2.2.2.2.1 hs.2.2.2.1).2 h1
  simp[qa7,this]
 ·rintro⟨o,ho,h1⟩
  refine⟨o,ho,?_⟩
  have x:=hall o ho;(have h2:qa7 o=qa7 m:=by simpa using h1)
  have:=(qrg x.2.2.2.2.1 x.2.2.2.1 hs.2.2.2.2.1 hs.2.2.2.1).1 h2
  rw[hin o x]
  unfold plA plB
  rw[hin o x,hin m hs]
  simp[this]
theorem qqd{o:Mp}(h:o∈qa6 ms m):o∈ms:=(List.mem_filter.1 h).1
def qdx(f:Nat->Int)(m:Mp):Nat->Int:=upd f (qa7 m) 0
def qux(f h:Nat->Int)(m:Mp):Nat->Int:=if (qbk (qdx f m) m.2.1).length=0 then upd h m.2.1.toNat 0 else h
theorem qqx(G:qbq f h ms)(hs:qdb f h m)(g:Nat->Bool):qgh f g m.2.1 (plA m) (plB m)=.tuple #[plv (qdx f m) g,I Z 0]:=by
 (have hin:inP m=true:=by unfold inP;exact decide_eq_true ⟨hs.2.2.2.1,hs.2.2.2.2.1⟩);(have ha:plA m=((m.2.2.2.1.toNat:Nat):Int):=by unfold plA;rw[if_pos hin];have:=hs.2.2.2.2.1;omega);(have hb:plB m=((((m.2.2.2.2-1024)/8).toNat:Nat):Int):=by unfold plB;rw[if_pos hin];have:=hs.2.2.2.1;omega);have e0:=qno (f:=f) (s:=m.2.1) (a:=m.2.2.2.1.toNat) (k:=((m.2.2.2.2-1024)/8).toNat) G.pool (by have:=hs.2.2.2.2.1;omega) (by have:=hs.2.2.2.1;omega) (qed hs.2.1.1 hs.2.1.2) hs.2.2.2.2.2.2
 unfold qgh que
 rw[ha,hb,e0,if_pos rfl,Int.toNat_natCast,Int.toNat_natCast]
 rfl
theorem qh1(R:Row t w b cs)(hgd:o.guard=none)(x y:Operand)(ho:o.op=.store 28 x y)(f:Nat)(hx:a.eval x=V (some ⟨b,f,none⟩))(p:Option Addr)(n c:Nat)(hy:a.eval y=.slice p n c)(old:Value)(hc:cs[f]?=some old)(ds:Array Value)(hd:cs.setIfInBounds f (.slice p n c)=ds)(hr:∀w',Row t w' b ds->qbl b w w'->wpList prog ops Q rest (a.put o.dst undef) w'):wpList prog ops Q (o::rest) a w:=
 wpList_plain hgd fun K hK=>by
  have hcell:=(R.cell f).trans hc;have hfr:=R.free f
  unfold Oper.wp execOp
  simp only[ho,hx,hy]
  simp[go_sem,hcell,hfr,underlying28]
  exact hK _ _ (hr _ (hd▸R.set) (qfx _ _ _ _))
theorem sZbd51{p:Prop}(h:p:=by
 have h1:=qnu (qqg G.maps) hm;have h2:=HN.out
 have:(ln:Int)≠(n:Int):=by omega
 simpa using this):p:=h
theorem q67(f:Nat->Int)(g:Nat->Bool)(h:Nat->Int)(sl:Value)(ms:List Mp)(m:Mp)(hwH:wfH h)(w:World)(hM:qaz w sl ms)(G:qbq f h ms)(hm:m∈ms)(ha:(qa6 ms m).any (fun o=>qa7 o==qa7 m)=true):
  Calls prog 22 #[.agg (tc f g h sl),.agg (mc m)] w fun e w'=>∃v,e=.returned (.tuple #[.agg (tc f g h v),.bool false,I Z 0])/\qaz w' v (qa6 ms m)/\qcs v/\(0<(qa6 ms m).length->w.heap.size<=mb v)/\Below w.heap.size w w':=by
 refine m1t ?_;intro hB hM0
 obtain⟨a0,cap,hsl,-⟩:=hM0
 obtain⟨n,hn⟩:∃n,n=ms.length:=⟨_,rfl⟩
 rw[←hn] at hsl
 subst hsl
 refine m2d ?_;clear hn;intro HN hlt
 obtain⟨ln,hln⟩:∃ln,ln=(qa6 ms m).length:=⟨_,rfl⟩
 have HL:Hid (ln=(qa6 ms m).length):=hln;have HG:Hid (qbq f h ms):=G
 have hlne:((ln:Int)==(n:Int))=false:=by
  exact sZbd51
 refine m1h ?_;intro hst hin CG CW CPl
 simp only[hin] at CPl
 (have CA:=fun sl w hM=>qoa sl (qa6 ms m) (plA m) (plB m) w hM)
 rw[qml (fun o ho=>G.maps.1 o (qqd ho)) hst,ha] at CA
 clear hln G hm ha hst hin
 go_enter func22,ntmps22
 go_wp2_with (first|((with_reducible refine gB 30 0 ?_);refine m0v ?_;intro b2 w1 l2 R2 hb1;replace hB:=hB.trans (hb1.mono hB.size))|((with_reducible refine gB 32 1 ?_);refine bx 32 (.tmp 1) (mc m) ?_;intro b3 w1 l3 R3 hb1;replace R2:=R2.below hb1;replace hB:=hB.trans (hb1.mono hB.size))|((with_reducible refine gA 30 ?_);refine m3g ?_;clear R2 R3 hB;intro b4 w2 R4 hb2 n24 n34 l4 R2 R3 hB)|((with_reducible refine gL 30 2 ?_);refine m6b ?_)|(go_at_call 16;refine m4n ?_;rintro e w5 ⟨r,hr,rfl,hb5⟩;obtain rfl:r=true:=(hr.2 HG.out);clear hr;replace R2:=R2.below hb5;replace R3:=R3.below hb5;replace R4:=R4.below hb5;refine m40 ?_;clear hB;intro hB;refine m22 ?_;intro cM)|((with_reducible refine gL 32 3 ?_);refine m5l ?_)|(go_at_call 47;go_fit (CW _ (hM.keep hB hlt));rintro e w6 ⟨v,rfl,hMv,hNv,hbv,hb6⟩;refine m1m ?_;clear cM hbv R2 R3 R4 hB;intro x4 hbv R2 R3 R4 hB;(obtain⟨av,cv,hv,-⟩:=id hMv);rw[←HL.out] at hv;subst hv;refine m22 ?_;intro cM)|(go_at_call 35;refine m47 ?_;clear cM R2 R3 R4 hMv hB;intro w7 hb7 R2 R3 R4 hMv hB)|((with_reducible refine gA 67 ?_);refine m29 ?_;clear R2 R3 R4 hMv hB;intro b8 w8 R8 hb8 n28 n38 n48 x8 l8 R2 R3 R4 hMv hB)|((with_reducible refine gS 67 8 29 ?_);refine m3e ?_;clear R2 R3 R4 hMv hB;intro w9 R8 t9 R2 R3 R4 hMv hB)|((with_reducible refine gA 30 ?_);refine m1y ?_;clear R2 R3 R4 R8 hMv hB;intro b10 w10 R10 hb10 n210 n310 n410 n810 x10 l10 R2 R3 R4 R8 hMv hB)|((with_reducible refine gS 30 10 31 ?_);refine m0q ?_;intro w11 R10 t11;refine m4v ?_;clear R2 R3 R4 R8 hMv hB;intro R2 R3 R4 R8 hMv hB)|((with_reducible refine gS 28 33 32 ?_);refine m23 ?_;clear R2 R3 R4 R8 hMv hB;intro w12 R10 t12 R2 R3 R4 R8 hMv hB)|((with_reducible refine gL 67 8 ?_);refine lx 67 (.tmp 8) (ic2 (plA m) (plB m)) R8 ?_)|(go_at_call 48;refine m43 ?_;clear R2 R3 R4 R8 R10 hMv;intro w13 hb13 R2 R3 R4 R8 R10 hMv;replace hB:=hB.trans (hb13.mono hB.size) )|((with_reducible refine gL 30 10 ?_);refine lx 30 (.tmp 10) (tc f g h (.slice av ln cv)) R10 ?_)|((with_reducible refine gS 30 4 37 ?_);refine qab 30 rfl (.tmp 4) _ rfl b4 rfl (tc f g h (.slice av ln cv)) rfl _ R4 (qen _ _ _ _ _ _ _ _) (qaq _ _ _ _) (qbm _ _ _ _ _ _) ?_;intro w14 R4 t14;replace hMv:=qcl hMv x4 t14;replace hB:=t14.below _ _ l4 hB))
 (refine m06 ?_;refine bodyPost_ret (qlv (p:=4) (u:=5) (v:=6) rfl _ _ _ _ rfl R4 _ underlying30 rfl (qaq _ _ _ _)) rfl ⟨_,rfl,hMv,hNv,hbv,hB⟩)
theorem qzw(f:Nat->Int)(g:Nat->Bool)(h:Nat->Int)(sl:Value)(ms:List Mp)(m:Mp)(hwH:wfH h)(w:World)(hM:qaz w sl ms)(G:qbq f h ms)(hm:m∈ms)(ha:(qa6 ms m).any (fun o=>qa7 o==qa7 m)=false)(hz:(qbk (qdx f m) m.2.1).length=0):
  Calls prog 22 #[.agg (tc f g h sl),.agg (mc m)] w fun e w'=>∃v,e=.returned (.tuple #[.agg (tc (qdx f m) g (upd h m.2.1.toNat 0) v),.bool true,I Z 0])/\qaz w' v (qa6 ms m)/\qcs v/\(0<(qa6 ms m).length->w.heap.size<=mb v)/\Below w.heap.size w w':=by
 refine m1t ?_;intro hB hM0
 obtain⟨a0,cap,hsl,-⟩:=hM0
 obtain⟨n,hn⟩:∃n,n=ms.length:=⟨_,rfl⟩
 rw[←hn] at hsl
 subst hsl
 refine m2d ?_;clear hn;intro HN hlt
 obtain⟨ln,hln⟩:∃ln,ln=(qa6 ms m).length:=⟨_,rfl⟩
 have HL:Hid (ln=(qa6 ms m).length):=hln;have HG:Hid (qbq f h ms):=G
 have hlne:((ln:Int)==(n:Int))=false:=by
  exact sZbd51
 refine m1h ?_;intro hst hin CG CW CPl
 simp only[hin] at CPl
 (have CA:=fun sl w hM=>qoa sl (qa6 ms m) (plA m) (plB m) w hM)
 rw[qml (fun o ho=>G.maps.1 o (qqd ho)) hst,ha] at CA
 (have CGi:=fun w=>quv f g m.2.1 (plA m) (plB m) w)
 rw[qqx G hst] at CGi
 (have CB:=fun av w=>qiq (qdx f m) g h av m.2.1 hst.2.1.1 hst.2.1.2 w);(have hs8n:m.2.1.toNat<8:=by have:=hst.2.1;omega);have hs0:0<=m.2.1:=hst.2.1.1;have hs8:m.2.1<8:=hst.2.1.2
 rw[hz] at CB
 clear hln G hm ha hst hin hz
 go_enter func22,ntmps22
 go_wp2_with (first|((with_reducible refine gB 30 0 ?_);refine m0v ?_;intro b2 w1 l2 R2 hb1;replace hB:=hB.trans (hb1.mono hB.size))|((with_reducible refine gB 32 1 ?_);refine bx 32 (.tmp 1) (mc m) ?_;intro b3 w1 l3 R3 hb1;replace R2:=R2.below hb1;replace hB:=hB.trans (hb1.mono hB.size))|((with_reducible refine gA 30 ?_);refine m3g ?_;clear R2 R3 hB;intro b4 w2 R4 hb2 n24 n34 l4 R2 R3 hB)|((with_reducible refine gL 30 2 ?_);refine m6b ?_)|(go_at_call 16;refine m4n ?_;rintro e w5 ⟨r,hr,rfl,hb5⟩;obtain rfl:r=true:=(hr.2 HG.out);clear hr;replace R2:=R2.below hb5;replace R3:=R3.below hb5;replace R4:=R4.below hb5;refine m40 ?_;clear hB;intro hB;refine m22 ?_;intro cM)|((with_reducible refine gL 32 3 ?_);refine m5l ?_)|(go_at_call 47;go_fit (CW _ (hM.keep hB hlt));rintro e w6 ⟨v,rfl,hMv,hNv,hbv,hb6⟩;refine m1m ?_;clear cM hbv R2 R3 R4 hB;intro x4 hbv R2 R3 R4 hB;(obtain⟨av,cv,hv,-⟩:=id hMv);rw[←HL.out] at hv;subst hv;refine m22 ?_;intro cM)|(go_at_call 35;refine m47 ?_;clear cM R2 R3 R4 hMv hB;intro w7 hb7 R2 R3 R4 hMv hB)|((with_reducible refine gA 67 ?_);refine m29 ?_;clear R2 R3 R4 hMv hB;intro b8 w8 R8 hb8 n28 n38 n48 x8 l8 R2 R3 R4 hMv hB)|((with_reducible refine gS 67 8 29 ?_);refine m3e ?_;clear R2 R3 R4 hMv hB;intro w9 R8 t9 R2 R3 R4 hMv hB)|((with_reducible refine gA 30 ?_);refine m1y ?_;clear R2 R3 R4 R8 hMv hB;intro b10 w10 R10 hb10 n210 n310 n410 n810 x10 l10 R2 R3 R4 R8 hMv hB)|((with_reducible refine gS 30 10 31 ?_);refine m0q ?_;intro w11 R10 t11;refine m4v ?_;clear R2 R3 R4 R8 hMv hB;intro R2 R3 R4 R8 hMv hB)|((with_reducible refine gS 28 33 32 ?_);refine m23 ?_;clear R2 R3 R4 R8 hMv hB;intro w12 R10 t12 R2 R3 R4 R8 hMv hB)|((with_reducible refine gL 67 8 ?_);refine lx 67 (.tmp 8) (ic2 (plA m) (plB m)) R8 ?_)|(go_at_call 48;refine m43 ?_;clear R2 R3 R4 R8 R10 hMv;intro w13 hb13 R2 R3 R4 R8 R10 hMv;replace hB:=hB.trans (hb13.mono hB.size);have c31:=m1 R3;have c80:=p0B R8;have c81:=p1 R8;have hrp:=R2.pool)|((with_reducible refine gL 26 39 ?_);refine m5i ?_;refine m34 ?_)|(go_at_call 49;go_fit (CGi _);rintro e w15 ⟨rfl,hb15⟩;clear c31 c80 c81 hrp;replace R2:=R2.below hb15;replace R3:=R3.below hb15;replace R4:=R4.below hb15;replace R8:=R8.below hb15;replace R10:=R10.below hb15;replace hMv:=hMv.below hb15;replace hB:=hB.trans (hb15.mono hB.size))|((with_reducible refine gS 26 50 48 ?_);refine qkk rfl (.tmp 50) (.tmp 48) rfl b10 rfl (qdx f m) g rfl f g h (.slice av ln cv) R10 ?_;intro w16 R10 t16;replace R3:=t16.row R3 n310;replace R4:=t16.row R4 n410;replace hMv:=qcl hMv x10 t16;replace hB:=t16.below _ _ l10 hB;have c31:=m1 R3)|(go_at_call 50;go_fit (CB _ _);rintro e w17 ⟨vb,rfl,⟨ab,cb,rfl⟩,hpl,hb17⟩;clear hpl c31;replace R3:=R3.below hb17;replace R4:=R4.below hb17;replace R10:=R10.below hb17;replace hMv:=hMv.below hb17;replace hB:=hB.trans (hb17.mono hB.size);have c31:=m1 R3)|((with_reducible refine qaa (.store 3 (.tmp 60) (.const (I Z 0))) rfl ?_);refine qbb R10 rfl _ _ rfl (21+m.2.1.toNat) rfl _ rfl _ (qhc _ _ _ _ _ hs8n) (tc (qdx f m) g (upd h m.2.1.toNat 0) (.slice av ln cv)) (qsk _ _ _ _ _ _ hs8n) ?_;intro w18 R10 t18;clear c31;replace R4:=t18.row R4 n410;replace hMv:=qcl hMv x10 t18;replace hB:=t18.below _ _ l10 hB)|((with_reducible refine gL 30 10 ?_);first|refine lx 30 (.tmp 10) (tc (qdx f m) g (upd h m.2.1.toNat 0) (.slice av ln cv)) R10 ?_|refine lx 30 (.tmp 10) (tc (qdx f m) g h (.slice av ln cv)) R10 ?_)|((with_reducible refine gS 30 4 61 ?_);refine qab 30 rfl (.tmp 4) _ rfl b4 rfl (tc (qdx f m) g (upd h m.2.1.toNat 0) (.slice av ln cv)) rfl _ R4 (qen _ _ _ _ _ _ _ _) (qaq _ _ _ _) (qbm _ _ _ _ _ _) ?_;intro w19 R4 t19;replace hMv:=qcl hMv x4 t19;replace hB:=t19.below _ _ l4 hB))
 (refine m06 ?_;refine bodyPost_ret (qlv (p:=4) (u:=5) (v:=6) rfl _ _ _ _ rfl R4 _ underlying30 rfl (qaq _ _ _ _)) rfl ⟨_,rfl,hMv,hNv,hbv,hB⟩)
theorem qy2(f:Nat->Int)(g:Nat->Bool)(h:Nat->Int)(sl:Value)(ms:List Mp)(m:Mp)(hwH:wfH h)(w:World)(hM:qaz w sl ms)(G:qbq f h ms)(hm:m∈ms)(ha:(qa6 ms m).any (fun o=>qa7 o==qa7 m)=false)(hz:(qbk (qdx f m) m.2.1).length≠0):
  Calls prog 22 #[.agg (tc f g h sl),.agg (mc m)] w fun e w'=>∃v,e=.returned (.tuple #[.agg (tc (qdx f m) g h v),.bool true,I Z 0])/\qaz w' v (qa6 ms m)/\qcs v/\(0<(qa6 ms m).length->w.heap.size<=mb v)/\Below w.heap.size w w':=by
 refine m1t ?_;intro hB hM0
 obtain⟨a0,cap,hsl,-⟩:=hM0
 obtain⟨n,hn⟩:∃n,n=ms.length:=⟨_,rfl⟩
 rw[←hn] at hsl
 subst hsl
 refine m2d ?_;clear hn;intro HN hlt
 obtain⟨ln,hln⟩:∃ln,ln=(qa6 ms m).length:=⟨_,rfl⟩
 have HL:Hid (ln=(qa6 ms m).length):=hln;have HG:Hid (qbq f h ms):=G
 have hlne:((ln:Int)==(n:Int))=false:=by
  exact sZbd51
 refine m1h ?_;intro hst hin CG CW CPl
 simp only[hin] at CPl
 (have CA:=fun sl w hM=>qoa sl (qa6 ms m) (plA m) (plB m) w hM)
 rw[qml (fun o ho=>G.maps.1 o (qqd ho)) hst,ha] at CA
 (have CGi:=fun w=>quv f g m.2.1 (plA m) (plB m) w)
 rw[qqx G hst] at CGi
 (have CB:=fun av w=>qiq (qdx f m) g h av m.2.1 hst.2.1.1 hst.2.1.2 w);(have hs8n:m.2.1.toNat<8:=by have:=hst.2.1;omega);have hs0:0<=m.2.1:=hst.2.1.1;have hs8:m.2.1<8:=hst.2.1.2
 obtain⟨lb,hlb⟩:∃lb,lb=(qbk (qdx f m) m.2.1).length:=⟨_,rfl⟩
 rw[←hlb] at CB hz
 (have dz:((lb:Int)==0)=false:=by simpa using hz);clear hln G hm ha hst hin hz hlb
 go_enter func22,ntmps22
 go_wp2_with (first|((with_reducible refine gB 30 0 ?_);refine m0v ?_;intro b2 w1 l2 R2 hb1;replace hB:=hB.trans (hb1.mono hB.size))|((with_reducible refine gB 32 1 ?_);refine bx 32 (.tmp 1) (mc m) ?_;intro b3 w1 l3 R3 hb1;replace R2:=R2.below hb1;replace hB:=hB.trans (hb1.mono hB.size))|((with_reducible refine gA 30 ?_);refine m3g ?_;clear R2 R3 hB;intro b4 w2 R4 hb2 n24 n34 l4 R2 R3 hB)|((with_reducible refine gL 30 2 ?_);refine m6b ?_)|(go_at_call 16;refine m4n ?_;rintro e w5 ⟨r,hr,rfl,hb5⟩;obtain rfl:r=true:=(hr.2 HG.out);clear hr;replace R2:=R2.below hb5;replace R3:=R3.below hb5;replace R4:=R4.below hb5;refine m40 ?_;clear hB;intro hB;refine m22 ?_;intro cM)|((with_reducible refine gL 32 3 ?_);refine m5l ?_)|(go_at_call 47;go_fit (CW _ (hM.keep hB hlt));rintro e w6 ⟨v,rfl,hMv,hNv,hbv,hb6⟩;refine m1m ?_;clear cM hbv R2 R3 R4 hB;intro x4 hbv R2 R3 R4 hB;(obtain⟨av,cv,hv,-⟩:=id hMv);rw[←HL.out] at hv;subst hv;refine m22 ?_;intro cM)|(go_at_call 35;refine m47 ?_;clear cM R2 R3 R4 hMv hB;intro w7 hb7 R2 R3 R4 hMv hB)|((with_reducible refine gA 67 ?_);refine m29 ?_;clear R2 R3 R4 hMv hB;intro b8 w8 R8 hb8 n28 n38 n48 x8 l8 R2 R3 R4 hMv hB)|((with_reducible refine gS 67 8 29 ?_);refine m3e ?_;clear R2 R3 R4 hMv hB;intro w9 R8 t9 R2 R3 R4 hMv hB)|((with_reducible refine gA 30 ?_);refine m1y ?_;clear R2 R3 R4 R8 hMv hB;intro b10 w10 R10 hb10 n210 n310 n410 n810 x10 l10 R2 R3 R4 R8 hMv hB)|((with_reducible refine gS 30 10 31 ?_);refine m0q ?_;intro w11 R10 t11;refine m4v ?_;clear R2 R3 R4 R8 hMv hB;intro R2 R3 R4 R8 hMv hB)|((with_reducible refine gS 28 33 32 ?_);refine m23 ?_;clear R2 R3 R4 R8 hMv hB;intro w12 R10 t12 R2 R3 R4 R8 hMv hB)|((with_reducible refine gL 67 8 ?_);refine lx 67 (.tmp 8) (ic2 (plA m) (plB m)) R8 ?_)|(go_at_call 48;refine m43 ?_;clear R2 R3 R4 R8 R10 hMv;intro w13 hb13 R2 R3 R4 R8 R10 hMv;replace hB:=hB.trans (hb13.mono hB.size);have c31:=m1 R3;have c80:=p0B R8;have c81:=p1 R8;have hrp:=R2.pool)|((with_reducible refine gL 26 39 ?_);refine m5i ?_;refine m34 ?_)|(go_at_call 49;go_fit (CGi _);rintro e w15 ⟨rfl,hb15⟩;clear c31 c80 c81 hrp;replace R2:=R2.below hb15;replace R3:=R3.below hb15;replace R4:=R4.below hb15;replace R8:=R8.below hb15;replace R10:=R10.below hb15;replace hMv:=hMv.below hb15;replace hB:=hB.trans (hb15.mono hB.size))|((with_reducible refine gS 26 50 48 ?_);refine qkk rfl (.tmp 50) (.tmp 48) rfl b10 rfl (qdx f m) g rfl f g h (.slice av ln cv) R10 ?_;intro w16 R10 t16;replace R3:=t16.row R3 n310;replace R4:=t16.row R4 n410;replace hMv:=qcl hMv x10 t16;replace hB:=t16.below _ _ l10 hB;have c31:=m1 R3)|(go_at_call 50;go_fit (CB _ _);rintro e w17 ⟨vb,rfl,⟨ab,cb,rfl⟩,hpl,hb17⟩;clear hpl c31;replace R3:=R3.below hb17;replace R4:=R4.below hb17;replace R10:=R10.below hb17;replace hMv:=hMv.below hb17;replace hB:=hB.trans (hb17.mono hB.size);have c31:=m1 R3)|((with_reducible refine gL 30 10 ?_);refine lx 30 (.tmp 10) (tc (qdx f m) g h (.slice av ln cv)) R10 ?_)|((with_reducible refine gS 30 4 61 ?_);refine qab 30 rfl (.tmp 4) _ rfl b4 rfl (tc (qdx f m) g h (.slice av ln cv)) rfl _ R4 (qen _ _ _ _ _ _ _ _) (qaq _ _ _ _) (qbm _ _ _ _ _ _) ?_;intro w19 R4 t19;replace hMv:=qcl hMv x4 t19;replace hB:=t19.below _ _ l4 hB))
 (refine m06 ?_;refine bodyPost_ret (qlv (p:=4) (u:=5) (v:=6) rfl _ _ _ _ rfl R4 _ underlying30 rfl (qaq _ _ _ _)) rfl ⟨_,rfl,hMv,hNv,hbv,hB⟩)
theorem qy5b(f:Nat->Int)(g:Nat->Bool)(h:Nat->Int)(sl:Value)(ms:List Mp)(m:Mp)(hwH:wfH h)(G:qbq f h ms)(hm:m∈ms):
  ∃(f' h':Nat->Int) (took:Bool),qbq f' h' (qa6 ms m)/\∀w:World,qaz w sl ms->Calls prog 22 #[.agg (tc f g h sl),.agg (mc m)] w fun e w'=>∃v,e=.returned (.tuple #[.agg (tc f' g h' v),.bool took,I Z 0])/\qaz w' v (qa6 ms m)/\qcs v/\(0<(qa6 ms m).length->w.heap.size<=mb v)/\Below w.heap.size w w':=by
 cases ha:(qa6 ms m).any (fun o=>qa7 o==qa7 m) with
 | true=>exact⟨f,h,false,q1v G hm ha,fun w hM=>q67 f g h sl ms m hwH w hM G hm ha⟩
 | false=>
  have G2:=q32 G hm ha
  by_cases hz:(qbk (qdx f m) m.2.1).length=0
  ·rw[if_pos (show(qbk (upd f (qa7 m) 0) m.2.1).length=0 from hz)] at G2
   exact⟨qdx f m,upd h m.2.1.toNat 0,true,G2,fun w hM=>qzw f g h sl ms m hwH w hM G hm ha hz⟩
  ·rw[if_neg (show ¬(qbk (upd f (qa7 m) 0) m.2.1).length=0 from hz)] at G2
   exact⟨qdx f m,h,true,G2,fun w hM=>qy2 f g h sl ms m hwH w hM G hm ha hz⟩
theorem qzhb(G:qbq f h ms)(hm:m∈ms):(qa6 ms m).find? (inS m.1 m.2.1 m.2.2.1)=none:=by
 rw[List.find?_eq_none];intro o ho h1;obtain⟨ho1,ho2⟩:=List.mem_filter.1 ho;(have hne:o≠m:=by simpa using ho2);have hin:=(qsm _ _ _ _).1 h1
 have key:∀x y:Mp,x∈ms->y∈ms->x.1=y.1->x.2.1=y.2.1->x.2.2.1=y.2.2.1->x=y:=by
  intro x y hx hy e1 e2 e3;have fx:=q35 G.maps.2 hx;have fy:=q35 G.maps.2 hy
  rw[e1,e2,e3,fy] at fx
  exact(Option.some.inj fx).symm
 exact hne (key o m ho1 hm hin.1 hin.2.1 hin.2.2)
theorem qrs(hM:qaz w sl ms)(j:Nat)(hj:j<ms.length)(w2:World):(Instr.indexAt 28 sl (I Z (j:Int))).run prog w2=.ok (V (some ⟨mb sl,mo sl+5*j,none⟩)) w2:=by
 obtain⟨a0,cap,e,h1,h2,h3⟩:=hM;have e1:=h1 om
 generalize mb sl=B at *
 generalize mo sl=O at *
 subst e1
 subst e
 refine m5s ?_;intro hn hjl;(have hs:(sizeOf 32).run prog w2=.ok 5 w2:=by kernel_rfl)
 simp[go_sem,hj,hn,hjl,underlying28,hs]
theorem qn6(x y:Operand)(ho:o.op=.indexAddr 28 x y)(hw:Region.wanted o (yielded ops a.tmps)=true)(p i q:Value)(hx:a.eval x=p)(hy:a.eval y=i)(hrun:∀w:World,(Instr.indexAt 28 p i).run prog w=.ok q w):YieldsIf prog ops S o q a:=
 .inl ⟨hw,fun w _=>by unfold execOp;simp only[ho,hx,hy,Sem.run_bind,hrun w,Result.andThen_ok,Sem.run_pure]⟩
theorem qry(t:TypeId)(x y:Operand)(ho:o.op=.binOp .neq t x y t)(hw:Region.wanted o (yielded ops a.tmps)=true)(xs ys:Array Value)(hx:a.eval x=.agg xs)(hy:a.eval y=.agg ys)(hg:prog.eqGuardType prog.depth t=false)(r q:Bool)(he:∀w:World,(Op.equalIn 10000 t (.agg xs) (.agg ys)).run prog w=.ok r w)(hq:(!r)=q):YieldsIf prog ops S o (.bool q) a:=
 .inl ⟨hw,fun w _=>by
  subst hq
  unfold execOp
  simp only[ho,hx,hy,Sem.run_bind,run_eqGuard_agg w .neq t x y xs ys hg,run_neq_struct,he w,Result.andThen_ok,Sem.run_pure]⟩
theorem qgw(t:TypeId)(x:Operand)(ho:o.op=.load t x)(hw:Region.wanted o (yielded ops a.tmps)=true)(b k:Nat)(hx:a.eval x=V (some ⟨b,k,none⟩))(l:List Value)(hS:∀w,S w->w.rangeAt b k l)(d:TypeDesc)(hu:prog.underlying t=some d)(hd:d.isRow=true)(hi:(prog.info? t).map (·.size)=some l.length):YieldsIf prog ops S o (.agg l.toArray) a:=
 yieldsIf_load_mid (P:=prog) (S:=S) hw t x ho b k hx l d hS hu hd hi
theorem qi3(t:TypeId)(x:Operand)(ho:o.op=.load t x)(hw:Region.wanted o (yielded ops a.tmps)=true)(b k:Nat)(hx:a.eval x=V (some ⟨b,k,none⟩))(l:List Value)(hc:w.rangeAt b k l)(d:TypeDesc)(hu:prog.underlying t=some d)(hd:d.isRow=true)(hi:(prog.info? t).map (·.size)=some l.length)(hr:wpList prog ops Q rest (a.put o.dst (.agg l.toArray)) w):wpList prog ops Q (o::rest) a w:=
 wpList_step fun K hK=>by
  rw[if_pos hw]
  exact wp_load_mid t x ho b k hx l d hc hu hd hi (hK _ _ hr)
theorem q2m(f:Nat->Int)(n:Nat):eqTo f f n=true:=(qjn f f n).2 fun _ _=>rfl
theorem qpv{B:Nat}{w0:World}(h:Below B w0 w):Below B w0 w.drew:=⟨h.os,h.tape,h.output,h.size,h.block⟩
theorem qyvb(f:Nat->Int)(g:Nat->Bool)(h:Nat->Int)(sl sl2:Value)(ms:List Mp)(hwF:wfF f)(hwH:wfH h)(w:World)(hM:qaz w sl ms)(hM2:qaz w sl2 ms):
  Calls prog 25 #[.agg (tc f g h sl),.agg (tc f g h sl2)] w fun e w'=>e=.returned (.bool true)/\Below w.heap.size w w':=by
 refine m1t ?_;intro hB hM0
 obtain⟨a0,cap,hsl,-⟩:=hM0
 obtain⟨n,hn⟩:∃n,n=ms.length:=⟨_,rfl⟩
 rw[←hn] at hsl
 subst hsl
 refine m2d ?_;clear hn;intro HN hlt;have hlt2:=hM2.lt
 obtain⟨a1,c1,hsl2,-⟩:=id hM2
 rw[←HN.out] at hsl2
 subst hsl2
 (have hnn:((n:Int) != (n:Int))=false:=by simp)
 go_enter func25,ntmps25
 go_wp2_with (first|((with_reducible refine gB 30 0 ?_);refine m0v ?_;intro b2 w1 l2 R2 hb1;replace hB:=hB.trans (hb1.mono hB.size))|((with_reducible refine gB 30 1 ?_);refine m37 ?_;clear R2 hB;intro b3 w1 l3 R3 hb1 R2 hB hp2 hp3 hh2 hh3 k2 k3)|((with_reducible refine gL 26 6 ?_);refine m60 ?_;refine m34 ?_)|((with_reducible refine gL 26 8 ?_);refine m61 ?_;refine m34 ?_)|((with_reducible refine qaa (.binOp .neq 26 (.tmp 7) (.tmp 9) 26) rfl ?_);refine m5u ?_)|((with_reducible refine gL 27 12 ?_);refine qi3 27 (.tmp 12) rfl ?_ b2 21 rfl (hcl h) hh2 _ underlying27 rfl (qfd _) ?_;· kernel_rfl)|((with_reducible refine gL 27 14 ?_);refine qi3 27 (.tmp 14) rfl ?_ b3 21 rfl (hcl h) hh3 _ underlying27 rfl (qfd _) ?_;· kernel_rfl)|((with_reducible refine qaa (.binOp .neq 27 (.tmp 13) (.tmp 15) 27) rfl ?_);refine qk0 27 (.tmp 13) (.tmp 15) rfl ?_ (hc8 h) (hc8 h) kr kr eqGuardType27 _ false (qmy h h hwH hwH _) (by rw[q2m];rfl) ?_;· kernel_rfl))
 clear hp2 hp3 hh2 hh3 k2 k3
 go_loopw [5] (fun i W=>∃j:Nat,j<=ms.length/\i=I Z j/\Below w.heap.size w W/\Row 30 W b2 (tc f g h (.slice a0 n cap))/\Row 30 W b3 (tc f g h (.slice a1 n c1))) (fun i _=>n-(intOf i).toNat)
 case atStart=>exact⟨0,by omega,rfl,hB,R2,R3⟩
 case round=>
  clear hB R2 R3
  obtain⟨j,hj,rfl,hB,R2,R3⟩:=hrel
  have k2:World.cell? _ ⟨b2,29,none⟩=some (.slice a0 n cap):=(R2.cell 29).trans (qdw _ _ _ _)
  by_cases hlj:j<ms.length
  ·refine m0h ?_;intro hjn hjw
   obtain⟨o,hm⟩:∃o,ms[j]=o:=⟨_,rfl⟩
   have r2:=(hM.keep hB hlt).at j hlj hm;have r3:=(hM2.keep hB hlt2).at j hlj hm;(have I2:=fun w2=>qrs hM j hlj w2);(have I3:=fun w2=>qrs hM2 j hlj w2);clear hm
   go_upto_region 6 with fail
   clear k2
   refine RD (fun W=>Row 30 W b2 (tc f g h (.slice a0 n cap))/\Row 30 W b3 (tc f g h (.slice a1 n c1))/\W.rangeAt (mb (.slice a0 n cap)) (mo (.slice a0 n cap)+5*j) (mcl o)/\W.rangeAt (mb (.slice a1 n c1)) (mo (.slice a1 n c1)+5*j) (mcl o)) ⟨R2,R3,r2,r3⟩ (fun _=>?_)
   refine m2l ?_
   refine tk 3 (V (some ⟨mb (.slice a0 n cap),mo (.slice a0 n cap)+5*j,none⟩)) rfl (qn6 (.tmp 35) (.tmp 36) rfl kr _ _ _ kr kr I2) ⟨R2,R3,r2,r3⟩ (tk 4 (.agg (mcl o).toArray) rfl (qgw 32 (.tmp 37) rfl kr _ _ kr (mcl o) (fun _ h=>h.2.2.1) _ underlying32 rfl (qby o)) ⟨R2,R3,r2,r3⟩ (tq 5 (V (some ⟨b3,29,none⟩)) rfl ⟨R2,R3,r2,r3⟩ ?_))
   simp only[ZZ];(refine tk 6 (.slice a1 n c1) rfl (Or.inl ⟨by kernel_rfl,by intro w hS;have hc:=(hS.2.1.cell 29).trans (qdw _ _ _ _);go_simp⟩) ⟨R2,R3,r2,r3⟩ (tq 7 (I Z (j:Int)) rfl ⟨R2,R3,r2,r3⟩ (tk 8 (V (some ⟨mb (.slice a1 n c1),mo (.slice a1 n c1)+5*j,none⟩)) rfl (qn6 (.tmp 40) (.tmp 41) rfl kr _ _ _ kr kr I3) ⟨R2,R3,r2,r3⟩ ?_)));simp only[ZZ]
   refine tk 9 (.agg (mcl o).toArray) rfl (qgw 32 (.tmp 42) rfl kr _ _ kr (mcl o) (fun _ h=>h.2.2.2) _ underlying32 rfl (qby o)) ⟨R2,R3,r2,r3⟩ (tk 10 (.bool false) rfl (qry 32 (.tmp 38) (.tmp 43) rfl kr (mc o) (mc o) kr kr eqGuardType32 _ _ (fun w=>qkb o o w) zm) ⟨R2,R3,r2,r3⟩ ?_)
   refine m2c ?_;replace R2:Row 30 (World.drew _) b2 _:=R2;replace R3:Row 30 (World.drew _) b3 _:=R3;replace hB:=qpv hB
   go_wp2
   go_roundw
   case rel=>first|exact⟨j+1,by omega,by go_num,hB,R2,R3⟩|((repeat apply Exists.intro);exact⟨⟨j+1,by omega,by go_num,hB,R2,R3⟩,rfl⟩)
   case measure=>(first|rw[hjw]|skip);exact qek (HN.out.symm▸hlj)
  ·refine m3r ?_;intro hjn;clear hj hlj
   go_wp2
   go_ret
   exact⟨rfl,hB⟩
structure Bd(w W:World)(L:List (Nat×TypeId×Array Value))(Ms:List (Value×List Mp)):Prop where
 nodup:(L.map (·.1)).Nodup
 rows:∀y∈L,Row y.2.1 W y.1 y.2.2/\w.heap.size<=y.1
 maps:∀q∈Ms,qaz W q.1 q.2/\∀b∈L.map (·.1),0<q.2.length->mb q.1≠b
 base:Below w.heap.size w W
section
variable {w W W':World} {L:List (Nat×TypeId×Array Value)} {Ms:List (Value×List Mp)}
theorem Bd.start(w:World):Bd w w [] []:=⟨by simp,by simp,by simp,Below.refl _ _⟩
theorem Bd.row(h:Bd w W L Ms)(i:Nat)(hi:L[i]?=some (b,t,cs)):Row t W b cs:=(h.rows _ (List.mem_of_getElem? hi)).1
theorem Bd.map(h:Bd w W L Ms)(k:Nat)(hk:Ms[k]?=some (v,ms)):qaz W v ms:=(h.maps _ (List.mem_of_getElem? hk)).1
theorem Bd.below(h:Bd w W L Ms)(hb:Below W.heap.size W W'):Bd w W' L Ms:=
 ⟨h.nodup,fun y hy=>⟨(h.rows y hy).1.below hb,(h.rows y hy).2⟩,fun q hq=>⟨(h.maps q hq).1.below hb,(h.maps q hq).2⟩,h.base.trans (hb.mono h.base.size)⟩
theorem Bd.drew(h:Bd w W L Ms):Bd w W.drew L Ms:=h.below (Below.refl _ _).drew
theorem Bd.drewN(h:Bd w W L Ms)(n:Nat):Bd w (W.drewN n) L Ms:=h.below ⟨rfl,rfl,rfl,Nat.le_refl _,fun _ _=>rfl⟩
theorem Bd.lt(h:Bd w W L Ms)(hb:b∈L.map (·.1)):b<W.heap.size:=by
 obtain⟨y,hy,rfl⟩:=List.mem_map.1 hb
 exact(h.rows y hy).1.lt
theorem Bd.alloc(h:Bd w W L Ms)(hl:W.heap.size<=b)(R:Row t W' b cs)(hb:Below W.heap.size W W'):Bd w W' ((b,t,cs)::L) Ms:=by
 have h':=h.below hb
 refine⟨?_,fun y hy=>?_,fun q hq=>⟨(h'.maps q hq).1,fun c hc hl0=>?_⟩,h'.base⟩
 ·rw[List.map_cons,List.nodup_cons]
  exact⟨fun hm=>by have:=h.lt hm;simp only at *;omega,h.nodup⟩
 ·rcases List.mem_cons.1 hy with rfl|hy
  ·exact⟨R,Nat.le_trans h.base.size hl⟩
  ·exact h'.rows y hy
 ·rw[List.map_cons] at hc
  rcases List.mem_cons.1 hc with rfl|hc
  ·have:=(h.maps q hq).1.lt hl0;omega
  ·exact(h.maps q hq).2 c hc hl0
theorem Bd.turn(h:Bd w W L Ms)(i:Nat){cs':Array Value}(hi:L[i]?=some (b,t,cs))(R:Row t W' b cs')(T:qbl b W W'):Bd w W' (L.set i (b,t,cs')) Ms:=by
 have hlt:i<L.length:=(List.getElem?_eq_some_iff.1 hi).1;have hLi:L[i]=(b,t,cs):=(List.getElem?_eq_some_iff.1 hi).2
 have hm:(L.set i (b,t,cs')).map (·.1)=L.map (·.1):=by
  apply List.ext_getElem?
  intro j;rw[List.getElem?_map,List.getElem?_set,List.getElem?_map]
  by_cases hj:i=j
  ·subst hj;simp[hlt,hLi]
  ·simp[hj]
 have hbm:b∈L.map (·.1):=List.mem_map.2 ⟨_,List.mem_of_getElem? hi,rfl⟩
 refine⟨by rw[hm];exact h.nodup,fun y hy=>?_,fun q hq=>⟨qcl (h.maps q hq).1 (fun h0=>(h.maps q hq).2 b hbm h0) T,by rw[hm];exact(h.maps q hq).2⟩,T.below _ _ (h.rows _ (List.mem_of_getElem? hi)).2 h.base⟩
 obtain⟨j,hj⟩:=List.mem_iff_getElem?.1 hy
 rw[List.getElem?_set] at hj
 by_cases hij:i=j
 ·subst hij
  rw[if_pos rfl,if_pos hlt] at hj
  obtain rfl:=Option.some.inj hj
  exact⟨R,(h.rows _ (List.mem_of_getElem? hi)).2⟩
 ·rw[if_neg hij] at hj
  have hy':=List.mem_of_getElem? hj
  refine⟨T.row (h.rows y hy').1 (fun e=>hij ?_),(h.rows y hy').2⟩
  (have e1:(L.map (·.1))[i]?=some b:=by rw[List.getElem?_map,hi];rfl);(have e2:(L.map (·.1))[j]?=some b:=by rw[List.getElem?_map,hj];simp[e])
  exact(List.getElem?_inj (by simpa using hlt) h.nodup).1 (by rw[e1,e2])
theorem Bd.addNew(h:Bd w W L Ms)(hb:Below W.heap.size W W')(hM:qaz W' v ms)(hl:0<ms.length->W.heap.size<=mb v):Bd w W' L ((v,ms)::Ms):=by
 have h':=h.below hb
 refine⟨h'.nodup,h'.rows,fun q hq=>?_,h'.base⟩
 rcases List.mem_cons.1 hq with rfl|hq
 ·exact⟨hM,fun b hbm h0=>by have:=h.lt hbm;have:=hl h0;simp only at *;omega⟩
 ·exact h'.maps q hq
theorem qzkb{W W':World}(h:qaz W v ms)(h':qaz W' v ms'):ms.length=ms'.length:=by
 obtain⟨a,c,e,_⟩:=h
 obtain⟨a',c',e',_⟩:=h'
 rw[e] at e'
 simp at e'
 exact e'.2.1
theorem Bd.addEither(h:Bd w W L Ms)(k:Nat)(hk:Ms[k]?=some (sl,ms))(hb:Below W.heap.size W W')(hM:qaz W' v ms')(ho:v=sl\/W.heap.size<=mb v):Bd w W' L ((v,ms')::Ms):=by
 rcases ho with rfl|ho
 ·have h':=h.below hb
  refine⟨h'.nodup,h'.rows,fun q hq=>?_,h'.base⟩
  rcases List.mem_cons.1 hq with rfl|hq
  ·exact⟨hM,fun b hbm h0=>(h.maps _ (List.mem_of_getElem? hk)).2 b hbm (by rw[qzkb (h.map k hk) hM];exact h0)⟩
  ·exact h'.maps q hq
 ·exact h.addNew hb hM (fun _=>ho)
theorem Bd.two(h:Bd w W L Ms)(i j:Nat)(hij:i≠j){y1 y2:Nat×TypeId×Array Value}(hi:L[i]?=some y1)(hj:L[j]?=some y2)(k:Nat){q:Value×List Mp}(hk:Ms[k]?=some q):Bd w W [y1,y2] [q]:=by
 have m1:=List.mem_of_getElem? hi;have m2:=List.mem_of_getElem? hj;have b1:y1.1∈L.map (·.1):=List.mem_map.2 ⟨_,m1,rfl⟩;have b2:y2.1∈L.map (·.1):=List.mem_map.2 ⟨_,m2,rfl⟩
 have hne:y1.1≠y2.1:=fun e=>hij (by
  (have e1:(L.map (·.1))[i]?=some y1.1:=by rw[List.getElem?_map,hi];rfl);(have e2:(L.map (·.1))[j]?=some y1.1:=by rw[List.getElem?_map,hj];simp[e])
  exact(List.getElem?_inj (by simpa using(List.getElem?_eq_some_iff.1 hi).1) h.nodup).1 (by rw[e1,e2]))
 refine⟨by simp[hne],fun y hy=>?_,fun p hp=>?_,h.base⟩
 ·rcases List.mem_cons.1 hy with rfl|hy
  ·exact h.rows _ m1
  ·obtain rfl:=List.mem_singleton.1 hy
   exact h.rows _ m2
 ·obtain rfl:=List.mem_singleton.1 hp
  have hm:=h.maps _ (List.mem_of_getElem? hk)
  refine⟨hm.1,fun b hb=>?_⟩
  simp only[List.map_cons,List.map_nil,List.mem_cons,List.not_mem_nil,or_false] at hb
  rcases hb with rfl|rfl
  ·exact hm.2 _ b1
  ·exact hm.2 _ b2
end
end Go.Proofs.Ytbboabfmoahipaa
