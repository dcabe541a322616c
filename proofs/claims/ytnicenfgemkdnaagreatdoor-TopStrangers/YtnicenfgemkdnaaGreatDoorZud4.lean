/-
  Of what a law stands on.
-/
import Derived.BigQuiet
import Derived.Test.YtnicenfgemkdnaaGreatDoorZud3
set_option linter.unusedSimpArgs false
set_option linter.unusedVariables false
namespace Go.Proofs.YtnicenfgemkdnaaGreatDoor
open _root_.Go.Proofs.Tryz
set_option maxHeartbeats 16000000
set_option maxRecDepth 100000
open Go.ChangeShapes Go.WideShapes Go.ChangeAt Go.RowKit
theorem qml {f h:Nat→Int} {l:List Mp} {m:Mp} (hall:∀ o∈l,qdb f h o) (hs:qdb f h m):qfr l (plA m) (plB m)=l.any (fun o=>qa7 o == qa7 m):=by
 have hin:∀ o,qdb f h o→inP o=true:=fun o x=>by unfold inP;exact decide_eq_true ⟨x.2.2.2.1,x.2.2.2.2.1⟩
 rw [Bool.eq_iff_iff]
 unfold qfr
 simp only [List.any_eq_true]
 constructor
 ·rintro ⟨o,ho,h1⟩
  refine ⟨o,ho,?_⟩
  have x:=hall o ho
  rw [hin o x] at h1
  unfold plA plB at h1
  rw [hin o x,hin m hs] at h1
  simp at h1
  have:=(qrg x.2.2.2.2.1 x.2.2.2.1 hs.2.2.2.2.1 hs.2.2.2.1).2 h1
  simp [qa7,this]
 ·rintro ⟨o,ho,h1⟩
  refine ⟨o,ho,?_⟩
  have x:=hall o ho
  have h2:qa7 o=qa7 m:=by simpa using h1
  have:=(qrg x.2.2.2.2.1 x.2.2.2.1 hs.2.2.2.2.1 hs.2.2.2.1).1 h2
  rw [hin o x]
  unfold plA plB
  rw [hin o x,hin m hs]
  simp [this]
theorem qqd {ms:List Mp} {m o:Mp} (h:o∈qa6 ms m):o∈ms:=(List.mem_filter.1 h).1
def qdx (f:Nat→Int) (m:Mp):Nat→Int:=upd f (qa7 m) 0
def qux (f h:Nat→Int) (m:Mp):Nat→Int:=if (qbk (qdx f m) m.2.1).length=0 then upd h m.2.1.toNat 0 else h
theorem qqx {f h:Nat→Int} {ms:List Mp} {m:Mp} (G:qbq f h ms) (hs:qdb f h m) (g:Nat→Bool):qgh f g m.2.1 (plA m) (plB m)=.tuple #[plv (qdx f m) g,.int .i64 0]:=by
 have hin:inP m=true:=by unfold inP;exact decide_eq_true ⟨hs.2.2.2.1,hs.2.2.2.2.1⟩
 have ha:plA m=((m.2.2.2.1.toNat:Nat):Int):=by unfold plA;rw [if_pos hin];have:=hs.2.2.2.2.1;omega
 have hb:plB m=((((m.2.2.2.2 - 1024) / 8).toNat:Nat):Int):=by unfold plB;rw [if_pos hin];have:=hs.2.2.2.1;omega
 have e0:=qno (f:=f) (s:=m.2.1) (a:=m.2.2.2.1.toNat) (k:=((m.2.2.2.2 - 1024) / 8).toNat) G.pool (by have:=hs.2.2.2.2.1;omega) (by have:=hs.2.2.2.1;omega) (qed hs.2.1.1 hs.2.1.2) hs.2.2.2.2.2.2
 unfold qgh que
 rw [ha,hb,e0,if_pos rfl,Int.toNat_natCast,Int.toNat_natCast]
 rfl
theorem qh1 {ops:Array Oper} {rest:List Oper} {o:Oper} {a:Act} {w:World} {Q:Exit→Act→World→Prop} {t:TypeId} {b:Nat} {cs:Array Value} (R:Row t w b cs) (hgd:o.guard=none) (x y:Operand) (ho:o.op=.store 37 x y)
  (f:Nat) (hx:a.eval x=.pointer (some ⟨b,f,none⟩)) (p:Option Addr) (n c:Nat) (hy:a.eval y=.slice p n c) (old:Value) (hc:cs[f]?=some old) (ds:Array Value) (hd:cs.setIfInBounds f (.slice p n c)=ds)
  (hr:∀ w',Row t w' b ds→qbl b w w'→wpList prog ops Q rest (a.put o.dst undef) w'):wpList prog ops Q (o :: rest) a w:=
 wpList_plain hgd fun K hK=>by
  have hcell:=(R.cell f).trans hc
  have hfr:=R.free f
  unfold Oper.wp execOp
  simp only [ho,hx,hy]
  simp [go_sem,hcell,hfr,underlying37]
  exact hK _ _ (hr _ (hd▸R.set) (qfx _ _ _ _))
attribute [local irreducible] tc pc
theorem sZud41 {p:Prop} (h:p:=by
 have h1:=qnu (qqg G.maps) hm
 have h2:=HN.out
 have:(ln:Int)≠(n:Int):=by omega
 simpa using this):p:=h
theorem q67 (f:Nat→Int) (g:Nat→Bool) (h:Nat→Int) (sl:Value) (ms:List Mp) (m:Mp) (hwH:wfH h) (w:World) (hM:qaz w sl ms) (G:qbq f h ms) (hm:m∈ms) (ha:(qa6 ms m).any (fun o=>qa7 o == qa7 m)=true) :
  Calls prog 153 #[.agg (tc f g h sl),.agg (mc m)] w fun e w'=>∃ v,e=.returned (.tuple #[.agg (tc f g h v),.bool false,.int .i64 0])∧qaz w' v (qa6 ms m)∧qcs v∧(0<(qa6 ms m).length→w.heap.size≤mb v)∧Below w.heap.size w w':=by
 have hB:=Below.refl w.heap.size w
 have hM0:=hM
 obtain ⟨a0,cap,hsl,-⟩:=hM0
 obtain ⟨n,hn⟩:∃ n,n=ms.length:=⟨_,rfl⟩
 rw [← hn] at hsl
 subst hsl
 have HN:Hid (n=ms.length):=hn
 clear hn
 have hlt:=hM.lt
 obtain ⟨ln,hln⟩:∃ ln,ln=(qa6 ms m).length:=⟨_,rfl⟩
 have HL:Hid (ln=(qa6 ms m).length):=hln
 have HG:Hid (qbq f h ms):=G
 have hlne:((ln:Int) == (n:Int))=false:=by
  exact sZud41
 have hst:=G.maps.1 m hm
 have hin:inP m=true:=by unfold inP;exact decide_eq_true ⟨hst.2.2.2.1,hst.2.2.2.2.1⟩
 have CG:=fun w hM=>qf8 f g h (.slice a0 n cap) ms hwH w hM
 have CW:=fun w hM=>qmn (.slice a0 n cap) ms m w hM (Nat.le_trans G.len (by decide))
 have CPl:=fun w=>qgp m w
 simp only [hin] at CPl
 have CA:=fun sl w hM=>qoa sl (qa6 ms m) (plA m) (plB m) w hM
 rw [qml (fun o ho=>G.maps.1 o (qqd ho)) hst,ha] at CA
 clear hln G hm ha hst hin
 go_enter func153,ntmps153
 go_wp2_with (first|((with_reducible refine qaa (.box 39 (.tmp 0)) rfl ?_);refine qag 39 rfl (.tmp 0) rfl _ rfl ?_;intro b2 w1 l2 R2 hb1;replace hB:=hB.trans (hb1.mono hB.size))|((with_reducible refine qaa (.box 46 (.tmp 1)) rfl ?_);refine qag 46 rfl (.tmp 1) rfl (mc m) rfl ?_;intro b3 w1 l3 R3 hb1;replace R2:=R2.below hb1;replace hB:=hB.trans (hb1.mono hB.size))|((with_reducible refine qaa (.alloc 39) rfl ?_);refine qaf 4 39 rfl rfl rfl _ qb8 ?_;intro b4 w2 l4 R4 hb2;have n24:=R2.ne l4;have n34:=R3.ne l4;replace l4:=Nat.le_trans hB.size l4;replace R2:=R2.below hb2;replace R3:=R3.below hb2;replace hB:=hB.trans (hb2.mono hB.size))|((with_reducible refine qaa (.load 39 (.tmp 2)) rfl ?_);refine qac 39 (.tmp 2) rfl rfl b2 rfl (tc f g h (.slice a0 n cap)) R2 _ underlying39 rfl (qaq _ _ _ _) ?_)|(go_at_call 21;go_fit (CG _ (hM.keep hB hlt));rintro e w5 ⟨r,hr,rfl,hb5⟩;obtain rfl:r=true:=(hr.2 HG.out);clear hr;replace R2:=R2.below hb5;replace R3:=R3.below hb5;replace R4:=R4.below hb5;replace hB:=hB.trans (hb5.mono hB.size);have cM:World.cell? _ ⟨b2,29,none⟩=some (.slice a0 n cap):=(R2.cell 29).trans (qdw _ _ _ _))|((with_reducible refine qaa (.load 46 (.tmp 3)) rfl ?_);refine qac 46 (.tmp 3) rfl rfl b3 rfl (mc m) R3 _ underlying46 rfl (qak _) ?_)|(go_at_call 179;go_fit (CW _ (hM.keep hB hlt));rintro e w6 ⟨v,rfl,hMv,hNv,hbv,hb6⟩;clear cM;have x4:0<(qa6 ms m).length→mb v≠b4:=(fun hl=>Nat.ne_of_gt (Nat.lt_of_lt_of_le R4.lt (hbv hl)));replace hbv:0<(qa6 ms m).length→w.heap.size≤mb v:=(fun hl=>Nat.le_trans hB.size (hbv hl));replace R2:=R2.below hb6;replace R3:=R3.below hb6;replace R4:=R4.below hb6;replace hB:=hB.trans (hb6.mono hB.size);(obtain ⟨av,cv,hv,-⟩:=id hMv);rw [← HL.out] at hv;subst hv;have cM:World.cell? _ ⟨b2,29,none⟩=some (.slice a0 n cap):=(R2.cell 29).trans (qdw _ _ _ _))|(go_at_call 55;go_fit (CPl _);rintro e w7 ⟨rfl,hb7⟩;clear cM;replace R2:=R2.below hb7;replace R3:=R3.below hb7;replace R4:=R4.below hb7;replace hMv:=hMv.below hb7;replace hB:=hB.trans (hb7.mono hB.size))|((with_reducible refine qaa (.alloc 97) rfl ?_);refine qaf 8 97 rfl rfl rfl _ qcn ?_;intro b8 w8 l8 R8 hb8;have n28:=R2.ne l8;have n38:=R3.ne l8;have n48:=R4.ne l8;have x8:=hMv.away3 l8;replace l8:=Nat.le_trans hB.size l8;replace R2:=R2.below hb8;replace R3:=R3.below hb8;replace R4:=R4.below hb8;replace hMv:=hMv.below hb8;replace hB:=hB.trans (hb8.mono hB.size))|((with_reducible refine qaa (.store 97 (.tmp 8) (.tmp 29)) rfl ?_);refine qab 97 rfl (.tmp 8) _ rfl b8 rfl (ic2 (plA m) (plB m)) rfl _ R8 rfl (qer _ _) (qlf _ _) ?_;intro w9 R8 t9;replace R2:=t9.row R2 n28;replace R3:=t9.row R3 n38;replace R4:=t9.row R4 n48;replace hMv:=qcl hMv x8 t9;replace hB:=t9.below _ _ l8 hB)|((with_reducible refine qaa (.alloc 39) rfl ?_);refine qaf 10 39 rfl rfl rfl _ qb8 ?_;intro b10 w10 l10 R10 hb10;have n210:=R2.ne l10;have n310:=R3.ne l10;have n410:=R4.ne l10;have n810:=R8.ne l10;have x10:=hMv.away3 l10;replace l10:=Nat.le_trans hB.size l10;replace R2:=R2.below hb10;replace R3:=R3.below hb10;replace R4:=R4.below hb10;replace R8:=R8.below hb10;replace hMv:=hMv.below hb10;replace hB:=hB.trans (hb10.mono hB.size))|((with_reducible refine qaa (.store 39 (.tmp 10) (.tmp 31)) rfl ?_);refine qab 39 rfl (.tmp 10) _ rfl b10 rfl (tc f g h (.slice a0 n cap)) rfl _ R10 (qen _ _ _ _ _ _ _ _) (qaq _ _ _ _) (qbm _ _ _ _ _ _) ?_;intro w11 R10 t11;replace R2:=t11.row R2 n210;replace R3:=t11.row R3 n310;replace R4:=t11.row R4 n410;replace R8:=t11.row R8 n810;replace hMv:=qcl hMv x10 t11;replace hB:=t11.below _ _ l10 hB)|((with_reducible refine qaa (.store 37 (.tmp 33) (.tmp 32)) rfl ?_);refine qh1 R10 rfl _ _ rfl 29 rfl _ _ _ rfl _ (qdw _ _ _ _) (tc f g h (.slice av ln cv)) (qm0 _ _ _ _ _) ?_;intro w12 R10 t12;replace R2:=t12.row R2 n210;replace R3:=t12.row R3 n310;replace R4:=t12.row R4 n410;replace R8:=t12.row R8 n810;replace hMv:=qcl hMv x10 t12;replace hB:=t12.below _ _ l10 hB)|((with_reducible refine qaa (.load 97 (.tmp 8)) rfl ?_);refine qac 97 (.tmp 8) rfl rfl b8 rfl (ic2 (plA m) (plB m)) R8 _ underlying97 rfl (qer _ _) ?_)|(go_at_call 180;go_fit (CA _ _ hMv);rintro e w13 ⟨rfl,hb13⟩;replace R2:=R2.below hb13;replace R3:=R3.below hb13;replace R4:=R4.below hb13;replace R8:=R8.below hb13;replace R10:=R10.below hb13;replace hMv:=hMv.below hb13;replace hB:=hB.trans (hb13.mono hB.size) )|((with_reducible refine qaa (.load 39 (.tmp 10)) rfl ?_);refine qac 39 (.tmp 10) rfl rfl b10 rfl (tc f g h (.slice av ln cv)) R10 _ underlying39 rfl (qaq _ _ _ _) ?_)|((with_reducible refine qaa (.store 39 (.tmp 4) (.tmp 37)) rfl ?_);refine qab 39 rfl (.tmp 4) _ rfl b4 rfl (tc f g h (.slice av ln cv)) rfl _ R4 (qen _ _ _ _ _ _ _ _) (qaq _ _ _ _) (qbm _ _ _ _ _ _) ?_;intro w14 R4 t14;replace hMv:=qcl hMv x4 t14;replace hB:=t14.below _ _ l4 hB))
 ((try simp only [Exit.inBlock,Exit.then]);refine bodyPost_ret (qlv (p:=4) (u:=5) (v:=6) rfl _ _ _ _ rfl R4 _ underlying39 rfl (qaq _ _ _ _)) rfl ⟨_,rfl,hMv,hNv,hbv,hB⟩)
theorem qzw (f:Nat→Int) (g:Nat→Bool) (h:Nat→Int) (sl:Value) (ms:List Mp) (m:Mp) (hwH:wfH h) (w:World) (hM:qaz w sl ms) (G:qbq f h ms) (hm:m∈ms) (ha:(qa6 ms m).any (fun o=>qa7 o == qa7 m)=false) (hz:(qbk (qdx f m) m.2.1).length=0) :
  Calls prog 153 #[.agg (tc f g h sl),.agg (mc m)] w fun e w'=>∃ v,e=.returned (.tuple #[.agg (tc (qdx f m) g (upd h m.2.1.toNat 0) v),.bool true,.int .i64 0])∧qaz w' v (qa6 ms m)∧qcs v∧(0<(qa6 ms m).length→w.heap.size≤mb v)∧Below w.heap.size w w':=by
 have hB:=Below.refl w.heap.size w
 have hM0:=hM
 obtain ⟨a0,cap,hsl,-⟩:=hM0
 obtain ⟨n,hn⟩:∃ n,n=ms.length:=⟨_,rfl⟩
 rw [← hn] at hsl
 subst hsl
 have HN:Hid (n=ms.length):=hn
 clear hn
 have hlt:=hM.lt
 obtain ⟨ln,hln⟩:∃ ln,ln=(qa6 ms m).length:=⟨_,rfl⟩
 have HL:Hid (ln=(qa6 ms m).length):=hln
 have HG:Hid (qbq f h ms):=G
 have hlne:((ln:Int) == (n:Int))=false:=by
  exact sZud41
 have hst:=G.maps.1 m hm
 have hin:inP m=true:=by unfold inP;exact decide_eq_true ⟨hst.2.2.2.1,hst.2.2.2.2.1⟩
 have CG:=fun w hM=>qf8 f g h (.slice a0 n cap) ms hwH w hM
 have CW:=fun w hM=>qmn (.slice a0 n cap) ms m w hM (Nat.le_trans G.len (by decide))
 have CPl:=fun w=>qgp m w
 simp only [hin] at CPl
 have CA:=fun sl w hM=>qoa sl (qa6 ms m) (plA m) (plB m) w hM
 rw [qml (fun o ho=>G.maps.1 o (qqd ho)) hst,ha] at CA
 have CGi:=fun w=>quv f g m.2.1 (plA m) (plB m) w
 rw [qqx G hst] at CGi
 have CB:=fun av w=>qiq (qdx f m) g h av m.2.1 hst.2.1.1 hst.2.1.2 w
 have hs8n:m.2.1.toNat<8:=by have:=hst.2.1;omega
 have hs0:0≤m.2.1:=hst.2.1.1
 have hs8:m.2.1<8:=hst.2.1.2
 rw [hz] at CB
 clear hln G hm ha hst hin hz
 go_enter func153,ntmps153
 go_wp2_with (first|((with_reducible refine qaa (.box 39 (.tmp 0)) rfl ?_);refine qag 39 rfl (.tmp 0) rfl _ rfl ?_;intro b2 w1 l2 R2 hb1;replace hB:=hB.trans (hb1.mono hB.size))|((with_reducible refine qaa (.box 46 (.tmp 1)) rfl ?_);refine qag 46 rfl (.tmp 1) rfl (mc m) rfl ?_;intro b3 w1 l3 R3 hb1;replace R2:=R2.below hb1;replace hB:=hB.trans (hb1.mono hB.size))|((with_reducible refine qaa (.alloc 39) rfl ?_);refine qaf 4 39 rfl rfl rfl _ qb8 ?_;intro b4 w2 l4 R4 hb2;have n24:=R2.ne l4;have n34:=R3.ne l4;replace l4:=Nat.le_trans hB.size l4;replace R2:=R2.below hb2;replace R3:=R3.below hb2;replace hB:=hB.trans (hb2.mono hB.size))|((with_reducible refine qaa (.load 39 (.tmp 2)) rfl ?_);refine qac 39 (.tmp 2) rfl rfl b2 rfl (tc f g h (.slice a0 n cap)) R2 _ underlying39 rfl (qaq _ _ _ _) ?_)|(go_at_call 21;go_fit (CG _ (hM.keep hB hlt));rintro e w5 ⟨r,hr,rfl,hb5⟩;obtain rfl:r=true:=(hr.2 HG.out);clear hr;replace R2:=R2.below hb5;replace R3:=R3.below hb5;replace R4:=R4.below hb5;replace hB:=hB.trans (hb5.mono hB.size);have cM:World.cell? _ ⟨b2,29,none⟩=some (.slice a0 n cap):=(R2.cell 29).trans (qdw _ _ _ _))|((with_reducible refine qaa (.load 46 (.tmp 3)) rfl ?_);refine qac 46 (.tmp 3) rfl rfl b3 rfl (mc m) R3 _ underlying46 rfl (qak _) ?_)|(go_at_call 179;go_fit (CW _ (hM.keep hB hlt));rintro e w6 ⟨v,rfl,hMv,hNv,hbv,hb6⟩;clear cM;have x4:0<(qa6 ms m).length→mb v≠b4:=(fun hl=>Nat.ne_of_gt (Nat.lt_of_lt_of_le R4.lt (hbv hl)));replace hbv:0<(qa6 ms m).length→w.heap.size≤mb v:=(fun hl=>Nat.le_trans hB.size (hbv hl));replace R2:=R2.below hb6;replace R3:=R3.below hb6;replace R4:=R4.below hb6;replace hB:=hB.trans (hb6.mono hB.size);(obtain ⟨av,cv,hv,-⟩:=id hMv);rw [← HL.out] at hv;subst hv;have cM:World.cell? _ ⟨b2,29,none⟩=some (.slice a0 n cap):=(R2.cell 29).trans (qdw _ _ _ _))|(go_at_call 55;go_fit (CPl _);rintro e w7 ⟨rfl,hb7⟩;clear cM;replace R2:=R2.below hb7;replace R3:=R3.below hb7;replace R4:=R4.below hb7;replace hMv:=hMv.below hb7;replace hB:=hB.trans (hb7.mono hB.size))|((with_reducible refine qaa (.alloc 97) rfl ?_);refine qaf 8 97 rfl rfl rfl _ qcn ?_;intro b8 w8 l8 R8 hb8;have n28:=R2.ne l8;have n38:=R3.ne l8;have n48:=R4.ne l8;have x8:=hMv.away3 l8;replace l8:=Nat.le_trans hB.size l8;replace R2:=R2.below hb8;replace R3:=R3.below hb8;replace R4:=R4.below hb8;replace hMv:=hMv.below hb8;replace hB:=hB.trans (hb8.mono hB.size))|((with_reducible refine qaa (.store 97 (.tmp 8) (.tmp 29)) rfl ?_);refine qab 97 rfl (.tmp 8) _ rfl b8 rfl (ic2 (plA m) (plB m)) rfl _ R8 rfl (qer _ _) (qlf _ _) ?_;intro w9 R8 t9;replace R2:=t9.row R2 n28;replace R3:=t9.row R3 n38;replace R4:=t9.row R4 n48;replace hMv:=qcl hMv x8 t9;replace hB:=t9.below _ _ l8 hB)|((with_reducible refine qaa (.alloc 39) rfl ?_);refine qaf 10 39 rfl rfl rfl _ qb8 ?_;intro b10 w10 l10 R10 hb10;have n210:=R2.ne l10;have n310:=R3.ne l10;have n410:=R4.ne l10;have n810:=R8.ne l10;have x10:=hMv.away3 l10;replace l10:=Nat.le_trans hB.size l10;replace R2:=R2.below hb10;replace R3:=R3.below hb10;replace R4:=R4.below hb10;replace R8:=R8.below hb10;replace hMv:=hMv.below hb10;replace hB:=hB.trans (hb10.mono hB.size))|((with_reducible refine qaa (.store 39 (.tmp 10) (.tmp 31)) rfl ?_);refine qab 39 rfl (.tmp 10) _ rfl b10 rfl (tc f g h (.slice a0 n cap)) rfl _ R10 (qen _ _ _ _ _ _ _ _) (qaq _ _ _ _) (qbm _ _ _ _ _ _) ?_;intro w11 R10 t11;replace R2:=t11.row R2 n210;replace R3:=t11.row R3 n310;replace R4:=t11.row R4 n410;replace R8:=t11.row R8 n810;replace hMv:=qcl hMv x10 t11;replace hB:=t11.below _ _ l10 hB)|((with_reducible refine qaa (.store 37 (.tmp 33) (.tmp 32)) rfl ?_);refine qh1 R10 rfl _ _ rfl 29 rfl _ _ _ rfl _ (qdw _ _ _ _) (tc f g h (.slice av ln cv)) (qm0 _ _ _ _ _) ?_;intro w12 R10 t12;replace R2:=t12.row R2 n210;replace R3:=t12.row R3 n310;replace R4:=t12.row R4 n410;replace R8:=t12.row R8 n810;replace hMv:=qcl hMv x10 t12;replace hB:=t12.below _ _ l10 hB)|((with_reducible refine qaa (.load 97 (.tmp 8)) rfl ?_);refine qac 97 (.tmp 8) rfl rfl b8 rfl (ic2 (plA m) (plB m)) R8 _ underlying97 rfl (qer _ _) ?_)|(go_at_call 180;go_fit (CA _ _ hMv);rintro e w13 ⟨rfl,hb13⟩;replace R2:=R2.below hb13;replace R3:=R3.below hb13;replace R4:=R4.below hb13;replace R8:=R8.below hb13;replace R10:=R10.below hb13;replace hMv:=hMv.below hb13;replace hB:=hB.trans (hb13.mono hB.size);have c31:=m1 R3;have c80:=p0B R8;have c81:=p1 R8;have hrp:=R2.pool)|((with_reducible refine qaa (.load 35 (.tmp 39)) rfl ?_);refine wpList_load_mid rfl 35 (.tmp 39) rfl b2 0 rfl (pc f g).toList _ hrp underlying35 rfl (by simpa using qfg f g) ?_;(try simp only [Array.toArray_toList]))|(go_at_call 181;go_fit (CGi _);rintro e w15 ⟨rfl,hb15⟩;clear c31 c80 c81 hrp;replace R2:=R2.below hb15;replace R3:=R3.below hb15;replace R4:=R4.below hb15;replace R8:=R8.below hb15;replace R10:=R10.below hb15;replace hMv:=hMv.below hb15;replace hB:=hB.trans (hb15.mono hB.size))|((with_reducible refine qaa (.store 35 (.tmp 50) (.tmp 48)) rfl ?_);refine qkk rfl (.tmp 50) (.tmp 48) rfl b10 rfl (qdx f m) g rfl f g h (.slice av ln cv) R10 ?_;intro w16 R10 t16;replace R3:=t16.row R3 n310;replace R4:=t16.row R4 n410;replace hMv:=qcl hMv x10 t16;replace hB:=t16.below _ _ l10 hB;have c31:=m1 R3)|(go_at_call 86;go_fit (CB _ _);rintro e w17 ⟨vb,rfl,⟨ab,cb,rfl⟩,hpl,hb17⟩;clear hpl c31;replace R3:=R3.below hb17;replace R4:=R4.below hb17;replace R10:=R10.below hb17;replace hMv:=hMv.below hb17;replace hB:=hB.trans (hb17.mono hB.size);have c31:=m1 R3)|((with_reducible refine qaa (.store 3 (.tmp 60) (.const (.int .i64 0))) rfl ?_);refine qbb R10 rfl _ _ rfl (21+m.2.1.toNat) rfl _ rfl _ (qhc _ _ _ _ _ hs8n) (tc (qdx f m) g (upd h m.2.1.toNat 0) (.slice av ln cv)) (qsk _ _ _ _ _ _ hs8n) ?_;intro w18 R10 t18;clear c31;replace R4:=t18.row R4 n410;replace hMv:=qcl hMv x10 t18;replace hB:=t18.below _ _ l10 hB)|((with_reducible refine qaa (.load 39 (.tmp 10)) rfl ?_);first|refine qac 39 (.tmp 10) rfl rfl b10 rfl (tc (qdx f m) g (upd h m.2.1.toNat 0) (.slice av ln cv)) R10 _ underlying39 rfl (qaq _ _ _ _) ?_|refine qac 39 (.tmp 10) rfl rfl b10 rfl (tc (qdx f m) g h (.slice av ln cv)) R10 _ underlying39 rfl (qaq _ _ _ _) ?_)|((with_reducible refine qaa (.store 39 (.tmp 4) (.tmp 61)) rfl ?_);refine qab 39 rfl (.tmp 4) _ rfl b4 rfl (tc (qdx f m) g (upd h m.2.1.toNat 0) (.slice av ln cv)) rfl _ R4 (qen _ _ _ _ _ _ _ _) (qaq _ _ _ _) (qbm _ _ _ _ _ _) ?_;intro w19 R4 t19;replace hMv:=qcl hMv x4 t19;replace hB:=t19.below _ _ l4 hB))
 ((try simp only [Exit.inBlock,Exit.then]);refine bodyPost_ret (qlv (p:=4) (u:=5) (v:=6) rfl _ _ _ _ rfl R4 _ underlying39 rfl (qaq _ _ _ _)) rfl ⟨_,rfl,hMv,hNv,hbv,hB⟩)
theorem qy2 (f:Nat→Int) (g:Nat→Bool) (h:Nat→Int) (sl:Value) (ms:List Mp) (m:Mp) (hwH:wfH h) (w:World) (hM:qaz w sl ms) (G:qbq f h ms) (hm:m∈ms) (ha:(qa6 ms m).any (fun o=>qa7 o == qa7 m)=false) (hz:(qbk (qdx f m) m.2.1).length≠0) :
  Calls prog 153 #[.agg (tc f g h sl),.agg (mc m)] w fun e w'=>∃ v,e=.returned (.tuple #[.agg (tc (qdx f m) g h v),.bool true,.int .i64 0])∧qaz w' v (qa6 ms m)∧qcs v∧(0<(qa6 ms m).length→w.heap.size≤mb v)∧Below w.heap.size w w':=by
 have hB:=Below.refl w.heap.size w
 have hM0:=hM
 obtain ⟨a0,cap,hsl,-⟩:=hM0
 obtain ⟨n,hn⟩:∃ n,n=ms.length:=⟨_,rfl⟩
 rw [← hn] at hsl
 subst hsl
 have HN:Hid (n=ms.length):=hn
 clear hn
 have hlt:=hM.lt
 obtain ⟨ln,hln⟩:∃ ln,ln=(qa6 ms m).length:=⟨_,rfl⟩
 have HL:Hid (ln=(qa6 ms m).length):=hln
 have HG:Hid (qbq f h ms):=G
 have hlne:((ln:Int) == (n:Int))=false:=by
  exact sZud41
 have hst:=G.maps.1 m hm
 have hin:inP m=true:=by unfold inP;exact decide_eq_true ⟨hst.2.2.2.1,hst.2.2.2.2.1⟩
 have CG:=fun w hM=>qf8 f g h (.slice a0 n cap) ms hwH w hM
 have CW:=fun w hM=>qmn (.slice a0 n cap) ms m w hM (Nat.le_trans G.len (by decide))
 have CPl:=fun w=>qgp m w
 simp only [hin] at CPl
 have CA:=fun sl w hM=>qoa sl (qa6 ms m) (plA m) (plB m) w hM
 rw [qml (fun o ho=>G.maps.1 o (qqd ho)) hst,ha] at CA
 have CGi:=fun w=>quv f g m.2.1 (plA m) (plB m) w
 rw [qqx G hst] at CGi
 have CB:=fun av w=>qiq (qdx f m) g h av m.2.1 hst.2.1.1 hst.2.1.2 w
 have hs8n:m.2.1.toNat<8:=by have:=hst.2.1;omega
 have hs0:0≤m.2.1:=hst.2.1.1
 have hs8:m.2.1<8:=hst.2.1.2
 obtain ⟨lb,hlb⟩:∃ lb,lb=(qbk (qdx f m) m.2.1).length:=⟨_,rfl⟩
 rw [← hlb] at CB hz
 have dz:((lb:Int) == 0)=false:=by simpa using hz
 clear hln G hm ha hst hin hz hlb
 go_enter func153,ntmps153
 go_wp2_with (first|((with_reducible refine qaa (.box 39 (.tmp 0)) rfl ?_);refine qag 39 rfl (.tmp 0) rfl _ rfl ?_;intro b2 w1 l2 R2 hb1;replace hB:=hB.trans (hb1.mono hB.size))|((with_reducible refine qaa (.box 46 (.tmp 1)) rfl ?_);refine qag 46 rfl (.tmp 1) rfl (mc m) rfl ?_;intro b3 w1 l3 R3 hb1;replace R2:=R2.below hb1;replace hB:=hB.trans (hb1.mono hB.size))|((with_reducible refine qaa (.alloc 39) rfl ?_);refine qaf 4 39 rfl rfl rfl _ qb8 ?_;intro b4 w2 l4 R4 hb2;have n24:=R2.ne l4;have n34:=R3.ne l4;replace l4:=Nat.le_trans hB.size l4;replace R2:=R2.below hb2;replace R3:=R3.below hb2;replace hB:=hB.trans (hb2.mono hB.size))|((with_reducible refine qaa (.load 39 (.tmp 2)) rfl ?_);refine qac 39 (.tmp 2) rfl rfl b2 rfl (tc f g h (.slice a0 n cap)) R2 _ underlying39 rfl (qaq _ _ _ _) ?_)|(go_at_call 21;go_fit (CG _ (hM.keep hB hlt));rintro e w5 ⟨r,hr,rfl,hb5⟩;obtain rfl:r=true:=(hr.2 HG.out);clear hr;replace R2:=R2.below hb5;replace R3:=R3.below hb5;replace R4:=R4.below hb5;replace hB:=hB.trans (hb5.mono hB.size);have cM:World.cell? _ ⟨b2,29,none⟩=some (.slice a0 n cap):=(R2.cell 29).trans (qdw _ _ _ _))|((with_reducible refine qaa (.load 46 (.tmp 3)) rfl ?_);refine qac 46 (.tmp 3) rfl rfl b3 rfl (mc m) R3 _ underlying46 rfl (qak _) ?_)|(go_at_call 179;go_fit (CW _ (hM.keep hB hlt));rintro e w6 ⟨v,rfl,hMv,hNv,hbv,hb6⟩;clear cM;have x4:0<(qa6 ms m).length→mb v≠b4:=(fun hl=>Nat.ne_of_gt (Nat.lt_of_lt_of_le R4.lt (hbv hl)));replace hbv:0<(qa6 ms m).length→w.heap.size≤mb v:=(fun hl=>Nat.le_trans hB.size (hbv hl));replace R2:=R2.below hb6;replace R3:=R3.below hb6;replace R4:=R4.below hb6;replace hB:=hB.trans (hb6.mono hB.size);(obtain ⟨av,cv,hv,-⟩:=id hMv);rw [← HL.out] at hv;subst hv;have cM:World.cell? _ ⟨b2,29,none⟩=some (.slice a0 n cap):=(R2.cell 29).trans (qdw _ _ _ _))|(go_at_call 55;go_fit (CPl _);rintro e w7 ⟨rfl,hb7⟩;clear cM;replace R2:=R2.below hb7;replace R3:=R3.below hb7;replace R4:=R4.below hb7;replace hMv:=hMv.below hb7;replace hB:=hB.trans (hb7.mono hB.size))|((with_reducible refine qaa (.alloc 97) rfl ?_);refine qaf 8 97 rfl rfl rfl _ qcn ?_;intro b8 w8 l8 R8 hb8;have n28:=R2.ne l8;have n38:=R3.ne l8;have n48:=R4.ne l8;have x8:=hMv.away3 l8;replace l8:=Nat.le_trans hB.size l8;replace R2:=R2.below hb8;replace R3:=R3.below hb8;replace R4:=R4.below hb8;replace hMv:=hMv.below hb8;replace hB:=hB.trans (hb8.mono hB.size))|((with_reducible refine qaa (.store 97 (.tmp 8) (.tmp 29)) rfl ?_);refine qab 97 rfl (.tmp 8) _ rfl b8 rfl (ic2 (plA m) (plB m)) rfl _ R8 rfl (qer _ _) (qlf _ _) ?_;intro w9 R8 t9;replace R2:=t9.row R2 n28;replace R3:=t9.row R3 n38;replace R4:=t9.row R4 n48;replace hMv:=qcl hMv x8 t9;replace hB:=t9.below _ _ l8 hB)|((with_reducible refine qaa (.alloc 39) rfl ?_);refine qaf 10 39 rfl rfl rfl _ qb8 ?_;intro b10 w10 l10 R10 hb10;have n210:=R2.ne l10;have n310:=R3.ne l10;have n410:=R4.ne l10;have n810:=R8.ne l10;have x10:=hMv.away3 l10;replace l10:=Nat.le_trans hB.size l10;replace R2:=R2.below hb10;replace R3:=R3.below hb10;replace R4:=R4.below hb10;replace R8:=R8.below hb10;replace hMv:=hMv.below hb10;replace hB:=hB.trans (hb10.mono hB.size))|((with_reducible refine qaa (.store 39 (.tmp 10) (.tmp 31)) rfl ?_);refine qab 39 rfl (.tmp 10) _ rfl b10 rfl (tc f g h (.slice a0 n cap)) rfl _ R10 (qen _ _ _ _ _ _ _ _) (qaq _ _ _ _) (qbm _ _ _ _ _ _) ?_;intro w11 R10 t11;replace R2:=t11.row R2 n210;replace R3:=t11.row R3 n310;replace R4:=t11.row R4 n410;replace R8:=t11.row R8 n810;replace hMv:=qcl hMv x10 t11;replace hB:=t11.below _ _ l10 hB)|((with_reducible refine qaa (.store 37 (.tmp 33) (.tmp 32)) rfl ?_);refine qh1 R10 rfl _ _ rfl 29 rfl _ _ _ rfl _ (qdw _ _ _ _) (tc f g h (.slice av ln cv)) (qm0 _ _ _ _ _) ?_;intro w12 R10 t12;replace R2:=t12.row R2 n210;replace R3:=t12.row R3 n310;replace R4:=t12.row R4 n410;replace R8:=t12.row R8 n810;replace hMv:=qcl hMv x10 t12;replace hB:=t12.below _ _ l10 hB)|((with_reducible refine qaa (.load 97 (.tmp 8)) rfl ?_);refine qac 97 (.tmp 8) rfl rfl b8 rfl (ic2 (plA m) (plB m)) R8 _ underlying97 rfl (qer _ _) ?_)|(go_at_call 180;go_fit (CA _ _ hMv);rintro e w13 ⟨rfl,hb13⟩;replace R2:=R2.below hb13;replace R3:=R3.below hb13;replace R4:=R4.below hb13;replace R8:=R8.below hb13;replace R10:=R10.below hb13;replace hMv:=hMv.below hb13;replace hB:=hB.trans (hb13.mono hB.size);have c31:=m1 R3;have c80:=p0B R8;have c81:=p1 R8;have hrp:=R2.pool)|((with_reducible refine qaa (.load 35 (.tmp 39)) rfl ?_);refine wpList_load_mid rfl 35 (.tmp 39) rfl b2 0 rfl (pc f g).toList _ hrp underlying35 rfl (by simpa using qfg f g) ?_;(try simp only [Array.toArray_toList]))|(go_at_call 181;go_fit (CGi _);rintro e w15 ⟨rfl,hb15⟩;clear c31 c80 c81 hrp;replace R2:=R2.below hb15;replace R3:=R3.below hb15;replace R4:=R4.below hb15;replace R8:=R8.below hb15;replace R10:=R10.below hb15;replace hMv:=hMv.below hb15;replace hB:=hB.trans (hb15.mono hB.size))|((with_reducible refine qaa (.store 35 (.tmp 50) (.tmp 48)) rfl ?_);refine qkk rfl (.tmp 50) (.tmp 48) rfl b10 rfl (qdx f m) g rfl f g h (.slice av ln cv) R10 ?_;intro w16 R10 t16;replace R3:=t16.row R3 n310;replace R4:=t16.row R4 n410;replace hMv:=qcl hMv x10 t16;replace hB:=t16.below _ _ l10 hB;have c31:=m1 R3)|(go_at_call 86;go_fit (CB _ _);rintro e w17 ⟨vb,rfl,⟨ab,cb,rfl⟩,hpl,hb17⟩;clear hpl c31;replace R3:=R3.below hb17;replace R4:=R4.below hb17;replace R10:=R10.below hb17;replace hMv:=hMv.below hb17;replace hB:=hB.trans (hb17.mono hB.size);have c31:=m1 R3)|((with_reducible refine qaa (.load 39 (.tmp 10)) rfl ?_);refine qac 39 (.tmp 10) rfl rfl b10 rfl (tc (qdx f m) g h (.slice av ln cv)) R10 _ underlying39 rfl (qaq _ _ _ _) ?_)|((with_reducible refine qaa (.store 39 (.tmp 4) (.tmp 61)) rfl ?_);refine qab 39 rfl (.tmp 4) _ rfl b4 rfl (tc (qdx f m) g h (.slice av ln cv)) rfl _ R4 (qen _ _ _ _ _ _ _ _) (qaq _ _ _ _) (qbm _ _ _ _ _ _) ?_;intro w19 R4 t19;replace hMv:=qcl hMv x4 t19;replace hB:=t19.below _ _ l4 hB))
 ((try simp only [Exit.inBlock,Exit.then]);refine bodyPost_ret (qlv (p:=4) (u:=5) (v:=6) rfl _ _ _ _ rfl R4 _ underlying39 rfl (qaq _ _ _ _)) rfl ⟨_,rfl,hMv,hNv,hbv,hB⟩)
end Go.Proofs.YtnicenfgemkdnaaGreatDoor
namespace Go.Proofs.YtnicenfgemkdnaaGreatDoor
open _root_.Go.Proofs.Tryz
set_option maxHeartbeats 16000000
set_option maxRecDepth 100000
open Go.ChangeShapes Go.WideShapes Go.ChangeAt Go.RowKit
theorem qrs {w:World} {sl:Value} {ms:List Mp} (hM:qaz w sl ms) (j:Nat) (hj:j<ms.length) (w2:World):(Instr.indexAt 37 sl (.int .i64 (j:Int))).run prog w2=.ok (.pointer (some ⟨mb sl,mo sl+5 * j,none⟩)) w2:=by
 obtain ⟨a0,cap,e,h1,h2,h3⟩:=hM
 have e1:=h1 om
 generalize mb sl=B at *
 generalize mo sl=O at *
 subst e1
 subst e
 have hn:((j:Int)).toNat<ms.length:=by simpa using hj
 have hjl:(j:Int)<(ms.length:Int):=by omega
 have hs:(sizeOf 46).run prog w2=.ok 5 w2:=by kernel_rfl
 simp [go_sem,hj,hn,hjl,underlying37,hs]
theorem qn6 {ops:Array Oper} {S:World→Prop} {o:Oper} {a:Act} (x y:Operand) (ho:o.op=.indexAddr 37 x y) (hw:Region.wanted o (yielded ops a.tmps)=true) (p i q:Value) (hx:a.eval x=p) (hy:a.eval y=i) (hrun:∀ w:World,(Instr.indexAt 37 p i).run prog w=.ok q w):YieldsIf prog ops S o q a:=
 .inl ⟨hw,fun w _=>by unfold execOp;simp only [ho,hx,hy,Sem.run_bind,hrun w,Result.andThen_ok,Sem.run_pure]⟩
theorem qry {ops:Array Oper} {S:World→Prop} {o:Oper} {a:Act} (t:TypeId) (x y:Operand) (ho:o.op=.binOp .neq t x y t) (hw:Region.wanted o (yielded ops a.tmps)=true)
  (xs ys:Array Value) (hx:a.eval x=.agg xs) (hy:a.eval y=.agg ys) (hg:prog.eqGuardType prog.depth t=false) (r q:Bool) (he:∀ w:World,(Op.equalIn 10000 t (.agg xs) (.agg ys)).run prog w=.ok r w) (hq:(!r)=q):YieldsIf prog ops S o (.bool q) a:=
 .inl ⟨hw,fun w _=>by
  subst hq
  unfold execOp
  simp only [ho,hx,hy,Sem.run_bind,run_eqGuard_agg w .neq t x y xs ys hg,run_neq_struct,he w,Result.andThen_ok,Sem.run_pure]⟩
theorem qgw {ops:Array Oper} {S:World→Prop} {o:Oper} {a:Act} (t:TypeId) (x:Operand) (ho:o.op=.load t x) (hw:Region.wanted o (yielded ops a.tmps)=true) (b k:Nat) (hx:a.eval x=.pointer (some ⟨b,k,none⟩)) (l:List Value) (hS:∀ w,S w→w.rangeAt b k l)
  (d:TypeDesc) (hu:prog.underlying t=some d) (hd:d.isRow=true) (hi:(prog.info? t).map (·.size)=some l.length):YieldsIf prog ops S o (.agg l.toArray) a:=
 yieldsIf_load_mid (P:=prog) (S:=S) hw t x ho b k hx l d hS hu hd hi
theorem qi3 {ops:Array Oper} {rest:List Oper} {o:Oper} {a:Act} {w:World} {Q:Exit→Act→World→Prop} (t:TypeId) (x:Operand) (ho:o.op=.load t x) (hw:Region.wanted o (yielded ops a.tmps)=true) (b k:Nat) (hx:a.eval x=.pointer (some ⟨b,k,none⟩)) (l:List Value) (hc:w.rangeAt b k l)
  (d:TypeDesc) (hu:prog.underlying t=some d) (hd:d.isRow=true) (hi:(prog.info? t).map (·.size)=some l.length) (hr:wpList prog ops Q rest (a.put o.dst (.agg l.toArray)) w):wpList prog ops Q (o :: rest) a w:=
 wpList_step fun K hK=>by
  rw [if_pos hw]
  exact wp_load_mid t x ho b k hx l d hc hu hd hi (hK _ _ hr)
theorem q2m (f:Nat→Int) (n:Nat):eqTo f f n=true:=(qjn f f n).2 fun _ _=>rfl
theorem qpv {B:Nat} {w0 w:World} (h:Below B w0 w):Below B w0 w.drew:=⟨h.os,h.tape,h.output,h.size,h.block⟩
end Go.Proofs.YtnicenfgemkdnaaGreatDoor
namespace Go.Proofs.YtnicenfgemkdnaaGreatDoor
open _root_.Go.Proofs.Tryz
set_option maxHeartbeats 16000000
set_option maxRecDepth 100000
open Go.ChangeShapes Go.WideShapes Go.ChangeAt Go.RowKit
theorem qbrb (k n:Int) (hn:0<n):-n<k.tmod n∧k.tmod n<n∧(k.tmod n<0→k.tmod n+n=k % n)∧(0≤k.tmod n→k.tmod n=k % n):=by
 have h1:=Int.tmod_eq_emod (a:=k) (b:=n)
 have h2:=Int.emod_nonneg k (show n≠0 by omega)
 have h3:=Int.emod_lt_of_pos k hn
 have h4:(n.natAbs:Int)=n:=by omega
 split at h1
 ·simp at h1;omega
 ·rename_i hd
  have h5:k % n≠0:=fun e=>hd (.inr (Int.dvd_of_emod_eq_zero e))
  omega
end Go.Proofs.YtnicenfgemkdnaaGreatDoor
namespace Go.Proofs.YtnicenfgemkdnaaGreatDoor
open _root_.Go.Proofs.Tryz
set_option maxHeartbeats 16000000
set_option maxRecDepth 100000
open Go.ChangeShapes Go.WideShapes Go.ChangeAt Go.RowKit
structure Bd (w W:World) (L:List (Nat×TypeId×Array Value)) (Ms:List (Value×List Mp)):Prop where
 nodup:(L.map (·.1)).Nodup
 rows:∀ y∈L,Row y.2.1 W y.1 y.2.2∧w.heap.size≤y.1
 maps:∀ q∈Ms,qaz W q.1 q.2∧∀ b∈L.map (·.1),0<q.2.length→mb q.1≠b
 base:Below w.heap.size w W
section
variable {w W W':World} {L:List (Nat×TypeId×Array Value)} {Ms:List (Value×List Mp)}
theorem Bd.start (w:World):Bd w w [] []:=⟨by simp,by simp,by simp,Below.refl _ _⟩
theorem Bd.row (h:Bd w W L Ms) (i:Nat) {b:Nat} {t:TypeId} {cs:Array Value} (hi:L[i]?=some (b,t,cs)):Row t W b cs:=(h.rows _ (List.mem_of_getElem? hi)).1
theorem Bd.map (h:Bd w W L Ms) (k:Nat) {v:Value} {ms:List Mp} (hk:Ms[k]?=some (v,ms)):qaz W v ms:=(h.maps _ (List.mem_of_getElem? hk)).1
theorem Bd.below (h:Bd w W L Ms) (hb:Below W.heap.size W W'):Bd w W' L Ms:=
 ⟨h.nodup,fun y hy=>⟨(h.rows y hy).1.below hb,(h.rows y hy).2⟩,fun q hq=>⟨(h.maps q hq).1.below hb,(h.maps q hq).2⟩,h.base.trans (hb.mono h.base.size)⟩
theorem Bd.drew (h:Bd w W L Ms):Bd w W.drew L Ms:=h.below (Below.refl _ _).drew
theorem Bd.drewN (h:Bd w W L Ms) (n:Nat):Bd w (W.drewN n) L Ms:=h.below ⟨rfl,rfl,rfl,Nat.le_refl _,fun _ _=>rfl⟩
theorem Bd.lt (h:Bd w W L Ms) {b:Nat} (hb:b∈L.map (·.1)):b<W.heap.size:=by
 obtain ⟨y,hy,rfl⟩:=List.mem_map.1 hb
 exact (h.rows y hy).1.lt
theorem Bd.alloc (h:Bd w W L Ms) {b:Nat} {t:TypeId} {cs:Array Value} (hl:W.heap.size≤b) (R:Row t W' b cs) (hb:Below W.heap.size W W'):Bd w W' ((b,t,cs) :: L) Ms:=by
 have h':=h.below hb
 refine ⟨?_,fun y hy=>?_,fun q hq=>⟨(h'.maps q hq).1,fun c hc hl0=>?_⟩,h'.base⟩
 ·rw [List.map_cons,List.nodup_cons]
  exact ⟨fun hm=>by have:=h.lt hm;simp only at *;omega,h.nodup⟩
 ·rcases List.mem_cons.1 hy with rfl|hy
  ·exact ⟨R,Nat.le_trans h.base.size hl⟩
  ·exact h'.rows y hy
 ·rw [List.map_cons] at hc
  rcases List.mem_cons.1 hc with rfl|hc
  ·have:=(h.maps q hq).1.lt hl0;omega
  ·exact (h.maps q hq).2 c hc hl0
theorem Bd.turn (h:Bd w W L Ms) (i:Nat) {b:Nat} {t:TypeId} {cs cs':Array Value} (hi:L[i]?=some (b,t,cs)) (R:Row t W' b cs') (T:qbl b W W'):Bd w W' (L.set i (b,t,cs')) Ms:=by
 have hlt:i<L.length:=(List.getElem?_eq_some_iff.1 hi).1
 have hLi:L[i]=(b,t,cs):=(List.getElem?_eq_some_iff.1 hi).2
 have hm:(L.set i (b,t,cs')).map (·.1)=L.map (·.1):=by
  apply List.ext_getElem?
  intro j
  rw [List.getElem?_map,List.getElem?_set,List.getElem?_map]
  by_cases hj:i=j
  ·subst hj;simp [hlt,hLi]
  ·simp [hj]
 have hbm:b∈L.map (·.1):=List.mem_map.2 ⟨_,List.mem_of_getElem? hi,rfl⟩
 refine ⟨by rw [hm];exact h.nodup,fun y hy=>?_,fun q hq=>⟨qcl (h.maps q hq).1 (fun h0=>(h.maps q hq).2 b hbm h0) T,by rw [hm];exact (h.maps q hq).2⟩,T.below _ _ (h.rows _ (List.mem_of_getElem? hi)).2 h.base⟩
 obtain ⟨j,hj⟩:=List.mem_iff_getElem?.1 hy
 rw [List.getElem?_set] at hj
 by_cases hij:i=j
 ·subst hij
  rw [if_pos rfl,if_pos hlt] at hj
  obtain rfl:=Option.some.inj hj
  exact ⟨R,(h.rows _ (List.mem_of_getElem? hi)).2⟩
 ·rw [if_neg hij] at hj
  have hy':=List.mem_of_getElem? hj
  refine ⟨T.row (h.rows y hy').1 (fun e=>hij ?_),(h.rows y hy').2⟩
  have e1:(L.map (·.1))[i]?=some b:=by rw [List.getElem?_map,hi];rfl
  have e2:(L.map (·.1))[j]?=some b:=by rw [List.getElem?_map,hj];simp [e]
  exact (List.getElem?_inj (by simpa using hlt) h.nodup).1 (by rw [e1,e2])
theorem Bd.addNew (h:Bd w W L Ms) {v:Value} {ms:List Mp} (hb:Below W.heap.size W W') (hM:qaz W' v ms) (hl:0<ms.length→W.heap.size≤mb v):Bd w W' L ((v,ms) :: Ms):=by
 have h':=h.below hb
 refine ⟨h'.nodup,h'.rows,fun q hq=>?_,h'.base⟩
 rcases List.mem_cons.1 hq with rfl|hq
 ·exact ⟨hM,fun b hbm h0=>by have:=h.lt hbm;have:=hl h0;simp only at *;omega⟩
 ·exact h'.maps q hq
theorem Bd.two (h:Bd w W L Ms) (i j:Nat) (hij:i≠j) {y1 y2:Nat×TypeId×Array Value} (hi:L[i]?=some y1) (hj:L[j]?=some y2) (k:Nat) {q:Value×List Mp} (hk:Ms[k]?=some q):Bd w W [y1,y2] [q]:=by
 have m1:=List.mem_of_getElem? hi
 have m2:=List.mem_of_getElem? hj
 have b1:y1.1∈L.map (·.1):=List.mem_map.2 ⟨_,m1,rfl⟩
 have b2:y2.1∈L.map (·.1):=List.mem_map.2 ⟨_,m2,rfl⟩
 have hne:y1.1≠y2.1:=fun e=>hij (by
  have e1:(L.map (·.1))[i]?=some y1.1:=by rw [List.getElem?_map,hi];rfl
  have e2:(L.map (·.1))[j]?=some y1.1:=by rw [List.getElem?_map,hj];simp [e]
  exact (List.getElem?_inj (by simpa using (List.getElem?_eq_some_iff.1 hi).1) h.nodup).1 (by rw [e1,e2]))
 refine ⟨by simp [hne],fun y hy=>?_,fun p hp=>?_,h.base⟩
 ·rcases List.mem_cons.1 hy with rfl|hy
  ·exact h.rows _ m1
  ·obtain rfl:=List.mem_singleton.1 hy
   exact h.rows _ m2
 ·obtain rfl:=List.mem_singleton.1 hp
  have hm:=h.maps _ (List.mem_of_getElem? hk)
  refine ⟨hm.1,fun b hb=>?_⟩
  simp only [List.map_cons,List.map_nil,List.mem_cons,List.not_mem_nil,or_false] at hb
  rcases hb with rfl|rfl
  ·exact hm.2 _ b1
  ·exact hm.2 _ b2
end
end Go.Proofs.YtnicenfgemkdnaaGreatDoor
