/-
  Of what a law stands on.
-/
import Derived.Test.YtnicenfgemkdnaaGreatDoorZtTpH
import Derived.Test.YtnicenfgemkdnaaGreatDoorZtTpR
set_option linter.unusedSimpArgs false
set_option linter.unusedVariables false
namespace Go.Proofs.YtnicenfgemkdnaaGreatDoor
open _root_.Go.Proofs.Tryz
set_option maxHeartbeats 16000000
set_option maxRecDepth 100000
open Go.ChangeShapes Go.WideShapes Go.ChangeAt Go.RowKit Go.Maps
attribute [local irreducible] Rp.cells tc pc qd2 mb mo
theorem qagb (kd an dr:Int) (af:ByteArray) (c:Int) (fr:ByteArray) (inn:Bool) (lg:ByteArray) (b:Nat) (W:World) (h:kd≠1):Calls prog 28 #[.pointer (some ⟨b,0,none⟩),.agg (ac ⟨kd,an,dr,af⟩),.agg (Rp.cells ⟨c,fr,inn,lg⟩)] W fun e w'=>e=.returned (.bool true)∧Below W.heap.size W w':=by
 have B:=Bd.start W
 have h1:(kd == 1)=false:=by simpa using h
 have h1n:(kd != 1)=true:=by simpa using h
 clear h
 go_enter func28,ntmps28
 go_wp2_with (first|((with_reducible refine qaa (.box 27 (.tmp 1)) rfl ?_);refine qag 27 rfl (.tmp 1) rfl (ac ⟨kd,an,dr,af⟩) rfl ?_;intro b4 w9 l9 R9 h9;replace B:=B.alloc l9 R9 h9;clear R9 h9 l9)|((with_reducible refine qaa (.box 30 (.tmp 2)) rfl ?_);refine qag 30 rfl (.tmp 2) rfl (Rp.cells ⟨c,fr,inn,lg⟩) rfl ?_;intro b5 w9 l9 R9 h9;replace B:=B.alloc l9 R9 h9;clear R9 h9 l9;have k0:World.cell? _ ⟨b4,0,none⟩=some (.int .i64 kd):=(B.row 1 rfl).cell 0;have r0:World.cell? _ ⟨b5,0,none⟩=some (.int .i64 c):=((B.row 0 rfl).cell 0).trans (qdt _);have r2:World.cell? _ ⟨b5,2,none⟩=some (.bool inn):=((B.row 0 rfl).cell 2).trans (qhx _)))
 go_ret
 exact ⟨rfl,B.base⟩
theorem q49 (kd an dr:Int) (af:ByteArray) (c:Int) (fr:ByteArray) (inn:Bool) (lg:ByteArray) (b:Nat) (W:World) (h1:kd=1) (h:c≠0):Calls prog 28 #[.pointer (some ⟨b,0,none⟩),.agg (ac ⟨kd,an,dr,af⟩),.agg (Rp.cells ⟨c,fr,inn,lg⟩)] W fun e w'=>e=.returned (.bool true)∧Below W.heap.size W w':=by
 have B:=Bd.start W
 subst h1
 have h1:(c == 0)=false:=by simpa using h
 have h1n:(c != 0)=true:=by simpa using h
 clear h
 go_enter func28,ntmps28
 go_wp2_with (first|((with_reducible refine qaa (.box 27 (.tmp 1)) rfl ?_);refine qag 27 rfl (.tmp 1) rfl (ac ⟨1,an,dr,af⟩) rfl ?_;intro b4 w9 l9 R9 h9;replace B:=B.alloc l9 R9 h9;clear R9 h9 l9)|((with_reducible refine qaa (.box 30 (.tmp 2)) rfl ?_);refine qag 30 rfl (.tmp 2) rfl (Rp.cells ⟨c,fr,inn,lg⟩) rfl ?_;intro b5 w9 l9 R9 h9;replace B:=B.alloc l9 R9 h9;clear R9 h9 l9;have k0:World.cell? _ ⟨b4,0,none⟩=some (.int .i64 1):=(B.row 1 rfl).cell 0;have r0:World.cell? _ ⟨b5,0,none⟩=some (.int .i64 c):=((B.row 0 rfl).cell 0).trans (qdt _);have r2:World.cell? _ ⟨b5,2,none⟩=some (.bool inn):=((B.row 0 rfl).cell 2).trans (qhx _)))
 go_ret
 exact ⟨rfl,B.base⟩
theorem q7o (kd an dr:Int) (af:ByteArray) (c:Int) (fr:ByteArray) (inn:Bool) (lg:ByteArray) (b:Nat) (W:World) (h1:kd=1) (h:c=0) (hi:inn=true):Calls prog 28 #[.pointer (some ⟨b,0,none⟩),.agg (ac ⟨kd,an,dr,af⟩),.agg (Rp.cells ⟨c,fr,inn,lg⟩)] W fun e w'=>e=.returned (.bool true)∧Below W.heap.size W w':=by
 have B:=Bd.start W
 subst h1 h hi
 go_enter func28,ntmps28
 go_wp2_with (first|((with_reducible refine qaa (.box 27 (.tmp 1)) rfl ?_);refine qag 27 rfl (.tmp 1) rfl (ac ⟨1,an,dr,af⟩) rfl ?_;intro b4 w9 l9 R9 h9;replace B:=B.alloc l9 R9 h9;clear R9 h9 l9)|((with_reducible refine qaa (.box 30 (.tmp 2)) rfl ?_);refine qag 30 rfl (.tmp 2) rfl (Rp.cells ⟨0,fr,true,lg⟩) rfl ?_;intro b5 w9 l9 R9 h9;replace B:=B.alloc l9 R9 h9;clear R9 h9 l9;have k0:World.cell? _ ⟨b4,0,none⟩=some (.int .i64 1):=(B.row 1 rfl).cell 0;have r0:World.cell? _ ⟨b5,0,none⟩=some (.int .i64 0):=((B.row 0 rfl).cell 0).trans (qdt _);have r2:World.cell? _ ⟨b5,2,none⟩=some (.bool true):=((B.row 0 rfl).cell 2).trans (qhx _)))
 go_ret
 exact ⟨rfl,B.base⟩
theorem sZtTpU1 {p:Prop} (h:p:=by
 refine wpAnyH_ready (rs:=[15]) kr zm ?_
 refine AllReadyH.cons rfl (fun K hK=>?_) ?_
 ·rw [if_pos kr]
  refine qau 46 (.tmp 11) (.tmp 49) rfl b11 kr (mc (xp.proto,xp.src - 167772161,xp.sport,ma,mq)) kr _ (B.row 0 rfl) rfl (qak _) (qa3 _) ?_;intro w9 R9 t9;replace B:=B.turn 0 rfl R9 t9;clear R9 t9 kS;(first|have kS:Row 58 _ b7 (pcl xp):=B.row 1 rfl|have kS:Row 58 _ b7 (pcl xp):=B.row 2 rfl)
  refine hK.out _ _ kS (fun _=>?_)
  clear hK K
  try simp only [Act.put,Z1,Z2,Z3,Z4,Z5,Z6]
  refine tq 16 (.bool true) rfl kS ?_
  simp only [Act.put,Z1,Z2,Z3,Z4,Z5,Z6]
  refine wpAnyH_done kr ?_ _
  refine NoPanic.normal ?_
  clear kS
  have c1:World.cell? _ ⟨b9,1,none⟩=some (.int .i64 (3405803777+ma)):=(B.row 1 rfl).cell 1
  have c2:World.cell? _ ⟨b9,2,none⟩=some (.int .i64 mq):=(B.row 1 rfl).cell 2
  have c3:World.cell? _ ⟨b11,3,none⟩=some (.int .i64 ma):=(B.row 0 rfl).cell 3
  have c4:World.cell? _ ⟨b11,4,none⟩=some (.int .i64 mq):=(B.row 0 rfl).cell 4
  go_upto_region 8 with fail
  clear c1 c2 c3 c4
  have kS:Row 58 _ b7 (pcl xp):=B.row 2 rfl
  refine wp_region_noPanic ?_
  refine wp_region_held_drew (S:=fun W=>Row 58 W b7 (pcl xp)) kr kS (fun _=>?_)
  replace B:=B.drew
  refine tq 0 (.pointer (some ⟨b7,1,none⟩)) rfl kS ?_
  simp only [Act.put,Z1,Z2,Z3,Z4,Z5,Z6]
  refine tk 1 (.int .i64 xp.src) rfl (Or.inl ⟨by kernel_rfl,by intro w hS;have hc:=hS.cell 1;unfold pcl at hc;go_simp⟩) kS ?_
  simp only [Act.put,Z1,Z2,Z3,Z4,Z5,Z6]
  refine tq 2 (.pointer (some ⟨b7,2,none⟩)) rfl kS ?_
  simp only [Act.put,Z1,Z2,Z3,Z4,Z5,Z6]
  refine tk 3 (.int .i64 xp.sport) rfl (Or.inl ⟨by kernel_rfl,by intro w hS;have hc:=hS.cell 2;unfold pcl at hc;go_simp⟩) kS ?_
  simp only [Act.put,Z1,Z2,Z3,Z4,Z5,Z6]
  refine tq 4 (.pointer (some ⟨b9,5,none⟩)) rfl kS ?_
  simp only [Act.put,Z1,Z2,Z3,Z4,Z5,Z6]
  refine wpAnyH_ready (rs:=[5]) kr zm ?_
  refine AllReadyH.cons rfl (fun K hK=>?_) ?_
  ·rw [if_pos kr]
   refine qil (.tmp 80) rfl b9 5 kr (xp.ttl - 1) ((B.row 1 rfl).cell 5) ?_
   refine hK.out _ _ kS (fun _=>?_)
   clear hK K
   try simp only [Act.put,Z1,Z2,Z3,Z4,Z5,Z6]
   refine tk 6 (.int .i64 xp.ttl) rfl (Or.inl ⟨by kernel_rfl,by intro w hS;go_simp;first|exact HW3.out|exact HW4.out⟩) kS ?_
   simp only [Act.put,Z1,Z2,Z3,Z4,Z5,Z6]
   refine tq 7 (.pointer (some ⟨b9,1,none⟩)) rfl kS ?_
   simp only [Act.put,Z1,Z2,Z3,Z4,Z5,Z6]
   refine wpAnyH_ready (rs:=[8]) kr zm ?_
   refine AllReadyH.cons rfl (fun K hK=>?_) ?_
   ·rw [if_pos kr]
    refine qd4 (B.row 1 rfl) (.tmp 83) (.tmp 77) rfl 1 kr (xp.src) kr _ rfl _ rfl ?_;intro w9 R9 t9;replace B:=B.turn 1 rfl R9 t9;clear R9 t9 kS;have kS:Row 58 _ b7 (pcl xp):=B.row 2 rfl
    refine hK.out _ _ kS (fun _=>?_)
    clear hK K
    try simp only [Act.put,Z1,Z2,Z3,Z4,Z5,Z6]
    refine tq 9 (.pointer (some ⟨b9,2,none⟩)) rfl kS ?_
    simp only [Act.put,Z1,Z2,Z3,Z4,Z5,Z6]
    refine wpAnyH_ready (rs:=[10]) kr zm ?_
    refine AllReadyH.cons rfl (fun K hK=>?_) ?_
    ·rw [if_pos kr]
     refine qd4 (B.row 1 rfl) (.tmp 84) (.tmp 79) rfl 2 kr (xp.sport) kr _ rfl _ rfl ?_;intro w9 R9 t9;replace B:=B.turn 1 rfl R9 t9;clear R9 t9 kS;have kS:Row 58 _ b7 (pcl xp):=B.row 2 rfl
     refine hK.out _ _ kS (fun _=>?_)
     clear hK K
     try simp only [Act.put,Z1,Z2,Z3,Z4,Z5,Z6]
     refine tq 11 (.pointer (some ⟨b9,5,none⟩)) rfl kS ?_
     simp only [Act.put,Z1,Z2,Z3,Z4,Z5,Z6]
     refine wpAnyH_ready (rs:=[12]) kr zm ?_
     refine AllReadyH.cons rfl (fun K hK=>?_) ?_
     ·rw [if_pos kr]
      refine qd4 (B.row 1 rfl) (.tmp 85) (.tmp 82) rfl 5 kr (xp.ttl) kr _ rfl _ rfl ?_;intro w9 R9 t9;replace B:=B.turn 1 rfl R9 t9;clear R9 t9 kS;have kS:Row 58 _ b7 (pcl xp):=B.row 2 rfl
      refine hK.out _ _ kS (fun _=>?_)
      clear hK K
      try simp only [Act.put,Z1,Z2,Z3,Z4,Z5,Z6]
      refine wpAnyH_done kr ?_ _
      refine NoPanic.normal ?_
      clear kS
      go_wp2_with (first|((with_reducible refine qaa (.load 58 (.tmp 9)) rfl ?_);refine qac 58 (.tmp 9) rfl kr b9 rfl (pcl xp) (B.row 1 rfl) _ underlying58 rfl (qa0 _) ?_)|((with_reducible refine qaa (.load 58 (.tmp 7)) rfl ?_);refine qac 58 (.tmp 7) rfl kr b7 rfl (pcl xp) (B.row 2 rfl) _ underlying58 rfl (qa0 _) ?_)|((with_reducible refine qaa (.binOp .eql 58 (.tmp 86) (.tmp 87) 58) rfl ?_);refine qb1 58 (.tmp 86) (.tmp 87) rfl kr (pcl xp) (pcl xp) rfl rfl eqGuardType58 _ _ (qo7 xp _) rfl ?_))
      go_ret
      exact ⟨rfl,B.base⟩
     exact AllReadyH.nil
    exact AllReadyH.nil
   exact AllReadyH.nil
  exact AllReadyH.nil
 exact AllReadyH.nil):p:=h
theorem sZtTpU2 {p:Prop} (h:p:=by
 refine hK.out _ _ kS (fun _=>?_)
 clear hK K
 try simp only [Act.put,Z1,Z2,Z3,Z4,Z5,Z6]
 refine wpAnyH_ready (rs:=[10]) kr zm ?_
 refine AllReadyH.cons rfl (fun K hK=>?_) ?_
 ·go_simp
  go_at_call 29;refine (CF _ _ hm8).mono ?_;rintro e w8 ⟨rfl,hb8⟩;replace B:=B.below hb8;clear hb8 hm8 kS;(first|have kS:Row 58 _ b7 (pcl xp):=B.row 1 rfl|have kS:Row 58 _ b7 (pcl xp):=B.row 2 rfl)
  go_wp2_with fail
  refine hK.out _ _ kS (fun _=>?_)
  clear hK K
  try simp only [Act.put,Z1,Z2,Z3,Z4,Z5,Z6]
  refine tq 11 (.tuple #[.agg (mc (xp.proto,xp.src - 167772161,xp.sport,ma,mq)),.bool true]) rfl kS ?_
  simp only [Act.put,Z1,Z2,Z3,Z4,Z5,Z6]
  refine tq 12 (.agg (mc (xp.proto,xp.src - 167772161,xp.sport,ma,mq))) rfl kS ?_
  simp only [Act.put,Z1,Z2,Z3,Z4,Z5,Z6]
  refine tq 13 (.bool true) rfl kS ?_
  simp only [Act.put,Z1,Z2,Z3,Z4,Z5,Z6]
  exact sZtTpU1
 exact AllReadyH.nil):p:=h
theorem q6c (kd an dr:Int) (af:ByteArray) (c:Int) (fr:ByteArray) (inn:Bool) (lg:ByteArray) (b:Nat) (W:World) (h1:kd=1) (h0:c=0) (hi:inn=false) (s:Nt) (F:Nat→Prop) (hN:qaw W b s (duF s.fs) F) (hml:s.ms.length≤1000) (xp:Pkt) (ma mq:Int) (hb:bad af.data.toList=0) (hx:qam af.data.toList=xp) (haf:af.size≤140737488351232)
  (hgy:good ({ xp with ttl:=xp.ttl - 1,src:=3405803777+ma,sport:=mq }:Pkt)=0) (hfr:fr=txt (frame { xp with ttl:=xp.ttl - 1,src:=3405803777+ma,sport:=mq })) (hf:s.ms.find? (inS xp.proto (xp.src - 167772161) xp.sport)=some (xp.proto,xp.src - 167772161,xp.sport,ma,mq)) (hr1:0≤xp.src∧xp.src≤4294967295) (hr2:1≤xp.ttl∧xp.ttl≤255) (hr3:0≤ma∧ma<3):Calls prog 28 #[.pointer (some ⟨b,0,none⟩),.agg (ac ⟨kd,an,dr,af⟩),.agg (Rp.cells ⟨c,fr,inn,lg⟩)] W fun e w'=>e=.returned (.bool true)∧Below W.heap.size W w':=by
 have B:=Bd.start W
 have CP:=fun w=>qch af w haf
 simp only [qgx,qb9,hb,hx,if_pos] at CP
 have hlen:=qnk _ hgy
 have CQ:=fun w=>qch fr w (by rw [hfr,qck];omega)
 rw [hfr] at CQ
 simp only [qgx,qds,(qev _ hgy).1,(qev _ hgy).2] at CQ
 rw [← hfr] at CQ
 have CT:=fun W (hN:qaw W b s (duF s.fs) F)=>qfa hN hml
 have CF:=fun W sl (hM:qaz W sl s.ms)=>qlo s.f s.g s.h sl s.ms xp.proto (xp.src - 167772161) xp.sport W hM
 rw [hf] at CF
 change ∀ W sl,qaz W sl s.ms→Calls prog 29 _ W (fun e w'=>e=.returned (.tuple #[.agg (mc (xp.proto,xp.src - 167772161,xp.sport,ma,mq)),.bool true])∧Below W.heap.size W w') at CF
 have HW1:Hid (IntKind.i64.wrap (xp.src - 167772160)=xp.src - 167772160):=hidN (by rw [IntKind.wrap_i64];omega)
 have HW2:Hid (IntKind.i64.wrap (xp.src - 167772160 - 1)=xp.src - 167772161):=hidN (by rw [IntKind.wrap_i64];omega)
 have HW3:Hid (IntKind.i64.wrap (xp.ttl - 1+1)=xp.ttl):=hidN (by rw [IntKind.wrap_i64];omega)
 have HW4:Hid (IntKind.i64.wrap xp.ttl=xp.ttl):=hidN (by rw [IntKind.wrap_i64];omega)
 have hwa:wrap64 (3405803777+ma)=3405803777+ma:=by unfold wrap64;omega
 have hnn:((3405803777+ma) != (3405803777+ma))=false:=by simp
 have hnq:(mq != mq)=false:=by simp
 subst h1 h0 hi
 clear hb hx haf hgy hfr hlen hf hr1 hr2 hr3 hml
 generalize s.ms.length=nm at CT
 go_enter func28,ntmps28
 go_upto_region 5 with (first|((with_reducible refine qaa (.box 27 (.tmp 1)) rfl ?_);refine qag 27 rfl (.tmp 1) rfl (ac ⟨1,an,dr,af⟩) rfl ?_;intro b4 w9 l9 R9 h9;replace B:=B.alloc l9 R9 h9;clear R9 h9 l9)|((with_reducible refine qaa (.box 30 (.tmp 2)) rfl ?_);refine qag 30 rfl (.tmp 2) rfl (Rp.cells ⟨0,fr,false,lg⟩) rfl ?_;intro b5 w9 l9 R9 h9;replace B:=B.alloc l9 R9 h9;clear R9 h9 l9;have k0:World.cell? _ ⟨b4,0,none⟩=some (.int .i64 1):=(B.row 1 rfl).cell 0;have r0:World.cell? _ ⟨b5,0,none⟩=some (.int .i64 0):=((B.row 0 rfl).cell 0).trans (qdt _);have r2:World.cell? _ ⟨b5,2,none⟩=some (.bool false):=((B.row 0 rfl).cell 2).trans (qhx _))|((with_reducible refine qaa (.load 9 (.tmp 26)) rfl ?_);refine qcm (B.row 1 rfl) (.tmp 26) rfl kr 3 rfl (af) (rfl) ?_)|(go_at_call 26;first|(go_fit (CP _);rintro e w5 ⟨rfl,hb5⟩;clear CP;replace B:=B.below hb5;clear hb5)|(go_fit (CQ _);rintro e w5 ⟨rfl,hb5⟩;clear CQ;replace B:=B.below hb5;clear hb5))|((with_reducible refine qaa (.alloc 58) rfl ?_);refine qaf 7 58 rfl rfl rfl _ qbs ?_;intro b7 w9 l9 R9 h9;replace B:=B.alloc l9 R9 h9;clear R9 h9 l9)|((with_reducible refine qaa (.store 58 (.tmp 7) (.tmp 29)) rfl ?_);refine qab 58 rfl (.tmp 7) _ rfl b7 rfl (pcl xp) rfl _ (B.row 0 rfl) rfl (qa0 _) (qb3 _) ?_;intro w9 R9 t9;replace B:=B.turn 0 rfl R9 t9;clear R9 t9)|((with_reducible refine qaa (.load 9 (.tmp 32)) rfl ?_);refine qcm (B.row 1 rfl) (.tmp 32) rfl kr 1 rfl (fr) (qe4 _) ?_)|((with_reducible refine qaa (.alloc 58) rfl ?_);refine qaf 9 58 rfl rfl rfl _ qbs ?_;intro b9 w9 l9 R9 h9;replace B:=B.alloc l9 R9 h9;clear R9 h9 l9)|((with_reducible refine qaa (.store 58 (.tmp 9) (.tmp 35)) rfl ?_);refine qab 58 rfl (.tmp 9) _ rfl b9 rfl (pcl { xp with ttl:=xp.ttl - 1,src:=3405803777+ma,sport:=mq }) rfl _ (B.row 0 rfl) rfl (qa0 _) (qb3 _) ?_;intro w9 R9 t9;replace B:=B.turn 0 rfl R9 t9;clear R9 t9))
 clear k0 r0 r2
 have kS:=B.row 1 rfl
 refine wp_region_noPanic ?_
 refine wp_region_held_drew (S:=fun W=>Row 58 W b7 (pcl xp)) kr kS (fun _=>?_)
 replace B:=B.drew
 refine tq 0 (.pointer (some ⟨b,0,none⟩)) rfl kS ?_
 simp only [Act.put,Z1,Z2,Z3,Z4,Z5,Z6]
 refine tq 2 (.pointer (some ⟨b7,0,none⟩)) rfl kS ?_
 simp only [Act.put,Z1,Z2,Z3,Z4,Z5,Z6]
 refine tk 3 (.int .i64 xp.proto) rfl (Or.inl ⟨by kernel_rfl,by intro w hS;have hc:=hS.cell 0;unfold pcl at hc;go_simp⟩) kS ?_
 simp only [Act.put,Z1,Z2,Z3,Z4,Z5,Z6]
 refine tq 4 (.pointer (some ⟨b7,1,none⟩)) rfl kS ?_
 simp only [Act.put,Z1,Z2,Z3,Z4,Z5,Z6]
 refine tk 5 (.int .i64 xp.src) rfl (Or.inl ⟨by kernel_rfl,by intro w hS;have hc:=hS.cell 1;unfold pcl at hc;go_simp⟩) kS ?_
 simp only [Act.put,Z1,Z2,Z3,Z4,Z5,Z6]
 refine tk 6 (.int .i64 (xp.src - 167772160)) rfl (Or.inl ⟨by kernel_rfl,by intro w hS;go_simp;exact HW1.out⟩) kS ?_
 simp only [Act.put,Z1,Z2,Z3,Z4,Z5,Z6]
 refine tk 7 (.int .i64 (xp.src - 167772161)) rfl (Or.inl ⟨by kernel_rfl,by intro w hS;go_simp;exact HW2.out⟩) kS ?_
 simp only [Act.put,Z1,Z2,Z3,Z4,Z5,Z6]
 refine tq 8 (.pointer (some ⟨b7,2,none⟩)) rfl kS ?_
 simp only [Act.put,Z1,Z2,Z3,Z4,Z5,Z6]
 refine tk 9 (.int .i64 xp.sport) rfl (Or.inl ⟨by kernel_rfl,by intro w hS;have hc:=hS.cell 2;unfold pcl at hc;go_simp⟩) kS ?_
 simp only [Act.put,Z1,Z2,Z3,Z4,Z5,Z6]
 refine wpAnyH_ready (rs:=[1,14]) kr zm ?_
 refine AllReadyH.cons rfl (fun K hK=>?_) ?_
 ·go_simp
  go_at_call 19;refine (CT _ (hN.below B.base)).mono ?_;rintro e w8 ⟨sa,kc,rfl,hm8,-,-,hb8⟩;replace B:=B.below hb8;clear hb8 kS;(first|have kS:Row 58 _ b7 (pcl xp):=B.row 1 rfl|have kS:Row 58 _ b7 (pcl xp):=B.row 2 rfl)
  go_wp2_with fail
  refine hK.out _ _ kS (fun _=>?_)
  clear hK K
  try simp only [Act.put,Z1,Z2,Z3,Z4,Z5,Z6]
  refine wpAnyH_ready (rs:=[10,14]) kr zm ?_
  refine AllReadyH.cons rfl (fun K hK=>?_) ?_
  ·go_simp
   go_at_call 29;refine (CF _ _ hm8).mono ?_;rintro e w8 ⟨rfl,hb8⟩;replace B:=B.below hb8;clear hb8 hm8 kS;(first|have kS:Row 58 _ b7 (pcl xp):=B.row 1 rfl|have kS:Row 58 _ b7 (pcl xp):=B.row 2 rfl)
   go_wp2_with fail
   refine hK.out _ _ kS (fun _=>?_)
   clear hK K
   try simp only [Act.put,Z1,Z2,Z3,Z4,Z5,Z6]
   refine tq 11 (.tuple #[.agg (mc (xp.proto,xp.src - 167772161,xp.sport,ma,mq)),.bool true]) rfl kS ?_
   simp only [Act.put,Z1,Z2,Z3,Z4,Z5,Z6]
   refine tq 12 (.agg (mc (xp.proto,xp.src - 167772161,xp.sport,ma,mq))) rfl kS ?_
   simp only [Act.put,Z1,Z2,Z3,Z4,Z5,Z6]
   refine tq 13 (.bool true) rfl kS ?_
   simp only [Act.put,Z1,Z2,Z3,Z4,Z5,Z6]
   refine wpAnyH_ready (rs:=[14]) kr zm ?_
   refine AllReadyH.cons rfl (fun K hK=>?_) ?_
   ·rw [if_pos kr]
    refine qax 46 rfl (mc noM) qci ?_;intro b11 w9 l9 R9 h9;(try replace hm8:=hm8.below h9);replace B:=B.alloc l9 R9 h9;clear R9 h9 l9 kS;(first|have kS:Row 58 _ b7 (pcl xp):=B.row 1 rfl|have kS:Row 58 _ b7 (pcl xp):=B.row 2 rfl)
    refine hK.out _ _ kS (fun _=>?_)
    clear hK K
    try simp only [Act.put,Z1,Z2,Z3,Z4,Z5,Z6]
    exact sZtTpU1
   exact AllReadyH.nil
  refine AllReadyH.cons rfl (fun K hK=>?_) ?_
  ·rw [if_pos kr]
   refine qax 46 rfl (mc noM) qci ?_;intro b11 w9 l9 R9 h9;(try replace hm8:=hm8.below h9);replace B:=B.alloc l9 R9 h9;clear R9 h9 l9 kS;(first|have kS:Row 58 _ b7 (pcl xp):=B.row 1 rfl|have kS:Row 58 _ b7 (pcl xp):=B.row 2 rfl)
   exact sZtTpU2
  exact AllReadyH.nil
 refine AllReadyH.cons rfl (fun K hK=>?_) ?_
 ·rw [if_pos kr]
  refine qax 46 rfl (mc noM) qci ?_;intro b11 w9 l9 R9 h9;(try replace hm8:=hm8.below h9);replace B:=B.alloc l9 R9 h9;clear R9 h9 l9 kS;(first|have kS:Row 58 _ b7 (pcl xp):=B.row 1 rfl|have kS:Row 58 _ b7 (pcl xp):=B.row 2 rfl)
  refine hK.out _ _ kS (fun _=>?_)
  clear hK K
  try simp only [Act.put,Z1,Z2,Z3,Z4,Z5,Z6]
  refine wpAnyH_ready (rs:=[1]) kr zm ?_
  refine AllReadyH.cons rfl (fun K hK=>?_) ?_
  ·go_simp
   go_at_call 19;refine (CT _ (hN.below B.base)).mono ?_;rintro e w8 ⟨sa,kc,rfl,hm8,-,-,hb8⟩;replace B:=B.below hb8;clear hb8 kS;(first|have kS:Row 58 _ b7 (pcl xp):=B.row 1 rfl|have kS:Row 58 _ b7 (pcl xp):=B.row 2 rfl)
   go_wp2_with fail
   exact sZtTpU2
  exact AllReadyH.nil
 exact AllReadyH.nil
theorem q6x (loose:Bool):Look loose 28 #[] (fun _ G _=>∀ c,¬ G c):=by
 refine ⟨fun args w=>by kernel_rfl,fun h _ _=>h,fun h c hc=>absurd hc (h c),?_⟩
 intro l a W b F G hl ha hN hT hF0 hd hG
 have hinv:=qjr loose l om
 have hO:=q7y hinv.ci a
 have hC:=hinv.ci.act a
 have fin:∀ e w',(e=Ending.returned (Value.bool true)∧Below W.heap.size W w')→e=.returned (.bool true)∧∃ G':Nat→Prop,(∀ c,¬ G' c)∧Gr G W w'∧∀ c,G' c→G c∨W.heap.size≤c:=fun e w' h=>⟨h.1,G,hG,Gr.of_below h.2,fun c hc=>.inl hc⟩
 generalize ((nt0 loose).runs l).act a=r at *
 obtain ⟨⟨c,fr,inn,lg⟩,s2⟩:=r
 obtain ⟨kd,an,dr,af⟩:=a
 simp only at hO hC hN
 by_cases h1:kd=1
 ·by_cases h0:c=0
  ·cases hi:inn with
   | true=>exact (q7o kd an dr af c fr true lg b W h1 h0 rfl).mono fin
   | false=>
    obtain ⟨m,hb,hm,hf,ha3,hq,hs,_,hg,hfr⟩:=hO h1 h0 hi
    obtain ⟨m1,m2,m3⟩:=(qsm _ _ _ _).1 (List.find?_some hf)
    have hrr:=(qdu _).1 (qde _ (qgi _ hb).2.2).2.1
    have hml:=hC.good.len
    obtain ⟨mp,msb,mi,ma,mq⟩:=m
    simp only at m1 m2 m3 ha3 hq hfr hg hf
    rw [q6w] at hfr hg
    subst m1 m2 m3
    refine (q6c kd an dr af c fr false lg b W h1 h0 rfl s2 F hN om (qam af.data.toList) ma mq hb rfl ha.2.2.2 hg hfr hf ⟨hrr.1,hrr.2.1⟩ om ha3).mono fin
  ·exact (q49 kd an dr af c fr inn lg b W h1 h0).mono fin
 ·exact (qagb kd an dr af c fr inn lg b W h1).mono fin
theorem topOut_walk (a0:Bool) (sl:Value) (es:List Ac) (W:World) (hS:AcIn W sl es) (hT:Tab W):Calls prog 5 #[.bool a0,sl] W fun e w'=>e=.returned (.bool true)∧Below W.heap.size W w':=by
 have CP:=qjp (G0:=fun _=>False) (q6x a0) sl es W hS.1 hS.2 hT id (fun _ h=>h) (fun _ h=>h)
 obtain ⟨x0,cap,hsl⟩:=hS.1.slice
 generalize es.length=n at *
 subst hsl
 clear hS
 go_enter func5,ntmps5
 go_wp2_with (go_at_call 17;go_fit CP;rintro e w1 ⟨b,rfl,F,G,hP⟩;clear CP;have hB:=hP.gr.below (B:=W.heap.size) (fun _ h=>h.elim) (Nat.le_refl _);clear hP)
 go_ret
 exact ⟨rfl,hB⟩
end Go.Proofs.YtnicenfgemkdnaaGreatDoor
