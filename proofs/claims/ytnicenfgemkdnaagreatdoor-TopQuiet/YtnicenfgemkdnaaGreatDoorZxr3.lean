/-
  Of what a law stands on.
-/
import Derived.Test.YtnicenfgemkdnaaGreatDoorZxr2
set_option linter.unusedSimpArgs false
set_option linter.unusedVariables false
namespace Go.Proofs.YtnicenfgemkdnaaGreatDoor
open _root_.Go.Proofs.Tryz
set_option maxHeartbeats 16000000
set_option maxRecDepth 100000
open Go.ChangeShapes Go.WideShapes Go.ChangeAt Go.RowKit
theorem qdwb{p:Nat}{l:List UInt8}{d:Bool}{v:Value}{a:Nat}(w:World)(R:Rdr w p (l.drop a) d v)(hk:a+1<=l.length)(hl:l.length<=140737488351232):
  Calls prog 121 #[.pointer (some ⟨p,0,none⟩),.int .i64 1] w fun x w'=>x=.returned (.int .i64 (nAt l a 1))/\Rdr w' p (l.drop (a+1)) d v/\qfb p w w':=by
 have h:=qdjb p (l.drop a) d v 1 w R (by rw[List.length_drop];omega) (by rw[List.length_drop];omega) om
 rw[List.drop_drop,show wrap64 (num ((l.drop a).take 1))=nAt l a 1 from qdkb (by have:=qc2b l a 1 om;unfold nAt at this;omega) (by have:=qc2b l a 1 om;unfold nAt at this;omega)] at h
 exact h
theorem qc0b{p:Nat}{l:List UInt8}{d:Bool}{v:Value}{a:Nat}(w:World)(R:Rdr w p (l.drop a) d v)(hk:a+2<=l.length)(hl:l.length<=140737488351232):
  Calls prog 121 #[.pointer (some ⟨p,0,none⟩),.int .i64 2] w fun x w'=>x=.returned (.int .i64 (nAt l a 2))/\Rdr w' p (l.drop (a+2)) d v/\qfb p w w':=by
 have h:=qdjb p (l.drop a) d v 2 w R (by rw[List.length_drop];omega) (by rw[List.length_drop];omega) om
 rw[List.drop_drop,show wrap64 (num ((l.drop a).take 2))=nAt l a 2 from qdkb (by have:=qc2b l a 2 om;unfold nAt at this;omega) (by have:=qc2b l a 2 om;unfold nAt at this;omega)] at h
 exact h
theorem qc1b{p:Nat}{l:List UInt8}{d:Bool}{v:Value}{a:Nat}(w:World)(R:Rdr w p (l.drop a) d v)(hk:a+4<=l.length)(hl:l.length<=140737488351232):
  Calls prog 121 #[.pointer (some ⟨p,0,none⟩),.int .i64 4] w fun x w'=>x=.returned (.int .i64 (nAt l a 4))/\Rdr w' p (l.drop (a+4)) d v/\qfb p w w':=by
 have h:=qdjb p (l.drop a) d v 4 w R (by rw[List.length_drop];omega) (by rw[List.length_drop];omega) om
 rw[List.drop_drop,show wrap64 (num ((l.drop a).take 4))=nAt l a 4 from qdkb (by have:=qc2b l a 4 om;unfold nAt at this;omega) (by have:=qc2b l a 4 om;unfold nAt at this;omega)] at h
 exact h
theorem qdvb{p:Nat}{l:List UInt8}{d:Bool}{v:Value}{a:Nat}(w:World)(R:Rdr w p (l.drop a) d v)(hk:a+8<=l.length)(hl:l.length<=140737488351232):
  Calls prog 121 #[.pointer (some ⟨p,0,none⟩),.int .i64 8] w fun x w'=>x=.returned (.int .i64 (wrap64 (nAt l a 8)))/\Rdr w' p (l.drop (a+8)) d v/\qfb p w w':=by
 have h:=qdjb p (l.drop a) d v 8 w R (by rw[List.length_drop];omega) (by rw[List.length_drop];omega) om
 rw[List.drop_drop] at h
 exact h
theorem qdhb{p:Nat}{l:List UInt8}{d:Bool}{v:Value}{a:Nat}(k:Nat)(w:World)(R:Rdr w p (l.drop a) d v)(hk:a+k<=l.length)(hl:l.length<=140737488351232):
  Calls prog 123 #[.pointer (some ⟨p,0,none⟩),.int .i64 (k:Int)] w fun x w'=>x=.returned (.string (txt ((l.drop a).take k)))/\Rdr w' p (l.drop (a+k)) d v/\qfb p w w':=by
 have h:=qeqb p (l.drop a) d v k w R (by rw[List.length_drop];omega) (by rw[List.length_drop];omega)
 rw[List.drop_drop] at h
 exact h
theorem qdlb{o:Oper}{a:Act}{w:World}{K:Act->World->Prop}{Q:Exit->Act->World->Prop}(x:Operand)(ho:o.op=.convert 167 9 x)(v:Value)(hx:a.eval x=v)(t:ByteArray)(hrun:(convert 167 9 v).run prog w=.ok (.string t) w)(hr:K (a.put o.dst (.string t)) w):o.wp prog a w K Q:=by
 unfold Oper.wp execOp
 simp only[ho,hx,Sem.run_bind,hrun,Result.andThen_ok,Sem.run_pure]
 exact hr
theorem qdeb{ops:Array Oper}{S:World->Prop}{o:Oper}{a:Act}(x y:Operand)(ho:o.op=.binOp .eql 9 x y 9)(hw:Region.wanted o (yielded ops a.tmps)=true)(s t:List UInt8)(hx:a.eval x=.string (txt s))(hy:a.eval y=.string (txt t))(b:Bool)(hb:decide (s=t)=b):YieldsIf prog ops S o (.bool b) a:=
 .inl ⟨hw,fun w _=>by
  have e:((txt s).toList==(txt t).toList)=b:=by
   rw[ByteArray.toList_eq,ByteArray.toList_eq,qds,qds,←hb]
   by_cases h:s=t
   ·subst h;simp
   ·simp[h]
  unfold execOp
  simp only[ho,hx,hy]
  simp[go_sem,eqGuard,e]⟩
theorem qfib(w:World):(Instr.build 105 #[]).run prog w=.ok (.agg (ec noE)) w:=by kernel_rfl
theorem qdub{v v':Value}{w w':World}(h:Grew v v' w.drew w'):Grew v v' w w':=⟨⟨h.by'.os,h.by'.tape,h.by'.output,h.by'.size,h.by'.block⟩,h.lies⟩
theorem sZxr32{p:Prop}(h:p:=by
 refine tq 7 (.bool true) rfl R5 ?_
 simp only[ZZ]
 refine AN ?_
 go_wp2
 ((try simp only[Exit.inBlock,Exit.then]);refine bodyPost_ret (qbf (p:=2) (u:=3) rfl _ _ _ _ rfl R2 _ underlying105 rfl (qf2 _)) rfl ⟨rfl,R,hM⟩)):p:=h
theorem qfvb(p:Nat)(l:List UInt8)(d:Bool)(v:Value)(w:World)(R:Rdr w p l d v)(hk:21<=l.length)(hl:l.length<=140737488351232)(hr:okR l):
  Calls prog 124 #[.pointer (some ⟨p,0,none⟩)] w fun x w'=>x=.returned (.tuple #[.agg (ec (rdE l)),.bool true])/\Rdr w' p (l.drop 21) d v/\qfb p w w':=by
 have hM:=qfb.refl p w
 have hsz:(txt l).size=l.length:=qck l
 have h1:=qdmb l 21
 have hk':(21:Int)<=(l.length:Int):=by omega
 have q1:=qc2b l 8 4 om
 have q2:=qc2b l 12 4 om
 have q3:=qc2b l 16 2 om
 obtain⟨q10,q11⟩:=q1
 obtain⟨q20,q21⟩:=q2
 obtain⟨q30,q31⟩:=q3
 have hok:=hr.1
 have heq:decide (evB (rdE l)=l.take 21)=true:=by simpa using hr.2
 have CG:∀w,Calls prog 59 #[.agg (ec (rdE l))] w fun x w'=>x=.returned (.int .i64 0)/\Below w.heap.size w w':=fun w=>by have:=qro (rdE l) w;rw[qs0 hok] at this;exact this
 clear hr
 go_enter func124,ntmps124
 go_upto_region 11 with(first|((with_reducible refine gA 105 ?_);refine ax 2 105 qr3 ?_;intro b2 w2 g2 R2 hb2;have n2:b2≠p:=(fun e=>by have:=R.lt;omega);replace R:=Row.below R hb2;replace hM:=hM.trans (qfb.ofBelow hb2))|((with_reducible refine gA 105 ?_);refine ax 5 105 qr3 ?_;intro b5 w2 g5 R5 hb2;have n5:b5≠p:=(fun e=>by have:=R.lt;omega);have n25:=R2.ne g5;replace g5:=Nat.le_trans hM.size g5;replace R2:=R2.below hb2;replace R:=Row.below R hb2;replace hM:=hM.trans (qfb.ofBelow hb2))|((with_reducible refine gL 9 8 ?_);refine qcm R _ rfl rfl 0 rfl _ rfl ?_)|(go_at_call 121;go_fit (qdvb _ (show Rdr _ p (l.drop 0) d v from R) om hl);rintro x w5 ⟨rfl,R',hM5⟩;replace R:=R';clear R';replace hM:=hM.trans hM5;replace R2:=hM5.row R2 n2;replace R5:=hM5.row R5 n5;clear hM5)|(go_at_call 121;go_fit (qc1b _ R om hl);rintro x w5 ⟨rfl,R',hM5⟩;replace R:=R';clear R';replace hM:=hM.trans hM5;replace R2:=hM5.row R2 n2;replace R5:=hM5.row R5 n5;clear hM5)|(go_at_call 121;go_fit (qc0b _ R om hl);rintro x w5 ⟨rfl,R',hM5⟩;replace R:=R';clear R';replace hM:=hM.trans hM5;replace R2:=hM5.row R2 n2;replace R5:=hM5.row R5 n5;clear hM5)|(go_at_call 121;go_fit (qdwb _ R om hl);rintro x w5 ⟨rfl,R',hM5⟩;replace R:=R';clear R';replace hM:=hM.trans hM5;replace R2:=hM5.row R2 n2;replace R5:=hM5.row R5 n5;clear hM5)|(go_at_call 123;refine(qdhb 2 _ R om hl).mono ?_;rintro x w5 ⟨rfl,R',hM5⟩;replace R:=R';clear R';replace hM:=hM.trans hM5;replace R2:=hM5.row R2 n2;replace R5:=hM5.row R5 n5;clear hM5)|((with_reducible refine gS 3 13 12 ?_);refine qbb R5 rfl _ _ rfl 0 rfl (wrap64 (nAt l 0 8)) rfl _ rfl (ec ⟨wrap64 (nAt l 0 8),0,0,0,false⟩) rfl ?_;intro w6 R5 t6;replace R2:=t6.row R2 n25;replace R:=t6.row R n5.symm;replace hM:=hM.turned t6 g5)|((with_reducible refine gS 3 18 17 ?_);refine qbb R5 rfl _ _ rfl 1 rfl (nAt l 8 4-167772160-1) rfl _ rfl (ec ⟨wrap64 (nAt l 0 8),nAt l 8 4-167772160-1,0,0,false⟩) rfl ?_;intro w6 R5 t6;replace R2:=t6.row R2 n25;replace R:=t6.row R n5.symm;replace hM:=hM.turned t6 g5)|((with_reducible refine gS 3 23 22 ?_);refine qbb R5 rfl _ _ rfl 2 rfl (nAt l 12 4-3405803776-1) rfl _ rfl (ec ⟨wrap64 (nAt l 0 8),nAt l 8 4-167772160-1,nAt l 12 4-3405803776-1,0,false⟩) rfl ?_;intro w6 R5 t6;replace R2:=t6.row R2 n25;replace R:=t6.row R n5.symm;replace hM:=hM.turned t6 g5)|((with_reducible refine gS 3 28 27 ?_);refine qbb R5 rfl _ _ rfl 3 rfl ((nAt l 16 2-1024).tdiv 8) rfl _ rfl (ec ⟨wrap64 (nAt l 0 8),nAt l 8 4-167772160-1,nAt l 12 4-3405803776-1,(nAt l 16 2-1024).tdiv 8,false⟩) rfl ?_;intro w6 R5 t6;replace R2:=t6.row R2 n25;replace R:=t6.row R n5.symm;replace hM:=hM.turned t6 g5)|((with_reducible refine gS 4 34 33 ?_);refine qdab R5 rfl _ _ rfl 4 rfl (nAt l 20 1==2) rfl _ rfl (ec (rdE l)) rfl ?_;intro w6 R5 t6;replace R2:=t6.row R2 n25;replace R:=t6.row R n5.symm;replace hM:=hM.turned t6 g5)|((with_reducible refine gL 105 5 ?_);refine lx 105 (.tmp 5) (ec (rdE l)) R5 ?_)|(go_at_call 59;go_fit (CG _);rintro x w5 ⟨rfl,hb5⟩;replace R:=Row.below R hb5;replace R2:=R2.below hb5;replace R5:=R5.below hb5;replace hM:=hM.trans (qfb.ofBelow hb5)))
 refine RD (fun W=>Row 105 W b5 (ec (rdE l))) R5 (fun _=>?_)
 refine tk 0 (.agg (ec (rdE l))) rfl (yx 105 (.tmp 5) (ec (rdE l)) (fun w h=>h)) R5 (tk 1 (.agg (ec (rdE l))) rfl (yx 105 (.tmp 5) (ec (rdE l)) (fun w h=>h)) R5 (tq 4 (.string (txt (l.take 21))) rfl R5 ?_))
 simp only[ZZ]
 refine AR [2] ?_
 refine AC (fun K hK=>?_) ?_
 ·go_simp
  go_at_call 161;refine(qvw (base:=0) (rdE l) _ (Bys.nil _ 0) (Nat.zero_le _) zm hok).mono ?_;rintro x w5 ⟨v5,rfl,hO,hG⟩;replace hG:=qdub hG;have hne:=Grew.ne hG (by simp[Value.ownBlock]) R2.lt;have hb5:=Grew.below hG (Nat.le_refl _) (fun k hk=>by simp[Value.ownBlock] at hk);replace R:=Row.below R hb5;replace R2:=R2.below hb5;replace R5:=R5.below hb5;replace hM:=hM.trans (qfb.ofBelow hb5)
  go_wp2_with fail
  refine hK.out _ _ R5 (fun _=>?_)
  clear hK K
  try simp only[ZZ]
  refine AR [3,6] ?_
  refine AC (fun K hK=>?_) ?_
  ·rw[if_pos kr]
   refine qdlb (.tmp 41) rfl _ kr (txt (evB (rdE l))) (q64 hO (by rw[q80];decide)) ?_
   refine hK.out _ _ R5 (fun _=>?_)
   clear hK K
   try simp only[ZZ]
   refine tk 5 (.bool true) rfl (qdeb (.tmp 42) (.tmp 43) rfl kr (evB (rdE l)) (l.take 21) kr kr true heq) R5 ?_
   simp only[ZZ]
   refine AR [6] ?_
   refine AC (fun K hK=>?_) ?_
   ·rw[if_pos kr]
    refine sy 105 (.tmp 2) (.tmp 39) (ec (rdE l)) R2 ?_;intro w7 R2 t7;replace hO:=qe9 hO hne t7;replace R5:=t7.row R5 n25.symm;replace R:=t7.row R n2.symm;replace hM:=hM.turned t7 g2
    refine hK.out _ _ R5 (fun _=>?_)
    clear hK K
    try simp only[ZZ]
    exact sZxr32
   exact AZ
  refine AC (fun K hK=>?_) ?_
  ·rw[if_pos kr]
   refine sy 105 (.tmp 2) (.tmp 39) (ec (rdE l)) R2 ?_;intro w7 R2 t7;replace hO:=qe9 hO hne t7;replace R5:=t7.row R5 n25.symm;replace R:=t7.row R n2.symm;replace hM:=hM.turned t7 g2
   refine hK.out _ _ R5 (fun _=>?_)
   clear hK K
   try simp only[ZZ]
   refine AR [3] ?_
   refine AC (fun K hK=>?_) ?_
   ·rw[if_pos kr]
    refine qdlb (.tmp 41) rfl _ kr (txt (evB (rdE l))) (q64 hO (by rw[q80];decide)) ?_
    refine hK.out _ _ R5 (fun _=>?_)
    clear hK K
    try simp only[ZZ]
    refine tk 5 (.bool true) rfl (qdeb (.tmp 42) (.tmp 43) rfl kr (evB (rdE l)) (l.take 21) kr kr true heq) R5 ?_
    simp only[ZZ]
    exact sZxr32
   exact AZ
  exact AZ
 exact AZ
theorem sZxr31{p:Prop}(h:p:=by
 refine tq 7 (.bool false) rfl R5 ?_
 simp only[ZZ]
 refine AN ?_
 go_wp2
 ((try simp only[Exit.inBlock,Exit.then]);refine bodyPost_ret (qbf (p:=2) (u:=3) rfl _ _ _ _ rfl R2 _ underlying105 rfl (qf2 _)) rfl ⟨⟨_,rfl⟩,R,hM⟩)):p:=h
theorem qf8b(p:Nat)(l:List UInt8)(d:Bool)(v:Value)(w:World)(R:Rdr w p l d v)(hk:21<=l.length)(hl:l.length<=140737488351232)(hr:¬okR l):
  Calls prog 124 #[.pointer (some ⟨p,0,none⟩)] w fun x w'=>(∃E:Ev,x=.returned (.tuple #[.agg (ec E),.bool false]))/\Rdr w' p (l.drop 21) d v/\qfb p w w':=by
 have hM:=qfb.refl p w
 have hsz:(txt l).size=l.length:=qck l
 have h1:=qdmb l 21
 have hk':(21:Int)<=(l.length:Int):=by omega
 have q1:=qc2b l 8 4 om
 have q2:=qc2b l 12 4 om
 have q3:=qc2b l 16 2 om
 obtain⟨q10,q11⟩:=q1
 obtain⟨q20,q21⟩:=q2
 obtain⟨q30,q31⟩:=q3
 by_cases hok:okE (rdE l)
 ·have heq:decide (evB (rdE l)=l.take 21)=false:=by simp;exact fun h=>hr ⟨hok,h⟩
  have CG:∀w,Calls prog 59 #[.agg (ec (rdE l))] w fun x w'=>x=.returned (.int .i64 0)/\Below w.heap.size w w':=fun w=>by have:=qro (rdE l) w;rw[qs0 hok] at this;exact this
  clear hr
  go_enter func124,ntmps124
  go_upto_region 11 with(first|((with_reducible refine gA 105 ?_);refine ax 2 105 qr3 ?_;intro b2 w2 g2 R2 hb2;have n2:b2≠p:=(fun e=>by have:=R.lt;omega);replace R:=Row.below R hb2;replace hM:=hM.trans (qfb.ofBelow hb2))|((with_reducible refine gA 105 ?_);refine ax 5 105 qr3 ?_;intro b5 w2 g5 R5 hb2;have n5:b5≠p:=(fun e=>by have:=R.lt;omega);have n25:=R2.ne g5;replace g5:=Nat.le_trans hM.size g5;replace R2:=R2.below hb2;replace R:=Row.below R hb2;replace hM:=hM.trans (qfb.ofBelow hb2))|((with_reducible refine gL 9 8 ?_);refine qcm R _ rfl rfl 0 rfl _ rfl ?_)|(go_at_call 121;go_fit (qdvb _ (show Rdr _ p (l.drop 0) d v from R) om hl);rintro x w5 ⟨rfl,R',hM5⟩;replace R:=R';clear R';replace hM:=hM.trans hM5;replace R2:=hM5.row R2 n2;replace R5:=hM5.row R5 n5;clear hM5)|(go_at_call 121;go_fit (qc1b _ R om hl);rintro x w5 ⟨rfl,R',hM5⟩;replace R:=R';clear R';replace hM:=hM.trans hM5;replace R2:=hM5.row R2 n2;replace R5:=hM5.row R5 n5;clear hM5)|(go_at_call 121;go_fit (qc0b _ R om hl);rintro x w5 ⟨rfl,R',hM5⟩;replace R:=R';clear R';replace hM:=hM.trans hM5;replace R2:=hM5.row R2 n2;replace R5:=hM5.row R5 n5;clear hM5)|(go_at_call 121;go_fit (qdwb _ R om hl);rintro x w5 ⟨rfl,R',hM5⟩;replace R:=R';clear R';replace hM:=hM.trans hM5;replace R2:=hM5.row R2 n2;replace R5:=hM5.row R5 n5;clear hM5)|(go_at_call 123;refine(qdhb 2 _ R om hl).mono ?_;rintro x w5 ⟨rfl,R',hM5⟩;replace R:=R';clear R';replace hM:=hM.trans hM5;replace R2:=hM5.row R2 n2;replace R5:=hM5.row R5 n5;clear hM5)|((with_reducible refine gS 3 13 12 ?_);refine qbb R5 rfl _ _ rfl 0 rfl (wrap64 (nAt l 0 8)) rfl _ rfl (ec ⟨wrap64 (nAt l 0 8),0,0,0,false⟩) rfl ?_;intro w6 R5 t6;replace R2:=t6.row R2 n25;replace R:=t6.row R n5.symm;replace hM:=hM.turned t6 g5)|((with_reducible refine gS 3 18 17 ?_);refine qbb R5 rfl _ _ rfl 1 rfl (nAt l 8 4-167772160-1) rfl _ rfl (ec ⟨wrap64 (nAt l 0 8),nAt l 8 4-167772160-1,0,0,false⟩) rfl ?_;intro w6 R5 t6;replace R2:=t6.row R2 n25;replace R:=t6.row R n5.symm;replace hM:=hM.turned t6 g5)|((with_reducible refine gS 3 23 22 ?_);refine qbb R5 rfl _ _ rfl 2 rfl (nAt l 12 4-3405803776-1) rfl _ rfl (ec ⟨wrap64 (nAt l 0 8),nAt l 8 4-167772160-1,nAt l 12 4-3405803776-1,0,false⟩) rfl ?_;intro w6 R5 t6;replace R2:=t6.row R2 n25;replace R:=t6.row R n5.symm;replace hM:=hM.turned t6 g5)|((with_reducible refine gS 3 28 27 ?_);refine qbb R5 rfl _ _ rfl 3 rfl ((nAt l 16 2-1024).tdiv 8) rfl _ rfl (ec ⟨wrap64 (nAt l 0 8),nAt l 8 4-167772160-1,nAt l 12 4-3405803776-1,(nAt l 16 2-1024).tdiv 8,false⟩) rfl ?_;intro w6 R5 t6;replace R2:=t6.row R2 n25;replace R:=t6.row R n5.symm;replace hM:=hM.turned t6 g5)|((with_reducible refine gS 4 34 33 ?_);refine qdab R5 rfl _ _ rfl 4 rfl (nAt l 20 1==2) rfl _ rfl (ec (rdE l)) rfl ?_;intro w6 R5 t6;replace R2:=t6.row R2 n25;replace R:=t6.row R n5.symm;replace hM:=hM.turned t6 g5)|((with_reducible refine gL 105 5 ?_);refine lx 105 (.tmp 5) (ec (rdE l)) R5 ?_)|(go_at_call 59;go_fit (CG _);rintro x w5 ⟨rfl,hb5⟩;replace R:=Row.below R hb5;replace R2:=R2.below hb5;replace R5:=R5.below hb5;replace hM:=hM.trans (qfb.ofBelow hb5)))
  refine RD (fun W=>Row 105 W b5 (ec (rdE l))) R5 (fun _=>?_)
  refine tk 0 (.agg (ec (rdE l))) rfl (yx 105 (.tmp 5) (ec (rdE l)) (fun w h=>h)) R5 (tk 1 (.agg (ec (rdE l))) rfl (yx 105 (.tmp 5) (ec (rdE l)) (fun w h=>h)) R5 (tq 4 (.string (txt (l.take 21))) rfl R5 ?_))
  simp only[ZZ]
  refine AR [2] ?_
  refine AC (fun K hK=>?_) ?_
  ·go_simp
   go_at_call 161;refine(qvw (base:=0) (rdE l) _ (Bys.nil _ 0) (Nat.zero_le _) zm hok).mono ?_;rintro x w5 ⟨v5,rfl,hO,hG⟩;replace hG:=qdub hG;have hne:=Grew.ne hG (by simp[Value.ownBlock]) R2.lt;have hb5:=Grew.below hG (Nat.le_refl _) (fun k hk=>by simp[Value.ownBlock] at hk);replace R:=Row.below R hb5;replace R2:=R2.below hb5;replace R5:=R5.below hb5;replace hM:=hM.trans (qfb.ofBelow hb5)
   go_wp2_with fail
   refine hK.out _ _ R5 (fun _=>?_)
   clear hK K
   try simp only[ZZ]
   refine AR [3,6] ?_
   refine AC (fun K hK=>?_) ?_
   ·rw[if_pos kr]
    refine qdlb (.tmp 41) rfl _ kr (txt (evB (rdE l))) (q64 hO (by rw[q80];decide)) ?_
    refine hK.out _ _ R5 (fun _=>?_)
    clear hK K
    try simp only[ZZ]
    refine tk 5 (.bool false) rfl (qdeb (.tmp 42) (.tmp 43) rfl kr (evB (rdE l)) (l.take 21) kr kr false heq) R5 ?_
    simp only[ZZ]
    refine AR [6] ?_
    refine AC (fun K hK=>?_) ?_
    ·rw[if_pos kr]
     refine sy 105 (.tmp 2) (.tmp 39) (ec (rdE l)) R2 ?_;intro w7 R2 t7;replace hO:=qe9 hO hne t7;replace R5:=t7.row R5 n25.symm;replace R:=t7.row R n2.symm;replace hM:=hM.turned t7 g2
     refine hK.out _ _ R5 (fun _=>?_)
     clear hK K
     try simp only[ZZ]
     exact sZxr31
    exact AZ
   refine AC (fun K hK=>?_) ?_
   ·rw[if_pos kr]
    refine sy 105 (.tmp 2) (.tmp 39) (ec (rdE l)) R2 ?_;intro w7 R2 t7;replace hO:=qe9 hO hne t7;replace R5:=t7.row R5 n25.symm;replace R:=t7.row R n2.symm;replace hM:=hM.turned t7 g2
    refine hK.out _ _ R5 (fun _=>?_)
    clear hK K
    try simp only[ZZ]
    refine AR [3] ?_
    refine AC (fun K hK=>?_) ?_
    ·rw[if_pos kr]
     refine qdlb (.tmp 41) rfl _ kr (txt (evB (rdE l))) (q64 hO (by rw[q80];decide)) ?_
     refine hK.out _ _ R5 (fun _=>?_)
     clear hK K
     try simp only[ZZ]
     refine tk 5 (.bool false) rfl (qdeb (.tmp 42) (.tmp 43) rfl kr (evB (rdE l)) (l.take 21) kr kr false heq) R5 ?_
     simp only[ZZ]
     exact sZxr31
    exact AZ
   exact AZ
  exact AZ
 ·have CG:∀w,Calls prog 59 #[.agg (ec (rdE l))] w fun x w'=>x=.returned (.int .i64 2)/\Below w.heap.size w w':=fun w=>by have:=qro (rdE l) w;rw[qlh hok] at this;exact this
  clear hr
  go_enter func124,ntmps124
  go_wp2_with (first|((with_reducible refine gA 105 ?_);refine ax 2 105 qr3 ?_;intro b2 w2 g2 R2 hb2;have n2:b2≠p:=(fun e=>by have:=R.lt;omega);replace R:=Row.below R hb2;replace hM:=hM.trans (qfb.ofBelow hb2))|((with_reducible refine gA 105 ?_);refine ax 5 105 qr3 ?_;intro b5 w2 g5 R5 hb2;have n5:b5≠p:=(fun e=>by have:=R.lt;omega);have n25:=R2.ne g5;replace g5:=Nat.le_trans hM.size g5;replace R2:=R2.below hb2;replace R:=Row.below R hb2;replace hM:=hM.trans (qfb.ofBelow hb2))|((with_reducible refine gL 9 8 ?_);refine qcm R _ rfl rfl 0 rfl _ rfl ?_)|(go_at_call 121;go_fit (qdvb _ (show Rdr _ p (l.drop 0) d v from R) om hl);rintro x w5 ⟨rfl,R',hM5⟩;replace R:=R';clear R';replace hM:=hM.trans hM5;replace R2:=hM5.row R2 n2;replace R5:=hM5.row R5 n5;clear hM5)|(go_at_call 121;go_fit (qc1b _ R om hl);rintro x w5 ⟨rfl,R',hM5⟩;replace R:=R';clear R';replace hM:=hM.trans hM5;replace R2:=hM5.row R2 n2;replace R5:=hM5.row R5 n5;clear hM5)|(go_at_call 121;go_fit (qc0b _ R om hl);rintro x w5 ⟨rfl,R',hM5⟩;replace R:=R';clear R';replace hM:=hM.trans hM5;replace R2:=hM5.row R2 n2;replace R5:=hM5.row R5 n5;clear hM5)|(go_at_call 121;go_fit (qdwb _ R om hl);rintro x w5 ⟨rfl,R',hM5⟩;replace R:=R';clear R';replace hM:=hM.trans hM5;replace R2:=hM5.row R2 n2;replace R5:=hM5.row R5 n5;clear hM5)|(go_at_call 123;refine(qdhb 2 _ R om hl).mono ?_;rintro x w5 ⟨rfl,R',hM5⟩;replace R:=R';clear R';replace hM:=hM.trans hM5;replace R2:=hM5.row R2 n2;replace R5:=hM5.row R5 n5;clear hM5)|((with_reducible refine gS 3 13 12 ?_);refine qbb R5 rfl _ _ rfl 0 rfl (wrap64 (nAt l 0 8)) rfl _ rfl (ec ⟨wrap64 (nAt l 0 8),0,0,0,false⟩) rfl ?_;intro w6 R5 t6;replace R2:=t6.row R2 n25;replace R:=t6.row R n5.symm;replace hM:=hM.turned t6 g5)|((with_reducible refine gS 3 18 17 ?_);refine qbb R5 rfl _ _ rfl 1 rfl (nAt l 8 4-167772160-1) rfl _ rfl (ec ⟨wrap64 (nAt l 0 8),nAt l 8 4-167772160-1,0,0,false⟩) rfl ?_;intro w6 R5 t6;replace R2:=t6.row R2 n25;replace R:=t6.row R n5.symm;replace hM:=hM.turned t6 g5)|((with_reducible refine gS 3 23 22 ?_);refine qbb R5 rfl _ _ rfl 2 rfl (nAt l 12 4-3405803776-1) rfl _ rfl (ec ⟨wrap64 (nAt l 0 8),nAt l 8 4-167772160-1,nAt l 12 4-3405803776-1,0,false⟩) rfl ?_;intro w6 R5 t6;replace R2:=t6.row R2 n25;replace R:=t6.row R n5.symm;replace hM:=hM.turned t6 g5)|((with_reducible refine gS 3 28 27 ?_);refine qbb R5 rfl _ _ rfl 3 rfl ((nAt l 16 2-1024).tdiv 8) rfl _ rfl (ec ⟨wrap64 (nAt l 0 8),nAt l 8 4-167772160-1,nAt l 12 4-3405803776-1,(nAt l 16 2-1024).tdiv 8,false⟩) rfl ?_;intro w6 R5 t6;replace R2:=t6.row R2 n25;replace R:=t6.row R n5.symm;replace hM:=hM.turned t6 g5)|((with_reducible refine gS 4 34 33 ?_);refine qdab R5 rfl _ _ rfl 4 rfl (nAt l 20 1==2) rfl _ rfl (ec (rdE l)) rfl ?_;intro w6 R5 t6;replace R2:=t6.row R2 n25;replace R:=t6.row R n5.symm;replace hM:=hM.turned t6 g5)|((with_reducible refine gL 105 5 ?_);refine lx 105 (.tmp 5) (ec (rdE l)) R5 ?_)|(go_at_call 59;go_fit (CG _);rintro x w5 ⟨rfl,hb5⟩;replace R:=Row.below R hb5;replace R2:=R2.below hb5;replace R5:=R5.below hb5;replace hM:=hM.trans (qfb.ofBelow hb5))|((with_reducible refine atOp (.build 105 #[]) rfl ?_);refine qcvb 105 rfl rfl _ qfib ?_)|((with_reducible refine gS 105 2 38 ?_);refine sx 105 (.tmp 2) (.tmp 38) (ec noE) R2 ?_;intro w6 R2 t6;replace R:=t6.row R n2.symm;replace hM:=hM.turned t6 g2))
  ((try simp only[Exit.inBlock,Exit.then]);refine bodyPost_ret (qbf (p:=2) (u:=3) rfl _ _ _ _ rfl R2 _ underlying105 rfl (qf2 _)) rfl ⟨⟨_,rfl⟩,R,hM⟩)
def EvO(w:World)(base:Nat)(v:Value)(es:List Ev):Prop:=w.ownsRow base 105 5 v es.length (es.flatMap ecl)
theorem EvO.nil(w:World)(base:Nat):EvO w base (.slice none 0 0) []:=World.ownsRow_nil w base 105 5
theorem EvO.keep{w w':World}{base:Nat}{v:Value}{es:List Ev}(h:EvO w base v es)(hk:∀g,v.ownBlock=some g->w'.heap[g]?=w.heap[g]?):EvO w' base v es:=by
 refine⟨h.1,?_⟩
 rcases h.2 with e|⟨b,cap,cur,hv,hbb,hh,r⟩
 ·exact .inl e
 ·exact .inr ⟨b,cap,cur,hv,hbb,(hk b (by rw[hv];rfl)).trans hh,r⟩
theorem EvO.ge{w:World}{base:Nat}{v:Value}{es:List Ev}(h:EvO w base v es):∀k,v.ownBlock=some k->base<=k/\k<w.heap.size:=fun k hk=>h.lt k hk
theorem EvO.below{w w':World}{base:Nat}{v:Value}{es:List Ev}(h:EvO w base v es)(hb:Below w.heap.size w w'):EvO w' base v es:=h.keep (fun g hg=>hb.block g (h.ge g hg).2)
theorem EvO.moved{w w':World}{base p:Nat}{v:Value}{es:List Ev}(h:EvO w base v es)(hm:qfb p w w')(hp:p<base):EvO w' base v es:=h.keep (fun g hg=>hm.block g (h.ge g hg).2 (by have:=(h.ge g hg).1;omega))
theorem EvO.turned{w w':World}{base b:Nat}{v:Value}{es:List Ev}(h:EvO w base v es)(t:qbl b w w')(hne:v.ownBlock≠some b):EvO w' base v es:=h.keep (fun g hg=>t.other g (fun e=>hne (by rw[hg,e])))
theorem EvO.new{w:World}{base b:Nat}{v:Value}{es:List Ev}(h:EvO w base v es)(hb:w.heap.size<=b):v.ownBlock≠some b:=fun e=>by have:=(h.ge b e).2;omega
theorem EvO.slice{w:World}{base:Nat}{v:Value}{es:List Ev}(h:EvO w base v es):∃a cap,v=.slice a es.length cap:=by
 rcases h.2 with⟨e,n0⟩|⟨b,cap,cur,hv,_⟩
 ·exact⟨none,0,by rw[e,n0]⟩
 ·exact⟨_,_,hv⟩
theorem EvO.at{w:World}{base:Nat}{v:Value}{es:List Ev}(h:EvO w base v es)(hl:es.length<=3518437208780):EvAt w v es:=by
 rcases h.2 with⟨e,n0⟩|⟨b,cap,cur,hv,hbb,hh,hnc,hcm,hcs,ht⟩
 ·have:es=[]:=List.eq_nil_of_length_eq_zero n0
  subst this
  exact⟨none,0,e,fun h=>absurd h zm,fun j hj=>absurd hj zm,by simp⟩
 ·subst hv
  refine⟨_,_,rfl,fun _=>rfl,fun j hj i u hu=>?_,hl⟩
  have hi5:i<5:=by have:=(List.getElem?_eq_some_iff.1 hu).1;simpa[ecl] using this
  show w.cell? ⟨b,0+5*j+i,none⟩=some u
  have e:=(qx0 es j i hj hi5).trans hu
  rw[←ht,List.getElem?_take_of_lt om] at e
  simp only[World.cell?,hh,Nat.zero_add]
  simpa using e
theorem q2i(es:List Ev)(e:Ev):(es++[e]).flatMap ecl=es.flatMap ecl++ecl e:=by rw[List.flatMap_append];simp
theorem q7d(e:Ev)(j:Nat):(ec e)[j]?=(ecl e)[j]?:=by show(ecl e).toArray[j]?=_;simp
theorem q1u{w:World}{base b:Nat}{v:Value}{es:List Ev}{e:Ev}(h:EvO w base v es)(R:Row 105 w b (ec e))(hl:es.length<=5000000000)(hbase:base<=w.heap.size)(ty:TypeId):
  ∃v' w',(Builtin.append_ #[52,52] ty #[v,.slice (some ⟨b,0,none⟩) 1 1]).run prog w=.ok v' w'/\EvO w' base v' (es++[e])/\Grew v v' w w':=by
 obtain⟨i0,hi,hz0,hz1,hz2⟩:=info_parts qyu
 obtain⟨v',w',h1,h2,h3,_,h5⟩:=run_append_own_at (P:=prog) w base 52 ty 105 i0 (.agg (ec noE)) 5 40 underlying52 hi hz0 hz1 hz2 rfl (by decide) v es.length (es.flatMap ecl) h ⟨b,0,none⟩ 1 1 (ecl e) rfl
  (fun j u hu=>by rw[Addr.add_lit,Nat.zero_add];exact(R.cell j).trans ((q7d e j).trans hu)) (by intro u hu;simp[ecl] at hu;rcases hu with rfl|rfl|rfl|rfl|rfl<;>rfl) (by unfold maxLen;omega) om hbase
 refine⟨v',w',h1,?_,⟨h3,?_⟩⟩
 ·unfold EvO;rw[q2i,List.length_append];exact h2
 ·rcases h5 with e|e
  ·exact .inl e
  ·exact .inr ⟨_,e,Nat.le_refl _⟩
theorem q0a(e:Ev)(w:World):(Instr.buildSlice 52 1 #[(0,.agg (ec e))]).run prog w=.ok (.slice (some ⟨w.heap.size,0,none⟩) 1 1) (w.alloc (.cells (ec e) 105)):=by
 obtain⟨t,s,a,b,fr⟩:=e
 kernel_rfl
theorem q26{o:Oper}{a:Act}{w:World}{K:Act->World->Prop}{Q:Exit->Act->World->Prop}(x:Operand)(ho:o.op=.buildSlice 52 1 #[(0,x)])(e:Ev)(hx:a.eval x=.agg (ec e))(hr:∀b w',w.heap.size<=b->Row 105 w' b (ec e)->Below w.heap.size w w'->K (a.put o.dst (.slice (some ⟨b,0,none⟩) 1 1)) w'):o.wp prog a w K Q:=by
 have h':=hr w.heap.size (w.alloc (.cells (ec e) 105)) (Nat.le_refl _) (Row.new _ w _) ((Below.refl _ _).alloc (Nat.le_refl _) _)
 unfold Oper.wp execOp
 simp only[ho,List.map_toArray,List.map_cons,List.map_nil,hx,Sem.run_bind,q0a,Result.andThen_ok,Sem.run_pure]
 exact h'
theorem q45{o:Oper}{a:Act}{w:World}{K:Act->World->Prop}{Q:Exit->Act->World->Prop}(s x:Operand)(ho:o.op=.call { callee:=.builtin .append,args:=#[s,x],argTypes:=#[52,52] }){base b:Nat}{v:Value}{es:List Ev}{e:Ev}(h:EvO w base v es)(R:Row 105 w b (ec e))(hs:a.eval s=v)(hx:a.eval x=.slice (some ⟨b,0,none⟩) 1 1)(hl:es.length<=5000000000)(hbase:base<=w.heap.size)(hr:∀v' w',EvO w' base v' (es++[e])->Grew v v' w w'->K (a.put o.dst v') w'):o.wp prog a w K Q:=by
 obtain⟨v',w',h1,h2,h3⟩:=q1u h R hl hbase o.type
 unfold Oper.wp execOp
 simp only[ho,resolve,invoke,builtin,Sem.run_bind,Sem.run_pure,Result.andThen_ok,List.map_toArray,List.map_cons,List.map_nil,hs,hx,h1]
 exact hr v' w' h2 h3
theorem qbj{ops:Array Oper}{rest:List Oper}{o:Oper}{a:Act}{w:World}{Q:Exit->Act->World->Prop}(hgd:o.guard=none)(x:Operand)(ho:o.op=.buildSlice 52 1 #[(0,x)])(e:Ev)(hx:a.eval x=.agg (ec e))(hr:∀b w',w.heap.size<=b->Row 105 w' b (ec e)->Below w.heap.size w w'->wpList prog ops Q rest (a.put o.dst (.slice (some ⟨b,0,none⟩) 1 1)) w'):wpList prog ops Q (o::rest) a w:=
 wpList_plain hgd fun K hK=>q26 x ho e hx (fun b w' h1 h2 h3=>hK _ _ (hr b w' h1 h2 h3))
theorem qwb{ops:Array Oper}{rest:List Oper}{o:Oper}{a:Act}{w:World}{Q:Exit->Act->World->Prop}(hgd:o.guard=none)(s x:Operand)(ho:o.op=.call { callee:=.builtin .append,args:=#[s,x],argTypes:=#[52,52] }){base b:Nat}{v:Value}{es:List Ev}{e:Ev}(h:EvO w base v es)(R:Row 105 w b (ec e))(hs:a.eval s=v)(hx:a.eval x=.slice (some ⟨b,0,none⟩) 1 1)(hl:es.length<=5000000000)(hbase:base<=w.heap.size)(hr:∀v' w',EvO w' base v' (es++[e])->Grew v v' w w'->wpList prog ops Q rest (a.put o.dst v') w'):wpList prog ops Q (o::rest) a w:=
 wpList_plain hgd fun K hK=>q45 s x ho h R hs hx hl hbase (fun v' w' h1 h2=>hK _ _ (hr v' w' h1 h2))
theorem qedb{o:Oper}{a:Act}{w:World}{K:Act->World->Prop}{Q:Exit->Act->World->Prop}{t:TypeId}{b:Nat}{cs:Array Value}(R:Row t w b cs)(x y:Operand)(ho:o.op=.store 52 x y)(f:Nat)(hx:a.eval x=.pointer (some ⟨b,f,none⟩))(sa:Option Addr)(n c:Nat)(hy:a.eval y=.slice sa n c)(m:Value)(hc:cs[f]?=some m)(ds:Array Value)(hd:cs.setIfInBounds f (.slice sa n c)=ds)(hr:∀w',Row t w' b ds->qbl b w w'->K (a.put o.dst undef) w'):o.wp prog a w K Q:=by
 have hcell:=(R.cell f).trans hc
 have hfr:=R.free f
 unfold Oper.wp execOp
 simp only[ho,hx,hy]
 simp[go_sem,hcell,hfr,underlying52]
 exact hr _ (hd▸R.set) (qfx _ _ _ _)
theorem qepb{o:Oper}{a:Act}{w:World}{K:Act->World->Prop}{Q:Exit->Act->World->Prop}{t:TypeId}{b:Nat}{cs:Array Value}(R:Row t w b cs)(x:Operand)(ho:o.op=.load 52 x)(f:Nat)(hx:a.eval x=.pointer (some ⟨b,f,none⟩))(v:Value)(hc:cs[f]?=some v)(hr:K (a.put o.dst v) w):o.wp prog a w K Q:=by
 have hcell:=(R.cell f).trans hc
 unfold Oper.wp execOp
 simp only[ho,hx]
 simp[go_sem,hcell,underlying52]
 exact hr
theorem qc3b{ops:Array Oper}{S:World->Prop}{o:Oper}{a:Act}(x:Operand)(ho:o.op=.load 52 x)(hw:Region.wanted o (yielded ops a.tmps)=true)(b f:Nat)(hx:a.eval x=.pointer (some ⟨b,f,none⟩))(v:Value)(hS:∀w,S w->w.cell? ⟨b,f,none⟩=some v):YieldsIf prog ops S o v a:=
 .inl ⟨hw,fun w h=>by
  have hcell:=hS w h
  unfold execOp
  simp only[ho,hx]
  simp[go_sem,hcell,underlying52]⟩
theorem qgnb(t q k:Int)(l z:List UInt8)(hl:l.length<=60000)(hq0:0<=q)(hq1:q<=4294967295)(hk0:0<=k)(hk1:k<=300):nAt (msgB t q k l++z) 0 2=10:=by
 have h:=qc4b ([]) (be 10 2) (be (20+(l.length:Int)) 2++(be (t%4294967296) 4++(be q 4++(be 1 4++(be k 2++(be (4+(l.length:Int)) 2++(l++z))))))) 2 (qd8 _ _) 0 (by simp[qd8])
 rw[qc9b] at h
 rw[show msgB t q k l++z=([])++(be 10 2++(be (20+(l.length:Int)) 2++(be (t%4294967296) 4++(be q 4++(be 1 4++(be k 2++(be (4+(l.length:Int)) 2++(l++z)))))))) by simp[msgB],h]
 omega
theorem qd6b(t q k:Int)(l z:List UInt8)(hl:l.length<=60000)(hq0:0<=q)(hq1:q<=4294967295)(hk0:0<=k)(hk1:k<=300):nAt (msgB t q k l++z) 2 2=20+(l.length:Int):=by
 have h:=qc4b (be 10 2) (be (20+(l.length:Int)) 2) (be (t%4294967296) 4++(be q 4++(be 1 4++(be k 2++(be (4+(l.length:Int)) 2++(l++z)))))) 2 (qd8 _ _) 2 (by simp[qd8])
 rw[qc9b] at h
 rw[show msgB t q k l++z=(be 10 2)++(be (20+(l.length:Int)) 2++(be (t%4294967296) 4++(be q 4++(be 1 4++(be k 2++(be (4+(l.length:Int)) 2++(l++z))))))) by simp[msgB],h]
 omega
theorem qgzb(t q k:Int)(l z:List UInt8)(hl:l.length<=60000)(hq0:0<=q)(hq1:q<=4294967295)(hk0:0<=k)(hk1:k<=300):nAt (msgB t q k l++z) 4 4=t%4294967296:=by
 have h:=qc4b (be 10 2++be (20+(l.length:Int)) 2) (be (t%4294967296) 4) (be q 4++(be 1 4++(be k 2++(be (4+(l.length:Int)) 2++(l++z))))) 4 (qd8 _ _) 4 (by simp[qd8])
 rw[qc9b] at h
 rw[show msgB t q k l++z=(be 10 2++be (20+(l.length:Int)) 2)++(be (t%4294967296) 4++(be q 4++(be 1 4++(be k 2++(be (4+(l.length:Int)) 2++(l++z)))))) by simp[msgB],h]
 omega
theorem qe1b(t q k:Int)(l z:List UInt8)(hl:l.length<=60000)(hq0:0<=q)(hq1:q<=4294967295)(hk0:0<=k)(hk1:k<=300):nAt (msgB t q k l++z) 8 4=q:=by
 have h:=qc4b (be 10 2++be (20+(l.length:Int)) 2++be (t%4294967296) 4) (be q 4) (be 1 4++(be k 2++(be (4+(l.length:Int)) 2++(l++z)))) 4 (qd8 _ _) 8 (by simp[qd8])
 rw[qc9b] at h
 rw[show msgB t q k l++z=(be 10 2++be (20+(l.length:Int)) 2++be (t%4294967296) 4)++(be q 4++(be 1 4++(be k 2++(be (4+(l.length:Int)) 2++(l++z))))) by simp[msgB],h]
 omega
theorem qgvb(t q k:Int)(l z:List UInt8)(hl:l.length<=60000)(hq0:0<=q)(hq1:q<=4294967295)(hk0:0<=k)(hk1:k<=300):nAt (msgB t q k l++z) 12 4=1:=by
 have h:=qc4b (be 10 2++be (20+(l.length:Int)) 2++be (t%4294967296) 4++be q 4) (be 1 4) (be k 2++(be (4+(l.length:Int)) 2++(l++z))) 4 (qd8 _ _) 12 (by simp[qd8])
 rw[qc9b] at h
 rw[show msgB t q k l++z=(be 10 2++be (20+(l.length:Int)) 2++be (t%4294967296) 4++be q 4)++(be 1 4++(be k 2++(be (4+(l.length:Int)) 2++(l++z)))) by simp[msgB],h]
 omega
theorem qd8b(t q k:Int)(l z:List UInt8)(hl:l.length<=60000)(hq0:0<=q)(hq1:q<=4294967295)(hk0:0<=k)(hk1:k<=300):nAt (msgB t q k l++z) 16 2=k:=by
 have h:=qc4b (be 10 2++be (20+(l.length:Int)) 2++be (t%4294967296) 4++be q 4++be 1 4) (be k 2) (be (4+(l.length:Int)) 2++(l++z)) 2 (qd8 _ _) 16 (by simp[qd8])
 rw[qc9b] at h
 rw[show msgB t q k l++z=(be 10 2++be (20+(l.length:Int)) 2++be (t%4294967296) 4++be q 4++be 1 4)++(be k 2++(be (4+(l.length:Int)) 2++(l++z))) by simp[msgB],h]
 omega
theorem qgrb(t q k:Int)(l z:List UInt8)(hl:l.length<=60000)(hq0:0<=q)(hq1:q<=4294967295)(hk0:0<=k)(hk1:k<=300):nAt (msgB t q k l++z) 18 2=4+(l.length:Int):=by
 have h:=qc4b (be 10 2++be (20+(l.length:Int)) 2++be (t%4294967296) 4++be q 4++be 1 4++be k 2) (be (4+(l.length:Int)) 2) (l++z) 2 (qd8 _ _) 18 (by simp[qd8])
 rw[qc9b] at h
 rw[show msgB t q k l++z=(be 10 2++be (20+(l.length:Int)) 2++be (t%4294967296) 4++be q 4++be 1 4++be k 2)++(be (4+(l.length:Int)) 2++(l++z)) by simp[msgB],h]
 omega
theorem qeub(t q k:Int)(l z:List UInt8)(hl:l.length<=60000)(hq0:0<=q)(hq1:q<=4294967295)(hk:k=2\/k=300):qctb (msgB t q k l++z)=0:=by
 have hk0:0<=k:=by omega
 have hk1:k<=300:=by omega
 have hlen:(msgB t q k l++z).length=20+l.length+z.length:=by rw[List.length_append,qlj]
 unfold qctb
 rw[qgnb t q k l z hl hq0 hq1 hk0 hk1,qd6b t q k l z hl hq0 hq1 hk0 hk1,qgvb t q k l z hl hq0 hq1 hk0 hk1,qd8b t q k l z hl hq0 hq1 hk0 hk1,qgrb t q k l z hl hq0 hq1 hk0 hk1,hlen]
 rw[if_neg om,if_neg om,if_neg om]
theorem qetb(t q k:Int)(l z:List UInt8):(msgB t q k l++z).drop (20+l.length)=z:=by
 rw[←qlj t q k l,List.drop_left]
theorem qf3b(t q k:Int)(l z:List UInt8):(msgB t q k l++z).take (20+l.length)=msgB t q k l:=by
 rw[←qlj t q k l,List.take_left]
theorem qe5b(t q k:Int)(l z:List UInt8):(msgB t q k l++z).drop 20=l++z:=by
 have:msgB t q k l++z=(be 10 2++be (20+(l.length:Int)) 2++be (t%4294967296) 4++be q 4++be 1 4++be k 2++be (4+(l.length:Int)) 2)++(l++z):=by simp[msgB]
 rw[this]
 have h20:(be 10 2++be (20+(l.length:Int)) 2++be (t%4294967296) 4++be q 4++be 1 4++be k 2++be (4+(l.length:Int)) 2).length=20:=by simp[qd8]
 rw[←h20,List.drop_left]
theorem qgfb(z:List UInt8):qcsb (msgB 0 0 2 (tplB 6)++z) false []=(0,z,true,[]):=by
 have hl:(tplB 6).length=28:=qqi
 unfold qcsb
 rw[if_neg (by rw[qeub 0 0 2 (tplB 6) z om om om (.inl rfl)];decide),qe1b 0 0 2 (tplB 6) z om om om om om,qd8b 0 0 2 (tplB 6) z om om om om om,qd6b 0 0 2 (tplB 6) z om om om om om]
 rw[if_neg zm,if_pos rfl,show(20+((tplB 6).length:Int)).toNat=20+(tplB 6).length by omega,qf3b,qetb,if_pos zm]
theorem qggb(t:Int)(ps:List Ev)(z:List UInt8)(es:List Ev)(hp:∀e∈ps,okE e/\e.t=t)(hla:qcyb es t=false):evs (t%4294967296) ps.length (setB ps++z) es=some (es++ps):=by
 induction ps generalizing es with
 | nil=>simp[evs]
 | cons e r ih=>
  obtain⟨hk,ht⟩:=hp e zm
  have e1:setB (e::r)++z=evB e++(setB r++z):=by simp[setB]
  have hr:=qg6b e hk (setB r++z)
  have hok:okR (evB e++(setB r++z)):=by
   unfold okR;rw[hr];exact⟨hk,by rw[←q80 e,List.take_left]⟩
  rw[e1,List.length_cons,qd4b ⟨hok,by rw[hr,ht],by rw[hr,ht];exact hla⟩,hr,←q80 e,List.drop_left,ih (es++[e]) (fun x hx=>hp x (by simp[hx])) ?_]
  ·simp
  ·unfold qcyb;simp[ht]
theorem qg0b(t:Int)(ps es:List Ev)(z:List UInt8)(hp:∀e∈ps,okE e/\e.t=t)(h0:0<ps.length)(h64:ps.length<=64)(hes:es.length<=100000)(hla:qcyb es t=false):qcsb (msgB t (es.length:Int) 300 (setB ps)++z) true es=(0,z,true,es++ps):=by
 have hl:(setB ps).length=21*ps.length:=qnn ps
 have q0:(0:Int)<=(es.length:Int):=by omega
 have q1:(es.length:Int)<=4294967295:=by omega
 have a1:=qd6b t (es.length:Int) 300 (setB ps) z om q0 q1 om om
 unfold qcsb
 rw[if_neg (by rw[qeub t _ 300 (setB ps) z om q0 q1 (.inr rfl)];decide),qe1b t _ 300 (setB ps) z om q0 q1 om om,qd8b t _ 300 (setB ps) z om q0 q1 om om,a1,qgzb t _ 300 (setB ps) z om q0 q1 om om]
 rw[if_neg zm,if_neg (by decide),if_neg zm,if_neg om,show((20+((setB ps).length:Int)-20)/21).toNat=ps.length by omega,qe5b,qggb t ps z es hp hla,show(20+((setB ps).length:Int)).toNat=20+(setB ps).length by omega,qetb]
def qdyb(S:List UInt8)(all:List Ev):Prop:=
 ∃P m d0 es0 t q k l,S=P++msgB t q k l/\m<=P.length/\(∀n z,runM (n+m) (P++z) false []=runM n z d0 es0)/\(∀z,qcsb (msgB t q k l++z) d0 es0=(0,z,true,all))/\0<l.length/\l.length<=60000/\0<=q/\q<=4294967295/\(k=2\/k=300)
theorem qf9b:qdyb (msgB 0 0 2 (tplB 6)) []:=by
 have hl:(tplB 6).length=28:=qqi
 exact⟨[],0,false,[],0,0,2,tplB 6,rfl,Nat.le_refl _,fun n z=>rfl,qgfb,by omega,by omega,by omega,by omega,.inl rfl⟩
theorem qenb(t q k:Int)(l z:List UInt8)(d:Bool)(es all:List Ev)(h:qcsb (msgB t q k l++z) d es=(0,z,true,all))(n:Nat):runM (n+1) (msgB t q k l++z) d es=runM n z true all:=
 qd9b n _ d es (by rw[List.length_append,qlj];omega) h
theorem qeab{S:List UInt8}{all:List Ev}(h:qdyb S all)(t:Int)(ps:List Ev)(hp:∀e∈ps,okE e/\e.t=t)(h0:0<ps.length)(h64:ps.length<=64)(hes:all.length<=100000)(hla:qcyb all t=false):qdyb (S++msgB t (all.length:Int) 300 (setB ps)) (all++ps):=by
 obtain⟨P,m,d0,es0,t0,q0,k0,l0,hS,hm,hP,hst,_⟩:=h
 have hl:(setB ps).length=21*ps.length:=qnn ps
 refine⟨S,m+1,true,all,t,(all.length:Int),300,setB ps,rfl,?_,fun n z=>?_,fun z=>qg0b t ps all z hp h0 h64 hes hla,by omega,by omega,by omega,by omega,.inr rfl⟩
 ·rw[hS,List.length_append,qlj];omega
 ·rw[hS,List.append_assoc,show n+(m+1)=(n+1)+m by omega,hP,qenb _ _ _ _ _ _ _ _ (hst z)]
theorem qfyb{S:List UInt8}{all:List Ev}(h:qdyb S all):runM S.length S false []=(0,all):=by
 obtain⟨P,m,d0,es0,t,q,k,l,hS,hm,hP,hst,_⟩:=h
 have hlen:S.length=P.length+(20+l.length):=by rw[hS,List.length_append,qlj]
 obtain⟨n,hn⟩:∃n,S.length=(n+1)+m:=⟨S.length-m-1,by omega⟩
 rw[hn,hS,hP]
 have:=qenb t q k l [] d0 es0 all (hst []) n
 rw[List.append_nil] at this
 rw[this,qelb _ _ _ _ rfl]
theorem qdsb(p:Nat)(l:List UInt8)(d:Bool)(v:Value)(es:List Ev)(t:Int)(w:World)(R:Rdr w p l d v)(hE:EvAt w v es):
  Calls prog 126 #[.pointer (some ⟨p,0,none⟩),.int .i64 t] w fun x w'=>x=.returned (.bool (qcyb es t))/\w'=w:=by
 obtain⟨a0,cap,hsl⟩:=hE.slice
 have hlen:=hE.len
 unfold Rdr at R
 by_cases h0:es.length=0
 ·have HL:Hid (qcyb es t=false):=by show _=_;rw[List.eq_nil_of_length_eq_zero h0];rfl
  obtain⟨n,hn⟩:∃n,n=es.length:=⟨_,rfl⟩
  rw[←hn] at hsl
  subst hsl
  have h0':¬0<n:=by omega
  clear h0 hlen hn
  go_enter func126,ntmps126
  go_wp2_with (first|((with_reducible refine gL 52 8 ?_);refine qdfb R _ rfl rfl 2 rfl (.slice a0 n cap) rfl ?_))
  go_ret
  exact⟨by rw[HL.out];rfl,rfl⟩
 ·obtain⟨e,he⟩:∃e,es[es.length-1]'om=e:=⟨_,rfl⟩
  have HL:Hid (qcyb es t=decide (t<e.t)):=qfkb om t he
  have IR:=hE.index (es.length-1) om w
  have hc:=hE.at (es.length-1) om he 0 _ rfl
  obtain⟨n,hn⟩:∃n,n=es.length:=⟨_,rfl⟩
  rw[←hn] at hsl IR hc hlen
  subst hsl
  have h0':0<n:=by omega
  have hn1:(n:Int)-1=((n-1:Nat):Int):=by omega
  rw[←hn1] at IR
  have hw1:wrap64 ((n:Int)-1)=(n:Int)-1:=by unfold wrap64;omega
  clear he h0 hn hn1
  go_enter func126,ntmps126
  go_wp2_with (first|((with_reducible refine gL 52 8 ?_);refine qdfb R _ rfl rfl 2 rfl (.slice a0 n cap) rfl ?_)|((with_reducible refine gL 52 16 ?_);refine qdfb R _ rfl ?_ 2 rfl (.slice a0 n cap) rfl ?_;· rfl)|((with_reducible refine atOp (.indexAddr 52 (.tmp 17) (.tmp 19)) rfl ?_);refine qh0 52 (.tmp 17) (.tmp 19) rfl ?_ _ _ _ rfl rfl IR ?_;· rfl)|((with_reducible refine gL 3 21 ?_);refine qvf (.tmp 21) rfl ?_ _ _ rfl _ hc ?_;· rfl))
  go_ret
  exact⟨by rw[HL.out];rfl,rfl⟩
def hdc(len time seq kind:Int):Array Value:=#[.int .i64 len,.int .i64 time,.int .i64 seq,.int .i64 kind]
theorem qcqb(a b c d:Int):(prog.info? 139).map (·.size)=some (hdc a b c d).size:=by kernel_rfl
theorem qcwb(a b c d:Int):(hdc a b c d).all (·.oneCell')=true:=by kernel_rfl
theorem qcrb(w:World):(zeroValue 139).run prog w=.ok (.agg (hdc 0 0 0 0)) w:=by kernel_rfl
theorem qc5b(w:World):(Instr.build 139 #[]).run prog w=.ok (.agg (hdc 0 0 0 0)) w:=by kernel_rfl
theorem qewb(p:Nat)(l m:List UInt8)(d:Bool)(v:Value)(len time seq kind:Int)(w:World)(R:Rdr w p (l.drop 20) d v)(hT:Tab w)(hp:p≠0)(hk0:20<=len)(hk1:len<=(l.length:Int))(hl:l.length<=140737488351232)(hq:qi0 seq=true)(hm:m≠msgB 0 seq 2 (tplB 6)):
  Calls prog 89 #[.pointer (some ⟨p,0,none⟩),.string (txt m),.agg (hdc len time seq kind)] w fun x w'=>x=.returned (.int .i64 4)/\qfb p w w':=by
 have hM:=qfb.refl p w
 have CT:∀w,Tab w->Calls prog 122 #[.int .i64 seq] w fun x w'=>x=.returned (.tuple #[.string (txt (msgB 0 seq 2 (tplB 6))),.int .i64 0])/\Below w.heap.size w w':=fun w hT=>by have:=qu3 seq w hT;rw[q4t _ _ _ _ hq] at this;exact this
 have hne:(txt m).toList≠(txt (msgB 0 seq 2 (tplB 6))).toList:=by rw[ByteArray.toList_eq,ByteArray.toList_eq,qds,qds];exact hm
 have hne':((txt m).toList==(txt (msgB 0 seq 2 (tplB 6))).toList)=false:=by simpa using hne
 clear hm hne
 generalize msgB 0 seq 2 (tplB 6)=M at *
 obtain⟨k,rfl⟩:∃k:Nat,len=20+(k:Int):=⟨(len-20).toNat,by omega⟩
 have hkl:20+k<=l.length:=by omega
 have HKT:Hid ((20+(k:Int)).toNat=20+k):=by show _=_;omega
 have hkk:20+(k:Int)-20=(k:Int):=by omega
 have hks:(k:Int)<=140737488351232:=by omega
 clear hq hk0 hk1
 go_enter func89,ntmps89
 go_wp2_with (first|((with_reducible refine gB 139 2 ?_);refine bx 139 _ (hdc (20+(k:Int)) time seq kind) ?_;intro b5 w2 g5 R5 hb2;have n5:b5≠p:=(fun e=>by have:=R.lt;omega);replace R:=Row.below R hb2;replace hT:=hT.below hb2;replace hM:=hM.trans (qfb.ofBelow hb2))|((with_reducible refine gL 3 10 ?_);refine fx R5 _ 2 _ ?_)|((with_reducible refine gL 3 19 ?_);refine fx R5 _ 0 _ ?_)|(go_at_call 122;go_fit (CT _ hT);rintro x w5 ⟨rfl,hb5⟩;replace R:=Row.below R hb5;replace R5:=R5.below hb5;replace hM:=hM.trans (qfb.ofBelow hb5))|(go_at_call 123;go_fit (qdhb k _ R hkl hl);rintro x w5 ⟨rfl,R',hM5⟩;replace R:=R';clear R';replace hM:=hM.trans hM5;clear hM5)|((with_reducible refine atOp (.store 4 (.tmp 25) (.const (.bool true))) rfl ?_);refine qdab R rfl _ _ rfl 1 rfl true rfl _ rfl _ (qe2b _ _ _ _) ?_;intro w6 R t6;replace hM:=hM.trans (qfb.ofTurned t6)))
 go_ret
 exact⟨rfl,hM⟩
theorem qejb(p:Nat)(l m:List UInt8)(d:Bool)(v:Value)(len time seq kind:Int)(w:World)(R:Rdr w p (l.drop 20) d v)(hT:Tab w)(hp:p≠0)(hk0:20<=len)(hk1:len<=(l.length:Int))(hl:l.length<=140737488351232)(hq:qi0 seq=true)(hm:m=msgB 0 seq 2 (tplB 6)):
  Calls prog 89 #[.pointer (some ⟨p,0,none⟩),.string (txt m),.agg (hdc len time seq kind)] w fun x w'=>(x=.returned (.int .i64 0)/\Rdr w' p (l.drop len.toNat) true v)/\qfb p w w':=by
 have hM:=qfb.refl p w
 have CT:∀w,Tab w->Calls prog 122 #[.int .i64 seq] w fun x w'=>x=.returned (.tuple #[.string (txt (msgB 0 seq 2 (tplB 6))),.int .i64 0])/\Below w.heap.size w w':=fun w hT=>by have:=qu3 seq w hT;rw[q4t _ _ _ _ hq] at this;exact this
 subst hm
 have hne':((txt (msgB 0 seq 2 (tplB 6))).toList==(txt (msgB 0 seq 2 (tplB 6))).toList)=true:=by simp
 generalize msgB 0 seq 2 (tplB 6)=M at *
 obtain⟨k,rfl⟩:∃k:Nat,len=20+(k:Int):=⟨(len-20).toNat,by omega⟩
 have hkl:20+k<=l.length:=by omega
 have HKT:Hid ((20+(k:Int)).toNat=20+k):=by show _=_;omega
 have hkk:20+(k:Int)-20=(k:Int):=by omega
 have hks:(k:Int)<=140737488351232:=by omega
 clear hq hk0 hk1
 go_enter func89,ntmps89
 go_wp2_with (first|((with_reducible refine gB 139 2 ?_);refine bx 139 _ (hdc (20+(k:Int)) time seq kind) ?_;intro b5 w2 g5 R5 hb2;have n5:b5≠p:=(fun e=>by have:=R.lt;omega);replace R:=Row.below R hb2;replace hT:=hT.below hb2;replace hM:=hM.trans (qfb.ofBelow hb2))|((with_reducible refine gL 3 10 ?_);refine fx R5 _ 2 _ ?_)|((with_reducible refine gL 3 19 ?_);refine fx R5 _ 0 _ ?_)|(go_at_call 122;go_fit (CT _ hT);rintro x w5 ⟨rfl,hb5⟩;replace R:=Row.below R hb5;replace R5:=R5.below hb5;replace hM:=hM.trans (qfb.ofBelow hb5))|(go_at_call 123;go_fit (qdhb k _ R hkl hl);rintro x w5 ⟨rfl,R',hM5⟩;replace R:=R';clear R';replace hM:=hM.trans hM5;clear hM5)|((with_reducible refine atOp (.store 4 (.tmp 25) (.const (.bool true))) rfl ?_);refine qdab R rfl _ _ rfl 1 rfl true rfl _ rfl _ (qe2b _ _ _ _) ?_;intro w6 R t6;replace hM:=hM.trans (qfb.ofTurned t6)))
 go_ret
 exact⟨⟨rfl,by rw[HKT.out];exact R⟩,hM⟩
end Go.Proofs.YtnicenfgemkdnaaGreatDoor
