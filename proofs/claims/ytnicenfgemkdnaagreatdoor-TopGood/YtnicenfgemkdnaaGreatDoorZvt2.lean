/-
  Of what a law stands on.
-/
import Derived.Test.YtnicenfgemkdnaaGreatDoorZvt1
set_option linter.unusedSimpArgs false
set_option linter.unusedVariables false
namespace Go.Proofs.YtnicenfgemkdnaaGreatDoor
open _root_.Go.Proofs.Tryz
set_option maxHeartbeats 16000000
set_option maxRecDepth 100000
open Go.ChangeShapes Go.WideShapes Go.ChangeAt Go.RowKit
theorem qal(k:Fl):(prog.info? 48).map (·.size)=some (fc k).size:=by kernel_rfl
theorem qa5(k:Fl):(fc k).all (·.oneCell')=true:=by kernel_rfl
def noF:Fl:=⟨0,0,0,0,0,0,0,0,0,0⟩
theorem qa9(w:World):(zeroValue 48).run prog w=.ok (.agg (fc noF)) w:=by kernel_rfl
theorem qc3(x:Int)(b:Nat)(hb:63 &&& b=b)(hl:b<64)(r:Bool)(h:has x b=r)(w:World):Calls prog 131 #[.int .i64 x,.int .i64 (b:Int)] w fun e w'=>e=.returned (.bool r)/\w'=w:=by rw[←h];exact qz9 x b hb hl w
theorem qdg{k k':Fl}{x:Int}{i r:Bool}(h:qbi k x i=(k',r)):Ending.returned (.tuple #[.agg (fc k'),.bool r])=.returned (.tuple #[.agg (fc (qbi k x i).1),.bool (qbi k x i).2]):=by rw[h]
theorem Row.drew{t:TypeId}{w:World}{b:Nat}{cs:Array Value}(h:Row t w b cs):Row t w.drew b cs:=h
theorem qbv{B:Nat}{w0 w:World}(h:Below B w0 w):Below B w0 w.drew:=⟨h.os,h.tape,h.output,h.size,h.block⟩
theorem sZvt26{p:Prop}(h:p:=by
 simp only[ZZ]
 refine AN ?_
 replace R3:=R3.drew;replace R6:=R6.drew;replace hB:=qbv hB
 go_wp2_with (first|(refine qag 48 rfl _ rfl _ rfl ?_;intro b3 w1 l3 R3 hb1;replace l3:=Nat.le_trans hB.size l3;replace hB:=hB.trans (hb1.mono hB.size))|(refine qaf 6 48 rfl rfl rfl _ qa9 ?_;intro b6 w2 l6 R6 hb2;have n36:=R3.ne l6;replace l6:=Nat.le_trans hB.size l6;replace R3:=R3.below hb2;replace hB:=hB.trans (hb2.mono hB.size))|(refine qae R3 _ rfl rfl _ rfl _ rfl ?_)|(refine qac 48 (.tmp 3) rfl rfl b3 rfl (fc k) R3 _ underlying48 rfl (qal _) ?_)|(refine qab 48 rfl (.tmp 6) _ rfl b6 rfl (fc k) rfl _ R6 rfl (qal _) (qa5 _) ?_;intro w6 R6 t6;replace R3:=t6.row R3 n36;replace hB:=t6.below _ _ l6 hB)|(go_at_call 131;go_fit (C4 _);rintro e w' ⟨rfl,hw⟩;rw[hw];clear hw w')|(go_at_call 131;go_fit (C1 _);rintro e w' ⟨rfl,hw⟩;rw[hw];clear hw w'))
 ((try simp only[Exit.inBlock,Exit.then]);refine bodyPost_ret (qbf (p:=6) (u:=7) rfl _ _ _ _ rfl R6 _ underlying48 rfl (qal _)) rfl ⟨qdg H.out,hB⟩)):p:=h
theorem sZvt22{p:Prop}(h:p:=by
 go_enter func185,ntmps185
 go_wp2_with (first|(refine qag 48 rfl _ rfl _ rfl ?_;intro b3 w1 l3 R3 hb1;replace l3:=Nat.le_trans hB.size l3;replace hB:=hB.trans (hb1.mono hB.size))|(refine qaf 6 48 rfl rfl rfl _ qa9 ?_;intro b6 w2 l6 R6 hb2;have n36:=R3.ne l6;replace l6:=Nat.le_trans hB.size l6;replace R3:=R3.below hb2;replace hB:=hB.trans (hb2.mono hB.size))|(refine qae R3 _ rfl rfl _ rfl _ rfl ?_)|(refine qac 48 (.tmp 3) rfl rfl b3 rfl (fc k) R3 _ underlying48 rfl (qal _) ?_)|(refine qab 48 rfl (.tmp 6) _ rfl b6 rfl (fc k) rfl _ R6 rfl (qal _) (qa5 _) ?_;intro w6 R6 t6;replace R3:=t6.row R3 n36;replace hB:=t6.below _ _ l6 hB)|(go_at_call 131;go_fit (C4 _);rintro e w' ⟨rfl,hw⟩;rw[hw];clear hw w')|(go_at_call 131;go_fit (C1 _);rintro e w' ⟨rfl,hw⟩;rw[hw];clear hw w'))
 refine RD (fun W=>Row 48 W b3 (fc k)) R3 (fun _=>?_)
 refine tq 0 (.pointer (some ⟨b3,7,none⟩)) rfl R3 ?_
 simp only[ZZ]
 refine tk 1 (.int .i64 k.st) rfl (Or.inl ⟨by kernel_rfl,by intro w hS;have hc:=(hS.cell 7).trans (show(fc k)[7]?=some (.int .i64 k.st) from rfl);go_simp⟩) R3 ?_
 simp only[ZZ]
 refine tq 2 (.bool true) rfl R3 ?_
 simp only[ZZ]
 refine AR [3] ?_
 refine AllReadyH.cons rfl (fun K hK=>?_) ?_
 ·go_simp
  go_at_call 204;refine(qct true _).mono ?_;rintro e w5 ⟨rfl,hw⟩;rw[hw];clear hw w5
  go_wp2_with fail
  refine hK.out _ _ R3 (fun _=>?_)
  clear hK K
  try simp only[ZZ]
  refine tq 4 (.int .i64 k.st) rfl R3 ?_
  simp only[ZZ]
  refine tq 5 (.int .i64 (qcf true)) rfl R3 ?_
  exact sZvt26
 exact AZ):p:=h
theorem sZvt23{p:Prop}(h:p:=by
 simp only[ZZ]
 refine AN ?_
 replace R3:=R3.drew;replace R6:=R6.drew;replace hB:=qbv hB
 go_wp2_with (first|(refine qag 48 rfl _ rfl _ rfl ?_;intro b3 w1 l3 R3 hb1;replace l3:=Nat.le_trans hB.size l3;replace hB:=hB.trans (hb1.mono hB.size))|(refine qaf 6 48 rfl rfl rfl _ qa9 ?_;intro b6 w2 l6 R6 hb2;have n36:=R3.ne l6;replace l6:=Nat.le_trans hB.size l6;replace R3:=R3.below hb2;replace hB:=hB.trans (hb2.mono hB.size))|(refine qae R3 _ rfl rfl _ rfl _ rfl ?_)|(refine qbb R3 rfl _ _ rfl _ rfl _ rfl _ rfl (fc { k with st:=4 }) rfl ?_;intro w4 R3 t4;replace R6:=t4.row R6 n36.symm;replace hB:=t4.below _ _ l3 hB)|(refine qac 48 (.tmp 3) rfl rfl b3 rfl (fc { k with st:=4 }) R3 _ underlying48 rfl (qal _) ?_)|(refine qab 48 rfl (.tmp 6) _ rfl b6 rfl (fc { k with st:=4 }) rfl _ R6 rfl (qal _) (qa5 _) ?_;intro w6 R6 t6;replace R3:=t6.row R3 n36;replace hB:=t6.below _ _ l6 hB)|(go_at_call 131;go_fit (C4 _);rintro e w' ⟨rfl,hw⟩;rw[hw];clear hw w')|(go_at_call 131;go_fit (C1 _);rintro e w' ⟨rfl,hw⟩;rw[hw];clear hw w'))
 ((try simp only[Exit.inBlock,Exit.then]);refine bodyPost_ret (qbf (p:=6) (u:=7) rfl _ _ _ _ rfl R6 _ underlying48 rfl (qal _)) rfl ⟨qdg H.out,hB⟩)):p:=h
theorem sZvt28{p:Prop}(h:p:=by
 simp only[ZZ]
 refine AN ?_
 go_wp2
 ((try simp only[Exit.inBlock,Exit.then]);refine bodyPost_ret (qbf (p:=6) (u:=7) rfl _ _ _ _ rfl R6 _ underlying48 rfl (qal _)) rfl ⟨qdg H.out,hB⟩)):p:=h
theorem sZvt24{p:Prop}(h:p:=by
 refine hK.out _ _ R3 (fun _=>?_)
 clear hK K
 try simp only[ZZ]
 refine tq 6 (.bool false) rfl R3 ?_
 simp only[ZZ]
 refine AR [7] ?_
 refine AllReadyH.cons rfl (fun K hK=>?_) ?_
 ·rw[if_pos kr]
  refine qau 48 (.tmp 6) (.tmp 62) rfl b6 rfl (fc k) rfl _ R6 rfl (qal _) (qa5 _) ?_;intro w10 R6 t10;(first|replace R3:=t10.row R3 n36|replace R3:=t10.row R3.drew n36);(first|replace hB:=t10.below _ _ l6 hB|replace hB:=t10.below _ _ l6 (qbv hB))
  refine hK.out _ _ R3 (fun _=>?_)
  clear hK K
  try simp only[ZZ]
  refine tq 8 (.bool false) rfl R3 ?_
  exact sZvt28
 exact AZ):p:=h
theorem sZvt25{p:Prop}(h:p:=by
 simp only[ZZ]
 refine AN ?_
 replace R3:=R3.drew;replace R6:=R6.drew;replace hB:=qbv hB
 go_wp2_with (first|(refine qag 48 rfl _ rfl _ rfl ?_;intro b3 w1 l3 R3 hb1;replace l3:=Nat.le_trans hB.size l3;replace hB:=hB.trans (hb1.mono hB.size))|(refine qaf 6 48 rfl rfl rfl _ qa9 ?_;intro b6 w2 l6 R6 hb2;have n36:=R3.ne l6;replace l6:=Nat.le_trans hB.size l6;replace R3:=R3.below hb2;replace hB:=hB.trans (hb2.mono hB.size))|(refine qae R3 _ rfl rfl _ rfl _ rfl ?_)|(refine qbb R3 rfl _ _ rfl _ rfl _ rfl _ rfl (fc { k with st:=4 }) rfl ?_;intro w4 R3 t4;replace R6:=t4.row R6 n36.symm;replace hB:=t4.below _ _ l3 hB)|(refine qac 48 (.tmp 3) rfl rfl b3 rfl (fc { k with st:=4 }) R3 _ underlying48 rfl (qal _) ?_)|(refine qab 48 rfl (.tmp 6) _ rfl b6 rfl (fc { k with st:=4 }) rfl _ R6 rfl (qal _) (qa5 _) ?_;intro w6 R6 t6;replace R3:=t6.row R3 n36;replace hB:=t6.below _ _ l6 hB)|(go_at_call 131;go_fit (C4 _);rintro e w' ⟨rfl,hw⟩;rw[hw];clear hw w'))
 ((try simp only[Exit.inBlock,Exit.then]);refine bodyPost_ret (qbf (p:=6) (u:=7) rfl _ _ _ _ rfl R6 _ underlying48 rfl (qal _)) rfl ⟨qdg H.out,hB⟩)):p:=h
theorem sZvt27{p:Prop}(h:p:=by
 simp only[ZZ]
 refine AN ?_
 replace R3:=R3.drew;replace R6:=R6.drew;replace hB:=qbv hB
 go_wp2_with (first|(refine qag 48 rfl _ rfl _ rfl ?_;intro b3 w1 l3 R3 hb1;replace l3:=Nat.le_trans hB.size l3;replace hB:=hB.trans (hb1.mono hB.size))|(refine qaf 6 48 rfl rfl rfl _ qa9 ?_;intro b6 w2 l6 R6 hb2;have n36:=R3.ne l6;replace l6:=Nat.le_trans hB.size l6;replace R3:=R3.below hb2;replace hB:=hB.trans (hb2.mono hB.size))|(refine qae R3 _ rfl rfl _ rfl _ rfl ?_)|(refine qac 48 (.tmp 3) rfl rfl b3 rfl (fc k) R3 _ underlying48 rfl (qal _) ?_)|(refine qab 48 rfl (.tmp 6) _ rfl b6 rfl (fc k) rfl _ R6 rfl (qal _) (qa5 _) ?_;intro w6 R6 t6;replace R3:=t6.row R3 n36;replace hB:=t6.below _ _ l6 hB)|(go_at_call 131;go_fit (C4 _);rintro e w' ⟨rfl,hw⟩;rw[hw];clear hw w'))
 ((try simp only[Exit.inBlock,Exit.then]);refine bodyPost_ret (qbf (p:=6) (u:=7) rfl _ _ _ _ rfl R6 _ underlying48 rfl (qal _)) rfl ⟨qdg H.out,hB⟩)):p:=h
theorem quk(k:Fl)(x:Int)(w:World):Calls prog 185 #[.agg (fc k),.int .i64 x,.bool true] w fun e w'=>e=.returned (.tuple #[.agg (fc (qbi k x true).1),.bool (qbi k x true).2])/\Below w.heap.size w w':=by
 have hB:=Below.refl w.heap.size w
 cases h4:has x 4 with
 | true=>
  have C4:=fun w=>qc3 x 4 (by decide) (by decide) _ h4 w
  have H:Hid (qbi k x true=({ k with st:=4 },k.st != 4)):=by show qbi k x true=({ k with st:=4 },k.st != 4);simp[qbi,h4]
  clear h4
  go_enter func185,ntmps185
  go_wp2_with (first|(refine qag 48 rfl _ rfl _ rfl ?_;intro b3 w1 l3 R3 hb1;replace l3:=Nat.le_trans hB.size l3;replace hB:=hB.trans (hb1.mono hB.size))|(refine qaf 6 48 rfl rfl rfl _ qa9 ?_;intro b6 w2 l6 R6 hb2;have n36:=R3.ne l6;replace l6:=Nat.le_trans hB.size l6;replace R3:=R3.below hb2;replace hB:=hB.trans (hb2.mono hB.size))|(refine qae R3 _ rfl rfl _ rfl _ rfl ?_)|(refine qbb R3 rfl _ _ rfl _ rfl _ rfl _ rfl (fc { k with st:=4 }) rfl ?_;intro w4 R3 t4;replace R6:=t4.row R6 n36.symm;replace hB:=t4.below _ _ l3 hB)|(refine qac 48 (.tmp 3) rfl rfl b3 rfl (fc { k with st:=4 }) R3 _ underlying48 rfl (qal _) ?_)|(refine qab 48 rfl (.tmp 6) _ rfl b6 rfl (fc { k with st:=4 }) rfl _ R6 rfl (qal _) (qa5 _) ?_;intro w6 R6 t6;replace R3:=t6.row R3 n36;replace hB:=t6.below _ _ l6 hB)|(go_at_call 131;go_fit (C4 _);rintro e w' ⟨rfl,hw⟩;rw[hw];clear hw w'))
  refine RD (fun W=>Row 48 W b3 (fc k)) R3 (fun _=>?_)
  refine tq 0 (.pointer (some ⟨b3,7,none⟩)) rfl R3 ?_
  simp only[ZZ]
  refine tk 1 (.int .i64 k.st) rfl (Or.inl ⟨by kernel_rfl,by intro w hS;have hc:=(hS.cell 7).trans (show(fc k)[7]?=some (.int .i64 k.st) from rfl);go_simp⟩) R3 ?_
  simp only[ZZ]
  refine tq 2 (.bool true) rfl R3 ?_
  simp only[ZZ]
  refine AR [3] ?_
  refine AllReadyH.cons rfl (fun K hK=>?_) ?_
  ·go_simp
   go_at_call 204;refine(qct true _).mono ?_;rintro e w5 ⟨rfl,hw⟩;rw[hw];clear hw w5
   go_wp2_with fail
   refine hK.out _ _ R3 (fun _=>?_)
   clear hK K
   try simp only[ZZ]
   refine tq 4 (.int .i64 k.st) rfl R3 ?_
   simp only[ZZ]
   refine tq 5 (.int .i64 (qcf true)) rfl R3 ?_
   exact sZvt25
  exact AZ
 | false=>
  have C4:=fun w=>qc3 x 4 (by decide) (by decide) _ h4 w
  by_cases e1:k.st=1
  ·have s1:(k.st==1)=true:=by simp[e1]
   have s2:(k.st==2)=false:=by simp[e1]
   have s3:(k.st==3)=false:=by simp[e1]
   cases h18:has x 18 with
   | true=>
    have C18:=fun w=>qc3 x 18 (by decide) (by decide) _ h18 w
    have H:Hid (qbi k x true=({ k with st:=2 },true)):=by show qbi k x true=({ k with st:=2 },true);simp[qbi,h4,h18,e1]
    clear h4 h18 e1
    go_enter func185,ntmps185
    go_wp2_with (first|(refine qag 48 rfl _ rfl _ rfl ?_;intro b3 w1 l3 R3 hb1;replace l3:=Nat.le_trans hB.size l3;replace hB:=hB.trans (hb1.mono hB.size))|(refine qaf 6 48 rfl rfl rfl _ qa9 ?_;intro b6 w2 l6 R6 hb2;have n36:=R3.ne l6;replace l6:=Nat.le_trans hB.size l6;replace R3:=R3.below hb2;replace hB:=hB.trans (hb2.mono hB.size))|(refine qae R3 _ rfl rfl _ rfl _ rfl ?_)|(refine qbb R3 rfl _ _ rfl _ rfl _ rfl _ rfl (fc { k with st:=2 }) rfl ?_;intro w4 R3 t4;replace R6:=t4.row R6 n36.symm;replace hB:=t4.below _ _ l3 hB)|(refine qac 48 (.tmp 3) rfl rfl b3 rfl (fc { k with st:=2 }) R3 _ underlying48 rfl (qal _) ?_)|(refine qab 48 rfl (.tmp 6) _ rfl b6 rfl (fc { k with st:=2 }) rfl _ R6 rfl (qal _) (qa5 _) ?_;intro w6 R6 t6;replace R3:=t6.row R3 n36;replace hB:=t6.below _ _ l6 hB)|(go_at_call 131;go_fit (C4 _);rintro e w' ⟨rfl,hw⟩;rw[hw];clear hw w')|(go_at_call 131;go_fit (C18 _);rintro e w' ⟨rfl,hw⟩;rw[hw];clear hw w'))
    refine RD (fun W=>Row 48 W b3 (fc k)) R3 (fun _=>?_)
    refine tq 0 (.pointer (some ⟨b3,7,none⟩)) rfl R3 ?_
    simp only[ZZ]
    refine tk 1 (.int .i64 k.st) rfl (Or.inl ⟨by kernel_rfl,by intro w hS;have hc:=(hS.cell 7).trans (show(fc k)[7]?=some (.int .i64 k.st) from rfl);go_simp⟩) R3 ?_
    simp only[ZZ]
    refine tq 2 (.bool true) rfl R3 ?_
    simp only[ZZ]
    refine AR [3] ?_
    refine AllReadyH.cons rfl (fun K hK=>?_) ?_
    ·go_simp
     go_at_call 204;refine(qct true _).mono ?_;rintro e w5 ⟨rfl,hw⟩;rw[hw];clear hw w5
     go_wp2_with fail
     refine hK.out _ _ R3 (fun _=>?_)
     clear hK K
     try simp only[ZZ]
     refine tq 4 (.int .i64 k.st) rfl R3 ?_
     simp only[ZZ]
     refine tq 5 (.int .i64 (qcf true)) rfl R3 ?_
     simp only[ZZ]
     refine AN ?_
     replace R3:=R3.drew;replace R6:=R6.drew;replace hB:=qbv hB
     go_wp2_with (first|(refine qag 48 rfl _ rfl _ rfl ?_;intro b3 w1 l3 R3 hb1;replace l3:=Nat.le_trans hB.size l3;replace hB:=hB.trans (hb1.mono hB.size))|(refine qaf 6 48 rfl rfl rfl _ qa9 ?_;intro b6 w2 l6 R6 hb2;have n36:=R3.ne l6;replace l6:=Nat.le_trans hB.size l6;replace R3:=R3.below hb2;replace hB:=hB.trans (hb2.mono hB.size))|(refine qae R3 _ rfl rfl _ rfl _ rfl ?_)|(refine qbb R3 rfl _ _ rfl _ rfl _ rfl _ rfl (fc { k with st:=2 }) rfl ?_;intro w4 R3 t4;replace R6:=t4.row R6 n36.symm;replace hB:=t4.below _ _ l3 hB)|(refine qac 48 (.tmp 3) rfl rfl b3 rfl (fc { k with st:=2 }) R3 _ underlying48 rfl (qal _) ?_)|(refine qab 48 rfl (.tmp 6) _ rfl b6 rfl (fc { k with st:=2 }) rfl _ R6 rfl (qal _) (qa5 _) ?_;intro w6 R6 t6;replace R3:=t6.row R3 n36;replace hB:=t6.below _ _ l6 hB)|(go_at_call 131;go_fit (C4 _);rintro e w' ⟨rfl,hw⟩;rw[hw];clear hw w')|(go_at_call 131;go_fit (C18 _);rintro e w' ⟨rfl,hw⟩;rw[hw];clear hw w'))
     ((try simp only[Exit.inBlock,Exit.then]);refine bodyPost_ret (qbf (p:=6) (u:=7) rfl _ _ _ _ rfl R6 _ underlying48 rfl (qal _)) rfl ⟨qdg H.out,hB⟩)
    exact AZ
   | false=>
    have C18:=fun w=>qc3 x 18 (by decide) (by decide) _ h18 w
    have H:Hid (qbi k x true=(k,false)):=by show qbi k x true=(k,false);simp[qbi,h4,h18,e1]
    clear h4 h18 e1
    go_enter func185,ntmps185
    go_wp2_with (first|(refine qag 48 rfl _ rfl _ rfl ?_;intro b3 w1 l3 R3 hb1;replace l3:=Nat.le_trans hB.size l3;replace hB:=hB.trans (hb1.mono hB.size))|(refine qaf 6 48 rfl rfl rfl _ qa9 ?_;intro b6 w2 l6 R6 hb2;have n36:=R3.ne l6;replace l6:=Nat.le_trans hB.size l6;replace R3:=R3.below hb2;replace hB:=hB.trans (hb2.mono hB.size))|(refine qae R3 _ rfl rfl _ rfl _ rfl ?_)|(refine qac 48 (.tmp 3) rfl rfl b3 rfl (fc k) R3 _ underlying48 rfl (qal _) ?_)|(refine qab 48 rfl (.tmp 6) _ rfl b6 rfl (fc k) rfl _ R6 rfl (qal _) (qa5 _) ?_;intro w6 R6 t6;replace R3:=t6.row R3 n36;replace hB:=t6.below _ _ l6 hB)|(go_at_call 131;go_fit (C4 _);rintro e w' ⟨rfl,hw⟩;rw[hw];clear hw w')|(go_at_call 131;go_fit (C18 _);rintro e w' ⟨rfl,hw⟩;rw[hw];clear hw w'))
    refine RD (fun W=>Row 48 W b3 (fc k)) R3 (fun _=>?_)
    refine tq 0 (.pointer (some ⟨b3,7,none⟩)) rfl R3 ?_
    simp only[ZZ]
    refine tk 1 (.int .i64 k.st) rfl (Or.inl ⟨by kernel_rfl,by intro w hS;have hc:=(hS.cell 7).trans (show(fc k)[7]?=some (.int .i64 k.st) from rfl);go_simp⟩) R3 ?_
    simp only[ZZ]
    refine tq 2 (.bool true) rfl R3 ?_
    simp only[ZZ]
    refine AR [3] ?_
    refine AllReadyH.cons rfl (fun K hK=>?_) ?_
    ·go_simp
     go_at_call 204;refine(qct true _).mono ?_;rintro e w5 ⟨rfl,hw⟩;rw[hw];clear hw w5
     go_wp2_with fail
     refine hK.out _ _ R3 (fun _=>?_)
     clear hK K
     try simp only[ZZ]
     refine tq 4 (.int .i64 k.st) rfl R3 ?_
     simp only[ZZ]
     refine tq 5 (.int .i64 (qcf true)) rfl R3 ?_
     simp only[ZZ]
     refine AN ?_
     replace R3:=R3.drew;replace R6:=R6.drew;replace hB:=qbv hB
     go_wp2_with (first|(refine qag 48 rfl _ rfl _ rfl ?_;intro b3 w1 l3 R3 hb1;replace l3:=Nat.le_trans hB.size l3;replace hB:=hB.trans (hb1.mono hB.size))|(refine qaf 6 48 rfl rfl rfl _ qa9 ?_;intro b6 w2 l6 R6 hb2;have n36:=R3.ne l6;replace l6:=Nat.le_trans hB.size l6;replace R3:=R3.below hb2;replace hB:=hB.trans (hb2.mono hB.size))|(refine qae R3 _ rfl rfl _ rfl _ rfl ?_)|(refine qac 48 (.tmp 3) rfl rfl b3 rfl (fc k) R3 _ underlying48 rfl (qal _) ?_)|(refine qab 48 rfl (.tmp 6) _ rfl b6 rfl (fc k) rfl _ R6 rfl (qal _) (qa5 _) ?_;intro w6 R6 t6;replace R3:=t6.row R3 n36;replace hB:=t6.below _ _ l6 hB)|(go_at_call 131;go_fit (C4 _);rintro e w' ⟨rfl,hw⟩;rw[hw];clear hw w')|(go_at_call 131;go_fit (C18 _);rintro e w' ⟨rfl,hw⟩;rw[hw];clear hw w'))
     refine RD (fun W=>Row 48 W b3 (fc k)) R3 (fun _=>?_)
     refine tk 0 (.agg (fc k)) rfl (qav 48 (.tmp 3) rfl kr b3 kr (fc k) (fun _ h=>h) _ underlying48 rfl (qal _)) R3 ?_
     simp only[ZZ]
     refine tq 1 (.bool true) rfl R3 ?_
     simp only[ZZ]
     refine tq 2 (.bool false) rfl R3 ?_
     simp only[ZZ]
     refine tq 3 (.bool false) rfl R3 ?_
     simp only[ZZ]
     refine tk 4 undef rfl (Or.inr ⟨by kernel_rfl,rfl⟩) R3 ?_
     simp only[ZZ]
     refine AR [5] ?_
     refine AllReadyH.cons rfl (fun K hK=>?_) ?_
     ·rw[if_neg (ne_true_of_eq_false kr)]
      exact sZvt24
     exact AZ
    exact AZ
  ·have s1:(k.st==1)=false:=by simp[e1]
   by_cases e2:k.st=2
   ·have s2:(k.st==2)=true:=by simp[e2]
    have s3:(k.st==3)=false:=by simp[e2]
    cases h1:has x 1 with
    | true=>
     have C1:=fun w=>qc3 x 1 (by decide) (by decide) _ h1 w
     have H:Hid (qbi k x true=({ k with st:=3,sd:=qcf true },true)):=by show qbi k x true=({ k with st:=3,sd:=qcf true },true);simp[qbi,h4,h1,e2]
     clear h4 h1 e1 e2
     go_enter func185,ntmps185
     go_wp2_with (first|(refine qag 48 rfl _ rfl _ rfl ?_;intro b3 w1 l3 R3 hb1;replace l3:=Nat.le_trans hB.size l3;replace hB:=hB.trans (hb1.mono hB.size))|(refine qaf 6 48 rfl rfl rfl _ qa9 ?_;intro b6 w2 l6 R6 hb2;have n36:=R3.ne l6;replace l6:=Nat.le_trans hB.size l6;replace R3:=R3.below hb2;replace hB:=hB.trans (hb2.mono hB.size))|(refine qae R3 _ rfl rfl _ rfl _ rfl ?_)|(refine qbb R3 rfl _ _ rfl _ rfl _ rfl _ rfl (fc { k with st:=3 }) rfl ?_;intro w4 R3 t4;replace R6:=t4.row R6 n36.symm;replace hB:=t4.below _ _ l3 hB)|(refine qbb R3 rfl _ _ rfl _ rfl _ rfl _ rfl (fc { k with st:=3,sd:=qcf true }) rfl ?_;intro w4 R3 t4;replace R6:=t4.row R6 n36.symm;replace hB:=t4.below _ _ l3 hB)|(refine qac 48 (.tmp 3) rfl rfl b3 rfl (fc { k with st:=3,sd:=qcf true }) R3 _ underlying48 rfl (qal _) ?_)|(refine qab 48 rfl (.tmp 6) _ rfl b6 rfl (fc { k with st:=3,sd:=qcf true }) rfl _ R6 rfl (qal _) (qa5 _) ?_;intro w6 R6 t6;replace R3:=t6.row R3 n36;replace hB:=t6.below _ _ l6 hB)|(go_at_call 131;go_fit (C4 _);rintro e w' ⟨rfl,hw⟩;rw[hw];clear hw w')|(go_at_call 131;go_fit (C1 _);rintro e w' ⟨rfl,hw⟩;rw[hw];clear hw w'))
     refine RD (fun W=>Row 48 W b3 (fc k)) R3 (fun _=>?_)
     refine tq 0 (.pointer (some ⟨b3,7,none⟩)) rfl R3 ?_
     simp only[ZZ]
     refine tk 1 (.int .i64 k.st) rfl (Or.inl ⟨by kernel_rfl,by intro w hS;have hc:=(hS.cell 7).trans (show(fc k)[7]?=some (.int .i64 k.st) from rfl);go_simp⟩) R3 ?_
     simp only[ZZ]
     refine tq 2 (.bool true) rfl R3 ?_
     simp only[ZZ]
     refine AR [3] ?_
     refine AllReadyH.cons rfl (fun K hK=>?_) ?_
     ·go_simp
      go_at_call 204;refine(qct true _).mono ?_;rintro e w5 ⟨rfl,hw⟩;rw[hw];clear hw w5
      go_wp2_with fail
      refine hK.out _ _ R3 (fun _=>?_)
      clear hK K
      try simp only[ZZ]
      refine tq 4 (.int .i64 k.st) rfl R3 ?_
      simp only[ZZ]
      refine tq 5 (.int .i64 (qcf true)) rfl R3 ?_
      simp only[ZZ]
      refine AN ?_
      replace R3:=R3.drew;replace R6:=R6.drew;replace hB:=qbv hB
      go_wp2_with (first|(refine qag 48 rfl _ rfl _ rfl ?_;intro b3 w1 l3 R3 hb1;replace l3:=Nat.le_trans hB.size l3;replace hB:=hB.trans (hb1.mono hB.size))|(refine qaf 6 48 rfl rfl rfl _ qa9 ?_;intro b6 w2 l6 R6 hb2;have n36:=R3.ne l6;replace l6:=Nat.le_trans hB.size l6;replace R3:=R3.below hb2;replace hB:=hB.trans (hb2.mono hB.size))|(refine qae R3 _ rfl rfl _ rfl _ rfl ?_)|(refine qbb R3 rfl _ _ rfl _ rfl _ rfl _ rfl (fc { k with st:=3 }) rfl ?_;intro w4 R3 t4;replace R6:=t4.row R6 n36.symm;replace hB:=t4.below _ _ l3 hB)|(refine qbb R3 rfl _ _ rfl _ rfl _ rfl _ rfl (fc { k with st:=3,sd:=qcf true }) rfl ?_;intro w4 R3 t4;replace R6:=t4.row R6 n36.symm;replace hB:=t4.below _ _ l3 hB)|(refine qac 48 (.tmp 3) rfl rfl b3 rfl (fc { k with st:=3,sd:=qcf true }) R3 _ underlying48 rfl (qal _) ?_)|(refine qab 48 rfl (.tmp 6) _ rfl b6 rfl (fc { k with st:=3,sd:=qcf true }) rfl _ R6 rfl (qal _) (qa5 _) ?_;intro w6 R6 t6;replace R3:=t6.row R3 n36;replace hB:=t6.below _ _ l6 hB)|(go_at_call 131;go_fit (C4 _);rintro e w' ⟨rfl,hw⟩;rw[hw];clear hw w')|(go_at_call 131;go_fit (C1 _);rintro e w' ⟨rfl,hw⟩;rw[hw];clear hw w'))
      ((try simp only[Exit.inBlock,Exit.then]);refine bodyPost_ret (qbf (p:=6) (u:=7) rfl _ _ _ _ rfl R6 _ underlying48 rfl (qal _)) rfl ⟨qdg H.out,hB⟩)
     exact AZ
    | false=>
     have C1:=fun w=>qc3 x 1 (by decide) (by decide) _ h1 w
     have H:Hid (qbi k x true=(k,true)):=by show qbi k x true=(k,true);simp[qbi,h4,h1,e2]
     clear h4 h1 e1 e2
     exact sZvt22
   ·have s2:(k.st==2)=false:=by simp[e2]
    by_cases e3:k.st=3
    ·have s3:(k.st==3)=true:=by simp[e3]
     cases h1:has x 1 with
     | true=>
      have C1:=fun w=>qc3 x 1 (by decide) (by decide) _ h1 w
      by_cases e5:qcf true=k.sd
      ·have s5:(qcf true != k.sd)=false:=by simp[e5]
       have H:Hid (qbi k x true=(k,false)):=by show qbi k x true=(k,false);simp[qbi,h4,h1,e3,e5]
       clear h4 h1 e1 e2 e3 e5
       exact sZvt22
      ·have s5:(qcf true != k.sd)=true:=by simp[e5]
       have H:Hid (qbi k x true=({ k with st:=4 },true)):=by show qbi k x true=({ k with st:=4 },true);simp[qbi,h4,h1,e3,e5]
       clear h4 h1 e1 e2 e3 e5
       go_enter func185,ntmps185
       go_wp2_with (first|(refine qag 48 rfl _ rfl _ rfl ?_;intro b3 w1 l3 R3 hb1;replace l3:=Nat.le_trans hB.size l3;replace hB:=hB.trans (hb1.mono hB.size))|(refine qaf 6 48 rfl rfl rfl _ qa9 ?_;intro b6 w2 l6 R6 hb2;have n36:=R3.ne l6;replace l6:=Nat.le_trans hB.size l6;replace R3:=R3.below hb2;replace hB:=hB.trans (hb2.mono hB.size))|(refine qae R3 _ rfl rfl _ rfl _ rfl ?_)|(refine qbb R3 rfl _ _ rfl _ rfl _ rfl _ rfl (fc { k with st:=4 }) rfl ?_;intro w4 R3 t4;replace R6:=t4.row R6 n36.symm;replace hB:=t4.below _ _ l3 hB)|(refine qac 48 (.tmp 3) rfl rfl b3 rfl (fc { k with st:=4 }) R3 _ underlying48 rfl (qal _) ?_)|(refine qab 48 rfl (.tmp 6) _ rfl b6 rfl (fc { k with st:=4 }) rfl _ R6 rfl (qal _) (qa5 _) ?_;intro w6 R6 t6;replace R3:=t6.row R3 n36;replace hB:=t6.below _ _ l6 hB)|(go_at_call 131;go_fit (C4 _);rintro e w' ⟨rfl,hw⟩;rw[hw];clear hw w')|(go_at_call 131;go_fit (C1 _);rintro e w' ⟨rfl,hw⟩;rw[hw];clear hw w'))
       refine RD (fun W=>Row 48 W b3 (fc k)) R3 (fun _=>?_)
       refine tq 0 (.pointer (some ⟨b3,7,none⟩)) rfl R3 ?_
       simp only[ZZ]
       refine tk 1 (.int .i64 k.st) rfl (Or.inl ⟨by kernel_rfl,by intro w hS;have hc:=(hS.cell 7).trans (show(fc k)[7]?=some (.int .i64 k.st) from rfl);go_simp⟩) R3 ?_
       simp only[ZZ]
       refine tq 2 (.bool true) rfl R3 ?_
       simp only[ZZ]
       refine AR [3] ?_
       refine AllReadyH.cons rfl (fun K hK=>?_) ?_
       ·go_simp
        go_at_call 204;refine(qct true _).mono ?_;rintro e w5 ⟨rfl,hw⟩;rw[hw];clear hw w5
        go_wp2_with fail
        refine hK.out _ _ R3 (fun _=>?_)
        clear hK K
        try simp only[ZZ]
        refine tq 4 (.int .i64 k.st) rfl R3 ?_
        simp only[ZZ]
        refine tq 5 (.int .i64 (qcf true)) rfl R3 ?_
        exact sZvt23
       exact AZ
     | false=>
      have C1:=fun w=>qc3 x 1 (by decide) (by decide) _ h1 w
      have H:Hid (qbi k x true=(k,false)):=by show qbi k x true=(k,false);simp[qbi,h4,h1,e3]
      clear h4 h1 e1 e2 e3
      exact sZvt22
    ·have s3:(k.st==3)=false:=by simp[e3]
     have H:Hid (qbi k x true=(k,false)):=by show qbi k x true=(k,false);simp[qbi,h4,e1,e2,e3]
     clear h4 e1 e2 e3
     go_enter func185,ntmps185
     go_wp2_with (first|(refine qag 48 rfl _ rfl _ rfl ?_;intro b3 w1 l3 R3 hb1;replace l3:=Nat.le_trans hB.size l3;replace hB:=hB.trans (hb1.mono hB.size))|(refine qaf 6 48 rfl rfl rfl _ qa9 ?_;intro b6 w2 l6 R6 hb2;have n36:=R3.ne l6;replace l6:=Nat.le_trans hB.size l6;replace R3:=R3.below hb2;replace hB:=hB.trans (hb2.mono hB.size))|(refine qae R3 _ rfl rfl _ rfl _ rfl ?_)|(refine qac 48 (.tmp 3) rfl rfl b3 rfl (fc k) R3 _ underlying48 rfl (qal _) ?_)|(refine qab 48 rfl (.tmp 6) _ rfl b6 rfl (fc k) rfl _ R6 rfl (qal _) (qa5 _) ?_;intro w6 R6 t6;replace R3:=t6.row R3 n36;replace hB:=t6.below _ _ l6 hB)|(go_at_call 131;go_fit (C4 _);rintro e w' ⟨rfl,hw⟩;rw[hw];clear hw w'))
     refine RD (fun W=>Row 48 W b3 (fc k)) R3 (fun _=>?_)
     refine tq 0 (.pointer (some ⟨b3,7,none⟩)) rfl R3 ?_
     simp only[ZZ]
     refine tk 1 (.int .i64 k.st) rfl (Or.inl ⟨by kernel_rfl,by intro w hS;have hc:=(hS.cell 7).trans (show(fc k)[7]?=some (.int .i64 k.st) from rfl);go_simp⟩) R3 ?_
     simp only[ZZ]
     refine tq 2 (.bool true) rfl R3 ?_
     simp only[ZZ]
     refine AR [3] ?_
     refine AllReadyH.cons rfl (fun K hK=>?_) ?_
     ·go_simp
      go_at_call 204;refine(qct true _).mono ?_;rintro e w5 ⟨rfl,hw⟩;rw[hw];clear hw w5
      go_wp2_with fail
      refine hK.out _ _ R3 (fun _=>?_)
      clear hK K
      try simp only[ZZ]
      refine tq 4 (.int .i64 k.st) rfl R3 ?_
      simp only[ZZ]
      refine tq 5 (.int .i64 (qcf true)) rfl R3 ?_
      exact sZvt27
     exact AZ
theorem sZvt21{p:Prop}(h:p:=by
 go_enter func185,ntmps185
 go_wp2_with (first|(refine qag 48 rfl _ rfl _ rfl ?_;intro b3 w1 l3 R3 hb1;replace l3:=Nat.le_trans hB.size l3;replace hB:=hB.trans (hb1.mono hB.size))|(refine qaf 6 48 rfl rfl rfl _ qa9 ?_;intro b6 w2 l6 R6 hb2;have n36:=R3.ne l6;replace l6:=Nat.le_trans hB.size l6;replace R3:=R3.below hb2;replace hB:=hB.trans (hb2.mono hB.size))|(refine qae R3 _ rfl rfl _ rfl _ rfl ?_)|(refine qac 48 (.tmp 3) rfl rfl b3 rfl (fc k) R3 _ underlying48 rfl (qal _) ?_)|(refine qab 48 rfl (.tmp 6) _ rfl b6 rfl (fc k) rfl _ R6 rfl (qal _) (qa5 _) ?_;intro w6 R6 t6;replace R3:=t6.row R3 n36;replace hB:=t6.below _ _ l6 hB)|(go_at_call 131;go_fit (C4 _);rintro e w' ⟨rfl,hw⟩;rw[hw];clear hw w')|(go_at_call 131;go_fit (C1 _);rintro e w' ⟨rfl,hw⟩;rw[hw];clear hw w'))
 refine RD (fun W=>Row 48 W b3 (fc k)) R3 (fun _=>?_)
 refine tq 0 (.pointer (some ⟨b3,7,none⟩)) rfl R3 ?_
 simp only[ZZ]
 refine tk 1 (.int .i64 k.st) rfl (Or.inl ⟨by kernel_rfl,by intro w hS;have hc:=(hS.cell 7).trans (show(fc k)[7]?=some (.int .i64 k.st) from rfl);go_simp⟩) R3 ?_
 simp only[ZZ]
 refine tq 2 (.bool false) rfl R3 ?_
 simp only[ZZ]
 refine AR [3] ?_
 refine AllReadyH.cons rfl (fun K hK=>?_) ?_
 ·go_simp
  go_at_call 204;refine(qct false _).mono ?_;rintro e w5 ⟨rfl,hw⟩;rw[hw];clear hw w5
  go_wp2_with fail
  refine hK.out _ _ R3 (fun _=>?_)
  clear hK K
  try simp only[ZZ]
  refine tq 4 (.int .i64 k.st) rfl R3 ?_
  simp only[ZZ]
  refine tq 5 (.int .i64 (qcf false)) rfl R3 ?_
  exact sZvt26
 exact AZ):p:=h
theorem qub(k:Fl)(x:Int)(w:World):Calls prog 185 #[.agg (fc k),.int .i64 x,.bool false] w fun e w'=>e=.returned (.tuple #[.agg (fc (qbi k x false).1),.bool (qbi k x false).2])/\Below w.heap.size w w':=by
 have hB:=Below.refl w.heap.size w
 cases h4:has x 4 with
 | true=>
  have C4:=fun w=>qc3 x 4 (by decide) (by decide) _ h4 w
  have H:Hid (qbi k x false=({ k with st:=4 },k.st != 4)):=by show qbi k x false=({ k with st:=4 },k.st != 4);simp[qbi,h4]
  clear h4
  go_enter func185,ntmps185
  go_wp2_with (first|(refine qag 48 rfl _ rfl _ rfl ?_;intro b3 w1 l3 R3 hb1;replace l3:=Nat.le_trans hB.size l3;replace hB:=hB.trans (hb1.mono hB.size))|(refine qaf 6 48 rfl rfl rfl _ qa9 ?_;intro b6 w2 l6 R6 hb2;have n36:=R3.ne l6;replace l6:=Nat.le_trans hB.size l6;replace R3:=R3.below hb2;replace hB:=hB.trans (hb2.mono hB.size))|(refine qae R3 _ rfl rfl _ rfl _ rfl ?_)|(refine qbb R3 rfl _ _ rfl _ rfl _ rfl _ rfl (fc { k with st:=4 }) rfl ?_;intro w4 R3 t4;replace R6:=t4.row R6 n36.symm;replace hB:=t4.below _ _ l3 hB)|(refine qac 48 (.tmp 3) rfl rfl b3 rfl (fc { k with st:=4 }) R3 _ underlying48 rfl (qal _) ?_)|(refine qab 48 rfl (.tmp 6) _ rfl b6 rfl (fc { k with st:=4 }) rfl _ R6 rfl (qal _) (qa5 _) ?_;intro w6 R6 t6;replace R3:=t6.row R3 n36;replace hB:=t6.below _ _ l6 hB)|(go_at_call 131;go_fit (C4 _);rintro e w' ⟨rfl,hw⟩;rw[hw];clear hw w'))
  refine RD (fun W=>Row 48 W b3 (fc k)) R3 (fun _=>?_)
  refine tq 0 (.pointer (some ⟨b3,7,none⟩)) rfl R3 ?_
  simp only[ZZ]
  refine tk 1 (.int .i64 k.st) rfl (Or.inl ⟨by kernel_rfl,by intro w hS;have hc:=(hS.cell 7).trans (show(fc k)[7]?=some (.int .i64 k.st) from rfl);go_simp⟩) R3 ?_
  simp only[ZZ]
  refine tq 2 (.bool false) rfl R3 ?_
  simp only[ZZ]
  refine AR [3] ?_
  refine AllReadyH.cons rfl (fun K hK=>?_) ?_
  ·go_simp
   go_at_call 204;refine(qct false _).mono ?_;rintro e w5 ⟨rfl,hw⟩;rw[hw];clear hw w5
   go_wp2_with fail
   refine hK.out _ _ R3 (fun _=>?_)
   clear hK K
   try simp only[ZZ]
   refine tq 4 (.int .i64 k.st) rfl R3 ?_
   simp only[ZZ]
   refine tq 5 (.int .i64 (qcf false)) rfl R3 ?_
   exact sZvt25
  exact AZ
 | false=>
  have C4:=fun w=>qc3 x 4 (by decide) (by decide) _ h4 w
  by_cases e1:k.st=1
  ·have s1:(k.st==1)=true:=by simp[e1]
   have s2:(k.st==2)=false:=by simp[e1]
   have s3:(k.st==3)=false:=by simp[e1]
   cases h2:has x 2 with
   | true=>
    have C2:=fun w=>qc3 x 2 (by decide) (by decide) _ h2 w
    have H:Hid (qbi k x false=(k,true)):=by show qbi k x false=(k,true);simp[qbi,h4,h2,e1]
    clear h4 h2 e1
    go_enter func185,ntmps185
    go_wp2_with (first|(refine qag 48 rfl _ rfl _ rfl ?_;intro b3 w1 l3 R3 hb1;replace l3:=Nat.le_trans hB.size l3;replace hB:=hB.trans (hb1.mono hB.size))|(refine qaf 6 48 rfl rfl rfl _ qa9 ?_;intro b6 w2 l6 R6 hb2;have n36:=R3.ne l6;replace l6:=Nat.le_trans hB.size l6;replace R3:=R3.below hb2;replace hB:=hB.trans (hb2.mono hB.size))|(refine qae R3 _ rfl rfl _ rfl _ rfl ?_)|(refine qac 48 (.tmp 3) rfl rfl b3 rfl (fc k) R3 _ underlying48 rfl (qal _) ?_)|(refine qab 48 rfl (.tmp 6) _ rfl b6 rfl (fc k) rfl _ R6 rfl (qal _) (qa5 _) ?_;intro w6 R6 t6;replace R3:=t6.row R3 n36;replace hB:=t6.below _ _ l6 hB)|(go_at_call 131;go_fit (C4 _);rintro e w' ⟨rfl,hw⟩;rw[hw];clear hw w'))
    refine RD (fun W=>Row 48 W b3 (fc k)) R3 (fun _=>?_)
    refine tq 0 (.pointer (some ⟨b3,7,none⟩)) rfl R3 ?_
    simp only[ZZ]
    refine tk 1 (.int .i64 k.st) rfl (Or.inl ⟨by kernel_rfl,by intro w hS;have hc:=(hS.cell 7).trans (show(fc k)[7]?=some (.int .i64 k.st) from rfl);go_simp⟩) R3 ?_
    simp only[ZZ]
    refine tq 2 (.bool false) rfl R3 ?_
    simp only[ZZ]
    refine AR [3] ?_
    refine AllReadyH.cons rfl (fun K hK=>?_) ?_
    ·go_simp
     go_at_call 204;refine(qct false _).mono ?_;rintro e w5 ⟨rfl,hw⟩;rw[hw];clear hw w5
     go_wp2_with fail
     refine hK.out _ _ R3 (fun _=>?_)
     clear hK K
     try simp only[ZZ]
     refine tq 4 (.int .i64 k.st) rfl R3 ?_
     simp only[ZZ]
     refine tq 5 (.int .i64 (qcf false)) rfl R3 ?_
     simp only[ZZ]
     refine AN ?_
     replace R3:=R3.drew;replace R6:=R6.drew;replace hB:=qbv hB
     go_wp2_with (first|(refine qag 48 rfl _ rfl _ rfl ?_;intro b3 w1 l3 R3 hb1;replace l3:=Nat.le_trans hB.size l3;replace hB:=hB.trans (hb1.mono hB.size))|(refine qaf 6 48 rfl rfl rfl _ qa9 ?_;intro b6 w2 l6 R6 hb2;have n36:=R3.ne l6;replace l6:=Nat.le_trans hB.size l6;replace R3:=R3.below hb2;replace hB:=hB.trans (hb2.mono hB.size))|(refine qae R3 _ rfl rfl _ rfl _ rfl ?_)|(refine qac 48 (.tmp 3) rfl rfl b3 rfl (fc k) R3 _ underlying48 rfl (qal _) ?_)|(refine qab 48 rfl (.tmp 6) _ rfl b6 rfl (fc k) rfl _ R6 rfl (qal _) (qa5 _) ?_;intro w6 R6 t6;replace R3:=t6.row R3 n36;replace hB:=t6.below _ _ l6 hB)|(go_at_call 131;go_fit (C4 _);rintro e w' ⟨rfl,hw⟩;rw[hw];clear hw w'))
     refine RD (fun W=>Row 48 W b3 (fc k)) R3 (fun _=>?_)
     refine tk 0 (.agg (fc k)) rfl (qav 48 (.tmp 3) rfl kr b3 kr (fc k) (fun _ h=>h) _ underlying48 rfl (qal _)) R3 ?_
     simp only[ZZ]
     refine tq 1 (.bool false) rfl R3 ?_
     simp only[ZZ]
     refine tq 2 (.bool true) rfl R3 ?_
     simp only[ZZ]
     refine tq 3 (.bool true) rfl R3 ?_
     simp only[ZZ]
     refine tq 4 (.int .i64 x) rfl R3 ?_
     simp only[ZZ]
     refine AR [5] ?_
     refine AllReadyH.cons rfl (fun K hK=>?_) ?_
     ·go_simp
      go_at_call 131;refine(C2 _).mono ?_;rintro e w5 ⟨rfl,hw⟩;rw[hw];clear hw w5
      go_wp2_with fail
      refine hK.out _ _ R3 (fun _=>?_)
      clear hK K
      try simp only[ZZ]
      refine tq 6 (.bool true) rfl R3 ?_
      simp only[ZZ]
      refine AR [7] ?_
      refine AllReadyH.cons rfl (fun K hK=>?_) ?_
      ·rw[if_pos kr]
       refine qau 48 (.tmp 6) (.tmp 62) rfl b6 rfl (fc k) rfl _ R6 rfl (qal _) (qa5 _) ?_;intro w10 R6 t10;(first|replace R3:=t10.row R3 n36|replace R3:=t10.row R3.drew n36);(first|replace hB:=t10.below _ _ l6 hB|replace hB:=t10.below _ _ l6 (qbv hB))
       refine hK.out _ _ R3 (fun _=>?_)
       clear hK K
       try simp only[ZZ]
       refine tq 8 (.bool true) rfl R3 ?_
       exact sZvt28
      exact AZ
     exact AZ
    exact AZ
   | false=>
    have C2:=fun w=>qc3 x 2 (by decide) (by decide) _ h2 w
    have H:Hid (qbi k x false=(k,false)):=by show qbi k x false=(k,false);simp[qbi,h4,h2,e1]
    clear h4 h2 e1
    go_enter func185,ntmps185
    go_wp2_with (first|(refine qag 48 rfl _ rfl _ rfl ?_;intro b3 w1 l3 R3 hb1;replace l3:=Nat.le_trans hB.size l3;replace hB:=hB.trans (hb1.mono hB.size))|(refine qaf 6 48 rfl rfl rfl _ qa9 ?_;intro b6 w2 l6 R6 hb2;have n36:=R3.ne l6;replace l6:=Nat.le_trans hB.size l6;replace R3:=R3.below hb2;replace hB:=hB.trans (hb2.mono hB.size))|(refine qae R3 _ rfl rfl _ rfl _ rfl ?_)|(refine qac 48 (.tmp 3) rfl rfl b3 rfl (fc k) R3 _ underlying48 rfl (qal _) ?_)|(refine qab 48 rfl (.tmp 6) _ rfl b6 rfl (fc k) rfl _ R6 rfl (qal _) (qa5 _) ?_;intro w6 R6 t6;replace R3:=t6.row R3 n36;replace hB:=t6.below _ _ l6 hB)|(go_at_call 131;go_fit (C4 _);rintro e w' ⟨rfl,hw⟩;rw[hw];clear hw w'))
    refine RD (fun W=>Row 48 W b3 (fc k)) R3 (fun _=>?_)
    refine tq 0 (.pointer (some ⟨b3,7,none⟩)) rfl R3 ?_
    simp only[ZZ]
    refine tk 1 (.int .i64 k.st) rfl (Or.inl ⟨by kernel_rfl,by intro w hS;have hc:=(hS.cell 7).trans (show(fc k)[7]?=some (.int .i64 k.st) from rfl);go_simp⟩) R3 ?_
    simp only[ZZ]
    refine tq 2 (.bool false) rfl R3 ?_
    simp only[ZZ]
    refine AR [3] ?_
    refine AllReadyH.cons rfl (fun K hK=>?_) ?_
    ·go_simp
     go_at_call 204;refine(qct false _).mono ?_;rintro e w5 ⟨rfl,hw⟩;rw[hw];clear hw w5
     go_wp2_with fail
     refine hK.out _ _ R3 (fun _=>?_)
     clear hK K
     try simp only[ZZ]
     refine tq 4 (.int .i64 k.st) rfl R3 ?_
     simp only[ZZ]
     refine tq 5 (.int .i64 (qcf false)) rfl R3 ?_
     simp only[ZZ]
     refine AN ?_
     replace R3:=R3.drew;replace R6:=R6.drew;replace hB:=qbv hB
     go_wp2_with (first|(refine qag 48 rfl _ rfl _ rfl ?_;intro b3 w1 l3 R3 hb1;replace l3:=Nat.le_trans hB.size l3;replace hB:=hB.trans (hb1.mono hB.size))|(refine qaf 6 48 rfl rfl rfl _ qa9 ?_;intro b6 w2 l6 R6 hb2;have n36:=R3.ne l6;replace l6:=Nat.le_trans hB.size l6;replace R3:=R3.below hb2;replace hB:=hB.trans (hb2.mono hB.size))|(refine qae R3 _ rfl rfl _ rfl _ rfl ?_)|(refine qac 48 (.tmp 3) rfl rfl b3 rfl (fc k) R3 _ underlying48 rfl (qal _) ?_)|(refine qab 48 rfl (.tmp 6) _ rfl b6 rfl (fc k) rfl _ R6 rfl (qal _) (qa5 _) ?_;intro w6 R6 t6;replace R3:=t6.row R3 n36;replace hB:=t6.below _ _ l6 hB)|(go_at_call 131;go_fit (C4 _);rintro e w' ⟨rfl,hw⟩;rw[hw];clear hw w'))
     refine RD (fun W=>Row 48 W b3 (fc k)) R3 (fun _=>?_)
     refine tk 0 (.agg (fc k)) rfl (qav 48 (.tmp 3) rfl kr b3 kr (fc k) (fun _ h=>h) _ underlying48 rfl (qal _)) R3 ?_
     simp only[ZZ]
     refine tq 1 (.bool false) rfl R3 ?_
     simp only[ZZ]
     refine tq 2 (.bool true) rfl R3 ?_
     simp only[ZZ]
     refine tq 3 (.bool true) rfl R3 ?_
     simp only[ZZ]
     refine tq 4 (.int .i64 x) rfl R3 ?_
     simp only[ZZ]
     refine AR [5] ?_
     refine AllReadyH.cons rfl (fun K hK=>?_) ?_
     ·go_simp
      go_at_call 131;refine(C2 _).mono ?_;rintro e w5 ⟨rfl,hw⟩;rw[hw];clear hw w5
      go_wp2_with fail
      exact sZvt24
     exact AZ
    exact AZ
  ·have s1:(k.st==1)=false:=by simp[e1]
   by_cases e2:k.st=2
   ·have s2:(k.st==2)=true:=by simp[e2]
    have s3:(k.st==3)=false:=by simp[e2]
    cases h1:has x 1 with
    | true=>
     have C1:=fun w=>qc3 x 1 (by decide) (by decide) _ h1 w
     have H:Hid (qbi k x false=({ k with st:=3,sd:=qcf false },true)):=by show qbi k x false=({ k with st:=3,sd:=qcf false },true);simp[qbi,h4,h1,e2]
     clear h4 h1 e1 e2
     go_enter func185,ntmps185
     go_wp2_with (first|(refine qag 48 rfl _ rfl _ rfl ?_;intro b3 w1 l3 R3 hb1;replace l3:=Nat.le_trans hB.size l3;replace hB:=hB.trans (hb1.mono hB.size))|(refine qaf 6 48 rfl rfl rfl _ qa9 ?_;intro b6 w2 l6 R6 hb2;have n36:=R3.ne l6;replace l6:=Nat.le_trans hB.size l6;replace R3:=R3.below hb2;replace hB:=hB.trans (hb2.mono hB.size))|(refine qae R3 _ rfl rfl _ rfl _ rfl ?_)|(refine qbb R3 rfl _ _ rfl _ rfl _ rfl _ rfl (fc { k with st:=3 }) rfl ?_;intro w4 R3 t4;replace R6:=t4.row R6 n36.symm;replace hB:=t4.below _ _ l3 hB)|(refine qbb R3 rfl _ _ rfl _ rfl _ rfl _ rfl (fc { k with st:=3,sd:=qcf false }) rfl ?_;intro w4 R3 t4;replace R6:=t4.row R6 n36.symm;replace hB:=t4.below _ _ l3 hB)|(refine qac 48 (.tmp 3) rfl rfl b3 rfl (fc { k with st:=3,sd:=qcf false }) R3 _ underlying48 rfl (qal _) ?_)|(refine qab 48 rfl (.tmp 6) _ rfl b6 rfl (fc { k with st:=3,sd:=qcf false }) rfl _ R6 rfl (qal _) (qa5 _) ?_;intro w6 R6 t6;replace R3:=t6.row R3 n36;replace hB:=t6.below _ _ l6 hB)|(go_at_call 131;go_fit (C4 _);rintro e w' ⟨rfl,hw⟩;rw[hw];clear hw w')|(go_at_call 131;go_fit (C1 _);rintro e w' ⟨rfl,hw⟩;rw[hw];clear hw w'))
     refine RD (fun W=>Row 48 W b3 (fc k)) R3 (fun _=>?_)
     refine tq 0 (.pointer (some ⟨b3,7,none⟩)) rfl R3 ?_
     simp only[ZZ]
     refine tk 1 (.int .i64 k.st) rfl (Or.inl ⟨by kernel_rfl,by intro w hS;have hc:=(hS.cell 7).trans (show(fc k)[7]?=some (.int .i64 k.st) from rfl);go_simp⟩) R3 ?_
     simp only[ZZ]
     refine tq 2 (.bool false) rfl R3 ?_
     simp only[ZZ]
     refine AR [3] ?_
     refine AllReadyH.cons rfl (fun K hK=>?_) ?_
     ·go_simp
      go_at_call 204;refine(qct false _).mono ?_;rintro e w5 ⟨rfl,hw⟩;rw[hw];clear hw w5
      go_wp2_with fail
      refine hK.out _ _ R3 (fun _=>?_)
      clear hK K
      try simp only[ZZ]
      refine tq 4 (.int .i64 k.st) rfl R3 ?_
      simp only[ZZ]
      refine tq 5 (.int .i64 (qcf false)) rfl R3 ?_
      simp only[ZZ]
      refine AN ?_
      replace R3:=R3.drew;replace R6:=R6.drew;replace hB:=qbv hB
      go_wp2_with (first|(refine qag 48 rfl _ rfl _ rfl ?_;intro b3 w1 l3 R3 hb1;replace l3:=Nat.le_trans hB.size l3;replace hB:=hB.trans (hb1.mono hB.size))|(refine qaf 6 48 rfl rfl rfl _ qa9 ?_;intro b6 w2 l6 R6 hb2;have n36:=R3.ne l6;replace l6:=Nat.le_trans hB.size l6;replace R3:=R3.below hb2;replace hB:=hB.trans (hb2.mono hB.size))|(refine qae R3 _ rfl rfl _ rfl _ rfl ?_)|(refine qbb R3 rfl _ _ rfl _ rfl _ rfl _ rfl (fc { k with st:=3 }) rfl ?_;intro w4 R3 t4;replace R6:=t4.row R6 n36.symm;replace hB:=t4.below _ _ l3 hB)|(refine qbb R3 rfl _ _ rfl _ rfl _ rfl _ rfl (fc { k with st:=3,sd:=qcf false }) rfl ?_;intro w4 R3 t4;replace R6:=t4.row R6 n36.symm;replace hB:=t4.below _ _ l3 hB)|(refine qac 48 (.tmp 3) rfl rfl b3 rfl (fc { k with st:=3,sd:=qcf false }) R3 _ underlying48 rfl (qal _) ?_)|(refine qab 48 rfl (.tmp 6) _ rfl b6 rfl (fc { k with st:=3,sd:=qcf false }) rfl _ R6 rfl (qal _) (qa5 _) ?_;intro w6 R6 t6;replace R3:=t6.row R3 n36;replace hB:=t6.below _ _ l6 hB)|(go_at_call 131;go_fit (C4 _);rintro e w' ⟨rfl,hw⟩;rw[hw];clear hw w')|(go_at_call 131;go_fit (C1 _);rintro e w' ⟨rfl,hw⟩;rw[hw];clear hw w'))
      ((try simp only[Exit.inBlock,Exit.then]);refine bodyPost_ret (qbf (p:=6) (u:=7) rfl _ _ _ _ rfl R6 _ underlying48 rfl (qal _)) rfl ⟨qdg H.out,hB⟩)
     exact AZ
    | false=>
     have C1:=fun w=>qc3 x 1 (by decide) (by decide) _ h1 w
     have H:Hid (qbi k x false=(k,true)):=by show qbi k x false=(k,true);simp[qbi,h4,h1,e2]
     clear h4 h1 e1 e2
     exact sZvt21
   ·have s2:(k.st==2)=false:=by simp[e2]
    by_cases e3:k.st=3
    ·have s3:(k.st==3)=true:=by simp[e3]
     cases h1:has x 1 with
     | true=>
      have C1:=fun w=>qc3 x 1 (by decide) (by decide) _ h1 w
      by_cases e5:qcf false=k.sd
      ·have s5:(qcf false != k.sd)=false:=by simp[e5]
       have H:Hid (qbi k x false=(k,false)):=by show qbi k x false=(k,false);simp[qbi,h4,h1,e3,e5]
       clear h4 h1 e1 e2 e3 e5
       exact sZvt21
      ·have s5:(qcf false != k.sd)=true:=by simp[e5]
       have H:Hid (qbi k x false=({ k with st:=4 },true)):=by show qbi k x false=({ k with st:=4 },true);simp[qbi,h4,h1,e3,e5]
       clear h4 h1 e1 e2 e3 e5
       go_enter func185,ntmps185
       go_wp2_with (first|(refine qag 48 rfl _ rfl _ rfl ?_;intro b3 w1 l3 R3 hb1;replace l3:=Nat.le_trans hB.size l3;replace hB:=hB.trans (hb1.mono hB.size))|(refine qaf 6 48 rfl rfl rfl _ qa9 ?_;intro b6 w2 l6 R6 hb2;have n36:=R3.ne l6;replace l6:=Nat.le_trans hB.size l6;replace R3:=R3.below hb2;replace hB:=hB.trans (hb2.mono hB.size))|(refine qae R3 _ rfl rfl _ rfl _ rfl ?_)|(refine qbb R3 rfl _ _ rfl _ rfl _ rfl _ rfl (fc { k with st:=4 }) rfl ?_;intro w4 R3 t4;replace R6:=t4.row R6 n36.symm;replace hB:=t4.below _ _ l3 hB)|(refine qac 48 (.tmp 3) rfl rfl b3 rfl (fc { k with st:=4 }) R3 _ underlying48 rfl (qal _) ?_)|(refine qab 48 rfl (.tmp 6) _ rfl b6 rfl (fc { k with st:=4 }) rfl _ R6 rfl (qal _) (qa5 _) ?_;intro w6 R6 t6;replace R3:=t6.row R3 n36;replace hB:=t6.below _ _ l6 hB)|(go_at_call 131;go_fit (C4 _);rintro e w' ⟨rfl,hw⟩;rw[hw];clear hw w')|(go_at_call 131;go_fit (C1 _);rintro e w' ⟨rfl,hw⟩;rw[hw];clear hw w'))
       refine RD (fun W=>Row 48 W b3 (fc k)) R3 (fun _=>?_)
       refine tq 0 (.pointer (some ⟨b3,7,none⟩)) rfl R3 ?_
       simp only[ZZ]
       refine tk 1 (.int .i64 k.st) rfl (Or.inl ⟨by kernel_rfl,by intro w hS;have hc:=(hS.cell 7).trans (show(fc k)[7]?=some (.int .i64 k.st) from rfl);go_simp⟩) R3 ?_
       simp only[ZZ]
       refine tq 2 (.bool false) rfl R3 ?_
       simp only[ZZ]
       refine AR [3] ?_
       refine AllReadyH.cons rfl (fun K hK=>?_) ?_
       ·go_simp
        go_at_call 204;refine(qct false _).mono ?_;rintro e w5 ⟨rfl,hw⟩;rw[hw];clear hw w5
        go_wp2_with fail
        refine hK.out _ _ R3 (fun _=>?_)
        clear hK K
        try simp only[ZZ]
        refine tq 4 (.int .i64 k.st) rfl R3 ?_
        simp only[ZZ]
        refine tq 5 (.int .i64 (qcf false)) rfl R3 ?_
        exact sZvt23
       exact AZ
     | false=>
      have C1:=fun w=>qc3 x 1 (by decide) (by decide) _ h1 w
      have H:Hid (qbi k x false=(k,false)):=by show qbi k x false=(k,false);simp[qbi,h4,h1,e3]
      clear h4 h1 e1 e2 e3
      exact sZvt21
    ·have s3:(k.st==3)=false:=by simp[e3]
     have H:Hid (qbi k x false=(k,false)):=by show qbi k x false=(k,false);simp[qbi,h4,e1,e2,e3]
     clear h4 e1 e2 e3
     go_enter func185,ntmps185
     go_wp2_with (first|(refine qag 48 rfl _ rfl _ rfl ?_;intro b3 w1 l3 R3 hb1;replace l3:=Nat.le_trans hB.size l3;replace hB:=hB.trans (hb1.mono hB.size))|(refine qaf 6 48 rfl rfl rfl _ qa9 ?_;intro b6 w2 l6 R6 hb2;have n36:=R3.ne l6;replace l6:=Nat.le_trans hB.size l6;replace R3:=R3.below hb2;replace hB:=hB.trans (hb2.mono hB.size))|(refine qae R3 _ rfl rfl _ rfl _ rfl ?_)|(refine qac 48 (.tmp 3) rfl rfl b3 rfl (fc k) R3 _ underlying48 rfl (qal _) ?_)|(refine qab 48 rfl (.tmp 6) _ rfl b6 rfl (fc k) rfl _ R6 rfl (qal _) (qa5 _) ?_;intro w6 R6 t6;replace R3:=t6.row R3 n36;replace hB:=t6.below _ _ l6 hB)|(go_at_call 131;go_fit (C4 _);rintro e w' ⟨rfl,hw⟩;rw[hw];clear hw w'))
     refine RD (fun W=>Row 48 W b3 (fc k)) R3 (fun _=>?_)
     refine tq 0 (.pointer (some ⟨b3,7,none⟩)) rfl R3 ?_
     simp only[ZZ]
     refine tk 1 (.int .i64 k.st) rfl (Or.inl ⟨by kernel_rfl,by intro w hS;have hc:=(hS.cell 7).trans (show(fc k)[7]?=some (.int .i64 k.st) from rfl);go_simp⟩) R3 ?_
     simp only[ZZ]
     refine tq 2 (.bool false) rfl R3 ?_
     simp only[ZZ]
     refine AR [3] ?_
     refine AllReadyH.cons rfl (fun K hK=>?_) ?_
     ·go_simp
      go_at_call 204;refine(qct false _).mono ?_;rintro e w5 ⟨rfl,hw⟩;rw[hw];clear hw w5
      go_wp2_with fail
      refine hK.out _ _ R3 (fun _=>?_)
      clear hK K
      try simp only[ZZ]
      refine tq 4 (.int .i64 k.st) rfl R3 ?_
      simp only[ZZ]
      refine tq 5 (.int .i64 (qcf false)) rfl R3 ?_
      exact sZvt27
     exact AZ
end Go.Proofs.YtnicenfgemkdnaaGreatDoor
