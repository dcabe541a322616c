/-
  Of what a law stands on.
-/
import Derived.Test.YtnicenfgemkdnaaGreatDoorZxn4
set_option linter.unusedSimpArgs false
set_option linter.unusedVariables false
namespace Go.Proofs.YtnicenfgemkdnaaGreatDoor
open _root_.Go.Proofs.Tryz
set_option maxHeartbeats 16000000
set_option maxRecDepth 100000
open Go.ChangeShapes Go.WideShapes Go.ChangeAt Go.RowKit Go.Maps
attribute [local irreducible] Rp.cells tc pc
theorem sZxn54{p:Prop}(h:p:=by
 refine AR [14] ?_
 refine AC (fun K hK=>?_) ?_
 ·rw[if_pos kr]
  refine sy 46 (.tmp 9) (.tmp 57) (mc m) (N.row 0 rfl) ?_;intro w9 R9 t9;(first|replace t9:=qap t9|skip);replace N:=N.turn 0 rfl R9 t9;clear R9 t9;replace kS:=N.row 1 rfl
  refine hK.out _ _ kS (fun _=>?_)
  clear hK K
  try simp only[ZZ]
  refine tq 15 (.bool true) rfl kS ?_
  simp only[ZZ]
  refine AN ?_
  clear kS
  first|((go_wp2_with (first|((with_reducible refine gL 58 5 ?_);refine qac 58 (.tmp 5) rfl kr b5 rfl (pcl p) (N.row 1 rfl) _ underlying58 rfl (qa0 p) ?_)|((with_reducible refine gL 46 9 ?_);refine qac 46 (.tmp 9) rfl kr b9 rfl (mc m) (N.row 0 rfl) _ underlying46 rfl (qak m) ?_)|(go_at_call 104;go_fit (CL _ _ N.nat);rintro e w5 ⟨rfl,F9,hN9,hg9,hf9⟩;clear CL;replace N:=N.call hN9 hg9 hf9;clear hN9 hg9 hf9)|((with_reducible refine gL 3 72 ?_);refine fx (N.row 0 rfl) _ 1 (m.2.1) ?_)|((with_reducible refine gL 3 75 ?_);refine fx (N.row 0 rfl) _ 2 (m.2.2.1) ?_)|(go_at_call 105;go_fit (CT _ _ _);rintro e w5 ⟨rfl,hb5⟩;clear CT;replace N:=N.below hb5;clear hb5)|((with_reducible refine qaa (.build 30 #[(0,.tmp 80),(1,.tmp 81),(2,.const (.bool true))]) rfl ?_);refine qdd (.tmp 80) (.tmp 81) rfl rfl _ _ rfl rfl ?_)|((with_reducible refine gS 30 4 82 ?_);refine sx 30 (.tmp 4) _ (Rp.cells ⟨qcb l 1 (167772161+m.2.1) m.2.2.1,qc5 l 1 (167772161+m.2.1) m.2.2.1,true,ByteArray.empty⟩) (N.row 2 rfl) ?_;intro w9 R9 t9;replace N:=N.turn 2 rfl R9 t9;clear R9 t9)));((try simp only[Exit.inBlock,Exit.then]);refine bodyPost_ret (qai (p:=4) rfl _ _ _ _ rfl (N.row 2 rfl) _ underlying30 rfl (qad _)) rfl ⟨rfl,_,N.nat,N.gr,N.sub⟩))|(replace N:=N.drew;((go_wp2_with (first|((with_reducible refine gL 58 5 ?_);refine qac 58 (.tmp 5) rfl kr b5 rfl (pcl p) (N.row 1 rfl) _ underlying58 rfl (qa0 p) ?_)|((with_reducible refine gL 46 9 ?_);refine qac 46 (.tmp 9) rfl kr b9 rfl (mc m) (N.row 0 rfl) _ underlying46 rfl (qak m) ?_)|(go_at_call 104;go_fit (CL _ _ N.nat);rintro e w5 ⟨rfl,F9,hN9,hg9,hf9⟩;clear CL;replace N:=N.call hN9 hg9 hf9;clear hN9 hg9 hf9)|((with_reducible refine gL 3 72 ?_);refine fx (N.row 0 rfl) _ 1 (m.2.1) ?_)|((with_reducible refine gL 3 75 ?_);refine fx (N.row 0 rfl) _ 2 (m.2.2.1) ?_)|(go_at_call 105;go_fit (CT _ _ _);rintro e w5 ⟨rfl,hb5⟩;clear CT;replace N:=N.below hb5;clear hb5)|((with_reducible refine qaa (.build 30 #[(0,.tmp 80),(1,.tmp 81),(2,.const (.bool true))]) rfl ?_);refine qdd (.tmp 80) (.tmp 81) rfl rfl _ _ rfl rfl ?_)|((with_reducible refine gS 30 4 82 ?_);refine sx 30 (.tmp 4) _ (Rp.cells ⟨qcb l 1 (167772161+m.2.1) m.2.2.1,qc5 l 1 (167772161+m.2.1) m.2.2.1,true,ByteArray.empty⟩) (N.row 2 rfl) ?_;intro w9 R9 t9;replace N:=N.turn 2 rfl R9 t9;clear R9 t9)));((try simp only[Exit.inBlock,Exit.then]);refine bodyPost_ret (qai (p:=4) rfl _ _ _ _ rfl (N.row 2 rfl) _ underlying30 rfl (qad _)) rfl ⟨rfl,_,N.nat,N.gr,N.sub⟩)))
 exact AZ):p:=h
theorem sZxn59{p:Prop}(h:p:=by
 refine hK.out _ _ kS (fun _=>?_)
 clear hK K
 try simp only[ZZ]
 refine AR [9] ?_
 refine AC (fun K hK=>?_) ?_
 ·go_simp
  go_at_call 31;(first|refine(CB _ _ hM0).mono ?_|refine(CB _ _ (hM0.below (Below.refl _ _).drew)).mono ?_);rintro e w9 ⟨rfl,hb9⟩;(first|replace hb9:=qaj hb9|skip);replace N:=N.below hb9;clear hb9 hM0;(try clear hr0);(first|replace kS:Row 58 _ b5 (pcl p):=N.row 0 rfl|replace kS:Row 58 _ b5 (pcl p):=N.row 1 rfl)
  go_wp2_with fail
  refine hK.out _ _ kS (fun _=>?_)
  clear hK K
  try simp only[ZZ]
  refine tq 10 (.tuple #[.agg (mc m),.bool true]) rfl kS (tq 11 (.agg (mc m)) rfl kS (tq 12 (.bool true) rfl kS ?_))
  simp only[ZZ]
  exact sZxn54
 exact AZ):p:=h
theorem sZxn51{p:Prop}(h:p:=by
 go_enter func70,ntmps70
 go_upto_region 11 with(first|((with_reducible refine gA 30 ?_);refine ax 4 30 qan ?_;intro b4 w9 l9 R9 h9;replace N:=N.alloc (o:=ob 30 ((qas 0).cells)) l9 R9 h9;clear R9 h9 l9)|(go_at_call 26;go_fit (CP _);rintro e w5 ⟨rfl,hb5⟩;clear CP;replace N:=N.below hb5;clear hb5)|((with_reducible refine gA 58 ?_);refine ax 5 58 qbs ?_;intro b5 w9 l9 R9 h9;replace N:=N.alloc (o:=ob 58 (pcl p0)) l9 R9 h9;clear R9 h9 l9)|((with_reducible refine gS 58 5 15 ?_);refine sx 58 (.tmp 5) _ (pcl p) (N.row 0 rfl) ?_;intro w9 R9 t9;replace N:=N.turn 0 rfl R9 t9;clear R9 t9)|((with_reducible refine gL 3 22 ?_);refine fx (N.row 0 rfl) _ 3 (p.dst) ?_)|((with_reducible refine gL 3 32 ?_);refine fx (N.row 0 rfl) _ 0 (p.proto) ?_)|((with_reducible refine gL 3 36 ?_);refine fx (N.row 0 rfl) _ 7 (p.flags) ?_)|((with_reducible refine gL 3 42 ?_);refine fx (N.row 0 rfl) _ 5 (p.ttl) ?_)|(go_at_call 103;go_fit (CA _);rintro e w5 ⟨rfl,hw⟩;rw[hw];clear hw w5))
 have kS:=N.row 0 rfl
 refine RD (fun W=>Row 58 W b5 (pcl p)) kS (fun _=>?_)
 refine tq 0 (.pointer (some ⟨b,0,none⟩)) rfl kS (tq 1 (.pointer (some ⟨b,0,none⟩)) rfl kS (tq 2 (.pointer (some ⟨b,4,none⟩)) rfl kS ?_))
 simp only[ZZ]
 refine tq 4 (.pointer (some ⟨b5,0,none⟩)) rfl kS (tk 5 (.int .i64 p.proto) rfl (Or.inl ⟨by kernel_rfl,by intro w hS;have hc:=(hS.cell 0).trans (show(pcl p)[0]?=some (.int .i64 p.proto) from rfl);go_simp⟩) kS (tq 6 (.int .i64 (p.dst-3405803777)) rfl kS ?_))
 simp only[ZZ]
 refine tq 7 (.pointer (some ⟨b5,4,none⟩)) rfl kS (tk 8 (.int .i64 p.dport) rfl (Or.inl ⟨by kernel_rfl,by intro w hS;have hc:=(hS.cell 4).trans (show(pcl p)[4]?=some (.int .i64 p.dport) from rfl);go_simp⟩) kS ?_)
 simp only[ZZ]
 refine AR [3,13] ?_
 refine AC (fun K hK=>?_) ?_
 ·rw[if_pos kr]
  obtain⟨v0,hr0,hM0,-,-⟩:=N.nat.table;(first|refine wp_load_mid 39 (.tmp 49) rfl b 4 kr (tc s.f s.g s.h v0).toList _ hr0 underlying39 rfl (qcj _ _ _ _) ?_|refine wp_load_mid 39 (.tmp 49) rfl b 4 kr (tc s.f s.g s.h v0).toList _ (show World.rangeAt (World.drew _) _ _ _ from hr0) underlying39 rfl (qcj _ _ _ _) ?_);(try simp only[Array.toArray_toList])
  refine hK.out _ _ kS (fun _=>?_)
  clear hK K
  try simp only[ZZ]
  refine AR [9,13] ?_
  refine AC (fun K hK=>?_) ?_
  ·go_simp
   go_at_call 31;(first|refine(CB _ _ hM0).mono ?_|refine(CB _ _ (hM0.below (Below.refl _ _).drew)).mono ?_);rintro e w9 ⟨rfl,hb9⟩;(first|replace hb9:=qaj hb9|skip);replace N:=N.below hb9;clear hb9 hM0;(try clear hr0);(first|replace kS:Row 58 _ b5 (pcl p):=N.row 0 rfl|replace kS:Row 58 _ b5 (pcl p):=N.row 1 rfl)
   go_wp2_with fail
   refine hK.out _ _ kS (fun _=>?_)
   clear hK K
   try simp only[ZZ]
   refine tq 10 (.tuple #[.agg (mc m),.bool true]) rfl kS (tq 11 (.agg (mc m)) rfl kS (tq 12 (.bool true) rfl kS ?_))
   simp only[ZZ]
   refine AR [13] ?_
   refine AC (fun K hK=>?_) ?_
   ·rw[if_pos kr]
    refine qax 46 rfl _ qa4 ?_;intro b9 w9 l9 R9 h9;(first|replace h9:=qaj h9|skip);replace N:=N.alloc (o:=ob 46 (mc noM)) l9 R9 h9;(try replace hM0:=hM0.below h9);clear R9 h9 l9;replace kS:=N.row 1 rfl
    refine hK.out _ _ kS (fun _=>?_)
    clear hK K
    try simp only[ZZ]
    exact sZxn54
   exact AZ
  refine AC (fun K hK=>?_) ?_
  ·rw[if_pos kr]
   refine qax 46 rfl _ qa4 ?_;intro b9 w9 l9 R9 h9;(first|replace h9:=qaj h9|skip);replace N:=N.alloc (o:=ob 46 (mc noM)) l9 R9 h9;(try replace hM0:=hM0.below h9);clear R9 h9 l9;replace kS:=N.row 1 rfl
   exact sZxn59
  exact AZ
 refine AC (fun K hK=>?_) ?_
 ·rw[if_pos kr]
  refine qax 46 rfl _ qa4 ?_;intro b9 w9 l9 R9 h9;(first|replace h9:=qaj h9|skip);replace N:=N.alloc (o:=ob 46 (mc noM)) l9 R9 h9;(try replace hM0:=hM0.below h9);clear R9 h9 l9;replace kS:=N.row 1 rfl
  refine hK.out _ _ kS (fun _=>?_)
  clear hK K
  try simp only[ZZ]
  refine AR [3] ?_
  refine AC (fun K hK=>?_) ?_
  ·rw[if_pos kr]
   obtain⟨v0,hr0,hM0,-,-⟩:=N.nat.table;(first|refine wp_load_mid 39 (.tmp 49) rfl b 4 kr (tc s.f s.g s.h v0).toList _ hr0 underlying39 rfl (qcj _ _ _ _) ?_|refine wp_load_mid 39 (.tmp 49) rfl b 4 kr (tc s.f s.g s.h v0).toList _ (show World.rangeAt (World.drew _) _ _ _ from hr0) underlying39 rfl (qcj _ _ _ _) ?_);(try simp only[Array.toArray_toList])
   exact sZxn59
  exact AZ
 exact AZ):p:=h
theorem sZxn55{p:Prop}(h:p:=by
 refine AR [14] ?_
 refine AC (fun K hK=>?_) ?_
 ·rw[if_pos kr]
  refine sy 46 (.tmp 9) (.tmp 57) (mc m) (N.row 0 rfl) ?_;intro w9 R9 t9;(first|replace t9:=qap t9|skip);replace N:=N.turn 0 rfl R9 t9;clear R9 t9;replace kS:=N.row 1 rfl
  refine hK.out _ _ kS (fun _=>?_)
  clear hK K
  try simp only[ZZ]
  refine tq 15 (.bool true) rfl kS ?_
  simp only[ZZ]
  refine AN ?_
  clear kS
  first|((go_wp2_with (first|((with_reducible refine gL 58 5 ?_);refine qac 58 (.tmp 5) rfl kr b5 rfl (pcl p) (N.row 1 rfl) _ underlying58 rfl (qa0 p) ?_)|((with_reducible refine gL 46 9 ?_);refine qac 46 (.tmp 9) rfl kr b9 rfl (mc m) (N.row 0 rfl) _ underlying46 rfl (qak m) ?_)|(go_at_call 104;go_fit (CL _ _ N.nat);rintro e w5 ⟨rfl,F9,hN9,hg9,hf9⟩;clear CL;replace N:=N.call hN9 hg9 hf9;clear hN9 hg9 hf9)|(go_at_call 68;go_fit (CFc _);rintro e w5 ⟨rfl,hb5⟩;replace N:=N.below hb5;clear hb5)|((with_reducible refine gS 30 4 69 ?_);refine sx 30 (.tmp 4) _ ((qas cd).cells) (N.row 2 rfl) ?_;intro w9 R9 t9;replace N:=N.turn 2 rfl R9 t9;clear R9 t9)));((try simp only[Exit.inBlock,Exit.then]);refine bodyPost_ret (qai (p:=4) rfl _ _ _ _ rfl (N.row 2 rfl) _ underlying30 rfl (qad _)) rfl ⟨rfl,_,N.nat,N.gr,N.sub⟩))|(replace N:=N.drew;((go_wp2_with (first|((with_reducible refine gL 58 5 ?_);refine qac 58 (.tmp 5) rfl kr b5 rfl (pcl p) (N.row 1 rfl) _ underlying58 rfl (qa0 p) ?_)|((with_reducible refine gL 46 9 ?_);refine qac 46 (.tmp 9) rfl kr b9 rfl (mc m) (N.row 0 rfl) _ underlying46 rfl (qak m) ?_)|(go_at_call 104;go_fit (CL _ _ N.nat);rintro e w5 ⟨rfl,F9,hN9,hg9,hf9⟩;clear CL;replace N:=N.call hN9 hg9 hf9;clear hN9 hg9 hf9)|(go_at_call 68;go_fit (CFc _);rintro e w5 ⟨rfl,hb5⟩;replace N:=N.below hb5;clear hb5)|((with_reducible refine gS 30 4 69 ?_);refine sx 30 (.tmp 4) _ ((qas cd).cells) (N.row 2 rfl) ?_;intro w9 R9 t9;replace N:=N.turn 2 rfl R9 t9;clear R9 t9)));((try simp only[Exit.inBlock,Exit.then]);refine bodyPost_ret (qai (p:=4) rfl _ _ _ _ rfl (N.row 2 rfl) _ underlying30 rfl (qad _)) rfl ⟨rfl,_,N.nat,N.gr,N.sub⟩)))
 exact AZ):p:=h
theorem sZxn510{p:Prop}(h:p:=by
 refine hK.out _ _ kS (fun _=>?_)
 clear hK K
 try simp only[ZZ]
 refine AR [9] ?_
 refine AC (fun K hK=>?_) ?_
 ·go_simp
  go_at_call 31;(first|refine(CB _ _ hM0).mono ?_|refine(CB _ _ (hM0.below (Below.refl _ _).drew)).mono ?_);rintro e w9 ⟨rfl,hb9⟩;(first|replace hb9:=qaj hb9|skip);replace N:=N.below hb9;clear hb9 hM0;(try clear hr0);(first|replace kS:Row 58 _ b5 (pcl p):=N.row 0 rfl|replace kS:Row 58 _ b5 (pcl p):=N.row 1 rfl)
  go_wp2_with fail
  refine hK.out _ _ kS (fun _=>?_)
  clear hK K
  try simp only[ZZ]
  refine tq 10 (.tuple #[.agg (mc m),.bool true]) rfl kS (tq 11 (.agg (mc m)) rfl kS (tq 12 (.bool true) rfl kS ?_))
  simp only[ZZ]
  exact sZxn55
 exact AZ):p:=h
theorem sZxn52{p:Prop}(h:p:=by
 go_enter func70,ntmps70
 go_upto_region 11 with(first|((with_reducible refine gA 30 ?_);refine ax 4 30 qan ?_;intro b4 w9 l9 R9 h9;replace N:=N.alloc (o:=ob 30 ((qas 0).cells)) l9 R9 h9;clear R9 h9 l9)|(go_at_call 26;go_fit (CP _);rintro e w5 ⟨rfl,hb5⟩;clear CP;replace N:=N.below hb5;clear hb5)|((with_reducible refine gA 58 ?_);refine ax 5 58 qbs ?_;intro b5 w9 l9 R9 h9;replace N:=N.alloc (o:=ob 58 (pcl p0)) l9 R9 h9;clear R9 h9 l9)|((with_reducible refine gS 58 5 15 ?_);refine sx 58 (.tmp 5) _ (pcl p) (N.row 0 rfl) ?_;intro w9 R9 t9;replace N:=N.turn 0 rfl R9 t9;clear R9 t9)|((with_reducible refine gL 3 22 ?_);refine fx (N.row 0 rfl) _ 3 (p.dst) ?_)|((with_reducible refine gL 3 32 ?_);refine fx (N.row 0 rfl) _ 0 (p.proto) ?_)|((with_reducible refine gL 3 36 ?_);refine fx (N.row 0 rfl) _ 7 (p.flags) ?_)|((with_reducible refine gL 3 42 ?_);refine fx (N.row 0 rfl) _ 5 (p.ttl) ?_)|(go_at_call 103;go_fit (CA _);rintro e w5 ⟨rfl,hw⟩;rw[hw];clear hw w5))
 have kS:=N.row 0 rfl
 refine RD (fun W=>Row 58 W b5 (pcl p)) kS (fun _=>?_)
 refine tq 0 (.pointer (some ⟨b,0,none⟩)) rfl kS (tq 1 (.pointer (some ⟨b,0,none⟩)) rfl kS (tq 2 (.pointer (some ⟨b,4,none⟩)) rfl kS ?_))
 simp only[ZZ]
 refine tq 4 (.pointer (some ⟨b5,0,none⟩)) rfl kS (tk 5 (.int .i64 p.proto) rfl (Or.inl ⟨by kernel_rfl,by intro w hS;have hc:=(hS.cell 0).trans (show(pcl p)[0]?=some (.int .i64 p.proto) from rfl);go_simp⟩) kS (tq 6 (.int .i64 (p.dst-3405803777)) rfl kS ?_))
 simp only[ZZ]
 refine tq 7 (.pointer (some ⟨b5,4,none⟩)) rfl kS (tk 8 (.int .i64 p.dport) rfl (Or.inl ⟨by kernel_rfl,by intro w hS;have hc:=(hS.cell 4).trans (show(pcl p)[4]?=some (.int .i64 p.dport) from rfl);go_simp⟩) kS ?_)
 simp only[ZZ]
 refine AR [3,13] ?_
 refine AC (fun K hK=>?_) ?_
 ·rw[if_pos kr]
  obtain⟨v0,hr0,hM0,-,-⟩:=N.nat.table;(first|refine wp_load_mid 39 (.tmp 49) rfl b 4 kr (tc s.f s.g s.h v0).toList _ hr0 underlying39 rfl (qcj _ _ _ _) ?_|refine wp_load_mid 39 (.tmp 49) rfl b 4 kr (tc s.f s.g s.h v0).toList _ (show World.rangeAt (World.drew _) _ _ _ from hr0) underlying39 rfl (qcj _ _ _ _) ?_);(try simp only[Array.toArray_toList])
  refine hK.out _ _ kS (fun _=>?_)
  clear hK K
  try simp only[ZZ]
  refine AR [9,13] ?_
  refine AC (fun K hK=>?_) ?_
  ·go_simp
   go_at_call 31;(first|refine(CB _ _ hM0).mono ?_|refine(CB _ _ (hM0.below (Below.refl _ _).drew)).mono ?_);rintro e w9 ⟨rfl,hb9⟩;(first|replace hb9:=qaj hb9|skip);replace N:=N.below hb9;clear hb9 hM0;(try clear hr0);(first|replace kS:Row 58 _ b5 (pcl p):=N.row 0 rfl|replace kS:Row 58 _ b5 (pcl p):=N.row 1 rfl)
   go_wp2_with fail
   refine hK.out _ _ kS (fun _=>?_)
   clear hK K
   try simp only[ZZ]
   refine tq 10 (.tuple #[.agg (mc m),.bool true]) rfl kS (tq 11 (.agg (mc m)) rfl kS (tq 12 (.bool true) rfl kS ?_))
   simp only[ZZ]
   refine AR [13] ?_
   refine AC (fun K hK=>?_) ?_
   ·rw[if_pos kr]
    refine qax 46 rfl _ qa4 ?_;intro b9 w9 l9 R9 h9;(first|replace h9:=qaj h9|skip);replace N:=N.alloc (o:=ob 46 (mc noM)) l9 R9 h9;(try replace hM0:=hM0.below h9);clear R9 h9 l9;replace kS:=N.row 1 rfl
    refine hK.out _ _ kS (fun _=>?_)
    clear hK K
    try simp only[ZZ]
    exact sZxn55
   exact AZ
  refine AC (fun K hK=>?_) ?_
  ·rw[if_pos kr]
   refine qax 46 rfl _ qa4 ?_;intro b9 w9 l9 R9 h9;(first|replace h9:=qaj h9|skip);replace N:=N.alloc (o:=ob 46 (mc noM)) l9 R9 h9;(try replace hM0:=hM0.below h9);clear R9 h9 l9;replace kS:=N.row 1 rfl
   exact sZxn510
  exact AZ
 refine AC (fun K hK=>?_) ?_
 ·rw[if_pos kr]
  refine qax 46 rfl _ qa4 ?_;intro b9 w9 l9 R9 h9;(first|replace h9:=qaj h9|skip);replace N:=N.alloc (o:=ob 46 (mc noM)) l9 R9 h9;(try replace hM0:=hM0.below h9);clear R9 h9 l9;replace kS:=N.row 1 rfl
  refine hK.out _ _ kS (fun _=>?_)
  clear hK K
  try simp only[ZZ]
  refine AR [3] ?_
  refine AC (fun K hK=>?_) ?_
  ·rw[if_pos kr]
   obtain⟨v0,hr0,hM0,-,-⟩:=N.nat.table;(first|refine wp_load_mid 39 (.tmp 49) rfl b 4 kr (tc s.f s.g s.h v0).toList _ hr0 underlying39 rfl (qcj _ _ _ _) ?_|refine wp_load_mid 39 (.tmp 49) rfl b 4 kr (tc s.f s.g s.h v0).toList _ (show World.rangeAt (World.drew _) _ _ _ from hr0) underlying39 rfl (qcj _ _ _ _) ?_);(try simp only[Array.toArray_toList])
   exact sZxn510
  exact AZ
 exact AZ):p:=h
theorem sZxn56{p:Prop}(h:p:=by
 refine AR [14] ?_
 refine AC (fun K hK=>?_) ?_
 ·rw[if_pos kr]
  refine sy 46 (.tmp 9) (.tmp 57) (mc noM) (N.row 0 rfl) ?_;intro w9 R9 t9;(first|replace t9:=qap t9|skip);replace N:=N.turn 0 rfl R9 t9;clear R9 t9;replace kS:=N.row 1 rfl
  refine hK.out _ _ kS (fun _=>?_)
  clear hK K
  try simp only[ZZ]
  refine tq 15 (.bool false) rfl kS ?_
  simp only[ZZ]
  refine AN ?_
  clear kS
  first|((go_wp2_with (first|(go_at_call 68;go_fit (CF7 _);rintro e w5 ⟨rfl,hb5⟩;replace N:=N.below hb5;clear hb5)|((with_reducible refine gS 30 4 61 ?_);refine sx 30 (.tmp 4) _ ((qas 7).cells) (N.row 2 rfl) ?_;intro w9 R9 t9;replace N:=N.turn 2 rfl R9 t9;clear R9 t9)));((try simp only[Exit.inBlock,Exit.then]);refine bodyPost_ret (qai (p:=4) rfl _ _ _ _ rfl (N.row 2 rfl) _ underlying30 rfl (qad _)) rfl ⟨rfl,_,N.nat,N.gr,N.sub⟩))|(replace N:=N.drew;((go_wp2_with (first|(go_at_call 68;go_fit (CF7 _);rintro e w5 ⟨rfl,hb5⟩;replace N:=N.below hb5;clear hb5)|((with_reducible refine gS 30 4 61 ?_);refine sx 30 (.tmp 4) _ ((qas 7).cells) (N.row 2 rfl) ?_;intro w9 R9 t9;replace N:=N.turn 2 rfl R9 t9;clear R9 t9)));((try simp only[Exit.inBlock,Exit.then]);refine bodyPost_ret (qai (p:=4) rfl _ _ _ _ rfl (N.row 2 rfl) _ underlying30 rfl (qad _)) rfl ⟨rfl,_,N.nat,N.gr,N.sub⟩)))
 exact AZ):p:=h
theorem sZxn58{p:Prop}(h:p:=by
 refine hK.out _ _ kS (fun _=>?_)
 clear hK K
 try simp only[ZZ]
 refine AR [9] ?_
 refine AC (fun K hK=>?_) ?_
 ·go_simp
  go_at_call 31;(first|refine(CB _ _ hM0).mono ?_|refine(CB _ _ (hM0.below (Below.refl _ _).drew)).mono ?_);rintro e w9 ⟨rfl,hb9⟩;(first|replace hb9:=qaj hb9|skip);replace N:=N.below hb9;clear hb9 hM0;(try clear hr0);(first|replace kS:Row 58 _ b5 (pcl p):=N.row 0 rfl|replace kS:Row 58 _ b5 (pcl p):=N.row 1 rfl)
  go_wp2_with fail
  refine hK.out _ _ kS (fun _=>?_)
  clear hK K
  try simp only[ZZ]
  refine tq 10 (.tuple #[.agg (mc noM),.bool false]) rfl kS (tq 11 (.agg (mc noM)) rfl kS (tq 12 (.bool false) rfl kS ?_))
  simp only[ZZ]
  exact sZxn56
 exact AZ):p:=h
theorem sZxn53{p:Prop}(h:p:=by
 go_enter func70,ntmps70
 go_upto_region 11 with(first|((with_reducible refine gA 30 ?_);refine ax 4 30 qan ?_;intro b4 w9 l9 R9 h9;replace N:=N.alloc (o:=ob 30 ((qas 0).cells)) l9 R9 h9;clear R9 h9 l9)|(go_at_call 26;go_fit (CP _);rintro e w5 ⟨rfl,hb5⟩;clear CP;replace N:=N.below hb5;clear hb5)|((with_reducible refine gA 58 ?_);refine ax 5 58 qbs ?_;intro b5 w9 l9 R9 h9;replace N:=N.alloc (o:=ob 58 (pcl p0)) l9 R9 h9;clear R9 h9 l9)|((with_reducible refine gS 58 5 15 ?_);refine sx 58 (.tmp 5) _ (pcl p) (N.row 0 rfl) ?_;intro w9 R9 t9;replace N:=N.turn 0 rfl R9 t9;clear R9 t9)|((with_reducible refine gL 3 22 ?_);refine fx (N.row 0 rfl) _ 3 (p.dst) ?_)|((with_reducible refine gL 3 32 ?_);refine fx (N.row 0 rfl) _ 0 (p.proto) ?_)|((with_reducible refine gL 3 36 ?_);refine fx (N.row 0 rfl) _ 7 (p.flags) ?_)|((with_reducible refine gL 3 42 ?_);refine fx (N.row 0 rfl) _ 5 (p.ttl) ?_)|(go_at_call 103;go_fit (CA _);rintro e w5 ⟨rfl,hw⟩;rw[hw];clear hw w5))
 have kS:=N.row 0 rfl
 refine RD (fun W=>Row 58 W b5 (pcl p)) kS (fun _=>?_)
 refine tq 0 (.pointer (some ⟨b,0,none⟩)) rfl kS (tq 1 (.pointer (some ⟨b,0,none⟩)) rfl kS (tq 2 (.pointer (some ⟨b,4,none⟩)) rfl kS ?_))
 simp only[ZZ]
 refine tq 4 (.pointer (some ⟨b5,0,none⟩)) rfl kS (tk 5 (.int .i64 p.proto) rfl (Or.inl ⟨by kernel_rfl,by intro w hS;have hc:=(hS.cell 0).trans (show(pcl p)[0]?=some (.int .i64 p.proto) from rfl);go_simp⟩) kS (tq 6 (.int .i64 (p.dst-3405803777)) rfl kS ?_))
 simp only[ZZ]
 refine tq 7 (.pointer (some ⟨b5,4,none⟩)) rfl kS (tk 8 (.int .i64 p.dport) rfl (Or.inl ⟨by kernel_rfl,by intro w hS;have hc:=(hS.cell 4).trans (show(pcl p)[4]?=some (.int .i64 p.dport) from rfl);go_simp⟩) kS ?_)
 simp only[ZZ]
 refine AR [3,13] ?_
 refine AC (fun K hK=>?_) ?_
 ·rw[if_pos kr]
  obtain⟨v0,hr0,hM0,-,-⟩:=N.nat.table;(first|refine wp_load_mid 39 (.tmp 49) rfl b 4 kr (tc s.f s.g s.h v0).toList _ hr0 underlying39 rfl (qcj _ _ _ _) ?_|refine wp_load_mid 39 (.tmp 49) rfl b 4 kr (tc s.f s.g s.h v0).toList _ (show World.rangeAt (World.drew _) _ _ _ from hr0) underlying39 rfl (qcj _ _ _ _) ?_);(try simp only[Array.toArray_toList])
  refine hK.out _ _ kS (fun _=>?_)
  clear hK K
  try simp only[ZZ]
  refine AR [9,13] ?_
  refine AC (fun K hK=>?_) ?_
  ·go_simp
   go_at_call 31;(first|refine(CB _ _ hM0).mono ?_|refine(CB _ _ (hM0.below (Below.refl _ _).drew)).mono ?_);rintro e w9 ⟨rfl,hb9⟩;(first|replace hb9:=qaj hb9|skip);replace N:=N.below hb9;clear hb9 hM0;(try clear hr0);(first|replace kS:Row 58 _ b5 (pcl p):=N.row 0 rfl|replace kS:Row 58 _ b5 (pcl p):=N.row 1 rfl)
   go_wp2_with fail
   refine hK.out _ _ kS (fun _=>?_)
   clear hK K
   try simp only[ZZ]
   refine tq 10 (.tuple #[.agg (mc noM),.bool false]) rfl kS (tq 11 (.agg (mc noM)) rfl kS (tq 12 (.bool false) rfl kS ?_))
   simp only[ZZ]
   refine AR [13] ?_
   refine AC (fun K hK=>?_) ?_
   ·rw[if_pos kr]
    refine qax 46 rfl _ qa4 ?_;intro b9 w9 l9 R9 h9;(first|replace h9:=qaj h9|skip);replace N:=N.alloc (o:=ob 46 (mc noM)) l9 R9 h9;(try replace hM0:=hM0.below h9);clear R9 h9 l9;replace kS:=N.row 1 rfl
    refine hK.out _ _ kS (fun _=>?_)
    clear hK K
    try simp only[ZZ]
    exact sZxn56
   exact AZ
  refine AC (fun K hK=>?_) ?_
  ·rw[if_pos kr]
   refine qax 46 rfl _ qa4 ?_;intro b9 w9 l9 R9 h9;(first|replace h9:=qaj h9|skip);replace N:=N.alloc (o:=ob 46 (mc noM)) l9 R9 h9;(try replace hM0:=hM0.below h9);clear R9 h9 l9;replace kS:=N.row 1 rfl
   exact sZxn58
  exact AZ
 refine AC (fun K hK=>?_) ?_
 ·rw[if_pos kr]
  refine qax 46 rfl _ qa4 ?_;intro b9 w9 l9 R9 h9;(first|replace h9:=qaj h9|skip);replace N:=N.alloc (o:=ob 46 (mc noM)) l9 R9 h9;(try replace hM0:=hM0.below h9);clear R9 h9 l9;replace kS:=N.row 1 rfl
  refine hK.out _ _ kS (fun _=>?_)
  clear hK K
  try simp only[ZZ]
  refine AR [3] ?_
  refine AC (fun K hK=>?_) ?_
  ·rw[if_pos kr]
   obtain⟨v0,hr0,hM0,-,-⟩:=N.nat.table;(first|refine wp_load_mid 39 (.tmp 49) rfl b 4 kr (tc s.f s.g s.h v0).toList _ hr0 underlying39 rfl (qcj _ _ _ _) ?_|refine wp_load_mid 39 (.tmp 49) rfl b 4 kr (tc s.f s.g s.h v0).toList _ (show World.rangeAt (World.drew _) _ _ _ from hr0) underlying39 rfl (qcj _ _ _ _) ?_);(try simp only[Array.toArray_toList])
   exact sZxn58
  exact AZ
 exact AZ):p:=h
theorem sZxn57{p:Prop}(h:p:=by
 clear hk
 go_enter func70,ntmps70
 go_wp2_with (first|((with_reducible refine gA 30 ?_);refine ax 4 30 qan ?_;intro b4 w9 l9 R9 h9;replace N:=N.alloc (o:=ob 30 ((qas 0).cells)) l9 R9 h9;clear R9 h9 l9)|(go_at_call 26;go_fit (CP _);rintro e w5 ⟨rfl,hb5⟩;clear CP;replace N:=N.below hb5;clear hb5)|((with_reducible refine gA 58 ?_);refine ax 5 58 qbs ?_;intro b5 w9 l9 R9 h9;replace N:=N.alloc (o:=ob 58 (pcl p0)) l9 R9 h9;clear R9 h9 l9)|((with_reducible refine gS 58 5 15 ?_);refine sx 58 (.tmp 5) _ (pcl p) (N.row 0 rfl) ?_;intro w9 R9 t9;replace N:=N.turn 0 rfl R9 t9;clear R9 t9)|((with_reducible refine gL 3 22 ?_);refine fx (N.row 0 rfl) _ 3 (p.dst) ?_)|((with_reducible refine gL 3 32 ?_);refine fx (N.row 0 rfl) _ 0 (p.proto) ?_)|((with_reducible refine gL 3 36 ?_);refine fx (N.row 0 rfl) _ 7 (p.flags) ?_)|((with_reducible refine gL 3 42 ?_);refine fx (N.row 0 rfl) _ 5 (p.ttl) ?_)|(go_at_call 103;go_fit (CA _);rintro e w5 ⟨rfl,hw⟩;rw[hw];clear hw w5)|(go_at_call 68;go_fit (CF12 _);rintro e w5 ⟨rfl,hb5⟩;replace N:=N.below hb5;clear hb5)|((with_reducible refine gS 30 4 45 ?_);refine sx 30 (.tmp 4) _ ((qas 12).cells) (N.row 1 rfl) ?_;intro w9 R9 t9;replace N:=N.turn 1 rfl R9 t9;clear R9 t9))
 ((try simp only[Exit.inBlock,Exit.then]);refine bodyPost_ret (qai (p:=4) rfl _ _ _ _ rfl (N.row 1 rfl) _ underlying30 rfl (qad _)) rfl ⟨rfl,_,N.nat,N.gr,N.sub⟩)):p:=h
theorem q1g{w:World}{b:Nat}{s:Nt}{F:Nat->Prop}(h:qaw w b s (duF s.fs) F)(fr:ByteArray)(hs:fr.size<=140737488351232)(hnow:0<=s.now/\s.now<=549755813888)(hbg:s.began<700)(hfew:s.fs.length<400)(hst:∀m∈s.ms,0<=m.2.1/\m.2.1<8):Calls prog 70 #[.pointer (some ⟨b,0,none⟩),.string fr] w fun e w'=>e=.returned (.agg (s.inn fr.data.toList).1.cells)/\∃F',qaw w' b (s.inn fr.data.toList).2 (duF (s.inn fr.data.toList).2.fs) F'/\Gr F w w'/\∀c,F' c->F c\/w.heap.size<=c:=by
 have N:=h.start
 have CP:=fun w=>qch fr w hs
 have CT:=fun addr port w=>qvz fr 1 addr port w hs
 simp only[qgx] at CP
 unfold Nt.inn
 generalize fr.data.toList=l at *
 by_cases hb:bad l=0
 rotate_left
 ·rw[if_pos hb]
  have hpr:qb9 l=p0:=by unfold qb9;rw[if_neg hb]
  rw[hpr] at CP
  have hbb:(bad l != 0)=true:=by simpa using hb
  have CF:=fun w=>qdj (bad l) w
  rw[←qdo] at CF
  clear hpr hb hs hnow hbg hfew hst CT
  go_enter func70,ntmps70
  go_wp2_with (first|((with_reducible refine gA 30 ?_);refine ax 4 30 qan ?_;intro b4 w9 l9 R9 h9;replace N:=N.alloc (o:=ob 30 ((qas 0).cells)) l9 R9 h9;clear R9 h9 l9)|(go_at_call 26;go_fit (CP _);rintro e w5 ⟨rfl,hb5⟩;clear CP;replace N:=N.below hb5;clear hb5)|((with_reducible refine gA 58 ?_);refine ax 5 58 qbs ?_;intro b5 w9 l9 R9 h9;replace N:=N.alloc (o:=ob 58 (pcl p0)) l9 R9 h9;clear R9 h9 l9)|((with_reducible refine gS 58 5 15 ?_);refine sx 58 (.tmp 5) _ (pcl p0) (N.row 0 rfl) ?_;intro w9 R9 t9;replace N:=N.turn 0 rfl R9 t9;clear R9 t9)|(go_at_call 68;go_fit (CF _);rintro e w5 ⟨rfl,hb5⟩;replace N:=N.below hb5;clear hb5)|((with_reducible refine gS 30 4 20 ?_);refine sx 30 (.tmp 4) _ ((qas (bad l)).cells) (N.row 1 rfl) ?_;intro w9 R9 t9;replace N:=N.turn 1 rfl R9 t9;clear R9 t9))
  ((try simp only[Exit.inBlock,Exit.then]);refine bodyPost_ret (qai (p:=4) rfl _ _ _ _ rfl (N.row 1 rfl) _ underlying30 rfl (qad _)) rfl ⟨rfl,_,N.nat,N.gr,N.sub⟩)
 have hpr:qb9 l=qam l:=by unfold qb9;rw[if_pos hb]
 rw[if_neg (fun h=>h hb)]
 rw[hpr,hb] at CP
 have hrg:=(qdu _).1 (qde _ (qqk hb)).2.1
 clear hpr hb
 generalize qam l=p at *
 have CA:=fun w=>qop p.dst w hrg.2.2.1 hrg.2.2.2.1
 have CF7:=fun w=>qdj 7 w
 have CF4:=fun w=>qdj 4 w
 have CF12:=fun w=>qdj 12 w
 rw[←qdo] at CF7 CF4 CF12
 by_cases ha:0<=p.dst-3405803777/\p.dst-3405803777<3
 rotate_left
 ·rw[if_pos ha]
  rw[decide_eq_false ha] at CA
  clear ha hrg hs hnow hbg hfew hst CT CF4 CF12
  go_enter func70,ntmps70
  go_wp2_with (first|((with_reducible refine gA 30 ?_);refine ax 4 30 qan ?_;intro b4 w9 l9 R9 h9;replace N:=N.alloc (o:=ob 30 ((qas 0).cells)) l9 R9 h9;clear R9 h9 l9)|(go_at_call 26;go_fit (CP _);rintro e w5 ⟨rfl,hb5⟩;clear CP;replace N:=N.below hb5;clear hb5)|((with_reducible refine gA 58 ?_);refine ax 5 58 qbs ?_;intro b5 w9 l9 R9 h9;replace N:=N.alloc (o:=ob 58 (pcl p0)) l9 R9 h9;clear R9 h9 l9)|((with_reducible refine gS 58 5 15 ?_);refine sx 58 (.tmp 5) _ (pcl p) (N.row 0 rfl) ?_;intro w9 R9 t9;replace N:=N.turn 0 rfl R9 t9;clear R9 t9)|((with_reducible refine gL 3 22 ?_);refine fx (N.row 0 rfl) _ 3 (p.dst) ?_)|((with_reducible refine gL 3 32 ?_);refine fx (N.row 0 rfl) _ 0 (p.proto) ?_)|((with_reducible refine gL 3 36 ?_);refine fx (N.row 0 rfl) _ 7 (p.flags) ?_)|((with_reducible refine gL 3 42 ?_);refine fx (N.row 0 rfl) _ 5 (p.ttl) ?_)|(go_at_call 103;go_fit (CA _);rintro e w5 ⟨rfl,hw⟩;rw[hw];clear hw w5)|(go_at_call 68;go_fit (CF7 _);rintro e w5 ⟨rfl,hb5⟩;replace N:=N.below hb5;clear hb5)|((with_reducible refine gS 30 4 30 ?_);refine sx 30 (.tmp 4) _ ((qas 7).cells) (N.row 1 rfl) ?_;intro w9 R9 t9;replace N:=N.turn 1 rfl R9 t9;clear R9 t9))
  ((try simp only[Exit.inBlock,Exit.then]);refine bodyPost_ret (qai (p:=4) rfl _ _ _ _ rfl (N.row 1 rfl) _ underlying30 rfl (qad _)) rfl ⟨rfl,_,N.nat,N.gr,N.sub⟩)
 rw[if_neg (fun h=>h ha)]
 rw[decide_eq_true ha] at CA
 cases hk:(p.proto==1&&p.flags != 0) with
 | true=>
  rw[if_pos rfl]
  obtain⟨hk1,hk2⟩:(p.proto==1)=true/\(p.flags != 0)=true:=by simpa[Bool.and_eq_true] using hk
  clear ha hrg hs hnow hbg hfew hst CT CF7 CF12 hk
  go_enter func70,ntmps70
  go_wp2_with (first|((with_reducible refine gA 30 ?_);refine ax 4 30 qan ?_;intro b4 w9 l9 R9 h9;replace N:=N.alloc (o:=ob 30 ((qas 0).cells)) l9 R9 h9;clear R9 h9 l9)|(go_at_call 26;go_fit (CP _);rintro e w5 ⟨rfl,hb5⟩;clear CP;replace N:=N.below hb5;clear hb5)|((with_reducible refine gA 58 ?_);refine ax 5 58 qbs ?_;intro b5 w9 l9 R9 h9;replace N:=N.alloc (o:=ob 58 (pcl p0)) l9 R9 h9;clear R9 h9 l9)|((with_reducible refine gS 58 5 15 ?_);refine sx 58 (.tmp 5) _ (pcl p) (N.row 0 rfl) ?_;intro w9 R9 t9;replace N:=N.turn 0 rfl R9 t9;clear R9 t9)|((with_reducible refine gL 3 22 ?_);refine fx (N.row 0 rfl) _ 3 (p.dst) ?_)|((with_reducible refine gL 3 32 ?_);refine fx (N.row 0 rfl) _ 0 (p.proto) ?_)|((with_reducible refine gL 3 36 ?_);refine fx (N.row 0 rfl) _ 7 (p.flags) ?_)|((with_reducible refine gL 3 42 ?_);refine fx (N.row 0 rfl) _ 5 (p.ttl) ?_)|(go_at_call 103;go_fit (CA _);rintro e w5 ⟨rfl,hw⟩;rw[hw];clear hw w5)|(go_at_call 68;go_fit (CF4 _);rintro e w5 ⟨rfl,hb5⟩;replace N:=N.below hb5;clear hb5)|((with_reducible refine gS 30 4 40 ?_);refine sx 30 (.tmp 4) _ ((qas 4).cells) (N.row 1 rfl) ?_;intro w9 R9 t9;replace N:=N.turn 1 rfl R9 t9;clear R9 t9))
  ((try simp only[Exit.inBlock,Exit.then]);refine bodyPost_ret (qai (p:=4) rfl _ _ _ _ rfl (N.row 1 rfl) _ underlying30 rfl (qad _)) rfl ⟨rfl,_,N.nat,N.gr,N.sub⟩)
 | false=>
  rw[if_neg zm]
  by_cases ht:p.ttl=1
  ·rw[if_pos ht]
   have ht2:(p.ttl==1)=true:=by simp[ht]
   clear ha hrg hs hnow hbg hfew hst CT CF7 CF4 ht
   cases h1:(p.proto==1) with
   | false=>
    exact sZxn57
   | true=>
    have h2:(p.flags != 0)=false:=by rw[h1] at hk;simpa using hk
    exact sZxn57
  ·rw[if_neg ht]
   have ht2:(p.ttl==1)=false:=by simp[ht]
   have HK:Hid ((p.proto==1)=false\/(p.proto==1)=true/\(p.flags != 0)=false):=hidN (by
    cases h1:(p.proto==1) with
    | false=>exact .inl rfl
    | true=>rw[h1] at hk;exact .inr ⟨rfl,by simpa using hk⟩)
   clear ht hk CF4 CF12
   have CB:=fun v W hM=>qqr s.f s.g s.h v s.ms p.proto (p.dst-3405803777) p.dport W hM
   cases hf:s.ms.find? (outS p.proto (p.dst-3405803777) p.dport) with
   | none=>
    rw[hf] at CB
    unfold qhw at CB
    simp only
    clear hf hs hnow hbg hfew hst CT hrg ha
    rcases HK.out with hk1|⟨hk1,hk2⟩
    ·clear HK
     exact sZxn53
    ·clear HK
     exact sZxn53
   | some m=>
    rw[hf] at CB
    unfold qhw at CB
    simp only
    have hm:=hst m (List.mem_of_find?_eq_some hf)
    have CL:=fun W F (hN:qaw W b s (duF s.fs) F)=>q4i hN p m hnow hbg hfew
    have hw:wrap64 (167772161+m.2.1)=167772161+m.2.1:=by unfold wrap64;omega
    obtain⟨cd,s2,hcs⟩:∃cd s2,s.letIn p m=(cd,s2):=⟨_,_,rfl⟩
    rw[hcs] at CL ⊢
    simp only at CL ⊢
    by_cases hc:cd=0
    ·rw[if_neg (fun h=>h hc)]
     subst hc
     clear hf hs hnow hbg hfew hst hrg ha hm hcs
     rcases HK.out with hk1|⟨hk1,hk2⟩
     ·clear HK
      exact sZxn51
     ·clear HK
      exact sZxn51
    ·rw[if_pos hc]
     have hc2:(cd != 0)=true:=by simpa using hc
     have CFc:=fun w=>qdj cd w
     rw[←qdo] at CFc
     clear hf hs hnow hbg hfew hst hrg ha hm hcs hc CT hw
     rcases HK.out with hk1|⟨hk1,hk2⟩
     ·clear HK
      exact sZxn52
     ·clear HK
      exact sZxn52
end Go.Proofs.YtnicenfgemkdnaaGreatDoor
