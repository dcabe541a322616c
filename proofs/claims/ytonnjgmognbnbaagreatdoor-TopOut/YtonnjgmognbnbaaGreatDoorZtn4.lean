/-
  Of what a law stands on.
-/
import Derived.Test.YtonnjgmognbnbaaGreatDoorZtn3
set_option linter.unusedSimpArgs false
set_option linter.unusedVariables false
namespace Go.Proofs.YtonnjgmognbnbaaGreatDoor
open Go.Value renaming int → I,pointer → V
open Go.IntKind renaming i64 → Z
open _root_.Go.Proofs.Tryz Go.ChangeShapes Go.WideShapes Go.ChangeAt Go.RowKit Go.Maps
set_option maxHeartbeats 16000000
set_option maxRecDepth 100000
variable {p:Prop}
theorem sZtn44(h:p:=by
 refine AR [14] ?_
 refine AP (fun K hK=>?_) ?_
 ·refine sy 50 (.tmp 9) (.tmp 57) (mc m) (N.row 0 rfl) ?_;refine m7s ?_;clear N;intro w9 N;replace kS:=N.row 1 rfl
  refine hK.out _ _ kS (fun _=>?_)
  clear hK K;(try simp only[ZZ]);refine tq 15 (.bool true) rfl kS ?_;refine m1f ?_;clear kS
  first|((go_wp2_with (first|((with_reducible refine gL 61 5 ?_);refine m3k ?_)|((with_reducible refine gL 50 9 ?_);refine m3t ?_)|(go_at_call 93;refine m5w ?_;clear N;intro w5 F9 N)|((with_reducible refine gL 3 72 ?_);refine fx (N.row 0 rfl) _ 1 (m.2.1) ?_)|((with_reducible refine gL 3 75 ?_);refine fx (N.row 0 rfl) _ 2 (m.2.2.1) ?_)|(go_at_call 94;go_fit (CT _ _ _);rintro e w5 ⟨rfl,hb5⟩;clear CT;replace N:=N.below hb5;clear hb5)|((with_reducible refine qaa (.build 27 #[(0,.tmp 80),(1,.tmp 81),(2,.const (.bool true))]) rfl ?_);refine qdd (.tmp 80) (.tmp 81) rfl rfl _ _ rfl rfl ?_)|((with_reducible refine gS 27 4 82 ?_);refine m77 ?_;clear N;intro w9 N)));(refine m03 ?_;refine bodyPost_ret (qai (p:=4) rfl _ _ _ _ rfl (N.row 2 rfl) _ underlying27 rfl (qad _)) rfl ⟨rfl,_,N.nat,N.gr,N.sub⟩))|(replace N:=N.drew;((go_wp2_with (first|((with_reducible refine gL 61 5 ?_);refine m3k ?_)|((with_reducible refine gL 50 9 ?_);refine m3t ?_)|(go_at_call 93;refine m5w ?_;clear CL N;intro w5 F9 N)|((with_reducible refine gL 3 72 ?_);refine fx (N.row 0 rfl) _ 1 (m.2.1) ?_)|((with_reducible refine gL 3 75 ?_);refine fx (N.row 0 rfl) _ 2 (m.2.2.1) ?_)|(go_at_call 94;go_fit (CT _ _ _);rintro e w5 ⟨rfl,hb5⟩;clear CT;replace N:=N.below hb5;clear hb5)|((with_reducible refine qaa (.build 27 #[(0,.tmp 80),(1,.tmp 81),(2,.const (.bool true))]) rfl ?_);refine qdd (.tmp 80) (.tmp 81) rfl rfl _ _ rfl rfl ?_)|((with_reducible refine gS 27 4 82 ?_);refine m77 ?_;clear N;intro w9 N)));(refine m03 ?_;refine bodyPost_ret (qai (p:=4) rfl _ _ _ _ rfl (N.row 2 rfl) _ underlying27 rfl (qad _)) rfl ⟨rfl,_,N.nat,N.gr,N.sub⟩)))
 exact AZ):p:=h
theorem sZtn49(h:p:=by
 refine hK.out _ _ kS (fun _=>?_)
 clear hK K;(try simp only[ZZ]);refine AR [9] ?_
 refine AC (fun K hK=>?_) ?_
 ·go_simp
  go_at_call 34;(first|refine(CB _ _ hM0).mono ?_|refine(CB _ _ (hM0.below (Below.refl _ _).drew)).mono ?_);refine m4c ?_;clear hM0;intro w9 N;(try clear hr0);(first|replace kS:Row 61 _ b5 (pcl p):=N.row 0 rfl|replace kS:Row 61 _ b5 (pcl p):=N.row 1 rfl)
  go_wp2_with fail
  refine hK.out _ _ kS (fun _=>?_)
  clear hK K;(try simp only[ZZ]);refine m2v ?_
  exact sZtn44
 exact AZ):p:=h
theorem sZtn41(h:p:=by
 go_enter func55,ntmps55
 go_upto_region 11 with(first|((with_reducible refine gA 27 ?_);refine m0b ?_;intro b4 w9 N)|(go_at_call 29;refine m1j ?_;clear N;intro w5 N)|((with_reducible refine gA 61 ?_);refine m84 ?_;intro b5 w9 l9 R9 h9;refine m1d ?_;clear N R9 h9 l9;intro N)|((with_reducible refine gS 61 5 15 ?_);refine m4h ?_;refine m0j ?_;clear N;intro w9 N)|((with_reducible refine gL 3 22 ?_);refine m7t ?_)|((with_reducible refine gL 3 32 ?_);refine m3f ?_)|((with_reducible refine gL 3 36 ?_);refine m3g ?_)|((with_reducible refine gL 3 42 ?_);refine m3r ?_)|(go_at_call 92;go_fit (CA _);refine m0h ?_))
 have kS:=N.row 0 rfl
 refine RD (fun W=>Row 61 W b5 (pcl p)) kS (fun _=>?_)
 refine m0e ?_
 refine AP (fun K hK=>?_) ?_
 ·obtain⟨v0,hr0,hM0,-,-⟩:=N.nat.table;(first|refine wp_load_mid 39 (.tmp 49) rfl b 4 kr (tc s.f s.g s.h v0).toList _ hr0 underlying39 rfl (qcj _ _ _ _) ?_|refine wp_load_mid 39 (.tmp 49) rfl b 4 kr (tc s.f s.g s.h v0).toList _ (show World.rangeAt (World.drew _) _ _ _ from hr0) underlying39 rfl (qcj _ _ _ _) ?_);refine m2h ?_
  refine hK.out _ _ kS (fun _=>?_)
  clear hK K;(try simp only[ZZ]);refine AR [9,13] ?_
  refine AC (fun K hK=>?_) ?_
  ·go_simp
   go_at_call 34;(first|refine(CB _ _ hM0).mono ?_|refine(CB _ _ (hM0.below (Below.refl _ _).drew)).mono ?_);refine m4c ?_;clear N hM0;intro w9 N;(try clear hr0);(first|replace kS:Row 61 _ b5 (pcl p):=N.row 0 rfl|replace kS:Row 61 _ b5 (pcl p):=N.row 1 rfl)
   go_wp2_with fail
   refine hK.out _ _ kS (fun _=>?_)
   clear hK K;(try simp only[ZZ]);refine m2v ?_;refine AR [13] ?_
   refine AP (fun K hK=>?_) AZ
   refine qax 50 rfl _ qa4 ?_;intro b9 w9 l9 R9 h9;(first|replace h9:=qaj h9|skip);replace N:=N.alloc (o:=ob 50 (mc noM)) l9 R9 h9;(try replace hM0:=hM0.below h9);clear R9 h9 l9;replace kS:=N.row 1 rfl
   refine hK.out _ _ kS (fun _=>?_)
   clear hK K;(try simp only[ZZ])
   exact sZtn44
  refine AP (fun K hK=>?_) AZ
  refine qax 50 rfl _ qa4 ?_;intro b9 w9 l9 R9 h9;(first|replace h9:=qaj h9|skip);replace N:=N.alloc (o:=ob 50 (mc noM)) l9 R9 h9;(try replace hM0:=hM0.below h9);clear R9 h9 l9;replace kS:=N.row 1 rfl
  exact sZtn49
 refine AP (fun K hK=>?_) ?_
 ·refine qax 50 rfl _ qa4 ?_;intro b9 w9 l9 R9 h9;(first|replace h9:=qaj h9|skip);replace N:=N.alloc (o:=ob 50 (mc noM)) l9 R9 h9;(try replace hM0:=hM0.below h9);clear R9 h9 l9;replace kS:=N.row 1 rfl
  refine hK.out _ _ kS (fun _=>?_)
  clear hK K;(try simp only[ZZ]);refine AR [3] ?_
  refine AP (fun K hK=>?_) AZ
  obtain⟨v0,hr0,hM0,-,-⟩:=N.nat.table;(first|refine wp_load_mid 39 (.tmp 49) rfl b 4 kr (tc s.f s.g s.h v0).toList _ hr0 underlying39 rfl (qcj _ _ _ _) ?_|refine wp_load_mid 39 (.tmp 49) rfl b 4 kr (tc s.f s.g s.h v0).toList _ (show World.rangeAt (World.drew _) _ _ _ from hr0) underlying39 rfl (qcj _ _ _ _) ?_);refine m2h ?_
  exact sZtn49
 exact AZ):p:=h
theorem sZtn45(h:p:=by
 refine AR [14] ?_
 refine AP (fun K hK=>?_) ?_
 ·refine sy 50 (.tmp 9) (.tmp 57) (mc m) (N.row 0 rfl) ?_;refine m7s ?_;clear N;intro w9 N;replace kS:=N.row 1 rfl
  refine hK.out _ _ kS (fun _=>?_)
  clear hK K;(try simp only[ZZ]);refine tq 15 (.bool true) rfl kS ?_;refine m1f ?_;clear kS
  first|((go_wp2_with (first|((with_reducible refine gL 61 5 ?_);refine m3k ?_)|((with_reducible refine gL 50 9 ?_);refine m3t ?_)|(go_at_call 93;refine m5w ?_;clear N;intro w5 F9 N)|(go_at_call 53;go_fit (CFc _);refine m22 ?_;clear N;intro w5 N)|((with_reducible refine gS 27 4 69 ?_);refine sx 27 (.tmp 4) _ ((qas cd).cells) (N.row 2 rfl) ?_;intro w9 R9 t9;replace N:=N.turn 2 rfl R9 t9;clear R9 t9)));(refine m03 ?_;refine bodyPost_ret (qai (p:=4) rfl _ _ _ _ rfl (N.row 2 rfl) _ underlying27 rfl (qad _)) rfl ⟨rfl,_,N.nat,N.gr,N.sub⟩))|(replace N:=N.drew;((go_wp2_with (first|((with_reducible refine gL 61 5 ?_);refine m3k ?_)|((with_reducible refine gL 50 9 ?_);refine m3t ?_)|(go_at_call 93;refine m5w ?_;clear CL N;intro w5 F9 N)|(go_at_call 53;go_fit (CFc _);refine m22 ?_;clear N;intro w5 N)|((with_reducible refine gS 27 4 69 ?_);refine sx 27 (.tmp 4) _ ((qas cd).cells) (N.row 2 rfl) ?_;intro w9 R9 t9;replace N:=N.turn 2 rfl R9 t9;clear R9 t9)));(refine m03 ?_;refine bodyPost_ret (qai (p:=4) rfl _ _ _ _ rfl (N.row 2 rfl) _ underlying27 rfl (qad _)) rfl ⟨rfl,_,N.nat,N.gr,N.sub⟩)))
 exact AZ):p:=h
theorem sZtn410(h:p:=by
 refine hK.out _ _ kS (fun _=>?_)
 clear hK K;(try simp only[ZZ]);refine AR [9] ?_
 refine AC (fun K hK=>?_) ?_
 ·go_simp
  go_at_call 34;(first|refine(CB _ _ hM0).mono ?_|refine(CB _ _ (hM0.below (Below.refl _ _).drew)).mono ?_);refine m4c ?_;clear hM0;intro w9 N;(try clear hr0);(first|replace kS:Row 61 _ b5 (pcl p):=N.row 0 rfl|replace kS:Row 61 _ b5 (pcl p):=N.row 1 rfl)
  go_wp2_with fail
  refine hK.out _ _ kS (fun _=>?_)
  clear hK K;(try simp only[ZZ]);refine m2v ?_
  exact sZtn45
 exact AZ):p:=h
theorem sZtn42(h:p:=by
 go_enter func55,ntmps55
 go_upto_region 11 with(first|((with_reducible refine gA 27 ?_);refine m0b ?_;intro b4 w9 N)|(go_at_call 29;refine m1j ?_;clear N;intro w5 N)|((with_reducible refine gA 61 ?_);refine m84 ?_;intro b5 w9 l9 R9 h9;refine m1d ?_;clear N R9 h9 l9;intro N)|((with_reducible refine gS 61 5 15 ?_);refine m4h ?_;refine m0j ?_;clear N;intro w9 N)|((with_reducible refine gL 3 22 ?_);refine m7t ?_)|((with_reducible refine gL 3 32 ?_);refine m3f ?_)|((with_reducible refine gL 3 36 ?_);refine m3g ?_)|((with_reducible refine gL 3 42 ?_);refine m3r ?_)|(go_at_call 92;go_fit (CA _);refine m0h ?_))
 have kS:=N.row 0 rfl
 refine RD (fun W=>Row 61 W b5 (pcl p)) kS (fun _=>?_)
 refine m0e ?_
 refine AP (fun K hK=>?_) ?_
 ·obtain⟨v0,hr0,hM0,-,-⟩:=N.nat.table;(first|refine wp_load_mid 39 (.tmp 49) rfl b 4 kr (tc s.f s.g s.h v0).toList _ hr0 underlying39 rfl (qcj _ _ _ _) ?_|refine wp_load_mid 39 (.tmp 49) rfl b 4 kr (tc s.f s.g s.h v0).toList _ (show World.rangeAt (World.drew _) _ _ _ from hr0) underlying39 rfl (qcj _ _ _ _) ?_);refine m2h ?_
  refine hK.out _ _ kS (fun _=>?_)
  clear hK K;(try simp only[ZZ]);refine AR [9,13] ?_
  refine AC (fun K hK=>?_) ?_
  ·go_simp
   go_at_call 34;(first|refine(CB _ _ hM0).mono ?_|refine(CB _ _ (hM0.below (Below.refl _ _).drew)).mono ?_);refine m4c ?_;clear N hM0;intro w9 N;(try clear hr0);(first|replace kS:Row 61 _ b5 (pcl p):=N.row 0 rfl|replace kS:Row 61 _ b5 (pcl p):=N.row 1 rfl)
   go_wp2_with fail
   refine hK.out _ _ kS (fun _=>?_)
   clear hK K;(try simp only[ZZ]);refine m2v ?_;refine AR [13] ?_
   refine AP (fun K hK=>?_) AZ
   refine qax 50 rfl _ qa4 ?_;intro b9 w9 l9 R9 h9;(first|replace h9:=qaj h9|skip);replace N:=N.alloc (o:=ob 50 (mc noM)) l9 R9 h9;(try replace hM0:=hM0.below h9);clear R9 h9 l9;replace kS:=N.row 1 rfl
   refine hK.out _ _ kS (fun _=>?_)
   clear hK K;(try simp only[ZZ])
   exact sZtn45
  refine AP (fun K hK=>?_) AZ
  refine qax 50 rfl _ qa4 ?_;intro b9 w9 l9 R9 h9;(first|replace h9:=qaj h9|skip);replace N:=N.alloc (o:=ob 50 (mc noM)) l9 R9 h9;(try replace hM0:=hM0.below h9);clear R9 h9 l9;replace kS:=N.row 1 rfl
  exact sZtn410
 refine AP (fun K hK=>?_) ?_
 ·refine qax 50 rfl _ qa4 ?_;intro b9 w9 l9 R9 h9;(first|replace h9:=qaj h9|skip);replace N:=N.alloc (o:=ob 50 (mc noM)) l9 R9 h9;(try replace hM0:=hM0.below h9);clear R9 h9 l9;replace kS:=N.row 1 rfl
  refine hK.out _ _ kS (fun _=>?_)
  clear hK K;(try simp only[ZZ]);refine AR [3] ?_
  refine AP (fun K hK=>?_) AZ
  obtain⟨v0,hr0,hM0,-,-⟩:=N.nat.table;(first|refine wp_load_mid 39 (.tmp 49) rfl b 4 kr (tc s.f s.g s.h v0).toList _ hr0 underlying39 rfl (qcj _ _ _ _) ?_|refine wp_load_mid 39 (.tmp 49) rfl b 4 kr (tc s.f s.g s.h v0).toList _ (show World.rangeAt (World.drew _) _ _ _ from hr0) underlying39 rfl (qcj _ _ _ _) ?_);refine m2h ?_
  exact sZtn410
 exact AZ):p:=h
theorem sZtn46(h:p:=by
 refine AR [14] ?_
 refine AP (fun K hK=>?_) ?_
 ·refine sy 50 (.tmp 9) (.tmp 57) (mc noM) (N.row 0 rfl) ?_;refine m7s ?_;clear N;intro w9 N;replace kS:=N.row 1 rfl
  refine hK.out _ _ kS (fun _=>?_)
  clear hK K;(try simp only[ZZ]);refine tq 15 (.bool false) rfl kS ?_;refine m1f ?_;clear kS
  first|((go_wp2_with (first|(go_at_call 53;go_fit (CF7 _);refine m22 ?_;clear N;intro w5 N)|((with_reducible refine gS 27 4 61 ?_);refine sx 27 (.tmp 4) _ ((qas 7).cells) (N.row 2 rfl) ?_;intro w9 R9 t9;replace N:=N.turn 2 rfl R9 t9;clear R9 t9)));(refine m03 ?_;refine bodyPost_ret (qai (p:=4) rfl _ _ _ _ rfl (N.row 2 rfl) _ underlying27 rfl (qad _)) rfl ⟨rfl,_,N.nat,N.gr,N.sub⟩))|(replace N:=N.drew;((go_wp2_with (first|(go_at_call 53;go_fit (CF7 _);refine m22 ?_;clear N;intro w5 N)|((with_reducible refine gS 27 4 61 ?_);refine sx 27 (.tmp 4) _ ((qas 7).cells) (N.row 2 rfl) ?_;intro w9 R9 t9;replace N:=N.turn 2 rfl R9 t9;clear R9 t9)));(refine m03 ?_;refine bodyPost_ret (qai (p:=4) rfl _ _ _ _ rfl (N.row 2 rfl) _ underlying27 rfl (qad _)) rfl ⟨rfl,_,N.nat,N.gr,N.sub⟩)))
 exact AZ):p:=h
theorem sZtn48(h:p:=by
 refine hK.out _ _ kS (fun _=>?_)
 clear hK K;(try simp only[ZZ]);refine AR [9] ?_
 refine AC (fun K hK=>?_) ?_
 ·go_simp
  go_at_call 34;(first|refine(CB _ _ hM0).mono ?_|refine(CB _ _ (hM0.below (Below.refl _ _).drew)).mono ?_);refine m4c ?_;clear hM0;intro w9 N;(try clear hr0);(first|replace kS:Row 61 _ b5 (pcl p):=N.row 0 rfl|replace kS:Row 61 _ b5 (pcl p):=N.row 1 rfl)
  go_wp2_with fail
  refine hK.out _ _ kS (fun _=>?_)
  clear hK K;(try simp only[ZZ]);refine m95 ?_;refine m5i ?_
  exact sZtn46
 exact AZ):p:=h
theorem sZtn43(h:p:=by
 go_enter func55,ntmps55
 go_upto_region 11 with(first|((with_reducible refine gA 27 ?_);refine m0b ?_;intro b4 w9 N)|(go_at_call 29;refine m1j ?_;clear N;intro w5 N)|((with_reducible refine gA 61 ?_);refine m84 ?_;intro b5 w9 l9 R9 h9;refine m1d ?_;clear N R9 h9 l9;intro N)|((with_reducible refine gS 61 5 15 ?_);refine m4h ?_;refine m0j ?_;clear N;intro w9 N)|((with_reducible refine gL 3 22 ?_);refine m7t ?_)|((with_reducible refine gL 3 32 ?_);refine m3f ?_)|((with_reducible refine gL 3 36 ?_);refine m3g ?_)|((with_reducible refine gL 3 42 ?_);refine m3r ?_)|(go_at_call 92;go_fit (CA _);refine m0h ?_))
 have kS:=N.row 0 rfl
 refine RD (fun W=>Row 61 W b5 (pcl p)) kS (fun _=>?_)
 refine m0e ?_
 refine AP (fun K hK=>?_) ?_
 ·obtain⟨v0,hr0,hM0,-,-⟩:=N.nat.table;(first|refine wp_load_mid 39 (.tmp 49) rfl b 4 kr (tc s.f s.g s.h v0).toList _ hr0 underlying39 rfl (qcj _ _ _ _) ?_|refine wp_load_mid 39 (.tmp 49) rfl b 4 kr (tc s.f s.g s.h v0).toList _ (show World.rangeAt (World.drew _) _ _ _ from hr0) underlying39 rfl (qcj _ _ _ _) ?_);refine m2h ?_
  refine hK.out _ _ kS (fun _=>?_)
  clear hK K;(try simp only[ZZ]);refine AR [9,13] ?_
  refine AC (fun K hK=>?_) ?_
  ·go_simp
   go_at_call 34;(first|refine(CB _ _ hM0).mono ?_|refine(CB _ _ (hM0.below (Below.refl _ _).drew)).mono ?_);refine m4c ?_;clear N hM0;intro w9 N;(try clear hr0);(first|replace kS:Row 61 _ b5 (pcl p):=N.row 0 rfl|replace kS:Row 61 _ b5 (pcl p):=N.row 1 rfl)
   go_wp2_with fail
   refine hK.out _ _ kS (fun _=>?_)
   clear hK K;(try simp only[ZZ]);refine m95 ?_;refine m5i ?_;refine AR [13] ?_
   refine AP (fun K hK=>?_) AZ
   refine qax 50 rfl _ qa4 ?_;intro b9 w9 l9 R9 h9;(first|replace h9:=qaj h9|skip);replace N:=N.alloc (o:=ob 50 (mc noM)) l9 R9 h9;(try replace hM0:=hM0.below h9);clear R9 h9 l9;replace kS:=N.row 1 rfl
   refine hK.out _ _ kS (fun _=>?_)
   clear hK K;(try simp only[ZZ])
   exact sZtn46
  refine AP (fun K hK=>?_) AZ
  refine qax 50 rfl _ qa4 ?_;intro b9 w9 l9 R9 h9;(first|replace h9:=qaj h9|skip);replace N:=N.alloc (o:=ob 50 (mc noM)) l9 R9 h9;(try replace hM0:=hM0.below h9);clear R9 h9 l9;replace kS:=N.row 1 rfl
  exact sZtn48
 refine AP (fun K hK=>?_) ?_
 ·refine qax 50 rfl _ qa4 ?_;intro b9 w9 l9 R9 h9;(first|replace h9:=qaj h9|skip);replace N:=N.alloc (o:=ob 50 (mc noM)) l9 R9 h9;(try replace hM0:=hM0.below h9);clear R9 h9 l9;replace kS:=N.row 1 rfl
  refine hK.out _ _ kS (fun _=>?_)
  clear hK K;(try simp only[ZZ]);refine AR [3] ?_
  refine AP (fun K hK=>?_) AZ
  obtain⟨v0,hr0,hM0,-,-⟩:=N.nat.table;(first|refine wp_load_mid 39 (.tmp 49) rfl b 4 kr (tc s.f s.g s.h v0).toList _ hr0 underlying39 rfl (qcj _ _ _ _) ?_|refine wp_load_mid 39 (.tmp 49) rfl b 4 kr (tc s.f s.g s.h v0).toList _ (show World.rangeAt (World.drew _) _ _ _ from hr0) underlying39 rfl (qcj _ _ _ _) ?_);refine m2h ?_
  exact sZtn48
 exact AZ):p:=h
theorem sZtn47(h:p:=by
 clear hk
 go_enter func55,ntmps55
 go_wp2_with (first|((with_reducible refine gA 27 ?_);refine m0b ?_;intro b4 w9 N)|(go_at_call 29;refine m1j ?_;clear N;intro w5 N)|((with_reducible refine gA 61 ?_);refine m84 ?_;intro b5 w9 l9 R9 h9;refine m1d ?_;clear N R9 h9 l9;intro N)|((with_reducible refine gS 61 5 15 ?_);refine m4h ?_;refine m0j ?_;clear N;intro w9 N)|((with_reducible refine gL 3 22 ?_);refine m7t ?_)|((with_reducible refine gL 3 32 ?_);refine m3f ?_)|((with_reducible refine gL 3 36 ?_);refine m3g ?_)|((with_reducible refine gL 3 42 ?_);refine m3r ?_)|(go_at_call 92;go_fit (CA _);refine m0h ?_)|(go_at_call 53;go_fit (CF12 _);refine m22 ?_;clear N;intro w5 N)|((with_reducible refine gS 27 4 45 ?_);refine sx 27 (.tmp 4) _ ((qas 12).cells) (N.row 1 rfl) ?_;refine m4z ?_;clear N;intro w9 N))
 (refine m03 ?_;refine bodyPost_ret (qai (p:=4) rfl _ _ _ _ rfl (N.row 1 rfl) _ underlying27 rfl (qad _)) rfl ⟨rfl,_,N.nat,N.gr,N.sub⟩)):p:=h
theorem q1g{w:World}{b:Nat}{s:Nt}{F:Nat->Prop}(h:qaw w b s (duF s.fs) F)(fr:ByteArray)(hs:fr.size<=140737488351232)(hnow:0<=s.now/\s.now<=549755813888)(hbg:s.began<700)(hfew:s.fs.length<400)(hst:∀m∈s.ms,0<=m.2.1/\m.2.1<8):Calls prog 55 #[V (some ⟨b,0,none⟩),.string fr] w fun e w'=>e=.returned (.agg (s.inn fr.data.toList).1.cells)/\∃F',qaw w' b (s.inn fr.data.toList).2 (duF (s.inn fr.data.toList).2.fs) F'/\Gr F w w'/\∀c,F' c->F c\/w.heap.size<=c:=by
 have N:=h.start;(have CP:=fun w=>qch fr w hs);(have CT:=fun addr port w=>qvz fr 1 addr port w hs)
 simp only[qgx] at CP
 unfold Nt.inn
 generalize fr.data.toList=l at *
 by_cases hb:bad l=0
 rotate_left
 ·rw[if_pos hb];(have hpr:qb9 l=p0:=by unfold qb9;rw[if_neg hb])
  rw[hpr] at CP
  (have hbb:(bad l != 0)=true:=by simpa using hb);(have CF:=fun w=>qdj (bad l) w)
  rw[←qdo] at CF
  clear hpr hb hs hnow hbg hfew hst CT
  go_enter func55,ntmps55
  go_wp2_with (first|((with_reducible refine gA 27 ?_);refine m0b ?_;clear N;intro b4 w9 N)|(go_at_call 29;refine m1j ?_;clear CP N;intro w5 N)|((with_reducible refine gA 61 ?_);refine m84 ?_;intro b5 w9 l9 R9 h9;refine m1d ?_;clear N R9 h9 l9;intro N)|((with_reducible refine gS 61 5 15 ?_);refine sx 61 (.tmp 5) _ (pcl p0) (N.row 0 rfl) ?_;refine m0j ?_;clear N;intro w9 N)|(go_at_call 53;go_fit (CF _);refine m22 ?_;clear N;intro w5 N)|((with_reducible refine gS 27 4 20 ?_);refine sx 27 (.tmp 4) _ ((qas (bad l)).cells) (N.row 1 rfl) ?_;refine m4z ?_;clear N;intro w9 N))
  (refine m03 ?_;refine bodyPost_ret (qai (p:=4) rfl _ _ _ _ rfl (N.row 1 rfl) _ underlying27 rfl (qad _)) rfl ⟨rfl,_,N.nat,N.gr,N.sub⟩)
 (have hpr:qb9 l=qam l:=by unfold qb9;rw[if_pos hb]);rw[if_neg (fun h=>h hb)]
 rw[hpr,hb] at CP
 have hrg:=(qdu _).1 (qde _ (qqk hb)).2.1;clear hpr hb
 generalize qam l=p at *
 (have CA:=fun w=>qop p.dst w hrg.2.2.1 hrg.2.2.2.1);(have CF7:=fun w=>qdj 7 w);(have CF4:=fun w=>qdj 4 w);(have CF12:=fun w=>qdj 12 w)
 rw[←qdo] at CF7 CF4 CF12
 by_cases ha:0<=p.dst-3405803777/\p.dst-3405803777<3
 rotate_left
 ·rw[if_pos ha]
  rw[decide_eq_false ha] at CA
  clear ha hrg hs hnow hbg hfew hst CT CF4 CF12
  go_enter func55,ntmps55
  go_wp2_with (first|((with_reducible refine gA 27 ?_);refine m0b ?_;clear N;intro b4 w9 N)|(go_at_call 29;refine m1j ?_;clear CP N;intro w5 N)|((with_reducible refine gA 61 ?_);refine m84 ?_;intro b5 w9 l9 R9 h9;refine m1d ?_;clear N R9 h9 l9;intro N)|((with_reducible refine gS 61 5 15 ?_);refine m4h ?_;refine m0j ?_;clear N;intro w9 N)|((with_reducible refine gL 3 22 ?_);refine m7t ?_)|((with_reducible refine gL 3 32 ?_);refine m3f ?_)|((with_reducible refine gL 3 36 ?_);refine m3g ?_)|((with_reducible refine gL 3 42 ?_);refine m3r ?_)|(go_at_call 92;go_fit (CA _);refine m0h ?_)|(go_at_call 53;go_fit (CF7 _);refine m22 ?_;clear N;intro w5 N)|((with_reducible refine gS 27 4 30 ?_);refine sx 27 (.tmp 4) _ ((qas 7).cells) (N.row 1 rfl) ?_;refine m4z ?_;clear N;intro w9 N))
  (refine m03 ?_;refine bodyPost_ret (qai (p:=4) rfl _ _ _ _ rfl (N.row 1 rfl) _ underlying27 rfl (qad _)) rfl ⟨rfl,_,N.nat,N.gr,N.sub⟩)
 rw[if_neg (fun h=>h ha)]
 rw[decide_eq_true ha] at CA
 cases hk:(p.proto==1&&p.flags != 0) with
 | true=>
  rw[if_pos rfl]
  obtain⟨hk1,hk2⟩:(p.proto==1)=true/\(p.flags != 0)=true:=by simpa[Bool.and_eq_true] using hk
  clear ha hrg hs hnow hbg hfew hst CT CF7 CF12 hk
  go_enter func55,ntmps55
  go_wp2_with (first|((with_reducible refine gA 27 ?_);refine m0b ?_;clear N;intro b4 w9 N)|(go_at_call 29;refine m1j ?_;clear CP N;intro w5 N)|((with_reducible refine gA 61 ?_);refine m84 ?_;intro b5 w9 l9 R9 h9;refine m1d ?_;clear N R9 h9 l9;intro N)|((with_reducible refine gS 61 5 15 ?_);refine m4h ?_;refine m0j ?_;clear N;intro w9 N)|((with_reducible refine gL 3 22 ?_);refine m7t ?_)|((with_reducible refine gL 3 32 ?_);refine m3f ?_)|((with_reducible refine gL 3 36 ?_);refine m3g ?_)|((with_reducible refine gL 3 42 ?_);refine m3r ?_)|(go_at_call 92;go_fit (CA _);refine m0h ?_)|(go_at_call 53;go_fit (CF4 _);refine m22 ?_;clear N;intro w5 N)|((with_reducible refine gS 27 4 40 ?_);refine sx 27 (.tmp 4) _ ((qas 4).cells) (N.row 1 rfl) ?_;refine m4z ?_;clear N;intro w9 N))
  (refine m03 ?_;refine bodyPost_ret (qai (p:=4) rfl _ _ _ _ rfl (N.row 1 rfl) _ underlying27 rfl (qad _)) rfl ⟨rfl,_,N.nat,N.gr,N.sub⟩)
 | false=>
  rw[if_neg zm]
  by_cases ht:p.ttl=1
  ·rw[if_pos ht];(have ht2:(p.ttl==1)=true:=by simp[ht]);clear ha hrg hs hnow hbg hfew hst CT CF7 CF4 ht
   cases h1:(p.proto==1) with
   | false=>
    exact sZtn47
   | true=>
    (have h2:(p.flags != 0)=false:=by rw[h1] at hk;simpa using hk)
    exact sZtn47
  ·rw[if_neg ht];(have ht2:(p.ttl==1)=false:=by simp[ht])
   have HK:Hid ((p.proto==1)=false\/(p.proto==1)=true/\(p.flags != 0)=false):=hidN (by
    cases h1:(p.proto==1) with
    | false=>exact .inl rfl
    | true=>rw[h1] at hk;exact .inr ⟨rfl,by simpa using hk⟩)
   clear ht hk CF4 CF12;(have CB:=fun v W hM=>qqr s.f s.g s.h v s.ms p.proto (p.dst-3405803777) p.dport W hM)
   cases hf:s.ms.find? (outS p.proto (p.dst-3405803777) p.dport) with
   | none=>
    rw[hf] at CB
    unfold qhw at CB
    simp only
    clear hf hs hnow hbg hfew hst CT hrg ha
    rcases HK.out with hk1|⟨hk1,hk2⟩
    ·clear HK
     exact sZtn43
    ·clear HK
     exact sZtn43
   | some m=>
    rw[hf] at CB
    unfold qhw at CB
    simp only
    have hm:=hst m (List.mem_of_find?_eq_some hf);(have CL:=fun W F (hN:qaw W b s (duF s.fs) F)=>q4i hN p m hnow hbg hfew);(have hw:wrap64 (167772161+m.2.1)=167772161+m.2.1:=by unfold wrap64;omega)
    obtain⟨cd,s2,hcs⟩:∃cd s2,s.letIn p m=(cd,s2):=⟨_,_,rfl⟩
    rw[hcs] at CL ⊢
    simp only at CL ⊢
    by_cases hc:cd=0
    ·rw[if_neg (fun h=>h hc)]
     subst hc
     clear hf hs hnow hbg hfew hst hrg ha hm hcs
     rcases HK.out with hk1|⟨hk1,hk2⟩
     ·clear HK
      exact sZtn41
     ·clear HK
      exact sZtn41
    ·rw[if_pos hc];(have hc2:(cd != 0)=true:=by simpa using hc);(have CFc:=fun w=>qdj cd w)
     rw[←qdo] at CFc
     clear hf hs hnow hbg hfew hst hrg ha hm hcs hc CT hw
     rcases HK.out with hk1|⟨hk1,hk2⟩
     ·clear HK
      exact sZtn42
     ·clear HK
      exact sZtn42
end Go.Proofs.YtonnjgmognbnbaaGreatDoor
