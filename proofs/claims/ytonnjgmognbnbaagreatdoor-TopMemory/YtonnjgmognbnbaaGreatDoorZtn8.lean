/-
  Of what a law stands on.
-/
import Derived.Test.YtonnjgmognbnbaaGreatDoorZtn5
set_option linter.unusedSimpArgs false
set_option linter.unusedVariables false
namespace Go.Proofs.YtonnjgmognbnbaaGreatDoor
open Go.Value renaming int → I,pointer → V
open Go.IntKind renaming i64 → Z
open _root_.Go.Proofs.Tryz Go.ChangeShapes Go.WideShapes Go.ChangeAt Go.RowKit Go.Maps
set_option maxHeartbeats 16000000
set_option maxRecDepth 100000
variable {p:Prop}
theorem sZtn82(h:p:=by
 refine AR [9] ?_
 refine AP (fun K hK=>?_) ?_
 ·refine m80 ?_;intro w9 B;refine m0g ?_;intro kS
  refine hK.out _ _ kS (fun _=>?_)
  clear hK K;(try simp only[ZZ]);refine AN ?_;clear kS
  first|((go_wp2_with (first|((with_reducible refine gL 52 15 ?_);refine m4k ?_)|(go_at_call 132;refine m5q ?_;clear B;intro w5 F9 B)|(go_at_call 89;refine m5r ?_;clear B;intro w5 F9 B)|((with_reducible refine gA 27 ?_);refine m4a ?_;clear B;intro b16 w9 B)|((with_reducible refine gS 27 16 62 ?_);refine m4l ?_;clear B;intro w9 B)|((with_reducible refine gL 27 16 ?_);refine lx 27 (.tmp 16) (r1.cells) (by first|exact B.row 0 rfl|exact B.row 1 rfl) ?_)|((with_reducible refine gS 27 10 71 ?_);refine sx 27 (.tmp 10) _ (r1.cells) (B.row 4 rfl) ?_;intro w9 R9 t9';replace B:=B.turn 4 rfl R9 t9';clear R9 t9')));(refine m03 ?_;refine bodyPost_ret (qai (p:=10) rfl _ _ _ _ rfl (B.row 4 rfl) _ underlying27 rfl (qad _)) rfl ⟨rfl,_,B.nat,B.gr,B.sub⟩))|(replace B:=B.drew;((go_wp2_with (first|((with_reducible refine gL 52 15 ?_);refine m4k ?_)|(go_at_call 132;refine m5q ?_;clear CB B;intro w5 F9 B)|(go_at_call 89;refine m5r ?_;clear CL B;intro w5 F9 B)|((with_reducible refine gA 27 ?_);refine m4a ?_;clear B;intro b16 w9 B)|((with_reducible refine gS 27 16 62 ?_);refine m4l ?_;clear B;intro w9 B)|((with_reducible refine gL 27 16 ?_);refine lx 27 (.tmp 16) (r1.cells) (by first|exact B.row 0 rfl|exact B.row 1 rfl) ?_)|((with_reducible refine gS 27 10 71 ?_);refine sx 27 (.tmp 10) _ (r1.cells) (B.row 4 rfl) ?_;intro w9 R9 t9';replace B:=B.turn 4 rfl R9 t9';clear R9 t9')));(refine m03 ?_;refine bodyPost_ret (qai (p:=10) rfl _ _ _ _ rfl (B.row 4 rfl) _ underlying27 rfl (qad _)) rfl ⟨rfl,_,B.nat,B.gr,B.sub⟩)))
 exact AZ):p:=h
theorem sZtn81(h:p:=by
 refine AR [18] ?_
 refine AP (fun K hK=>?_) ?_
 ·refine sy 39 (.tmp 11) (.tmp 34) (tc f9 s.g h9 (.slice sa9 n9 c9)) (N.row 1 rfl) ?_;intro w9 R9 t9';(first|replace t9':=qap t9'|skip);replace hM9:=qbg hM9 t9' H11.out;replace N:=N.turn 1 rfl R9 t9';clear R9 t9';(refine m00 ?_;intro kS)
  refine hK.out _ _ kS (fun _=>?_)
  clear hK K;(try simp only[ZZ]);refine AR [19] ?_
  refine AP (fun K hK=>?_) AZ
  refine sy 50 (.tmp 12) (.tmp 35) (mc m9) (N.row 0 rfl) ?_;intro w9 R9 t9';(first|replace t9':=qap t9'|skip);replace hM9:=qbg hM9 t9' H12.out;replace N:=N.turn 0 rfl R9 t9';clear R9 t9';(refine m00 ?_;clear kS;intro kS)
  refine hK.out _ _ kS (fun _=>?_)
  clear hK K;(try simp only[ZZ]);refine tq 20 (.bool false) rfl kS (tq 21 (I Z 0) rfl kS ?_);refine m1f ?_;clear kS
  first|(go_upto_region 7 with(first|((with_reducible refine gL 39 11 ?_);refine m54 ?_)|((with_reducible refine gS 39 47 45 ?_);refine m0p ?_;clear N hM9 H11 H12;intro w9 B)))|(replace N:=N.drew;replace hM9:=hM9.below (Below.refl _ _).drew;go_upto_region 7 with(first|((with_reducible refine gL 39 11 ?_);refine m54 ?_)|((with_reducible refine gS 39 47 45 ?_);refine m0p ?_;clear N hM9 hN9 H9 H7 H10 H11 H12;intro w9 B)))
  have kS:Row 50 _ b12 (mc m9)/\Row 61 _ b7 (pcl p):=⟨B.row 0 rfl,B.row 3 rfl⟩
  refine RD (fun W=>Row 50 W b12 (mc m9)/\Row 61 W b7 (pcl p)) kS (fun _=>?_)
  refine tk 0 (.agg (mc m9)) rfl (yx 50 (.tmp 12) (mc m9) (fun _ h=>h.1)) kS (tq 1 (V (some ⟨b7,3,none⟩)) rfl kS (tk 2 (I Z p.dst) rfl (Or.inl ⟨by kernel_rfl,by intro w hS;have hc:=(hS.2.cell 3).trans (show(pcl p)[3]?=some (I Z p.dst) from rfl);go_simp⟩) kS ?_))
  refine m5i ?_
  refine tq 3 (V (some ⟨b7,4,none⟩)) rfl kS (tk 4 (I Z p.dport) rfl (Or.inl ⟨by kernel_rfl,by intro w hS;have hc:=(hS.2.cell 4).trans (show(pcl p)[4]?=some (I Z p.dport) from rfl);go_simp⟩) kS (tk 5 (.agg (pcl p)) rfl (qav 61 (.tmp 7) rfl kr b7 kr (pcl p) (fun _ h=>h.2) _ underlying61 rfl (qa0 p)) kS ?_))
  refine m5i ?_;refine AR [6,8] ?_
  refine AC (fun K hK=>?_) ?_
  ·refine m39 ?_;clear B;intro w8 B;refine m0g ?_;clear kS;intro kS
   go_wp2_with fail
   refine hK.out _ _ kS (fun _=>?_)
   clear hK K;(try simp only[ZZ]);refine m1v ?_;refine AR [8] ?_
   refine AP (fun K hK=>?_) AZ
   refine m2n ?_;clear B;intro b15 w9 B;refine m0g ?_;clear kS;intro kS
   refine hK.out _ _ kS (fun _=>?_)
   clear hK K;(try simp only[ZZ])
   exact sZtn82
  refine AP (fun K hK=>?_) AZ
  refine m2n ?_;clear B;intro b15 w9 B;refine m0g ?_;clear kS;intro kS
  refine hK.out _ _ kS (fun _=>?_)
  clear hK K;(try simp only[ZZ]);refine AR [6] ?_
  refine AC (fun K hK=>?_) AZ
  refine m39 ?_;clear B;intro w8 B;refine m0g ?_;clear kS;intro kS
  go_wp2_with fail
  refine hK.out _ _ kS (fun _=>?_)
  clear hK K;(try simp only[ZZ]);refine m1v ?_
  exact sZtn82
 exact AZ):p:=h
theorem sZtn83(h:p:=by
 refine hK.out _ _ kS (fun _=>?_)
 clear hK K;(try simp only[ZZ]);refine AR [10] ?_
 refine AC (fun K hK=>?_) ?_
 ·go_simp
  go_at_call 130;(first|refine(CO _ N.m.maps).mono ?_|refine(CO _ N.drew.m.maps).mono ?_);rintro e w8 ⟨sa9,n9,c9,rfl,hM9,hN9,hl9,hb9⟩;refine m01 ?_;clear hb9;intro hb9 H9 H7 H10;(try have H11:Hid (0<ms9.length->b11≠mb (.slice sa9 n9 c9)):=hidN (by first|exact N.notMb hl9 0 rfl|exact N.notMb hl9 1 rfl));(try have H12:Hid (0<ms9.length->b12≠mb (.slice sa9 n9 c9)):=hidN (by first|exact N.notMb hl9 0 rfl|exact N.notMb hl9 1 rfl));replace N:=N.below hb9;clear hb9 hl9;refine m00 ?_;clear kS;intro kS
  go_wp2_with fail
  refine hK.out _ _ kS (fun _=>?_)
  clear hK K;(try simp only[ZZ]);refine m0u ?_
  exact sZtn81
 exact AZ):p:=h
theorem sZtn86(h:p:=by
 refine hK.out _ _ kS (fun _=>?_)
 clear hK K;(try simp only[ZZ])
 exact sZtn81):p:=h
theorem sZtn84(h:p:=by
 refine AR [16] ?_
 refine AP (fun K hK=>?_) ?_
 ·refine m1h ?_;intro b11 w9 l9 R9 h9';(try have H11:Hid (0<ms9.length->b11≠mb (.slice sa9 n9 c9)):=hidN (fun h0=>Nat.ne_of_gt (Nat.lt_of_lt_of_le (hM9.lt h0) l9)));(try replace hM9:=hM9.below h9');have N:=N.alloc (o:=ob 39 tz) l9 R9 h9';(try replace N:Nm _ _ _ _ _ _ _ _ _ _ _ _ _ _ ((b12,_)::(b11,_)::_):=N.perm (List.Perm.swap _ _ _));clear R9 h9' l9;refine m00 ?_;intro kS
  exact sZtn86
 exact AZ):p:=h
theorem sZtn85(h:p:=by
 refine AR [17] ?_
 refine AP (fun K hK=>?_) ?_
 ·refine m1b ?_;intro b12 w9 l9 R9 h9';(try have H12:Hid (0<ms9.length->b12≠mb (.slice sa9 n9 c9)):=hidN (fun h0=>Nat.ne_of_gt (Nat.lt_of_lt_of_le (hM9.lt h0) l9)));(try replace hM9:=hM9.below h9');have N:=N.alloc (o:=ob 50 (mc noM)) l9 R9 h9';clear R9 h9' l9;refine m00 ?_;intro kS
  exact sZtn86
 exact AZ):p:=h
theorem qzq{w:World}{b:Nat}{s:Nt}{F:Nat->Prop}(h:qaw w b s (duF s.fs) F)(fr:ByteArray)(hs:fr.size<=140737488351232)(p:Pkt)(sub draw:Int)(hfull:s.full=false)(hnow:0<=s.now/\s.now<=549755813888)(hbg:s.began+1<700)(hfew:s.fs.length+1<400)(hdst:0<=p.dst/\p.dst<=4294967295)(e9:Int)(f9 h9:Nat->Int)(ms9:List Mp)(m9:Mp)(t9:Bool)(CO:∀(v:Value) W,qaz W v s.ms->qcs v->Calls prog 130 #[.agg (tc s.f s.g s.h v),I Z p.proto,I Z sub,I Z p.sport,I Z draw] W fun e w'=>∃sa n c,e=.returned (.tuple #[.agg (tc f9 s.g h9 (.slice sa n c)),.agg (mc m9),.bool t9,I Z e9])/\qaz w' (.slice sa n c) ms9/\qcs (.slice sa n c)/\(0<ms9.length->W.heap.size<=mb (.slice sa n c)\/(mb (.slice sa n c)=mb v/\0<s.ms.length))/\Below W.heap.size W w')(he:e9=0)(ht:t9=false)(hst:∀m∈ms9,0<=m.2.1/\m.2.1<8)(hka:0<=m9.2.2.2.1/\m9.2.2.2.1<3):Calls prog 91 #[V (some ⟨b,0,none⟩),.string fr,.agg (pcl p),I Z sub,I Z draw] w fun e w'=>e=.returned (.agg (((s.setT f9 h9 ms9).begin (mkF m9 p.dst p.dport (qao p.proto))).leave fr.data.toList (mkF m9 p.dst p.dport (qao p.proto))).1.cells)/\∃F',qaw w' b (((s.setT f9 h9 ms9).begin (mkF m9 p.dst p.dport (qao p.proto))).leave fr.data.toList (mkF m9 p.dst p.dport (qao p.proto))).2 (duF (((s.setT f9 h9 ms9).begin (mkF m9 p.dst p.dport (qao p.proto))).leave fr.data.toList (mkF m9 p.dst p.dport (qao p.proto))).2.fs) F'/\Gr F w w'/\∀c,F' c->F c\/w.heap.size<=c:=by
 obtain⟨s2,HS2⟩:∃s2,(s.setT f9 h9 ms9).begin (mkF m9 p.dst p.dport (qao p.proto))=s2:=⟨_,rfl⟩
 refine m23 ?_;intro CB x1 x2 x3 x4 CL
 skip
 rw[HS2] at *
 generalize s2.leave fr.data.toList (mkF m9 p.dst p.dport (qao p.proto))=r at *
 obtain⟨r1,r2⟩:=r
 simp only at *
 subst he ht
 clear hs hst hka hnow hbg hfew hdst x1 x2 x3 x4 HS2;obtain⟨cs,v,ov,fm,D,Fw0,cnt,M,hF⟩:=h;refine m8l ?_;clear CO;intro CO N CU
 rw[hfull] at CU
 clear M hF hfull
 generalize(fun c=>Fw0 c/\c<w.heap.size)=Fw at *
 go_enter func91,ntmps91
 go_upto_region 3 with(first|((with_reducible refine gB 61 2 ?_);refine m68 ?_;clear N;intro b7 w9 N)|((with_reducible refine gA 27 ?_);refine m6m ?_;clear N;intro b10 w9 N)|(go_at_call 128;go_fit (CU _ _ (qg2 N.m));refine m0h ?_))
 have kS:World.rangeAt _ _ _ _/\Row 61 _ b7 (pcl p):=⟨N.m.tableRange,N.row 1 rfl⟩
 refine RD (fun W=>W.rangeAt b 4 (tc s.f s.g s.h v).toList/\Row 61 W b7 (pcl p)) kS (fun _=>?_)
 refine m26 ?_
 refine tk 3 (.agg (tc s.f s.g s.h v)) rfl (qit (.tmp 25) rfl kr b kr s.f s.g s.h v (fun _ h=>h.1)) kS (tq 4 (V (some ⟨b7,0,none⟩)) rfl kS (tk 5 (I Z p.proto) rfl (Or.inl ⟨by kernel_rfl,by intro w hS;have hc:=(hS.2.cell 0).trans (show(pcl p)[0]?=some (I Z p.proto) from rfl);go_simp⟩) kS ?_))
 refine m16 ?_
 refine AC (fun K hK=>?_) ?_
 ·go_simp
  go_at_call 130;(first|refine(CO _ N.m.maps).mono ?_|refine(CO _ N.drew.m.maps).mono ?_);rintro e w8 ⟨sa9,n9,c9,rfl,hM9,hN9,hl9,hb9⟩;refine m01 ?_;clear hb9;intro hb9 H9 H7 H10;(try have H11:Hid (0<ms9.length->b11≠mb (.slice sa9 n9 c9)):=hidN (by first|exact N.notMb hl9 0 rfl|exact N.notMb hl9 1 rfl));(try have H12:Hid (0<ms9.length->b12≠mb (.slice sa9 n9 c9)):=hidN (by first|exact N.notMb hl9 0 rfl|exact N.notMb hl9 1 rfl));replace N:=N.below hb9;clear hb9 hl9;refine m00 ?_;clear kS;intro kS
  go_wp2_with fail
  refine hK.out _ _ kS (fun _=>?_)
  clear hK K;(try simp only[ZZ]);refine m0u ?_;refine AR [16,17] ?_
  refine AP (fun K hK=>?_) ?_
  ·refine m1h ?_;intro b11 w9 l9 R9 h9';(try have H11:Hid (0<ms9.length->b11≠mb (.slice sa9 n9 c9)):=hidN (fun h0=>Nat.ne_of_gt (Nat.lt_of_lt_of_le (hM9.lt h0) l9)));(try replace hM9:=hM9.below h9');replace N:=N.alloc (o:=ob 39 tz) l9 R9 h9';(try replace N:Nm _ _ _ _ _ _ _ _ _ _ _ _ _ _ ((b12,_)::(b11,_)::_):=N.perm (List.Perm.swap _ _ _));clear R9 h9' l9;refine m00 ?_;clear kS;intro kS
   refine hK.out _ _ kS (fun _=>?_)
   clear hK K;(try simp only[ZZ])
   exact sZtn85
  refine AP (fun K hK=>?_) AZ
  refine m1b ?_;intro b12 w9 l9 R9 h9';(try have H12:Hid (0<ms9.length->b12≠mb (.slice sa9 n9 c9)):=hidN (fun h0=>Nat.ne_of_gt (Nat.lt_of_lt_of_le (hM9.lt h0) l9)));(try replace hM9:=hM9.below h9');replace N:=N.alloc (o:=ob 50 (mc noM)) l9 R9 h9';clear R9 h9' l9;refine m00 ?_;clear kS;intro kS
  refine hK.out _ _ kS (fun _=>?_)
  clear hK K;(try simp only[ZZ])
  exact sZtn84
 refine AP (fun K hK=>?_) ?_
 ·refine m1h ?_;intro b11 w9 l9 R9 h9';(try have H11:Hid (0<ms9.length->b11≠mb (.slice sa9 n9 c9)):=hidN (fun h0=>Nat.ne_of_gt (Nat.lt_of_lt_of_le (hM9.lt h0) l9)));(try replace hM9:=hM9.below h9');replace N:=N.alloc (o:=ob 39 tz) l9 R9 h9';(try replace N:Nm _ _ _ _ _ _ _ _ _ _ _ _ _ _ ((b12,_)::(b11,_)::_):=N.perm (List.Perm.swap _ _ _));clear R9 h9' l9;refine m00 ?_;clear kS;intro kS
  refine hK.out _ _ kS (fun _=>?_)
  clear hK K;(try simp only[ZZ]);refine AR [10,17] ?_
  refine AC (fun K hK=>?_) ?_
  ·go_simp
   go_at_call 130;(first|refine(CO _ N.m.maps).mono ?_|refine(CO _ N.drew.m.maps).mono ?_);rintro e w8 ⟨sa9,n9,c9,rfl,hM9,hN9,hl9,hb9⟩;refine m01 ?_;clear hb9;intro hb9 H9 H7 H10;(try have H11:Hid (0<ms9.length->b11≠mb (.slice sa9 n9 c9)):=hidN (by first|exact N.notMb hl9 0 rfl|exact N.notMb hl9 1 rfl));(try have H12:Hid (0<ms9.length->b12≠mb (.slice sa9 n9 c9)):=hidN (by first|exact N.notMb hl9 0 rfl|exact N.notMb hl9 1 rfl));replace N:=N.below hb9;clear hb9 hl9;refine m00 ?_;clear kS;intro kS
   go_wp2_with fail
   refine hK.out _ _ kS (fun _=>?_)
   clear hK K;(try simp only[ZZ]);refine m0u ?_
   exact sZtn85
  refine AP (fun K hK=>?_) AZ
  refine m1b ?_;intro b12 w9 l9 R9 h9';(try have H12:Hid (0<ms9.length->b12≠mb (.slice sa9 n9 c9)):=hidN (fun h0=>Nat.ne_of_gt (Nat.lt_of_lt_of_le (hM9.lt h0) l9)));(try replace hM9:=hM9.below h9');replace N:=N.alloc (o:=ob 50 (mc noM)) l9 R9 h9';clear R9 h9' l9;refine m00 ?_;clear kS;intro kS
  exact sZtn83
 refine AP (fun K hK=>?_) AZ
 refine m1b ?_;intro b12 w9 l9 R9 h9';(try have H12:Hid (0<ms9.length->b12≠mb (.slice sa9 n9 c9)):=hidN (fun h0=>Nat.ne_of_gt (Nat.lt_of_lt_of_le (hM9.lt h0) l9)));(try replace hM9:=hM9.below h9');replace N:=N.alloc (o:=ob 50 (mc noM)) l9 R9 h9';clear R9 h9' l9;refine m00 ?_;clear kS;intro kS
 refine hK.out _ _ kS (fun _=>?_)
 clear hK K;(try simp only[ZZ]);refine AR [10,16] ?_
 refine AC (fun K hK=>?_) ?_
 ·go_simp
  go_at_call 130;(first|refine(CO _ N.m.maps).mono ?_|refine(CO _ N.drew.m.maps).mono ?_);rintro e w8 ⟨sa9,n9,c9,rfl,hM9,hN9,hl9,hb9⟩;refine m01 ?_;clear hb9;intro hb9 H9 H7 H10;(try have H11:Hid (0<ms9.length->b11≠mb (.slice sa9 n9 c9)):=hidN (by first|exact N.notMb hl9 0 rfl|exact N.notMb hl9 1 rfl));(try have H12:Hid (0<ms9.length->b12≠mb (.slice sa9 n9 c9)):=hidN (by first|exact N.notMb hl9 0 rfl|exact N.notMb hl9 1 rfl));replace N:=N.below hb9;clear hb9 hl9;refine m00 ?_;clear kS;intro kS
  go_wp2_with fail
  refine hK.out _ _ kS (fun _=>?_)
  clear hK K;(try simp only[ZZ]);refine m0u ?_
  exact sZtn84
 refine AP (fun K hK=>?_) AZ
 refine m1h ?_;intro b11 w9 l9 R9 h9';(try have H11:Hid (0<ms9.length->b11≠mb (.slice sa9 n9 c9)):=hidN (fun h0=>Nat.ne_of_gt (Nat.lt_of_lt_of_le (hM9.lt h0) l9)));(try replace hM9:=hM9.below h9');replace N:=N.alloc (o:=ob 39 tz) l9 R9 h9';(try replace N:Nm _ _ _ _ _ _ _ _ _ _ _ _ _ _ ((b12,_)::(b11,_)::_):=N.perm (List.Perm.swap _ _ _));clear R9 h9' l9;refine m00 ?_;clear kS;intro kS
 exact sZtn83
end Go.Proofs.YtonnjgmognbnbaaGreatDoor
