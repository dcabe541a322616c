/-
  Of what a law stands on.
-/
import Derived.Test.YtnicenfgemkdnaaGreatDoorZxn7
set_option linter.unusedSimpArgs false
set_option linter.unusedVariables false
namespace Go.Proofs.YtnicenfgemkdnaaGreatDoor
open _root_.Go.Proofs.Tryz
set_option maxHeartbeats 16000000
set_option maxRecDepth 100000
open Go.ChangeShapes Go.WideShapes Go.ChangeAt Go.RowKit Go.Maps
attribute [local irreducible] Rp.cells tc pc
theorem sZxn82{p:Prop}(h:p:=by
 refine AR [9] ?_
 refine AC (fun K hK=>?_) ?_
 ·rw[if_pos kr]
  refine sy 48 (.tmp 15) (.tmp 55) (fc (mkF m9 p.dst p.dport (qao p.proto))) (B.row 0 rfl) ?_;intro w9 R9 t9';(first|replace t9':=qap t9'|skip);replace B:=B.turn 0 rfl R9 t9';clear R9 t9';replace kS:Row 46 _ b12 (mc m9)/\Row 58 _ b7 (pcl p):=⟨by first|exact B.row 0 rfl|exact B.row 1 rfl,by first|exact B.row 3 rfl|exact B.row 4 rfl⟩
  refine hK.out _ _ kS (fun _=>?_)
  clear hK K
  try simp only[ZZ]
  refine AN ?_
  clear kS
  first|((go_wp2_with (first|((with_reducible refine gL 48 15 ?_);refine lx 48 (.tmp 15) (fc (mkF m9 p.dst p.dport (qao p.proto))) (B.row 0 rfl) ?_)|(go_at_call 137;go_fit (CB _ _ B.nat);rintro e w5 ⟨rfl,F9,hN9',hg9,hf9⟩;clear CB;replace B:=B.call hN9' hg9 hf9;clear hN9' hg9 hf9)|(go_at_call 100;go_fit (CL _ _ B.nat);rintro e w5 ⟨rfl,F9,hN9',hg9,hf9⟩;clear CL;replace B:=B.call hN9' hg9 hf9;clear hN9' hg9 hf9)|((with_reducible refine gA 30 ?_);refine ax 16 30 qan ?_;intro b16 w9 l9 R9 h9';replace B:=B.alloc (o:=ob 30 (qas 0).cells) l9 R9 h9';clear R9 h9' l9)|((with_reducible refine gS 30 16 62 ?_);refine sx 30 (.tmp 16) _ (r1.cells) (B.row 0 rfl) ?_;intro w9 R9 t9';replace B:=B.turn 0 rfl R9 t9';clear R9 t9')|((with_reducible refine gL 46 12 ?_);refine lx 46 (.tmp 12) (mc m9) (B.row 2 rfl) ?_)|(go_at_call 109;go_fit (CE _ _ B.nat);rintro e w5 ⟨rfl,hb9⟩;replace B:=B.below hb9;clear hb9)|((with_reducible refine qaa (.buildSlice 52 1 #[(0,.tmp 67)]) rfl ?_);refine qbj rfl (.tmp 67) rfl (evN r2.now m9 false) rfl ?_;intro b68 w9 l9 R9 h9';replace B:=B.alloc (o:=ob 105 (ec (evN r2.now m9 false))) l9 R9 h9';clear R9 h9' l9)|(go_at_call 110;go_fit (CG _ _ B.nat (hT.gr B.gr h0) _ (qco (B.row 0 rfl)));rintro e w5 ⟨rfl,F9,hN9',hg9,hf9⟩;clear CG;replace B:=B.call hN9' hg9 hf9;clear hN9' hg9 hf9)|((with_reducible refine gS 9 70 69 ?_);refine qbh (B.row 1 rfl) rfl (.tmp 70) (.tmp 69) rfl 3 rfl lg1 rfl _ (qb2 _) _ (qdl _ _) ?_;intro w9 R9 t9';replace B:=B.turn 1 rfl R9 t9';clear R9 t9')|((with_reducible refine gL 30 16 ?_);refine lx 30 (.tmp 16) (Rp.cells ⟨r1.code,r1.fr,r1.inn,lg1⟩) (by first|exact B.row 0 rfl|exact B.row 1 rfl) ?_)|((with_reducible refine gS 30 10 71 ?_);refine sx 30 (.tmp 10) _ (Rp.cells ⟨r1.code,r1.fr,r1.inn,lg1⟩) (B.row 5 rfl) ?_;intro w9 R9 t9';replace B:=B.turn 5 rfl R9 t9';clear R9 t9')));((try simp only[Exit.inBlock,Exit.then]);refine bodyPost_ret (qai (p:=10) rfl _ _ _ _ rfl (B.row 5 rfl) _ underlying30 rfl (qad _)) rfl ⟨rfl,_,B.nat,B.gr,B.sub⟩))|(replace B:=B.drew;((go_wp2_with (first|((with_reducible refine gL 48 15 ?_);refine lx 48 (.tmp 15) (fc (mkF m9 p.dst p.dport (qao p.proto))) (B.row 0 rfl) ?_)|(go_at_call 137;go_fit (CB _ _ B.nat);rintro e w5 ⟨rfl,F9,hN9',hg9,hf9⟩;clear CB;replace B:=B.call hN9' hg9 hf9;clear hN9' hg9 hf9)|(go_at_call 100;go_fit (CL _ _ B.nat);rintro e w5 ⟨rfl,F9,hN9',hg9,hf9⟩;clear CL;replace B:=B.call hN9' hg9 hf9;clear hN9' hg9 hf9)|((with_reducible refine gA 30 ?_);refine ax 16 30 qan ?_;intro b16 w9 l9 R9 h9';replace B:=B.alloc (o:=ob 30 (qas 0).cells) l9 R9 h9';clear R9 h9' l9)|((with_reducible refine gS 30 16 62 ?_);refine sx 30 (.tmp 16) _ (r1.cells) (B.row 0 rfl) ?_;intro w9 R9 t9';replace B:=B.turn 0 rfl R9 t9';clear R9 t9')|((with_reducible refine gL 46 12 ?_);refine lx 46 (.tmp 12) (mc m9) (B.row 2 rfl) ?_)|(go_at_call 109;go_fit (CE _ _ B.nat);rintro e w5 ⟨rfl,hb9⟩;replace B:=B.below hb9;clear hb9)|((with_reducible refine qaa (.buildSlice 52 1 #[(0,.tmp 67)]) rfl ?_);refine qbj rfl (.tmp 67) rfl (evN r2.now m9 false) rfl ?_;intro b68 w9 l9 R9 h9';replace B:=B.alloc (o:=ob 105 (ec (evN r2.now m9 false))) l9 R9 h9';clear R9 h9' l9)|(go_at_call 110;go_fit (CG _ _ B.nat (hT.gr B.gr h0) _ (qco (B.row 0 rfl)));rintro e w5 ⟨rfl,F9,hN9',hg9,hf9⟩;clear CG;replace B:=B.call hN9' hg9 hf9;clear hN9' hg9 hf9)|((with_reducible refine gS 9 70 69 ?_);refine qbh (B.row 1 rfl) rfl (.tmp 70) (.tmp 69) rfl 3 rfl lg1 rfl _ (qb2 _) _ (qdl _ _) ?_;intro w9 R9 t9';replace B:=B.turn 1 rfl R9 t9';clear R9 t9')|((with_reducible refine gL 30 16 ?_);refine lx 30 (.tmp 16) (Rp.cells ⟨r1.code,r1.fr,r1.inn,lg1⟩) (by first|exact B.row 0 rfl|exact B.row 1 rfl) ?_)|((with_reducible refine gS 30 10 71 ?_);refine sx 30 (.tmp 10) _ (Rp.cells ⟨r1.code,r1.fr,r1.inn,lg1⟩) (B.row 5 rfl) ?_;intro w9 R9 t9';replace B:=B.turn 5 rfl R9 t9';clear R9 t9')));((try simp only[Exit.inBlock,Exit.then]);refine bodyPost_ret (qai (p:=10) rfl _ _ _ _ rfl (B.row 5 rfl) _ underlying30 rfl (qad _)) rfl ⟨rfl,_,B.nat,B.gr,B.sub⟩)))
 exact AZ):p:=h
theorem sZxn81{p:Prop}(h:p:=by
 refine AR [18] ?_
 refine AC (fun K hK=>?_) ?_
 ·rw[if_pos kr]
  refine qau 39 (.tmp 11) (.tmp 34) rfl b11 kr (tc f9 s.g h9 (.slice sa9 n9 c9)) kr _ (N.row 1 rfl) (qel _ _ _ _) (qaq _ _ _ _) (qbm _ _ _ _ _ _) ?_;intro w9 R9 t9';(first|replace t9':=qap t9'|skip);replace hM9:=qbg hM9 t9' H11.out;replace N:=N.turn 1 rfl R9 t9';clear R9 t9';replace kS:World.rangeAt _ _ _ _/\Row 58 _ b7 (pcl p):=⟨N.m.tableRange,by first|exact N.row 1 rfl|exact N.row 2 rfl|exact N.row 3 rfl⟩
  refine hK.out _ _ kS (fun _=>?_)
  clear hK K
  try simp only[ZZ]
  refine AR [19] ?_
  refine AC (fun K hK=>?_) ?_
  ·rw[if_pos kr]
   refine sy 46 (.tmp 12) (.tmp 35) (mc m9) (N.row 0 rfl) ?_;intro w9 R9 t9';(first|replace t9':=qap t9'|skip);replace hM9:=qbg hM9 t9' H12.out;replace N:=N.turn 0 rfl R9 t9';clear R9 t9';replace kS:World.rangeAt _ _ _ _/\Row 58 _ b7 (pcl p):=⟨N.m.tableRange,by first|exact N.row 1 rfl|exact N.row 2 rfl|exact N.row 3 rfl⟩
   refine hK.out _ _ kS (fun _=>?_)
   clear hK K
   try simp only[ZZ]
   refine tq 20 (.bool true) rfl kS (tq 21 (.int .i64 0) rfl kS ?_)
   simp only[ZZ]
   refine AN ?_
   clear kS
   first|(go_upto_region 7 with(first|((with_reducible refine gL 39 11 ?_);refine lx 39 (.tmp 11) (tc f9 s.g h9 (.slice sa9 n9 c9)) (N.row 1 rfl) ?_)|((with_reducible refine gS 39 47 45 ?_);refine qbc rfl (.tmp 47) (.tmp 45) rfl b cs N.m.row N.m.size rfl f9 s.g h9 sa9 n9 c9 rfl ?_;intro w9 R9 t9' hc9;have B:Nb w _ b (s.setT f9 h9 ms9) (duF (s.setT f9 h9 ms9).fs) F _ _:=(N.tableO f9 s.g h9 (.slice sa9 n9 c9) ms9 _ (by rw[qcg];exact Nat.le_refl _) R9 t9' hc9 hM9 hN9 H9.out (fun h0=>qd9 (H12.out h0) (H11.out h0) (H10.out h0) (H7.out h0))).nb;clear N R9 t9' hc9 hM9 hN9 H9 H7 H10 H11 H12)))|(replace N:=N.drew;replace hM9:=hM9.below (Below.refl _ _).drew;go_upto_region 7 with(first|((with_reducible refine gL 39 11 ?_);refine lx 39 (.tmp 11) (tc f9 s.g h9 (.slice sa9 n9 c9)) (N.row 1 rfl) ?_)|((with_reducible refine gS 39 47 45 ?_);refine qbc rfl (.tmp 47) (.tmp 45) rfl b cs N.m.row N.m.size rfl f9 s.g h9 sa9 n9 c9 rfl ?_;intro w9 R9 t9' hc9;have B:Nb w _ b (s.setT f9 h9 ms9) (duF (s.setT f9 h9 ms9).fs) F _ _:=(N.tableO f9 s.g h9 (.slice sa9 n9 c9) ms9 _ (by rw[qcg];exact Nat.le_refl _) R9 t9' hc9 hM9 hN9 H9.out (fun h0=>qd9 (H12.out h0) (H11.out h0) (H10.out h0) (H7.out h0))).nb;clear N R9 t9' hc9 hM9 hN9 H9 H7 H10 H11 H12)))
   have kS:Row 46 _ b12 (mc m9)/\Row 58 _ b7 (pcl p):=⟨B.row 0 rfl,B.row 3 rfl⟩
   refine RD (fun W=>Row 46 W b12 (mc m9)/\Row 58 W b7 (pcl p)) kS (fun _=>?_)
   refine tk 0 (.agg (mc m9)) rfl (yx 46 (.tmp 12) (mc m9) (fun _ h=>h.1)) kS (tq 1 (.pointer (some ⟨b7,3,none⟩)) rfl kS (tk 2 (.int .i64 p.dst) rfl (Or.inl ⟨by kernel_rfl,by intro w hS;have hc:=(hS.2.cell 3).trans (show(pcl p)[3]?=some (.int .i64 p.dst) from rfl);go_simp⟩) kS ?_))
   simp only[ZZ]
   refine tq 3 (.pointer (some ⟨b7,4,none⟩)) rfl kS (tk 4 (.int .i64 p.dport) rfl (Or.inl ⟨by kernel_rfl,by intro w hS;have hc:=(hS.2.cell 4).trans (show(pcl p)[4]?=some (.int .i64 p.dport) from rfl);go_simp⟩) kS (tk 5 (.agg (pcl p)) rfl (qav 58 (.tmp 7) rfl kr b7 kr (pcl p) (fun _ h=>h.2) _ underlying58 rfl (qa0 p)) kS ?_))
   simp only[ZZ]
   refine AR [6,8] ?_
   refine AC (fun K hK=>?_) ?_
   ·go_simp
    go_at_call 136;refine(qcd p _).mono ?_;rintro e w8 ⟨rfl,hb9⟩;(first|replace hb9:=qaj hb9|skip);replace B:=B.below hb9;clear hb9;replace kS:Row 46 _ b12 (mc m9)/\Row 58 _ b7 (pcl p):=⟨by first|exact B.row 0 rfl|exact B.row 1 rfl,by first|exact B.row 3 rfl|exact B.row 4 rfl⟩
    go_wp2_with fail
    refine hK.out _ _ kS (fun _=>?_)
    clear hK K
    try simp only[ZZ]
    refine tk 7 (.agg (fc (mkF m9 p.dst p.dport (qao p.proto)))) rfl (qbn (.tmp 48) (.tmp 50) (.tmp 52) (.tmp 54) rfl kr m9 p.dst p.dport (qao p.proto) kr kr kr kr) kS ?_
    simp only[ZZ]
    refine AR [8] ?_
    refine AC (fun K hK=>?_) ?_
    ·rw[if_pos kr]
     refine qax 48 rfl (fc fl0) qbr ?_;intro b15 w9 l9 R9 h9';(first|replace h9':=qaj h9'|skip);replace B:=B.alloc (o:=ob 48 (fc fl0)) l9 R9 h9';clear R9 h9' l9;replace kS:Row 46 _ b12 (mc m9)/\Row 58 _ b7 (pcl p):=⟨by first|exact B.row 0 rfl|exact B.row 1 rfl,by first|exact B.row 3 rfl|exact B.row 4 rfl⟩
     refine hK.out _ _ kS (fun _=>?_)
     clear hK K
     try simp only[ZZ]
     exact sZxn82
    exact AZ
   refine AC (fun K hK=>?_) ?_
   ·rw[if_pos kr]
    refine qax 48 rfl (fc fl0) qbr ?_;intro b15 w9 l9 R9 h9';(first|replace h9':=qaj h9'|skip);replace B:=B.alloc (o:=ob 48 (fc fl0)) l9 R9 h9';clear R9 h9' l9;replace kS:Row 46 _ b12 (mc m9)/\Row 58 _ b7 (pcl p):=⟨by first|exact B.row 0 rfl|exact B.row 1 rfl,by first|exact B.row 3 rfl|exact B.row 4 rfl⟩
    refine hK.out _ _ kS (fun _=>?_)
    clear hK K
    try simp only[ZZ]
    refine AR [6] ?_
    refine AC (fun K hK=>?_) ?_
    ·go_simp
     go_at_call 136;refine(qcd p _).mono ?_;rintro e w8 ⟨rfl,hb9⟩;(first|replace hb9:=qaj hb9|skip);replace B:=B.below hb9;clear hb9;replace kS:Row 46 _ b12 (mc m9)/\Row 58 _ b7 (pcl p):=⟨by first|exact B.row 0 rfl|exact B.row 1 rfl,by first|exact B.row 3 rfl|exact B.row 4 rfl⟩
     go_wp2_with fail
     refine hK.out _ _ kS (fun _=>?_)
     clear hK K
     try simp only[ZZ]
     refine tk 7 (.agg (fc (mkF m9 p.dst p.dport (qao p.proto)))) rfl (qbn (.tmp 48) (.tmp 50) (.tmp 52) (.tmp 54) rfl kr m9 p.dst p.dport (qao p.proto) kr kr kr kr) kS ?_
     simp only[ZZ]
     exact sZxn82
    exact AZ
   exact AZ
  exact AZ
 exact AZ):p:=h
theorem sZxn83{p:Prop}(h:p:=by
 refine hK.out _ _ kS (fun _=>?_)
 clear hK K
 try simp only[ZZ]
 refine AR [10] ?_
 refine AC (fun K hK=>?_) ?_
 ·go_simp
  go_at_call 135;(first|refine(CO _ N.m.maps).mono ?_|refine(CO _ N.drew.m.maps).mono ?_);rintro e w8 ⟨sa9,n9,c9,rfl,hM9,hN9,hl9,hb9⟩;(first|replace hb9:=qaj hb9|skip);have H9:Hid _:=hidN (N.old hl9);have H7:Hid (0<ms9.length->b7≠mb (.slice sa9 n9 c9)):=hidN (by first|exact N.notMb hl9 1 rfl|exact N.notMb hl9 2 rfl|exact N.notMb hl9 3 rfl);have H10:Hid (0<ms9.length->b10≠mb (.slice sa9 n9 c9)):=hidN (by first|exact N.notMb hl9 0 rfl|exact N.notMb hl9 1 rfl|exact N.notMb hl9 2 rfl);(try have H11:Hid (0<ms9.length->b11≠mb (.slice sa9 n9 c9)):=hidN (by first|exact N.notMb hl9 0 rfl|exact N.notMb hl9 1 rfl));(try have H12:Hid (0<ms9.length->b12≠mb (.slice sa9 n9 c9)):=hidN (by first|exact N.notMb hl9 0 rfl|exact N.notMb hl9 1 rfl));replace N:=N.below hb9;clear hb9 hl9;replace kS:World.rangeAt _ _ _ _/\Row 58 _ b7 (pcl p):=⟨N.m.tableRange,by first|exact N.row 1 rfl|exact N.row 2 rfl|exact N.row 3 rfl⟩
  go_wp2_with fail
  refine hK.out _ _ kS (fun _=>?_)
  clear hK K
  try simp only[ZZ]
  refine tq 11 (.tuple #[.agg (tc f9 s.g h9 (.slice sa9 n9 c9)),.agg (mc m9),.bool true,.int .i64 0]) rfl kS (tq 12 (.agg (tc f9 s.g h9 (.slice sa9 n9 c9))) rfl kS (tq 13 (.agg (mc m9)) rfl kS ?_))
  simp only[ZZ]
  refine tq 14 (.bool true) rfl kS (tq 15 (.int .i64 0) rfl kS ?_)
  simp only[ZZ]
  exact sZxn81
 exact AZ):p:=h
theorem sZxn86{p:Prop}(h:p:=by
 refine hK.out _ _ kS (fun _=>?_)
 clear hK K
 try simp only[ZZ]
 exact sZxn81):p:=h
theorem sZxn84{p:Prop}(h:p:=by
 refine AR [16] ?_
 refine AC (fun K hK=>?_) ?_
 ·rw[if_pos kr]
  refine qax 39 rfl tz qbp ?_;intro b11 w9 l9 R9 h9';(first|replace h9':=qaj h9'|skip);(try have H11:Hid (0<ms9.length->b11≠mb (.slice sa9 n9 c9)):=hidN (fun h0=>Nat.ne_of_gt (Nat.lt_of_lt_of_le (hM9.lt h0) l9)));(try replace hM9:=hM9.below h9');replace N:=N.alloc (o:=ob 39 tz) l9 R9 h9';clear R9 h9' l9;(try replace N:Nm _ _ _ _ _ _ _ _ _ _ _ _ _ _ ((b12,_)::(b11,_)::_):=N.perm (List.Perm.swap _ _ _));replace kS:World.rangeAt _ _ _ _/\Row 58 _ b7 (pcl p):=⟨N.m.tableRange,by first|exact N.row 1 rfl|exact N.row 2 rfl|exact N.row 3 rfl⟩
  exact sZxn86
 exact AZ):p:=h
theorem sZxn85{p:Prop}(h:p:=by
 refine AR [17] ?_
 refine AC (fun K hK=>?_) ?_
 ·rw[if_pos kr]
  refine qax 46 rfl (mc noM) qci ?_;intro b12 w9 l9 R9 h9';(first|replace h9':=qaj h9'|skip);(try have H12:Hid (0<ms9.length->b12≠mb (.slice sa9 n9 c9)):=hidN (fun h0=>Nat.ne_of_gt (Nat.lt_of_lt_of_le (hM9.lt h0) l9)));(try replace hM9:=hM9.below h9');replace N:=N.alloc (o:=ob 46 (mc noM)) l9 R9 h9';clear R9 h9' l9;replace kS:World.rangeAt _ _ _ _/\Row 58 _ b7 (pcl p):=⟨N.m.tableRange,by first|exact N.row 1 rfl|exact N.row 2 rfl|exact N.row 3 rfl⟩
  exact sZxn86
 exact AZ):p:=h
theorem q0v{w:World}{b:Nat}{s:Nt}{F:Nat->Prop}(h:qaw w b s (duF s.fs) F)(fr:ByteArray)(hs:fr.size<=140737488351232)(p:Pkt)(sub draw:Int)(hfull:s.full=false)(hnow:0<=s.now/\s.now<=549755813888)(hbg:s.began+1<700)(hfew:s.fs.length+1<400)(hdst:0<=p.dst/\p.dst<=4294967295)(e9:Int)(f9 h9:Nat->Int)(ms9:List Mp)(m9:Mp)(t9:Bool)(CO:∀(v:Value) W,qaz W v s.ms->qcs v->Calls prog 135 #[.agg (tc s.f s.g s.h v),.int .i64 p.proto,.int .i64 sub,.int .i64 p.sport,.int .i64 draw] W fun e w'=>∃sa n c,e=.returned (.tuple #[.agg (tc f9 s.g h9 (.slice sa n c)),.agg (mc m9),.bool t9,.int .i64 e9])/\qaz w' (.slice sa n c) ms9/\qcs (.slice sa n c)/\(0<ms9.length->W.heap.size<=mb (.slice sa n c)\/(mb (.slice sa n c)=mb v/\0<s.ms.length))/\Below W.heap.size W w')(he:e9=0)(ht:t9=true)(hst:∀m∈ms9,0<=m.2.1/\m.2.1<8)(hka:0<=m9.2.2.2.1/\m9.2.2.2.1<3)(hT:Tab w)(h0:¬F 0)(hq:1024<=m9.2.2.2.2/\m9.2.2.2.2<1072)(hlg:(((s.setT f9 h9 ms9).begin (mkF m9 p.dst p.dport (qao p.proto))).leave fr.data.toList (mkF m9 p.dst p.dport (qao p.proto))).2.logged<=100000):Calls prog 102 #[.pointer (some ⟨b,0,none⟩),.string fr,.agg (pcl p),.int .i64 sub,.int .i64 draw] w fun e w'=>e=.returned (.agg (Rp.cells ⟨(((s.setT f9 h9 ms9).begin (mkF m9 p.dst p.dport (qao p.proto))).leave fr.data.toList (mkF m9 p.dst p.dport (qao p.proto))).1.code,(((s.setT f9 h9 ms9).begin (mkF m9 p.dst p.dport (qao p.proto))).leave fr.data.toList (mkF m9 p.dst p.dport (qao p.proto))).1.fr,(((s.setT f9 h9 ms9).begin (mkF m9 p.dst p.dport (qao p.proto))).leave fr.data.toList (mkF m9 p.dst p.dport (qao p.proto))).1.inn,((((s.setT f9 h9 ms9).begin (mkF m9 p.dst p.dport (qao p.proto))).leave fr.data.toList (mkF m9 p.dst p.dport (qao p.proto))).2.log [evN (((s.setT f9 h9 ms9).begin (mkF m9 p.dst p.dport (qao p.proto))).leave fr.data.toList (mkF m9 p.dst p.dport (qao p.proto))).2.now m9 false]).1⟩))/\∃F',qaw w' b ((((s.setT f9 h9 ms9).begin (mkF m9 p.dst p.dport (qao p.proto))).leave fr.data.toList (mkF m9 p.dst p.dport (qao p.proto))).2.log [evN (((s.setT f9 h9 ms9).begin (mkF m9 p.dst p.dport (qao p.proto))).leave fr.data.toList (mkF m9 p.dst p.dport (qao p.proto))).2.now m9 false]).2 (duF ((((s.setT f9 h9 ms9).begin (mkF m9 p.dst p.dport (qao p.proto))).leave fr.data.toList (mkF m9 p.dst p.dport (qao p.proto))).2.log [evN (((s.setT f9 h9 ms9).begin (mkF m9 p.dst p.dport (qao p.proto))).leave fr.data.toList (mkF m9 p.dst p.dport (qao p.proto))).2.now m9 false]).2.fs) F'/\Gr F w w'/\∀c,F' c->F c\/w.heap.size<=c:=by
 obtain⟨s2,HS2⟩:∃s2,(s.setT f9 h9 ms9).begin (mkF m9 p.dst p.dport (qao p.proto))=s2:=⟨_,rfl⟩
 have CB:=fun W F (hN:qaw W b (s.setT f9 h9 ms9) (duF (s.setT f9 h9 ms9).fs) F)=>qlz hN (mkF m9 p.dst p.dport (qao p.proto)) (by show s.fs.length<400;omega) (by show s.began<700;omega) hnow
 have x1:s2.now=s.now:=by rw[←HS2];rfl
 have x2:s2.began=s.began+1:=by rw[←HS2];rfl
 have x3:s2.fs.length=s.fs.length+1:=by rw[←HS2];simp[Nt.begin,Nt.setT]
 have x4:s2.ms=ms9:=by rw[←HS2];rfl
 have CL:=fun W F (hN:qaw W b s2 (duF s2.fs) F)=>qn8 hN fr hs (mkF m9 p.dst p.dport (qao p.proto)) hdst hka (by rw[x1];exact hnow) om om (by rw[x4];exact hst)
 rw[HS2] at hlg
 rw[HS2] at *
 generalize s2.leave fr.data.toList (mkF m9 p.dst p.dport (qao p.proto))=r at *
 obtain⟨r1,r2⟩:=r
 simp only at *
 have CE:=fun W F (hN:qaw W b r2 (duF r2.fs) F)=>qtn hN m9 false hq
 have CG:=fun W F (hN:qaw W b r2 (duF r2.fs) F) (hT:Tab W) sl hE=>qxx hN hT sl [evN r2.now m9 false] hE zm hlg
 have hfs:(r2.log [evN r2.now m9 false]).2.fs=r2.fs:=by unfold Nt.log;split<;>rfl
 rw[hfs]
 generalize hlgg:r2.log [evN r2.now m9 false]=lgg at *
 obtain⟨lg1,lg2⟩:=lgg
 simp only at *
 clear hlgg hfs hlg hq
 subst he ht
 clear hs hst hka hnow hbg hfew hdst x1 x2 x3 x4 HS2
 obtain⟨cs,v,ov,fm,D,Fw0,cnt,M,hF⟩:=h
 replace CO:=fun W hM=>CO v W hM M.nil
 have N:=Nm.start M hF
 have CU:=fun W F (hN:qaw W b s (duF s.fs) F)=>qlu hN
 rw[hfull] at CU
 clear M hF hfull
 generalize(fun c=>Fw0 c/\c<w.heap.size)=Fw at *
 go_enter func102,ntmps102
 go_upto_region 3 with(first|((with_reducible refine gB 58 2 ?_);refine bx 58 (.tmp 2) (pcl p) ?_;intro b7 w9 l9 R9 h9';replace N:=N.alloc (o:=ob 58 (pcl p)) l9 R9 h9';clear R9 h9' l9)|((with_reducible refine gA 30 ?_);refine ax 10 30 qan ?_;intro b10 w9 l9 R9 h9';replace N:=N.alloc (o:=ob 30 (qas 0).cells) l9 R9 h9';clear R9 h9' l9)|(go_at_call 133;go_fit (CU _ _ (qg2 N.m));rintro e w5 ⟨rfl,hw⟩;rw[hw];clear hw w5))
 have kS:World.rangeAt _ _ _ _/\Row 58 _ b7 (pcl p):=⟨N.m.tableRange,N.row 1 rfl⟩
 refine RD (fun W=>W.rangeAt b 4 (tc s.f s.g s.h v).toList/\Row 58 W b7 (pcl p)) kS (fun _=>?_)
 refine tq 0 (.pointer (some ⟨b,0,none⟩)) rfl kS (tq 1 (.pointer (some ⟨b,0,none⟩)) rfl kS (tq 2 (.pointer (some ⟨b,4,none⟩)) rfl kS ?_))
 simp only[ZZ]
 refine tk 3 (.agg (tc s.f s.g s.h v)) rfl (qit (.tmp 25) rfl kr b kr s.f s.g s.h v (fun _ h=>h.1)) kS (tq 4 (.pointer (some ⟨b7,0,none⟩)) rfl kS (tk 5 (.int .i64 p.proto) rfl (Or.inl ⟨by kernel_rfl,by intro w hS;have hc:=(hS.2.cell 0).trans (show(pcl p)[0]?=some (.int .i64 p.proto) from rfl);go_simp⟩) kS ?_))
 simp only[ZZ]
 refine tq 6 (.int .i64 sub) rfl kS (tq 7 (.pointer (some ⟨b7,2,none⟩)) rfl kS (tk 8 (.int .i64 p.sport) rfl (Or.inl ⟨by kernel_rfl,by intro w hS;have hc:=(hS.2.cell 2).trans (show(pcl p)[2]?=some (.int .i64 p.sport) from rfl);go_simp⟩) kS ?_))
 simp only[ZZ]
 refine tq 9 (.int .i64 draw) rfl kS ?_
 simp only[ZZ]
 refine AR [10,16,17] ?_
 refine AC (fun K hK=>?_) ?_
 ·go_simp
  go_at_call 135;(first|refine(CO _ N.m.maps).mono ?_|refine(CO _ N.drew.m.maps).mono ?_);rintro e w8 ⟨sa9,n9,c9,rfl,hM9,hN9,hl9,hb9⟩;(first|replace hb9:=qaj hb9|skip);have H9:Hid _:=hidN (N.old hl9);have H7:Hid (0<ms9.length->b7≠mb (.slice sa9 n9 c9)):=hidN (by first|exact N.notMb hl9 1 rfl|exact N.notMb hl9 2 rfl|exact N.notMb hl9 3 rfl);have H10:Hid (0<ms9.length->b10≠mb (.slice sa9 n9 c9)):=hidN (by first|exact N.notMb hl9 0 rfl|exact N.notMb hl9 1 rfl|exact N.notMb hl9 2 rfl);(try have H11:Hid (0<ms9.length->b11≠mb (.slice sa9 n9 c9)):=hidN (by first|exact N.notMb hl9 0 rfl|exact N.notMb hl9 1 rfl));(try have H12:Hid (0<ms9.length->b12≠mb (.slice sa9 n9 c9)):=hidN (by first|exact N.notMb hl9 0 rfl|exact N.notMb hl9 1 rfl));replace N:=N.below hb9;clear hb9 hl9;replace kS:World.rangeAt _ _ _ _/\Row 58 _ b7 (pcl p):=⟨N.m.tableRange,by first|exact N.row 1 rfl|exact N.row 2 rfl|exact N.row 3 rfl⟩
  go_wp2_with fail
  refine hK.out _ _ kS (fun _=>?_)
  clear hK K
  try simp only[ZZ]
  refine tq 11 (.tuple #[.agg (tc f9 s.g h9 (.slice sa9 n9 c9)),.agg (mc m9),.bool true,.int .i64 0]) rfl kS (tq 12 (.agg (tc f9 s.g h9 (.slice sa9 n9 c9))) rfl kS (tq 13 (.agg (mc m9)) rfl kS ?_))
  simp only[ZZ]
  refine tq 14 (.bool true) rfl kS (tq 15 (.int .i64 0) rfl kS ?_)
  simp only[ZZ]
  refine AR [16,17] ?_
  refine AC (fun K hK=>?_) ?_
  ·rw[if_pos kr]
   refine qax 39 rfl tz qbp ?_;intro b11 w9 l9 R9 h9';(first|replace h9':=qaj h9'|skip);(try have H11:Hid (0<ms9.length->b11≠mb (.slice sa9 n9 c9)):=hidN (fun h0=>Nat.ne_of_gt (Nat.lt_of_lt_of_le (hM9.lt h0) l9)));(try replace hM9:=hM9.below h9');replace N:=N.alloc (o:=ob 39 tz) l9 R9 h9';clear R9 h9' l9;(try replace N:Nm _ _ _ _ _ _ _ _ _ _ _ _ _ _ ((b12,_)::(b11,_)::_):=N.perm (List.Perm.swap _ _ _));replace kS:World.rangeAt _ _ _ _/\Row 58 _ b7 (pcl p):=⟨N.m.tableRange,by first|exact N.row 1 rfl|exact N.row 2 rfl|exact N.row 3 rfl⟩
   refine hK.out _ _ kS (fun _=>?_)
   clear hK K
   try simp only[ZZ]
   exact sZxn85
  refine AC (fun K hK=>?_) ?_
  ·rw[if_pos kr]
   refine qax 46 rfl (mc noM) qci ?_;intro b12 w9 l9 R9 h9';(first|replace h9':=qaj h9'|skip);(try have H12:Hid (0<ms9.length->b12≠mb (.slice sa9 n9 c9)):=hidN (fun h0=>Nat.ne_of_gt (Nat.lt_of_lt_of_le (hM9.lt h0) l9)));(try replace hM9:=hM9.below h9');replace N:=N.alloc (o:=ob 46 (mc noM)) l9 R9 h9';clear R9 h9' l9;replace kS:World.rangeAt _ _ _ _/\Row 58 _ b7 (pcl p):=⟨N.m.tableRange,by first|exact N.row 1 rfl|exact N.row 2 rfl|exact N.row 3 rfl⟩
   refine hK.out _ _ kS (fun _=>?_)
   clear hK K
   try simp only[ZZ]
   exact sZxn84
  exact AZ
 refine AC (fun K hK=>?_) ?_
 ·rw[if_pos kr]
  refine qax 39 rfl tz qbp ?_;intro b11 w9 l9 R9 h9';(first|replace h9':=qaj h9'|skip);(try have H11:Hid (0<ms9.length->b11≠mb (.slice sa9 n9 c9)):=hidN (fun h0=>Nat.ne_of_gt (Nat.lt_of_lt_of_le (hM9.lt h0) l9)));(try replace hM9:=hM9.below h9');replace N:=N.alloc (o:=ob 39 tz) l9 R9 h9';clear R9 h9' l9;(try replace N:Nm _ _ _ _ _ _ _ _ _ _ _ _ _ _ ((b12,_)::(b11,_)::_):=N.perm (List.Perm.swap _ _ _));replace kS:World.rangeAt _ _ _ _/\Row 58 _ b7 (pcl p):=⟨N.m.tableRange,by first|exact N.row 1 rfl|exact N.row 2 rfl|exact N.row 3 rfl⟩
  refine hK.out _ _ kS (fun _=>?_)
  clear hK K
  try simp only[ZZ]
  refine AR [10,17] ?_
  refine AC (fun K hK=>?_) ?_
  ·go_simp
   go_at_call 135;(first|refine(CO _ N.m.maps).mono ?_|refine(CO _ N.drew.m.maps).mono ?_);rintro e w8 ⟨sa9,n9,c9,rfl,hM9,hN9,hl9,hb9⟩;(first|replace hb9:=qaj hb9|skip);have H9:Hid _:=hidN (N.old hl9);have H7:Hid (0<ms9.length->b7≠mb (.slice sa9 n9 c9)):=hidN (by first|exact N.notMb hl9 1 rfl|exact N.notMb hl9 2 rfl|exact N.notMb hl9 3 rfl);have H10:Hid (0<ms9.length->b10≠mb (.slice sa9 n9 c9)):=hidN (by first|exact N.notMb hl9 0 rfl|exact N.notMb hl9 1 rfl|exact N.notMb hl9 2 rfl);(try have H11:Hid (0<ms9.length->b11≠mb (.slice sa9 n9 c9)):=hidN (by first|exact N.notMb hl9 0 rfl|exact N.notMb hl9 1 rfl));(try have H12:Hid (0<ms9.length->b12≠mb (.slice sa9 n9 c9)):=hidN (by first|exact N.notMb hl9 0 rfl|exact N.notMb hl9 1 rfl));replace N:=N.below hb9;clear hb9 hl9;replace kS:World.rangeAt _ _ _ _/\Row 58 _ b7 (pcl p):=⟨N.m.tableRange,by first|exact N.row 1 rfl|exact N.row 2 rfl|exact N.row 3 rfl⟩
   go_wp2_with fail
   refine hK.out _ _ kS (fun _=>?_)
   clear hK K
   try simp only[ZZ]
   refine tq 11 (.tuple #[.agg (tc f9 s.g h9 (.slice sa9 n9 c9)),.agg (mc m9),.bool true,.int .i64 0]) rfl kS (tq 12 (.agg (tc f9 s.g h9 (.slice sa9 n9 c9))) rfl kS (tq 13 (.agg (mc m9)) rfl kS ?_))
   simp only[ZZ]
   refine tq 14 (.bool true) rfl kS (tq 15 (.int .i64 0) rfl kS ?_)
   simp only[ZZ]
   exact sZxn85
  refine AC (fun K hK=>?_) ?_
  ·rw[if_pos kr]
   refine qax 46 rfl (mc noM) qci ?_;intro b12 w9 l9 R9 h9';(first|replace h9':=qaj h9'|skip);(try have H12:Hid (0<ms9.length->b12≠mb (.slice sa9 n9 c9)):=hidN (fun h0=>Nat.ne_of_gt (Nat.lt_of_lt_of_le (hM9.lt h0) l9)));(try replace hM9:=hM9.below h9');replace N:=N.alloc (o:=ob 46 (mc noM)) l9 R9 h9';clear R9 h9' l9;replace kS:World.rangeAt _ _ _ _/\Row 58 _ b7 (pcl p):=⟨N.m.tableRange,by first|exact N.row 1 rfl|exact N.row 2 rfl|exact N.row 3 rfl⟩
   exact sZxn83
  exact AZ
 refine AC (fun K hK=>?_) ?_
 ·rw[if_pos kr]
  refine qax 46 rfl (mc noM) qci ?_;intro b12 w9 l9 R9 h9';(first|replace h9':=qaj h9'|skip);(try have H12:Hid (0<ms9.length->b12≠mb (.slice sa9 n9 c9)):=hidN (fun h0=>Nat.ne_of_gt (Nat.lt_of_lt_of_le (hM9.lt h0) l9)));(try replace hM9:=hM9.below h9');replace N:=N.alloc (o:=ob 46 (mc noM)) l9 R9 h9';clear R9 h9' l9;replace kS:World.rangeAt _ _ _ _/\Row 58 _ b7 (pcl p):=⟨N.m.tableRange,by first|exact N.row 1 rfl|exact N.row 2 rfl|exact N.row 3 rfl⟩
  refine hK.out _ _ kS (fun _=>?_)
  clear hK K
  try simp only[ZZ]
  refine AR [10,16] ?_
  refine AC (fun K hK=>?_) ?_
  ·go_simp
   go_at_call 135;(first|refine(CO _ N.m.maps).mono ?_|refine(CO _ N.drew.m.maps).mono ?_);rintro e w8 ⟨sa9,n9,c9,rfl,hM9,hN9,hl9,hb9⟩;(first|replace hb9:=qaj hb9|skip);have H9:Hid _:=hidN (N.old hl9);have H7:Hid (0<ms9.length->b7≠mb (.slice sa9 n9 c9)):=hidN (by first|exact N.notMb hl9 1 rfl|exact N.notMb hl9 2 rfl|exact N.notMb hl9 3 rfl);have H10:Hid (0<ms9.length->b10≠mb (.slice sa9 n9 c9)):=hidN (by first|exact N.notMb hl9 0 rfl|exact N.notMb hl9 1 rfl|exact N.notMb hl9 2 rfl);(try have H11:Hid (0<ms9.length->b11≠mb (.slice sa9 n9 c9)):=hidN (by first|exact N.notMb hl9 0 rfl|exact N.notMb hl9 1 rfl));(try have H12:Hid (0<ms9.length->b12≠mb (.slice sa9 n9 c9)):=hidN (by first|exact N.notMb hl9 0 rfl|exact N.notMb hl9 1 rfl));replace N:=N.below hb9;clear hb9 hl9;replace kS:World.rangeAt _ _ _ _/\Row 58 _ b7 (pcl p):=⟨N.m.tableRange,by first|exact N.row 1 rfl|exact N.row 2 rfl|exact N.row 3 rfl⟩
   go_wp2_with fail
   refine hK.out _ _ kS (fun _=>?_)
   clear hK K
   try simp only[ZZ]
   refine tq 11 (.tuple #[.agg (tc f9 s.g h9 (.slice sa9 n9 c9)),.agg (mc m9),.bool true,.int .i64 0]) rfl kS (tq 12 (.agg (tc f9 s.g h9 (.slice sa9 n9 c9))) rfl kS (tq 13 (.agg (mc m9)) rfl kS ?_))
   simp only[ZZ]
   refine tq 14 (.bool true) rfl kS (tq 15 (.int .i64 0) rfl kS ?_)
   simp only[ZZ]
   exact sZxn84
  refine AC (fun K hK=>?_) ?_
  ·rw[if_pos kr]
   refine qax 39 rfl tz qbp ?_;intro b11 w9 l9 R9 h9';(first|replace h9':=qaj h9'|skip);(try have H11:Hid (0<ms9.length->b11≠mb (.slice sa9 n9 c9)):=hidN (fun h0=>Nat.ne_of_gt (Nat.lt_of_lt_of_le (hM9.lt h0) l9)));(try replace hM9:=hM9.below h9');replace N:=N.alloc (o:=ob 39 tz) l9 R9 h9';clear R9 h9' l9;(try replace N:Nm _ _ _ _ _ _ _ _ _ _ _ _ _ _ ((b12,_)::(b11,_)::_):=N.perm (List.Perm.swap _ _ _));replace kS:World.rangeAt _ _ _ _/\Row 58 _ b7 (pcl p):=⟨N.m.tableRange,by first|exact N.row 1 rfl|exact N.row 2 rfl|exact N.row 3 rfl⟩
   exact sZxn83
  exact AZ
 exact AZ
end Go.Proofs.YtnicenfgemkdnaaGreatDoor
