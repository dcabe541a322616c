/-
  Of what a law stands on.
-/
import Derived.Test.YtnicenfgemkdnaaGreatDoorZvn4
set_option linter.unusedSimpArgs false
set_option linter.unusedVariables false
namespace Go.Proofs.YtnicenfgemkdnaaGreatDoor
open _root_.Go.Proofs.Tryz
set_option maxHeartbeats 16000000
set_option maxRecDepth 100000
open Go.ChangeShapes Go.WideShapes Go.ChangeAt Go.RowKit Go.Maps
attribute [local irreducible] Rp.cells tc pc
theorem q0i{w:World}{b:Nat}{s:Nt}{F:Nat->Prop}(h:qaw w b s (duF s.fs) F)(fr:ByteArray)(hs:fr.size<=140737488351232)(p:Pkt)(sub draw:Int)(hfull:s.full=true)(hlf:s.left<=100):Calls prog 102 #[.pointer (some ⟨b,0,none⟩),.string fr,.agg (pcl p),.int .i64 sub,.int .i64 draw] w fun e w'=>e=.returned (.agg (s.refuse fr.data.toList 6).1.cells)/\∃F',qaw w' b (s.refuse fr.data.toList 6).2 (duF (s.refuse fr.data.toList 6).2.fs) F'/\Gr F w w'/\∀c,F' c->F c\/w.heap.size<=c:=by
 have B:=h.start
 have CU:=fun W F (hN:qaw W b s (duF s.fs) F)=>qlu hN
 rw[hfull] at CU
 have CR:=fun W F (hN:qaw W b s (duF s.fs) F)=>qp6 hN fr hs hlf 6
 have hfs:(s.refuse fr.data.toList 6).2.fs=s.fs:=by unfold Nt.refuse;split<;>rfl
 rw[hfs]
 generalize s.refuse fr.data.toList 6=r at *
 obtain⟨r1,r2⟩:=r
 simp only at *
 clear hfull hlf hs hfs
 go_enter func102,ntmps102
 go_wp2_with (first|((with_reducible refine gB 58 2 ?_);refine qag 58 rfl (.tmp 2) rfl (pcl p) rfl ?_;intro b7 w9 l9 R9 h9';replace B:=B.alloc (o:=ob 58 (pcl p)) l9 R9 h9';clear R9 h9' l9)|((with_reducible refine gA 30 ?_);refine qaf 10 30 rfl rfl rfl _ qan ?_;intro b10 w9 l9 R9 h9';replace B:=B.alloc (o:=ob 30 (qas 0).cells) l9 R9 h9';clear R9 h9' l9)|(go_at_call 133;go_fit (CU _ _ (B.nat));rintro e w5 ⟨rfl,hw⟩;rw[hw];clear hw w5)|(go_at_call 134;go_fit (CR _ _ B.nat);rintro e w5 ⟨rfl,F9,hN9',hg9,hf9⟩;clear CR;replace B:=B.call hN9' hg9 hf9;clear hN9' hg9 hf9)|((with_reducible refine gS 30 10 21 ?_);refine qab 30 rfl (.tmp 10) _ rfl b10 rfl (r1.cells) rfl _ (B.row 0 rfl) (qar _ _) (qad _) (qah _) ?_;intro w9 R9 t9';replace B:=B.turn 0 rfl R9 t9';clear R9 t9'))
 ((try simp only[Exit.inBlock,Exit.then]);refine bodyPost_ret (qai (p:=10) rfl _ _ _ _ rfl (B.row 0 rfl) _ underlying30 rfl (qad _)) rfl ⟨rfl,_,B.nat,B.gr,B.sub⟩)
theorem sZvn51{p:Prop}(h:p:=by
 refine AR [18] ?_
 refine AllReadyH.cons rfl (fun K hK=>?_) ?_
 ·rw[if_pos kr]
  refine qau 39 (.tmp 11) (.tmp 34) rfl b11 kr (tc f9 s.g h9 (.slice sa9 n9 c9)) kr _ (N.row 1 rfl) (qel _ _ _ _) (qaq _ _ _ _) (qbm _ _ _ _ _ _) ?_;intro w9 R9 t9';(first|replace t9':=qap t9'|skip);replace hM9:=qbg hM9 t9' H11.out;replace N:=N.turn 1 rfl R9 t9';clear R9 t9';replace kS:World.rangeAt _ _ _ _/\Row 58 _ b7 (pcl p):=⟨N.m.tableRange,by first|exact N.row 1 rfl|exact N.row 2 rfl|exact N.row 3 rfl⟩
  refine hK.out _ _ kS (fun _=>?_)
  clear hK K
  try simp only[ZZ]
  refine AR [19] ?_
  refine AllReadyH.cons rfl (fun K hK=>?_) ?_
  ·rw[if_pos kr]
   refine qau 46 (.tmp 12) (.tmp 35) rfl b12 kr (mc m9) kr _ (N.row 0 rfl) rfl (qak _) (qa3 _) ?_;intro w9 R9 t9';(first|replace t9':=qap t9'|skip);replace hM9:=qbg hM9 t9' H12.out;replace N:=N.turn 0 rfl R9 t9';clear R9 t9';replace kS:World.rangeAt _ _ _ _/\Row 58 _ b7 (pcl p):=⟨N.m.tableRange,by first|exact N.row 1 rfl|exact N.row 2 rfl|exact N.row 3 rfl⟩
   refine hK.out _ _ kS (fun _=>?_)
   clear hK K
   try simp only[ZZ]
   refine tq 20 (.bool t9) rfl kS ?_
   simp only[ZZ]
   refine tq 21 (.int .i64 e9) rfl kS ?_
   simp only[ZZ]
   refine AN ?_
   clear kS hM9 hN9 H9 H7 H10 H11 H12
   have B:=N.nb
   clear N
   first|((go_wp2_with (first|(go_at_call 134;go_fit (CR _ _ B.nat);rintro e w5 ⟨rfl,F9,hN9',hg9,hf9⟩;clear CR;replace B:=B.call hN9' hg9 hf9;clear hN9' hg9 hf9)|((with_reducible refine gS 30 10 43 ?_);refine qab 30 rfl (.tmp 10) _ rfl b10 rfl (r1.cells) rfl _ (B.row 2 rfl) (qar _ _) (qad _) (qah _) ?_;intro w9 R9 t9';replace B:=B.turn 2 rfl R9 t9';clear R9 t9')));((try simp only[Exit.inBlock,Exit.then]);refine bodyPost_ret (qai (p:=10) rfl _ _ _ _ rfl (B.row 2 rfl) _ underlying30 rfl (qad _)) rfl ⟨rfl,_,B.nat,B.gr,B.sub⟩))|(replace B:=B.drew;((go_wp2_with (first|(go_at_call 134;go_fit (CR _ _ B.nat);rintro e w5 ⟨rfl,F9,hN9',hg9,hf9⟩;clear CR;replace B:=B.call hN9' hg9 hf9;clear hN9' hg9 hf9)|((with_reducible refine gS 30 10 43 ?_);refine qab 30 rfl (.tmp 10) _ rfl b10 rfl (r1.cells) rfl _ (B.row 2 rfl) (qar _ _) (qad _) (qah _) ?_;intro w9 R9 t9';replace B:=B.turn 2 rfl R9 t9';clear R9 t9')));((try simp only[Exit.inBlock,Exit.then]);refine bodyPost_ret (qai (p:=10) rfl _ _ _ _ rfl (B.row 2 rfl) _ underlying30 rfl (qad _)) rfl ⟨rfl,_,B.nat,B.gr,B.sub⟩)))
  exact AZ
 exact AZ):p:=h
theorem sZvn52{p:Prop}(h:p:=by
 refine hK.out _ _ kS (fun _=>?_)
 clear hK K
 try simp only[ZZ]
 refine AR [10] ?_
 refine AllReadyH.cons rfl (fun K hK=>?_) ?_
 ·go_simp
  go_at_call 135;(first|refine(CO _ N.m.maps).mono ?_|refine(CO _ N.drew.m.maps).mono ?_);rintro e w8 ⟨sa9,n9,c9,rfl,hM9,hN9,hl9,hb9⟩;(first|replace hb9:=qaj hb9|skip);have H9:Hid _:=hidN (N.old hl9);have H7:Hid (0<ms9.length->b7≠mb (.slice sa9 n9 c9)):=hidN (by first|exact N.notMb hl9 1 rfl|exact N.notMb hl9 2 rfl|exact N.notMb hl9 3 rfl);have H10:Hid (0<ms9.length->b10≠mb (.slice sa9 n9 c9)):=hidN (by first|exact N.notMb hl9 0 rfl|exact N.notMb hl9 1 rfl|exact N.notMb hl9 2 rfl);(try have H11:Hid (0<ms9.length->b11≠mb (.slice sa9 n9 c9)):=hidN (by first|exact N.notMb hl9 0 rfl|exact N.notMb hl9 1 rfl));(try have H12:Hid (0<ms9.length->b12≠mb (.slice sa9 n9 c9)):=hidN (by first|exact N.notMb hl9 0 rfl|exact N.notMb hl9 1 rfl));replace N:=N.below hb9;clear hb9 hl9;replace kS:World.rangeAt _ _ _ _/\Row 58 _ b7 (pcl p):=⟨N.m.tableRange,by first|exact N.row 1 rfl|exact N.row 2 rfl|exact N.row 3 rfl⟩
  go_wp2_with fail
  refine hK.out _ _ kS (fun _=>?_)
  clear hK K
  try simp only[ZZ]
  refine tq 11 (.tuple #[.agg (tc f9 s.g h9 (.slice sa9 n9 c9)),.agg (mc m9),.bool t9,.int .i64 e9]) rfl kS ?_
  simp only[ZZ]
  refine tq 12 (.agg (tc f9 s.g h9 (.slice sa9 n9 c9))) rfl kS ?_
  simp only[ZZ]
  refine tq 13 (.agg (mc m9)) rfl kS ?_
  simp only[ZZ]
  refine tq 14 (.bool t9) rfl kS ?_
  simp only[ZZ]
  refine tq 15 (.int .i64 e9) rfl kS ?_
  simp only[ZZ]
  exact sZvn51
 exact AZ):p:=h
theorem sZvn55{p:Prop}(h:p:=by
 refine hK.out _ _ kS (fun _=>?_)
 clear hK K
 try simp only[ZZ]
 exact sZvn51):p:=h
theorem sZvn53{p:Prop}(h:p:=by
 refine AR [16] ?_
 refine AllReadyH.cons rfl (fun K hK=>?_) ?_
 ·rw[if_pos kr]
  refine qax 39 rfl tz qbp ?_;intro b11 w9 l9 R9 h9';(first|replace h9':=qaj h9'|skip);(try have H11:Hid (0<ms9.length->b11≠mb (.slice sa9 n9 c9)):=hidN (fun h0=>Nat.ne_of_gt (Nat.lt_of_lt_of_le (hM9.lt h0) l9)));(try replace hM9:=hM9.below h9');replace N:=N.alloc (o:=ob 39 tz) l9 R9 h9';clear R9 h9' l9;(try replace N:Nm _ _ _ _ _ _ _ _ _ _ _ _ _ _ ((b12,_)::(b11,_)::_):=N.perm (List.Perm.swap _ _ _));replace kS:World.rangeAt _ _ _ _/\Row 58 _ b7 (pcl p):=⟨N.m.tableRange,by first|exact N.row 1 rfl|exact N.row 2 rfl|exact N.row 3 rfl⟩
  exact sZvn55
 exact AZ):p:=h
theorem sZvn54{p:Prop}(h:p:=by
 refine AR [17] ?_
 refine AllReadyH.cons rfl (fun K hK=>?_) ?_
 ·rw[if_pos kr]
  refine qax 46 rfl (mc noM) qci ?_;intro b12 w9 l9 R9 h9';(first|replace h9':=qaj h9'|skip);(try have H12:Hid (0<ms9.length->b12≠mb (.slice sa9 n9 c9)):=hidN (fun h0=>Nat.ne_of_gt (Nat.lt_of_lt_of_le (hM9.lt h0) l9)));(try replace hM9:=hM9.below h9');replace N:=N.alloc (o:=ob 46 (mc noM)) l9 R9 h9';clear R9 h9' l9;replace kS:World.rangeAt _ _ _ _/\Row 58 _ b7 (pcl p):=⟨N.m.tableRange,by first|exact N.row 1 rfl|exact N.row 2 rfl|exact N.row 3 rfl⟩
  exact sZvn55
 exact AZ):p:=h
theorem q3p{w:World}{b:Nat}{s:Nt}{F:Nat->Prop}(h:qaw w b s (duF s.fs) F)(fr:ByteArray)(hs:fr.size<=140737488351232)(p:Pkt)(sub draw:Int)(hfull:s.full=false)(hlf:s.left<=100)(e9:Int)(f9 h9:Nat->Int)(ms9:List Mp)(m9:Mp)(t9:Bool)(CO:∀(v:Value) W,qaz W v s.ms->qcs v->Calls prog 135 #[.agg (tc s.f s.g s.h v),.int .i64 p.proto,.int .i64 sub,.int .i64 p.sport,.int .i64 draw] W fun e w'=>∃sa n c,e=.returned (.tuple #[.agg (tc f9 s.g h9 (.slice sa n c)),.agg (mc m9),.bool t9,.int .i64 e9])/\qaz w' (.slice sa n c) ms9/\qcs (.slice sa n c)/\(0<ms9.length->W.heap.size<=mb (.slice sa n c)\/(mb (.slice sa n c)=mb v/\0<s.ms.length))/\Below W.heap.size W w')(he:e9≠0):Calls prog 102 #[.pointer (some ⟨b,0,none⟩),.string fr,.agg (pcl p),.int .i64 sub,.int .i64 draw] w fun e w'=>e=.returned (.agg (s.refuse fr.data.toList e9).1.cells)/\∃F',qaw w' b (s.refuse fr.data.toList e9).2 (duF (s.refuse fr.data.toList e9).2.fs) F'/\Gr F w w'/\∀c,F' c->F c\/w.heap.size<=c:=by
 have CR:=fun W F (hN:qaw W b s (duF s.fs) F)=>qp6 hN fr hs hlf e9
 have hfs:(s.refuse fr.data.toList e9).2.fs=s.fs:=by unfold Nt.refuse;split<;>rfl
 rw[hfs]
 generalize s.refuse fr.data.toList e9=r at *
 obtain⟨r1,r2⟩:=r
 simp only at *
 have he2:(e9 != 0)=true:=by simpa using he
 clear hlf hs hfs he
 obtain⟨cs,v,ov,fm,D,Fw0,cnt,M,hF⟩:=h
 replace CO:=fun W hM=>CO v W hM M.nil
 have N:=Nm.start M hF
 have CU:=fun W F (hN:qaw W b s (duF s.fs) F)=>qlu hN
 rw[hfull] at CU
 clear M hF hfull
 generalize(fun c=>Fw0 c/\c<w.heap.size)=Fw at *
 go_enter func102,ntmps102
 go_upto_region 3 with(first|((with_reducible refine gB 58 2 ?_);refine qag 58 rfl (.tmp 2) rfl (pcl p) rfl ?_;intro b7 w9 l9 R9 h9';replace N:=N.alloc (o:=ob 58 (pcl p)) l9 R9 h9';clear R9 h9' l9)|((with_reducible refine gA 30 ?_);refine qaf 10 30 rfl rfl rfl _ qan ?_;intro b10 w9 l9 R9 h9';replace N:=N.alloc (o:=ob 30 (qas 0).cells) l9 R9 h9';clear R9 h9' l9)|(go_at_call 133;go_fit (CU _ _ (qg2 N.m));rintro e w5 ⟨rfl,hw⟩;rw[hw];clear hw w5))
 have kS:World.rangeAt _ _ _ _/\Row 58 _ b7 (pcl p):=⟨N.m.tableRange,N.row 1 rfl⟩
 refine RD (fun W=>W.rangeAt b 4 (tc s.f s.g s.h v).toList/\Row 58 W b7 (pcl p)) kS (fun _=>?_)
 refine tq 0 (.pointer (some ⟨b,0,none⟩)) rfl kS ?_
 simp only[ZZ]
 refine tq 1 (.pointer (some ⟨b,0,none⟩)) rfl kS ?_
 simp only[ZZ]
 refine tq 2 (.pointer (some ⟨b,4,none⟩)) rfl kS ?_
 simp only[ZZ]
 refine tk 3 (.agg (tc s.f s.g s.h v)) rfl (qit (.tmp 25) rfl kr b kr s.f s.g s.h v (fun _ h=>h.1)) kS ?_
 simp only[ZZ]
 refine tq 4 (.pointer (some ⟨b7,0,none⟩)) rfl kS ?_
 simp only[ZZ]
 refine tk 5 (.int .i64 p.proto) rfl (Or.inl ⟨by kernel_rfl,by intro w hS;have hc:=(hS.2.cell 0).trans (show(pcl p)[0]?=some (.int .i64 p.proto) from rfl);go_simp⟩) kS ?_
 simp only[ZZ]
 refine tq 6 (.int .i64 sub) rfl kS ?_
 simp only[ZZ]
 refine tq 7 (.pointer (some ⟨b7,2,none⟩)) rfl kS ?_
 simp only[ZZ]
 refine tk 8 (.int .i64 p.sport) rfl (Or.inl ⟨by kernel_rfl,by intro w hS;have hc:=(hS.2.cell 2).trans (show(pcl p)[2]?=some (.int .i64 p.sport) from rfl);go_simp⟩) kS ?_
 simp only[ZZ]
 refine tq 9 (.int .i64 draw) rfl kS ?_
 simp only[ZZ]
 refine AR [10,16,17] ?_
 refine AllReadyH.cons rfl (fun K hK=>?_) ?_
 ·go_simp
  go_at_call 135;(first|refine(CO _ N.m.maps).mono ?_|refine(CO _ N.drew.m.maps).mono ?_);rintro e w8 ⟨sa9,n9,c9,rfl,hM9,hN9,hl9,hb9⟩;(first|replace hb9:=qaj hb9|skip);have H9:Hid _:=hidN (N.old hl9);have H7:Hid (0<ms9.length->b7≠mb (.slice sa9 n9 c9)):=hidN (by first|exact N.notMb hl9 1 rfl|exact N.notMb hl9 2 rfl|exact N.notMb hl9 3 rfl);have H10:Hid (0<ms9.length->b10≠mb (.slice sa9 n9 c9)):=hidN (by first|exact N.notMb hl9 0 rfl|exact N.notMb hl9 1 rfl|exact N.notMb hl9 2 rfl);(try have H11:Hid (0<ms9.length->b11≠mb (.slice sa9 n9 c9)):=hidN (by first|exact N.notMb hl9 0 rfl|exact N.notMb hl9 1 rfl));(try have H12:Hid (0<ms9.length->b12≠mb (.slice sa9 n9 c9)):=hidN (by first|exact N.notMb hl9 0 rfl|exact N.notMb hl9 1 rfl));replace N:=N.below hb9;clear hb9 hl9;replace kS:World.rangeAt _ _ _ _/\Row 58 _ b7 (pcl p):=⟨N.m.tableRange,by first|exact N.row 1 rfl|exact N.row 2 rfl|exact N.row 3 rfl⟩
  go_wp2_with fail
  refine hK.out _ _ kS (fun _=>?_)
  clear hK K
  try simp only[ZZ]
  refine tq 11 (.tuple #[.agg (tc f9 s.g h9 (.slice sa9 n9 c9)),.agg (mc m9),.bool t9,.int .i64 e9]) rfl kS ?_
  simp only[ZZ]
  refine tq 12 (.agg (tc f9 s.g h9 (.slice sa9 n9 c9))) rfl kS ?_
  simp only[ZZ]
  refine tq 13 (.agg (mc m9)) rfl kS ?_
  simp only[ZZ]
  refine tq 14 (.bool t9) rfl kS ?_
  simp only[ZZ]
  refine tq 15 (.int .i64 e9) rfl kS ?_
  simp only[ZZ]
  refine AR [16,17] ?_
  refine AllReadyH.cons rfl (fun K hK=>?_) ?_
  ·rw[if_pos kr]
   refine qax 39 rfl tz qbp ?_;intro b11 w9 l9 R9 h9';(first|replace h9':=qaj h9'|skip);(try have H11:Hid (0<ms9.length->b11≠mb (.slice sa9 n9 c9)):=hidN (fun h0=>Nat.ne_of_gt (Nat.lt_of_lt_of_le (hM9.lt h0) l9)));(try replace hM9:=hM9.below h9');replace N:=N.alloc (o:=ob 39 tz) l9 R9 h9';clear R9 h9' l9;(try replace N:Nm _ _ _ _ _ _ _ _ _ _ _ _ _ _ ((b12,_)::(b11,_)::_):=N.perm (List.Perm.swap _ _ _));replace kS:World.rangeAt _ _ _ _/\Row 58 _ b7 (pcl p):=⟨N.m.tableRange,by first|exact N.row 1 rfl|exact N.row 2 rfl|exact N.row 3 rfl⟩
   refine hK.out _ _ kS (fun _=>?_)
   clear hK K
   try simp only[ZZ]
   exact sZvn54
  refine AllReadyH.cons rfl (fun K hK=>?_) ?_
  ·rw[if_pos kr]
   refine qax 46 rfl (mc noM) qci ?_;intro b12 w9 l9 R9 h9';(first|replace h9':=qaj h9'|skip);(try have H12:Hid (0<ms9.length->b12≠mb (.slice sa9 n9 c9)):=hidN (fun h0=>Nat.ne_of_gt (Nat.lt_of_lt_of_le (hM9.lt h0) l9)));(try replace hM9:=hM9.below h9');replace N:=N.alloc (o:=ob 46 (mc noM)) l9 R9 h9';clear R9 h9' l9;replace kS:World.rangeAt _ _ _ _/\Row 58 _ b7 (pcl p):=⟨N.m.tableRange,by first|exact N.row 1 rfl|exact N.row 2 rfl|exact N.row 3 rfl⟩
   refine hK.out _ _ kS (fun _=>?_)
   clear hK K
   try simp only[ZZ]
   exact sZvn53
  exact AZ
 refine AllReadyH.cons rfl (fun K hK=>?_) ?_
 ·rw[if_pos kr]
  refine qax 39 rfl tz qbp ?_;intro b11 w9 l9 R9 h9';(first|replace h9':=qaj h9'|skip);(try have H11:Hid (0<ms9.length->b11≠mb (.slice sa9 n9 c9)):=hidN (fun h0=>Nat.ne_of_gt (Nat.lt_of_lt_of_le (hM9.lt h0) l9)));(try replace hM9:=hM9.below h9');replace N:=N.alloc (o:=ob 39 tz) l9 R9 h9';clear R9 h9' l9;(try replace N:Nm _ _ _ _ _ _ _ _ _ _ _ _ _ _ ((b12,_)::(b11,_)::_):=N.perm (List.Perm.swap _ _ _));replace kS:World.rangeAt _ _ _ _/\Row 58 _ b7 (pcl p):=⟨N.m.tableRange,by first|exact N.row 1 rfl|exact N.row 2 rfl|exact N.row 3 rfl⟩
  refine hK.out _ _ kS (fun _=>?_)
  clear hK K
  try simp only[ZZ]
  refine AR [10,17] ?_
  refine AllReadyH.cons rfl (fun K hK=>?_) ?_
  ·go_simp
   go_at_call 135;(first|refine(CO _ N.m.maps).mono ?_|refine(CO _ N.drew.m.maps).mono ?_);rintro e w8 ⟨sa9,n9,c9,rfl,hM9,hN9,hl9,hb9⟩;(first|replace hb9:=qaj hb9|skip);have H9:Hid _:=hidN (N.old hl9);have H7:Hid (0<ms9.length->b7≠mb (.slice sa9 n9 c9)):=hidN (by first|exact N.notMb hl9 1 rfl|exact N.notMb hl9 2 rfl|exact N.notMb hl9 3 rfl);have H10:Hid (0<ms9.length->b10≠mb (.slice sa9 n9 c9)):=hidN (by first|exact N.notMb hl9 0 rfl|exact N.notMb hl9 1 rfl|exact N.notMb hl9 2 rfl);(try have H11:Hid (0<ms9.length->b11≠mb (.slice sa9 n9 c9)):=hidN (by first|exact N.notMb hl9 0 rfl|exact N.notMb hl9 1 rfl));(try have H12:Hid (0<ms9.length->b12≠mb (.slice sa9 n9 c9)):=hidN (by first|exact N.notMb hl9 0 rfl|exact N.notMb hl9 1 rfl));replace N:=N.below hb9;clear hb9 hl9;replace kS:World.rangeAt _ _ _ _/\Row 58 _ b7 (pcl p):=⟨N.m.tableRange,by first|exact N.row 1 rfl|exact N.row 2 rfl|exact N.row 3 rfl⟩
   go_wp2_with fail
   refine hK.out _ _ kS (fun _=>?_)
   clear hK K
   try simp only[ZZ]
   refine tq 11 (.tuple #[.agg (tc f9 s.g h9 (.slice sa9 n9 c9)),.agg (mc m9),.bool t9,.int .i64 e9]) rfl kS ?_
   simp only[ZZ]
   refine tq 12 (.agg (tc f9 s.g h9 (.slice sa9 n9 c9))) rfl kS ?_
   simp only[ZZ]
   refine tq 13 (.agg (mc m9)) rfl kS ?_
   simp only[ZZ]
   refine tq 14 (.bool t9) rfl kS ?_
   simp only[ZZ]
   refine tq 15 (.int .i64 e9) rfl kS ?_
   simp only[ZZ]
   exact sZvn54
  refine AllReadyH.cons rfl (fun K hK=>?_) ?_
  ·rw[if_pos kr]
   refine qax 46 rfl (mc noM) qci ?_;intro b12 w9 l9 R9 h9';(first|replace h9':=qaj h9'|skip);(try have H12:Hid (0<ms9.length->b12≠mb (.slice sa9 n9 c9)):=hidN (fun h0=>Nat.ne_of_gt (Nat.lt_of_lt_of_le (hM9.lt h0) l9)));(try replace hM9:=hM9.below h9');replace N:=N.alloc (o:=ob 46 (mc noM)) l9 R9 h9';clear R9 h9' l9;replace kS:World.rangeAt _ _ _ _/\Row 58 _ b7 (pcl p):=⟨N.m.tableRange,by first|exact N.row 1 rfl|exact N.row 2 rfl|exact N.row 3 rfl⟩
   exact sZvn52
  exact AZ
 refine AllReadyH.cons rfl (fun K hK=>?_) ?_
 ·rw[if_pos kr]
  refine qax 46 rfl (mc noM) qci ?_;intro b12 w9 l9 R9 h9';(first|replace h9':=qaj h9'|skip);(try have H12:Hid (0<ms9.length->b12≠mb (.slice sa9 n9 c9)):=hidN (fun h0=>Nat.ne_of_gt (Nat.lt_of_lt_of_le (hM9.lt h0) l9)));(try replace hM9:=hM9.below h9');replace N:=N.alloc (o:=ob 46 (mc noM)) l9 R9 h9';clear R9 h9' l9;replace kS:World.rangeAt _ _ _ _/\Row 58 _ b7 (pcl p):=⟨N.m.tableRange,by first|exact N.row 1 rfl|exact N.row 2 rfl|exact N.row 3 rfl⟩
  refine hK.out _ _ kS (fun _=>?_)
  clear hK K
  try simp only[ZZ]
  refine AR [10,16] ?_
  refine AllReadyH.cons rfl (fun K hK=>?_) ?_
  ·go_simp
   go_at_call 135;(first|refine(CO _ N.m.maps).mono ?_|refine(CO _ N.drew.m.maps).mono ?_);rintro e w8 ⟨sa9,n9,c9,rfl,hM9,hN9,hl9,hb9⟩;(first|replace hb9:=qaj hb9|skip);have H9:Hid _:=hidN (N.old hl9);have H7:Hid (0<ms9.length->b7≠mb (.slice sa9 n9 c9)):=hidN (by first|exact N.notMb hl9 1 rfl|exact N.notMb hl9 2 rfl|exact N.notMb hl9 3 rfl);have H10:Hid (0<ms9.length->b10≠mb (.slice sa9 n9 c9)):=hidN (by first|exact N.notMb hl9 0 rfl|exact N.notMb hl9 1 rfl|exact N.notMb hl9 2 rfl);(try have H11:Hid (0<ms9.length->b11≠mb (.slice sa9 n9 c9)):=hidN (by first|exact N.notMb hl9 0 rfl|exact N.notMb hl9 1 rfl));(try have H12:Hid (0<ms9.length->b12≠mb (.slice sa9 n9 c9)):=hidN (by first|exact N.notMb hl9 0 rfl|exact N.notMb hl9 1 rfl));replace N:=N.below hb9;clear hb9 hl9;replace kS:World.rangeAt _ _ _ _/\Row 58 _ b7 (pcl p):=⟨N.m.tableRange,by first|exact N.row 1 rfl|exact N.row 2 rfl|exact N.row 3 rfl⟩
   go_wp2_with fail
   refine hK.out _ _ kS (fun _=>?_)
   clear hK K
   try simp only[ZZ]
   refine tq 11 (.tuple #[.agg (tc f9 s.g h9 (.slice sa9 n9 c9)),.agg (mc m9),.bool t9,.int .i64 e9]) rfl kS ?_
   simp only[ZZ]
   refine tq 12 (.agg (tc f9 s.g h9 (.slice sa9 n9 c9))) rfl kS ?_
   simp only[ZZ]
   refine tq 13 (.agg (mc m9)) rfl kS ?_
   simp only[ZZ]
   refine tq 14 (.bool t9) rfl kS ?_
   simp only[ZZ]
   refine tq 15 (.int .i64 e9) rfl kS ?_
   simp only[ZZ]
   exact sZvn53
  refine AllReadyH.cons rfl (fun K hK=>?_) ?_
  ·rw[if_pos kr]
   refine qax 39 rfl tz qbp ?_;intro b11 w9 l9 R9 h9';(first|replace h9':=qaj h9'|skip);(try have H11:Hid (0<ms9.length->b11≠mb (.slice sa9 n9 c9)):=hidN (fun h0=>Nat.ne_of_gt (Nat.lt_of_lt_of_le (hM9.lt h0) l9)));(try replace hM9:=hM9.below h9');replace N:=N.alloc (o:=ob 39 tz) l9 R9 h9';clear R9 h9' l9;(try replace N:Nm _ _ _ _ _ _ _ _ _ _ _ _ _ _ ((b12,_)::(b11,_)::_):=N.perm (List.Perm.swap _ _ _));replace kS:World.rangeAt _ _ _ _/\Row 58 _ b7 (pcl p):=⟨N.m.tableRange,by first|exact N.row 1 rfl|exact N.row 2 rfl|exact N.row 3 rfl⟩
   exact sZvn52
  exact AZ
 exact AZ
end Go.Proofs.YtnicenfgemkdnaaGreatDoor
