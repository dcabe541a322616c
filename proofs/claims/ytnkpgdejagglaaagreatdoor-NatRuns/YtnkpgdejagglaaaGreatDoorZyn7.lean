/-
  Of what a law stands on.
-/
import Derived.Test.YtnkpgdejagglaaaGreatDoorZyn5
set_option linter.all false
namespace Go.Proofs.YtnkpgdejagglaaaGreatDoor
open Go.Value renaming int → I,pointer → V
open Go.IntKind renaming i64 → Z
open _root_.Go.Proofs.Tryz Go.ChangeShapes Go.WideShapes Go.ChangeAt Go.RowKit Go.Maps
set_option maxHeartbeats 16000000
set_option maxRecDepth 100000
variable {p:Prop}
def De(h:p:=by
 refine AR [9] ?_
 refine AP (fun K hK=>?_) ?_
 .refine sy (fc (eV m9 p.dst p.ai (eI p.ae))) (B.row 0 rfl) ?_;intro w9 R9 gz;replace B:=B.turn 0 rfl R9 gz;clear R9 gz;refine Hv ?_;intro kS
  refine hh ?_
  clear hK K;refine AN ?_;clear kS
  first|((go_wp2_with (first|(refine gL 75 15 ?_;refine lx 75 (.tmp 15) (fc (eV m9 p.dst p.ai (eI p.ae))) (B.row 0 rfl) ?_)|(go_at_call 76;go_fit (CB _ _ B.nat);rintro e w5 ⟨rfl,F9,jZ,dX,fH⟩;clear CB;replace B:=B.call jZ dX fH;clear jZ dX fH)|(go_at_call 34;go_fit (CL _ _ B.nat);rintro e w5 ⟨rfl,F9,jZ,dX,fH⟩;clear CL;replace B:=B.call jZ dX fH;clear jZ dX fH)|(refine gA 29 ?_;refine ax 16 29 EB ?_;intro Av w9 l9 R9 dv;replace B:=B.alloc (o:=ob 29 (eZ 0).cells) l9 R9 dv;clear R9 dv l9)|(refine gS 29 16 62 ?_;refine sx (r1.cells) (B.row 0 rfl) ?_;intro w9 R9 gz;replace B:=B.turn 0 rfl R9 gz;clear R9 gz)|(refine gL 72 12 ?_;refine lx 72 (.tmp 12) (mc m9) (B.row 2 rfl) ?_)|(go_at_call 44;go_fit (CE _ _ B.nat);rintro e w5 ⟨rfl,df⟩;replace B:=B.below df;clear df)|((with_reducible refine iE (.buildSlice 96 1 #[(0,.tmp 67)]) rfl ?_);refine qbj rfl (.tmp 67) rfl (oF r2.now m9 false) rfl ?_;intro b68 w9 l9 R9 dv;replace B:=B.alloc (o:=ob 100 (ec (oF r2.now m9 false))) l9 R9 dv;clear R9 dv l9)|(go_at_call 45;go_fit (CG _ _ B.nat (hT.gr B.gr h0) _ (qco (B.row 0 rfl)));rintro e w5 ⟨rfl,F9,jZ,dX,fH⟩;clear CG;replace B:=B.call jZ dX fH;clear jZ dX fH)|(refine gS 9 70 69 ?_;refine qbh (B.row 1 rfl) rfl (.tmp 70) (.tmp 69) rfl 3 rfl Pz rfl _ (qb2 _) _ (qdl _ _) ?_;intro w9 R9 gz;replace B:=B.turn 1 rfl R9 gz;clear R9 gz)|(refine gL 29 16 ?_;refine lx 29 (.tmp 16) (Rp.cells ⟨r1.code,r1.fr,r1.i7,Pz⟩) (by first|exact B.row 1 rfl) ?_)|(refine gS 29 10 71 ?_;refine sx (Rp.cells ⟨r1.code,r1.fr,r1.i7,Pz⟩) (B.row 5 rfl) ?_;intro w9 R9 gz;replace B:=B.turn 5 rfl R9 gz;clear R9 gz)));(refine bodyPost_ret (mW (p:=10) rfl _ _ _ _ rfl (B.row 5 rfl) _ underlying29 rfl (ur _)) rfl ⟨rfl,_,B.nat,B.gr,B.sub⟩)) 
 exact AZ):p:=h
def Df(h:p:=by
 refine AR [18] ?_
 refine AP (fun K hK=>?_) ?_
 .refine m45 ?_;intro w9 R9 gz;replace fF:=NN fF gz tG.out;replace N:=N.turn 1 rfl R9 gz;clear R9 gz;refine qG ?_;intro kS
  refine hh ?_
  clear hK K;refine AR [19] ?_
  refine AP (fun K hK=>?_) AZ
  refine m67 ?_;intro w9 R9 gz;replace fF:=NN fF gz tF.out;replace N:=N.turn 0 rfl R9 gz;clear R9 gz;refine qG ?_;clear kS;intro kS
  refine hh ?_
  clear hK K;refine tq 20 (.bool true) rfl kS (tq 21 (I Z 0) rfl kS ?_);refine oM ?_;clear kS
  first|(go_upto_region 7 with(first|(refine gL 42 11 ?_;refine lx 42 (.tmp 11) (tc f9 s.g h9 (.slice fB n9 c9)) (N.row 1 rfl) ?_)|(refine gS 42 47 45 ?_;refine m2t ?_;clear N fF tG tF;intro w9 B))) 
  have kS:aP 72 _ j7 (mc m9)/\aP 77 _ b7 (dm p):=⟨B.row 0 rfl,B.row 3 rfl⟩
  refine RD (fun W=>aP 72 W j7 (mc m9)/\aP 77 W b7 (dm p)) kS (fun _=>?_)
  refine tk 0 (.agg (mc m9)) rfl (yx (fun _ h=>h.1)) kS (tq 1 (V (some ⟨b7,3,none⟩)) rfl kS (tk 2 (I Z p.dst) rfl (Or.inl ⟨by kernel_rfl,by intro w hS;have hc:=(hS.2.cell 3).trans (show(dm p)[3]?=some (I Z p.dst) from rfl);go_simp⟩) kS ?_))
  simp only[ZZ]
  refine tq 3 (V (some ⟨b7,4,none⟩)) rfl kS (tk 4 (I Z p.ai) rfl (Or.inl ⟨by kernel_rfl,by intro w hS;have hc:=(hS.2.cell 4).trans (show(dm p)[4]?=some (I Z p.ai) from rfl);go_simp⟩) kS (tk 5 (.agg (dm p)) rfl (rA 77 (.tmp 7) rfl kr b7 kr (dm p) (fun _ h=>h.2) _ underlying77 rfl (NJ p)) kS ?_))
  simp only[ZZ];refine AR [6,8] ?_
  refine AC (fun K hK=>?_) ?_
  .go_simp
   go_at_call 75;refine(WZ p _).mono ?_;rintro e w8 ⟨rfl,df⟩;(replace df:=nL df);refine m6f ?_;clear B df kS;intro B kS
   go_wp2_with fail
   refine hK.out _ _ kS (fun _=>?_)
   clear hK K;refine Wt ?_;refine AR [8] ?_
   refine AP (fun K hK=>?_) AZ
   refine Ng 75 rfl (fc uo) FE ?_;intro b15 w9 l9 R9 dv;replace B:=B.alloc (o:=ob 75 (fc uo)) l9 R9 dv;clear R9 dv l9;refine Hv ?_;clear kS;intro kS
   refine hh ?_
   clear hK K
   exact De
  refine AP (fun K hK=>?_) AZ
  refine Ng 75 rfl (fc uo) FE ?_;intro b15 w9 l9 R9 dv;(replace dv:=nL dv);replace B:=B.alloc (o:=ob 75 (fc uo)) l9 R9 dv;clear R9 dv l9;refine Hv ?_;clear kS;intro kS
  refine hh ?_
  clear hK K;refine AR [6] ?_
  refine AC (fun K hK=>?_) AZ
  go_simp
  go_at_call 75;refine(WZ p _).mono ?_;rintro e w8 ⟨rfl,df⟩;replace B:=B.below df;clear df;refine Hv ?_;clear kS;intro kS
  go_wp2_with fail
  refine hK.out _ _ kS (fun _=>?_)
  clear hK K;refine Wt ?_
  exact De
 exact AZ):p:=h
def Dg(h:p:=by
 refine hh ?_
 clear hK K;refine AR [10] ?_
 refine AC (fun K hK=>?_) ?_
 .go_simp
  go_at_call 74;(refine(CO _ N.m.maps).mono ?_);rintro e w8 ⟨fB,n9,c9,rfl,fF,fY,gN,df⟩;refine m47 ?_;intro H9 H7 qH;(try have tG:Hid (0<fS.length->ja≠mb (.slice fB n9 c9)):=ar (by first|exact N.ft gN 1 rfl));(try have tF:Hid (0<fS.length->j7≠mb (.slice fB n9 c9)):=ar (by first|exact N.ft gN 0 rfl ));replace N:=N.below df;clear df gN;refine qG ?_;clear kS;intro kS
  go_wp2_with fail
  refine hK.out _ _ kS (fun _=>?_)
  clear hK K;refine Wp ?_
  exact Df
 exact AZ):p:=h
def Dh(h:p:=by
 refine hh ?_
 clear hK K
 exact Df):p:=h
def Di(h:p:=by
 refine AR [16] ?_
 refine AP (fun K hK=>?_) ?_
 .refine xo ?_;intro ja w9 l9 R9 dv;(try have tG:Hid (0<fS.length->ja≠mb (.slice fB n9 c9)):=ar (fun h0=>Nat.ne_of_gt (Nat.lt_of_lt_of_le (fF.lt h0) l9)));(try replace fF:=fF.below dv);refine Pk ?_;clear R9 dv l9;intro N;refine qG ?_;intro kS
  exact Dh
 exact AZ):p:=h
def Dj(h:p:=by
 refine AR [17] ?_
 refine AP (fun K hK=>?_) ?_
 .refine yK ?_;intro j7 w9 l9 R9 dv;(try have tF:Hid (0<fS.length->j7≠mb (.slice fB n9 c9)):=ar (fun h0=>Nat.ne_of_gt (Nat.lt_of_lt_of_le (fF.lt h0) l9)));(try replace fF:=fF.below dv);refine zF ?_;clear R9 dv l9;intro N;refine qG ?_;intro kS
  exact Dh
 exact AZ):p:=h
def q0v{w:World}{b:Nat}{s:Nt}{F:Nat->Prop}(h:cC w b s (dI s.fs) F)(fr:ByteArray)(hs:fr.size<=140737488351232)(p:bM)(sub draw:Int)(gq:s.full=false)(dn:0<=s.now/\s.now<=549755813888)(hbg:s.began+1<700)(dU:s.fs.length+1<400)(vQ:0<=p.dst/\p.dst<=4294967295)(e9:Int)(f9 h9:Nat->Int)(fS:List Mp)(m9:Mp)(t9:Bool)(CO:∀(v:Value) W,cE W v s.ms->jw v->Calls prog 74 #[.agg (tc s.f s.g s.h v),I Z p.ae,I Z sub,I Z p.aj,I Z draw] W fun e w'=>∃sa n c,e=.returned (.tuple #[.agg (tc f9 s.g h9 (.slice sa n c)),.agg (mc m9),.bool t9,I Z e9])/\cE w' (.slice sa n c) fS/\jw (.slice sa n c)/\(0<fS.length->W.heap.size<=mb (.slice sa n c)\/(mb (.slice sa n c)=mb v/\0<s.ms.length))/\Below W.heap.size W w')(he:e9=0)(ht:t9=true)(hst:∀m∈fS,0<=m.2.1/\m.2.1<8)(hka:0<=m9.2.2.2.1/\m9.2.2.2.1<3)(hT:jv w)(h0:¬F 0)(hq:1024<=m9.2.2.2.2/\m9.2.2.2.2<1072)(jr:(((s.dF f9 h9 fS).begin (eV m9 p.dst p.ai (eI p.ae))).leave fr.data.toList (eV m9 p.dst p.ai (eI p.ae))).2.logged<=100000):Calls prog 36 #[V (some ⟨b,0,none⟩),.string fr,.agg (dm p),I Z sub,I Z draw] w fun e w'=>e=.returned (.agg (Rp.cells ⟨(((s.dF f9 h9 fS).begin (eV m9 p.dst p.ai (eI p.ae))).leave fr.data.toList (eV m9 p.dst p.ai (eI p.ae))).1.code,(((s.dF f9 h9 fS).begin (eV m9 p.dst p.ai (eI p.ae))).leave fr.data.toList (eV m9 p.dst p.ai (eI p.ae))).1.fr,(((s.dF f9 h9 fS).begin (eV m9 p.dst p.ai (eI p.ae))).leave fr.data.toList (eV m9 p.dst p.ai (eI p.ae))).1.i7,((((s.dF f9 h9 fS).begin (eV m9 p.dst p.ai (eI p.ae))).leave fr.data.toList (eV m9 p.dst p.ai (eI p.ae))).2.log [oF (((s.dF f9 h9 fS).begin (eV m9 p.dst p.ai (eI p.ae))).leave fr.data.toList (eV m9 p.dst p.ai (eI p.ae))).2.now m9 false]).1⟩))/\∃F',cC w' b ((((s.dF f9 h9 fS).begin (eV m9 p.dst p.ai (eI p.ae))).leave fr.data.toList (eV m9 p.dst p.ai (eI p.ae))).2.log [oF (((s.dF f9 h9 fS).begin (eV m9 p.dst p.ai (eI p.ae))).leave fr.data.toList (eV m9 p.dst p.ai (eI p.ae))).2.now m9 false]).2 (dI ((((s.dF f9 h9 fS).begin (eV m9 p.dst p.ai (eI p.ae))).leave fr.data.toList (eV m9 p.dst p.ai (eI p.ae))).2.log [oF (((s.dF f9 h9 fS).begin (eV m9 p.dst p.ai (eI p.ae))).leave fr.data.toList (eV m9 p.dst p.ai (eI p.ae))).2.now m9 false]).2.fs) F'/\Gr F w w'/\∀c,F' c->F c\/w.heap.size<=c:=by
 obtain⟨s2,EJ⟩:∃s2,(s.dF f9 h9 fS).begin (eV m9 p.dst p.ai (eI p.ae))=s2:=⟨_,rfl⟩
 refine m1h ?_;intro CB x1 x2 x3 x4 CL
 rw[EJ] at jr
 rw[EJ] at *
 generalize s2.leave fr.data.toList (eV m9 p.dst p.ai (eI p.ae))=r at *
 obtain⟨r1,r2⟩:=r
 simp only at *
 (have CE:=fun W F (hN:cC W b r2 (dI r2.fs) F)=>qtn hN m9 false hq);(have CG:=fun W F (hN:cC W b r2 (dI r2.fs) F) (hT:jv W) sl hE=>qxx hN hT sl [oF r2.now m9 false] hE zm jr);(have jS:(r2.log [oF r2.now m9 false]).2.fs=r2.fs:=by unfold Nt.log;split<;>rfl);rw[jS]
 generalize qhP:r2.log [oF r2.now m9 false]=lgg at *
 obtain⟨Pz,lg2⟩:=lgg
 simp only at *
 clear qhP jS jr hq
 subst he ht
 clear hs hst hka dn hbg dU vQ x1 x2 x3 x4 EJ;obtain⟨cs,v,ov,fm,D,zO,cnt,M,hF⟩:=h;refine m5w ?_;clear CO;intro CO N CU
 rw[gq] at CU
 clear M hF gq
 generalize(fun c=>zO c/\c<w.heap.size)=Fw at *
 go_enter func36,ntmps36
 go_upto_region 3 with(first|(refine gB 77 2 ?_;refine m3y ?_;clear N;intro b7 w9 N)|(refine gA 29 ?_;refine m4b ?_;clear N;intro nS w9 N)|(go_at_call 72;go_fit (CU _ _ (NG N.m));refine qX ?_))
 have kS:World.rangeAt _ _ _ _/\aP 77 _ b7 (dm p):=⟨N.m.dt,N.row 1 rfl⟩
 refine RD (fun W=>W.rangeAt b 4 (tc s.f s.g s.h v).toList/\aP 77 W b7 (dm p)) kS (fun _=>?_)
 refine Wu ?_
 refine tk 3 (.agg (tc s.f s.g s.h v)) rfl (WY (.tmp 25) rfl kr b kr s.f s.g s.h v (fun _ h=>h.1)) kS (tq 4 (V (some ⟨b7,0,none⟩)) rfl kS (tk 5 (I Z p.ae) rfl (Or.inl ⟨by kernel_rfl,by intro w hS;have hc:=(hS.2.cell 0).trans (show(dm p)[0]?=some (I Z p.ae) from rfl);go_simp⟩) kS ?_))
 refine m0v ?_
 refine AC (fun K hK=>?_) ?_
 .go_simp
  go_at_call 74;(refine(CO _ N.drew.m.maps).mono ?_);rintro e w8 ⟨fB,n9,c9,rfl,fF,fY,gN,df⟩;(replace df:=nL df);refine m33 ?_;clear N df gN kS;intro H9 H7 qH N kS
  go_wp2_with fail
  refine hK.out _ _ kS (fun _=>?_)
  clear hK K;refine Wp ?_;refine AR [16,17] ?_
  refine AP (fun K hK=>?_) ?_
  .refine xo ?_;intro ja w9 l9 R9 dv;(try have tG:Hid (0<fS.length->ja≠mb (.slice fB n9 c9)):=ar (fun h0=>Nat.ne_of_gt (Nat.lt_of_lt_of_le (fF.lt h0) l9)));(try replace fF:=fF.below dv);refine Pu ?_;clear N R9 dv l9;intro N;refine tD ?_;clear kS;intro kS
   refine hh ?_
   clear hK K
   exact Dj
  refine AP (fun K hK=>?_) AZ
  refine yK ?_;intro j7 w9 l9 R9 dv;(try have tF:Hid (0<fS.length->j7≠mb (.slice fB n9 c9)):=ar (fun h0=>Nat.ne_of_gt (Nat.lt_of_lt_of_le (fF.lt h0) l9)));(try replace fF:=fF.below dv);refine zF ?_;clear N R9 dv l9;intro N;refine tD ?_;clear kS;intro kS
  refine hh ?_
  clear hK K
  exact Di
 refine AP (fun K hK=>?_) ?_
 .refine xo ?_;intro ja w9 l9 R9 dv;(replace dv:=nL dv);refine Pu ?_;clear N R9 dv l9;intro N;refine tD ?_;clear kS;intro kS
  refine hh ?_
  clear hK K;refine AR [10,17] ?_
  refine AC (fun K hK=>?_) ?_
  .go_simp
   go_at_call 74;(refine(CO _ N.m.maps).mono ?_);rintro e w8 ⟨fB,n9,c9,rfl,fF,fY,gN,df⟩;refine Ws ?_;intro H9 H7 qH;(try have tG:Hid (0<fS.length->ja≠mb (.slice fB n9 c9)):=ar (by first|exact N.ft gN 0 rfl ));replace N:=N.below df;clear df gN;refine tD ?_;clear kS;intro kS
   go_wp2_with fail
   refine hK.out _ _ kS (fun _=>?_)
   clear hK K;refine Wp ?_
   exact Dj
  refine AP (fun K hK=>?_) AZ
  refine yK ?_;intro j7 w9 l9 R9 dv;refine zF ?_;clear N R9 dv l9;intro N;refine qG ?_;clear kS;intro kS
  exact Dg
 refine AP (fun K hK=>?_) AZ
 refine yK ?_;intro j7 w9 l9 R9 dv;(replace dv:=nL dv);refine zF ?_;clear N R9 dv l9;intro N;refine tD ?_;clear kS;intro kS
 refine hh ?_
 clear hK K;refine AR [10,16] ?_
 refine AC (fun K hK=>?_) ?_
 .go_simp
  go_at_call 74;(refine(CO _ N.m.maps).mono ?_);rintro e w8 ⟨fB,n9,c9,rfl,fF,fY,gN,df⟩;refine Ws ?_;intro H9 H7 qH;(try have tF:Hid (0<fS.length->j7≠mb (.slice fB n9 c9)):=ar (by first|exact N.ft gN 0 rfl ));replace N:=N.below df;clear df gN;refine tD ?_;clear kS;intro kS
  go_wp2_with fail
  refine hK.out _ _ kS (fun _=>?_)
  clear hK K;refine Wp ?_
  exact Di
 refine AP (fun K hK=>?_) AZ
 refine xo ?_;intro ja w9 l9 R9 dv;refine Pk ?_;clear N R9 dv l9;intro N;refine qG ?_;clear kS;intro kS
 exact Dg
end Go.Proofs.YtnkpgdejagglaaaGreatDoor
