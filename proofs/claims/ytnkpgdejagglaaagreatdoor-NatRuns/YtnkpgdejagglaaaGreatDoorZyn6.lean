/-
  Of what a law stands on.
-/
import Derived.Test.YtnkpgdejagglaaaGreatDoorZyn5
set_option linter.all false
namespace Go.Proofs.YtnkpgdejagglaaaGreatDoor
open Go.Value renaming int → I,pointer → V
open Go.IntKind renaming i64 → Z
open _root_.Go.Proofs.Tryz Go.ChangeShapes Go.WideShapes Go.ChangeAt Go.RowKit Go.Maps
set_option maxHeartbeats 16000000
set_option maxRecDepth 100000
variable {w:World}{b:Nat}{s:Nt}{F:Nat->Prop}{p:Prop}
def q0i(h:cC w b s (dI s.fs) F)(fr:ByteArray)(hs:fr.size<=140737488351232)(p:bM)(sub draw:Int)(gq:s.full=true)(oI:s.left<=100):Calls prog 36 #[V (some ⟨b,0,none⟩),.string fr,.agg (dm p),I Z sub,I Z draw] w fun e w'=>e=.returned (.agg (s.refuse fr.data.toList 6).1.cells)/\∃F',cC w' b (s.refuse fr.data.toList 6).2 (dI (s.refuse fr.data.toList 6).2.fs) F'/\Gr F w w'/\∀c,F' c->F c\/w.heap.size<=c:=by
 have B:=h.start;(have CU:=fun W F (hN:cC W b s (dI s.fs) F)=>qlu hN)
 rw[gq] at CU
 (have CR:=fun W F (hN:cC W b s (dI s.fs) F)=>qp6 hN fr hs oI 6);(have jS:(s.refuse fr.data.toList 6).2.fs=s.fs:=by unfold Nt.refuse;split<;>rfl);rw[jS]
 generalize s.refuse fr.data.toList 6=r at *
 obtain⟨r1,r2⟩:=r
 simp only at *
 clear gq oI hs jS
 go_enter func36,ntmps36
 go_wp2_with (first|(refine gB 77 2 ?_;refine bx 77 (.tmp 2) (dm p) ?_;intro b7 w9 l9 R9 dv;replace B:=B.alloc (o:=ob 77 (dm p)) l9 R9 dv;clear R9 dv l9)|(refine gA 29 ?_;refine ax 10 29 EB ?_;intro nS w9 l9 R9 dv;replace B:=B.alloc (o:=ob 29 (eZ 0).cells) l9 R9 dv;clear R9 dv l9)|(go_at_call 72;go_fit (CU _ _ (B.nat));refine qX ?_)|(go_at_call 73;go_fit (CR _ _ B.nat);rintro e w5 ⟨rfl,F9,jZ,dX,fH⟩;clear CR;replace B:=B.call jZ dX fH;clear jZ dX fH)|(refine gS 29 10 21 ?_;refine sx (r1.cells) (B.row 0 rfl) ?_;intro w9 R9 gz;replace B:=B.turn 0 rfl R9 gz;clear R9 gz))
 (refine bodyPost_ret (mW (p:=10) rfl _ _ _ _ rfl (B.row 0 rfl) _ underlying29 rfl (ur _)) rfl ⟨rfl,_,B.nat,B.gr,B.sub⟩)
def C9(h:p:=by
 refine AR [18] ?_
 refine AP (fun K hK=>?_) ?_
 .refine m45 ?_;intro w9 R9 gz;replace fF:=NN fF gz tG.out;replace N:=N.turn 1 rfl R9 gz;clear R9 gz;refine qG ?_;intro kS
  refine hh ?_
  clear hK K;refine AR [19] ?_
  refine AP (fun K hK=>?_) AZ
  refine m67 ?_;intro w9 R9 gz;replace fF:=NN fF gz tF.out;replace N:=N.turn 0 rfl R9 gz;clear R9 gz;refine qG ?_;clear kS;intro kS
  refine hh ?_
  clear hK K;refine tq 20 (.bool t9) rfl kS (tq 21 (I Z e9) rfl kS ?_);refine oM ?_;clear kS fF fY H9 H7 qH tG tF;have B:=N.nb;clear N
  first|((go_wp2_with (first|(go_at_call 73;go_fit (CR _ _ B.nat);rintro e w5 ⟨rfl,F9,jZ,dX,fH⟩;clear CR;replace B:=B.call jZ dX fH;clear jZ dX fH)|(refine gS 29 10 43 ?_;refine sx (r1.cells) (B.row 2 rfl) ?_;intro w9 R9 gz;replace B:=B.turn 2 rfl R9 gz;clear R9 gz)));(refine bodyPost_ret (mW (p:=10) rfl _ _ _ _ rfl (B.row 2 rfl) _ underlying29 rfl (ur _)) rfl ⟨rfl,_,B.nat,B.gr,B.sub⟩)) 
 exact AZ):p:=h
def Da(h:p:=by
 refine hh ?_
 clear hK K;refine AR [10] ?_
 refine AC (fun K hK=>?_) ?_
 .go_simp
  go_at_call 74;(refine(CO _ N.m.maps).mono ?_);rintro e w8 ⟨fB,n9,c9,rfl,fF,fY,gN,df⟩;refine Wn ?_;intro H9 H7 qH;(try have tG:Hid (0<fS.length->ja≠mb (.slice fB n9 c9)):=ar (by first|exact N.ft gN 1 rfl));(try have tF:Hid (0<fS.length->j7≠mb (.slice fB n9 c9)):=ar (by first|exact N.ft gN 0 rfl ));replace N:=N.below df;clear df gN;refine qG ?_;clear kS;intro kS
  go_wp2_with fail
  refine hK.out _ _ kS (fun _=>?_)
  clear hK K;refine Wq ?_
  exact C9
 exact AZ):p:=h
def Db(h:p:=by
 refine hh ?_
 clear hK K
 exact C9):p:=h
def Dc(h:p:=by
 refine AR [16] ?_
 refine AP (fun K hK=>?_) ?_
 .refine xo ?_;intro ja w9 l9 R9 dv;(try have tG:Hid (0<fS.length->ja≠mb (.slice fB n9 c9)):=ar (fun h0=>Nat.ne_of_gt (Nat.lt_of_lt_of_le (fF.lt h0) l9)));(try replace fF:=fF.below dv);refine Pk ?_;clear R9 dv l9;intro N;refine qG ?_;intro kS
  exact Db
 exact AZ):p:=h
def Dd(h:p:=by
 refine AR [17] ?_
 refine AP (fun K hK=>?_) ?_
 .refine yK ?_;intro j7 w9 l9 R9 dv;(try have tF:Hid (0<fS.length->j7≠mb (.slice fB n9 c9)):=ar (fun h0=>Nat.ne_of_gt (Nat.lt_of_lt_of_le (fF.lt h0) l9)));(try replace fF:=fF.below dv);refine zF ?_;clear R9 dv l9;intro N;refine qG ?_;intro kS
  exact Db
 exact AZ):p:=h
def q3p(h:cC w b s (dI s.fs) F)(fr:ByteArray)(hs:fr.size<=140737488351232)(p:bM)(sub draw:Int)(gq:s.full=false)(oI:s.left<=100)(e9:Int)(f9 h9:Nat->Int)(fS:List Mp)(m9:Mp)(t9:Bool)(CO:∀(v:Value) W,cE W v s.ms->jw v->Calls prog 74 #[.agg (tc s.f s.g s.h v),I Z p.ae,I Z sub,I Z p.aj,I Z draw] W fun e w'=>∃sa n c,e=.returned (.tuple #[.agg (tc f9 s.g h9 (.slice sa n c)),.agg (mc m9),.bool t9,I Z e9])/\cE w' (.slice sa n c) fS/\jw (.slice sa n c)/\(0<fS.length->W.heap.size<=mb (.slice sa n c)\/(mb (.slice sa n c)=mb v/\0<s.ms.length))/\Below W.heap.size W w')(he:e9≠0):Calls prog 36 #[V (some ⟨b,0,none⟩),.string fr,.agg (dm p),I Z sub,I Z draw] w fun e w'=>e=.returned (.agg (s.refuse fr.data.toList e9).1.cells)/\∃F',cC w' b (s.refuse fr.data.toList e9).2 (dI (s.refuse fr.data.toList e9).2.fs) F'/\Gr F w w'/\∀c,F' c->F c\/w.heap.size<=c:=by
 (have CR:=fun W F (hN:cC W b s (dI s.fs) F)=>qp6 hN fr hs oI e9);(have jS:(s.refuse fr.data.toList e9).2.fs=s.fs:=by unfold Nt.refuse;split<;>rfl);rw[jS]
 generalize s.refuse fr.data.toList e9=r at *
 obtain⟨r1,r2⟩:=r
 simp only at *
 (have he2:(e9 != 0)=true:=by simpa using he);clear oI hs jS he;obtain⟨cs,v,ov,fm,D,zO,cnt,M,hF⟩:=h;refine m5w ?_;clear CO;intro CO N CU
 rw[gq] at CU
 clear M hF gq
 generalize(fun c=>zO c/\c<w.heap.size)=Fw at *
 go_enter func36,ntmps36
 go_upto_region 3 with(first|(refine gB 77 2 ?_;refine m3y ?_;clear N;intro b7 w9 N)|(refine gA 29 ?_;refine m4b ?_;clear N;intro nS w9 N)|(go_at_call 72;go_fit (CU _ _ (NG N.m));refine qX ?_))
 have kS:World.rangeAt _ _ _ _/\aP 77 _ b7 (dm p):=⟨N.m.dt,N.row 1 rfl⟩
 refine RD (fun W=>W.rangeAt b 4 (tc s.f s.g s.h v).toList/\aP 77 W b7 (dm p)) kS (fun _=>?_)
 refine Wu ?_
 refine tk 3 (.agg (tc s.f s.g s.h v)) rfl (WY (.tmp 25) rfl kr b kr s.f s.g s.h v (fun _ h=>h.1)) kS (tq 4 (V (some ⟨b7,0,none⟩)) rfl kS (tk 5 (I Z p.ae) rfl (Or.inl ⟨by kernel_rfl,by intro w hS;have hc:=(hS.2.cell 0).trans (show(dm p)[0]?=some (I Z p.ae) from rfl);go_simp⟩) kS ?_))
 refine m0v ?_
 refine AC (fun K hK=>?_) ?_
 .go_simp
  go_at_call 74;(refine(CO _ N.drew.m.maps).mono ?_);rintro e w8 ⟨fB,n9,c9,rfl,fF,fY,gN,df⟩;(replace df:=nL df);refine Wn ?_;intro H9 H7 qH;replace N:=N.below df;clear df gN;replace kS:World.rangeAt _ _ _ _/\aP 77 _ b7 (dm p):=⟨N.m.dt,by first|exact N.row 1 rfl ⟩
  go_wp2_with fail
  refine hK.out _ _ kS (fun _=>?_)
  clear hK K;refine Wq ?_;refine AR [16,17] ?_
  refine AP (fun K hK=>?_) ?_
  .refine xo ?_;intro ja w9 l9 R9 dv;(try have tG:Hid (0<fS.length->ja≠mb (.slice fB n9 c9)):=ar (fun h0=>Nat.ne_of_gt (Nat.lt_of_lt_of_le (fF.lt h0) l9)));(try replace fF:=fF.below dv);refine Pu ?_;clear N R9 dv l9;intro N;refine tD ?_;clear kS;intro kS
   refine hh ?_
   clear hK K
   exact Dd
  refine AP (fun K hK=>?_) AZ
  refine yK ?_;intro j7 w9 l9 R9 dv;(try have tF:Hid (0<fS.length->j7≠mb (.slice fB n9 c9)):=ar (fun h0=>Nat.ne_of_gt (Nat.lt_of_lt_of_le (fF.lt h0) l9)));(try replace fF:=fF.below dv);refine zF ?_;clear N R9 dv l9;intro N;refine tD ?_;clear kS;intro kS
  refine hh ?_
  clear hK K
  exact Dc
 refine AP (fun K hK=>?_) ?_
 .refine xo ?_;intro ja w9 l9 R9 dv;(replace dv:=nL dv);refine Pu ?_;clear N R9 dv l9;intro N;refine tD ?_;clear kS;intro kS
  refine hh ?_
  clear hK K;refine AR [10,17] ?_
  refine AC (fun K hK=>?_) ?_
  .go_simp
   go_at_call 74;(refine(CO _ N.m.maps).mono ?_);rintro e w8 ⟨fB,n9,c9,rfl,fF,fY,gN,df⟩;refine Wn ?_;intro H9 H7 qH;(try have tG:Hid (0<fS.length->ja≠mb (.slice fB n9 c9)):=ar (by first|exact N.ft gN 0 rfl ));replace N:=N.below df;clear df gN;refine tD ?_;clear kS;intro kS
   go_wp2_with fail
   refine hK.out _ _ kS (fun _=>?_)
   clear hK K;refine Wq ?_
   exact Dd
  refine AP (fun K hK=>?_) AZ
  refine yK ?_;intro j7 w9 l9 R9 dv;refine zF ?_;clear N R9 dv l9;intro N;refine qG ?_;clear kS;intro kS
  exact Da
 refine AP (fun K hK=>?_) AZ
 refine yK ?_;intro j7 w9 l9 R9 dv;(replace dv:=nL dv);refine zF ?_;clear N R9 dv l9;intro N;refine tD ?_;clear kS;intro kS
 refine hh ?_
 clear hK K;refine AR [10,16] ?_
 refine AC (fun K hK=>?_) ?_
 .go_simp
  go_at_call 74;(refine(CO _ N.m.maps).mono ?_);rintro e w8 ⟨fB,n9,c9,rfl,fF,fY,gN,df⟩;refine Wn ?_;intro H9 H7 qH;(try have tF:Hid (0<fS.length->j7≠mb (.slice fB n9 c9)):=ar (by first|exact N.ft gN 0 rfl ));replace N:=N.below df;clear df gN;refine tD ?_;clear kS;intro kS
  go_wp2_with fail
  refine hK.out _ _ kS (fun _=>?_)
  clear hK K;refine Wq ?_
  exact Dc
 refine AP (fun K hK=>?_) AZ
 refine xo ?_;intro ja w9 l9 R9 dv;refine Pk ?_;clear N R9 dv l9;intro N;refine qG ?_;clear kS;intro kS
 exact Da
end Go.Proofs.YtnkpgdejagglaaaGreatDoor
