/-
  Of what a law stands on.
-/
import Derived.Test.YtnkpgdejagglaaaGreatDoorZyn3
set_option linter.all false
namespace Go.Proofs.YtnkpgdejagglaaaGreatDoor
open Go.Value renaming int → I,pointer → V
open Go.IntKind renaming i64 → Z
open _root_.Go.Proofs.Tryz Go.ChangeShapes Go.WideShapes Go.ChangeAt Go.RowKit Go.Maps
set_option maxHeartbeats 16000000
set_option maxRecDepth 100000
variable {p:Prop}
def Cv(h:p:=by
 refine AR [14] ?_
 refine AP (fun K hK=>?_) ?_
 .refine sy (mc m) (N.row 0 rfl) ?_;intro w9 R9 t9;replace N:=N.turn 0 rfl R9 t9;clear R9 t9;replace kS:=N.row 1 rfl
  refine hh ?_
  clear hK K;refine tq 15 (.bool true) rfl kS ?_;refine oM ?_;clear kS
  first|((go_wp2_with (first|(refine gL 77 5 ?_;refine qf 77 (.tmp 5) rfl kr b5 rfl (dm p) (N.row 1 rfl) _ underlying77 rfl (NJ p) ?_)|(refine gL 72 9 ?_;refine qf 72 (.tmp 9) rfl kr b9 rfl (mc m) (N.row 0 rfl) _ underlying72 rfl (lS m) ?_)|(go_at_call 39;go_fit (CL _ _ N.nat);rintro e w5 ⟨rfl,F9,fY,dX,fH⟩;clear CL;replace N:=N.call fY dX fH;clear fY dX fH)|(refine gL 3 72 ?_;refine fx (N.row 0 rfl) (m.2.1) ?_)|(refine gL 3 75 ?_;refine fx (N.row 0 rfl) (m.2.2.1) ?_)|(go_at_call 40;go_fit (CT _ _ _);rintro e w5 ⟨rfl,bh⟩;clear CT;replace N:=N.below bh;clear bh)|((with_reducible refine iE (.build 29 #[(0,.tmp 80),(1,.tmp 81),(2,.const (.bool true))]) rfl ?_);refine qdd (.tmp 80) (.tmp 81) rfl rfl _ _ rfl rfl ?_)|(refine gS 29 4 82 ?_;refine sx (Rp.cells ⟨lA l 1 (167772161+m.2.1) m.2.2.1,nI l 1 (167772161+m.2.1) m.2.2.1,true,ByteArray.empty⟩) (N.row 2 rfl) ?_;intro w9 R9 t9;replace N:=N.turn 2 rfl R9 t9;clear R9 t9)));(refine bodyPost_ret (mW (p:=4) rfl _ _ _ _ rfl (N.row 2 rfl) _ underlying29 rfl (ur _)) rfl ⟨rfl,_,N.nat,N.gr,N.sub⟩)) 
 exact AZ):p:=h
def Cw(h:p:=by
 refine hh ?_
 clear hK K;refine AR [9] ?_
 refine AC (fun K hK=>?_) ?_
 .go_simp
  go_at_call 38;(refine(CB _ _ fh).mono ?_);rintro e w9 ⟨rfl,df⟩;replace N:=N.below df;clear df fh;(try clear ru);(replace kS:aP 77 _ b5 (dm p):=N.row 1 rfl)
  go_wp2_with fail
  refine hK.out _ _ kS (fun _=>?_)
  clear hK K;refine Wx ?_
  exact Cv
 exact AZ):p:=h
def Cx(h:p:=by
 have kS:=N.row 0 rfl
 refine RD (fun W=>aP 77 W b5 (dm p)) kS (fun _=>?_)
 refine m0b ?_
 refine AP (fun K hK=>?_) ?_
 .obtain⟨v0,ru,fh,-,-⟩:=N.nat.table;(refine wp_load_mid 42 (.tmp 49) rfl b 4 kr (tc s.f s.g s.h v0).toList _ ru underlying42 rfl (Il _ _ _ _) ?_);refine xZ ?_
  refine hh ?_
  clear hK K;refine AR [9,13] ?_
  refine AC (fun K hK=>?_) ?_
  .go_simp
   go_at_call 38;(refine(CB _ _ (fh.below (Below.refl _ _).drew)).mono ?_);rintro e w9 ⟨rfl,df⟩;(replace df:=nL df);replace N:=N.below df;clear df fh;(try clear ru);(replace kS:aP 77 _ b5 (dm p):=N.row 0 rfl)
   go_wp2_with fail
   refine hK.out _ _ kS (fun _=>?_)
   clear hK K;refine Wx ?_;refine AR [13] ?_
   refine AP (fun K hK=>?_) AZ
   refine Ga ?_;intro b9 w9 l9 R9 h9;refine Cc ?_;clear N;intro N;clear R9 h9 l9;replace kS:=N.row 1 rfl
   refine hh ?_
   clear hK K
   exact Cv
  refine AP (fun K hK=>?_) AZ
  refine Ga ?_;intro b9 w9 l9 R9 h9;(replace h9:=nL h9);refine Cc ?_;clear N;intro N;(try replace fh:=fh.below h9);clear R9 h9 l9;replace kS:=N.row 1 rfl
  exact Cw
 refine AP (fun K hK=>?_) ?_
 .refine Ga ?_;intro b9 w9 l9 R9 h9;(replace h9:=nL h9);refine Cc ?_;clear N;intro N;clear R9 h9 l9;replace kS:=N.row 1 rfl
  refine hh ?_
  clear hK K;refine AR [3] ?_
  refine AP (fun K hK=>?_) AZ
  obtain⟨v0,ru,fh,-,-⟩:=N.nat.table;(refine wp_load_mid 42 (.tmp 49) rfl b 4 kr (tc s.f s.g s.h v0).toList _ ru underlying42 rfl (Il _ _ _ _) ?_);refine xZ ?_
  exact Cw
 exact AZ):p:=h
def Cy(h:p:=by
 refine AR [14] ?_
 refine AP (fun K hK=>?_) ?_
 .refine sy (mc m) (N.row 0 rfl) ?_;intro w9 R9 t9;replace N:=N.turn 0 rfl R9 t9;clear R9 t9;replace kS:=N.row 1 rfl
  refine hh ?_
  clear hK K;refine tq 15 (.bool true) rfl kS ?_;refine oM ?_;clear kS
  first|((go_wp2_with (first|(refine gL 77 5 ?_;refine qf 77 (.tmp 5) rfl kr b5 rfl (dm p) (N.row 1 rfl) _ underlying77 rfl (NJ p) ?_)|(refine gL 72 9 ?_;refine qf 72 (.tmp 9) rfl kr b9 rfl (mc m) (N.row 0 rfl) _ underlying72 rfl (lS m) ?_)|(go_at_call 39;go_fit (CL _ _ N.nat);rintro e w5 ⟨rfl,F9,fY,dX,fH⟩;clear CL;replace N:=N.call fY dX fH;clear fY dX fH)|(go_at_call 15;go_fit (CFc _);refine tE ?_;clear N;intro w5 N)|(refine gS 29 4 69 ?_;refine sx ((eZ cd).cells) (N.row 2 rfl) ?_;intro w9 R9 t9;replace N:=N.turn 2 rfl R9 t9;clear R9 t9)));(refine bodyPost_ret (mW (p:=4) rfl _ _ _ _ rfl (N.row 2 rfl) _ underlying29 rfl (ur _)) rfl ⟨rfl,_,N.nat,N.gr,N.sub⟩)) 
 exact AZ):p:=h
def xz(h:p:=by
 refine hh ?_
 clear hK K;refine AR [9] ?_
 refine AC (fun K hK=>?_) ?_
 .go_simp
  go_at_call 38;(refine(CB _ _ fh).mono ?_);rintro e w9 ⟨rfl,df⟩;replace N:=N.below df;clear df fh;(try clear ru);(replace kS:aP 77 _ b5 (dm p):=N.row 1 rfl)
  go_wp2_with fail
  refine hK.out _ _ kS (fun _=>?_)
  clear hK K;refine Wx ?_
  exact Cy
 exact AZ):p:=h
def Cz(h:p:=by
 have kS:=N.row 0 rfl
 refine RD (fun W=>aP 77 W b5 (dm p)) kS (fun _=>?_)
 refine m0b ?_
 refine AP (fun K hK=>?_) ?_
 .obtain⟨v0,ru,fh,-,-⟩:=N.nat.table;(refine wp_load_mid 42 (.tmp 49) rfl b 4 kr (tc s.f s.g s.h v0).toList _ ru underlying42 rfl (Il _ _ _ _) ?_);refine xZ ?_
  refine hh ?_
  clear hK K;refine AR [9,13] ?_
  refine AC (fun K hK=>?_) ?_
  .go_simp
   go_at_call 38;(refine(CB _ _ (fh.below (Below.refl _ _).drew)).mono ?_);rintro e w9 ⟨rfl,df⟩;(replace df:=nL df);replace N:=N.below df;clear df fh;(try clear ru);(replace kS:aP 77 _ b5 (dm p):=N.row 0 rfl)
   go_wp2_with fail
   refine hK.out _ _ kS (fun _=>?_)
   clear hK K;refine Wx ?_;refine AR [13] ?_
   refine AP (fun K hK=>?_) AZ
   refine Ga ?_;intro b9 w9 l9 R9 h9;refine Cc ?_;clear N;intro N;clear R9 h9 l9;replace kS:=N.row 1 rfl
   refine hh ?_
   clear hK K
   exact Cy
  refine AP (fun K hK=>?_) AZ
  refine Ga ?_;intro b9 w9 l9 R9 h9;(replace h9:=nL h9);refine Cc ?_;clear N;intro N;(try replace fh:=fh.below h9);clear R9 h9 l9;replace kS:=N.row 1 rfl
  exact xz
 refine AP (fun K hK=>?_) ?_
 .refine Ga ?_;intro b9 w9 l9 R9 h9;(replace h9:=nL h9);refine Cc ?_;clear N;intro N;clear R9 h9 l9;replace kS:=N.row 1 rfl
  refine hh ?_
  clear hK K;refine AR [3] ?_
  refine AP (fun K hK=>?_) AZ
  obtain⟨v0,ru,fh,-,-⟩:=N.nat.table;(refine wp_load_mid 42 (.tmp 49) rfl b 4 kr (tc s.f s.g s.h v0).toList _ ru underlying42 rfl (Il _ _ _ _) ?_);refine xZ ?_
  exact xz
 exact AZ):p:=h
def pX(h:p:=by
 go_enter func17,ntmps17
 go_wp2_with (first|(refine gA 29 ?_;refine EI ?_;intro b4 w9 N)|(go_at_call 29;refine Hy ?_;clear N;intro w5 N)|(refine gA 77 ?_;refine Nd ?_;clear N;intro b5 w9 N)|(refine gS 77 5 15 ?_;refine Ni ?_;refine oH ?_;clear N;intro w9 N)|(refine gL 3 22 ?_;refine Nn ?_)|(refine gL 3 32 ?_;refine Ia ?_)|(refine gL 3 42 ?_;refine Ib ?_)|(refine gL 3 36 ?_;refine Tr ?_)|(go_at_call 37;go_fit (CA _);refine qX ?_)|(go_at_call 15;go_fit (pY _);refine tE ?_;clear N;intro w5 N)|(refine gS 29 4 45 ?_;refine sx ((eZ 12).cells) (N.row 1 rfl) ?_;refine zJ ?_;clear N;intro w9 N)|(go_at_call 15;go_fit (CJ _);refine tE ?_;clear N;intro w5 N)|(refine gS 29 4 40 ?_;refine sx ((eZ 4).cells) (N.row 1 rfl) ?_;refine zJ ?_;clear N;intro w9 N)|(go_at_call 15;go_fit (CY _);refine tE ?_;clear N;intro w5 N)|(refine gS 29 4 30 ?_;refine sx ((eZ 7).cells) (N.row 1 rfl) ?_;refine zJ ?_;clear N;intro w9 N)|(refine gS 77 5 15 ?_;refine sx (dm p0) (N.row 0 rfl) ?_;refine oH ?_;clear N;intro w9 N)|(go_at_call 15;go_fit (CF _);refine tE ?_;clear N;intro w5 N)|(refine gS 29 4 20 ?_;refine sx ((eZ (cj l)).cells) (N.row 1 rfl) ?_;refine zJ ?_;clear N;intro w9 N))
 (refine bodyPost_ret (mW (p:=4) rfl _ _ _ _ rfl (N.row 1 rfl) _ underlying29 rfl (ur _)) rfl ⟨rfl,_,N.nat,N.gr,N.sub⟩)):p:=h
def CZ(h:p:=by
 refine AR [14] ?_
 refine AP (fun K hK=>?_) ?_
 .refine sy (mc fW) (N.row 0 rfl) ?_;intro w9 R9 t9;replace N:=N.turn 0 rfl R9 t9;clear R9 t9;replace kS:=N.row 1 rfl
  refine hh ?_
  clear hK K;refine tq 15 (.bool false) rfl kS ?_;refine oM ?_;clear kS
  first|((go_wp2_with (first|(go_at_call 15;go_fit (CY _);refine tE ?_;clear N;intro w5 N)|(refine gS 29 4 61 ?_;refine sx ((eZ 7).cells) (N.row 2 rfl) ?_;intro w9 R9 t9;replace N:=N.turn 2 rfl R9 t9;clear R9 t9)));(refine bodyPost_ret (mW (p:=4) rfl _ _ _ _ rfl (N.row 2 rfl) _ underlying29 rfl (ur _)) rfl ⟨rfl,_,N.nat,N.gr,N.sub⟩)) 
 exact AZ):p:=h
def C5(h:p:=by
 refine hh ?_
 clear hK K;refine AR [9] ?_
 refine AC (fun K hK=>?_) ?_
 .go_simp
  go_at_call 38;(refine(CB _ _ fh).mono ?_);rintro e w9 ⟨rfl,df⟩;replace N:=N.below df;clear df fh;(try clear ru);(replace kS:aP 77 _ b5 (dm p):=N.row 1 rfl)
  go_wp2_with fail
  refine hK.out _ _ kS (fun _=>?_)
  clear hK K;refine m5n ?_
  exact CZ
 exact AZ):p:=h
def C6(h:p:=by
 have kS:=N.row 0 rfl
 refine RD (fun W=>aP 77 W b5 (dm p)) kS (fun _=>?_)
 refine m0b ?_
 refine AP (fun K hK=>?_) ?_
 .obtain⟨v0,ru,fh,-,-⟩:=N.nat.table;(refine wp_load_mid 42 (.tmp 49) rfl b 4 kr (tc s.f s.g s.h v0).toList _ ru underlying42 rfl (Il _ _ _ _) ?_);refine xZ ?_
  refine hh ?_
  clear hK K;refine AR [9,13] ?_
  refine AC (fun K hK=>?_) ?_
  .go_simp
   go_at_call 38;(refine(CB _ _ (fh.below (Below.refl _ _).drew)).mono ?_);rintro e w9 ⟨rfl,df⟩;(replace df:=nL df);replace N:=N.below df;clear df fh;(try clear ru);(replace kS:aP 77 _ b5 (dm p):=N.row 0 rfl)
   go_wp2_with fail
   refine hK.out _ _ kS (fun _=>?_)
   clear hK K;refine m5n ?_;refine AR [13] ?_
   refine AP (fun K hK=>?_) AZ
   refine Ga ?_;intro b9 w9 l9 R9 h9;refine Cc ?_;clear N;intro N;clear R9 h9 l9;replace kS:=N.row 1 rfl
   refine hh ?_
   clear hK K
   exact CZ
  refine AP (fun K hK=>?_) AZ
  refine Ga ?_;intro b9 w9 l9 R9 h9;(replace h9:=nL h9);refine Cc ?_;clear N;intro N;(try replace fh:=fh.below h9);clear R9 h9 l9;replace kS:=N.row 1 rfl
  exact C5
 refine AP (fun K hK=>?_) ?_
 .refine Ga ?_;intro b9 w9 l9 R9 h9;(replace h9:=nL h9);refine Cc ?_;clear N;intro N;clear R9 h9 l9;replace kS:=N.row 1 rfl
  refine hh ?_
  clear hK K;refine AR [3] ?_
  refine AP (fun K hK=>?_) AZ
  obtain⟨v0,ru,fh,-,-⟩:=N.nat.table;(refine wp_load_mid 42 (.tmp 49) rfl b 4 kr (tc s.f s.g s.h v0).toList _ ru underlying42 rfl (Il _ _ _ _) ?_);refine xZ ?_
  exact C5
 exact AZ):p:=h
def q1g{w:World}{b:Nat}{s:Nt}{F:Nat->Prop}(h:cC w b s (dI s.fs) F)(fr:ByteArray)(hs:fr.size<=140737488351232)(dn:0<=s.now/\s.now<=549755813888)(hbg:s.began<700)(dU:s.fs.length<400)(hst:∀m∈s.ms,0<=m.2.1/\m.2.1<8):Calls prog 17 #[V (some ⟨b,0,none⟩),.string fr] w fun e w'=>e=.returned (.agg (s.i7 fr.data.toList).1.cells)/\∃F',cC w' b (s.i7 fr.data.toList).2 (dI (s.i7 fr.data.toList).2.fs) F'/\Gr F w w'/\∀c,F' c->F c\/w.heap.size<=c:=by
 have N:=h.start;(have CP:=fun w=>Rx fr w hs);(have CT:=fun addr port w=>qvz fr 1 addr port w hs)
 simp only[qgx] at CP
 unfold Nt.i7
 generalize fr.data.toList=l at *
 by_cases hb:cj l=0
 rotate_left
 .rw[aZ hb];(have rb:iw l=p0:=by unfold iw;rw[aT hb])
  rw[rb] at CP
  (have fj:(cj l != 0)=true:=by simpa using hb);(have CF:=fun w=>xp (cj l) w)
  rw[←EM] at CF
  clear rb hb hs dn hbg dU hst CT
  exact pX
 (have rb:iw l=ba l:=by unfold iw;rw[aZ hb]);rw[aT (fun h=>h hb)]
 rw[rb,hb] at CP
 have hrg:=(yg _).1 (uJ _ (Sr hb)).2.1;clear rb hb
 generalize ba l=p at *
 (have CA:=fun w=>qop p.dst w hrg.2.2.1 hrg.2.2.2.1);(have CY:=fun w=>xp 7 w);(have CJ:=fun w=>xp 4 w);(have pY:=fun w=>xp 12 w)
 rw[←EM] at CY CJ pY
 by_cases ha:0<=p.dst-3405803777/\p.dst-3405803777<3
 rotate_left
 .rw[aZ ha]
  rw[decide_eq_false ha] at CA
  clear ha hrg hs dn hbg dU hst CT CJ pY
  exact pX
 rw[aT (fun h=>h ha)]
 rw[decide_eq_true ha] at CA
 cases hk:(p.ae==1&&p.flags != 0) with
 | true=>
  rw[aZ rfl]
  obtain⟨qE,hk2⟩:(p.ae==1)=true/\(p.flags != 0)=true:=by simpa[Bool.and_eq_true] using hk
  clear ha hrg hs dn hbg dU hst CT CY pY hk
  exact pX
 | false=>
  rw[aT zm]
  by_cases ht:p.aG=1
  .rw[aZ ht];(have Rg:(p.aG==1)=true:=by simp[ht]);clear ha hrg hs dn hbg dU hst CT CY CJ ht
   cases h1:(p.ae==1) with
   | false=>
    clear hk
    exact pX
   | true=>
    (have h2:(p.flags != 0)=false:=by rw[h1] at hk;simpa using hk);clear hk
    exact pX
  .rw[aT ht];(have Rg:(p.aG==1)=false:=by simp[ht])
   have HK:Hid ((p.ae==1)=false\/(p.ae==1)=true/\(p.flags != 0)=false):=ar (by
    cases h1:(p.ae==1) with
    | false=>exact .inl rfl
    | true=>rw[h1] at hk;exact .inr ⟨rfl,by simpa using hk⟩)
   clear ht hk CJ pY;(have CB:=fun v W hM=>qqr s.f s.g s.h v s.ms p.ae (p.dst-3405803777) p.ai W hM)
   cases hf:s.ms.find? (gj p.ae (p.dst-3405803777) p.ai) with
   | none=>
    rw[hf] at CB
    unfold sZ at CB
    simp only
    clear hf hs dn hbg dU hst CT hrg ha
    rcases HK.out with qE|⟨qE,hk2⟩
    .clear HK
     go_enter func17,ntmps17
     go_upto_region 11 with(first|(refine gA 29 ?_;refine EI ?_;clear N;intro b4 w9 N)|(go_at_call 29;refine Hy ?_;clear CP N;intro w5 N)|(refine gA 77 ?_;refine Nd ?_;clear N;intro b5 w9 N)|(refine gS 77 5 15 ?_;refine Ni ?_;refine oH ?_;clear N;intro w9 N)|(refine gL 3 22 ?_;refine Nn ?_)|(refine gL 3 32 ?_;refine Ia ?_)|(refine gL 3 42 ?_;refine Ib ?_)|(go_at_call 37;go_fit (CA _);refine qX ?_))
     exact C6
    .clear HK
     go_enter func17,ntmps17
     go_upto_region 11 with(first|(refine gA 29 ?_;refine EI ?_;clear N;intro b4 w9 N)|(go_at_call 29;refine Hy ?_;clear CP N;intro w5 N)|(refine gA 77 ?_;refine Nd ?_;clear N;intro b5 w9 N)|(refine gS 77 5 15 ?_;refine Ni ?_;refine oH ?_;clear N;intro w9 N)|(refine gL 3 22 ?_;refine Nn ?_)|(refine gL 3 32 ?_;refine Ia ?_)|(refine gL 3 36 ?_;refine Tr ?_)|(refine gL 3 42 ?_;refine Ib ?_)|(go_at_call 37;go_fit (CA _);refine qX ?_))
     exact C6
   | some m=>
    rw[hf] at CB
    unfold sZ at CB
    simp only
    have hm:=hst m (List.mem_of_find?_eq_some hf);(have CL:=fun W F (hN:cC W b s (dI s.fs) F)=>q4i hN p m dn hbg dU);(have hw:wrap64 (167772161+m.2.1)=167772161+m.2.1:=by unfold wrap64;omega)
    obtain⟨cd,s2,hcs⟩:∃cd s2,s.dK p m=(cd,s2):=⟨_,_,rfl⟩
    rw[hcs] at CL ⊢
    simp only at CL ⊢
    by_cases hc:cd=0
    .rw[aT (fun h=>h hc)]
     subst hc
     clear hf hs dn hbg dU hst hrg ha hm hcs
     rcases HK.out with qE|⟨qE,hk2⟩
     .clear HK
      go_enter func17,ntmps17
      go_upto_region 11 with(first|(refine gA 29 ?_;refine EI ?_;clear N;intro b4 w9 N)|(go_at_call 29;refine Hy ?_;clear CP N;intro w5 N)|(refine gA 77 ?_;refine Nd ?_;clear N;intro b5 w9 N)|(refine gS 77 5 15 ?_;refine Ni ?_;refine oH ?_;clear N;intro w9 N)|(refine gL 3 22 ?_;refine Nn ?_)|(refine gL 3 32 ?_;refine Ia ?_)|(refine gL 3 42 ?_;refine Ib ?_)|(go_at_call 37;go_fit (CA _);refine qX ?_))
      exact Cx
     .clear HK
      go_enter func17,ntmps17
      go_upto_region 11 with(first|(refine gA 29 ?_;refine EI ?_;clear N;intro b4 w9 N)|(go_at_call 29;refine Hy ?_;clear CP N;intro w5 N)|(refine gA 77 ?_;refine Nd ?_;clear N;intro b5 w9 N)|(refine gS 77 5 15 ?_;refine Ni ?_;refine oH ?_;clear N;intro w9 N)|(refine gL 3 22 ?_;refine Nn ?_)|(refine gL 3 32 ?_;refine Ia ?_)|(refine gL 3 36 ?_;refine Tr ?_)|(refine gL 3 42 ?_;refine Ib ?_)|(go_at_call 37;go_fit (CA _);refine qX ?_))
      exact Cx
    .rw[aZ hc];(have hc2:(cd != 0)=true:=by simpa using hc);(have CFc:=fun w=>xp cd w)
     rw[←EM] at CFc
     clear hf hs dn hbg dU hst hrg ha hm hcs hc CT hw
     rcases HK.out with qE|⟨qE,hk2⟩
     .clear HK
      go_enter func17,ntmps17
      go_upto_region 11 with(first|(refine gA 29 ?_;refine EI ?_;clear N;intro b4 w9 N)|(go_at_call 29;refine Hy ?_;clear CP N;intro w5 N)|(refine gA 77 ?_;refine Nd ?_;clear N;intro b5 w9 N)|(refine gS 77 5 15 ?_;refine Ni ?_;refine oH ?_;clear N;intro w9 N)|(refine gL 3 22 ?_;refine Nn ?_)|(refine gL 3 32 ?_;refine Ia ?_)|(refine gL 3 42 ?_;refine Ib ?_)|(go_at_call 37;go_fit (CA _);refine qX ?_))
      exact Cz
     .clear HK
      go_enter func17,ntmps17
      go_upto_region 11 with(first|(refine gA 29 ?_;refine EI ?_;clear N;intro b4 w9 N)|(go_at_call 29;refine Hy ?_;clear CP N;intro w5 N)|(refine gA 77 ?_;refine Nd ?_;clear N;intro b5 w9 N)|(refine gS 77 5 15 ?_;refine Ni ?_;refine oH ?_;clear N;intro w9 N)|(refine gL 3 22 ?_;refine Nn ?_)|(refine gL 3 32 ?_;refine Ia ?_)|(refine gL 3 36 ?_;refine Tr ?_)|(refine gL 3 42 ?_;refine Ib ?_)|(go_at_call 37;go_fit (CA _);refine qX ?_))
      exact Cz
end Go.Proofs.YtnkpgdejagglaaaGreatDoor
