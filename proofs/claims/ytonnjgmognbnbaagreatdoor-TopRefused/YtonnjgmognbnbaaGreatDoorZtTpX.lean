/-
  Of what a law stands on.
-/
import Derived.Test.YtonnjgmognbnbaaGreatDoorZtTpW
set_option linter.unusedSimpArgs false
set_option linter.unusedVariables false
namespace Go.Proofs.YtonnjgmognbnbaaGreatDoor
open Go.Value renaming int → I,pointer → V
open Go.IntKind renaming i64 → Z
open _root_.Go.Proofs.Tryz Go.ChangeShapes Go.WideShapes Go.ChangeAt Go.RowKit Go.Maps
set_option maxHeartbeats 16000000
set_option maxRecDepth 100000
variable {p:Prop}
theorem qgg(k:Ac):(prog.info? 23).map (·.size)=some (ac k).size:=by kernel_rfl
theorem sZtTpX1(h:p:=by
 have HLG:Hid (lg=ByteArray.empty):=hlg;(have CT2:=fun W F (hN:qaw W b s2 (duF s2.fs) F)=>qfa hN (by rw[hsame.ms];exact HML.out))
 have CL2:∀W F,qaw W b s2 (duF s2.fs) F->Calls prog 22 #[V (some ⟨b,0,none⟩)] W (fun e w'=>∃v,e=.returned v/\FlO w' W.heap.size v ks/\Below W.heap.size W w'):=fun W F hN=>by
  have:=qhb hN
  rw[hsame.fs,←HEQ.out.2.2.2.2.1] at this
  exact this
 (have CN2:=fun W F (hN:qaw W b s2 (duF s2.fs) F)=>qda hN);obtain⟨e1,e2,e3,e4,e5,e6,e7⟩:=HEQ.out
 rw[hsame.f,hsame.g,hsame.h,hsame.ms,←e1,←e2,←e3,←e4,←e7] at CT2
 rw[hsame.now,←e6] at CN2
 clear hsame hlg e1 e2 e3 e4 e5 e6 e7
 go_upto_region 10 with(first|((with_reducible refine gL 23 5 ?_);refine lx 23 (.tmp 5) (ac ⟨kd,an,dr,af⟩) (N.row 2 rfl) ?_)|(go_at_call 18;refine m4q ?_;rintro e w5 ⟨rfl,F9,hN9,hg9,hf9⟩;clear CD k0 k3;replace C:=C.call hg9 hf9;replace N:=N.call hN9 hg9 hf9;clear hN9 hg9 hf9)|((with_reducible refine gA 27 ?_);refine ax 15 27 qan ?_;intro b15 w9 l9 R9 h9;refine m3a ?_;intro HM15 HE15;refine m3q ?_;clear N;intro N;replace C:=C.below h9;clear R9 h9 l9)|((with_reducible refine gS 27 15 51 ?_);refine m5v ?_;clear N C;intro w9 N C kc0))
 clear kc0;refine m21 ?_;intro kS
 refine RD (fun W=>Row 39 W b9 (tc f g h (.slice sa nm kc))/\Row 27 W b15 (Rp.cells ⟨c,fr,inn,lg⟩)) kS (fun _=>?_)
 replace N:=N.drew;replace C:=C.drew
 refine tq 0 (V (some ⟨b15,3,none⟩)) rfl kS (tk 1 (.string ByteArray.empty) rfl (Or.inl ⟨by kernel_rfl,by intro w hS;have hc:=(hS.2.cell 3).trans (show(Rp.cells ⟨c,fr,inn,lg⟩)[3]?=some (.string ByteArray.empty) by rw[qb2];exact congrArg (fun z=>some (Value.string z)) HLG.out);go_simp⟩) kS (tq 2 (.bool true) rfl kS ?_))
 refine m5i ?_
 refine tq 3 (.bool true) rfl kS (tk 4 (.agg (tc f g h (.slice sa nm kc))) rfl (yx 39 (.tmp 9) (tc f g h (.slice sa nm kc)) (fun _ h=>h.1)) kS (tq 5 (V (some ⟨b,0,none⟩)) rfl kS ?_))
 refine m5i ?_;refine AR [6] ?_
 refine AC (fun K hK=>?_) ?_
 ·go_simp
  go_at_call 21;refine(CT2 _ _ N.nat).mono ?_;rintro e w8 ⟨sa8,kc8,rfl,hm8,-,-,hb8⟩;replace N:=N.below hb8;replace C:=C.below hb8;clear kS;refine m21 ?_;intro kS;clear hb8
  go_wp2_with fail
  refine hK.out _ _ kS (fun _=>?_)
  clear hK K;(try simp only[ZZ]);refine AR [7] ?_
  refine AC (fun K hK=>?_) AZ
  refine m3p ?_;intro w8 hb8;replace N:=N.below hb8;replace C:=C.below hb8;clear kS;refine m21 ?_;intro kS;clear hb8 hm8
  go_wp2_with fail
  refine hK.out _ _ kS (fun _=>?_)
  clear hK K;(try simp only[ZZ]);refine tq 8 (.bool true) rfl kS (tq 9 (.bool true) rfl kS (tq 10 (.slice fa nk fcap) rfl kS ?_));refine m5i ?_;refine tq 11 (V (some ⟨b,0,none⟩)) rfl kS ?_;refine m5i ?_;refine AR [12] ?_
  refine AC (fun K hK=>?_) AZ
  go_simp
  go_at_call 22;refine(CL2 _ _ N.nat).mono ?_;rintro e w8 ⟨v8,rfl,hf8,hb8⟩;replace N:=N.below hb8;replace C:=C.below hb8;clear kS;refine m21 ?_;intro kS;have hf9:=hf8.at HKL.out;clear hb8 hf8;obtain⟨fa8,fc8,hfv8⟩:=hf9.slice;rw[←HNK.out] at hfv8;subst hfv8
  go_wp2_with fail
  refine hK.out _ _ kS (fun _=>?_)
  clear hK K;(try simp only[ZZ]);refine AR [13] ?_
  refine AC (fun K hK=>?_) AZ
  refine m4s ?_;intro w8 hb8;replace N:=N.below hb8;replace C:=C.below hb8;clear kS;refine m21 ?_;intro kS;clear hb8 hf9
  go_wp2_with fail
  refine hK.out _ _ kS (fun _=>?_)
  clear hK K;(try simp only[ZZ]);refine tq 14 (.bool true) rfl kS (tq 15 (.bool true) rfl kS (tq 16 (V (some ⟨b,0,none⟩)) rfl kS ?_));refine m5i ?_;refine tq 18 (I Z now) rfl kS ?_;refine m5i ?_;refine AR [17] ?_
  refine AC (fun K hK=>?_) AZ
  go_simp;go_at_call 19;refine(CN2 _ _ N.nat).mono ?_;rintro e w8 ⟨rfl,hw⟩;rw[hw];clear hw w8
  go_wp2_with fail
  refine hK.out _ _ kS (fun _=>?_)
  clear hK K;(try simp only[ZZ]);refine tq 19 (.bool true) rfl kS (tq 20 (.bool true) rfl kS (tq 21 (.bool true) rfl kS ?_));refine m1f ?_
  go_wp2_with fail
  go_ret
  exact⟨rfl,N.gr.below (fun _ h=>h.elim) (Nat.le_refl _)⟩
 exact AZ):p:=h
theorem sZtTpX2(h:p:=by
 go_wp2_with (first|((with_reducible refine gL 23 5 ?_);refine lx 23 (.tmp 5) (ac ⟨kd,an,dr,af⟩) (N.row 2 rfl) ?_)|(go_at_call 18;refine m4q ?_;rintro e w5 ⟨rfl,F9,hN9,hg9,hf9⟩;clear CD k0 k3;replace C:=C.call hg9 hf9;replace N:=N.call hN9 hg9 hf9;clear hN9 hg9 hf9)|((with_reducible refine gA 27 ?_);refine ax 15 27 qan ?_;intro b15 w9 l9 R9 h9;refine m3a ?_;intro HM15 HE15;refine m3q ?_;clear N;intro N;replace C:=C.below h9;clear R9 h9 l9)|((with_reducible refine gS 27 15 51 ?_);refine m5v ?_;clear N C;intro w9 N C kc0))
 go_ret
 exact⟨rfl,N.gr.below (fun _ h=>h.elim) (Nat.le_refl _)⟩):p:=h
theorem sZtTpX3(h:p:=by
 (have hnn:¬(p.dst>3405803776/\p.dst<=3405803779):=by omega)
 cases hc0:(c==0) with
 | true=>
  exact sZtTpX2
 | false=>
  obtain⟨hlg,hsame⟩:=HREF.out (by simpa using hc0) om
  exact sZtTpX1):p:=h
theorem topRefused_walk(a0:Bool)(sl:Value)(es:List Ac)(a2:Ac)(W:World)(hS:AcIn W sl es)(ha:a2.ok)(hT:Tab W):Calls prog 14 #[.bool a0,sl,.agg (ac a2)] W fun e w'=>e=.returned (.bool true)/\Below W.heap.size W w':=by
 refine m63 ?_;intro HS HT;refine m8e ?_;intro CP;obtain⟨x0,cap,hsl⟩:=hS.1.slice
 generalize es.length=n at *
 subst hsl
 have hinv:=qjr a0 (es.take 100) (by rw[List.length_take];omega);refine m90 ?_;intro hk1
 obtain⟨s,hs⟩:∃s,(nt0 a0).runs (es.take 100)=s:=⟨_,rfl⟩
 have HS1:Hid ((nt0 a0).runs (es.take 100)=s):=hs
 rw[hs] at hinv
 generalize(es.take 100).length=k at *
 (have CT:=fun W b F (hN:qaw W b s (duF s.fs) F)=>qfa hN (by have:=hinv.ci.good.len;omega));(have CL:=fun W b F (hN:qaw W b s (duF s.fs) F)=>qhb hN);(have CN:=fun W b F (hN:qaw W b s (duF s.fs) F)=>qda hN);(have CD:=fun W b F (hN:qaw W b s (duF s.fs) F) (hT:Tab W) (h0:¬F 0)=>qos hN hT h0 (hinv.ok om) a2 ha);(have href:=fun hc hi=>qwz hinv.ci a2 hc hi);refine m62 ?_;intro HWF HWH HML HKL
 generalize hr:s.act a2=r at *
 obtain⟨⟨c,fr,inn,lg⟩,s2⟩:=r;obtain⟨kd,an,dr,af⟩:=a2
 simp only at CD href
 (have CW:=fun w=>qch af w ha.2.2.2)
 simp only[qgx] at CW
 have HREF:Hid (c≠0->(kd≠1\/¬((qb9 af.data.toList).dst>3405803776/\(qb9 af.data.toList).dst<=3405803779))->lg=ByteArray.empty/\Same s s2):=hidN (fun hc hi=>href hc (fun h1 hb=>by
  rcases hi with h2|h2
  ·exact absurd h1 h2
  ·(have e:qb9 af.data.toList=qam af.data.toList:=by unfold qb9;rw[if_pos hb])
   rw[e] at h2
   omega))
 generalize qb9 af.data.toList=p at *
 generalize bad af.data.toList=pe at *
 clear href hr hinv ha hS hT hs hk1
 obtain⟨f,hf⟩:∃f,f=s.f:=⟨_,rfl⟩
 obtain⟨g,hg⟩:∃g,g=s.g:=⟨_,rfl⟩
 obtain⟨h,hh⟩:∃h,h=s.h:=⟨_,rfl⟩
 obtain⟨ms,hms⟩:∃ms,ms=s.ms:=⟨_,rfl⟩
 obtain⟨ks,hks⟩:∃ks,ks=s.fs.map (·.2):=⟨_,rfl⟩
 obtain⟨now,hnow⟩:∃now,now=s.now:=⟨_,rfl⟩
 obtain⟨nm,hnm⟩:∃nm,nm=ms.length:=⟨_,rfl⟩
 obtain⟨nk,hnk⟩:∃nk,nk=ks.length:=⟨_,rfl⟩
 have HNK:Hid (nk=ks.length):=hnk;have HNM:Hid (nm=ms.length):=hnm;have HEQ:Hid (f=s.f/\g=s.g/\h=s.h/\ms=s.ms/\ks=s.fs.map (·.2)/\now=s.now/\nm=ms.length):=hidN ⟨hf,hg,hh,hms,hks,hnow,hnm⟩
 rw[←hf,←hg,←hh,←hms,←hnm] at CT
 rw[←hks] at CL HKL
 rw[←hnow] at CN
 rw[←hf] at HWF
 rw[←hh] at HWH
 clear hf hg hh hms hks hnow hnm hnk
 go_enter func14,ntmps14
 go_upto_region 6 with(first|((with_reducible refine gB 23 2 ?_);refine bx 23 (.tmp 2) (ac ⟨kd,an,dr,af⟩) ?_;intro b5 w9 l5 R5 h9;have HB5:Hid (Below W.heap.size W w9):=h9;clear h9)|(go_at_call 23;refine(CP _ HB5.out).mono ?_;rintro e w1 ⟨b,rfl,F,G,hP⟩;clear CP;have N:=hP.nb (L:=[(b5,ob 23 (ac ⟨kd,an,dr,af⟩))]) HB5.out (fun _ h=>h.elim) zm (fun y hy=>by obtain rfl:=List.mem_singleton.1 hy;exact⟨R5,l5,fun h=>h⟩);clear hP R5;rw[HS1.out] at N)|(go_at_call 21;go_fit (CT _ _ _ N.nat);rintro e w5 ⟨sa,kc,rfl,hm5,-,hl5,hb5⟩;clear CT;refine m55 ?_;clear N hb5 hl5;intro HMF N)|(go_at_call 22;go_fit (CL _ _ _ N.nat);rintro e w5 ⟨v5,rfl,hf5,hb5⟩;clear CL;refine m3v ?_;clear N hb5 hf5 hm5;intro C N fa fcap hfv;rw[←HNK.out] at hfv;subst hfv)|(go_at_call 19;go_fit (CN _ _ _ N.nat);refine m0h ?_)|((with_reducible refine gA 39 ?_);refine ax 9 39 qbp ?_;intro b9 w9 l9 R9 h9;have HM9:Hid (0<ms.length->mb (.slice sa nm kc)≠b9):=hidN (fun h0 e=>by have:=C.maps.lt h0;omega);have HE9:Hid (0<ks.length->eb (.slice fa nk fcap)≠b9):=hidN (fun h0 e=>by have:=C.flows.lt h0;omega);replace N:=N.alloc (o:=ob 39 (tz)) l9 R9 h9;replace C:=C.below h9;clear R9 h9 l9)|((with_reducible refine gS 39 9 25 ?_);refine sx 39 (.tmp 9) _ (tc f g h (.slice sa nm kc)) (N.row 0 rfl) ?_;intro w9 R9 t9;replace N:=N.turn 0 rfl R9 t9;replace C:=C.turn t9 HM9.out HE9.out;clear R9 t9)|((with_reducible refine gL 9 31 ?_);refine qcm (N.row 1 rfl) (.tmp 31) rfl kr 3 rfl af rfl ?_)|(go_at_call 29;go_fit (CW _);rintro e w5 ⟨rfl,hb5⟩;clear CW;replace N:=N.below hb5;replace C:=C.below hb5;clear hb5)|((with_reducible refine gA 61 ?_);refine ax 12 61 qbs ?_;intro b12 w9 l9 R9 h9;have HM12:Hid (0<ms.length->mb (.slice sa nm kc)≠b12):=hidN (fun h0 e=>by have:=C.maps.lt h0;omega);have HE12:Hid (0<ks.length->eb (.slice fa nk fcap)≠b12):=hidN (fun h0 e=>by have:=C.flows.lt h0;omega);replace N:=N.alloc (o:=ob 61 (pcl p0)) l9 R9 h9;replace C:=C.below h9;clear R9 h9 l9)|((with_reducible refine gS 61 12 34 ?_);refine sx 61 (.tmp 12) _ (pcl p) (N.row 0 rfl) ?_;intro w9 R9 t9;replace N:=N.turn 0 rfl R9 t9;replace C:=C.turn t9 HM12.out HE12.out;clear R9 t9;have k0:World.cell? _ ⟨b5,0,none⟩=some (I Z kd):=(N.row 2 rfl).cell 0;have k3:World.cell? _ ⟨b12,3,none⟩=some (I Z p.dst):=(N.row 0 rfl).cell 3))
 cases hk1:(kd==1) with
 | false=>
  skip
  cases hc0:(c==0) with
  | true=>
   exact sZtTpX2
  | false=>
   obtain⟨hlg,hsame⟩:=HREF.out (by simpa using hc0) (.inl (by simpa using hk1))
   exact sZtTpX1
 | true=>
  by_cases hd1:p.dst>3405803776
  ·by_cases hd2:p.dst<=3405803779
   ·skip
    skip
    cases hc0:(c==0) with
    | true=>
     exact sZtTpX2
    | false=>
     exact sZtTpX2
   ·skip
    exact sZtTpX3
  ·skip
   exact sZtTpX3
end Go.Proofs.YtonnjgmognbnbaaGreatDoor
