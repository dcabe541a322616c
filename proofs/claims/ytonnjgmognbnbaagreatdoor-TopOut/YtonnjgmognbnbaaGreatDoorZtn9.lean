/-
  Of what a law stands on.
-/
import Derived.Test.YtonnjgmognbnbaaGreatDoorZtn6
import Derived.Test.YtonnjgmognbnbaaGreatDoorZtn7
import Derived.Test.YtonnjgmognbnbaaGreatDoorZtn8
set_option linter.unusedSimpArgs false
set_option linter.unusedVariables false
namespace Go.Proofs.YtonnjgmognbnbaaGreatDoor
open Go.Value renaming int → I,pointer → V
open Go.IntKind renaming i64 → Z
open _root_.Go.Proofs.Tryz Go.ChangeShapes Go.WideShapes Go.ChangeAt Go.RowKit Go.Maps
set_option maxHeartbeats 16000000
set_option maxRecDepth 100000
variable {W w w0:World}{b c cnt':Nat}{tm tm':Int->Option Int}{F F' F0:Nat->Prop}{L:List (Nat×Obj)}{p:Prop}{f h:Nat->Int}{ms:List Mp}{m:Mp}{x:Nat×Fl}{l r:List Int}{i:Int}{t:TypeId}{cs:Array Value}{o:Oper}{fs:List (Nat×Fl)}{ops:Array Oper}{rest:List Oper}{a:Act}{Q:Exit->Act->World->Prop}
theorem quz(s:Nt)(p:Pkt)(m:Mp):(s.letIn p m).2.logged=s.logged:=by
 unfold Nt.letIn Nt.keep Nt.begin;(repeat' split)<;>rfl
theorem q0z(s:Nt)(l:List UInt8):(s.inn l).2.logged=s.logged:=by
 unfold Nt.inn;(repeat' split)<;>first|rfl|exact quz _ _ _
theorem qvt(s:Nt)(l:List UInt8)(k:Fl):(s.leave l k).2.logged=s.logged:=by
 unfold Nt.leave;split;exact q0z _ _;rfl
def qqz(o:OpR):Prop:=o.e=0->(∀m∈o.ms,0<=m.2.1/\m.2.1<8)/\(0<=o.m.2.2.2.1/\o.m.2.2.2.1<3)/\(1024<=o.m.2.2.2.2/\o.m.2.2.2.2<1072)
theorem Nb.zero{s:Nt}(h:Nb w0 W b s tm F0 F L)(hT:Tab w0)(h0:¬F0 0):¬F 0:=fun hf=>by
 have:=hT.lt
 rcases h.sub 0 hf with h1|h1
 ·exact h0 h1
 ·omega
theorem q0w{s:Nt}(h:qaw w b s (duF s.fs) F)(fr:ByteArray)(hs:fr.size<=140737488351232)(p:Pkt)(sub draw:Int)(hdr:(Lit.int .i64 draw).wf=true)(hT:Tab w)(h0:¬F 0)(hwH:wfH s.h)(hlf:s.left<=100)(hnow:0<=s.now/\s.now<=549755813888)(hbg:s.began+1<700)(hfew:s.fs.length+1<400)(hlg:s.logged<=100000)(hdst:0<=p.dst/\p.dst<=4294967295)(hO:qqz (qba s.f s.g s.h s.ms p.proto sub p.sport draw)):
  Calls prog 91 #[.pointer (some ⟨b,0,none⟩),.string fr,.agg (pcl p),.int .i64 sub,.int .i64 draw] w fun e w'=>e=.returned (.agg (s.first fr.data.toList p sub draw).1.cells)/\∃F',qaw w' b (s.first fr.data.toList p sub draw).2 (duF (s.first fr.data.toList p sub draw).2.fs) F'/\Gr F w w'/\∀c,F' c->F c\/w.heap.size<=c:=by
 (have CO:=fun(v:Value) W (hM:qaz W v s.ms) (hno:qcs v)=>q62 s.f s.g s.h v s.ms p.proto sub p.sport draw hwH hno hdr W hM)
 unfold Nt.first
 cases hfull:s.full with
 | true=>
  rw[if_pos rfl]
  exact q0i h fr hs p sub draw hfull hlf
 | false=>
  rw[if_neg zm]
  unfold qqz at hO
  generalize qba s.f s.g s.h s.ms p.proto sub p.sport draw=o at *
  obtain⟨e9,f9,h9,ms9,m9,t9⟩:=o
  simp only at *
  by_cases he:e9=0
  ·rw[if_neg (fun hx=>hx he)];obtain⟨o1,o2,o3⟩:=hO he
   cases t9 with
   | false=>
    rw[if_neg zm]
    exact qzq h fr hs p sub draw hfull hnow hbg hfew hdst e9 f9 h9 ms9 m9 false CO he rfl o1 o2
   | true=>
    rw[if_pos rfl]
    exact q0v h fr hs p sub draw hfull hnow hbg hfew hdst e9 f9 h9 ms9 m9 true CO he rfl o1 o2 hT h0 o3 (by rw[qvt];exact hlg)
  ·rw[if_pos he]
   exact q3p h fr hs p sub draw hfull hlf e9 f9 h9 ms9 m9 t9 CO he
theorem sZtn91(h:p:=by
 go_enter func54,ntmps54
 go_wp2_with (first|((with_reducible refine gA 27 ?_);refine m0r ?_;intro b6 w9 N)|(go_at_call 29;refine m1j ?_;clear N;intro w5 N)|((with_reducible refine gA 61 ?_);refine m69 ?_;intro b7 w9 l9 R9 h9;refine m1d ?_;clear N R9 h9 l9;intro N)|((with_reducible refine gS 61 7 16 ?_);refine m4i ?_;refine m0j ?_;clear N;intro w9 N)|((with_reducible refine gL 3 23 ?_);refine m7u ?_)|((with_reducible refine gL 3 33 ?_);refine m3f ?_)|((with_reducible refine gL 3 37 ?_);refine m3g ?_)|((with_reducible refine gL 3 43 ?_);refine m3r ?_)|(go_at_call 85;go_fit (CA _);refine m0h ?_)|((with_reducible refine gL 61 7 ?_);refine m5g ?_)|(go_at_call 87;go_fit (CW _);rintro e w5 ⟨bp,bs,rfl,Rp9,Rs9,hb5⟩;replace N:=N.below hb5;clear hb5 CW)|(go_at_call 86;go_fit (CF _ _ N.nat _ _ Rp9 Rs9);rintro e w5 ⟨rfl,hb5⟩;replace N:=N.below hb5;clear hb5 Rp9 Rs9 CF)|(go_at_call 88;go_fit (CG _ _ N.nat);rintro e w5 ⟨rfl,F9,hN9,hg9,hf9⟩;clear CG;replace N:=N.call hN9 hg9 hf9;clear hN9 hg9 hf9)|((with_reducible refine gL 85 64 ?_);obtain⟨fm9,hc9⟩:=N.nat.flowsCell;refine qn4 rfl (.tmp 64) rfl b 34 rfl (.map fm9) hc9 ?_)|((with_reducible refine qaa (.lookup 85 (.tmp 65) (.tmp 66) false) rfl ?_);refine qee rfl 85 (.tmp 65) (.tmp 66) rfl (.map fm9) (I Z ((x.1:Nat):Int)) (.agg (fc k9)) rfl rfl (N.nat.lookAt hc9 HMM.out) ?_)|(go_at_call 89;go_fit (CL _ _ N.nat);rintro e w5 ⟨rfl,F9,hN9,hg9,hf9⟩;clear CL hc9;replace N:=N.call hN9 hg9 hf9;clear hN9 hg9 hf9)|((with_reducible refine gS 27 6 68 ?_);refine sx 27 (.tmp 6) _ (r1.cells) (N.row 1 rfl) ?_;refine m4z ?_;clear N;intro w9 N))
 (refine m03 ?_;refine bodyPost_ret (qai (p:=6) rfl _ _ _ _ rfl (N.row 1 rfl) _ underlying27 rfl (qad _)) rfl ⟨rfl,_,N.nat,N.gr,N.sub⟩)):p:=h
theorem sZtn92(h:p:=by
 go_enter func54,ntmps54
 go_wp2_with (first|((with_reducible refine gA 27 ?_);refine m0r ?_;intro b6 w9 N)|(go_at_call 29;refine m1j ?_;clear N;intro w5 N)|((with_reducible refine gA 61 ?_);refine m69 ?_;intro b7 w9 l9 R9 h9;refine m1d ?_;clear N R9 h9 l9;intro N)|((with_reducible refine gS 61 7 16 ?_);refine m4i ?_;refine m0j ?_;clear N;intro w9 N)|((with_reducible refine gL 3 23 ?_);refine m7u ?_)|((with_reducible refine gL 3 33 ?_);refine m3f ?_)|((with_reducible refine gL 3 37 ?_);refine m3g ?_)|((with_reducible refine gL 3 43 ?_);refine m3r ?_)|(go_at_call 85;go_fit (CA _);refine m0h ?_)|((with_reducible refine gL 61 7 ?_);refine m5g ?_)|(go_at_call 87;go_fit (CW _);rintro e w5 ⟨bp,bs,rfl,Rp9,Rs9,hb5⟩;replace N:=N.below hb5;clear hb5 CW)|(go_at_call 86;go_fit (CF _ _ N.nat _ _ Rp9 Rs9);rintro e w5 ⟨rfl,hb5⟩;replace N:=N.below hb5;clear hb5 Rp9 Rs9 CF)|(go_at_call 90;go_fit (CB _);rintro e w5 ⟨rfl,hb5⟩;replace N:=N.below hb5;clear hb5 CB)|(go_at_call 91;go_fit (C1 _ _ N.nat (hT.gr N.gr h0) (N.zero hT h0));rintro e w5 ⟨rfl,F9,hN9,hg9,hf9⟩;clear C1;replace N:=N.call hN9 hg9 hf9;clear hN9 hg9 hf9)|((with_reducible refine gS 27 6 78 ?_);refine sx 27 (.tmp 6) _ (r1.cells) (N.row 1 rfl) ?_;refine m4z ?_;clear N;intro w9 N))
 (refine m03 ?_;refine bodyPost_ret (qai (p:=6) rfl _ _ _ _ rfl (N.row 1 rfl) _ underlying27 rfl (qad _)) rfl ⟨rfl,_,N.nat,N.gr,N.sub⟩)):p:=h
theorem sZtn93(h:p:=by
 go_enter func54,ntmps54
 go_wp2_with (first|((with_reducible refine gA 27 ?_);refine m0r ?_;intro b6 w9 N)|(go_at_call 29;refine m1j ?_;clear N;intro w5 N)|((with_reducible refine gA 61 ?_);refine m69 ?_;intro b7 w9 l9 R9 h9;refine m1d ?_;clear N R9 h9 l9;intro N)|((with_reducible refine gS 61 7 16 ?_);refine m4i ?_;refine m0j ?_;clear N;intro w9 N)|((with_reducible refine gL 3 23 ?_);refine m7u ?_)|((with_reducible refine gL 3 33 ?_);refine m3f ?_)|((with_reducible refine gL 3 37 ?_);refine m3g ?_)|((with_reducible refine gL 3 43 ?_);refine m3r ?_)|(go_at_call 85;go_fit (CA _);refine m0h ?_)|((with_reducible refine gL 61 7 ?_);refine m5g ?_)|(go_at_call 87;go_fit (CW _);rintro e w5 ⟨bp,bs,rfl,Rp9,Rs9,hb5⟩;replace N:=N.below hb5;clear hb5 CW)|(go_at_call 86;go_fit (CF _ _ N.nat _ _ Rp9 Rs9);rintro e w5 ⟨rfl,hb5⟩;replace N:=N.below hb5;clear hb5 Rp9 Rs9 CF)|(go_at_call 90;go_fit (CB _);rintro e w5 ⟨rfl,hb5⟩;replace N:=N.below hb5;clear hb5 CB)|(go_at_call 53;go_fit (CF11 _);refine m22 ?_;clear N;intro w5 N)|((with_reducible refine gS 27 6 72 ?_);refine sx 27 (.tmp 6) _ ((qas 11).cells) (N.row 1 rfl) ?_;refine m4z ?_;clear N;intro w9 N))
 (refine m03 ?_;refine bodyPost_ret (qai (p:=6) rfl _ _ _ _ rfl (N.row 1 rfl) _ underlying27 rfl (qad _)) rfl ⟨rfl,_,N.nat,N.gr,N.sub⟩)):p:=h
theorem sZtn94(h:p:=by
 clear hk
 go_enter func54,ntmps54
 go_wp2_with (first|((with_reducible refine gA 27 ?_);refine m0r ?_;intro b6 w9 N)|(go_at_call 29;refine m1j ?_;clear N;intro w5 N)|((with_reducible refine gA 61 ?_);refine m69 ?_;intro b7 w9 l9 R9 h9;refine m1d ?_;clear N R9 h9 l9;intro N)|((with_reducible refine gS 61 7 16 ?_);refine m4i ?_;refine m0j ?_;clear N;intro w9 N)|((with_reducible refine gL 3 23 ?_);refine m7u ?_)|((with_reducible refine gL 3 33 ?_);refine m3f ?_)|((with_reducible refine gL 3 37 ?_);refine m3g ?_)|((with_reducible refine gL 3 43 ?_);refine m3r ?_)|(go_at_call 85;go_fit (CA _);refine m0h ?_)|(go_at_call 53;go_fit (CF12 _);refine m22 ?_;clear N;intro w5 N)|((with_reducible refine gS 27 6 46 ?_);refine sx 27 (.tmp 6) _ ((qas 12).cells) (N.row 1 rfl) ?_;refine m4z ?_;clear N;intro w9 N))
 (refine m03 ?_;refine bodyPost_ret (qai (p:=6) rfl _ _ _ _ rfl (N.row 1 rfl) _ underlying27 rfl (qad _)) rfl ⟨rfl,_,N.nat,N.gr,N.sub⟩)):p:=h
theorem q76{s:Nt}(h:qaw w b s (duF s.fs) F)(fr:ByteArray)(hs:fr.size<=140737488351232)(draw:Int)(hdr:(Lit.int .i64 draw).wf=true)(hT:Tab w)(h0:¬F 0)(hwH:wfH s.h)(hlf:s.left<=100)(hnow:0<=s.now/\s.now<=549755813888)(hbg:s.began+1<700)(hfew:s.fs.length+1<400)(hlg:s.logged<=100000)(hst:∀m∈s.ms,0<=m.2.1/\m.2.1<8)(hfl:∀x∈s.fs,(0<=x.2.rem/\x.2.rem<=4294967295)/\(0<=x.2.a/\x.2.a<3))(hO:∀p sub i,qqz (qba s.f s.g s.h s.ms p sub i draw)):Calls prog 54 #[.pointer (some ⟨b,0,none⟩),.string fr,.int .i64 draw] w fun e w'=>e=.returned (.agg (s.out fr.data.toList draw).1.cells)/\∃F',qaw w' b (s.out fr.data.toList draw).2 (duF (s.out fr.data.toList draw).2.fs) F'/\Gr F w w'/\∀c,F' c->F c\/w.heap.size<=c:=by
 have N:=h.start;(have CP:=fun w=>qch fr w hs)
 simp only[qgx] at CP
 (have CL0:=fun W F (s2:Nt) (hN:qaw W b s2 (duF s2.fs) F) k h1 h2 h3 h4 h5 h6=>qn8 hN fr hs k h1 h2 h3 h4 h5 h6);(have C10:=fun W F (hN:qaw W b s (duF s.fs) F) (hT:Tab W) (h0:¬F 0) p sub h1=>q0w hN fr hs p sub draw hdr hT h0 hwH hlf hnow hbg hfew hlg h1 (hO _ _ _))
 unfold Nt.out
 generalize fr.data.toList=l at *
 by_cases hb:bad l=0
 rotate_left
 ·rw[if_pos hb];(have hpr:qb9 l=p0:=by unfold qb9;rw[if_neg hb])
  rw[hpr] at CP
  (have hbb:(bad l != 0)=true:=by simpa using hb);(have CF:=fun w=>qdj (bad l) w)
  rw[←qdo] at CF
  clear hpr hb hs hnow hbg hfew hst CL0 C10 hT h0 hwH hlf hlg hfl hO hdr
  go_enter func54,ntmps54
  go_wp2_with (first|((with_reducible refine gA 27 ?_);refine m0r ?_;clear N;intro b6 w9 N)|(go_at_call 29;refine m1j ?_;clear CP N;intro w5 N)|((with_reducible refine gA 61 ?_);refine m69 ?_;intro b7 w9 l9 R9 h9;refine m1d ?_;clear N R9 h9 l9;intro N)|((with_reducible refine gS 61 7 16 ?_);refine sx 61 (.tmp 7) _ (pcl p0) (N.row 0 rfl) ?_;refine m0j ?_;clear N;intro w9 N)|(go_at_call 53;go_fit (CF _);refine m22 ?_;clear N;intro w5 N)|((with_reducible refine gS 27 6 21 ?_);refine sx 27 (.tmp 6) _ ((qas (bad l)).cells) (N.row 1 rfl) ?_;refine m4z ?_;clear N;intro w9 N))
  (refine m03 ?_;refine bodyPost_ret (qai (p:=6) rfl _ _ _ _ rfl (N.row 1 rfl) _ underlying27 rfl (qad _)) rfl ⟨rfl,_,N.nat,N.gr,N.sub⟩)
 (have hpr:qb9 l=qam l:=by unfold qb9;rw[if_pos hb]);rw[if_neg (fun h=>h hb)]
 rw[hpr,hb] at CP
 have hrg:=(qdu _).1 (qde _ (qqk hb)).2.1;clear hpr hb
 generalize qam l=p at *
 (have CA:=fun w=>qsh p.src w hrg.1 hrg.2.1);(have CF7:=fun w=>qdj 7 w);(have CF4:=fun w=>qdj 4 w);(have CF12:=fun w=>qdj 12 w);(have CF11:=fun w=>qdj 11 w)
 rw[←qdo] at CF7 CF4 CF12 CF11
 by_cases ha:0<=p.src-167772161/\p.src-167772161<8
 rotate_left
 ·rw[if_pos ha]
  rw[decide_eq_false ha] at CA
  clear ha hrg hs hnow hbg hfew hst CF4 CF12 CF11 CL0 C10 hT h0 hwH hlf hlg hfl hO hdr
  go_enter func54,ntmps54
  go_wp2_with (first|((with_reducible refine gA 27 ?_);refine m0r ?_;clear N;intro b6 w9 N)|(go_at_call 29;refine m1j ?_;clear CP N;intro w5 N)|((with_reducible refine gA 61 ?_);refine m69 ?_;intro b7 w9 l9 R9 h9;refine m1d ?_;clear N R9 h9 l9;intro N)|((with_reducible refine gS 61 7 16 ?_);refine m4i ?_;refine m0j ?_;clear N;intro w9 N)|((with_reducible refine gL 3 23 ?_);refine m7u ?_)|((with_reducible refine gL 3 33 ?_);refine m3f ?_)|((with_reducible refine gL 3 37 ?_);refine m3g ?_)|((with_reducible refine gL 3 43 ?_);refine m3r ?_)|(go_at_call 85;go_fit (CA _);refine m0h ?_)|(go_at_call 53;go_fit (CF7 _);refine m22 ?_;clear N;intro w5 N)|((with_reducible refine gS 27 6 31 ?_);refine sx 27 (.tmp 6) _ ((qas 7).cells) (N.row 1 rfl) ?_;refine m4z ?_;clear N;intro w9 N))
  (refine m03 ?_;refine bodyPost_ret (qai (p:=6) rfl _ _ _ _ rfl (N.row 1 rfl) _ underlying27 rfl (qad _)) rfl ⟨rfl,_,N.nat,N.gr,N.sub⟩)
 rw[if_neg (fun h=>h ha)]
 rw[decide_eq_true ha] at CA
 cases hk:(p.proto==1&&p.flags != 8) with
 | true=>
  rw[if_pos rfl]
  obtain⟨hk1,hk2⟩:(p.proto==1)=true/\(p.flags != 8)=true:=by simpa[Bool.and_eq_true] using hk
  clear ha hrg hs hnow hbg hfew hst CF7 CF12 CF11 hk CL0 C10 hT h0 hwH hlf hlg hfl hO hdr
  go_enter func54,ntmps54
  go_wp2_with (first|((with_reducible refine gA 27 ?_);refine m0r ?_;clear N;intro b6 w9 N)|(go_at_call 29;refine m1j ?_;clear CP N;intro w5 N)|((with_reducible refine gA 61 ?_);refine m69 ?_;intro b7 w9 l9 R9 h9;refine m1d ?_;clear N R9 h9 l9;intro N)|((with_reducible refine gS 61 7 16 ?_);refine m4i ?_;refine m0j ?_;clear N;intro w9 N)|((with_reducible refine gL 3 23 ?_);refine m7u ?_)|((with_reducible refine gL 3 33 ?_);refine m3f ?_)|((with_reducible refine gL 3 37 ?_);refine m3g ?_)|((with_reducible refine gL 3 43 ?_);refine m3r ?_)|(go_at_call 85;go_fit (CA _);refine m0h ?_)|(go_at_call 53;go_fit (CF4 _);refine m22 ?_;clear N;intro w5 N)|((with_reducible refine gS 27 6 41 ?_);refine sx 27 (.tmp 6) _ ((qas 4).cells) (N.row 1 rfl) ?_;refine m4z ?_;clear N;intro w9 N))
  (refine m03 ?_;refine bodyPost_ret (qai (p:=6) rfl _ _ _ _ rfl (N.row 1 rfl) _ underlying27 rfl (qad _)) rfl ⟨rfl,_,N.nat,N.gr,N.sub⟩)
 | false=>
  rw[if_neg zm]
  by_cases ht:p.ttl=1
  ·rw[if_pos ht];(have ht2:(p.ttl==1)=true:=by simp[ht]);clear ha hrg hs hnow hbg hfew hst CF7 CF4 CF11 ht CL0 C10 hT h0 hwH hlf hlg hfl hO hdr
   cases h1:(p.proto==1) with
   | false=>
    exact sZtn94
   | true=>
    (have h2:(p.flags != 8)=false:=by rw[h1] at hk;simpa using hk)
    exact sZtn94
  ·rw[if_neg ht];(have ht2:(p.ttl==1)=false:=by simp[ht])
   have HK:Hid ((p.proto==1)=false\/(p.proto==1)=true/\(p.flags != 8)=false):=hidN (by
    cases h1:(p.proto==1) with
    | false=>exact .inl rfl
    | true=>rw[h1] at hk;exact .inr ⟨rfl,by simpa using hk⟩)
   clear ht hk CF4 CF12 CF7;(have CW:=fun w=>qxf p (p.src-167772161) w);(have CF:=fun W F (hN:qaw W b s (duF s.fs) F) bp bs Rp Rs=>q5g hN p (p.src-167772161) bp bs Rp Rs)
   cases hf:s.find (outF p (p.src-167772161)) with
   | some x=>
    have hx:=qjj hf;(have CG:=fun W F (hN:qaw W b s (duF s.fs) F)=>qvy hN hx.1 p false hnow)
    rw[hf] at CF
    unfold qe3 at CF
    simp only
    have hnr:=q3y x.2 p.flags s.now false;have hmm:=qvd hx.1 (qcu x.2 p.flags false s.now);obtain⟨hr1,hr2⟩:=hfl x hx.1
    generalize qcu x.2 p.flags false s.now=k9 at *
    (have CL:=fun W F (hN:qaw W b (s.keep x.1 k9) (duF (s.keep x.1 k9).fs) F)=>CL0 W F (s.keep x.1 k9) hN k9 (by rw[hnr.1];exact hr1) (by rw[hnr.2];exact hr2) hnow (by show s.began<700;omega) (by show(setF s.fs x.1 k9).length<400;rw[qwo];omega) hst);have HMM:Hid ((x.1,k9)∈(s.keep x.1 k9).fs):=hidN hmm
    generalize(s.keep x.1 k9)=s2 at *
    generalize s2.leave l k9=r at *
    obtain⟨r1,r2⟩:=r
    simp only at CL ⊢
    clear hx hf CF11 CL0 C10 hT h0 hwH hlf hlg hfl hO hdr hs hnow hbg hfew hst hrg ha hnr hmm hr1 hr2
    rcases HK.out with hk1|⟨hk1,hk2⟩
    ·clear HK
     exact sZtn91
    ·clear HK
     exact sZtn91
   | none=>
    rw[hf] at CF
    unfold qe3 at CF
    simp only
    (have CB:=fun w=>qzv p w)
    cases hbg2:begB p with
    | false=>
     rw[hbg2] at CB
     rw[if_pos rfl];clear hf CL0 C10 hT h0 hwH hlf hlg hfl hO hdr hs hnow hbg hfew hst hrg ha hbg2
     rcases HK.out with hk1|⟨hk1,hk2⟩
     ·clear HK
      exact sZtn93
     ·clear HK
      exact sZtn93
    | true=>
     rw[hbg2] at CB
     rw[if_neg zm];(have C1:=fun W F (hN:qaw W b s (duF s.fs) F) (hT:Tab W) (h0:¬F 0)=>C10 W F hN hT h0 p (p.src-167772161) ⟨hrg.2.2.1,hrg.2.2.2.1⟩)
     generalize s.first l p (p.src - 167772161) draw=r at *
     obtain⟨r1,r2⟩:=r
     simp only at C1 ⊢
     clear hf CL0 C10 CF11 hwH hlf hlg hfl hO hdr hs hnow hbg hfew hst hrg ha hbg2
     rcases HK.out with hk1|⟨hk1,hk2⟩
     ·clear HK
      exact sZtn92
     ·clear HK
      exact sZtn92
theorem qw7(G:qbq f h ms)(hm:m∈ms):qbq (qe1 f h ms m).1 (qe1 f h ms m).2.1 (qa6 ms m):=by
 unfold qe1
 cases ha:(qa6 ms m).any (fun o=>qa7 o==qa7 m) with
 | true=>rw[if_pos rfl];exact q1v G hm ha
 | false=>
  rw[if_neg zm]
  exact q32 G hm ha
structure TkOk(a:Nt)(r:List Int):Prop where
 good:qbq a.f a.h a.ms
 up:a.fs.Pairwise (fun x y=>x.1<y.1)
 nd:r.Nodup
 there:∀i∈r,∃x∈a.fs,(x.1:Int)=i
 mem:∀x∈a.fs,flM x.2∈a.ms
def Nt.less(a:Nt)(i:Int):Nt:={ a with fs:=a.fs.filter fun x=>decide ((x.1:Int)≠i) }
theorem q9d{a:Nt}(hp:a.fs.Pairwise (fun x y=>x.1<y.1))(hx:x∈a.fs):a.endF (x.1:Int)=(flM x.2,a.less (x.1:Int)):=by
 have h:=qf6 hp hx
 unfold fsF at h
 unfold Nt.endF Nt.less
 cases hf:a.fs.find? (fun y=>decide ((y.1:Int)=(x.1:Int))) with
 | none=>rw[hf] at h;cases h
 | some y=>
  rw[hf] at h
  have:y.2=x.2:=Option.some.inj h
  simp[this]
theorem qlw{a:Nt}(es:List Ev)(hp:a.fs.Pairwise (fun x y=>x.1<y.1))(hx:x∈a.fs):qeg (es,a) (x.1:Int)=(if ((a.less (x.1:Int)).closeU (flM x.2)).1=true then es++[evN ((a.less (x.1:Int)).closeU (flM x.2)).2.now (flM x.2) true] else es,((a.less (x.1:Int)).closeU (flM x.2)).2):=by
 unfold qeg
 rw[q9d hp hx]
theorem qo2(a:Nt)(m:Mp):(a.closeU m).2.fs=a.fs/\(a.closeU m).2.now=a.now/\(a.closeU m).2.left=a.left/\(a.closeU m).2.logged=a.logged/\(a.closeU m).2.began=a.began/\(a.closeU m).2.acts=a.acts/\(a.closeU m).2.g=a.g/\(a.closeU m).2.loose=a.loose:=by
 unfold Nt.closeU Nt.setT
 split<;>exact⟨rfl,rfl,rfl,rfl,rfl,rfl,rfl,rfl⟩
theorem TkOk.close{a:Nt}(h:TkOk a r)(hm:m∈a.ms):TkOk (a.closeU m).2 r:=by
 unfold Nt.closeU Nt.setT
 cases hf:a.find (qf0 m) with
 | some y=>rw[if_pos (by rfl)];exact h
 | none=>
  rw[if_neg zm]
  refine⟨qw7 h.good hm,h.up,h.nd,h.there,fun x hx=>?_⟩
  show flM x.2∈qa6 a.ms m
  unfold qa6
  refine List.mem_filter.2 ⟨h.mem x hx,?_⟩
  have:=List.find?_eq_none.1 hf x hx
  unfold qf0 at this
  simpa using this
theorem TkOk.less{a:Nt}(h:TkOk a (i::r)):TkOk (a.less i) r:=by
 have hn:=List.nodup_cons.1 h.nd
 refine⟨h.good,h.up.filter _,hn.2,fun j hj=>?_,fun x hx=>h.mem x (List.mem_filter.1 hx).1⟩
 obtain⟨x,hx,e⟩:=h.there j (List.mem_cons_of_mem _ hj)
 refine⟨x,List.mem_filter.2 ⟨hx,decide_eq_true (fun e2=>?_)⟩,e⟩
 rw[e] at e2
 exact hn.1 (e2▸hj)
theorem TkOk.step{a:Nt}(h:TkOk a (i::r))(es:List Ev):TkOk (qeg (es,a) i).2 r:=by
 obtain⟨x,hx,e⟩:=h.there i (List.mem_cons_self)
 subst e
 rw[qlw es h.up hx]
 exact h.less.close (h.mem x hx)
theorem qtg{a:Nt}(h:TkOk a (i::r))(es:List Ev):(qeg (es,a) i).2.fs=a.fs.filter fun x=>decide ((x.1:Int)≠i):=by
 obtain⟨x,hx,e⟩:=h.there i (List.mem_cons_self)
 subst e
 rw[qlw es h.up hx]
 exact(qo2 _ _).1
theorem qz7{a:Nt}(h:TkOk a (i::r))(es:List Ev):(qeg (es,a) i).2.fs.length+1=a.fs.length:=by
 rw[qtg h es];obtain⟨x,hx,e⟩:=h.there i (List.mem_cons_self)
 subst e
 exact qyf h.up hx
theorem q4d(es:List Ev)(a:Nt)(i:Int):(qeg (es,a) i).1.length<=es.length+1:=by
 unfold qeg
 simp only
 split
 ·simp
 ·omega
theorem qw0(es:List Ev)(a:Nt)(i:Int):(qeg (es,a) i).2.now=a.now/\(qeg (es,a) i).2.left=a.left/\(qeg (es,a) i).2.logged=a.logged/\(qeg (es,a) i).2.began=a.began/\(qeg (es,a) i).2.acts=a.acts/\(qeg (es,a) i).2.g=a.g/\(qeg (es,a) i).2.loose=a.loose:=(qo2 (a.endF i).2 (a.endF i).1).2
def qbu(s:Nt)(l:List Int):List Ev×Nt:=l.foldl qeg ([],s)
theorem qgd(s:Nt)(l:List Int)(i:Int):qbu s (l++[i])=qeg (qbu s l) i:=by unfold qbu;rw[List.foldl_append];rfl
structure qiw(s:Nt)(l r:List Int):Prop where
 ok:TkOk (qbu s l).2 r
 len:(qbu s l).2.fs.length+l.length=s.fs.length
 es:(qbu s l).1.length<=l.length
 rest:(qbu s l).2.now=s.now/\(qbu s l).2.left=s.left/\(qbu s l).2.logged=s.logged/\(qbu s l).2.began=s.began/\(qbu s l).2.acts=s.acts/\(qbu s l).2.g=s.g/\(qbu s l).2.loose=s.loose
 fs:(qbu s l).2.fs=s.fs.filter fun x=>decide ((x.1:Int) ∉ l)
theorem qiw.start{s:Nt}(h:TkOk s r):qiw s [] r:=⟨h,rfl,by simp[qbu],⟨rfl,rfl,rfl,rfl,rfl,rfl,rfl⟩,by show s.fs=_;rw[List.filter_eq_self.2];intro x hx;simp⟩
theorem qiw.step{s:Nt}(h:qiw s l (i::r)):qiw s (l++[i]) r:=by
 have e:qbu s l=((qbu s l).1,(qbu s l).2):=rfl;have h1:=qz7 h.ok (qbu s l).1;have h2:=q4d (qbu s l).1 (qbu s l).2 i;have h3:=qw0 (qbu s l).1 (qbu s l).2 i;have h4:=qtg h.ok (qbu s l).1
 refine⟨by rw[qgd,e];exact h.ok.step _,?_,?_,?_,?_⟩
 ·rw[qgd,e,List.length_append]
  have:=h.len
  simp only[List.length_cons,List.length_nil] at *
  omega
 ·rw[qgd,e,List.length_append]
  have:=h.es
  simp only[List.length_cons,List.length_nil] at *
  omega
 ·rw[qgd,e];obtain⟨a1,a2,a3,a4,a5,a6,a7⟩:=h.rest
  exact⟨h3.1.trans a1,h3.2.1.trans a2,h3.2.2.1.trans a3,h3.2.2.2.1.trans a4,h3.2.2.2.2.1.trans a5,h3.2.2.2.2.2.1.trans a6,h3.2.2.2.2.2.2.trans a7⟩
 ·rw[qgd,e,h4,h.fs,List.filter_filter]
  apply List.filter_congr
  intro x hx
  simp[not_or,Bool.and_comm]
structure Tk(w0 W:World)(b:Nat)(s:Nt)(tm:Int->Option Int)(F0 F:Nat->Prop)(cnt:Nat)(L:List (Nat×Obj))(gv:Value)(es:List Ev):Prop where
 nc:Nc w0 W b s tm F0 F cnt L
 ev:EvO W w0.heap.size gv es
 evF:∀c,gv.ownBlock=some c->¬F c/\c ∉ L.map (·.1)
section
variable {w0 W W':World} {b:Nat} {s:Nt} {tm:Int->Option Int} {F0 F:Nat->Prop} {cnt:Nat} {L:List (Nat×Obj)} {gv:Value} {es:List Ev}
theorem Tk.row(h:Tk w0 W b s tm F0 F cnt L gv es)(i:Nat)(hi:L[i]?=some (c,ob t cs)):Row t W c cs:=h.nc.row i hi
theorem Tk.call(h:Tk w0 W b s tm F0 F cnt L gv es){s':Nt}(hn:NatC W' b s' tm' F' cnt')(hg:Gr F W W')(hF:∀c,F' c->F c\/W.heap.size<=c):Tk w0 W' b s' tm' F0 (fun c=>F' c/\c<W'.heap.size) cnt' L gv es:=
 ⟨h.nc.call hn hg hF,h.ev.keep (fun g hg'=>hg.block g (h.ev.ge g hg').2 (h.evF g hg').1),fun c hc=>⟨fun hf=>by
  have h1:=(h.ev.ge c hc).2
  rcases hF c hf.1 with h2|h2
  ·exact(h.evF c hc).1 h2
  ·omega,(h.evF c hc).2⟩⟩
theorem Tk.below(h:Tk w0 W b s tm F0 F cnt L gv es)(hb:Below W.heap.size W W'):Tk w0 W' b s tm F0 F cnt L gv es:=⟨h.nc.below hb,h.ev.below hb,h.evF⟩
theorem Tk.drew(h:Tk w0 W b s tm F0 F cnt L gv es):Tk w0 W.drew b s tm F0 F cnt L gv es:=h.below (Below.refl _ _).drew
theorem Tk.alloc(h:Tk w0 W b s tm F0 F cnt L gv es){o:Obj}(hl:W.heap.size<=c)(R:W'.heap[c]?=some o)(hb:Below W.heap.size W W'):Tk w0 W' b s tm F0 F cnt ((c,o)::L) gv es:=
 ⟨h.nc.alloc hl R hb,h.ev.below hb,fun k hk=>⟨(h.evF k hk).1,fun hm=>by
  rw[List.map_cons] at hm
  rcases List.mem_cons.1 hm with e|e
  ·have:=(h.ev.ge k hk).2;simp only at e;omega
  ·exact(h.evF k hk).2 e⟩⟩
theorem Tk.turn(h:Tk w0 W b s tm F0 F cnt L gv es)(i:Nat){cs':Array Value}(hi:L[i]?=some (c,ob t cs))(R:Row t W' c cs')(T:qbl c W W'):Tk w0 W' b s tm F0 F cnt (L.set i (c,ob t cs')) gv es:=by
 refine m73 ?_;intro hlt hLi
 have hm:(L.set i (c,ob t cs')).map (·.1)=L.map (·.1):=by
  apply List.ext_getElem?
  intro j;refine m4t ?_
  by_cases hj:i=j
  ·subst hj;simp[hlt,hLi]
  ·simp[hj]
 refine⟨h.nc.turn i hi R T,h.ev.turned T (fun e=>(h.evF c e).2 (List.mem_map.2 ⟨_,List.mem_of_getElem? hi,rfl⟩)),fun k hk=>⟨(h.evF k hk).1,?_⟩⟩
 rw[hm]
 exact(h.evF k hk).2
theorem Nb.keepGr{G:Nat->Prop}(h:Nb w0 W b s tm F0 F L)(hg:Gr G W W')(h1:∀c,G c->¬F c)(h2:∀c,G c->c ∉ L.map (·.1))(h3:∀c,G c->w0.heap.size<=c):Nb w0 W' b s tm F0 F L:=
 ⟨h.nat.keep hg (fun c hc hG=>h1 c hG hc),h.gr.trans hg (fun x hx=>.inr (h3 x hx)),h.sub,fun c hc=>Nat.lt_of_lt_of_le (h.bd c hc) hg.size,h.nodup,fun y hy=>⟨(hg.block _ (h.lt (List.mem_map.2 ⟨y,hy,rfl⟩)) (fun hG=>h2 _ hG (List.mem_map.2 ⟨y,hy,rfl⟩))).trans (h.rows y hy).1,(h.rows y hy).2⟩⟩
theorem Tk.push(h:Tk w0 W b s tm F0 F cnt L gv es){gv':Value}{es':List Ev}(he:EvO W' w0.heap.size gv' es')(hg:Grew gv gv' W W'):Tk w0 W' b s tm F0 F cnt L gv' es':=by
 (have G:Gr (fun c=>gv.ownBlock=some c) W W':=Gr.of_grown hg.by' (fun c hc=>hc))
 refine⟨⟨h.nc.nb.keepGr G (fun c hc=>(h.evF c hc).1) (fun c hc=>(h.evF c hc).2) (fun c hc=>(h.ev.ge c hc).1),h.nc.nc.keep G (fun c hc e=>(h.evF c e).1 hc)⟩,he,fun c hc=>?_⟩
 rcases hg.lies with e|⟨k,e,hk⟩
 ·exact h.evF c (e▸hc)
 ·rw[e] at hc
  obtain rfl:=Option.some.inj hc
  exact⟨fun hf=>by have:=h.nc.nb.bd _ hf;omega,fun hm=>by have:=h.nc.nb.lt hm;omega⟩
theorem Tk.tail{y:Nat×Obj}(h:Tk w0 W b s tm F0 F cnt (y::L) gv es):Tk w0 W b s tm F0 F cnt L gv es:=
 ⟨⟨⟨h.nc.nb.nat,h.nc.nb.gr,h.nc.nb.sub,h.nc.nb.bd,(List.nodup_cons.1 h.nc.nb.nodup).2,fun z hz=>h.nc.nb.rows z (List.mem_cons_of_mem _ hz)⟩,h.nc.nc⟩,h.ev,fun c hc=>⟨(h.evF c hc).1,fun hm=>(h.evF c hc).2 (List.mem_cons_of_mem _ hm)⟩⟩
end
theorem q05(z:Int->Int)(h:l.Perm r):qcc z l=qcc z r:=by
 (have tr:∀a b c:Int,leZ z a b=true->leZ z b c=true->leZ z a c=true:=fun a b c h1 h2=>by unfold leZ at *;simp only[decide_eq_true_eq] at *;omega);(have tot':∀a b:Int,(leZ z a b||leZ z b a)=true:=fun a b=>by unfold leZ;rw[Bool.or_eq_true,decide_eq_true_eq,decide_eq_true_eq];omega)
 refine List.Perm.eq_of_pairwise (le:=fun a b=>leZ z a b=true) (fun a b _ _ h1 h2=>by unfold leZ at *;simp only[decide_eq_true_eq] at *;omega) (List.pairwise_mergeSort tr tot' l) (List.pairwise_mergeSort tr tot' r) ?_
 exact((List.mergeSort_perm l _).trans h).trans (List.mergeSort_perm r _).symm
theorem qyc(hp:fs.Pairwise (fun x y=>x.1<y.1))(t i:Int):i∈((fs.filter fun x=>decide (x.2.du<=t)).map fun x=>(x.1:Int))↔∃d,duF fs i=some d/\d<=t:=by
 constructor
 ·intro h
  obtain⟨x,hx,rfl⟩:=List.mem_map.1 h
  obtain⟨h1,h2⟩:=List.mem_filter.1 hx
  exact⟨x.2.du,by rw[qle,qf6 hp h1];rfl,by simpa using h2⟩
 ·rintro⟨d,h1,h2⟩
  unfold duF at h1
  cases hf:fs.find? (fun x=>decide ((x.1:Int)=i)) with
  | none=>rw[hf] at h1;cases h1
  | some x=>
   rw[hf] at h1
   have e:=qqv hf;have hd:x.2.du=d:=Option.some.inj h1
   exact List.mem_map.2 ⟨x,List.mem_filter.2 ⟨List.mem_of_find?_eq_some hf,by simpa[hd] using h2⟩,e⟩
theorem qsv(hp:fs.Pairwise (fun x y=>x.1<y.1))(P:Nat×Fl->Bool):((fs.filter P).map fun x=>(x.1:Int)).Nodup:=by
 unfold List.Nodup
 rw[List.pairwise_map]
 exact(hp.filter P).imp (fun h e=>by omega)
theorem qwd{s:Nt}{t:Int}{off:List Int}(hp:s.fs.Pairwise (fun x y=>x.1<y.1))(hn:off.Nodup)(hm:∀i,i∈off↔∃d,duF s.fs i=some d/\d<=t):qcc (dz (duF s.fs)) off=s.dueL t:=by
 unfold Nt.dueL
 exact q05 _ ((List.perm_ext_iff_of_nodup hn (qsv hp _)).2 (fun i=>(hm i).trans (qyc hp t i).symm))
theorem qvn{s:Nt}(hp:s.fs.Pairwise (fun x y=>x.1<y.1))(t i:Int):i∈s.dueL t↔∃d,duF s.fs i=some d/\d<=t:=by
 unfold Nt.dueL
 rw[qoo,qyc hp]
theorem qr7{s:Nt}(G:qbq s.f s.h s.ms)(hp:s.fs.Pairwise (fun x y=>x.1<y.1))(hm:∀x∈s.fs,flM x.2∈s.ms)(t:Int):TkOk s (s.dueL t):=by
 refine⟨G,hp,qpy _ _ (qsv hp _),fun i hi=>?_,hm⟩
 unfold Nt.dueL at hi
 rw[qoo] at hi
 obtain⟨x,hx,e⟩:=List.mem_map.1 hi
 exact⟨x,(List.mem_filter.1 hx).1,e⟩
theorem q7x{s:Nt}(hp:s.fs.Pairwise (fun x y=>x.1<y.1))(t:Int):qiv t (duF s.fs)=duF (s.fs.filter fun x=>decide ((x.1:Int) ∉ s.dueL t)):=by
 funext i
 have h1:=qvn hp t i
 have h2:duF (s.fs.filter fun x=>decide ((x.1:Int) ∉ s.dueL t)) i=if i∈s.dueL t then none else duF s.fs i:=by
  generalize s.dueL t=l
  unfold duF
  clear h1 hp
  induction s.fs with
  | nil=>split<;>rfl
  | cons a r ih=>
   by_cases e:(a.1:Int)=i
   ·by_cases hl:i∈l
    ·rw[List.filter_cons_of_neg (by simp[e,hl]),ih,if_pos hl,if_pos hl]
    ·rw[List.filter_cons_of_pos (by simp[e,hl]),if_neg hl,List.find?_cons,List.find?_cons,decide_eq_true e]
   ·by_cases hl:(a.1:Int)∈l
    ·rw[List.filter_cons_of_neg (by simp[hl]),ih,List.find?_cons,decide_eq_false e]
    ·rw[List.filter_cons_of_pos (by simp[hl]),List.find?_cons,List.find?_cons,decide_eq_false e]
     exact ih
 rw[h2]
 unfold qiv
 cases hd:duF s.fs i with
 | none=>simp
 | some d=>
  rw[hd] at h1
  by_cases hl:d<=t
  ·rw[if_pos (h1.2 ⟨d,rfl,hl⟩)];simp[hl]
  ·rw[if_neg (fun hi=>by obtain⟨d',e,h3⟩:=h1.1 hi;obtain rfl:=Option.some.inj e;exact hl h3)];simp[hl]
theorem q7s{s:Nt}(h:qaw w b s (duF s.fs) F)(tn:Int)(h1:s.now<=tn)(h2:tn<=1099511627776):Calls prog 95 #[V (some ⟨b,37,none⟩),I Z tn] w fun e w'=>∃sa c F' cnt',e=.returned (.tuple #[.slice sa (s.dueL tn).length c,I Z 0])/\Own w' (.slice sa (s.dueL tn).length c) (s.dueL tn)/\NatC w' b { s with now:=tn } (qiv tn (duF s.fs)) F' cnt'/\cnt'+(s.dueL tn).length<=s.fs.length/\Gr F w w'/\(∀c,F' c->F c\/w.heap.size<=c)/\(∀k,(Value.slice sa (s.dueL tn).length c).ownBlock=some k->¬F' k/\w.heap.size<=k):=by
 obtain⟨cs,v,ov,fm,D,Fw,cnt,M,hF⟩:=h;refine(qys M.wheel h1 h2).mono ?_
 rintro e w' ⟨v9,rfl,off,cs',F',cnt',hnd,hmem,hown,hnot,hW,hs,hg,hf,hl,hc⟩
 rw[qwd M.up hnd hmem] at hown
 (have hlen:off.length=(s.dueL tn).length:=by rw[←qwd M.up hnd hmem,qo1])
 obtain⟨sa,c,rfl⟩:=qeh hown
 have hfew:=M.few;have M':=M.wheelSet hW hs hg hf om
 refine⟨sa,c,FpN F' fm ov v s.ms,cnt',rfl,hown,⟨cs',v,ov,fm,D,F',M',fun c hc=>hc⟩,by omega,hg.mono (fun c hc=>hF c (.inl hc)),fun c hc=>?_,fun k hk=>⟨fun hc=>?_,hl k hk⟩⟩
 ·rcases hc with h1|h1|h1|h1
  ·rcases hf c h1 with h2|h2
   ·exact .inl (hF c (.inl h2))
   ·exact .inr h2
  ·exact .inl (hF c (.inr (.inl h1)))
  ·exact .inl (hF c (.inr (.inr (.inl h1))))
  ·exact .inl (hF c (.inr (.inr (.inr h1))))
 ·have hlk:=hl k hk
  rcases hc with h1|h1|h1|⟨h1,rfl⟩
  ·exact hnot k hk h1
  ·rcases M.flows with⟨e,_⟩|⟨bm,e,hm⟩
   ·rw[e] at h1;cases h1
   ·rw[e] at h1;cases h1;have:=hm.lt;omega
  ·obtain⟨cur,m,hh⟩:=qe6 M.ids h1
   have:=(Array.getElem?_eq_some_iff.1 hh).1
   omega
  ·have:=M.maps.lt h1;omega
theorem qpz(hgd:o.guard=none)(x:Operand)(ho:o.op=.call { callee:=.builtin .min,args:=#[x,.const (I Z 4)],argTypes:=#[3,3] })(n:Int)(hx:a.eval x=I Z n)(hr:wpList prog ops Q rest (a.put o.dst (I Z (min n 4))) w):wpList prog ops Q (o::rest) a w:=
 wpList_plain hgd fun K hK=>by
  (have e:(if (4:Int)<n then(4:Int) else n)=min n 4:=by split<;>omega);have hz:a.eval (.const (I Z 4))=I Z 4:=rfl
  unfold Oper.wp execOp
  simp only[ho,resolve,invoke,builtin,Sem.run_bind,Sem.run_pure,Result.andThen_ok,List.map_toArray,List.map_cons,List.map_nil,hx,hz,run_min_int2]
  rw[e]
  exact hK _ _ hr
theorem q1i(c:Int)(l:ByteArray)(w:World):(Instr.build 27 #[(0,I Z c),(3,.string l)]).run prog w=.ok (.agg (Rp.cells ⟨c,ByteArray.empty,false,l⟩)) w:=by kernel_rfl
theorem qwk(x y:Operand)(hgd:o.guard=none)(ho:o.op=.build 27 #[(0,x),(3,y)])(c:Int)(l:ByteArray)(hx:a.eval x=I Z c)(hy:a.eval y=.string l)(hr:wpList prog ops Q rest (a.put o.dst (.agg (Rp.cells ⟨c,ByteArray.empty,false,l⟩))) w):wpList prog ops Q (o::rest) a w:=
 wpList_plain hgd fun K hK=>by
  unfold Oper.wp execOp
  simp only[ho,List.map_toArray,List.map_nil,List.map_cons,hx,hy,Sem.run_bind,q1i,Result.andThen_ok,Sem.run_pure]
  exact hK _ _ hr
theorem Nb.adv{W':World}{s s':Nt}{b4:Nat}{o:Obj}{sa:Option Addr}(h:Nb w0 W b s tm F0 F [(b4,o)])(hn:NatC W' b s' tm' F' cnt')(hg:Gr F W W')(hF:∀c,F' c->F c\/W.heap.size<=c)(ho:Own W' (.slice sa l.length c) l)(hk:∀k,(Value.slice sa l.length c).ownBlock=some k->¬F' k/\W.heap.size<=k):
  ∃Lx,Tk w0 W' b s' tm' F0 (fun c=>F' c/\c<W'.heap.size) cnt' ((b4,o)::Lx) (.slice none 0 0) []/\∀j (hj:j<l.length),∃g cur,sa=some ⟨g,0,none⟩/\(g,ob 3 cur)∈Lx/\cur[j]?=some (I Z l[j]):=by
 have C:=h.call hn.nat hg hF
 by_cases h0:0<l.length
 ·obtain⟨g,kp,cur,hsh,hh,_,_,hcs,ht⟩:=ho.shape h0
  obtain⟨rfl,-⟩:sa=some ⟨g,0,none⟩/\_:=by simpa using hsh
  obtain⟨k1,k2⟩:=hk g rfl;have hb4:b4<W.heap.size:=h.lt zm
  refine⟨[(g,ob 3 cur)],⟨⟨⟨C.nat,C.gr,C.sub,C.bd,?_,fun y hy=>?_⟩,hn.bound⟩,EvO.nil _ _,fun k hk=>by simp[Value.ownBlock] at hk⟩,fun j hj=>⟨g,cur,rfl,by simp,qis ht j hj⟩⟩
  ·simp only[List.map_cons,List.map_nil,List.nodup_cons,List.mem_cons,List.not_mem_nil,or_false,not_false_eq_true,List.nodup_nil,and_true]
   omega
  ·rcases List.mem_cons.1 hy with rfl|hy
   ·exact C.rows _ zm
   ·obtain rfl:=List.mem_singleton.1 hy
    exact⟨hh,Nat.le_trans h.gr.size k2,fun hf=>k1 hf.1⟩
 ·exact⟨[],⟨⟨C,hn.bound⟩,EvO.nil _ _,fun k hk=>by simp[Value.ownBlock] at hk⟩,fun j hj=>absurd hj om⟩
theorem Tk.cast{s:Nt}{cnt:Nat}{gv:Value}{es:List Ev}(h:Tk w0 W b s tm F0 F cnt L gv es){p:List Ev×Nt}(hp:p=(es,s)):Tk w0 W b p.2 tm F0 F cnt L gv p.1:=by rw[hp];exact h
theorem qng{s:Nt}(h:TkOk s l):∀j,j<=l.length->qiw s (l.take j) (l.drop j):=by
 intro j
 induction j with
 | zero=>intro _;rw[List.take_zero,List.drop_zero];exact qiw.start h
 | succ j ih=>
  intro hj;have h1:=ih om
  rw[List.drop_eq_getElem_cons om] at h1
  rw[List.take_succ_eq_append_getElem om]
  exact h1.step
theorem sZtn95(h:p:=by
 first
  | exact⟨j+1,_,by omega,by go_num,T9⟩| ((repeat apply Exists.intro);exact⟨⟨j+1,_,by omega,by go_num,T9⟩,rfl⟩)):p:=h
theorem q6t{s:Nt}(h:qaw w b s (duF s.fs) F)(n:Int)(hwn:(Lit.int .i64 n).wf=true)(hT:Tab w)(h0:¬F 0)(hnow:0<=s.now/\s.now<=549755813888)(hlf:s.left<=4)(hlg:s.logged<=100000)(G:qbq s.f s.h s.ms)(hm:∀x∈s.fs,flM x.2∈s.ms)(hfew:s.fs.length<=64):Calls prog 56 #[.pointer (some ⟨b,0,none⟩),.int .i64 n] w fun e w'=>e=.returned (.agg (s.tick n).1.cells)/\∃F',qaw w' b (s.tick n).2 (duF (s.tick n).2.fs) F'/\Gr F w w'/\∀c,F' c->F c\/w.heap.size<=c:=by
 have N:=h.start;(have CN:=fun W F (s:Nt) (hN:qaw W b s (duF s.fs) F)=>qda hN)
 unfold Nt.tick
 by_cases hbad:n<1\/549755813888-s.now<n
 ·rw[if_pos hbad];(have CF:=fun w=>qdj 2 w)
  rw[←qdo] at CF
  (have hw1:wrap64 (549755813888-s.now)=549755813888-s.now:=by unfold wrap64;omega)
  by_cases h1:n<1
  ·clear hwn hT h0 hnow hlf hlg G hm hfew hbad
   go_enter func56,ntmps56
   go_wp2_with (first|((with_reducible refine gA 27 ?_);refine m0b ?_;clear N;intro b4 w9 N)|(go_at_call 53;go_fit (CF _);refine m22 ?_;clear N;intro w5 N)|((with_reducible refine gS 27 4 20 ?_);refine sx 27 (.tmp 4) _ ((qas 2).cells) (N.row 0 rfl) ?_;refine m0j ?_;clear N;intro w9 N))
   (refine m03 ?_;refine bodyPost_ret (qai (p:=4) rfl _ _ _ _ rfl (N.row 0 rfl) _ underlying27 rfl (qad _)) rfl ⟨rfl,_,N.nat,N.gr,N.sub⟩)
  ·(have h2:549755813888-s.now<n:=by omega);clear hwn hT h0 hnow hlf hlg G hm hfew hbad
   go_enter func56,ntmps56
   go_wp2_with (first|((with_reducible refine gA 27 ?_);refine m0b ?_;clear N;intro b4 w9 N)|(go_at_call 19;go_fit (CN _ _ _ N.nat);refine m0h ?_)|(go_at_call 53;go_fit (CF _);refine m22 ?_;clear N;intro w5 N)|((with_reducible refine gS 27 4 20 ?_);refine sx 27 (.tmp 4) _ ((qas 2).cells) (N.row 0 rfl) ?_;refine m0j ?_;clear N;intro w9 N))
   (refine m03 ?_;refine bodyPost_ret (qai (p:=4) rfl _ _ _ _ rfl (N.row 0 rfl) _ underlying27 rfl (qad _)) rfl ⟨rfl,_,N.nat,N.gr,N.sub⟩)
 ·rw[if_neg hbad];(have h1:¬n<1:=fun h=>hbad (.inl h));(have h2:¬549755813888-s.now<n:=fun h=>hbad (.inr h));(have hw1:wrap64 (549755813888-s.now)=549755813888-s.now:=by unfold wrap64;omega);(have hwl:wrap64 ((s.left:Int)+n)=(s.left:Int)+n:=by unfold wrap64;omega);(have hwn:wrap64 (s.now+n)=s.now+n:=by unfold wrap64;omega);have HWK:Hid (IntKind.i64.wrap (s.now+n)=s.now+n):=hidN (by rw[IntKind.wrap_i64];omega);have HV:Hid (min ((s.left:Int)+n) 4=((min (s.left+n.toNat) 4:Nat):Int)):=hidN om;have c2:=h.cellLeft;(have hup:s.fs.Pairwise (fun x y=>x.1<y.1):=by obtain⟨cs,v,ov,fm,D,Fw,cnt,M,hF⟩:=h;exact M.up);(have CA:=fun W F (hN:qaw W b { s with left:=min (s.left+n.toNat) 4 } (duF s.fs) F)=>q7s hN (s.now+n) (by show s.now<=_;omega) om);have hok:=qr7 G hup hm (s.now+n);have hld:=q7x hup (s.now+n)
  obtain⟨s1,HS1⟩:∃s1:Nt,s1={ s with left:=min (s.left+n.toNat) 4,now:=s.now+n }:=⟨_,rfl⟩
  (have hok1:TkOk s1 (s.dueL (s.now+n)):=by rw[HS1];exact⟨hok.good,hok.up,hok.nd,hok.there,hok.mem⟩);have HFO:Hid (∀j,j<=(s.dueL (s.now+n)).length->qiw s1 ((s.dueL (s.now+n)).take j) ((s.dueL (s.now+n)).drop j)):=hidN (qng hok1);have hfin:=HFO.out _ (Nat.le_refl _)
  rw[List.take_length] at hfin
  have HL1:Hid (s1.fs.length=s.fs.length):=hidN (by rw[HS1]);(have hdl:(s.dueL (s.now+n)).length<=s.fs.length:=by have:=hfin.len;have:=HL1.out;omega)
  change ∀W F,qaw W b { s with left:=min (s.left+n.toNat) 4 } (duF s.fs) F->Calls prog 95 _ W (fun e w'=>∃sa c F' cnt',e=.returned (.tuple #[.slice sa (s.dueL (s.now+n)).length c,.int .i64 0])/\Own w' (.slice sa (s.dueL (s.now+n)).length c) (s.dueL (s.now+n))/\NatC w' b { s with left:=min (s.left+n.toNat) 4,now:=s.now+n } (qiv (s.now+n) (duF s.fs)) F' cnt'/\cnt'+(s.dueL (s.now+n)).length<=s.fs.length/\Gr F W w'/\(∀c,F' c->F c\/W.heap.size<=c)/\(∀k,(Value.slice sa (s.dueL (s.now+n)).length c).ownBlock=some k->¬F' k/\W.heap.size<=k)) at CA
  rw[←HS1] at CA
  (have hfs1:s1.fs=s.fs:=by rw[HS1]);have hfd:=hfin.fs
  rw[hfs1,] at hfd
  have hrest:=hfin.rest;have hes:=hfin.es
  show Calls prog 56 _ w fun e w'=>e=.returned (.agg (Rp.cells ⟨0,ByteArray.empty,false,((qbu { s with left:=min (s.left+n.toNat) 4,now:=s.now+n } (s.dueL (s.now+n))).2.log (qbu { s with left:=min (s.left+n.toNat) 4,now:=s.now+n } (s.dueL (s.now+n))).1).1⟩))/\∃F',qaw w' b ((qbu { s with left:=min (s.left+n.toNat) 4,now:=s.now+n } (s.dueL (s.now+n))).2.log (qbu { s with left:=min (s.left+n.toNat) 4,now:=s.now+n } (s.dueL (s.now+n))).1).2 (duF ((qbu { s with left:=min (s.left+n.toNat) 4,now:=s.now+n } (s.dueL (s.now+n))).2.log (qbu { s with left:=min (s.left+n.toNat) 4,now:=s.now+n } (s.dueL (s.now+n))).1).2.fs) F'/\Gr F w w'/\∀c,F' c->F c\/w.heap.size<=c
  rw[←HS1]
  rw[←hfd] at hld
  generalize s.dueL (s.now+n)=l at *
  obtain⟨N9,hN9e⟩:∃N9,N9=l.length:=⟨_,rfl⟩
  have HN9:Hid (N9=l.length):=hN9e;have HNB:Hid (N9<=64):=hidN om
  generalize htm:qiv (s.now+n) (duF s.fs)=tm9 at *
  obtain⟨re,rs,HRE⟩:∃re rs,qbu s1 l=(re,rs):=⟨_,_,rfl⟩
  have HR:Hid (qbu s1 l=(re,rs)):=HRE
  rw[HRE] at hld hrest hes ⊢
  simp only at hld hrest hes ⊢
  (have hlg2:rs.logged<=100000:=by rw[hrest.2.2.1,HS1];exact hlg);(have CG:=fun W F (hN:qaw W b rs tm9 F) (hT:Tab W) sl hE=>qxx hN hT sl re hE om hlg2);have HE9:Hid (re.length<=3518437208780):=hidN om;(have hlfs:(rs.log re).2.fs=rs.fs:=by unfold Nt.log;split<;>rfl);have HTM:Hid (tm9=duF (rs.log re).2.fs):=hidN (by rw[hlfs];exact hld)
  generalize rs.log re=lgg at *
  obtain⟨lg1,lg2⟩:=lgg
  simp only at *
  rw[←hN9e] at CA
  clear hbad hnow hlf hlg G hm hfew hok hld hok1 hfin hdl hfs1 hfd hrest hes HRE hlg2 hlfs htm hup h hN9e
  go_enter func56,ntmps56
  go_upto_region 4 with(first|((with_reducible refine gA 27 ?_);refine m0b ?_;clear N;intro b4 w9 N;clear c2;have c2:=N.nat.cellLeft)|(go_at_call 19;go_fit (CN _ _ _ N.nat);refine m0h ?_)|((with_reducible refine qaa (.call { callee:=.builtin .min,args:=#[.tmp 27,.const (.int .i64 4)],argTypes:=#[3,3] }) rfl ?_);refine qpz rfl (.tmp 27) rfl _ rfl ?_)|((with_reducible refine gS 3 30 28 ?_);refine qn2 N rfl (.tmp 30) (.tmp 28) rfl rfl (min (s.left+n.toNat) 4) (by first|exact congrArg (Value.int .i64) HV.out|(rw[hwl];exact congrArg (Value.int .i64) HV.out)) ?_;clear N c2;intro w9 F9 N))
  refine RD (fun _=>True) trivial (fun _=>?_)
  refine tq 0 (.pointer (some ⟨b,0,none⟩)) rfl trivial (tq 1 (.pointer (some ⟨b,0,none⟩)) rfl trivial (tq 2 (.pointer (some ⟨b,37,none⟩)) rfl trivial ?_));refine m5i ?_;refine tq 3 (.pointer (some ⟨b,0,none⟩)) rfl trivial (tq 5 (.int .i64 n) rfl trivial ?_);refine m5i ?_;refine AR [4] ?_
  refine AC (fun K hK=>?_) AZ
  go_simp
  go_at_call 19;(first|refine(CN _ _ _ N.nat).mono ?_|refine(CN _ _ _ N.drew.nat).mono ?_);rintro e w8 ⟨rfl,hw⟩;rw[hw];clear hw w8
  go_wp2_with fail
  refine hK.out _ _ trivial (fun _=>?_)
  clear hK K;(try simp only[ZZ]);refine tk 6 (.int .i64 (s.now+n)) rfl (Or.inl ⟨by kernel_rfl,by intro w hS;go_simp;exact HWK.out⟩) trivial ?_;refine m5i ?_;refine AR [7] ?_
  refine AC (fun K hK=>?_) AZ
  go_simp
  go_at_call 95;(first|refine(CA _ _ N.nat).mono ?_|refine(CA _ _ N.drew.nat).mono ?_);rintro e w8 ⟨sa,kp,F8,cnt,rfl,ho8,hn8,hc8,hg8,hf8,hk8⟩;(first|replace hg8:=qgn hg8|skip)
  go_wp2_with fail
  refine hK.out _ _ trivial (fun _=>?_)
  clear hK K;(try simp only[ZZ]);refine tq 8 (.tuple #[.slice sa N9 kp,.int .i64 0]) rfl trivial (tq 9 (.slice sa N9 kp) rfl trivial (tq 10 (.int .i64 0) rfl trivial ?_));refine m5i ?_;refine tq 11 (.slice sa N9 kp) rfl trivial (tq 12 (.int .i64 0) rfl trivial ?_);refine m1f ?_;obtain⟨Lx,T,HLX⟩:=N.adv hn8 hg8 hf8 (l:=l) (HN9.out▸ho8) (HN9.out▸hk8);clear hg8 hf8 ho8 hk8 hn8 N;have HLX:Hid _:=hidN HLX;have HC8:Hid _:=hidN hc8;clear hc8
  go_wp2_with fail
  go_loopw [7,44] (fun gv i W=>∃(j:Nat) (F8:Nat->Prop),j<=N9/\i=.int .i64 (j:Int)/\Tk w W b (qbu s1 (l.take j)).2 tm9 F F8 cnt ((b4,ob 27 (qas 0).cells)::Lx) gv (qbu s1 (l.take j)).1) (fun _ i _=>N9-(intOf i).toNat)
  case atStart=>exact⟨0,_,Nat.zero_le _,rfl,T⟩
  case round=>
   clear T
   obtain⟨j,F9',hj,rfl,T⟩:=hrel
   by_cases hlt:j<N9
   ·(have hjl:j<l.length:=by have:=HN9.out;omega);(have hji:(j:Int)<(N9:Int):=by omega);have HM:=qha hlt;have hjw:=qhl (p:=j) (by have:=HNB.out;omega);have FO:=HFO.out j om
    rw[List.drop_eq_getElem_cons hjl] at FO
    obtain⟨x,hx,ex⟩:=FO.ok.there l[j] List.mem_cons_self
    obtain⟨g,cur,rfl,hmem,hcur⟩:=HLX.out j hjl
    rw[←ex] at hcur
    have hcx:=((show Row 3 _ g cur from(T.nc.nb.rows _ (List.mem_cons_of_mem _ hmem)).1).cell j).trans hcur;(have hix:=fun w=>ixI g N9 kp j hlt w);have hst:=qgd s1 (l.take j) l[j]
    rw[←List.take_succ_eq_append_getElem hjl,←ex,show qbu s1 (l.take j)=((qbu s1 (l.take j)).1,(qbu s1 (l.take j)).2) from rfl,qlw _ FO.ok.up hx] at hst
    have FL:=FO.ok.less
    rw[←ex] at FL
    have hmm:=FO.ok.mem x hx;have hstd:=(FO.ok.good.maps.1 _ hmm).2.2.2.1
    have hcnt:cnt+1<=(qbu s1 (l.take j)).2.fs.length:=by
     have h1:=FO.len;have h2:=HC8.out;have h3:=HN9.out;have h4:=HL1.out
     rw[List.length_take_of_le om] at h1
     omega
    have HEL:Hid ((qbu s1 (l.take j)).1.length<=5000000000):=hidN (by have:=FO.es;have:=HNB.out;rw[List.length_take_of_le om] at *;omega)
    generalize(qbu s1 (l.take j)).2=sj at *
    generalize(qbu s1 (l.take j)).1=ej at *
    (have CE:=fun W F (hN:NatC W b sj tm9 F cnt)=>q83 hN x hx hcnt);(have CC:=fun W F (hN:NatC W b (sj.less (x.1:Int)) tm9 F cnt)=>qzy hN (flM x.2) FL.good FL.good.wf hmm)
    change ∀W F,NatC W b sj tm9 F cnt->Calls prog 96 _ W (fun e w'=>e=.returned (.agg (mc (flM x.2)))/\∃F',NatC w' b (sj.less (x.1:Int)) tm9 F' cnt/\Gr F W w'/\∀c,F' c->F c\/W.heap.size<=c) at CE
    generalize flM x.2=m9 at *
    generalize sj.less (x.1:Int)=sl at *
    (have CV:=fun W F (hN:qaw W b (sl.closeU m9).2 tm9 F)=>qtn hN m9 true hstd)
    generalize hcl:sl.closeU m9=r at *
    obtain⟨cb,s3⟩:=r
    simp only at CC CV hst
    have hxn:((x.1:Nat):Int)=((x.1:Nat):Int):=rfl
    cases cb with
    | true=>
     rw[if_pos rfl] at hst
     have HST:Hid (qbu s1 (l.take (j+1))=(ej++[evN s3.now m9 true],s3)):=hst
     generalize evN s3.now m9 true=e9 at *
     clear hst hx ex FO FL hmm hcnt hstd hcl hmem hcur hjl hxn
     go_wp2_with (first|(go_at_call 96;go_fit (CE _ _ T.nc.nc);rintro e w5 ⟨rfl,F9,hN9,hg9,hf9⟩;clear CE;replace T:=T.call hN9 hg9 hf9;clear hN9 hg9 hf9)|((with_reducible refine gA 50 ?_);refine ax 10 50 qci ?_;intro b10 w9 l9 R9 h9;replace T:=T.alloc (o:=ob 50 (mc noM)) l9 R9 h9;clear R9 h9 l9)|((with_reducible refine gS 50 10 50 ?_);refine sx 50 (.tmp 10) _ (mc m9) (T.row 0 rfl) ?_;intro w9 R9 t9;replace T:=T.turn 0 rfl R9 t9;clear R9 t9)|((with_reducible refine gL 50 10 ?_);refine lx 50 (.tmp 10) (mc m9) (T.row 0 rfl) ?_)|(go_at_call 97;go_fit (CC _ _ T.nc.nc);rintro e w5 ⟨rfl,F9,hN9,hg9,hf9⟩;clear CC;replace T:=T.call hN9 hg9 hf9;clear hN9 hg9 hf9)|(go_at_call 98;go_fit (CV _ _ T.nc.nc.nat);rintro e w5 ⟨rfl,hb9⟩;clear CV;replace T:=T.below hb9;clear hb9)|((with_reducible refine qaa (.buildSlice 55 1 #[(0,.tmp 57)]) rfl ?_);refine qbj rfl (.tmp 57) rfl e9 rfl ?_;intro b58 w9 l9 R9 h9;replace T:=T.alloc (o:=ob 112 (ec e9)) l9 R9 h9;clear R9 h9 l9)|((with_reducible refine qaa (.call { callee:=.builtin .append,args:=#[.tmp 54,.tmp 58],argTypes:=#[55,55] }) rfl ?_);refine qwb rfl (.tmp 54) (.tmp 58) rfl T.ev (T.row 0 rfl) rfl rfl HEL.out T.nc.gr.size ?_;intro gv9 w9 he9 hg9;replace T:=T.push he9 hg9;clear he9 hg9))
     go_roundw
     case rel=>
      have T9:=(T.tail.tail).cast HST.out
      exact sZtn95
     case measure=>first|exact HM.out|(rw[hjw];exact HM.out)
    | false=>
     rw[if_neg zm] at hst
     have HST:Hid (qbu s1 (l.take (j+1))=(ej,s3)):=hst;clear hst hx ex FO FL hmm hcnt hstd hcl hmem hcur hjl CV hxn
     go_wp2_with (first|(go_at_call 96;go_fit (CE _ _ T.nc.nc);rintro e w5 ⟨rfl,F9,hN9,hg9,hf9⟩;clear CE;replace T:=T.call hN9 hg9 hf9;clear hN9 hg9 hf9)|((with_reducible refine gA 50 ?_);refine ax 10 50 qci ?_;intro b10 w9 l9 R9 h9;replace T:=T.alloc (o:=ob 50 (mc noM)) l9 R9 h9;clear R9 h9 l9)|((with_reducible refine gS 50 10 50 ?_);refine sx 50 (.tmp 10) _ (mc m9) (T.row 0 rfl) ?_;intro w9 R9 t9;replace T:=T.turn 0 rfl R9 t9;clear R9 t9)|((with_reducible refine gL 50 10 ?_);refine lx 50 (.tmp 10) (mc m9) (T.row 0 rfl) ?_)|(go_at_call 97;go_fit (CC _ _ T.nc.nc);rintro e w5 ⟨rfl,F9,hN9,hg9,hf9⟩;clear CC;replace T:=T.call hN9 hg9 hf9;clear hN9 hg9 hf9))
     go_roundw
     case rel=>
      have T9:=(T.tail).cast HST.out
      exact sZtn95
     case measure=>first|exact HM.out|(rw[hjw];exact HM.out)
   ·(have hji:¬(j:Int)<(N9:Int):=by omega)
    obtain rfl:j=N9:=by omega
    have e:l.take j=l:=List.take_of_length_le (by have:=HN9.out;omega)
    rw[e] at T
    rw[HR.out] at T
    simp only at T
    clear e hj hlt
    go_wp2_with (first|(go_at_call 99;go_fit (CG _ _ T.nc.nc.nat (hT.gr T.nc.gr h0) _ (T.ev.at HE9.out));rintro e w5 ⟨rfl,F9,hN9,hg9,hf9⟩;clear CG;replace N:=T.nc.nb.call hN9 hg9 hf9;clear hN9 hg9 hf9 T)|((with_reducible refine qaa (.build 27 #[(0,.tmp 61),(3,.tmp 64)]) rfl ?_);refine qwk (.tmp 61) (.tmp 64) rfl rfl 0 lg1 rfl rfl ?_)|((with_reducible refine gS 27 4 65 ?_);refine sx 27 (.tmp 4) _ (Rp.cells ⟨0,ByteArray.empty,false,lg1⟩) (N.row 0 rfl) ?_;refine m0j ?_;clear N;intro w9 N))
    (refine m03 ?_;refine bodyPost_ret (qai (p:=4) rfl _ _ _ _ rfl (N.row 0 rfl) _ underlying27 rfl (qad _)) rfl ⟨rfl,_,HTM.out▸N.nat,N.gr,N.sub⟩)
theorem qk3{g:Nat->Bool}{p s d:Int}(he:(qba f g h ms p s i d).e=0):qbq (qba f g h ms p s i d).f (qba f g h ms p s i d).h (qba f g h ms p s i d).ms/\(qba f g h ms p s i d).m∈(qba f g h ms p s i d).ms/\∀m∈ms,m∈(qba f g h ms p s i d).ms:=by
 by_cases hP:qjy f h ms p s i
 rotate_left
 ·(have ho:qba f g h ms p s i d=⟨2,f,h,ms,noM,false⟩:=by unfold qba;rw[if_neg hP])
  rw[ho] at he;simp at he
 have G:=hP.1
 cases hf:ms.find? (inS p s i) with
 | some m=>
  refine m8f ?_;intro ho
  exact⟨G,List.mem_of_find?_eq_some hf,fun _ h=>h⟩
 | none=>
  by_cases hc:cntM ms s=12
  ·(have ho:qba f g h ms p s i d=⟨6,f,h,ms,noM,false⟩:=by unfold qba;rw[if_pos hP,hf];simp only;rw[if_pos hc])
   rw[ho] at he;simp at he
  ·by_cases hr:(qbe f g h ms p s d).e=0
   rotate_left
   ·(have ho:qba f g h ms p s i d=⟨(qbe f g h ms p s d).e,f,h,ms,noM,false⟩:=by unfold qba;rw[if_pos hP,hf];simp only;rw[if_neg hc,if_pos hr])
    rw[ho] at he;exact absurd he hr
   ·refine m1m ?_;intro ho;(have hany:ms.any (inS p s i)=false:=by rw[←List.isSome_find?,hf];rfl)
    obtain⟨hG,-,-⟩:=qya (g:=g) (d:=d) G hP.2.1 hP.2.2.1 ⟨hP.2.2.2.1,hP.2.2.2.2⟩ hany hc hr
    rw[ho]
    exact⟨hG,by simp,fun m hm=>by simp[hm]⟩
theorem qy7(f:Nat->Int)(g:Nat->Bool)(h:Nat->Int)(ms:List Mp)(p s i d:Int):qqz (qba f g h ms p s i d):=fun he=>by
 obtain⟨G,hm,-⟩:=qk3 he
 have hs:=G.maps.1 _ hm
 exact⟨fun m hm=>(G.maps.1 m hm).2.1,hs.2.2.2.2.1,hs.2.2.2.1⟩
section
variable {w0 W W':World} {b:Nat} {cs:Array Value} {v ov:Value} {fm:Option Nat} {D:DataW Unit} {Fw F0:Nat->Prop} {cnt:Nat} {s:Nt} {tm:Int->Option Int} {is:List Int} {L:List (Nat×Obj)}
theorem qgr(f:Nat->Int)(g:Nat->Bool):(pc f g).toList.length=21:=by simp[qf1]
theorem Nm.pool(h:Nm w0 W b cs v ov fm D Fw cnt s tm is F0 L)(g':Nat->Bool)(R:Row 93 W' b (qc8 cs 4 (pc s.f g').toList))(T:qbl b W W'):Nm w0 W' b (qc8 cs 4 (pc s.f g').toList) v ov fm D Fw cnt { s with g:=g' } tm is F0 L:=by
 have:=h.tableO s.f g' s.h v s.ms (pc s.f g').toList (by rw[qgr];omega) R T (fun k hk=>?_) h.m.maps h.m.nil (fun h0=>.inl ⟨rfl,h0⟩) (fun h0 y hy e=>(h.k.rows y hy).2.2 (.inr (.inr (.inr ⟨h0,e⟩))))
 ·exact this
 ·rw[←qr1 s.f s.f s.g g' s.h v]
  by_cases hk2:k<21
  ·rw[qj4 _ _ _ _ (by rw[qgr];exact hk2) (by rw[qgr,h.m.size];omega)]
   have:=qj4 (pc s.f g').toList 0 (tc s.f s.g s.h v) k (by rw[qgr];exact hk2) (by rw[qgr,qcr];omega)
   rw[Nat.zero_add] at this
   exact this.symm
  ·rw[qir _ _ _ _ (by rw[qgr];omega),qir _ _ _ _ (by rw[qgr];omega)]
   exact h.m.ct k hk
theorem NatM.poolRange(h:NatM W b cs v ov fm D Fw cnt s tm is):W.rangeAt b 4 (pc s.f s.g).toList:=fun j u hu=>by
 (have hj:j<21:=by have:=(List.getElem?_eq_some_iff.1 hu).1;simpa[qf1] using this);rw[h.cell,h.ct j om,←hu]
 have:=qj4 (pc s.f s.g).toList 0 (tc s.f s.g s.h v) j (by rw[qgr];exact hj) (by rw[qgr,qcr];omega)
 rw[Nat.zero_add,qr1] at this
 exact this
end
theorem qty(f:Nat->Int)(g:Nat->Bool):(prog.info? 35).map (·.size)=some (pc f g).toList.length:=by rw[qgr];kernel_rfl
theorem qms(hgd:o.guard=none)(x y:Operand)(ho:o.op=.store 35 x y)(b:Nat)(cs:Array Value)(R:Row 93 w b cs)(hsz:cs.size=487)(hx:a.eval x=V (some ⟨b,4,none⟩))(f:Nat->Int)(g:Nat->Bool)(hy:a.eval y=.agg (pc f g))(hr:∀w',Row 93 w' b (qc8 cs 4 (pc f g).toList)->qbl b w w'->wpList prog ops Q rest (a.put o.dst undef) w'):wpList prog ops Q (o::rest) a w:=by
 have ht:w.there b 4 (pc f g).size:=fun j hj=>by
  (have hj':j<21:=by rw[qf1] at hj;exact hj)
  refine⟨?_,R.free _⟩
  rw[R.cell,Array.getElem?_eq_getElem (by rw[hsz];omega)];rfl
 refine wpList_store_mid hgd 35 x y ho b 4 _ hx hy ht (qfg _ _) (qoq _ _) ?_
 exact hr _ (Row.setAll _ 4 w _ R) (qi4 b _ 4 w)
theorem qp3(x:Operand)(hgd:o.guard=none)(ho:o.op=.build 27 #[(0,x)])(c:Int)(hx:a.eval x=I Z c)(hr:wpList prog ops Q rest (a.put o.dst (.agg (qas c).cells)) w):wpList prog ops Q (o::rest) a w:=
 wpList_plain hgd fun K hK=>by
  rw[qdo] at hr
  unfold Oper.wp execOp
  simp only[ho,List.map_toArray,List.map_nil,List.map_cons,hx,Sem.run_bind,qp0,Result.andThen_ok,Sem.run_pure]
  exact hK _ _ hr
theorem quh{s:Nt}(h:qaw w b s tm F)(a:Int):Calls prog 57 #[V (some ⟨b,0,none⟩),.func (.func 58) #[] #[],I Z a] w fun e w'=>e=.returned (.agg (s.drain a true).1.cells)/\∃F',qaw w' b (s.drain a true).2 tm F'/\Gr F w w'/\∀c,F' c->F c\/w.heap.size<=c:=by
 obtain⟨cs,v,ov,fm,D,Fw0,cnt,M,hF⟩:=h;have N:=Nm.start M hF;(have CD:=fun w=>q2r s.f s.g a w)
 unfold qd5 plv at CD
 unfold Nt.drain
 generalize qg3 s.g a true=g9 at *
 generalize qfu s.g a true=e9 at *
 clear M hF
 generalize(fun c=>Fw0 c/\c<w.heap.size)=Fw at *
 go_enter func57,ntmps57
 go_wp2_with (first|((with_reducible refine gA 27 ?_);refine ax 6 27 qan ?_;intro b6 w9 l9 R9 h9;replace N:=N.alloc (o:=ob 27 (qas 0).cells) l9 R9 h9;clear R9 h9 l9)|((with_reducible refine gL 35 14 ?_);refine m88 ?_;refine m2h ?_)|(go_at_call 58;go_fit (CD _);rintro e w5 ⟨rfl,hb5⟩;replace N:=N.below hb5;clear hb5 CD)|((with_reducible refine gS 35 22 18 ?_);refine qms rfl (.tmp 22) (.tmp 18) rfl b cs N.m.row N.m.size rfl s.f g9 rfl ?_;intro w9 R9 t9;replace N:=N.pool g9 R9 t9;clear R9 t9)|((with_reducible refine qaa (.build 27 #[(0,.tmp 23)]) rfl ?_);refine qp3 (.tmp 23) rfl rfl e9 rfl ?_)|((with_reducible refine gS 27 6 24 ?_);refine sx 27 (.tmp 6) _ ((qas e9).cells) (N.row 0 rfl) ?_;refine m0j ?_;clear N;intro w9 N))
 (refine m03 ?_;refine bodyPost_ret (qai (p:=6) rfl _ _ _ _ rfl (N.row 0 rfl) _ underlying27 rfl (qad _)) rfl ⟨rfl,_,N.nb.nat,N.nb.gr,N.nb.sub⟩)
theorem qso{s:Nt}(h:qaw w b s tm F)(a:Int):Calls prog 57 #[V (some ⟨b,0,none⟩),.func (.func 59) #[] #[],I Z a] w fun e w'=>e=.returned (.agg (s.drain a false).1.cells)/\∃F',qaw w' b (s.drain a false).2 tm F'/\Gr F w w'/\∀c,F' c->F c\/w.heap.size<=c:=by
 obtain⟨cs,v,ov,fm,D,Fw0,cnt,M,hF⟩:=h;have N:=Nm.start M hF;(have CD:=fun w=>qxg s.f s.g a w)
 unfold qd5 plv at CD
 unfold Nt.drain
 generalize qg3 s.g a false=g9 at *
 generalize qfu s.g a false=e9 at *
 clear M hF
 generalize(fun c=>Fw0 c/\c<w.heap.size)=Fw at *
 go_enter func57,ntmps57
 go_wp2_with (first|((with_reducible refine gA 27 ?_);refine ax 6 27 qan ?_;intro b6 w9 l9 R9 h9;replace N:=N.alloc (o:=ob 27 (qas 0).cells) l9 R9 h9;clear R9 h9 l9)|((with_reducible refine gL 35 14 ?_);refine m88 ?_;refine m2h ?_)|(go_at_call 59;go_fit (CD _);rintro e w5 ⟨rfl,hb5⟩;replace N:=N.below hb5;clear hb5 CD)|((with_reducible refine gS 35 22 18 ?_);refine qms rfl (.tmp 22) (.tmp 18) rfl b cs N.m.row N.m.size rfl s.f g9 rfl ?_;intro w9 R9 t9;replace N:=N.pool g9 R9 t9;clear R9 t9)|((with_reducible refine qaa (.build 27 #[(0,.tmp 23)]) rfl ?_);refine qp3 (.tmp 23) rfl rfl e9 rfl ?_)|((with_reducible refine gS 27 6 24 ?_);refine sx 27 (.tmp 6) _ ((qas e9).cells) (N.row 0 rfl) ?_;refine m0j ?_;clear N;intro w9 N))
 (refine m03 ?_;refine bodyPost_ret (qai (p:=6) rfl _ _ _ _ rfl (N.row 0 rfl) _ underlying27 rfl (qad _)) rfl ⟨rfl,_,N.nb.nat,N.nb.gr,N.nb.sub⟩)
end Go.Proofs.YtonnjgmognbnbaaGreatDoor
