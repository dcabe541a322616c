/-
  Of what a law stands on.
-/
import Derived.Test.YtonnjgmognbnbaaGreatDoorZtTpN0
set_option linter.unusedSimpArgs false
set_option linter.unusedVariables false
namespace Go.Proofs.YtonnjgmognbnbaaGreatDoor
open Go.Value renaming int → I,pointer → V
open Go.IntKind renaming i64 → Z
open _root_.Go.Proofs.Tryz Go.ChangeShapes Go.WideShapes Go.ChangeAt Go.RowKit Go.Maps
set_option maxHeartbeats 16000000
set_option maxRecDepth 100000
variable {p:Prop}
theorem sZtTpN1(h:p:=by
 go_wp2_with (first|((with_reducible refine gL 52 58 ?_);refine wpList_load_mid rfl 52 (.tmp 58) rfl _ _ rfl (fcl k) _ rk underlying52 rfl (quj _) ?_;rw[qamb])|((with_reducible refine gA 52 ?_);refine ax 19 52 qbr ?_;intro b19 w9 l9 R9 h9;have HM19:Hid (0<ms.length->mb (.slice sa nm kc)≠b19):=hidN (fun h0 e=>by have:=C.maps.lt h0;omega);have HE19:Hid (0<ks.length->eb (.slice fa nk fcap)≠b19):=hidN (fun h0 e=>by have:=C.flows.lt h0;omega);replace N:=N.alloc (o:=ob 52 (fc fl0)) l9 R9 h9;replace C:=C.below h9;clear R9 h9 l9)|((with_reducible refine gS 52 19 59 ?_);refine sx 52 (.tmp 19) _ (fc k) (N.row 0 rfl) ?_;intro w9 R9 t9;replace N:=N.turn 0 rfl R9 t9;replace C:=C.turn t9 HM19.out HE19.out;clear R9 t9;have f0:World.cell? _ ⟨b19,0,none⟩=some (I Z k.pr):=((N.row 0 rfl).cell 0).trans (qbab k);have f3:World.cell? _ ⟨b19,3,none⟩=some (I Z k.a):=((N.row 0 rfl).cell 3).trans (qa8b k);have f4:World.cell? _ ⟨b19,4,none⟩=some (I Z k.port):=((N.row 0 rfl).cell 4).trans (qbbb k);have f5:World.cell? _ ⟨b19,5,none⟩=some (I Z k.rem):=((N.row 0 rfl).cell 5).trans (qa7b k)))
 go_roundw
 case rel=>
  have N9:=N.tail
  first
   | exact⟨j+1,by omega,by rw[HNX.out],by go_num,N9,C⟩| ((repeat apply Exists.intro);exact⟨⟨j+1,by omega,by rw[HNX.out],by go_num,N9,C⟩,rfl⟩)
 case measure=>first|exact HM.out|(rw[hjw];exact HM.out)):p:=h
theorem sZtTpN3(h:p:=by
 go_wp2_with fail
 go_ret
 exact⟨rfl,N.gr.below (fun _ h=>h.elim) (Nat.le_refl _)⟩):p:=h
theorem sZtTpN2(h:p:=by
 refine m5i ?_;refine tq 7 (.bool true) rfl kS (tq 8 (.bool true) rfl kS (tq 9 (V (some ⟨b16,1,none⟩)) rfl kS ?_));refine m5i ?_
 refine tk 10 (.string ByteArray.empty) rfl (Or.inl ⟨by kernel_rfl,by intro w hS;have hc:=(hS.1.cell 1).trans (show(Rp.cells ⟨c,fr,inn,lg⟩)[1]?=some (.string ByteArray.empty) by rw[qe4];exact congrArg (fun z=>some (Value.string z)) HFR.out);go_simp⟩) kS (tq 11 (.bool true) rfl kS (tq 12 (.bool true) rfl kS ?_))
 refine m5i ?_
 refine tq 13 (.bool true) rfl kS (tk 14 (.agg (tc f g h (.slice sa nm kc))) rfl (yx 39 (.tmp 14) (tc f g h (.slice sa nm kc)) (fun _ h=>h.2)) kS (tq 15 (V (some ⟨b,0,none⟩)) rfl kS ?_))
 refine m5i ?_;refine AR [16] ?_
 refine AC (fun K hK=>?_) ?_
 ·go_simp
  go_at_call 21;refine(CT2 _ _ N.nat).mono ?_;rintro e w8 ⟨sa8,kc8,rfl,hm8,-,-,hb8⟩;refine m2b ?_;clear N kS;intro N C kS;clear hb8
  go_wp2_with fail
  refine hK.out _ _ kS (fun _=>?_)
  clear hK K;(try simp only[ZZ]);refine AR [17] ?_
  refine AC (fun K hK=>?_) AZ
  refine m3p ?_;intro w8 hb8;refine m2b ?_;clear N C kS;intro N C kS;clear hb8 hm8
  go_wp2_with fail
  refine hK.out _ _ kS (fun _=>?_)
  clear hK K;(try simp only[ZZ]);refine tq 18 (.bool true) rfl kS (tq 19 (.bool true) rfl kS (tq 20 (.slice fa nk fcap) rfl kS ?_));refine m5i ?_;refine tq 21 (V (some ⟨b,0,none⟩)) rfl kS ?_;refine m5i ?_;refine AR [22] ?_
  refine AC (fun K hK=>?_) AZ
  go_simp
  go_at_call 22;refine(CL2 _ _ N.nat).mono ?_;rintro e w8 ⟨v8,rfl,hf8,hb8⟩;refine m2b ?_;clear N C kS;intro N C kS;have hf9:=hf8.at HKL.out;clear hb8 hf8;obtain⟨fa8,fc8,hfv8⟩:=hf9.slice;rw[←HNK.out] at hfv8;subst hfv8
  go_wp2_with fail
  refine hK.out _ _ kS (fun _=>?_)
  clear hK K;(try simp only[ZZ]);refine AR [23] ?_
  refine AC (fun K hK=>?_) AZ
  refine m4s ?_;intro w8 hb8;refine m2b ?_;clear N C kS;intro N C kS;clear hb8 hf9
  go_wp2_with fail
  refine hK.out _ _ kS (fun _=>?_)
  clear hK K;(try simp only[ZZ]);refine tq 24 (.bool true) rfl kS (tq 25 (.bool true) rfl kS ?_);refine m1f ?_
  exact sZtTpN3
 exact AZ):p:=h
theorem topStrangers_walk(sl:Value)(es:List Ac)(a1 a2 a3 a4:Int)(W:World)(hS:AcIn W sl es)(w1:(Lit.int .i64 a1).wf=true)(w2:(Lit.int .i64 a2).wf=true)(w3:(Lit.int .i64 a3).wf=true)(w4:(Lit.int .i64 a4).wf=true)(hT:Tab W):Calls prog 9 #[sl,.int .i64 a1,.int .i64 a2,.int .i64 a3,.int .i64 a4] W fun e w'=>e=.returned (.bool true)/\Below W.heap.size W w':=by
 have HT:Hid (Tab W):=hT;have CP:=qjp (G0:=fun _=>False) (qq7 false) sl es W hS.1 hS.2 hT id (fun _ h=>h) (fun _ h=>h);(have C3:=fun w=>qa6b a1 3 w om om);(have C48:=fun w=>qa6b a2 48 w om om);(have C16:=fun w=>qa6b a4 65536 w om om);(have C32:=fun w=>qa6b a3 4294967296 w om om);have ra:0<=a1%3/\a1%3<3:=⟨Int.emod_nonneg _ om,Int.emod_lt_of_pos _ om⟩;have rp:0<=a2%48/\a2%48<48:=⟨Int.emod_nonneg _ om,Int.emod_lt_of_pos _ om⟩;(have rq:0<=a4%65536/\a4%65536<=65535:=⟨Int.emod_nonneg _ om,by have:=Int.emod_lt_of_pos a4 (show(0:Int)<65536 by omega);omega⟩);(have rf:0<=a3%4294967296/\a3%4294967296<=4294967295:=⟨Int.emod_nonneg _ om,by have:=Int.emod_lt_of_pos a3 (show(0:Int)<4294967296 by omega);omega⟩);obtain⟨x0,cap,hsl⟩:=hS.1.slice;have hinv:=qjr false (es.take 100) (by rw[List.length_take];omega);refine m90 ?_;intro hk1;have hlo:=qbmb (NInv.new false) (es.take 100) om
 generalize es.length=n at *
 subst hsl
 obtain⟨s,hs⟩:∃s,(nt0 false).runs (es.take 100)=s:=⟨_,rfl⟩
 have HS1:Hid ((nt0 false).runs (es.take 100)=s):=hs
 rw[hs] at hinv hlo
 generalize(es.take 100).length=k0 at *
 generalize a1 % 3=a at *
 generalize a4 % 65536=fport at *
 generalize a3 % 4294967296=from_ at *
 generalize a2 % 48=pq at *
 (have hwp:wrap64 (1024+pq)=1024+pq:=by unfold wrap64;omega);(have hwa:wrap64 (3405803777+a)=3405803777+a:=by unfold wrap64;omega);have hst:=qbib hinv.ci hlo (by rw[hinv.acts];omega) ra (show 1024<=1024+pq/\1024+pq<1072 by omega) rf rq;have hgd:=qblb ra (show 1024<=1024+pq/\1024+pq<1072 by omega) rf rq;(have CFR:=fun w=>qyr (pS a (1024+pq) from_ fport) w (by show ByteArray.empty.size<=_;simp));(have hbl:built (pS a (1024+pq) from_ fport)=txt (frame (pS a (1024+pq) from_ fport)):=by unfold built;rw[if_pos hgd])
 rw[hbl] at CFR
 have hfl:=qnk _ hgd;(have CT:=fun W b F (hN:qaw W b s (duF s.fs) F)=>qfa hN (by have:=hinv.ci.good.len;omega));(have CL:=fun W b F (hN:qaw W b s (duF s.fs) F)=>qhb hN);(have CD:=fun W b F (hN:qaw W b s (duF s.fs) F) (hT:Tab W) (h0:¬F 0)=>qos hN hT h0 (hinv.ok om) ⟨2,0,0,txt (frame (pS a (1024+pq) from_ fport))⟩ ⟨rfl,rfl,rfl,by show(txt (frame (pS a (1024+pq) from_ fport))).size<=_;rw[qck];omega⟩);refine m62 ?_;intro HWF HWH HML HKL
 rw[←any_map] at hst
 rw[←qx5] at hst
 generalize s.act ⟨2,0,0,txt (frame (pS a (1024+pq) from_ fport))⟩=r at *
 obtain⟨⟨c,fr,inn,lg⟩,s2⟩:=r
 simp only at CD hst
 generalize txt (frame (pS a (1024+pq) from_ fport))=tf at *
 obtain⟨f,hf⟩:∃f,f=s.f:=⟨_,rfl⟩
 obtain⟨g,hg⟩:∃g,g=s.g:=⟨_,rfl⟩
 obtain⟨h,hh⟩:∃h,h=s.h:=⟨_,rfl⟩
 obtain⟨ms,hms⟩:∃ms,ms=s.ms:=⟨_,rfl⟩
 obtain⟨ks,hks⟩:∃ks,ks=s.fs.map (·.2):=⟨_,rfl⟩
 obtain⟨nm,hnm⟩:∃nm,nm=ms.length:=⟨_,rfl⟩
 obtain⟨nk,hnk⟩:∃nk,nk=ks.length:=⟨_,rfl⟩
 have HNK:Hid (nk=ks.length):=hnk;have HNM:Hid (nm=ms.length):=hnm;have HEQ:Hid (f=s.f/\g=s.g/\h=s.h/\ms=s.ms/\ks=s.fs.map (·.2)/\nm=ms.length):=hidN ⟨hf,hg,hh,hms,hks,hnm⟩
 rw[←hf,←hg,←hh,←hms,←hnm] at CT
 rw[←hks] at CL HKL hst
 rw[←hf] at HWF
 rw[←hh] at HWH
 have HST:Hid _:=hidN hst;clear hst hgd hbl hfl hinv hlo hk1 hS hT hs w1 w2 w3 w4 ra rp rq rf hf hg hh hms hks hnm hnk
 go_enter func9,ntmps9
 go_wp2_with (first|(go_at_call 23;go_fit CP;rintro e w1 ⟨b,rfl,F,G,hP⟩;clear CP;have N:=hP.nb (L:=[]) (Below.refl _ _) (fun _ h=>h.elim) zm (fun y hy=>by cases hy);clear hP;rw[HS1.out] at N)|(go_at_call 39;first|(go_fit (C3 _);refine m0h ?_)|(go_fit (C48 _);refine m0h ?_)|(go_fit (C16 _);refine m0h ?_)|(go_fit (C32 _);refine m0h ?_))|(go_at_call 21;go_fit (CT _ _ _ N.nat);rintro e w5 ⟨sa,kc,rfl,hm5,-,hl5,hb5⟩;clear CT;refine m55 ?_;clear N hb5 hl5;intro HMF N)|(go_at_call 22;go_fit (CL _ _ _ N.nat);rintro e w5 ⟨v5,rfl,hf5,hb5⟩;clear CL;refine m3v ?_;clear N hb5 hf5 hm5;intro C N fa fcap hfv;rw[←HNK.out] at hfv;subst hfv)|((with_reducible refine gA 39 ?_);refine ax 14 39 qbp ?_;intro b14 w9 l9 R9 h9;have HM14:Hid (0<ms.length->mb (.slice sa nm kc)≠b14):=hidN (fun h0 e=>by have:=C.maps.lt h0;omega);have HE14:Hid (0<ks.length->eb (.slice fa nk fcap)≠b14):=hidN (fun h0 e=>by have:=C.flows.lt h0;omega);replace N:=N.alloc (o:=ob 39 (tz)) l9 R9 h9;replace C:=C.below h9;clear R9 h9 l9)|((with_reducible refine gS 39 14 41 ?_);refine sx 39 (.tmp 14) _ (tc f g h (.slice sa nm kc)) (N.row 0 rfl) ?_;intro w9 R9 t9;replace N:=N.turn 0 rfl R9 t9;replace C:=C.turn t9 HM14.out HE14.out;clear R9 t9)|((with_reducible refine qaa (.build 61 #[(0,.const (.int .i64 17)),(1,.tmp 45),(2,.tmp 46),(3,.tmp 48),(4,.tmp 49),(5,.const (.int .i64 9))]) rfl ?_);refine qbnb rfl (.tmp 45) (.tmp 46) (.tmp 48) (.tmp 49) rfl a (1024+pq) from_ fport rfl rfl rfl rfl ?_)|(go_at_call 38;go_fit (CFR _);rintro e w5 ⟨rfl,hb5⟩;clear CFR;replace N:=N.below hb5;replace C:=C.below hb5;clear hb5)|((with_reducible refine qaa (.build 23 #[(0,.const (.int .i64 2)),(3,.tmp 51)]) rfl ?_);refine qbhb rfl (.tmp 51) rfl _ rfl ?_)|(go_at_call 18;refine m4q ?_;rintro e w5 ⟨rfl,F9,hN9,hg9,hf9⟩;clear CD;replace C:=C.call hg9 hf9;replace N:=N.call hN9 hg9 hf9;clear hN9 hg9 hf9)|((with_reducible refine gA 27 ?_);refine ax 16 27 qan ?_;intro b16 w9 l9 R9 h9;have HM16:Hid (0<ms.length->mb (.slice sa nm kc)≠b16):=hidN (fun h0 e=>by have:=C.maps.lt h0;omega);have HE16:Hid (0<ks.length->eb (.slice fa nk fcap)≠b16):=hidN (fun h0 e=>by have:=C.flows.lt h0;omega);refine m3q ?_;clear N;intro N;replace C:=C.below h9;clear R9 h9 l9)|((with_reducible refine gS 27 16 53 ?_);refine sx 27 (.tmp 16) _ (Rp.cells ⟨c,fr,inn,lg⟩) (N.row 0 rfl) ?_;intro w9 R9 t9;replace N:=N.turn 0 rfl R9 t9;replace C:=C.turn t9 HM16.out HE16.out;clear R9 t9))
 go_loopw [17,56] (fun mv i W1=>∃j:Nat,j<=nk/\mv=.bool ((ks.take j).any fun k=>metF a (1024+pq) from_ k)/\i=.int .i64 (j:Int)/\Nb W W1 b s2 (duF s2.fs) (fun _=>False) (fun c=>F9 c/\c<w5.heap.size) [(b16,ob 27 (Rp.cells ⟨c,fr,inn,lg⟩)),(b14,ob 39 (tc f g h (.slice sa nm kc)))]/\Cp W1 (fun c=>F9 c/\c<w5.heap.size) (.slice sa nm kc) ms (.slice fa nk fcap) ks) (fun _ i _=>nk-(intOf i).toNat)
 case atStart=>exact⟨0,Nat.zero_le _,rfl,rfl,N,C⟩
 case round=>
  clear N C
  obtain⟨j,hj,rfl,rfl,N,C⟩:=hrel
  by_cases hlt:j<nk
  ·(have hji:(j:Int)<(nk:Int):=by omega);(have hjl:j<ks.length:=by have:=HNK.out;omega);have HM:=qha hlt;have hjw:=qhl (p:=j) (by have:=HKL.out;have:=HNK.out;omega)
   obtain⟨k,hk⟩:∃k,ks[j]=k:=⟨_,rfl⟩
   have rk:=C.flows.at j hjl hk;(have hix:=fun w2=>C.flows.index j hjl w2)
   cases hjm:((ks.take j).any fun k=>metF a (1024+pq) from_ k) with
   | true=>
    (have HJ:Hid (((ks.take j).any fun k=>metF a (1024+pq) from_ k)=true):=hjm);clear hjm;(have HNX:Hid (((ks.take (j+1)).any fun k=>metF a (1024+pq) from_ k)=true):=hidN (by rw[qa5b hjl hk,HJ.out];unfold metF;simp only[Bool.true_or];try rfl))
    exact sZtTpN1
   | false=>
    (have HJ:Hid (((ks.take j).any fun k=>metF a (1024+pq) from_ k)=false):=hjm);clear hjm
    cases e1:(k.pr==17) with
    | false=>
     (have HNX:Hid (((ks.take (j+1)).any fun k=>metF a (1024+pq) from_ k)=false):=hidN (by rw[qa5b hjl hk,HJ.out];unfold metF;simp only[e1];try rfl))
     exact sZtTpN1
    | true=>
     cases e2:(k.a==a) with
     | false=>
      (have HNX:Hid (((ks.take (j+1)).any fun k=>metF a (1024+pq) from_ k)=false):=hidN (by rw[qa5b hjl hk,HJ.out];unfold metF;simp only[e1,e2];try rfl))
      exact sZtTpN1
     | true=>
      cases e3:(k.port==1024+pq) with
      | false=>
       (have HNX:Hid (((ks.take (j+1)).any fun k=>metF a (1024+pq) from_ k)=false):=hidN (by rw[qa5b hjl hk,HJ.out];unfold metF;simp only[e1,e2,e3];try rfl))
       exact sZtTpN1
      | true=>
       cases e4:(k.rem==from_) with
       | false=>
        (have HNX:Hid (((ks.take (j+1)).any fun k=>metF a (1024+pq) from_ k)=false):=hidN (by rw[qa5b hjl hk,HJ.out];unfold metF;simp only[e1,e2,e3,e4];try rfl))
        exact sZtTpN1
       | true=>
        (have HNX:Hid (((ks.take (j+1)).any fun k=>metF a (1024+pq) from_ k)=true):=hidN (by rw[qa5b hjl hk,HJ.out];unfold metF;simp only[e1,e2,e3,e4];try rfl))
        exact sZtTpN1
  ·(have hji:¬(j:Int)<(nk:Int):=by omega);have e:ks.take j=ks:=List.take_of_length_le (by have:=HNK.out;omega);rw[e];obtain⟨q1,q2⟩:=HST.out
   cases hm:(ks.any fun k=>metF a (1024+pq) from_ k) with
   | false=>
    obtain⟨hc,hfr,hsame⟩:=q1 hm;have HFR:Hid (fr=ByteArray.empty):=hfr;obtain⟨e1,e2,e3,e4,e5,e6⟩:=HEQ.out;(have CT2:=fun W F (hN:qaw W b s2 (duF s2.fs) F)=>qfa hN (by rw[hsame.ms];exact HML.out))
    have CL2:∀W F,qaw W b s2 (duF s2.fs) F->Calls prog 22 #[.pointer (some ⟨b,0,none⟩)] W (fun e w'=>∃v,e=.returned v/\FlO w' W.heap.size v ks/\Below W.heap.size W w'):=fun W F hN=>by
     have:=qhb hN
     rw[hsame.fs,←e5] at this
     exact this
    rw[hsame.f,hsame.g,hsame.h,hsame.ms,←e1,←e2,←e3,←e4,←e6] at CT2
    clear hsame hfr e1 e2 e3 e4 e5 e6 q1 q2 hm e
    rcases hc with hc|hc
    ·skip
     have HC:Hid (c=7):=hidN hc
     go_upto_region 16 with fail
     have kS:Row 27 _ b16 (Rp.cells ⟨c,fr,inn,lg⟩)/\Row 39 _ b14 (tc f g h (.slice sa nm kc)):=⟨N.row 0 rfl,N.row 1 rfl⟩
     refine RD (fun W=>Row 27 W b16 (Rp.cells ⟨c,fr,inn,lg⟩)/\Row 39 W b14 (tc f g h (.slice sa nm kc))) kS (fun _=>?_)
     replace N:=N.drew;replace C:=C.drew;(refine tq 0 (.pointer (some ⟨b16,0,none⟩)) rfl kS (tk 1 (.int .i64 c) rfl (Or.inl ⟨by kernel_rfl,by intro w hS;have hc:=(hS.1.cell 0).trans (qdt _);go_simp⟩) kS (tk 2 (.bool true) rfl (Or.inl ⟨by kernel_rfl,by intro w hS;have hc:=HC.out;go_simp⟩) kS ?_)));refine m5i ?_;refine tq 3 (.bool true) rfl kS (tk 4 undef rfl (Or.inr ⟨by kernel_rfl,rfl⟩) kS (tk 5 undef rfl (Or.inr ⟨by kernel_rfl,rfl⟩) kS ?_));refine m5i ?_;refine tk 6 undef rfl (Or.inr ⟨by kernel_rfl,rfl⟩) kS ?_
     exact sZtTpN2
    ·skip
     have HC:Hid (c=11):=hidN hc
     go_upto_region 16 with fail
     have kS:Row 27 _ b16 (Rp.cells ⟨c,fr,inn,lg⟩)/\Row 39 _ b14 (tc f g h (.slice sa nm kc)):=⟨N.row 0 rfl,N.row 1 rfl⟩
     refine RD (fun W=>Row 27 W b16 (Rp.cells ⟨c,fr,inn,lg⟩)/\Row 39 W b14 (tc f g h (.slice sa nm kc))) kS (fun _=>?_)
     replace N:=N.drew;replace C:=C.drew;(refine tq 0 (.pointer (some ⟨b16,0,none⟩)) rfl kS (tk 1 (.int .i64 c) rfl (Or.inl ⟨by kernel_rfl,by intro w hS;have hc:=(hS.1.cell 0).trans (qdt _);go_simp⟩) kS (tk 2 (.bool false) rfl (Or.inl ⟨by kernel_rfl,by intro w hS;have hc:=HC.out;go_simp⟩) kS ?_)));refine m5i ?_;(refine tq 3 (.bool false) rfl kS (tq 4 (.pointer (some ⟨b16,0,none⟩)) rfl kS (tk 5 (.int .i64 c) rfl (Or.inl ⟨by kernel_rfl,by intro w hS;have hc:=(hS.1.cell 0).trans (qdt _);go_simp⟩) kS ?_)));refine m5i ?_;refine tk 6 (.bool true) rfl (Or.inl ⟨by kernel_rfl,by intro w hS;have hc:=HC.out;go_simp⟩) kS ?_
     exact sZtTpN2
   | true=>
    have hq:=q2 hm;have c0:World.cell? _ ⟨b16,0,none⟩=some (.int .i64 c):=((N.row 0 rfl).cell 0).trans (qdt _);clear q1 q2 hm e
    rcases hq with hc|⟨hc,hl⟩
    ·subst hc
     exact sZtTpN3
    ·subst hc
     have hl48:nk=48:=HNK.out.trans hl
     subst hl48
     exact sZtTpN3
end Go.Proofs.YtonnjgmognbnbaaGreatDoor
