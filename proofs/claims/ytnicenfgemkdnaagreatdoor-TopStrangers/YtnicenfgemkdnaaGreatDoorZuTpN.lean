/-
  Of what a law stands on.
-/
import Derived.Test.YtnicenfgemkdnaaGreatDoorZuTpN0
set_option linter.unusedSimpArgs false
set_option linter.unusedVariables false
namespace Go.Proofs.YtnicenfgemkdnaaGreatDoor
open _root_.Go.Proofs.Tryz
set_option maxHeartbeats 16000000
set_option maxRecDepth 100000
open Go.ChangeShapes Go.WideShapes Go.ChangeAt Go.RowKit Go.Maps
attribute [local irreducible] Rp.cells tc pc qd2 eb eo mb mo fc fcl
theorem sZuTpN1 {p:Prop} (h:p:=by
 go_wp2_with (first|((with_reducible refine qaa (.load 48 (.tmp 58)) rfl ?_);refine wpList_load_mid rfl 48 (.tmp 58) rfl _ _ rfl (fcl k) _ rk underlying48 rfl (quj _) ?_;rw [qamb])|((with_reducible refine qaa (.alloc 48) rfl ?_);refine qaf 19 48 rfl rfl rfl _ qbr ?_;intro b19 w9 l9 R9 h9;have HM19:Hid (0<ms.length→mb (.slice sa nm kc)≠b19):=hidN (fun h0 e=>by have:=C.maps.lt h0;omega);have HE19:Hid (0<ks.length→eb (.slice fa nk fcap)≠b19):=hidN (fun h0 e=>by have:=C.flows.lt h0;omega);replace N:=N.alloc (o:=ob 48 (fc fl0)) l9 R9 h9;replace C:=C.below h9;clear R9 h9 l9)|((with_reducible refine qaa (.store 48 (.tmp 19) (.tmp 59)) rfl ?_);refine qab 48 rfl (.tmp 19) _ rfl b19 rfl (fc k) rfl _ (N.row 0 rfl) (qa9b _ _) (qal _) (qa5 _) ?_;intro w9 R9 t9;replace N:=N.turn 0 rfl R9 t9;replace C:=C.turn t9 HM19.out HE19.out;clear R9 t9;have f0:World.cell? _ ⟨b19,0,none⟩=some (.int .i64 k.pr):=((N.row 0 rfl).cell 0).trans (qbab k);have f3:World.cell? _ ⟨b19,3,none⟩=some (.int .i64 k.a):=((N.row 0 rfl).cell 3).trans (qa8b k);have f4:World.cell? _ ⟨b19,4,none⟩=some (.int .i64 k.port):=((N.row 0 rfl).cell 4).trans (qbbb k);have f5:World.cell? _ ⟨b19,5,none⟩=some (.int .i64 k.rem):=((N.row 0 rfl).cell 5).trans (qa7b k)))
 go_roundw
 case rel=>
  have N9:=N.tail
  first
   | exact ⟨j+1,by omega,by rw [HNX.out],by go_num,N9,C⟩
   | ((repeat apply Exists.intro);exact ⟨⟨j+1,by omega,by rw [HNX.out],by go_num,N9,C⟩,rfl⟩)
 case measure=>first|exact HM.out|(rw [hjw];exact HM.out)):p:=h
theorem sZuTpN3 {p:Prop} (h:p:=by
 go_wp2_with fail
 go_ret
 exact ⟨rfl,N.gr.below (fun _ h=>h.elim) (Nat.le_refl _)⟩):p:=h
theorem sZuTpN2 {p:Prop} (h:p:=by
 simp only [Act.put,Z1,Z2,Z3,Z4,Z5,Z6]
 refine tq 7 (.bool true) rfl kS ?_
 simp only [Act.put,Z1,Z2,Z3,Z4,Z5,Z6]
 refine tq 8 (.bool true) rfl kS ?_
 simp only [Act.put,Z1,Z2,Z3,Z4,Z5,Z6]
 refine tq 9 (.pointer (some ⟨b16,1,none⟩)) rfl kS ?_
 simp only [Act.put,Z1,Z2,Z3,Z4,Z5,Z6]
 refine tk 10 (.string ByteArray.empty) rfl (Or.inl ⟨by kernel_rfl,by intro w hS;have hc:=(hS.1.cell 1).trans (show (Rp.cells ⟨c,fr,inn,lg⟩)[1]?=some (.string ByteArray.empty) by rw [qe4];exact congrArg (fun z=>some (Value.string z)) HFR.out);go_simp⟩) kS ?_
 simp only [Act.put,Z1,Z2,Z3,Z4,Z5,Z6]
 refine tq 11 (.bool true) rfl kS ?_
 simp only [Act.put,Z1,Z2,Z3,Z4,Z5,Z6]
 refine tq 12 (.bool true) rfl kS ?_
 simp only [Act.put,Z1,Z2,Z3,Z4,Z5,Z6]
 refine tq 13 (.bool true) rfl kS ?_
 simp only [Act.put,Z1,Z2,Z3,Z4,Z5,Z6]
 refine tk 14 (.agg (tc f g h (.slice sa nm kc))) rfl (qav 39 (.tmp 14) rfl kr b14 kr (tc f g h (.slice sa nm kc)) (fun _ h=>h.2) _ underlying39 rfl (qaq _ _ _ _)) kS ?_
 simp only [Act.put,Z1,Z2,Z3,Z4,Z5,Z6]
 refine tq 15 (.pointer (some ⟨b,0,none⟩)) rfl kS ?_
 simp only [Act.put,Z1,Z2,Z3,Z4,Z5,Z6]
 refine wpAnyH_ready (rs:=[16]) kr zm ?_
 refine AllReadyH.cons rfl (fun K hK=>?_) ?_
 ·go_simp
  go_at_call 19;refine (CT2 _ _ N.nat).mono ?_;rintro e w8 ⟨sa8,kc8,rfl,hm8,-,-,hb8⟩;replace N:=N.below hb8;replace C:=C.below hb8;clear kS;have kS:Row 30 _ b16 (Rp.cells ⟨c,fr,inn,lg⟩)∧Row 39 _ b14 (tc f g h (.slice sa nm kc)):=⟨N.row 0 rfl,N.row 1 rfl⟩;clear hb8
  go_wp2_with fail
  refine hK.out _ _ kS (fun _=>?_)
  clear hK K
  try simp only [Act.put,Z1,Z2,Z3,Z4,Z5,Z6]
  refine wpAnyH_ready (rs:=[17]) kr zm ?_
  refine AllReadyH.cons rfl (fun K hK=>?_) ?_
  ·go_simp
   go_at_call 32;refine (qkc f g h _ _ ms HWF.out HWH.out _ C.maps hm8).mono ?_;rintro e w8 ⟨rfl,hb8⟩;replace N:=N.below hb8;replace C:=C.below hb8;clear kS;have kS:Row 30 _ b16 (Rp.cells ⟨c,fr,inn,lg⟩)∧Row 39 _ b14 (tc f g h (.slice sa nm kc)):=⟨N.row 0 rfl,N.row 1 rfl⟩;clear hb8 hm8
   go_wp2_with fail
   refine hK.out _ _ kS (fun _=>?_)
   clear hK K
   try simp only [Act.put,Z1,Z2,Z3,Z4,Z5,Z6]
   refine tq 18 (.bool true) rfl kS ?_
   simp only [Act.put,Z1,Z2,Z3,Z4,Z5,Z6]
   refine tq 19 (.bool true) rfl kS ?_
   simp only [Act.put,Z1,Z2,Z3,Z4,Z5,Z6]
   refine tq 20 (.slice fa nk fcap) rfl kS ?_
   simp only [Act.put,Z1,Z2,Z3,Z4,Z5,Z6]
   refine tq 21 (.pointer (some ⟨b,0,none⟩)) rfl kS ?_
   simp only [Act.put,Z1,Z2,Z3,Z4,Z5,Z6]
   refine wpAnyH_ready (rs:=[22]) kr zm ?_
   refine AllReadyH.cons rfl (fun K hK=>?_) ?_
   ·go_simp
    go_at_call 20;refine (CL2 _ _ N.nat).mono ?_;rintro e w8 ⟨v8,rfl,hf8,hb8⟩;replace N:=N.below hb8;replace C:=C.below hb8;clear kS;have kS:Row 30 _ b16 (Rp.cells ⟨c,fr,inn,lg⟩)∧Row 39 _ b14 (tc f g h (.slice sa nm kc)):=⟨N.row 0 rfl,N.row 1 rfl⟩;have hf9:=hf8.at HKL.out;clear hb8 hf8;obtain ⟨fa8,fc8,hfv8⟩:=hf9.slice;rw [← HNK.out] at hfv8;subst hfv8
    go_wp2_with fail
    refine hK.out _ _ kS (fun _=>?_)
    clear hK K
    try simp only [Act.put,Z1,Z2,Z3,Z4,Z5,Z6]
    refine wpAnyH_ready (rs:=[23]) kr zm ?_
    refine AllReadyH.cons rfl (fun K hK=>?_) ?_
    ·go_simp
     go_at_call 38;refine (qme _ _ ks _ C.flows hf9).mono ?_;rintro e w8 ⟨rfl,hb8⟩;replace N:=N.below hb8;replace C:=C.below hb8;clear kS;have kS:Row 30 _ b16 (Rp.cells ⟨c,fr,inn,lg⟩)∧Row 39 _ b14 (tc f g h (.slice sa nm kc)):=⟨N.row 0 rfl,N.row 1 rfl⟩;clear hb8 hf9
     go_wp2_with fail
     refine hK.out _ _ kS (fun _=>?_)
     clear hK K
     try simp only [Act.put,Z1,Z2,Z3,Z4,Z5,Z6]
     refine tq 24 (.bool true) rfl kS ?_
     simp only [Act.put,Z1,Z2,Z3,Z4,Z5,Z6]
     refine tq 25 (.bool true) rfl kS ?_
     simp only [Act.put,Z1,Z2,Z3,Z4,Z5,Z6]
     refine wpAnyH_done kr ?_ _
     refine NoPanic.normal ?_
     exact sZuTpN3
    exact AllReadyH.nil
   exact AllReadyH.nil
  exact AllReadyH.nil
 exact AllReadyH.nil):p:=h
theorem topStrangers_walk (sl:Value) (es:List Ac) (a1 a2 a3 a4:Int) (W:World) (hS:AcIn W sl es) (w1:(Lit.int .i64 a1).wf=true) (w2:(Lit.int .i64 a2).wf=true) (w3:(Lit.int .i64 a3).wf=true) (w4:(Lit.int .i64 a4).wf=true) (hT:Tab W):Calls prog 8 #[sl,.int .i64 a1,.int .i64 a2,.int .i64 a3,.int .i64 a4] W fun e w'=>e=.returned (.bool true)∧Below W.heap.size W w':=by
 have HT:Hid (Tab W):=hT
 have CP:=qjp (G0:=fun _=>False) (qq7 false) sl es W hS.1 hS.2 hT id (fun _ h=>h) (fun _ h=>h)
 have C3:=fun w=>qa6b a1 3 w om om
 have C48:=fun w=>qa6b a2 48 w om om
 have C16:=fun w=>qa6b a4 65536 w om om
 have C32:=fun w=>qa6b a3 4294967296 w om om
 have ra:0≤a1 % 3∧a1 % 3<3:=⟨Int.emod_nonneg _ om,Int.emod_lt_of_pos _ om⟩
 have rp:0≤a2 % 48∧a2 % 48<48:=⟨Int.emod_nonneg _ om,Int.emod_lt_of_pos _ om⟩
 have rq:0≤a4 % 65536∧a4 % 65536≤65535:=⟨Int.emod_nonneg _ om,by have:=Int.emod_lt_of_pos a4 (show (0:Int)<65536 by omega);omega⟩
 have rf:0≤a3 % 4294967296∧a3 % 4294967296≤4294967295:=⟨Int.emod_nonneg _ om,by have:=Int.emod_lt_of_pos a3 (show (0:Int)<4294967296 by omega);omega⟩
 obtain ⟨x0,cap,hsl⟩:=hS.1.slice
 have hinv:=qjr false (es.take 100) (by rw [List.length_take];omega)
 have hk1:(es.take 100).length≤100:=by rw [List.length_take];omega
 have hlo:=qbmb (NInv.new false) (es.take 100) om
 generalize es.length=n at *
 subst hsl
 obtain ⟨s,hs⟩:∃ s,(nt0 false).runs (es.take 100)=s:=⟨_,rfl⟩
 have HS1:Hid ((nt0 false).runs (es.take 100)=s):=hs
 rw [hs] at hinv hlo
 generalize (es.take 100).length=k0 at *
 generalize a1 % 3=a at *
 generalize a4 % 65536=fport at *
 generalize a3 % 4294967296=from_ at *
 generalize a2 % 48=pq at *
 have hwp:wrap64 (1024+pq)=1024+pq:=by unfold wrap64;omega
 have hwa:wrap64 (3405803777+a)=3405803777+a:=by unfold wrap64;omega
 have hst:=qbib hinv.ci hlo (by rw [hinv.acts];omega) ra (show 1024≤1024+pq∧1024+pq<1072 by omega) rf rq
 have hgd:=qblb ra (show 1024≤1024+pq∧1024+pq<1072 by omega) rf rq
 have CFR:=fun w=>qyr (pS a (1024+pq) from_ fport) w (by show ByteArray.empty.size≤_;simp)
 have hbl:built (pS a (1024+pq) from_ fport)=txt (frame (pS a (1024+pq) from_ fport)):=by unfold built;rw [if_pos hgd]
 rw [hbl] at CFR
 have hfl:=qnk _ hgd
 have CT:=fun W b F (hN:qaw W b s (duF s.fs) F)=>qfa hN (by have:=hinv.ci.good.len;omega)
 have CL:=fun W b F (hN:qaw W b s (duF s.fs) F)=>qhb hN
 have CD:=fun W b F (hN:qaw W b s (duF s.fs) F) (hT:Tab W) (h0:¬ F 0)=>qos hN hT h0 (hinv.ok om) ⟨2,0,0,txt (frame (pS a (1024+pq) from_ fport))⟩ ⟨rfl,rfl,rfl,by show (txt (frame (pS a (1024+pq) from_ fport))).size≤_;rw [qck];omega⟩
 have HWF:Hid (wfF s.f):=hidN (qpn hinv.ci.good.pool)
 have HWH:Hid (wfH s.h):=hidN hinv.ci.good.wf
 have HML:Hid (s.ms.length≤1000):=hidN (by have:=hinv.ci.good.len;omega)
 have HKL:Hid ((s.fs.map (·.2)).length≤100000):=hidN (by rw [qx5];have:=hinv.ci.few;omega)
 rw [← any_map] at hst
 rw [← qx5] at hst
 generalize s.act ⟨2,0,0,txt (frame (pS a (1024+pq) from_ fport))⟩=r at *
 obtain ⟨⟨c,fr,inn,lg⟩,s2⟩:=r
 simp only at CD hst
 generalize txt (frame (pS a (1024+pq) from_ fport))=tf at *
 obtain ⟨f,hf⟩:∃ f,f=s.f:=⟨_,rfl⟩
 obtain ⟨g,hg⟩:∃ g,g=s.g:=⟨_,rfl⟩
 obtain ⟨h,hh⟩:∃ h,h=s.h:=⟨_,rfl⟩
 obtain ⟨ms,hms⟩:∃ ms,ms=s.ms:=⟨_,rfl⟩
 obtain ⟨ks,hks⟩:∃ ks,ks=s.fs.map (·.2):=⟨_,rfl⟩
 obtain ⟨nm,hnm⟩:∃ nm,nm=ms.length:=⟨_,rfl⟩
 obtain ⟨nk,hnk⟩:∃ nk,nk=ks.length:=⟨_,rfl⟩
 have HNK:Hid (nk=ks.length):=hnk
 have HNM:Hid (nm=ms.length):=hnm
 have HEQ:Hid (f=s.f∧g=s.g∧h=s.h∧ms=s.ms∧ks=s.fs.map (·.2)∧nm=ms.length):=hidN ⟨hf,hg,hh,hms,hks,hnm⟩
 rw [← hf,← hg,← hh,← hms,← hnm] at CT
 rw [← hks] at CL HKL hst
 rw [← hf] at HWF
 rw [← hh] at HWH
 have HST:Hid _:=hidN hst
 clear hst hgd hbl hfl hinv hlo hk1 hS hT hs w1 w2 w3 w4 ra rp rq rf hf hg hh hms hks hnm hnk
 go_enter func8,ntmps8
 go_wp2_with (first|(go_at_call 17;go_fit CP;rintro e w1 ⟨b,rfl,F,G,hP⟩;clear CP;have N:=hP.nb (L:=[]) (Below.refl _ _) (fun _ h=>h.elim) zm (fun y hy=>by cases hy);clear hP;rw [HS1.out] at N)|(go_at_call 37;first|(go_fit (C3 _);rintro e w5 ⟨rfl,hw⟩;rw [hw];clear hw w5)|(go_fit (C48 _);rintro e w5 ⟨rfl,hw⟩;rw [hw];clear hw w5)|(go_fit (C16 _);rintro e w5 ⟨rfl,hw⟩;rw [hw];clear hw w5)|(go_fit (C32 _);rintro e w5 ⟨rfl,hw⟩;rw [hw];clear hw w5))|(go_at_call 19;go_fit (CT _ _ _ N.nat);rintro e w5 ⟨sa,kc,rfl,hm5,-,hl5,hb5⟩;clear CT;have HMF:Hid (0<ms.length→¬ F (mb (.slice sa nm kc))):=hidN (fun h0 hf=>by have h1:=N.bd _ hf;have h2:=hl5 (HNM.out.symm▸h0);omega);replace N:=N.below hb5;clear hb5 hl5)|(go_at_call 20;go_fit (CL _ _ _ N.nat);rintro e w5 ⟨v5,rfl,hf5,hb5⟩;clear CL;have C:Cp w5 F (.slice sa nm kc) ms v5 ks:=⟨hm5.below hb5,HMF.out,hf5.at HKL.out,fun h0 hf=>by have h1:=N.bd _ hf;have h2:=hf5.fresh h0;omega⟩;replace N:=N.below hb5;clear hb5 hf5 hm5;obtain ⟨fa,fcap,hfv⟩:=C.flows.slice;rw [← HNK.out] at hfv;subst hfv)|((with_reducible refine qaa (.alloc 39) rfl ?_);refine qaf 14 39 rfl rfl rfl _ qbp ?_;intro b14 w9 l9 R9 h9;have HM14:Hid (0<ms.length→mb (.slice sa nm kc)≠b14):=hidN (fun h0 e=>by have:=C.maps.lt h0;omega);have HE14:Hid (0<ks.length→eb (.slice fa nk fcap)≠b14):=hidN (fun h0 e=>by have:=C.flows.lt h0;omega);replace N:=N.alloc (o:=ob 39 (tz)) l9 R9 h9;replace C:=C.below h9;clear R9 h9 l9)|((with_reducible refine qaa (.store 39 (.tmp 14) (.tmp 41)) rfl ?_);refine qab 39 rfl (.tmp 14) _ rfl b14 rfl (tc f g h (.slice sa nm kc)) rfl _ (N.row 0 rfl) ((qcr _ _ _ _).trans (qcr _ _ _ _).symm) (qaq _ _ _ _) (qbm _ _ _ _ _ _) ?_;intro w9 R9 t9;replace N:=N.turn 0 rfl R9 t9;replace C:=C.turn t9 HM14.out HE14.out;clear R9 t9)|((with_reducible refine qaa (.build 58 #[(0,.const (.int .i64 17)),(1,.tmp 45),(2,.tmp 46),(3,.tmp 48),(4,.tmp 49),(5,.const (.int .i64 9))]) rfl ?_);refine qbnb rfl (.tmp 45) (.tmp 46) (.tmp 48) (.tmp 49) rfl a (1024+pq) from_ fport rfl rfl rfl rfl ?_)|(go_at_call 36;go_fit (CFR _);rintro e w5 ⟨rfl,hb5⟩;clear CFR;replace N:=N.below hb5;replace C:=C.below hb5;clear hb5)|((with_reducible refine qaa (.build 27 #[(0,.const (.int .i64 2)),(3,.tmp 51)]) rfl ?_);refine qbhb rfl (.tmp 51) rfl _ rfl ?_)|(go_at_call 35;refine (CD _ _ _ N.nat (HT.out.gr N.gr id) (N.zero HT.out id)).mono ?_;rintro e w5 ⟨rfl,F9,hN9,hg9,hf9⟩;clear CD;replace C:=C.call hg9 hf9;replace N:=N.call hN9 hg9 hf9;clear hN9 hg9 hf9)|((with_reducible refine qaa (.alloc 30) rfl ?_);refine qaf 16 30 rfl rfl rfl _ qan ?_;intro b16 w9 l9 R9 h9;have HM16:Hid (0<ms.length→mb (.slice sa nm kc)≠b16):=hidN (fun h0 e=>by have:=C.maps.lt h0;omega);have HE16:Hid (0<ks.length→eb (.slice fa nk fcap)≠b16):=hidN (fun h0 e=>by have:=C.flows.lt h0;omega);replace N:=N.alloc (o:=ob 30 ((qas 0).cells)) l9 R9 h9;replace C:=C.below h9;clear R9 h9 l9)|((with_reducible refine qaa (.store 30 (.tmp 16) (.tmp 53)) rfl ?_);refine qab 30 rfl (.tmp 16) _ rfl b16 rfl (Rp.cells ⟨c,fr,inn,lg⟩) rfl _ (N.row 0 rfl) (qar _ _) (qad _) (qah _) ?_;intro w9 R9 t9;replace N:=N.turn 0 rfl R9 t9;replace C:=C.turn t9 HM16.out HE16.out;clear R9 t9))
 go_loopw [17,56] (fun mv i W1=>∃ j:Nat,j≤nk∧mv=.bool ((ks.take j).any fun k=>metF a (1024+pq) from_ k)∧i=.int .i64 (j:Int)∧Nb W W1 b s2 (duF s2.fs) (fun _=>False) (fun c=>F9 c∧c<w5.heap.size) [(b16,ob 30 (Rp.cells ⟨c,fr,inn,lg⟩)),(b14,ob 39 (tc f g h (.slice sa nm kc)))]∧Cp W1 (fun c=>F9 c∧c<w5.heap.size) (.slice sa nm kc) ms (.slice fa nk fcap) ks) (fun _ i _=>nk - (intOf i).toNat)
 case atStart=>exact ⟨0,Nat.zero_le _,rfl,rfl,N,C⟩
 case round=>
  clear N C
  obtain ⟨j,hj,rfl,rfl,N,C⟩:=hrel
  by_cases hlt:j<nk
  ·have hji:(j:Int)<(nk:Int):=by omega
   have hjl:j<ks.length:=by have:=HNK.out;omega
   have HM:=qha hlt
   have hjw:=qhl (p:=j) (by have:=HKL.out;have:=HNK.out;omega)
   obtain ⟨k,hk⟩:∃ k,ks[j]=k:=⟨_,rfl⟩
   have rk:=C.flows.at j hjl hk
   have hix:=fun w2=>C.flows.index j hjl w2
   cases hjm:((ks.take j).any fun k=>metF a (1024+pq) from_ k) with
   | true=>
    have HJ:Hid (((ks.take j).any fun k=>metF a (1024+pq) from_ k)=true):=hjm
    clear hjm
    have HNX:Hid (((ks.take (j+1)).any fun k=>metF a (1024+pq) from_ k)=true):=hidN (by rw [qa5b hjl hk,HJ.out];unfold metF;simp only [Bool.true_or];try rfl)
    exact sZuTpN1
   | false=>
    have HJ:Hid (((ks.take j).any fun k=>metF a (1024+pq) from_ k)=false):=hjm
    clear hjm
    cases e1:(k.pr == 17) with
    | false=>
     have HNX:Hid (((ks.take (j+1)).any fun k=>metF a (1024+pq) from_ k)=false):=hidN (by rw [qa5b hjl hk,HJ.out];unfold metF;simp only [e1];try rfl)
     exact sZuTpN1
    | true=>
     cases e2:(k.a == a) with
     | false=>
      have HNX:Hid (((ks.take (j+1)).any fun k=>metF a (1024+pq) from_ k)=false):=hidN (by rw [qa5b hjl hk,HJ.out];unfold metF;simp only [e1,e2];try rfl)
      exact sZuTpN1
     | true=>
      cases e3:(k.port == 1024+pq) with
      | false=>
       have HNX:Hid (((ks.take (j+1)).any fun k=>metF a (1024+pq) from_ k)=false):=hidN (by rw [qa5b hjl hk,HJ.out];unfold metF;simp only [e1,e2,e3];try rfl)
       exact sZuTpN1
      | true=>
       cases e4:(k.rem == from_) with
       | false=>
        have HNX:Hid (((ks.take (j+1)).any fun k=>metF a (1024+pq) from_ k)=false):=hidN (by rw [qa5b hjl hk,HJ.out];unfold metF;simp only [e1,e2,e3,e4];try rfl)
        exact sZuTpN1
       | true=>
        have HNX:Hid (((ks.take (j+1)).any fun k=>metF a (1024+pq) from_ k)=true):=hidN (by rw [qa5b hjl hk,HJ.out];unfold metF;simp only [e1,e2,e3,e4];try rfl)
        exact sZuTpN1
  ·have hji:¬ (j:Int)<(nk:Int):=by omega
   have e:ks.take j=ks:=List.take_of_length_le (by have:=HNK.out;omega)
   rw [e]
   obtain ⟨q1,q2⟩:=HST.out
   cases hm:(ks.any fun k=>metF a (1024+pq) from_ k) with
   | false=>
    obtain ⟨hc,hfr,hsame⟩:=q1 hm
    have HFR:Hid (fr=ByteArray.empty):=hfr
    obtain ⟨e1,e2,e3,e4,e5,e6⟩:=HEQ.out
    have CT2:=fun W F (hN:qaw W b s2 (duF s2.fs) F)=>qfa hN (by rw [hsame.ms];exact HML.out)
    have CL2:∀ W F,qaw W b s2 (duF s2.fs) F→Calls prog 20 #[.pointer (some ⟨b,0,none⟩)] W (fun e w'=>∃ v,e=.returned v∧FlO w' W.heap.size v ks∧Below W.heap.size W w'):=fun W F hN=>by
     have:=qhb hN
     rw [hsame.fs,← e5] at this
     exact this
    rw [hsame.f,hsame.g,hsame.h,hsame.ms,← e1,← e2,← e3,← e4,← e6] at CT2
    clear hsame hfr e1 e2 e3 e4 e5 e6 q1 q2 hm e
    rcases hc with hc|hc
    ·skip
     have HC:Hid (c=7):=hidN hc
     go_upto_region 16 with fail
     have kS:Row 30 _ b16 (Rp.cells ⟨c,fr,inn,lg⟩)∧Row 39 _ b14 (tc f g h (.slice sa nm kc)):=⟨N.row 0 rfl,N.row 1 rfl⟩
     refine wp_region_noPanic ?_
     refine wp_region_held_drew (S:=fun W=>Row 30 W b16 (Rp.cells ⟨c,fr,inn,lg⟩)∧Row 39 W b14 (tc f g h (.slice sa nm kc))) kr kS (fun _=>?_)
     replace N:=N.drew
     replace C:=C.drew
     refine tq 0 (.pointer (some ⟨b16,0,none⟩)) rfl kS ?_
     simp only [Act.put,Z1,Z2,Z3,Z4,Z5,Z6]
     refine tk 1 (.int .i64 c) rfl (Or.inl ⟨by kernel_rfl,by intro w hS;have hc:=(hS.1.cell 0).trans (qdt _);go_simp⟩) kS ?_
     simp only [Act.put,Z1,Z2,Z3,Z4,Z5,Z6]
     refine tk 2 (.bool true) rfl (Or.inl ⟨by kernel_rfl,by intro w hS;have hc:=HC.out;go_simp⟩) kS ?_
     simp only [Act.put,Z1,Z2,Z3,Z4,Z5,Z6]
     refine tq 3 (.bool true) rfl kS ?_
     simp only [Act.put,Z1,Z2,Z3,Z4,Z5,Z6]
     refine tk 4 undef rfl (Or.inr ⟨by kernel_rfl,rfl⟩) kS ?_
     simp only [Act.put,Z1,Z2,Z3,Z4,Z5,Z6]
     refine tk 5 undef rfl (Or.inr ⟨by kernel_rfl,rfl⟩) kS ?_
     simp only [Act.put,Z1,Z2,Z3,Z4,Z5,Z6]
     refine tk 6 undef rfl (Or.inr ⟨by kernel_rfl,rfl⟩) kS ?_
     exact sZuTpN2
    ·skip
     have HC:Hid (c=11):=hidN hc
     go_upto_region 16 with fail
     have kS:Row 30 _ b16 (Rp.cells ⟨c,fr,inn,lg⟩)∧Row 39 _ b14 (tc f g h (.slice sa nm kc)):=⟨N.row 0 rfl,N.row 1 rfl⟩
     refine wp_region_noPanic ?_
     refine wp_region_held_drew (S:=fun W=>Row 30 W b16 (Rp.cells ⟨c,fr,inn,lg⟩)∧Row 39 W b14 (tc f g h (.slice sa nm kc))) kr kS (fun _=>?_)
     replace N:=N.drew
     replace C:=C.drew
     refine tq 0 (.pointer (some ⟨b16,0,none⟩)) rfl kS ?_
     simp only [Act.put,Z1,Z2,Z3,Z4,Z5,Z6]
     refine tk 1 (.int .i64 c) rfl (Or.inl ⟨by kernel_rfl,by intro w hS;have hc:=(hS.1.cell 0).trans (qdt _);go_simp⟩) kS ?_
     simp only [Act.put,Z1,Z2,Z3,Z4,Z5,Z6]
     refine tk 2 (.bool false) rfl (Or.inl ⟨by kernel_rfl,by intro w hS;have hc:=HC.out;go_simp⟩) kS ?_
     simp only [Act.put,Z1,Z2,Z3,Z4,Z5,Z6]
     refine tq 3 (.bool false) rfl kS ?_
     simp only [Act.put,Z1,Z2,Z3,Z4,Z5,Z6]
     refine tq 4 (.pointer (some ⟨b16,0,none⟩)) rfl kS ?_
     simp only [Act.put,Z1,Z2,Z3,Z4,Z5,Z6]
     refine tk 5 (.int .i64 c) rfl (Or.inl ⟨by kernel_rfl,by intro w hS;have hc:=(hS.1.cell 0).trans (qdt _);go_simp⟩) kS ?_
     simp only [Act.put,Z1,Z2,Z3,Z4,Z5,Z6]
     refine tk 6 (.bool true) rfl (Or.inl ⟨by kernel_rfl,by intro w hS;have hc:=HC.out;go_simp⟩) kS ?_
     exact sZuTpN2
   | true=>
    have hq:=q2 hm
    have c0:World.cell? _ ⟨b16,0,none⟩=some (.int .i64 c):=((N.row 0 rfl).cell 0).trans (qdt _)
    clear q1 q2 hm e
    rcases hq with hc|⟨hc,hl⟩
    ·subst hc
     exact sZuTpN3
    ·subst hc
     have hl48:nk=48:=HNK.out.trans hl
     subst hl48
     exact sZuTpN3
end Go.Proofs.YtnicenfgemkdnaaGreatDoor
