/-
  Of what a law stands on.
-/
import Derived.Test.YtonnjgmognbnbaaGreatDoorZtn9
set_option linter.unusedSimpArgs false
set_option linter.unusedVariables false
namespace Go.Proofs.YtonnjgmognbnbaaGreatDoor
open Go.Value renaming int → I,pointer → V
open Go.IntKind renaming i64 → Z
open _root_.Go.Proofs.Tryz Go.ChangeShapes Go.WideShapes Go.ChangeAt Go.RowKit
set_option maxHeartbeats 16000000
set_option maxRecDepth 100000
variable {w w':World}{b b' base g g':Nat}{F:Nat->Prop}{k:Fl}{p:Prop}{ms:List Mp}{i:Int}{loose:Bool}{ops:Array Oper}{rest:List Oper}{o:Oper}{a:Act}{Q:Exit->Act->World->Prop}{sl v:Value}{tm:Int->Option Int}{ks:List Fl}{es:List Ac}
section
open Go.Maps
structure NOk(s:Nt):Prop where
 good:qbq s.f s.h s.ms
 acts:s.acts<=300
 left:s.left<=4
 logged:s.logged<=64*s.acts
 now:0<=s.now/\s.now<=549755813888
 few:s.fs.length<=48
 began:s.began<=2*s.acts
 rem:∀x∈s.fs,0<=x.2.rem/\x.2.rem<=4294967295
 mem:∀x∈s.fs,flM x.2∈s.ms
theorem NOk.flows{s:Nt}(h:NOk s):∀x∈s.fs,(0<=x.2.rem/\x.2.rem<=4294967295)/\(0<=x.2.a/\x.2.a<3):=fun x hx=>⟨h.rem x hx,(h.good.maps.1 _ (h.mem x hx)).2.2.2.2.1⟩
theorem qpc(b:Nat)(w:World):(binOp .eql 24 (V (some ⟨b,0,none⟩)) (V none)).run prog w=.ok (.bool false) w:=by kernel_rfl
theorem qos{s:Nt}(h:qaw w b s (duF s.fs) F)(hT:Tab w)(h0:¬F 0)(ok:NOk s)(a:Ac)(ha:a.ok):Calls prog 18 #[V (some ⟨b,0,none⟩),.agg (ac a)] w fun e w'=>e=.returned (.agg (s.act a).1.cells)/\∃F',qaw w' b (s.act a).2 (duF (s.act a).2.fs) F'/\Gr F w w'/\∀c,F' c->F c\/w.heap.size<=c:=by
 have N:=h.start;have c1:=h.cellActs;(have hq:=fun w=>qpc b w);(have hw:wrap64 ((s.acts:Int)+1)=(s.acts:Int)+1:=by have:=ok.acts;unfold wrap64;omega)
 unfold Nt.act
 by_cases hf:300<=s.acts
 ·rw[if_pos hf];(have hg:(300:Int)<=(s.acts:Int):=by omega);(have CF:=fun w=>qdj 6 w)
  rw[←qdo] at CF
  clear hf hT h0 ok ha
  go_enter func18,ntmps18
  go_wp2_with (first|((with_reducible refine gB 23 1 ?_);refine m14 ?_;clear N c1;intro b3 w9 N c1)|((with_reducible refine gA 27 ?_);refine m0b ?_;clear N;intro b4 w9 N;clear c1;have c1:=N.nat.cellActs)|(go_at_call 53;go_fit (CF _);refine m22 ?_;clear N;intro w5 N)|((with_reducible refine gS 27 4 13 ?_);refine sx 27 (.tmp 4) _ ((qas 6).cells) (N.row 0 rfl) ?_;refine m0j ?_;clear N;intro w9 N))
  (refine m03 ?_;refine bodyPost_ret (qai (p:=4) rfl _ _ _ _ rfl (N.row 0 rfl) _ underlying27 rfl (qad _)) rfl ⟨rfl,_,N.nat,N.gr,N.sub⟩)
 rw[if_neg hf];(have hg:¬(300:Int)<=(s.acts:Int):=by omega)
 simp only
 (have hlg:s.logged<=100000:=by have:=ok.logged;have:=ok.acts;omega);(have hbg:s.began+1<700:=by have:=ok.began;have:=ok.acts;omega);(have hfw:s.fs.length+1<400:=by have:=ok.few;omega);(have hst:∀m∈s.ms,0<=m.2.1/\m.2.1<8:=fun m hm=>(ok.good.maps.1 m hm).2.1);(have hpre:∀ {W:World} {F':Nat->Prop} {s':Nt} {tm:Int->Option Int} {L:List (Nat×Obj)},Nb w W b s' tm F F' L->Tab W/\¬F' 0:=fun N=>⟨hT.gr N.gr h0,N.zero hT h0⟩);have HPRE:Hid (∀ {W:World} {F':Nat->Prop} {s':Nt} {tm:Int->Option Int} {L:List (Nat×Obj)},Nb w W b s' tm F F' L->Tab W/\¬F' 0):=hidN hpre;clear hpre
 by_cases k1:a.kd=1
 ·rw[if_pos k1];(have e1:(a.kd==1)=true:=by simp[k1]);(have CK:=fun W F (hN:qaw W b { s with acts:=s.acts+1 } (duF s.fs) F) (hp:Tab W/\¬F 0)=>q76 hN a.fr ha.2.2.2 a.dr ha.2.2.1 hp.1 hp.2 ok.good.wf (by have:=ok.left;show s.left<=100;omega) ok.now hbg hfw hlg hst ok.flows (fun _ _ _=>qy7 _ _ _ _ _ _ _ _))
  generalize Nt.out { s with acts:=s.acts+1 } a.fr.data.toList a.dr=r at *
  obtain⟨r1,r2⟩:=r
  simp only at CK ⊢
  clear hf hT h0 ok ha k1 hlg hbg hfw hst
  go_enter func18,ntmps18
  go_wp2_with (first|((with_reducible refine gB 23 1 ?_);refine m14 ?_;clear N c1;intro b3 w9 N c1)|((with_reducible refine gA 27 ?_);refine m0b ?_;clear N;intro b4 w9 N;clear c1;have c1:=N.nat.cellActs)|((with_reducible refine gS 3 20 18 ?_);refine m1t ?_;clear N c1;intro w9 F9 N)|((with_reducible refine gL 3 21 ?_);refine m86 ?_)|((with_reducible refine gL 9 26 ?_);refine qcm (N.row 1 rfl) (.tmp 26) rfl kr 3 rfl a.fr rfl ?_)|((with_reducible refine gL 3 28 ?_);refine fx (N.row 1 rfl) _ 2 (a.dr) ?_)|(go_at_call 54;go_fit (CK _ _ N.nat (HPRE.out N));refine m66 ?_;clear CK N;intro w5 F9 N)|((with_reducible refine gS 27 4 30 ?_);refine m5f ?_;refine m0j ?_;clear N;intro w9 N))
  (refine m03 ?_;refine bodyPost_ret (qai (p:=4) rfl _ _ _ _ rfl (N.row 0 rfl) _ underlying27 rfl (qad _)) rfl ⟨rfl,_,N.nat,N.gr,N.sub⟩)
 rw[if_neg k1];(have e1:(a.kd==1)=false:=by simp[k1])
 by_cases k2:a.kd=2
 ·rw[if_pos k2];(have e2:(a.kd==2)=true:=by simp[k2]);(have CK:=fun W F (hN:qaw W b { s with acts:=s.acts+1 } (duF s.fs) F)=>q1g hN a.fr ha.2.2.2 ok.now (by show s.began<700;omega) (by show s.fs.length<400;omega) hst)
  generalize Nt.inn { s with acts:=s.acts+1 } a.fr.data.toList=r at *
  obtain⟨r1,r2⟩:=r
  simp only at CK ⊢
  clear hf hT h0 ok ha k1 k2 hlg hbg hfw hst
  go_enter func18,ntmps18
  go_wp2_with (first|((with_reducible refine gB 23 1 ?_);refine m14 ?_;clear N c1;intro b3 w9 N c1)|((with_reducible refine gA 27 ?_);refine m0b ?_;clear N;intro b4 w9 N;clear c1;have c1:=N.nat.cellActs)|((with_reducible refine gS 3 20 18 ?_);refine m1t ?_;clear N c1;intro w9 F9 N)|((with_reducible refine gL 3 21 ?_);refine m86 ?_)|((with_reducible refine gL 9 34 ?_);refine qcm (N.row 1 rfl) (.tmp 34) rfl kr 3 rfl a.fr rfl ?_)|(go_at_call 55;go_fit (CK _ _ N.nat);refine m66 ?_;clear CK N;intro w5 F9 N)|((with_reducible refine gS 27 4 36 ?_);refine m5f ?_;refine m0j ?_;clear N;intro w9 N))
  (refine m03 ?_;refine bodyPost_ret (qai (p:=4) rfl _ _ _ _ rfl (N.row 0 rfl) _ underlying27 rfl (qad _)) rfl ⟨rfl,_,N.nat,N.gr,N.sub⟩)
 rw[if_neg k2];(have e2:(a.kd==2)=false:=by simp[k2])
 by_cases k3:a.kd=3
 ·rw[if_pos k3];(have e3:(a.kd==3)=true:=by simp[k3]);(have CK:=fun W F (hN:qaw W b { s with acts:=s.acts+1 } (duF s.fs) F) (hp:Tab W/\¬F 0)=>q6t hN a.n ha.2.1 hp.1 hp.2 ok.now ok.left hlg ok.good ok.mem (by have:=ok.few;show s.fs.length<=64;omega))
  generalize Nt.tick { s with acts:=s.acts+1 } a.n=r at *
  obtain⟨r1,r2⟩:=r
  simp only at CK ⊢
  clear hf hT h0 ok ha k1 k2 k3 hlg hbg hfw hst
  go_enter func18,ntmps18
  go_wp2_with (first|((with_reducible refine gB 23 1 ?_);refine m14 ?_;clear N c1;intro b3 w9 N c1)|((with_reducible refine gA 27 ?_);refine m0b ?_;clear N;intro b4 w9 N;clear c1;have c1:=N.nat.cellActs)|((with_reducible refine gS 3 20 18 ?_);refine m1t ?_;clear N c1;intro w9 F9 N)|((with_reducible refine gL 3 21 ?_);refine m86 ?_)|((with_reducible refine gL 3 40 ?_);refine fx (N.row 1 rfl) _ 1 (a.n) ?_)|(go_at_call 56;go_fit (CK _ _ N.nat (HPRE.out N));refine m66 ?_;clear CK N;intro w5 F9 N)|((with_reducible refine gS 27 4 42 ?_);refine m5f ?_;refine m0j ?_;clear N;intro w9 N))
  (refine m03 ?_;refine bodyPost_ret (qai (p:=4) rfl _ _ _ _ rfl (N.row 0 rfl) _ underlying27 rfl (qad _)) rfl ⟨rfl,_,N.nat,N.gr,N.sub⟩)
 rw[if_neg k3];(have e3:(a.kd==3)=false:=by simp[k3])
 by_cases k4:a.kd=4
 ·rw[if_pos k4];(have e4:(a.kd==4)=true:=by simp[k4]);(have CK:=fun W F (hN:qaw W b { s with acts:=s.acts+1 } (duF s.fs) F)=>quh hN a.n);have hfs:(Nt.drain { s with acts:=s.acts+1 } a.n true).2.fs=s.fs:=rfl;rw[hfs]
  generalize Nt.drain { s with acts:=s.acts+1 } a.n true=r at *
  obtain⟨r1,r2⟩:=r
  simp only at CK ⊢
  clear hf hT h0 ok ha k1 k2 k3 k4 hlg hbg hfw hst hfs
  go_enter func18,ntmps18
  go_wp2_with (first|((with_reducible refine gB 23 1 ?_);refine m14 ?_;clear N c1;intro b3 w9 N c1)|((with_reducible refine gA 27 ?_);refine m0b ?_;clear N;intro b4 w9 N;clear c1;have c1:=N.nat.cellActs)|((with_reducible refine gS 3 20 18 ?_);refine m1t ?_;clear N c1;intro w9 F9 N)|((with_reducible refine gL 3 21 ?_);refine m86 ?_)|((with_reducible refine gL 3 46 ?_);refine fx (N.row 1 rfl) _ 1 (a.n) ?_)|(go_at_call 57;go_fit (CK _ _ N.nat);refine m66 ?_;clear CK N;intro w5 F9 N)|((with_reducible refine gS 27 4 48 ?_);refine m5f ?_;refine m0j ?_;clear N;intro w9 N))
  (refine m03 ?_;refine bodyPost_ret (qai (p:=4) rfl _ _ _ _ rfl (N.row 0 rfl) _ underlying27 rfl (qad _)) rfl ⟨rfl,_,N.nat,N.gr,N.sub⟩)
 rw[if_neg k4];(have e4:(a.kd==4)=false:=by simp[k4])
 by_cases k5:a.kd=5
 ·rw[if_pos k5];(have e5:(a.kd==5)=true:=by simp[k5]);(have CK:=fun W F (hN:qaw W b { s with acts:=s.acts+1 } (duF s.fs) F)=>qso hN a.n);have hfs:(Nt.drain { s with acts:=s.acts+1 } a.n false).2.fs=s.fs:=rfl;rw[hfs]
  generalize Nt.drain { s with acts:=s.acts+1 } a.n false=r at *
  obtain⟨r1,r2⟩:=r
  simp only at CK ⊢
  clear hf hT h0 ok ha k1 k2 k3 k4 k5 hlg hbg hfw hst hfs
  go_enter func18,ntmps18
  go_wp2_with (first|((with_reducible refine gB 23 1 ?_);refine m14 ?_;clear N c1;intro b3 w9 N c1)|((with_reducible refine gA 27 ?_);refine m0b ?_;clear N;intro b4 w9 N;clear c1;have c1:=N.nat.cellActs)|((with_reducible refine gS 3 20 18 ?_);refine m1t ?_;clear N c1;intro w9 F9 N)|((with_reducible refine gL 3 21 ?_);refine m86 ?_)|((with_reducible refine gL 3 52 ?_);refine fx (N.row 1 rfl) _ 1 (a.n) ?_)|(go_at_call 57;go_fit (CK _ _ N.nat);refine m66 ?_;clear CK N;intro w5 F9 N)|((with_reducible refine gS 27 4 54 ?_);refine m5f ?_;refine m0j ?_;clear N;intro w9 N))
  (refine m03 ?_;refine bodyPost_ret (qai (p:=4) rfl _ _ _ _ rfl (N.row 0 rfl) _ underlying27 rfl (qad _)) rfl ⟨rfl,_,N.nat,N.gr,N.sub⟩)
 rw[if_neg k5];(have e5:(a.kd==5)=false:=by simp[k5]);(have CF:=fun w=>qdj 4 w)
 rw[←qdo] at CF
 clear hf hT h0 ok ha k1 k2 k3 k4 k5 hlg hbg hfw hst
 go_enter func18,ntmps18
 go_wp2_with (first|((with_reducible refine gB 23 1 ?_);refine m14 ?_;clear N c1;intro b3 w9 N c1)|((with_reducible refine gA 27 ?_);refine m0b ?_;clear N;intro b4 w9 N;clear c1;have c1:=N.nat.cellActs)|((with_reducible refine gS 3 20 18 ?_);refine m1t ?_;clear N c1;intro w9 F9 N)|((with_reducible refine gL 3 21 ?_);refine m86 ?_)|(go_at_call 53;go_fit (CF _);refine m22 ?_;clear N;intro w5 N)|((with_reducible refine gS 27 4 55 ?_);refine sx 27 (.tmp 4) _ ((qas 4).cells) (N.row 0 rfl) ?_;refine m0j ?_;clear N;intro w9 N))
 (refine m03 ?_;refine bodyPost_ret (qai (p:=4) rfl _ _ _ _ rfl (N.row 0 rfl) _ underlying27 rfl (qad _)) rfl ⟨rfl,_,N.nat,N.gr,N.sub⟩)
structure Ci(s:Nt):Prop where
 good:qbq s.f s.h s.ms
 left:s.left<=4
 now:0<=s.now/\s.now<=549755813888
 few:s.fs.length<=48
 rem:∀x∈s.fs,0<=x.2.rem/\x.2.rem<=4294967295
 mem:∀x∈s.fs,flM x.2∈s.ms
 up:s.fs.Pairwise (fun x y=>x.1<y.1)
 num:∀x∈s.fs,x.1<=s.began
 due:∀x∈s.fs,s.now<x.2.du/\x.2.du<=s.now+60
 used:∀m∈s.ms,∃x∈s.fs,flM x.2=m
 apart:s.fs.Pairwise (fun x y=>¬(flM x.2=flM y.2/\x.2.rem=y.2.rem/\x.2.rp=y.2.rp))
theorem qvu(p s:Int):1<=qb0 p s/\qb0 p s<=60:=by unfold qb0;split<;>(try split)<;>(try split)<;>(try split)<;>omega
theorem qza(k:Fl)(x:Int)(inw:Bool):flM (qem k x inw).1=flM k/\(qem k x inw).1.rem=k.rem/\(qem k x inw).1.rp=k.rp:=by
 unfold qem qbi
 (repeat' split)<;>exact⟨rfl,rfl,rfl⟩
theorem qnr(k:Fl)(x now:Int)(inw:Bool):flM (qcu k x inw now)=flM k/\(qcu k x inw now).rem=k.rem/\(qcu k x inw now).rp=k.rp:=by
 have:=qza k x inw
 unfold qcu
 split
 ·exact this
 ·exact this
theorem qod{x now:Int}{inw:Bool}(h:now<k.du/\k.du<=now+60):now<(qcu k x inw now).du/\(qcu k x inw now).du<=now+60:=by
 have key:=qvb k x inw
 unfold qcu
 split
 ·have:=qvu (qem k x inw).1.pr (qem k x inw).1.st
  simp only
  omega
 ·rw[key];exact h
theorem qnd{fs:List (Nat×Fl)}{n:Nat}{P:Nat×Fl->Prop}(h:∀x∈fs,P x)(hk:P (n,k)):∀x∈setF fs n k,P x:=by
 intro x hx
 unfold setF at hx
 obtain⟨y,hy,rfl⟩:=List.mem_map.1 hx
 split
 ·exact hk
 ·exact h y hy
theorem sZtn102(h:p:=by
 have h1:=qf6 h.up hy;have h2:=qf6 h.up hx
 rw[e,h2] at h1
 exact(Option.some.inj h1).symm):p:=h
theorem Ci.keep{s:Nt}(h:Ci s){x:Nat×Fl}(hx:x∈s.fs)(hm:flM k=flM x.2/\k.rem=x.2.rem/\k.rp=x.2.rp)(hd:s.now<k.du/\k.du<=s.now+60):Ci (s.keep x.1 k):=by
 have hnm:=qwi s.fs x.1 k
 have huniq:∀y∈s.fs,y.1=x.1->y.2=x.2:=fun y hy e=>by
  exact sZtn102
 refine⟨h.good,h.left,h.now,by show(setF s.fs x.1 k).length<=48;rw[qwo];exact h.few,qnd h.rem (by show 0<=k.rem/\k.rem<=4294967295;rw[hm.2.1];exact h.rem x hx),qnd h.mem (by show flM k∈s.ms;rw[hm.1];exact h.mem x hx),qum hnm h.up,qnd h.num (h.num x hx),qnd h.due hd,fun m hm'=>?_,?_⟩
 ·obtain⟨y,hy,e⟩:=h.used m hm'
  by_cases e2:y.1=x.1
  ·exact⟨(x.1,k),qvd hx k,by show flM k=m;rw[hm.1,←huniq y hy e2];exact e⟩
  ·exact⟨y,by show y∈setF s.fs x.1 k;unfold setF;exact List.mem_map.2 ⟨y,hy,by rw[if_neg e2]⟩,e⟩
 ·show(setF s.fs x.1 k).Pairwise _
  unfold setF
  rw[List.pairwise_map]
  refine List.Pairwise.imp_of_mem ?_ h.apart
  intro a b ha hb hab
  by_cases ea:a.1=x.1
  ·have e1:=huniq a ha ea
   by_cases eb:b.1=x.1
   ·have e2:=huniq b hb eb
    exact absurd ⟨by rw[e1,e2],by rw[e1,e2],by rw[e1,e2]⟩ hab
   ·rw[if_pos ea,if_neg eb];simp only;rw[hm.1,hm.2.1,hm.2.2,←e1];exact hab
  ·by_cases eb:b.1=x.1
   ·have e2:=huniq b hb eb
    rw[if_neg ea,if_pos eb];simp only;rw[hm.1,hm.2.1,hm.2.2,←e2];exact hab
   ·rw[if_neg ea,if_neg eb];exact hab
theorem Ci.add{s:Nt}(h:Ci s){f' h':Nat->Int}{ms':List Mp}(G:qbq f' h' ms')(hk:flM k∈ms')(hs:∀m∈s.ms,m∈ms')(hn:∀m∈ms',m∈s.ms\/m=flM k)(hfull:s.fs.length<48)(hrem:0<=k.rem/\k.rem<=4294967295)(hne:∀x∈s.fs,¬(flM x.2=flM k/\x.2.rem=k.rem/\x.2.rp=k.rp)):Ci ((s.setT f' h' ms').begin k):=by
 have hd:dueF (s.setT f' h' ms') k={ k with du:=s.now+qb0 k.pr k.st }:=rfl;have hlp:=qvu k.pr k.st;have hmk:flM (dueF (s.setT f' h' ms') k)=flM k:=rfl
 refine⟨G,h.left,h.now,by show(s.fs++[_]).length<=48;simp;omega,?_,?_,?_,?_,?_,?_,?_⟩
 ·intro x hx
  rcases List.mem_append.1 (show x∈s.fs++[_] from hx) with h1|h1
  ·exact h.rem x h1
  ·obtain rfl:=List.mem_singleton.1 h1;exact hrem
 ·intro x hx
  rcases List.mem_append.1 (show x∈s.fs++[_] from hx) with h1|h1
  ·exact hs _ (h.mem x h1)
  ·obtain rfl:=List.mem_singleton.1 h1;exact hk
 ·show(s.fs++[(s.began+1,_)]).Pairwise _
  rw[List.pairwise_append]
  refine⟨h.up,by simp,fun x hx y hy=>?_⟩
  obtain rfl:=List.mem_singleton.1 hy
  have:=h.num x hx
  simp only;omega
 ·intro x hx
  show x.1<=s.began+1
  rcases List.mem_append.1 (show x∈s.fs++[_] from hx) with h1|h1
  ·exact Nat.le_succ_of_le (h.num x h1)
  ·obtain rfl:=List.mem_singleton.1 h1;exact Nat.le_refl _
 ·intro x hx
  show s.now<x.2.du/\x.2.du<=s.now+60
  rcases List.mem_append.1 (show x∈s.fs++[_] from hx) with h1|h1
  ·exact h.due x h1
  ·obtain rfl:=List.mem_singleton.1 h1
   show s.now<s.now+qb0 k.pr k.st/\s.now+qb0 k.pr k.st<=s.now+60
   omega
 ·intro m hm
  rcases hn m hm with h1|h1
  ·obtain⟨x,hx,e⟩:=h.used m h1
   exact⟨x,List.mem_append.2 (.inl hx),e⟩
  ·exact⟨_,List.mem_append.2 (.inr (List.mem_singleton.2 rfl)),h1.symm▸hmk⟩
 ·show(s.fs++[(s.began+1,_)]).Pairwise _
  rw[List.pairwise_append]
  refine⟨h.apart,by simp,fun x hx y hy=>?_⟩
  obtain rfl:=List.mem_singleton.1 hy
  exact hne x hx
theorem qqq{s:Nt}{P:Fl->Bool}(h:s.find P=none):∀x∈s.fs,P x.2=false:=fun x hx=>by
 have:=List.find?_eq_none.1 h x hx
 simpa using this
theorem Ci.letIn{s:Nt}(h:Ci s){p:Pkt}(hp:0<=p.src/\p.src<=4294967295){m:Mp}(hm:m∈s.ms):Ci (s.letIn p m).2:=by
 unfold Nt.letIn
 cases hf:s.find (qio p m) with
 | some x=>
  have hx:=qjj hf
  exact h.keep hx.1 (qnr _ _ _ _) (qod (h.due x hx.1))
 | none=>
  simp only
  split
  ·exact h
  ·split
   ·exact h
   ·rename_i hu
    (have hfl:s.full=false:=by cases e:s.full with|false=>rfl|true=>rw[e] at hu;simp at hu)
    refine h.add (f':=s.f) (h':=s.h) (ms':=s.ms) h.good hm (fun _ h=>h) (fun _ h=>.inl h) (by unfold Nt.full at hfl;simpa using hfl) hp (fun x hx hh=>?_)
    have:=qqq hf x hx
    unfold qio qey at this
    rw[hh.1,hh.2.1,hh.2.2] at this
    have e1:flM (mkF m p.src p.sport 2)=m:=rfl
    rw[e1] at this
    simp[mkF] at this
theorem qsg{l:List UInt8}(hb:bad l=0):(0<=(qam l).src/\(qam l).src<=4294967295)/\(0<=(qam l).dst/\(qam l).dst<=4294967295):=by
 have hrg:=(qdu _).1 (qde _ (qqk hb)).2.1
 exact⟨⟨hrg.1,hrg.2.1⟩,hrg.2.2.1,hrg.2.2.2.1⟩
theorem Ci.inn{s:Nt}(h:Ci s)(l:List UInt8):Ci (s.inn l).2:=by
 unfold Nt.inn
 split
 ·exact h
 ·rename_i hb
  (have hb0:bad l=0:=by omega)
  (repeat' split)<;>first
   | exact h
   | (rename_i m hm _;exact h.letIn (qsg hb0).1 (List.mem_of_find?_eq_some hm))
theorem Ci.leave{s:Nt}(h:Ci s)(l:List UInt8)(k:Fl):Ci (s.leave l k).2:=by
 unfold Nt.leave
 split
 ·exact h.inn _
 ·exact h
theorem Ci.refuse{s:Nt}(h:Ci s)(l:List UInt8)(why:Int):Ci (s.refuse l why).2:=by
 unfold Nt.refuse
 split
 ·exact h
 ·exact⟨h.good,by show s.left-1<=4;have:=h.left;omega,h.now,h.few,h.rem,h.mem,h.up,h.num,h.due,h.used,h.apart⟩
theorem Ci.log{s:Nt}(h:Ci s)(es:List Ev):Ci (s.log es).2:=by
 unfold Nt.log
 split
 ·exact h
 ·exact⟨h.good,h.left,h.now,h.few,h.rem,h.mem,h.up,h.num,h.due,h.used,h.apart⟩
theorem qsb{f:Nat->Int}{g:Nat->Bool}{h:Nat->Int}{p s d:Int}(he:(qba f g h ms p s i d).e=0):(qba f g h ms p s i d).m.1=p/\(qba f g h ms p s i d).m.2.1=s/\(qba f g h ms p s i d).m.2.2.1=i/\∀m∈(qba f g h ms p s i d).ms,m∈ms\/m=(qba f g h ms p s i d).m:=by
 by_cases hP:qjy f h ms p s i
 rotate_left
 ·(have ho:qba f g h ms p s i d=⟨2,f,h,ms,noM,false⟩:=by unfold qba;rw[if_neg hP])
  rw[ho] at he;simp at he
 cases hf:ms.find? (inS p s i) with
 | some m=>
  refine m8f ?_;intro ho
  have:=(qsm _ _ _ _).1 (List.find?_some hf)
  exact⟨this.1,this.2.1,this.2.2,fun _ h=>.inl h⟩
 | none=>
  by_cases hc:cntM ms s=12
  ·(have ho:qba f g h ms p s i d=⟨6,f,h,ms,noM,false⟩:=by unfold qba;rw[if_pos hP,hf];simp only;rw[if_pos hc])
   rw[ho] at he;simp at he
  ·by_cases hr:(qbe f g h ms p s d).e=0
   rotate_left
   ·(have ho:qba f g h ms p s i d=⟨(qbe f g h ms p s d).e,f,h,ms,noM,false⟩:=by unfold qba;rw[if_pos hP,hf];simp only;rw[if_neg hc,if_pos hr])
    rw[ho] at he;exact absurd he hr
   ·refine m1m ?_;intro ho;rw[ho]
    exact⟨rfl,rfl,rfl,fun m hm=>by simpa using hm⟩
theorem qjg(m:Mp)(x y z:Int):flM (mkF m x y z)=m:=rfl
theorem Ci.first{s:Nt}(h:Ci s)(l:List UInt8){p:Pkt}(hp:0<=p.dst/\p.dst<=4294967295){sub:Int}(hf:s.find (outF p sub)=none)(draw:Int):Ci (s.first l p sub draw).2:=by
 unfold Nt.first
 split
 ·exact h.refuse _ _
 ·rename_i hfull
  (have hlen:s.fs.length<48:=by unfold Nt.full at hfull;simpa using hfull)
  simp only
  split
  ·exact h.refuse _ _
  ·rename_i he
   (have he0:(qba s.f s.g s.h s.ms p.proto sub p.sport draw).e=0:=by omega);obtain⟨G,hm,hs⟩:=qk3 he0;obtain⟨m1,m2,m3,hn⟩:=qsb he0
   generalize qba s.f s.g s.h s.ms p.proto sub p.sport draw=o at *
   have key:Ci ((s.setT o.f o.h o.ms).begin (mkF o.m p.dst p.dport (qao p.proto))):=by
    refine h.add G (by rw[qjg];exact hm) hs (fun m hm'=>by rw[qjg];exact hn m hm') hlen hp (fun x hx hh=>?_)
    have:=qqq hf x hx
    rw[qjg] at hh
    refine m7y ?_;intro e1 e2 e3 e4 e5
    unfold outF at this
    rw[e1,e2,e3,e4,e5] at this
    simp at this
   split
   ·exact(key.leave _ _).log _
   ·exact key.leave _ _
theorem Ci.out{s:Nt}(h:Ci s)(l:List UInt8)(draw:Int):Ci (s.out l draw).2:=by
 unfold Nt.out
 split
 ·exact h
 ·rename_i hb
  (have hb0:bad l=0:=by omega)
  split
  ·exact h
  ·split
   ·exact h
   ·split
    ·exact h
    ·cases hf:s.find (outF (qam l) ((qam l).src-167772161)) with
     | some x=>
      have hx:=qjj hf
      exact(h.keep hx.1 (qnr _ _ _ _) (qod (h.due x hx.1))).leave _ _
     | none=>
      simp only
      split
      ·exact h
      ·exact h.first l (qsg hb0).2 hf draw
theorem qws{a:Nt}{r:List Int}(h:TkOk a (i::r))(es:List Ev)(u:∀m∈a.ms,∃x∈a.fs,flM x.2=m):∀m∈(qeg (es,a) i).2.ms,∃x∈(qeg (es,a) i).2.fs,flM x.2=m:=by
 obtain⟨x,hx,e⟩:=h.there i (List.mem_cons_self)
 subst e
 have huniq:∀y∈a.fs,y.1=x.1->y.2=x.2:=fun y hy e=>by
  exact sZtn102
 have keep:∀m,(∃y∈a.fs,flM y.2=m)->m≠flM x.2->∃y∈(a.less (x.1:Int)).fs,flM y.2=m:=by
  rintro m ⟨y,hy,e⟩ hne
  refine⟨y,List.mem_filter.2 ⟨hy,decide_eq_true (fun e2=>hne ?_)⟩,e⟩
  rw[←e,huniq y hy om]
 rw[qlw es h.up hx];intro m hm
 simp only at hm ⊢
 unfold Nt.closeU at hm ⊢
 cases hf:(a.less (x.1:Int)).find (qf0 (flM x.2)) with
 | some y=>
  rw[hf,if_pos (by rfl)] at hm
  rw[if_pos (by rfl)];have hy:=qjj hf;(have ey:flM y.2=flM x.2:=by have:=hy.2;unfold qf0 at this;simpa using this)
  by_cases e:m=flM x.2
  ·exact⟨y,hy.1,by rw[ey,e]⟩
  ·exact keep m (u m hm) e
 | none=>
  rw[hf,if_neg zm] at hm
  rw[if_neg zm]
  have hm2:m∈a.ms/\m≠flM x.2:=by
   have:m∈qa6 a.ms (flM x.2):=hm
   unfold qa6 at this
   simpa using this
  exact keep m (u m hm2.1) hm2.2
theorem q19{s:Nt}(u:∀m∈s.ms,∃x∈s.fs,flM x.2=m){l:List Int}(h:TkOk s l):∀j,j<=l.length->∀m∈(qbu s (l.take j)).2.ms,∃x∈(qbu s (l.take j)).2.fs,flM x.2=m:=by
 intro j
 induction j with
 | zero=>intro _;rw[List.take_zero];exact u
 | succ j ih=>
  intro hj;have h1:=qng h j om
  rw[List.drop_eq_getElem_cons om] at h1
  rw[List.take_succ_eq_append_getElem om,qgd]
  exact qws h1.ok _ (ih om)
def Nt.later(s:Nt)(n:Int):Nt:={ s with left:=min (s.left+n.toNat) 4,now:=s.now+n }
theorem qsn{s:Nt}(h:Ci s)(n:Int):qiw (s.later n) (s.dueL (s.now+n)) []:=by
 refine m61 ?_;intro hok hok1
 have:=qng hok1 _ (Nat.le_refl _)
 rw[List.take_length,List.drop_length] at this
 exact this
theorem Ci.fold{s:Nt}(h:Ci s){n:Int}(hn:1<=n)(hm:n<=549755813888-s.now):Ci (qbu (s.later n) (s.dueL (s.now+n))).2:=by
 have F:=qsn h n;refine m61 ?_;intro hok hok1;have hu:=q19 (s:=s.later n) h.used hok1 _ (Nat.le_refl _)
 rw[List.take_length] at hu
 obtain⟨r1,r2,r3,r4,r5,r6,r7⟩:=F.rest;(have hfs:(qbu (s.later n) (s.dueL (s.now+n))).2.fs=s.fs.filter fun x=>decide ((x.1:Int) ∉ s.dueL (s.now+n)):=F.fs);(have hsub:∀x∈(qbu (s.later n) (s.dueL (s.now+n))).2.fs,x∈s.fs/\(x.1:Int) ∉ s.dueL (s.now+n):=fun x hx=>by rw[hfs] at hx;simpa using hx)
 refine⟨F.ok.good,?_,?_,?_,fun x hx=>h.rem x (hsub x hx).1,F.ok.mem,F.ok.up,fun x hx=>?_,fun x hx=>?_,hu,?_⟩
 ·rw[r2];show min (s.left+n.toNat) 4<=4;omega
 ·rw[r1];have:=h.now;show 0<=s.now+n/\s.now+n<=549755813888;omega
 ·have h1:=F.len;have h2:=h.few;have h3:(s.later n).fs.length=s.fs.length:=rfl
  omega
 ·rw[r4];exact h.num x (hsub x hx).1
 ·obtain⟨hx1,hx2⟩:=hsub x hx;rw[r1]
  show s.now+n<x.2.du/\x.2.du<=s.now+n+60
  have hd:=h.due x hx1
  refine⟨?_,by omega⟩
  rw[qvn h.up] at hx2
  (have h3:duF s.fs (x.1:Int)=some x.2.du:=by rw[qle,qf6 h.up hx1];rfl)
  by_cases hle:x.2.du<=s.now+n
  ·exact absurd ⟨_,h3,hle⟩ hx2
  ·omega
 ·rw[hfs];exact h.apart.filter _
theorem Ci.tick{s:Nt}(h:Ci s)(n:Int):Ci (s.tick n).2:=by
 unfold Nt.tick
 split
 ·exact h
 ·exact(h.fold (n:=n) om om).log _
theorem Ci.drain{s:Nt}(h:Ci s)(a:Int)(b:Bool):Ci (s.drain a b).2:=⟨h.good,h.left,h.now,h.few,h.rem,h.mem,h.up,h.num,h.due,h.used,h.apart⟩
theorem Ci.acts{s:Nt}(h:Ci s)(k:Nat):Ci { s with acts:=k }:=⟨h.good,h.left,h.now,h.few,h.rem,h.mem,h.up,h.num,h.due,h.used,h.apart⟩
theorem Ci.act{s:Nt}(h:Ci s)(a:Ac):Ci (s.act a).2:=by
 unfold Nt.act
 split
 ·exact h
 ·have h1:=h.acts (s.acts+1)
  simp only
  split
  ·exact h1.out _ _
  ·split
   ·exact h1.inn _
   ·split
    ·exact h1.tick _
    ·split
     ·exact h1.drain _ _
     ·split
      ·exact h1.drain _ _
      ·exact h1
structure Cn(s t:Nt)(b g:Nat):Prop where
 acts:t.acts=s.acts
 began:s.began<=t.began/\t.began<=s.began+b
 logged:s.logged<=t.logged/\t.logged<=s.logged+g
theorem Cn.refl(s:Nt)(b g:Nat):Cn s s b g:=⟨rfl,⟨Nat.le_refl _,by omega⟩,⟨Nat.le_refl _,by omega⟩⟩
theorem Cn.trans{s t u:Nt}(h:Cn s t b g)(k:Cn t u b' g'):Cn s u (b+b') (g+g'):=by
 obtain⟨h1,h2,h3⟩:=h;obtain⟨k1,k2,k3⟩:=k
 exact⟨k1.trans h1,by omega,by omega⟩
theorem q4r(s:Nt)(p:Pkt)(m:Mp):Cn s (s.letIn p m).2 1 0:=by
 unfold Nt.letIn Nt.keep Nt.begin
 (repeat' split)<;>exact⟨rfl,by simp only;omega,by simp only;omega⟩
theorem q37(s:Nt)(l:List UInt8):Cn s (s.inn l).2 1 0:=by
 unfold Nt.inn
 (repeat' split)<;>first|exact Cn.refl _ _ _|exact q4r _ _ _
theorem qvp(s:Nt)(l:List UInt8)(k:Fl):Cn s (s.leave l k).2 1 0:=by
 unfold Nt.leave
 split
 ·exact q37 _ _
 ·exact Cn.refl _ _ _
theorem sZtn104(h:p:=by
 split
 ·exact Cn.refl _ _ _
 ·exact⟨rfl,by simp only;omega,by simp only;omega⟩):p:=h
theorem qs9(s:Nt)(l:List UInt8)(why:Int):Cn s (s.refuse l why).2 0 0:=by
 unfold Nt.refuse
 exact sZtn104
theorem q4g(s:Nt)(es:List Ev):Cn s (s.log es).2 0 es.length:=by
 unfold Nt.log
 exact sZtn104
theorem Cn.mono{s t:Nt}(h:Cn s t b g)(hb:b<=b')(hg:g<=g'):Cn s t b' g':=⟨h.acts,by have:=h.began;omega,by have:=h.logged;omega⟩
theorem q5p(s:Nt)(l:List UInt8)(p:Pkt)(sub draw:Int):Cn s (s.first l p sub draw).2 2 1:=by
 unfold Nt.first
 split
 ·exact(qs9 _ _ _).mono om om
 ·simp only
  split
  ·exact(qs9 _ _ _).mono om om
  ·generalize qba s.f s.g s.h s.ms p.proto sub p.sport draw=o
   (have h1:Cn s ((s.setT o.f o.h o.ms).begin (mkF o.m p.dst p.dport (qao p.proto))) 1 0:=⟨rfl,by show s.began<=s.began+1/\s.began+1<=s.began+1;omega,by show s.logged<=s.logged/\s.logged<=s.logged+0;omega⟩);have h2:=h1.trans (qvp _ l (mkF o.m p.dst p.dport (qao p.proto)))
   split
   ·exact(h2.trans (q4g _ _)).mono om zm
   ·exact h2.mono om om
theorem q98(s:Nt)(l:List UInt8)(draw:Int):Cn s (s.out l draw).2 2 1:=by
 unfold Nt.out
 split
 ·exact Cn.refl _ _ _
 ·split
  ·exact Cn.refl _ _ _
  ·split
   ·exact Cn.refl _ _ _
   ·split
    ·exact Cn.refl _ _ _
    ·cases hf:s.find (outF (qam l) ((qam l).src-167772161)) with
     | some x=>
      (have h1:Cn s (s.keep x.1 (qcu x.2 (qam l).flags false s.now)) 0 0:=⟨rfl,by show s.began<=s.began/\s.began<=s.began+0;omega,by show s.logged<=s.logged/\s.logged<=s.logged+0;omega⟩)
      exact(h1.trans (qvp _ _ _)).mono om om
     | none=>
      simp only
      split
      ·exact Cn.refl _ _ _
      ·exact q5p _ _ _ _ _
theorem q8m{s:Nt}(h:Ci s)(n:Int):Cn s (s.tick n).2 0 48:=by
 unfold Nt.tick
 split
 ·exact Cn.refl _ _ _
 ·have F:=qsn h n;obtain⟨r1,r2,r3,r4,r5,r6,r7⟩:=F.rest;have hlen:=F.len;have hes:=F.es;have hfew:=h.few;have h3:(s.later n).fs.length=s.fs.length:=rfl;(have h1:Cn s (qbu (s.later n) (s.dueL (s.now+n))).2 0 0:=⟨r5,by rw[r4];show s.began<=s.began/\s.began<=s.began+0;omega,by rw[r3];show s.logged<=s.logged/\s.logged<=s.logged+0;omega⟩)
  exact(h1.trans (q4g _ _)).mono om (by show 0+(qbu (s.later n) (s.dueL (s.now+n))).1.length<=48;omega)
theorem q9x{s:Nt}(h:Ci s)(a:Ac)(ha:s.acts<300):Cn { s with acts:=s.acts+1 } (s.act a).2 2 48:=by
 unfold Nt.act
 rw[if_neg om];have h1:=h.acts (s.acts+1)
 simp only
 split
 ·exact(q98 _ _ _).mono om om
 ·split
  ·exact(q37 _ _).mono om om
  ·split
   ·exact(q8m h1 _).mono om om
   ·split
    ·exact⟨rfl,by simp only[Nt.drain];omega,by simp only[Nt.drain];omega⟩
    ·split
     ·exact⟨rfl,by simp only[Nt.drain];omega,by simp only[Nt.drain];omega⟩
     ·exact Cn.refl _ _ _
structure NInv(s:Nt)(k:Nat):Prop where
 ci:Ci s
 acts:s.acts=k
 logged:s.logged<=64*k
 began:s.began<=2*k
theorem NInv.ok{s:Nt}{k:Nat}(h:NInv s k)(hk:k<=300):NOk s:=⟨h.ci.good,by rw[h.acts];exact hk,h.ci.left,by rw[h.acts];exact h.logged,h.ci.now,h.ci.few,by rw[h.acts];exact h.began,h.ci.rem,h.ci.mem⟩
theorem NInv.act{s:Nt}{k:Nat}(h:NInv s k)(hk:k<300)(a:Ac):NInv (s.act a).2 (k+1):=by
 have c:=q9x h.ci a (by rw[h.acts];exact hk);have h1:(s.act a).2.acts=s.acts+1:=c.acts;have h2:(s.act a).2.began<=s.began+2:=c.began.2;have h3:(s.act a).2.logged<=s.logged+48:=c.logged.2
 have:=h.acts
 have:=h.logged
 have:=h.began
 exact⟨h.ci.act a,by omega,by omega,by omega⟩
theorem q7g:qbq (fun _=>0) (fun _=>0) []:=⟨by decide,qvg _ _,fun k hk h=>absurd rfl h,fun s hs h=>absurd rfl h,fun s hs=>by
 constructor
 ·have:qbk (fun _=>0) (s:Int)=[]:=by
   unfold qbk
   rw[List.filter_eq_nil_iff];intro k hk
   simp
   omega
  rw[this];simp
 ·simp[cntM]⟩
theorem NInv.new(loose:Bool):NInv (nt0 loose) 0:=by
 (have no:∀x:Nat×Fl,¬x∈(nt0 loose).fs:=fun x hx=>by simp[nt0] at hx)
 refine⟨⟨q7g,?_,?_,?_,fun x hx=>absurd hx (no x),fun x hx=>absurd hx (no x),List.Pairwise.nil,fun x hx=>absurd hx (no x),fun x hx=>absurd hx (no x),fun m hm=>by simp[nt0] at hm,List.Pairwise.nil⟩,rfl,?_,?_⟩
 ·show(4:Nat)<=4;omega
 ·show(0:Int)<=0/\(0:Int)<=549755813888;omega
 ·show(0:Nat)<=48;omega
 ·show(0:Nat)<=64*0;omega
 ·show(0:Nat)<=2*0;omega
def natA(loose:Bool):Array Value:=#[.bool loose,I Z 0,I Z 4,I Z 0]
def natB:Array Value:=#[.map none,.slice none 0 0,I Z 0,I Z 0,.map none]
def qj2(loose:Bool):Array Value:=natA loose++tz++natB
def qd2(loose:Bool):Array Value:=qj2 loose++((List.range 448).map fun _=>Value.slice none 0 0).toArray
theorem qj5:tz.size=30:=qcr _ _ _ _
theorem qf9(loose:Bool):(natA loose).size=4:=rfl
theorem q3w:natB.size=5:=rfl
theorem qj0(loose:Bool):(qj2 loose).size=39:=by unfold qj2;rw[Array.size_append,Array.size_append,qf9,q3w,qj5]
theorem qq3(loose:Bool):(qd2 loose).size=487:=by unfold qd2;rw[Array.size_append,qj0];simp
theorem qoi(loose:Bool)(i:Nat)(h:i<39):(qd2 loose)[i]?=(qj2 loose)[i]?:=by unfold qd2;rw[Array.getElem?_append_left (by rw[qj0];exact h)]
theorem qz2(loose:Bool)(k:Nat)(h:k<448):(qd2 loose)[39+k]?=some (.slice none 0 0):=by
 unfold qd2
 rw[Array.getElem?_append_right (by rw[qj0];omega),qj0,Nat.add_sub_cancel_left]
 simp[h]
theorem qpf(loose:Bool)(k:Nat)(h:k<4):(qd2 loose)[k]?=(natA loose)[k]?:=by
 rw[qoi _ _ om]
 unfold qj2
 rw[Array.getElem?_append_left (by rw[Array.size_append,qf9,qj5];omega),Array.getElem?_append_left (by rw[qf9];exact h)]
theorem qmv(loose:Bool)(k:Nat)(h:k<5):(qd2 loose)[34+k]?=natB[k]?:=by
 rw[qoi _ _ om]
 unfold qj2
 rw[Array.getElem?_append_right (by rw[Array.size_append,qf9,qj5];omega),Array.size_append,qf9,qj5,Nat.add_sub_cancel_left]
theorem qxa(loose:Bool)(k:Nat)(h:k<30):(qd2 loose)[4+k]?=tz[k]?:=by
 rw[qoi _ _ om]
 unfold qj2
 rw[Array.getElem?_append_left (by rw[Array.size_append,qf9,qj5];omega),Array.getElem?_append_right (by rw[qf9];omega),qf9,Nat.add_sub_cancel_left]
theorem q1t(loose:Bool):prog.built 93 [(0,.bool loose),(2,I Z 4)]=some (qd2 loose):=by kernel_rfl
theorem qyz(R:Row 93 w b (qd2 loose)):qca w b 93 (qd2 loose) 37 0 (fun _=>none) 0 (fun c=>c=b):=by
 refine⟨none,.map [],fun _=>.slice none 0 0,fun _=>[],⟨R,by rw[qq3];omega,qmv loose 3 om,qmv loose 4 om,fun k hk=>by rw[show 37+2+k=39+k by omega];exact qz2 _ k hk,fun k hk=>World.ownsRow_nil _ _ _ _,fun _ _ _=>rfl,fun j k c _ _ hc=>by simp[Value.ownBlock] at hc,fun k hk hc=>by simp[Value.ownBlock] at hc,.inl ⟨rfl,rfl⟩⟩,q2f,⟨by omega,fun _ _ h=>(by cases h),fun _=>List.nodup_nil,fun k i=>zm⟩,fun _ _ h=>(by cases h),?_,rfl,by omega,fun c hc=>?_⟩
 ·have:∀n,sumR n (fun _=>[])=0:=fun n=>by induction n with|zero=>rfl|succ n ih=>rw[qib,ih];rfl
  exact this 448
 ·rcases hc with rfl|hc|⟨k,hk,hc⟩
  ·rfl
  ·cases hc
  ·simp[Value.ownBlock] at hc
theorem q72(R:Row 93 w b (qd2 loose)):qaw w b (nt0 loose) (duF (nt0 loose).fs) (fun c=>c=b):=by
 refine⟨qd2 loose,.slice none 0 0,.slice none 0 0,none,.map [],fun c=>c=b,0,⟨?_,qq3 _,qpf loose 0 om,qpf loose 1 om,qpf loose 2 om,qpf loose 3 om,fun k hk=>?_,qmv loose 0 om,qmv loose 1 om,qmv loose 2 om,qaz.nil w,(fun n c h=>by cases h;rfl),World.ownsRow_nil _ _ _ _,.inl ⟨rfl,rfl⟩,qyy,rfl,Nat.le_refl _,(fun c hc=>by cases hc),(fun c hc=>by simp[Value.ownBlock] at hc),fun h0=>absurd h0 (by simp[nt0]),List.Pairwise.nil,fun x hx=>by simp[nt0] at hx,by show(0:Nat)<=700;omega⟩,fun c hc=>?_⟩
 ·exact qyz R
 ·exact qxa loose k hk
 ·rcases hc with h1|h1|h1|⟨h1,_⟩
  ·exact h1
  ·cases h1
  ·simp[Value.ownBlock] at h1
  ·simp[nt0] at h1
theorem qt7(hgd:o.guard=none)(x:Operand)(ho:o.op=.build 93 #[(0,x),(2,.const (I Z 4))])(loose:Bool)(hx:a.eval x=.bool loose)(hr:wpList prog ops Q rest (a.put o.dst (.agg (qd2 loose))) w):wpList prog ops Q (o::rest) a w:=
 wpList_plain hgd fun K hK=>by
  have hz:a.eval (.const (I Z 4))=I Z 4:=rfl;have hb:=run_build (P:=prog) w 93 #[(0,.bool loose),(2,I Z 4)] _ (q1t loose)
  unfold Oper.wp execOp
  simp only[ho,List.map_toArray,List.map_cons,List.map_nil,hx,hz,Sem.run_bind,hb,Result.andThen_ok,Sem.run_pure]
  exact hK _ _ hr
theorem qu0(loose:Bool)(w:World):Calls prog 51 #[.bool loose] w fun e w'=>∃b,e=.returned (V (some ⟨b,0,none⟩))/\w.heap.size<=b/\qaw w' b (nt0 loose) (duF (nt0 loose).fs) (fun c=>c=b)/\Below w.heap.size w w':=by
 go_enter func51,ntmps51
 go_wp2_with (first|((with_reducible refine qaa (.build 93 #[(0,.tmp 3),(2,.const (I Z 4))]) rfl ?_);refine qt7 rfl (.tmp 3) rfl loose rfl ?_)|((with_reducible refine gB 93 4 ?_);refine bx 93 (.tmp 4) (qd2 loose) ?_;intro b5 w9 l9 R9 h9))
 go_ret
 exact⟨b5,rfl,l9,q72 R9,h9⟩
theorem qqc(a:Option Addr)(n c:Nat)(w:World):(binOp .eql 37 (.slice a n c) (.slice none 0 0)).run prog w=.ok (.bool a.isNone) w:=Lib.run_eql_slice_nil w _ _ a n c 0 0 underlying37
theorem q4l(w:World):(Instr.buildSlice 37 0 #[]).run prog w=.ok (.slice (some ⟨w.heap.size,0,none⟩) 0 0) (w.alloc (.cells #[] 50)):=by kernel_rfl
theorem qvv(hgd:o.guard=none)(ho:o.op=.buildSlice 37 0 #[])(hr:∀b w',w.heap.size<=b->w'.ownsRow w.heap.size 50 5 (.slice (some ⟨b,0,none⟩) 0 0) 0 []->Below w.heap.size w w'->wpList prog ops Q rest (a.put o.dst (.slice (some ⟨b,0,none⟩) 0 0)) w'):wpList prog ops Q (o::rest) a w:=
 wpList_plain hgd fun K hK=>by
  (have h':=hr w.heap.size (w.alloc (.cells #[] 50)) (Nat.le_refl _) ⟨by simp,.inr ⟨w.heap.size,0,#[],rfl,Nat.le_refl _,Row.new 50 w #[],Nat.le_refl _,by unfold maxLen;omega,by simp,by simp⟩⟩ ((Below.refl _ _).alloc (Nat.le_refl _) _))
  unfold Oper.wp execOp
  simp only[ho,List.map_toArray,List.map_nil,Sem.run_bind,q4l,Result.andThen_ok,Sem.run_pure]
  exact hK _ _ h'
theorem qy5(hM:qaz w v ms)(hno:qcs v)(hl:ms.length<=1000):Calls prog 61 #[v] w fun e w'=>∃sa c,e=.returned (.slice sa ms.length c)/\qaz w' (.slice sa ms.length c) ms/\qcs (.slice sa ms.length c)/\(0<ms.length->w.heap.size<=mb (.slice sa ms.length c))/\Below w.heap.size w w':=by
 obtain⟨i0,hi,hz0,hz1,hz2⟩:=info_parts qnm;have hM0:=hM
 obtain⟨a0,cap,hsl,ha0,-⟩:=hM0
 have hlt:=hM.lt
 have HF:Hid (∀(v':Value) (w':World),w'.ownsRow w.heap.size 50 5 v' ms.length (flat ms)->Below w.heap.size w w'->∃sa c,Ending.returned v'=.returned (.slice sa ms.length c)/\qaz w' (.slice sa ms.length c) ms/\qcs (.slice sa ms.length c)/\(0<ms.length->w.heap.size<=mb (.slice sa ms.length c))/\Below w.heap.size w w'):=hidN (fun v' w' ho hb=>by
  obtain⟨m1,m2,m3⟩:=qqm ho om
  obtain⟨sa,c,hv,-⟩:=id m1
  subst hv
  exact⟨sa,c,rfl,m1,m2,m3,hb⟩)
 obtain⟨n,hn⟩:∃n,n=ms.length:=⟨_,rfl⟩
 have HN:Hid (n=ms.length):=hn;have HL:Hid (ms.length<=1000):=hl
 rw[←hn] at hsl
 (have hq:=fun a c w=>qqc a n c w)
 cases a0 with
 | none=>
  have h0:ms=[]:=by
   cases ms with
   | nil=>rfl
   | cons m r=>have:=ha0 zm;cases this
  subst h0
  obtain rfl:n=0:=hn
  subst hsl
  (have hq2:=fun w=>qqc none 0 cap w);clear ha0 hlt hl hno HF HN HL hi hz0 hz1 hz2 hq hM
  go_enter func61,ntmps61
  go_wp2
  go_ret
  exact⟨none,0,rfl,qaz.nil _,fun n c h=>by cases h;rfl,fun h=>absurd h zm,Below.refl _ _⟩
 | some ad=>
  have src:∀ {W:World},Below w.heap.size w W->∀k u,(flat ms)[k]?=some u->W.cell? (ad.add k)=some u:=by
   intro W hb k u hu;refine m76 ?_;intro hk;have had:ad=⟨mb v,mo v,none⟩:=Option.some.inj (ha0 om);rw[had,Addr.add_lit]
   refine qrv (fun j hj=>?_) k u hu
   exact(hM.keep hb hlt).at j hj rfl
  subst hsl
  (have hq2:=fun w=>qqc (some ad) n cap w);clear ha0 hno hn hq hl
  go_enter func61,ntmps61
  go_wp2_with (first|((with_reducible refine qaa (.buildSlice 37 0 #[]) rfl ?_);refine qvv rfl rfl ?_;intro b5 w5 l5 ho5 hb5)|((with_reducible refine qaa (.call { callee:=.builtin .append,args:=#[.tmp 5,.tmp 6],argTypes:=#[37,37] }) rfl ?_);refine m33 ?_;intro v2 w2 hown2 hg2 hn2;clear hn2;simp only[Nat.zero_add,List.nil_append] at hown2;rw[HN.out] at hown2;refine m8c ?_;clear hg2;intro hg2))
  go_ret
  exact HF.out _ _ hown2 hg2
theorem qfa{s:Nt}(h:qaw w b s tm F)(hl:s.ms.length<=1000):Calls prog 21 #[V (some ⟨b,0,none⟩)] w fun e w'=>∃sa c,e=.returned (.agg (tc s.f s.g s.h (.slice sa s.ms.length c)))/\qaz w' (.slice sa s.ms.length c) s.ms/\qcs (.slice sa s.ms.length c)/\(0<s.ms.length->w.heap.size<=mb (.slice sa s.ms.length c))/\Below w.heap.size w w':=by
 obtain⟨v0,hr0,hM0,hN0,-⟩:=h.table
 obtain⟨a0,cap,hsl,-⟩:=id hM0
 obtain⟨n,hn⟩:∃n,n=s.ms.length:=⟨_,rfl⟩
 (have CC:=fun W (hM:qaz W v0 s.ms)=>qy5 hM hN0 hl)
 rw[←hn] at hsl
 simp only[←hn] at CC
 subst hsl
 have HR:Hid (∀W,Below w.heap.size w W->W.rangeAt b 4 (tc s.f s.g s.h (.slice a0 n cap)).toList):=hidN (fun W hb i u hu=>by
  have h1:=hr0 i u hu;have h2:=World.block_lt_of_cell? w _ h1
  exact(hb.cell (p:=⟨b,4+i,none⟩) h2).trans h1)
 have HN:Hid (n=s.ms.length):=hn;have B:=Bd.start w;(have hq:=fun w=>qpc b w);rw[←hn];clear hr0 hN0 hl h hn
 go_enter func21,ntmps21
 go_wp2_with (first|((with_reducible refine gA 39 ?_);refine ax 2 39 qbp ?_;intro b2 w9 l9 R9 h9;replace B:=B.alloc l9 R9 h9;clear R9 h9 l9)|((with_reducible refine gL 39 9 ?_);refine m6o ?_;refine m2h ?_)|((with_reducible refine gA 39 ?_);refine ax 3 39 qbp ?_;intro b3 w9 l9 R9 h9;replace B:=B.alloc l9 R9 h9;clear R9 h9 l9)|((with_reducible refine gS 39 3 10 ?_);refine sx 39 (.tmp 3) _ (tc s.f s.g s.h (.slice a0 n cap)) (B.row 0 rfl) ?_;refine m31 ?_;clear B;intro w9 B;have cM:World.cell? _ ⟨b3,29,none⟩=some (.slice a0 n cap):=((B.row 0 rfl).cell 29).trans (qdw _ _ _ _))|(go_at_call 61;go_fit (CC _ (hM0.below B.base));rintro e w5 ⟨sa,c,rfl,hM5,hN5,hl5,hb5⟩;refine m92 ?_;clear B;intro HG5 B;clear cM hl5 hM5 CC hb5)|((with_reducible refine gS 37 14 13 ?_);refine m8z ?_;refine m31 ?_;clear B;intro w9 B)|((with_reducible refine gL 39 3 ?_);refine lx 39 (.tmp 3) (tc s.f s.g s.h (.slice sa n c)) (B.row 0 rfl) ?_)|((with_reducible refine gS 39 2 15 ?_);refine sx 39 (.tmp 2) _ (tc s.f s.g s.h (.slice sa n c)) (B.row 1 rfl) ?_;intro w9 R9 t9;replace B:=B.turn 1 rfl R9 t9;clear R9 t9))
 (refine m03 ?_;refine bodyPost_ret (qai (p:=2) rfl _ _ _ _ rfl (B.row 1 rfl) _ underlying39 rfl (qaq _ _ _ _)) rfl ⟨sa,c,rfl,B.map 0 rfl,hN5,fun h0=>HG5.out (HN.out▸h0),B.base⟩)
def FlO(w:World)(base:Nat)(v:Value)(ks:List Fl):Prop:=w.ownsRow base 52 10 v ks.length (ks.flatMap fun k=>(fc k).toList)
theorem FlO.nil(w:World)(base:Nat):FlO w base (.slice none 0 0) []:=World.ownsRow_nil w base 52 10
theorem FlO.keep(h:FlO w base v ks)(hk:∀g,v.ownBlock=some g->w'.heap[g]?=w.heap[g]?):FlO w' base v ks:=qfc h hk
theorem FlO.ge(h:FlO w base v ks):∀k,v.ownBlock=some k->base<=k/\k<w.heap.size:=fun k hk=>World.ownsRow.lt h k hk
theorem FlO.below(h:FlO w base v ks)(hb:Below w.heap.size w w'):FlO w' base v ks:=h.keep (fun g hg=>hb.block g (h.ge g hg).2)
theorem sZtn103(h:p:=by
 rcases h.2 with⟨e,n0⟩|⟨b,cap,cur,hv,_⟩
 ·exact⟨none,0,by rw[e,n0]⟩
 ·exact⟨_,_,hv⟩):p:=h
theorem FlO.slice(h:FlO w base v ks):∃a cap,v=.slice a ks.length cap:=by
 exact sZtn103
theorem qzr:(prog.info? 52).map (fun i=>(i.zero,i.size,i.bytes))=some (some (.agg (fc fl0)),10,80):=by kernel_rfl
theorem qz8(ks:List Fl)(k:Fl):(ks++[k]).flatMap (fun k=>(fc k).toList)=ks.flatMap (fun k=>(fc k).toList)++(fc k).toList:=by rw[List.flatMap_append];simp
theorem q3u(h:FlO w base v ks)(R:Row 52 w b (fc k))(hl:ks.length<=5000000)(hbase:base<=w.heap.size)(ty:TypeId):
  ∃v' w',(Builtin.append_ #[41,41] ty #[v,.slice (some ⟨b,0,none⟩) 1 1]).run prog w=.ok v' w'/\FlO w' base v' (ks++[k])/\Grew v v' w w':=by
 obtain⟨i0,hi,hz0,hz1,hz2⟩:=info_parts qzr
 obtain⟨v',w',h1,h2,h3,_,h5⟩:=run_append_own_at (P:=prog) w base 41 ty 52 i0 (.agg (fc fl0)) 10 80 underlying41 hi hz0 hz1 hz2 rfl (by decide) v ks.length (ks.flatMap fun k=>(fc k).toList) h ⟨b,0,none⟩ 1 1 (fc k).toList rfl
  (fun j u hu=>by rw[Addr.add_lit,Nat.zero_add];exact(R.cell j).trans (by simpa using hu)) (fun u hu=>(Array.all_eq_true_iff_forall_mem.1 (qa5 k)) u (by simpa using hu)) (by unfold maxLen;omega) om hbase
 refine⟨v',w',h1,?_,⟨h3,?_⟩⟩
 ·unfold FlO;rw[qz8,List.length_append];exact h2
 ·rcases h5 with e|e
  ·exact .inl e
  ·exact .inr ⟨_,e,Nat.le_refl _⟩
theorem q2k(k:Fl)(w:World):(Instr.buildSlice 41 1 #[(0,.agg (fc k))]).run prog w=.ok (.slice (some ⟨w.heap.size,0,none⟩) 1 1) (w.alloc (.cells (fc k) 52)):=by
 obtain⟨a,b,c,d,e,f,g,h,i,j⟩:=k
 kernel_rfl
theorem qv2(hgd:o.guard=none)(x:Operand)(ho:o.op=.buildSlice 41 1 #[(0,x)])(k:Fl)(hx:a.eval x=.agg (fc k))(hr:∀b w',w.heap.size<=b->Row 52 w' b (fc k)->Below w.heap.size w w'->wpList prog ops Q rest (a.put o.dst (.slice (some ⟨b,0,none⟩) 1 1)) w'):wpList prog ops Q (o::rest) a w:=
 wpList_plain hgd fun K hK=>by
  have h':=hr w.heap.size (w.alloc (.cells (fc k) 52)) (Nat.le_refl _) (Row.new _ w _) ((Below.refl _ _).alloc (Nat.le_refl _) _)
  unfold Oper.wp execOp
  simp only[ho,List.map_toArray,List.map_cons,List.map_nil,hx,Sem.run_bind,q2k,Result.andThen_ok,Sem.run_pure]
  exact hK _ _ h'
theorem sZtn101(h:p:=by
 unfold Oper.wp execOp
 simp only[ho,resolve,invoke,builtin,Sem.run_bind,Sem.run_pure,Result.andThen_ok,List.map_toArray,List.map_cons,List.map_nil,hs,hx,h1]
 exact hK _ _ (hr v' w' h2 h3)):p:=h
theorem qun(hgd:o.guard=none)(s x:Operand)(ho:o.op=.call { callee:=.builtin .append,args:=#[s,x],argTypes:=#[41,41] })(h:FlO w base v ks)(R:Row 52 w b (fc k))(hs:a.eval s=v)(hx:a.eval x=.slice (some ⟨b,0,none⟩) 1 1)(hl:ks.length<=5000000)(hbase:base<=w.heap.size)(hr:∀v' w',FlO w' base v' (ks++[k])->Grew v v' w w'->wpList prog ops Q rest (a.put o.dst v') w'):wpList prog ops Q (o::rest) a w:=
 wpList_plain hgd fun K hK=>by
  obtain⟨v',w',h1,h2,h3⟩:=q3u h R hl hbase o.type
  exact sZtn101
theorem qz1{w0:World}{v':Value}(hb:Below w0.heap.size w0 w)(hg:Grew v v' w w')(hv:∀k,v.ownBlock=some k->w0.heap.size<=k):Below w0.heap.size w0 w':=
 hb.trans ⟨hg.by'.os,hg.by'.tape,hg.by'.output,hg.by'.size,fun k hk=>hg.by'.block k (Nat.lt_of_lt_of_le hk hb.size) (fun e=>by have:=hv k e.symm;omega)⟩
theorem qhb{s:Nt}(h:qaw w b s tm F):Calls prog 22 #[V (some ⟨b,0,none⟩)] w fun e w'=>∃v,e=.returned v/\FlO w' w.heap.size v (s.fs.map (·.2))/\Below w.heap.size w w':=by
 obtain⟨cs,v,ov,fm,D,Fw,cnt,M0,hF⟩:=h;obtain⟨sa,kp,hov⟩:=qeh M0.ids
 obtain⟨n,hn⟩:∃n,n=s.fs.length:=⟨_,rfl⟩
 (have hlm:(s.fs.map fun x=>(x.1:Int)).length=n:=by simp[hn])
 rw[hlm] at hov
 subst hov
 have HN:Hid (n=s.fs.length):=hn;have HB:Hid (n<=702):=hidN (by have:=qkd M0;omega);have c35:=(M0.cell 35).trans M0.c35;(have hq:=fun w=>qpc b w);clear hn hlm
 go_enter func22,ntmps22
 go_wp2_with ((with_reducible refine gL 86 10 ?_);refine qn5 rfl (.tmp 10) rfl b 35 rfl (.slice sa n kp) c35 ?_)
 go_loopw [3,13] (fun fv i W=>∃j:Nat,j<=n/\i=I Z (j:Int)/\FlO W w.heap.size fv ((s.fs.take j).map (·.2))/\Below w.heap.size w W) (fun _ i _=>n-(intOf i).toNat)
 case atStart=>exact⟨0,Nat.zero_le _,rfl,FlO.nil _ _,Below.refl _ _⟩
 case round=>
  obtain⟨j,hj,rfl,hFl,hb⟩:=hrel
  by_cases hlt:j<n
  ·(have hjl:j<s.fs.length:=by have:=HN.out;omega);(have hji:(j:Int)<(n:Int):=by omega);have HM:=qha hlt;have hjw:=qhl (p:=j) (by have:=HB.out;omega);have M:=M0.below hb;have hx:s.fs[j]∈s.fs:=List.getElem_mem hjl;obtain⟨g,kp',hsh,hcx⟩:=qo4 M.ids (j:=j) (by simpa using hjl)
   obtain⟨rfl,-⟩:sa=some ⟨g,0,none⟩/\_:=by simpa using hsh
   rw[List.getElem_map] at hcx
   have LK:=M.look_at hx;have c34:=(M.cell 34).trans M.c34;(have hst:(s.fs.take (j+1)).map (·.2)=(s.fs.take j).map (·.2)++[s.fs[j].2]:=by rw[List.take_succ_eq_append_getElem hjl,List.map_append];rfl);(have hix:=fun w=>ixI g n kp j hlt w)
   generalize s.fs[j]=x at *
   have HST:Hid _:=hidN hst;have HFL:Hid (((s.fs.take j).map (·.2)).length<=5000000):=hidN (by rw[List.length_map,List.length_take];have:=HB.out;omega)
   generalize(s.fs.take j).map (·.2)=ks at *
   clear hst hsh hx hjl
   go_wp2_with (first|((with_reducible refine qaa (.lookup 85 (.tmp 21) (.tmp 22) false) rfl ?_);refine m0s ?_)|((with_reducible refine qaa (.buildSlice 41 1 #[(0,.tmp 23)]) rfl ?_);refine qv2 rfl (.tmp 23) rfl x.2 rfl ?_;intro b24 w9 l9 R9 h9;replace hFl:=hFl.below h9;replace hb:=hb.trans (h9.mono hb.size);clear LK c34 hcx M)|((with_reducible refine qaa (.call { callee:=.builtin .append,args:=#[.tmp 17,.tmp 24],argTypes:=#[41,41] }) rfl ?_);refine qun rfl (.tmp 17) (.tmp 24) rfl hFl R9 rfl rfl HFL.out hb.size ?_;intro fv9 w8 ho8 hg8;replace hb:=qz1 hb hg8 (fun k hk=>(hFl.ge k hk).1);replace hFl:=ho8;clear ho8 hg8 R9))
   go_roundw
   case rel=>
    have T9:=HST.out▸hFl
    first
     | exact⟨j+1,by omega,by go_num,T9,hb⟩
     | ((repeat apply Exists.intro);exact⟨⟨j+1,by omega,by go_num,T9,hb⟩,rfl⟩)
   case measure=>first|exact HM.out|(rw[hjw];exact HM.out)
  ·(have hji:¬(j:Int)<(n:Int):=by omega)
   obtain rfl:j=n:=by omega
   have e:s.fs.take j=s.fs:=List.take_of_length_le (by have:=HN.out;omega)
   rw[e] at hFl
   clear e hj hlt
   go_wp2
   go_ret
   exact⟨_,rfl,hFl,hb⟩
def pA:Pkt:=⟨17,167772161,5,9,6,9,0,0,0,0,0,ByteArray.empty⟩
theorem qla:good pA=0:=by decide
theorem qvs:built pA=txt (frame pA):=by unfold built;rw[if_pos qla]
def qhj:qzo:=qbe (fun _=>0) (fun _=>false) (fun _=>0) [] 17 0 0
theorem q7p:qhj.e=0:=by kernel_rfl
theorem q0f:qhj.took=true:=by kernel_rfl
theorem q9e:qhj.q=1024:=by kernel_rfl
theorem q8t:qhj.h 0=1:=by kernel_rfl
theorem qavb:qba (fun _=>0) (fun _=>false) (fun _=>0) [] 17 0 5 0=⟨0,qhj.f,qhj.h,[(17,0,5,0,1024)],(17,0,5,0,1024),true⟩:=by
 (have hP:qjy (fun _=>0) (fun _=>0) [] 17 0 5:=⟨q7g,by decide,by omega,by omega,by omega⟩)
 unfold qba
 rw[if_pos hP]
 simp only[List.find?_nil]
 rw[if_neg (by simp[cntM]),if_neg (fun h=>h q7p)]
 (have e1:(qbe (fun _=>0) (fun _=>false) (fun _=>0) [] 17 0 0).h (Int.toNat 0)-1=0:=by show qhj.h 0-1=0;rw[q8t];rfl);have e2:(qbe (fun _=>0) (fun _=>false) (fun _=>0) [] 17 0 0).q=1024:=q9e;have e3:(qbe (fun _=>0) (fun _=>false) (fun _=>0) [] 17 0 0).took=true:=q0f;rw[e1,e2,e3]
 rfl
def qA:Pkt:={ pA with ttl:=8,src:=3405803777,sport:=1024 }
theorem qxr:qcb (frame pA) 0 3405803777 1024=0:=by
 have hb:=(qev pA qla).1;have hk:qam (frame pA)=pA:=ql1 pA qla _ _
 unfold qcb
 rw[if_neg (fun h=>h hb),hk]
 decide
theorem q0d:qc5 (frame pA) 0 3405803777 1024=txt (frame qA)/\good qA=0:=by
 obtain⟨h1,h2,-⟩:=qy9 pA 0 3405803777 1024 qla qxr
 exact⟨h1,h2⟩
def actA:Ac:=⟨1,0,0,built pA⟩
def evA:Ev:=evN 0 (17,0,5,0,1024) false
theorem okA:okE evA:=by unfold okE evA evN;simp
def ntA:Nt:={ nt0 false with acts:=1 }
theorem q4q:(nt0 false).act actA=ntA.out (frame pA) 0:=by
 unfold Nt.act
 rw[if_neg (by show ¬300<=0;omega)]
 simp only
 rw[if_pos (show actA.kd=1 from rfl)]
 show ntA.out (built pA).data.toList 0=_
 rw[qvs,qds]
theorem outA:ntA.out (frame pA) 0=ntA.first (frame pA) pA 0 0:=by
 have hb:=(qev pA qla).1;have hk:qam (frame pA)=pA:=ql1 pA qla _ _
 unfold Nt.out
 rw[if_neg (fun h=>h hb),hk];(rw[if_neg (show ¬ ¬(0<=pA.src-167772161/\pA.src-167772161<8) from fun h=>h (by decide))]);(rw[if_neg (show ¬(pA.proto==1&&pA.flags != 8)=true by decide)]);rw[if_neg (show ¬pA.ttl=1 by decide)];have hf:ntA.find (outF pA (pA.src-167772161))=none:=rfl;rw[hf]
 simp only
 rw[if_neg (show ¬begB pA=false by decide)]
 rfl
def ntB:Nt:=(ntA.setT qhj.f qhj.h [(17,0,5,0,1024)]).begin (mkF (17,0,5,0,1024) 9 6 2)
theorem qajb:ntA.first (frame pA) pA 0 0=(⟨0,txt (frame qA),false,(ntB.log [evA]).1⟩,(ntB.log [evA]).2):=by
 unfold Nt.first
 rw[if_neg (show ¬ntA.full=true by decide)];have ho:qba ntA.f ntA.g ntA.h ntA.ms pA.proto 0 pA.sport 0=⟨0,qhj.f,qhj.h,[(17,0,5,0,1024)],(17,0,5,0,1024),true⟩:=qavb;rw[ho]
 simp only
 rw[if_neg (fun h=>h rfl),if_pos trivial]
 have hl:((ntA.setT qhj.f qhj.h [(17,0,5,0,1024)]).begin (mkF (17,0,5,0,1024) pA.dst pA.dport (qao pA.proto))).leave (frame pA) (mkF (17,0,5,0,1024) pA.dst pA.dport (qao pA.proto))=(⟨0,txt (frame qA),false,ByteArray.empty⟩,ntB):=by
  unfold Nt.leave
  (rw[if_neg (show ¬(0<=(mkF (17,0,5,0,1024) pA.dst pA.dport (qao pA.proto)).rem-3405803777/\(mkF (17,0,5,0,1024) pA.dst pA.dport (qao pA.proto)).rem-3405803777<3) by decide)]);have e1:qcb (frame pA) 0 (3405803777+(mkF (17,0,5,0,1024) pA.dst pA.dport (qao pA.proto)).a) (mkF (17,0,5,0,1024) pA.dst pA.dport (qao pA.proto)).port=0:=qxr;have e2:qc5 (frame pA) 0 (3405803777+(mkF (17,0,5,0,1024) pA.dst pA.dport (qao pA.proto)).a) (mkF (17,0,5,0,1024) pA.dst pA.dport (qao pA.proto)).port=txt (frame qA):=q0d.1;rw[e1,e2]
  rfl
 rw[hl]
 rfl
theorem q1l:(mesT 0 [evA]).size=41:=by
 unfold mesT
 (have ho:okM [evA]:=fun e he=>by obtain rfl:=List.mem_singleton.1 he;exact⟨okA,rfl⟩);rw[if_neg zm,if_neg zm,if_pos ho]
 unfold msgT
 rw[if_pos (by decide),qck,qlj,qnn]
 rfl
theorem q39:(msgT 0 0 2 (tplB 6)).size=48:=by
 unfold msgT
 rw[if_pos (by decide),qck,qlj,qqi]
theorem logA:(ntB.log [evA]).1.size=89/\(ntB.log [evA]).2.fs.length=1:=by
 unfold Nt.log
 rw[if_neg zm]
 refine⟨?_,rfl⟩
 have h0:ntB.logged=0:=rfl;rw[h0,if_pos rfl]
 show(msgT 0 0 2 (tplB 6)++mesT 0 [evA]).size=89
 rw[ByteArray.size_append,q39,q1l]
theorem q9t:((nt0 false).act actA).1.code=0/\((nt0 false).act actA).1.fr=txt (frame qA)/\((nt0 false).act actA).1.lg.size=89/\((nt0 false).act actA).2.fs.length=1/\good qA=0:=by
 rw[q4q,outA,qajb]
 exact⟨rfl,rfl,logA.1,logA.2,q0d.2⟩
theorem qyr(k:Pkt)(w:World)(hsz:k.body.size<=140737488351232):Calls prog 38 #[.agg (pcl k)] w fun e w'=>e=.returned (.string (built k))/\Below w.heap.size w w':=by
 refine m2a ?_;intro hB;(have CB:=fun w=>q3b k w hsz)
 simp only[qgx] at CB
 clear hsz
 go_enter func38,ntmps38
 go_wp2_with (first|((with_reducible refine gB 61 0 ?_);refine bx 61 (.tmp 0) (pcl k) ?_;intro b2 w9 l9 R9 h9;replace hB:=hB.trans (h9.mono hB.size))|((with_reducible refine gL 61 1 ?_);refine qac 61 (.tmp 1) rfl kr b2 rfl (pcl k) R9 _ underlying61 rfl (qa0 k) ?_)|(go_at_call 77;go_fit (CB _);rintro e w5 ⟨rfl,hb5⟩;refine m2s ?_;clear hB;intro hB))
 go_ret
 exact⟨rfl,hB⟩
theorem q9g(w:World):(Instr.build 61 #[(0,I Z 17),(1,I Z 167772161),(2,I Z 5),(3,I Z 9),(4,I Z 6),(5,I Z 9)]).run prog w=.ok (.agg (pcl pA)) w:=by kernel_rfl
theorem qy8(hgd:o.guard=none)(ho:o.op=.build 61 #[(0,.const (I Z 17)),(1,.const (I Z 167772161)),(2,.const (I Z 5)),(3,.const (I Z 9)),(4,.const (I Z 6)),(5,.const (I Z 9))])(hr:wpList prog ops Q rest (a.put o.dst (.agg (pcl pA))) w):wpList prog ops Q (o::rest) a w:=
 wpList_plain hgd fun K hK=>by
  unfold Oper.wp execOp
  simp only[ho,List.map_toArray,List.map_nil,List.map_cons,Act.eval,Sem.run_bind,q9g,Result.andThen_ok,Sem.run_pure]
  exact hK _ _ hr
theorem q5f(f:ByteArray)(w:World):(Instr.build 23 #[(0,I Z 1),(3,.string f)]).run prog w=.ok (.agg (ac ⟨1,0,0,f⟩)) w:=by kernel_rfl
theorem qw3(hgd:o.guard=none)(x:Operand)(ho:o.op=.build 23 #[(0,.const (I Z 1)),(3,x)])(f:ByteArray)(hx:a.eval x=.string f)(hr:wpList prog ops Q rest (a.put o.dst (.agg (ac ⟨1,0,0,f⟩))) w):wpList prog ops Q (o::rest) a w:=
 wpList_plain hgd fun K hK=>by
  have hz:a.eval (.const (I Z 1))=I Z 1:=rfl
  unfold Oper.wp execOp
  simp only[ho,List.map_toArray,List.map_nil,List.map_cons,hx,hz,Sem.run_bind,q5f,Result.andThen_ok,Sem.run_pure]
  exact hK _ _ hr
theorem qdt(r:Rp):r.cells[0]?=some (I Z r.code):=rfl
theorem qe4(r:Rp):r.cells[1]?=some (.string r.fr):=rfl
theorem q8l:actA.ok:=by
 refine⟨by decide,by decide,by decide,?_⟩
 show(built pA).size<=140737488351232
 rw[qvs,qck]
 have:(frame pA).length=28:=by kernel_rfl
 omega
theorem q1m{s:Nt}(h:qaw w b s tm F)(h1:s.fs.length=1):Calls prog 22 #[V (some ⟨b,0,none⟩)] w fun e w'=>∃a c,e=.returned (.slice a 1 c)/\Below w.heap.size w w':=by
 refine(qhb h).mono ?_
 rintro e w' ⟨v,rfl,hF,hb⟩
 obtain⟨a,c,hv⟩:=hF.slice
 rw[List.length_map,h1] at hv
 exact⟨a,c,by rw[hv],hb⟩
theorem qu4:bad (frame qA)=0/\qb9 (frame qA)=qA:=qev qA q0d.2
theorem q1b(w:World)(hT:Tab w):Calls prog 49 #[] w fun e w'=>e=.returned (.bool true)/\Below w.heap.size w w':=by
 obtain⟨ha1,ha2,ha3,ha4,-⟩:=q9t
 (have CN:=fun w=>qu0 false w);(have CF:=fun w=>qyr pA w (by show(ByteArray.empty).size<=_;simp));(have hq:=fun b w=>qpc b w);(have CD:=fun W b F (hN:qaw W b (nt0 false) (duF (nt0 false).fs) F) (hT:Tab W) (h0:¬F 0)=>qos hN hT h0 ((NInv.new false).ok om) actA q8l)
 generalize(nt0 false).act actA=r at *
 obtain⟨r1,r2⟩:=r
 simp only at ha1 ha2 ha3 ha4 CD
 (have CP:=fun w=>qch (txt (frame qA)) w (by rw[qck];have:(frame qA).length=28:=kr;omega))
 simp only[qgx,qds,qu4.1,qu4.2] at CP
 (have CL:=fun W b F (hN:qaw W b r2 (duF r2.fs) F)=>q1m hN ha4);have HT:Hid (Tab w):=hT;have HA1:Hid (r1.code=0):=ha1;have HA2:Hid (r1.fr=txt (frame qA)):=ha2;have HA3:Hid (r1.lg.size=89):=ha3;(have hq1:((3405803777:Int)==3405803777)=true:=by decide);have hs1:qA.src=3405803777:=rfl;have hs2:qA.sport=1024:=rfl;clear ha1 ha2 ha3 ha4 hT
 go_enter func49,ntmps49
 go_wp2_with (first|(go_at_call 51;go_fit (CN _);rintro e w1 ⟨b,rfl,hlb,hN1,hb1⟩;have N:=hN1.start;have HB1:Hid (Below w.heap.size w w1):=hb1;have HLB:Hid (w.heap.size<=b):=hlb;have HT1:Hid (Tab w1):=hidN (HT.out.below hb1);have H01:Hid (¬(fun c=>c=b) 0):=hidN (fun e=>by have:=HT.out.lt;have e:0=b:=e;omega);clear hlb hN1 hb1)|((with_reducible refine qaa (.build 61 #[(0,.const (I Z 17)),(1,.const (I Z 167772161)),(2,.const (I Z 5)),(3,.const (I Z 9)),(4,.const (I Z 6)),(5,.const (I Z 9))]) rfl ?_);refine qy8 rfl rfl ?_)|(go_at_call 38;go_fit (CF _);refine m22 ?_;clear N;intro w5 N)|((with_reducible refine qaa (.build 23 #[(0,.const (I Z 1)),(3,.tmp 10)]) rfl ?_);refine qw3 rfl (.tmp 10) rfl (built pA) rfl ?_)|(go_at_call 18;refine(CD _ _ _ N.nat (HT1.out.gr N.gr H01.out) (N.zero HT1.out H01.out)).mono ?_;rintro e w5 ⟨rfl,F9,hN9,hg9,hf9⟩;clear CD;replace N:=N.call hN9 hg9 hf9;clear hN9 hg9 hf9)|((with_reducible refine gA 27 ?_);refine ax 2 27 qan ?_;intro b2 w9 l9 R9 h9;refine m3q ?_;clear N;intro N;clear R9 h9 l9)|((with_reducible refine gS 27 2 12 ?_);refine sx 27 (.tmp 2) _ (r1.cells) (N.row 0 rfl) ?_;refine m0j ?_;clear N;intro w9 N)|((with_reducible refine gL 9 14 ?_);refine qcm (N.row 0 rfl) (.tmp 14) rfl kr 1 rfl (txt (frame qA)) (by rw[qe4,HA2.out]) ?_)|(go_at_call 29;refine m1j ?_;clear CP N;intro w5 N)|((with_reducible refine gA 61 ?_);refine ax 3 61 qbs ?_;intro b3 w9 l9 R9 h9;refine m1d ?_;clear N R9 h9 l9;intro N)|((with_reducible refine gS 61 3 17 ?_);refine sx 61 (.tmp 3) _ (pcl qA) (N.row 0 rfl) ?_;refine m0j ?_;clear N;intro w9 N;have cc:World.cell? _ ⟨b2,0,none⟩=some (I Z 0):=((N.row 1 rfl).cell 0).trans (by rw[qdt,HA1.out]);have c1:World.cell? _ ⟨b3,1,none⟩=some (I Z 3405803777):=((N.row 0 rfl).cell 1).trans rfl;have c2:World.cell? _ ⟨b3,2,none⟩=some (I Z 1024):=((N.row 0 rfl).cell 2).trans rfl)|((with_reducible refine gL 9 37 ?_);refine qcm (N.row 1 rfl) (.tmp 37) rfl kr 3 rfl r1.lg (qb2 _) ?_;have hl9:=HA3.out)|(go_at_call 22;go_fit (CL _ _ _ N.nat);rintro e w5 ⟨a9,c9,rfl,hb5⟩;clear CL cc c1 c2;replace N:=N.below hb5;clear hb5))
 go_ret
 exact⟨rfl,HB1.out.trans (N.gr.below (fun c hc=>hc▸HLB.out) HB1.out.size)⟩
def acl(k:Ac):List Value:=[I Z k.kd,I Z k.n,I Z k.dr,.string k.fr]
theorem q9l(k:Ac):(acl k).toArray=ac k:=rfl
theorem qv8(k:Ac):(prog.info? 23).map (·.size)=some (acl k).length:=by kernel_rfl
def AcAt(w:World)(sl:Value)(es:List Ac):Prop:=
 ∃a cap,sl=.slice a es.length cap/\(0<es.length->a=some ⟨eb sl,eo sl,none⟩)/\(∀j (hj:j<es.length),w.rangeAt (eb sl) (eo sl+4*j) (acl es[j]))/\es.length<=4398046511104
theorem AcAt.lt(h:AcAt w sl es)(hl:0<es.length):eb sl<w.heap.size:=by
 obtain⟨a,cap,e,h1,h2,h3⟩:=h
 have:=h2 0 hl 0 _ rfl
 unfold World.cell? at this
 by_cases hlt:eb sl<w.heap.size
 ·exact hlt
 ·have h3:w.heap[eb sl]?=none:=Array.getElem?_eq_none om
  simp[h3] at this
theorem AcAt.keep{B:Nat}(h:AcAt w sl es)(hb:Below B w w')(hlt:0<es.length->eb sl<B):AcAt w' sl es:=by
 obtain⟨a,cap,e,h1,h2,h3⟩:=h
 refine⟨a,cap,e,h1,fun j hj i v hv=>?_,h3⟩
 have:=h2 j hj i v hv
 unfold World.cell? at *
 rw[hb.block _ (hlt om)]
 exact this
theorem AcAt.below(h:AcAt w sl es)(hb:Below w.heap.size w w'):AcAt w' sl es:=h.keep hb h.lt
theorem AcAt.len(h:AcAt w sl es):es.length<=4398046511104:=by
 obtain⟨a,cap,e,h1,h2,h3⟩:=h
 exact h3
theorem AcAt.at(h:AcAt w sl es)(j:Nat)(hj:j<es.length){e:Ac}(he:es[j]=e):w.rangeAt (eb sl) (eo sl+4*j) (acl e):=by
 obtain⟨a,cap,_,h1,h2,h3⟩:=h
 rw[←he];exact h2 j hj
theorem AcAt.slice(h:AcAt w sl es):∃a cap,sl=.slice a es.length cap:=by
 obtain⟨a,cap,e,_⟩:=h
 exact⟨a,cap,e⟩
theorem AcAt.index(h:AcAt w sl es)(j:Nat)(hj:j<es.length)(w2:World):(Instr.indexAt 44 sl (I Z (j:Int))).run prog w2=.ok (V (some ⟨eb sl,eo sl+4*j,none⟩)) w2:=by
 obtain⟨a0,cap,e,h1,h2,h3⟩:=h;have e1:=h1 om
 generalize eb sl=B at *
 generalize eo sl=O at *
 subst e1
 subst e
 (have hn:((j:Int)).toNat<es.length:=by simpa using hj);(have hjl:(j:Int)<(es.length:Int):=by omega);(have hs:(sizeOf 23).run prog w2=.ok 4 w2:=by kernel_rfl)
 simp[go_sem,hj,hn,hjl,underlying44,hs]
theorem AcAt.keepGr(h:AcAt w sl es)(hg:Gr F w w')(hn:0<es.length->¬F (eb sl)):AcAt w' sl es:=by
 have hlt:=h.lt;obtain⟨a,cap,e,h1,h2,h3⟩:=h
 refine⟨a,cap,e,h1,fun j hj i v hv=>?_,h3⟩
 have:=h2 j hj i v hv
 unfold World.cell? at *
 rw[hg.block _ (hlt om) (hn om)]
 exact this
def Nt.runs(s:Nt)(l:List Ac):Nt:=l.foldl (fun s a=>(s.act a).2) s
theorem qih(s:Nt)(l:List Ac)(a:Ac):s.runs (l++[a])=((s.runs l).act a).2:=by unfold Nt.runs;rw[List.foldl_append];rfl
theorem NInv.runs{s:Nt}{k:Nat}(h:NInv s k)(l:List Ac)(hl:k+l.length<=300):NInv (s.runs l) (k+l.length):=by
 induction l generalizing s k with
 | nil=>exact h
 | cons a r ih=>
  rw[List.length_cons] at hl ⊢
  have:=ih (h.act om a) om
  (rw[show k+(r.length+1)=k+1+r.length by omega])
  exact this
end
def Nt.plays(s:Nt):List Ac->List Rp
 | []=>[]
 | a::r=>(s.act a).1::(s.act a).2.plays r
theorem qhmb(s:Nt)(l:List Ac):(s.plays l).length=l.length:=by
 induction l generalizing s with
 | nil=>rfl
 | cons a r ih=>unfold Nt.plays;rw[List.length_cons,List.length_cons,ih]
theorem qiib(s:Nt)(l:List Ac)(k:Nat):s.plays (l.take k)=(s.plays l).take k:=by
 induction l generalizing s k with
 | nil=>simp[Nt.plays]
 | cons a r ih=>
  cases k with
  | zero=>simp[Nt.plays]
  | succ k=>rw[List.take_succ_cons];unfold Nt.plays;rw[List.take_succ_cons,ih]
theorem qiqb(s:Nt)(l:List Ac)(a:Ac):s.plays (l++[a])=s.plays l++[((s.runs l).act a).1]:=by
 induction l generalizing s with
 | nil=>rfl
 | cons b r ih=>
  have e:s.runs (b::r)=((s.act b).2).runs r:=rfl;rw[e,List.cons_append]
  unfold Nt.plays
  rw[ih,List.cons_append]
section
open Go.Maps
def RpO(w:World)(base:Nat)(v:Value)(ks:List Rp):Prop:=w.ownsRow base 27 4 v ks.length (ks.flatMap fun k:Rp=>k.cells.toList)
theorem RpO.nil(w:World)(base:Nat):RpO w base (.slice none 0 0) []:=World.ownsRow_nil w base 27 4
theorem RpO.keep{ks:List Rp}(h:RpO w base v ks)(hk:∀g,v.ownBlock=some g->w'.heap[g]?=w.heap[g]?):RpO w' base v ks:=qfc h hk
theorem RpO.ge{ks:List Rp}(h:RpO w base v ks):∀k,v.ownBlock=some k->base<=k/\k<w.heap.size:=fun k hk=>World.ownsRow.lt h k hk
theorem RpO.below{ks:List Rp}(h:RpO w base v ks)(hb:Below w.heap.size w w'):RpO w' base v ks:=h.keep (fun g hg=>hb.block g (h.ge g hg).2)
theorem RpO.slice{ks:List Rp}(h:RpO w base v ks):∃a cap,v=.slice a ks.length cap:=by
 exact sZtn103
theorem qh7b:(prog.info? 27).map (fun i=>(i.zero,i.size,i.bytes))=some (some (.agg (qas 0).cells),4,48):=by kernel_rfl
theorem qikb(ks:List Rp)(k:Rp):(ks++[k]).flatMap (fun k:Rp=>k.cells.toList)=ks.flatMap (fun k:Rp=>k.cells.toList)++k.cells.toList:=by rw[List.flatMap_append];simp
theorem qi1b{ks:List Rp}{k:Rp}(h:RpO w base v ks)(R:Row 27 w b k.cells)(hl:ks.length<=5000000)(hbase:base<=w.heap.size)(ty:TypeId):
  ∃v' w',(Builtin.append_ #[79,79] ty #[v,.slice (some ⟨b,0,none⟩) 1 1]).run prog w=.ok v' w'/\RpO w' base v' (ks++[k])/\Grew v v' w w':=by
 obtain⟨i0,hi,hz0,hz1,hz2⟩:=info_parts qh7b
 obtain⟨v',w',h1,h2,h3,_,h5⟩:=run_append_own_at (P:=prog) w base 79 ty 27 i0 (.agg (qas 0).cells) 4 48 underlying79 hi hz0 hz1 hz2 rfl (by decide) v ks.length (ks.flatMap fun k:Rp=>k.cells.toList) h ⟨b,0,none⟩ 1 1 k.cells.toList rfl
  (fun j u hu=>by rw[Addr.add_lit,Nat.zero_add];exact(R.cell j).trans (by simpa using hu)) (fun u hu=>(Array.all_eq_true_iff_forall_mem.1 (qah k)) u (by simpa using hu)) (by unfold maxLen;omega) om hbase
 refine⟨v',w',h1,?_,⟨h3,?_⟩⟩
 ·unfold RpO;rw[qikb,List.length_append];exact h2
 ·rcases h5 with e|e
  ·exact .inl e
  ·exact .inr ⟨_,e,Nat.le_refl _⟩
theorem qisb(k:Rp)(w:World):(Instr.buildSlice 79 1 #[(0,.agg k.cells)]).run prog w=.ok (.slice (some ⟨w.heap.size,0,none⟩) 1 1) (w.alloc (.cells k.cells 27)):=by
 obtain⟨a,b,c,d⟩:=k
 kernel_rfl
theorem qh0b(hgd:o.guard=none)(x:Operand)(ho:o.op=.buildSlice 79 1 #[(0,x)])(k:Rp)(hx:a.eval x=.agg k.cells)(hr:∀b w',w.heap.size<=b->Row 27 w' b k.cells->Below w.heap.size w w'->wpList prog ops Q rest (a.put o.dst (.slice (some ⟨b,0,none⟩) 1 1)) w'):wpList prog ops Q (o::rest) a w:=
 wpList_plain hgd fun K hK=>by
  have h':=hr w.heap.size (w.alloc (.cells k.cells 27)) (Nat.le_refl _) (Row.new _ w _) ((Below.refl _ _).alloc (Nat.le_refl _) _)
  unfold Oper.wp execOp
  simp only[ho,List.map_toArray,List.map_cons,List.map_nil,hx,Sem.run_bind,qisb,Result.andThen_ok,Sem.run_pure]
  exact hK _ _ h'
theorem qh5b(hgd:o.guard=none)(s x:Operand)(ho:o.op=.call { callee:=.builtin .append,args:=#[s,x],argTypes:=#[79,79] }){ks:List Rp}{k:Rp}(h:RpO w base v ks)(R:Row 27 w b k.cells)(hs:a.eval s=v)(hx:a.eval x=.slice (some ⟨b,0,none⟩) 1 1)(hl:ks.length<=5000000)(hbase:base<=w.heap.size)(hr:∀v' w',RpO w' base v' (ks++[k])->Grew v v' w w'->wpList prog ops Q rest (a.put o.dst v') w'):wpList prog ops Q (o::rest) a w:=
 wpList_plain hgd fun K hK=>by
  obtain⟨v',w',h1,h2,h3⟩:=qi1b h R hl hbase o.type
  exact sZtn101
end
end Go.Proofs.YtonnjgmognbnbaaGreatDoor
