/-
  Of what a law stands on.
-/
import Derived.Test.YtnicenfgemkdnaaGreatDoorZxn2
set_option linter.unusedSimpArgs false
set_option linter.unusedVariables false
namespace Go.Proofs.YtnicenfgemkdnaaGreatDoor
open _root_.Go.Proofs.Tryz
set_option maxHeartbeats 16000000
set_option maxRecDepth 100000
open Go.ChangeShapes Go.WideShapes Go.ChangeAt Go.RowKit Go.Maps
theorem sZxn31{p:Prop}(h:p:=by
 refine hK.out _ _ kS (fun _=>?_)
 clear hK K
 try simp only[ZZ]
 refine AR [10] ?_
 refine AC (fun K hK=>?_) ?_
 ·rw[if_pos kr]
  (first|refine qjs (.tmp 25) (.tmp 30) rfl M.ids BQ kr kr HIL.out ?_|refine qjs (.tmp 25) (.tmp 30) rfl (M.below (Below.refl _ _).drew).ids (BQ.below (Below.refl _ _).drew) kr kr HIL.out ?_);intro v8 w8 ho8 hg8 hl8;(first|replace hg8:=qix hg8|skip);obtain⟨va,vc,hv8⟩:=qeh ho8
  refine hK.out _ _ kS (fun _=>?_)
  clear hK K
  try simp only[ZZ]
  refine tq 11 (.pointer (some ⟨b,0,none⟩)) rfl kS (tq 12 (.pointer (some ⟨b,35,none⟩)) rfl kS ?_)
  simp only[ZZ]
  refine AR [13] ?_
  refine AC (fun K hK=>?_) ?_
  ·rw[if_pos kr]
   have hG0:=hG.size;have R8:=(hg8.block b M.lt (fun e=>M.ovb e.symm)).trans M.row;(first|refine qgb R8 (.tmp 33) (.tmp 31) rfl 35 kr v8 va _ vc hv8 kr _ M.c35 ?_|refine qgb (R8.below (Below.refl _ _).drew) (.tmp 33) (.tmp 31) rfl 35 kr v8 va _ vc hv8 kr _ M.c35 ?_);intro w9 R9 t9;(first|replace t9:=qap t9|skip);replace B3:=t9.row ((hg8.block b3 B3.lt (fun e=>HOB.out e.symm)).trans B3) HB3.out;replace hG:=(hG.trans (Gr.of_grown (F:=fun c=>(Value.slice oa on oc).ownBlock=some c) hg8 (fun c hc=>hc)) HFO.out).trans (qcq t9) HFB.out;have HV8:Hid (∀c,v8.ownBlock=some c->(Value.slice oa on oc).ownBlock=some c\/w.heap.size<=c):=hidN (qlb hl8 hG0);replace M:=M.order (fun c hc=>Nat.lt_of_lt_of_le (HBD.out c hc) hG0) hg8 ho8 (qlb hl8 (Nat.le_refl _)) R9 t9;clear hG0 R8 R9 t9 hg8 ho8 hl8 hv8
   refine hK.out _ _ kS (fun _=>?_)
   clear hK K
   try simp only[ZZ]
   refine AN ?_
   clear kS
   go_upto_region 4 with fail
   have HNM:Hid (∀x∈s.fs++[(s.began+1,dueF s k)],x.1<=s.began+1):=hidN (fun x hx=>by rcases List.mem_append.1 hx with h1|h1;exact Nat.le_of_lt (HLT.out x h1);obtain rfl:=List.mem_singleton.1 h1;exact Nat.le_refl _)
   have HLN:Hid ((s.fs++[(s.began+1,dueF s k)]).length=if (fsF s.fs ((s.began+1:Nat):Int)).isSome then s.fs.length else s.fs.length+1):=hidN (by rw[show fsF s.fs ((s.began+1:Nat):Int)=none from by unfold fsF;rw[qlc HLT.out];rfl];simp)
   have HCC:Hid ((if (duF s.fs ((s.began+1:Nat):Int)).isSome then cnt else cnt+1)<=(s.fs++[(s.began+1,dueF s k)]).length):=hidN (by rw[show duF s.fs ((s.began+1:Nat):Int)=none from by unfold duF;rw[qlc HLT.out];rfl];have:=HCN.out;simp;omega)
   have HN9:Hid (¬(Fw b3\/fm=some b3)):=hidN (fun h=>by rcases h with h|h;exact HNB.out b3 (.inl h) rfl;exact HNB.out b3 (.inr (.inl h)) rfl)
   have HGF:Hid (∀x,(Fw x\/fm=some x)->F x\/w.heap.size<=x):=hidN (fun x hx=>.inl (by rcases hx with h|h;exact HFF.out x (.inl h);exact HFF.out x (.inr (.inl h))))
   have HFE:Hid (∀(F9:Nat->Prop) (fm9:Option Nat) (c:Nat) {n:Nat},(∀c,fm9=some c->fm=some c\/n<=c)->(∀c,F9 c->Fw c\/n<=c)->w.heap.size<=n->FpN F9 fm9 v8 v s.ms c->F c\/w.heap.size<=c):=hidN (fun F9 fm9 c n h1 h2 h3 hc=>by
    rcases hc with hc|hc|hc|hc
    ·rcases h2 c hc with h|h;exact .inl (HFF.out c (.inl h));exact .inr (Nat.le_trans h3 h)
    ·rcases h1 c hc with h|h;exact .inl (HFF.out c (.inr (.inl h)));exact .inr (Nat.le_trans h3 h)
    ·rcases HV8.out c hc with h|h;exact .inl (HFF.out c (.inr (.inr (.inl h))));exact .inr h
    ·exact .inl (HFF.out c (.inr (.inr (.inr hc)))))
   have kS:_/\_:=⟨(M.cell 36).trans M.c36,B3⟩
   refine RD (fun W=>W.cell? ⟨b,36,none⟩=some (.int .i64 ((s.began+1:Nat):Int))/\Row 48 W b3 (fc (dueF s k))) kS (fun _=>?_)
   refine tq 0 (.pointer (some ⟨b,0,none⟩)) rfl kS (tq 1 (.pointer (some ⟨b,0,none⟩)) rfl kS (tq 2 (.pointer (some ⟨b,0,none⟩)) rfl kS ?_))
   simp only[ZZ]
   refine tq 3 (.pointer (some ⟨b,36,none⟩)) rfl kS (tk 4 (.int .i64 ((s.began+1:Nat):Int)) rfl (Or.inl ⟨by kernel_rfl,by intro w hS;have hc:=hS.1;go_simp⟩) kS (tk 5 (.agg (fc (dueF s k))) rfl (yx 48 (.tmp 3) (fc (dueF s k)) (fun _ h=>h.2)) kS ?_))
   simp only[ZZ]
   refine AR [6] ?_
   refine AC (fun K hK=>?_) ?_
   ·go_simp
    go_at_call 129;(first|refine(qh8 M (fun c hc=>Nat.lt_of_lt_of_le (HBD.out c hc) hG.size) (s.began+1) (dueF s k) HBG.out HMX.out.2.1 HMX.out.2.2 (fun _=>Nat.lt_of_le_of_lt HCN.out HLE.out) (s.fs++[(s.began+1,dueF s k)]) (qjq HLT.out) HLN.out (qjh HUP.out HLT.out) HNM.out HCC.out).mono ?_|refine(qh8 (M.below (Below.refl _ _).drew) (fun c hc=>Nat.lt_of_lt_of_le (HBD.out c hc) hG.size) (s.began+1) (dueF s k) HBG.out HMX.out.2.1 HMX.out.2.2 (fun _=>Nat.lt_of_le_of_lt HCN.out HLE.out) (s.fs++[(s.began+1,dueF s k)]) (qjq HLT.out) HLN.out (qjh HUP.out HLT.out) HNM.out HCC.out).mono ?_);rintro e w9 ⟨rfl,cs9,fm9,D9,F9,cnt9,M9,hfm9,hfw9,hg9⟩;(first|replace hg9:=qgn hg9|skip);replace B3:=(hg9.block b3 B3.lt HN9.out).trans B3;replace kS:_/\_:=⟨(M9.cell 36).trans M9.c36,B3⟩
    go_wp2_with fail
    refine hK.out _ _ kS (fun _=>?_)
    clear hK K
    try simp only[ZZ]
    refine AN ?_
    clear kS
    go_end0
    refine⟨rfl,FpN F9 fm9 v8 v s.ms,⟨cs9,v,v8,fm9,D9,F9,cnt9,?_,fun c hc=>hc⟩,?_,fun c hc=>?_⟩
    ·have e1:duF (s.begin k).fs=setD (duF s.fs) ((s.began+1:Nat):Int) (max (dueF s k).du s.now):=by rw[show(dueF s k).du=s.now+qb0 k.pr k.st from rfl,HMX.out.1];exact qqn HLT.out
     rw[e1]
     have e2:(s.begin k).fs.map (fun x=>(x.1:Int))=s.fs.map (fun x=>(x.1:Int))++[((s.began+1:Nat):Int)]:=by simp[Nt.begin]
     rw[e2]
     first|exact M9|exact M9.below (Below.refl _ _).drew
    ·have hgg:=hG.trans hg9 HGF.out
     first|exact hgg|exact hgg.drew
    ·exact HFE.out F9 fm9 c hfm9 hfw9 hG.size hc
   exact AZ
  exact AZ
 exact AZ):p:=h
theorem sZxn33{p:Prop}(h:p:=by
 refine hK.out _ _ kS (fun _=>?_)
 clear hK K
 try simp only[ZZ]
 refine AR [9] ?_
 refine AC (fun K hK=>?_) ?_
 ·rw[if_pos kr]
  refine qot (.tmp 29) rfl (((s.began+1):Nat):Int) kr ?_;intro bq w9 l9 R9 h9;(first|replace h9:=qaj h9|skip);(try replace l9:World.heap.size _<=bq:=l9);replace M:=M.below h9;replace B3:=B3.below h9;replace hG:=hG.trans (Gr.of_below (F:=fun _=>False) h9) (fun x hx=>hx.elim);have BQ:=R9;clear R9 h9 l9
  exact sZxn31
 exact AZ):p:=h
theorem qlz{w:World}{b:Nat}{s:Nt}{F:Nat->Prop}(h:qaw w b s (duF s.fs) F)(k:Fl)(hlen:s.fs.length<400)(hbg:s.began<700)(hnow:0<=s.now/\s.now<=549755813888):Calls prog 137 #[.pointer (some ⟨b,0,none⟩),.agg (fc k)] w fun e w'=>e=.returned (.tuple #[])/\∃F',qaw w' b (s.begin k) (duF (s.begin k).fs) F'/\Gr F w w'/\∀c,F' c->F c\/w.heap.size<=c:=by
 obtain⟨cs,v,ov,fm,D,Fw0,cnt,M0,hF0⟩:=h
 obtain⟨Fw,HFW⟩:∃Fw,Fw=fun c=>Fw0 c/\c<w.heap.size:=⟨_,rfl⟩
 have M:NatM w b cs v ov fm D Fw cnt s (duF s.fs) (s.fs.map fun x=>(x.1:Int)):=HFW▸M0.bound
 have HBD:Hid (∀c,Fw c->c<w.heap.size):=hidN (fun c hc=>by rw[HFW] at hc;exact hc.2)
 have hF:∀c,FpN Fw fm ov v s.ms c->F c:=fun c hc=>hF0 c (by rw[HFW] at hc;rcases hc with h1|h1;exact .inl h1.1;exact .inr h1)
 clear HFW M0 hF0
 obtain⟨oa,oc,hov⟩:=qeh M.ids
 obtain⟨on,hon⟩:∃on,on=(s.fs.map fun x=>(x.1:Int)).length:=⟨_,rfl⟩
 rw[←hon] at hov
 subst hov
 have HIL:Hid ((s.fs.map fun x=>(x.1:Int)).length<=1000000):=hidN (by have:=qkd M;rw[List.length_map];omega)
 have hlf:=quy k.pr k.st
 have HAW:Hid (IntKind.i64.wrap (s.now+qb0 k.pr k.st)=s.now+qb0 k.pr k.st):=hidN (by rw[IntKind.wrap_i64];omega)
 have hbw:wrap64 ((s.began:Int)+1)=(s.began:Int)+1:=by unfold wrap64;omega
 have HBG:Hid (s.began<700):=hbg
 have HFP:Hid (∀c,FpN Fw fm (.slice oa on oc) v s.ms c->c<w.heap.size):=hidN (fun c hc=>M.fpLt HBD.out hc)
 have HFF:Hid (∀c,FpN Fw fm (.slice oa on oc) v s.ms c->F c):=hF
 have HLE:Hid (s.fs.length<400):=hlen
 have HMX:Hid (max (s.now+qb0 k.pr k.st) s.now=s.now+qb0 k.pr k.st/\0<=s.now+qb0 k.pr k.st/\s.now+qb0 k.pr k.st<=1099511627776):=hidN ⟨q8r hlf.1,by omega,by omega⟩
 have hlt:∀x∈s.fs,x.1<s.began+1:=fun x hx=>Nat.lt_succ_of_le (M.num x hx)
 have HLT:Hid (∀x∈s.fs,x.1<s.began+1):=hlt
 have HCN:Hid (cnt<=s.fs.length):=M.few
 have HFB:Hid (∀x,x=b->F x\/w.heap.size<=x):=hidN (fun x hx=>.inl (hx▸hF b (.inl M.inb)))
 have HFO:Hid (∀x,(Value.slice oa on oc).ownBlock=some x->F x\/w.heap.size<=x):=hidN (fun x hx=>.inl (hF x (.inr (.inr (.inl hx)))))
 have hG:=Gr.refl F w
 have HUP:Hid _:=hidN M.up
 clear hF hlen hbg hnow hlf hlt hon
 go_enter func137,ntmps137
 go_upto_region 1 with(first|((with_reducible refine gB 48 1 ?_);refine bx 48 (.tmp 1) (fc k) ?_;intro b3 w9 l9 R9 h9;have HL3:Hid (w.heap.size<=b3):=hidN (Nat.le_trans hG.size l9);have HB3:Hid (b3≠b):=hidN (by have:=M.lt;omega);replace M:=M.below h9;replace hG:=hG.trans (Gr.of_below (F:=fun _=>False) h9) (fun x hx=>hx.elim);have B3:=R9;clear R9 h9 l9;have HNB:Hid (∀c,FpN Fw fm (.slice oa on oc) v s.ms c->¬c=b3):=hidN (fun c hc e=>by have:=HFP.out c hc;have:=HL3.out;omega);have HOB:Hid ((Value.slice oa on oc).ownBlock≠some b3):=hidN (fun e=>HNB.out b3 (.inr (.inr (.inl e))) rfl)))
 have kS:=qapb (k':=dueF s k) B3
 refine RD (fun W=>RorN W b3 k (dueF s k)) kS (fun _=>?_)
 refine tq 0 (.pointer (some ⟨b,0,none⟩)) rfl kS (tq 2 (.pointer (some ⟨b3,0,none⟩)) rfl kS (tq 3 (.pointer (some ⟨b3,0,none⟩)) rfl kS ?_))
 simp only[ZZ]
 refine tk 4 (.int .i64 k.pr) rfl (Or.inl ⟨by kernel_rfl,by intro w hS;have hc:=(show _=some (Value.int .i64 k.pr) from by rcases hS with h|h;exact(h.cell 0).trans rfl;exact(h.cell 0).trans rfl);go_simp⟩) kS (tq 5 (.pointer (some ⟨b3,7,none⟩)) rfl kS (tk 6 (.int .i64 k.st) rfl (Or.inl ⟨by kernel_rfl,by intro w hS;have hc:=(show _=some (Value.int .i64 k.st) from by rcases hS with h|h;exact(h.cell 7).trans rfl;exact(h.cell 7).trans rfl);go_simp⟩) kS ?_))
 simp only[ZZ]
 refine AR [1] ?_
 refine AC (fun K hK=>?_) ?_
 ·go_simp
  go_at_call 22;(first|refine(qda (qg2 M)).mono ?_|refine(qda (qg2 (M.below (Below.refl _ _).drew))).mono ?_);rintro e w9 ⟨rfl,hw⟩;rw[hw];clear hw w9
  go_wp2_with fail
  refine hK.out _ _ kS (fun _=>?_)
  clear hK K
  try simp only[ZZ]
  refine AR [7] ?_
  refine AC (fun K hK=>?_) ?_
  ·go_simp
   go_at_call 164;refine(qvq k.pr k.st _).mono ?_;rintro e w9 ⟨rfl,hw⟩;rw[hw];clear hw w9
   go_wp2_with fail
   refine hK.out _ _ kS (fun _=>?_)
   clear hK K
   try simp only[ZZ]
   refine tk 8 (.int .i64 (s.now+qb0 k.pr k.st)) rfl (qw8 (.tmp 5) (.tmp 11) rfl kr _ _ _ kr kr HAW.out) kS (tq 9 (.pointer (some ⟨b3,9,none⟩)) rfl kS ?_)
   simp only[ZZ]
   refine AR [10] ?_
   refine AC (fun K hK=>?_) ?_
   ·rw[if_pos kr]
    refine qd4 B3 (.tmp 13) (.tmp 12) rfl 9 kr (s.now+qb0 k.pr k.st) kr _ rfl (fc (dueF s k)) rfl ?_;intro w9 R9 t9;(first|replace t9:=qap t9|skip);replace M:=M.keep (qcq t9) HNB.out;replace hG:=hG.trans (qcq t9) (fun x hx=>.inr (hx▸HL3.out));replace B3:=R9;clear R9 t9;replace kS:=qawb (k:=k) B3
    refine hK.out _ _ kS (fun _=>?_)
    clear hK K
    try simp only[ZZ]
    refine AN ?_
    clear kS
    go_upto_region 3 with(first|((with_reducible refine gL 3 16 ?_);refine qae M.row _ rfl kr 36 rfl (s.began:Int) M.c36 ?_)|((with_reducible refine gS 3 20 18 ?_);refine qbb M.row rfl (.tmp 20) (.tmp 18) rfl 36 rfl ((s.began+1:Nat):Int) (by first|rfl|exact qfs s.began|exact qg6 hbw) _ M.c36 _ rfl ?_;intro w9 R9 t9;replace B3:=t9.row B3 HB3.out;replace hG:=hG.trans (qcq t9) HFB.out;replace M:=M.setBegan (s.began+1) ⟨Nat.le_succ _,HBG.out⟩ R9 t9;clear R9 t9))
    have kS:True:=trivial
    refine RD (fun W=>True) kS (fun _=>?_)
    refine tq 0 (.pointer (some ⟨b,0,none⟩)) rfl kS (tq 1 (.pointer (some ⟨b,0,none⟩)) rfl kS (tq 2 (.pointer (some ⟨b,0,none⟩)) rfl kS ?_))
    simp only[ZZ]
    refine tq 3 (.pointer (some ⟨b,35,none⟩)) rfl kS (tq 5 (.pointer (some ⟨b,0,none⟩)) rfl kS (tq 6 (.pointer (some ⟨b,0,none⟩)) rfl kS ?_))
    simp only[ZZ]
    refine tq 7 (.pointer (some ⟨b,36,none⟩)) rfl kS ?_
    simp only[ZZ]
    refine AR [4,8] ?_
    refine AC (fun K hK=>?_) ?_
    ·rw[if_pos kr]
     refine qly (.tmp 24) rfl b 35 kr (.slice oa on oc) (by first|exact(M.cell 35).trans M.c35|exact((M.below (Below.refl _ _).drew).cell 35).trans M.c35) ?_
     refine hK.out _ _ kS (fun _=>?_)
     clear hK K
     try simp only[ZZ]
     refine AR [8] ?_
     refine AC (fun K hK=>?_) ?_
     ·rw[if_pos kr]
      refine qil (.tmp 28) rfl b 36 kr (((s.began+1):Nat):Int) (by first|exact(M.cell 36).trans M.c36|exact((M.below (Below.refl _ _).drew).cell 36).trans M.c36) ?_
      exact sZxn33
     exact AZ
    refine AC (fun K hK=>?_) ?_
    ·rw[if_pos kr]
     refine qil (.tmp 28) rfl b 36 kr (((s.began+1):Nat):Int) (by first|exact(M.cell 36).trans M.c36|exact((M.below (Below.refl _ _).drew).cell 36).trans M.c36) ?_
     refine hK.out _ _ kS (fun _=>?_)
     clear hK K
     try simp only[ZZ]
     refine AR [4,9] ?_
     refine AC (fun K hK=>?_) ?_
     ·rw[if_pos kr]
      refine qly (.tmp 24) rfl b 35 kr (.slice oa on oc) (by first|exact(M.cell 35).trans M.c35|exact((M.below (Below.refl _ _).drew).cell 35).trans M.c35) ?_
      exact sZxn33
     refine AC (fun K hK=>?_) ?_
     ·rw[if_pos kr]
      refine qot (.tmp 29) rfl (((s.began+1):Nat):Int) kr ?_;intro bq w9 l9 R9 h9;(first|replace h9:=qaj h9|skip);(try replace l9:World.heap.size _<=bq:=l9);replace M:=M.below h9;replace B3:=B3.below h9;replace hG:=hG.trans (Gr.of_below (F:=fun _=>False) h9) (fun x hx=>hx.elim);have BQ:=R9;clear R9 h9 l9
      refine hK.out _ _ kS (fun _=>?_)
      clear hK K
      try simp only[ZZ]
      refine AR [4] ?_
      refine AC (fun K hK=>?_) ?_
      ·rw[if_pos kr]
       refine qly (.tmp 24) rfl b 35 kr (.slice oa on oc) (by first|exact(M.cell 35).trans M.c35|exact((M.below (Below.refl _ _).drew).cell 35).trans M.c35) ?_
       exact sZxn31
      exact AZ
     exact AZ
    exact AZ
   exact AZ
  exact AZ
 exact AZ
theorem qwi(fs:List (Nat×Fl))(n:Nat)(k:Fl):(setF fs n k).map (·.1)=fs.map (·.1):=by
 unfold setF
 rw[List.map_map]
 apply List.map_congr_left
 intro x hx
 simp only[Function.comp]
 split
 ·rename_i e;exact e.symm
 ·rfl
theorem q27(fs:List (Nat×Fl))(n:Nat)(k:Fl)(i:Int):(setF fs n k).find? (fun x=>decide ((x.1:Int)=i))=(fs.find? fun x=>decide ((x.1:Int)=i)).map fun x=>if x.1=n then(n,k) else x:=by
 unfold setF
 rw[List.find?_map]
 congr 1
 congr 1
 funext x
 simp only[Function.comp]
 by_cases e:x.1=n
 ·simp[e]
 ·simp[e]
theorem qqv{fs:List (Nat×Fl)}{i:Int}{x:Nat×Fl}(h:fs.find? (fun x=>decide ((x.1:Int)=i))=some x):(x.1:Int)=i:=by simpa using List.find?_some h
theorem qxt{fs:List (Nat×Fl)}{x:Nat×Fl}(k:Fl)(hp:fs.Pairwise (fun x y=>x.1<y.1))(hx:x∈fs):fsF (setF fs x.1 k)=qh4 (fsF fs) (x.1:Int) k:=by
 funext i
 have h1:=qf6 hp hx
 unfold fsF qh4 at *
 rw[q27]
 by_cases e:i=(x.1:Int)
 ·subst e
  rw[if_pos rfl]
  cases hf:fs.find? (fun y=>decide ((y.1:Int)=(x.1:Int))) with
  | none=>rw[hf] at h1;cases h1
  | some y=>
   have:=qqv hf
   have hy:y.1=x.1:=by omega
   simp[hy]
 ·rw[if_neg e]
  cases hf:fs.find? (fun y=>decide ((y.1:Int)=i)) with
  | none=>simp[hf]
  | some y=>
   have:=qqv hf
   have hy:y.1≠x.1:=by omega
   simp[hy,hf]
theorem qle(fs:List (Nat×Fl))(i:Int):duF fs i=(fsF fs i).map (·.du):=by unfold duF fsF;cases fs.find? (fun x=>decide ((x.1:Int)=i))<;>rfl
theorem q89{fs:List (Nat×Fl)}{x:Nat×Fl}(k:Fl)(hp:fs.Pairwise (fun x y=>x.1<y.1))(hx:x∈fs):duF (setF fs x.1 k)=setD (duF fs) (x.1:Int) k.du:=by
 funext i
 rw[qle,qxt k hp hx]
 unfold qh4 setD
 by_cases e:i=(x.1:Int)
 ·rw[if_pos e,if_pos e];rfl
 ·rw[if_neg e,if_neg e,qle]
theorem qum{fs gs:List (Nat×Fl)}(h:gs.map (·.1)=fs.map (·.1))(hp:fs.Pairwise (fun x y=>x.1<y.1)):gs.Pairwise (fun x y=>x.1<y.1):=by
 have h1:(fs.map (·.1)).Pairwise (· < ·):=by rw[List.pairwise_map];exact hp
 rw[←h,List.pairwise_map] at h1
 exact h1
theorem q8b{fs gs:List (Nat×Fl)}(h:gs.map (·.1)=fs.map (·.1)):gs.map (fun x=>(x.1:Int))=fs.map (fun x=>(x.1:Int)):=by
 have:=congrArg (List.map (fun n:Nat=>(n:Int))) h
 rw[List.map_map,List.map_map] at this
 exact this
theorem qja{w:World}{b:Nat}{s:Nt}{F:Nat->Prop}(h:qaw w b s (duF s.fs) F){x:Nat×Fl}(hx:x∈s.fs)(k:Fl)(hd0:0<=s.now)(hd1:s.now<=k.du)(hd2:k.du<=1099511627776):Calls prog 129 #[.pointer (some ⟨b,0,none⟩),.int .i64 ((x.1:Nat):Int),.agg (fc k)] w fun e w'=>e=.returned (.tuple #[])/\∃F',qaw w' b (s.keep x.1 k) (duF (s.keep x.1 k).fs) F'/\Gr F w w'/\∀c,F' c->F c\/w.heap.size<=c:=by
 obtain⟨cs,v,ov,fm,D,Fw0,cnt,M0,hF0⟩:=h
 have M:=M0.bound
 have hnm:=qwi s.fs x.1 k
 have hsome:(fsF s.fs (x.1:Int)).isSome=true:=by rw[qf6 M.up hx];rfl
 have hdu:(duF s.fs (x.1:Int)).isSome=true:=by rw[qle,qf6 M.up hx];rfl
 refine(qh8 M (fun c hc=>hc.2) x.1 k (Nat.le_trans (M.num x hx) M.bg) om hd2 (fun e=>by rw[e] at hdu;cases hdu) (setF s.fs x.1 k) (qxt k M.up hx) (by rw[if_pos hsome];simp[setF]) (qum hnm M.up) (fun y hy=>?_) (by rw[if_pos hdu];simpa[setF] using M.few)).mono ?_
 ·have:y.1∈(setF s.fs x.1 k).map (·.1):=List.mem_map.2 ⟨y,hy,rfl⟩
  rw[hnm] at this
  obtain⟨z,hz,e⟩:=List.mem_map.1 this
  rw[←e];exact M.num z hz
 ·rintro e w' ⟨rfl,cs',fm',D',Fw',cnt',M',hfm,hfw,hg⟩
  refine⟨rfl,FpN Fw' fm' ov v s.ms,⟨cs',v,ov,fm',D',Fw',cnt',?_,fun c hc=>hc⟩,hg.mono (fun c hc=>?_),fun c hc=>?_⟩
  ·show NatM w' b cs' v ov fm' D' Fw' cnt' { s with fs:=setF s.fs x.1 k } (duF (setF s.fs x.1 k)) ((setF s.fs x.1 k).map fun x=>(x.1:Int))
   rw[q89 k M.up hx,q8b hnm]
   have e:max k.du s.now=k.du:=by omega
   rw[e] at M'
   exact M'
  ·rcases hc with hc|hc
   ·exact hF0 c (.inl hc.1)
   ·exact hF0 c (.inr (.inl hc))
  ·rcases hc with hc|hc|hc|hc
   ·rcases hfw c hc with h1|h1
    ·exact .inl (hF0 c (.inl h1.1))
    ·exact .inr h1
   ·rcases hfm c hc with h1|h1
    ·exact .inl (hF0 c (.inr (.inl h1)))
    ·exact .inr h1
   ·exact .inl (hF0 c (.inr (.inr (.inl hc))))
   ·exact .inl (hF0 c (.inr (.inr (.inr hc))))
theorem qaw.flowsCell{w:World}{b:Nat}{s:Nt}{tm:Int->Option Int}{F:Nat->Prop}(h:qaw w b s tm F):∃fm,w.cell? ⟨b,34,none⟩=some (.map fm):=by
 obtain⟨cs,v,ov,fm,D,Fw,cnt,M,hF⟩:=h
 exact⟨fm,(M.cell 34).trans M.c34⟩
theorem qaw.lookAt{w:World}{b:Nat}{s:Nt}{tm:Int->Option Int}{F:Nat->Prop}(h:qaw w b s tm F){fm:Option Nat}(hc:w.cell? ⟨b,34,none⟩=some (.map fm)){x:Nat×Fl}(hx:x∈s.fs):(Instr.lookup 83 (.map fm) (.int .i64 ((x.1:Nat):Int)) false).run prog w=.ok (.agg (fc x.2)) w:=by
 obtain⟨cs,v,ov,fm',D,Fw,cnt,M,hF⟩:=h
 have:=(M.cell 34).trans M.c34
 rw[hc] at this
 cases this
 exact M.look_at hx
theorem qm6{o:Oper}{a:Act}{w:World}{K:Act->World->Prop}{Q:Exit->Act->World->Prop}(t:TypeId)(m x:Operand)(ho:o.op=.lookup t m x false)(mv kv v:Value)(hm:a.eval m=mv)(hx:a.eval x=kv)(hr:(Instr.lookup t mv kv false).run prog w=.ok v w)(hK:K (a.put o.dst v) w):o.wp prog a w K Q:=by
 unfold Oper.wp
 simp[execOp,ho,hm,hx,hr,Result.andThen]
 exact hK
theorem qj9{o:Oper}{a:Act}{w:World}{K:Act->World->Prop}{Q:Exit->Act->World->Prop}(x:Operand)(ho:o.op=.load 83 x)(b f:Nat)(hx:a.eval x=.pointer (some ⟨b,f,none⟩))(v:Value)(hc:w.cell? ⟨b,f,none⟩=some v)(hr:K (a.put o.dst v) w):o.wp prog a w K Q:=by
 unfold Oper.wp execOp
 simp only[ho,hx]
 simp[go_sem,hc,underlying83]
 exact hr
theorem qaw.due{w:World}{b:Nat}{s:Nt}{F:Nat->Prop}(h:qaw w b s (duF s.fs) F){x:Nat×Fl}(hx:x∈s.fs):s.now<=x.2.du/\x.2.du<=1099511627776:=by
 obtain⟨cs,v,ov,fm',D,Fw,cnt,M,hF⟩:=h
 exact M.wheel.due (i:=(x.1:Int)) (by rw[qle,qf6 M.up hx];rfl)
theorem qvb(k:Fl)(x:Int)(inw:Bool):(qem k x inw).1.du=k.du:=by
 unfold qem qbi
 (repeat' split)<;>rfl
theorem q6d{k:Fl}{x now:Int}{inw:Bool}(h0:now<=k.du)(h1:k.du<=1099511627776)(hn:now<=549755813888):now<=(qcu k x inw now).du/\(qcu k x inw now).du<=1099511627776:=by
 have key:(qem k x inw).1.du=k.du:=qvb k x inw
 unfold qcu
 split
 ·have:=quy (qem k x inw).1.pr (qem k x inw).1.st
  simp only
  omega
 ·rw[key];exact⟨h0,h1⟩
theorem sZxn32{p:Prop}(h:p:=by
 refine hK.out _ _ kS (fun _=>?_)
 clear hK K
 try simp only[ZZ]
 refine AR [12] ?_
 refine AC (fun K hK=>?_) ?_
 ·go_simp
  go_at_call 130;refine(qqt x.2 p inw s.now HNW.out.1 (Int.le_trans HNW.out.2 (by decide)) _).mono ?_;rintro e w9 ⟨rfl,hb9⟩;(first|replace hb9:=qaj hb9|skip);replace N:=N.below hb9;clear hb9;replace kS:=N.row 0 rfl
  go_wp2_with fail
  refine hK.out _ _ kS (fun _=>?_)
  clear hK K
  try simp only[ZZ]
  refine AR [13] ?_
  refine AC (fun K hK=>?_) ?_
  ·go_simp
   go_at_call 129;(first|refine(qja N.nat HXM.out (qcu x.2 p.flags inw s.now) HNW.out.1 HDU.out.1 HDU.out.2).mono ?_|refine(qja N.drew.nat HXM.out (qcu x.2 p.flags inw s.now) HNW.out.1 HDU.out.1 HDU.out.2).mono ?_);rintro e w9 ⟨rfl,F9,hN9,hg9,hf9⟩;(first|replace hg9:=qgn hg9|skip);replace N:=N.call hN9 hg9 hf9;clear hN9 hg9 hf9;replace kS:=N.row 0 rfl
   go_wp2_with fail
   refine hK.out _ _ kS (fun _=>?_)
   clear hK K
   try simp only[ZZ]
   refine AN ?_
   clear kS
   go_end0
   first|exact⟨rfl,_,N.nat,N.gr,N.sub⟩|exact⟨rfl,_,N.drew.nat,N.drew.gr,N.drew.sub⟩
  exact AZ
 exact AZ):p:=h
theorem sZxn34{p:Prop}(h:p:=by
 refine hK.out _ _ kS (fun _=>?_)
 clear hK K
 try simp only[ZZ]
 refine AR [7] ?_
 refine AC (fun K hK=>?_) ?_
 ·rw[if_pos kr]
  (first|refine qm6 83 (.tmp 13) (.tmp 14) rfl (.map fm) (.int .i64 ((x.1:Nat):Int)) (.agg (fc x.2)) kr kr (N.nat.lookAt HC.out HXM.out) ?_|refine qm6 83 (.tmp 13) (.tmp 14) rfl (.map fm) (.int .i64 ((x.1:Nat):Int)) (.agg (fc x.2)) kr kr (N.drew.nat.lookAt HC.out HXM.out) ?_)
  exact sZxn32
 exact AZ):p:=h
theorem qvy{w:World}{b:Nat}{s:Nt}{F:Nat->Prop}(h:qaw w b s (duF s.fs) F){x:Nat×Fl}(hx:x∈s.fs)(p:Pkt)(inw:Bool)(hnow:0<=s.now/\s.now<=549755813888):Calls prog 99 #[.pointer (some ⟨b,0,none⟩),.int .i64 ((x.1:Nat):Int),.agg (pcl p),.bool inw] w fun e w'=>e=.returned (.tuple #[])/\∃F',qaw w' b (s.keep x.1 (qcu x.2 p.flags inw s.now)) (duF (s.keep x.1 (qcu x.2 p.flags inw s.now)).fs) F'/\Gr F w w'/\∀c,F' c->F c\/w.heap.size<=c:=by
 have N:=h.start
 have HXM:Hid (x∈s.fs):=hx
 have HNW:Hid (0<=s.now/\s.now<=549755813888):=hnow
 have HDU:Hid _:=hidN (q6d (x:=p.flags) (inw:=inw) (h.due hx).1 (h.due hx).2 hnow.2)
 clear hx hnow
 go_enter func99,ntmps99
 go_upto_region 1 with((with_reducible refine gB 58 2 ?_);refine bx 58 (.tmp 2) (pcl p) ?_;intro b6 w9 l9 R9 h9;replace N:=N.alloc (o:=ob 58 (pcl p)) l9 R9 h9;clear R9 h9 l9)
 obtain⟨fm,hc⟩:=N.nat.flowsCell
 have HC:Hid _:=hidN hc
 clear hc
 have kS:=N.row 0 rfl
 refine RD (fun W=>Row 58 W b6 (pcl p)) kS (fun _=>?_)
 refine tq 0 (.pointer (some ⟨b,0,none⟩)) rfl kS (tq 1 (.int .i64 ((x.1:Nat):Int)) rfl kS (tq 2 (.pointer (some ⟨b,0,none⟩)) rfl kS ?_))
 simp only[ZZ]
 refine tq 3 (.pointer (some ⟨b,0,none⟩)) rfl kS (tq 4 (.pointer (some ⟨b,34,none⟩)) rfl kS (tq 6 (.int .i64 ((x.1:Nat):Int)) rfl kS ?_))
 simp only[ZZ]
 refine tk 8 (.agg (pcl p)) rfl (qav 58 (.tmp 6) rfl kr b6 kr (pcl p) (fun _ h=>h) _ underlying58 rfl (qa0 p)) kS (tq 9 (.bool inw) rfl kS (tq 10 (.pointer (some ⟨b,0,none⟩)) rfl kS ?_))
 simp only[ZZ]
 refine AR [5,11] ?_
 refine AC (fun K hK=>?_) ?_
 ·rw[if_pos kr]
  (first|refine qj9 (.tmp 12) rfl b 34 kr (.map fm) HC.out ?_|refine qj9 (.tmp 12) rfl b 34 kr (.map fm) (show World.cell? (World.drew _) _=_ from HC.out) ?_)
  refine hK.out _ _ kS (fun _=>?_)
  clear hK K
  try simp only[ZZ]
  refine AR [7,11] ?_
  refine AC (fun K hK=>?_) ?_
  ·rw[if_pos kr]
   (first|refine qm6 83 (.tmp 13) (.tmp 14) rfl (.map fm) (.int .i64 ((x.1:Nat):Int)) (.agg (fc x.2)) kr kr (N.nat.lookAt HC.out HXM.out) ?_|refine qm6 83 (.tmp 13) (.tmp 14) rfl (.map fm) (.int .i64 ((x.1:Nat):Int)) (.agg (fc x.2)) kr kr (N.drew.nat.lookAt HC.out HXM.out) ?_)
   refine hK.out _ _ kS (fun _=>?_)
   clear hK K
   try simp only[ZZ]
   refine AR [11] ?_
   refine AC (fun K hK=>?_) ?_
   ·go_simp
    go_at_call 22;(first|refine(qda N.nat).mono ?_|refine(qda N.drew.nat).mono ?_);rintro e w9 ⟨rfl,hw⟩;rw[hw];clear hw w9
    go_wp2_with fail
    exact sZxn32
   exact AZ
  refine AC (fun K hK=>?_) ?_
  ·go_simp
   go_at_call 22;(first|refine(qda N.nat).mono ?_|refine(qda N.drew.nat).mono ?_);rintro e w9 ⟨rfl,hw⟩;rw[hw];clear hw w9
   go_wp2_with fail
   exact sZxn34
  exact AZ
 refine AC (fun K hK=>?_) ?_
 ·go_simp
  go_at_call 22;(first|refine(qda N.nat).mono ?_|refine(qda N.drew.nat).mono ?_);rintro e w9 ⟨rfl,hw⟩;rw[hw];clear hw w9
  go_wp2_with fail
  refine hK.out _ _ kS (fun _=>?_)
  clear hK K
  try simp only[ZZ]
  refine AR [5] ?_
  refine AC (fun K hK=>?_) ?_
  ·rw[if_pos kr]
   (first|refine qj9 (.tmp 12) rfl b 34 kr (.map fm) HC.out ?_|refine qj9 (.tmp 12) rfl b 34 kr (.map fm) (show World.cell? (World.drew _) _=_ from HC.out) ?_)
   exact sZxn34
  exact AZ
 exact AZ
end Go.Proofs.YtnicenfgemkdnaaGreatDoor
