/-
  Of what a law stands on.
-/
import Derived.Deep.DeepCutAuto
import Derived.Test.YtonnjgmognbnbaaGreatDoorZti1
set_option linter.unusedSimpArgs false
set_option linter.unusedVariables false
namespace Go.Proofs.YtonnjgmognbnbaaGreatDoor
open Go.Value renaming int → I,pointer → V
open Go.IntKind renaming i64 → Z
open _root_.Go.Proofs.Tryz Go.RowKit
set_option maxHeartbeats 16000000
set_option maxRecDepth 100000
variable {w w':World}{b:Nat}{cs:Array Value}{p:Prop}
section
open Go.ChangeShapes Go.WideShapes Go.ChangeAt
theorem qmg(s:ByteArray)(a:Nat):(s.extract 20 s.size).extract a (s.extract 20 s.size).size=txt (s.data.toList.drop (20+a)):=by
 rw[←qmw ((s.extract 20 s.size).extract a _),qg5,qg5,List.drop_drop]
theorem qrp(w:World)(cs:Array Value)(q n:Nat)(hn:w.heap.size=n):qbx ((w.alloc (.cells cs 61)).drewN q) n cs:=by
 subst hn
 exact heap_alloc_new w _
theorem qrw(w:World)(cs:Array Value)(o:Obj)(q:Nat):qbx (((w.alloc (.cells cs 61)).alloc o).drewN q) w.heap.size cs:=by
 show((w.alloc (.cells cs 61)).alloc o).heap[w.heap.size]?=_
 rw[Below.heap_alloc _ _ _ zm]
 exact heap_alloc_new w _
theorem qbx.step{r:Nat}(h:qbx w r cs)(st:Step b none none w w')(hne:r≠b):qbx w' r cs:=
 (st.block r (Array.getElem?_eq_some_iff.1 h).1 hne zm).trans h
theorem qma(w:World)(o o':Obj)(q:Nat):Below w.heap.size w (((w.alloc o).alloc o').drewN q):=
 (((Below.refl _ _).alloc (Nat.le_refl _) o).alloc zm o').trans ((qpw q _).mono (by simp;omega))
theorem sZti24(h:p:=by
 refine AR [14] ?_
 refine AC (fun K hK=>?_) ?_
 ·go_simp
  refine hK.out _ _ trivial (fun _=>?_)
  clear hK K
  try simp only[Act.put,List.setIfInBounds_toArray,List.set_cons_zero,List.set_cons_succ]
  refine AN ?_
  go_wp2_with fail
  go_meet
  case rel=>exact⟨rfl,_,rfl⟩
 exact AZ):p:=h
theorem sZti22(h:p:=by
 refine hK.out _ _ trivial (fun _=>?_)
 clear hK K
 try simp only[Act.put,List.setIfInBounds_toArray,List.set_cons_zero,List.set_cons_succ]
 refine AR [11] ?_
 refine AC (fun K hK=>?_) ?_
 ·go_simp
  refine(qh9 s _ _ om om om).mono ?_;rintro e w' ⟨rfl,q,rfl⟩;simp only[Int.reduceToNat]
  go_wp2_with fail
  refine hK.out _ _ trivial (fun _=>?_)
  clear hK K
  try simp only[Act.put,List.setIfInBounds_toArray,List.set_cons_zero,List.set_cons_succ]
  refine tk 12 (.agg #[I Z (byt s.data.toList 9),I Z (lAt s.data.toList 12),I Z 0,I Z (lAt s.data.toList 16),I Z 0,I Z (byt s.data.toList 8),I Z (wAt s.data.toList 4),I Z 0,I Z 0,I Z 0,I Z 0,.string ⟨#[]⟩]) rfl (Or.inl ⟨by rfl,by intro w _;go_simp⟩) trivial ?_
  simp only[Act.put,List.setIfInBounds_toArray,List.set_cons_zero,List.set_cons_succ]
  exact sZti24
 exact AZ):p:=h
theorem sZti25(h:p:=by
 refine hK.out _ _ trivial (fun _=>?_)
 clear hK K
 try simp only[Act.put,List.setIfInBounds_toArray,List.set_cons_zero,List.set_cons_succ]
 refine AR [6] ?_
 refine AC (fun K hK=>?_) ?_
 ·go_simp
  refine(qi7 s _ _ om om om).mono ?_;rintro e w' ⟨rfl,q,rfl⟩;simp only[Int.reduceToNat]
  go_wp2_with fail
  exact sZti22
 exact AZ):p:=h
theorem qn9(s:ByteArray)(w:World)(h20:28<=s.size)(hs:s.size<=65535)(hk:qdc (byt s.data.toList 9)=true)(hf:byt s.data.toList 9=1->byt s.data.toList 20=8\/byt s.data.toList 20=0)(ht:byt s.data.toList 9=6->40<=s.size):
  Calls prog 73 #[.string s] w fun e w'=>e=.returned (pv (qam s.data.toList))/\Below w.heap.size w w':=by
 have g8:=qfo s 8 om;have g9:=qfo s 9 om;obtain⟨b1,b2⟩:=qf3 s.data.toList 8;obtain⟨b3,b4⟩:=qf3 s.data.toList 9;(have k8:(8:Int)<(s.size:Int):=by omega);(have k9:(9:Int)<(s.size:Int):=by omega);have iw8:IntKind.i64.wrap (byt s.data.toList 8)=byt s.data.toList 8:=wrap_i64 _ om om;have iw9:IntKind.i64.wrap (byt s.data.toList 9)=byt s.data.toList 9:=wrap_i64 _ om om;refine m6e ?_;intro sd;(have ad:∀(w:World) (n:Nat) (o:Obj),(w.drewN n).alloc o=(w.alloc o).drewN n:=fun _ _ _=>rfl);refine m1s ?_;intro z2 z3;refine m58 ?_;intro z4
 go_enter func73,ntmps73
 go_wp2
 go_cut [3] (fun t3 wx=>t3=V (some ⟨w.heap.size+1,0,none⟩)/\∃q,wx=((w.alloc (.cells #[I Z 0,I Z 0,I Z 0,I Z 0,I Z 0,I Z 0,I Z 0,I Z 0,I Z 0,I Z 0,I Z 0,.string ⟨#[]⟩] 61)).alloc (.cells #[I Z (byt s.data.toList 9),I Z (lAt s.data.toList 12),I Z 0,I Z (lAt s.data.toList 16),I Z 0,I Z (byt s.data.toList 8),I Z (wAt s.data.toList 4),I Z 0,I Z 0,I Z 0,I Z 0,.string ⟨#[]⟩] 61)).drewN q)
 case first=>
  refine RD (fun _=>True) trivial (fun _=>?_)
  refine tk 0 (.string s) rfl (Or.inl ⟨by rfl,by intro w _;go_simp⟩) trivial ?_
  simp only[Act.put,List.setIfInBounds_toArray,List.set_cons_zero,List.set_cons_succ]
  refine tk 1 (.int .u8 (byt s.data.toList 9)) rfl (Or.inl ⟨by rfl,by intro w _;go_simp⟩) trivial ?_
  simp only[Act.put,List.setIfInBounds_toArray,List.set_cons_zero,List.set_cons_succ]
  refine tk 2 (I Z (byt s.data.toList 9)) rfl (Or.inl ⟨by rfl,by intro w _;go_simp⟩) trivial ?_
  simp only[Act.put,List.setIfInBounds_toArray,List.set_cons_zero,List.set_cons_succ]
  refine tk 3 (.string s) rfl (Or.inl ⟨by rfl,by intro w _;go_simp⟩) trivial ?_
  simp only[Act.put,List.setIfInBounds_toArray,List.set_cons_zero,List.set_cons_succ]
  refine tk 5 (.string s) rfl (Or.inl ⟨by rfl,by intro w _;go_simp⟩) trivial ?_
  simp only[Act.put,List.setIfInBounds_toArray,List.set_cons_zero,List.set_cons_succ]
  refine tk 7 (.string s) rfl (Or.inl ⟨by rfl,by intro w _;go_simp⟩) trivial ?_
  simp only[Act.put,List.setIfInBounds_toArray,List.set_cons_zero,List.set_cons_succ]
  refine tk 8 (.int .u8 (byt s.data.toList 8)) rfl (Or.inl ⟨by rfl,by intro w _;go_simp⟩) trivial ?_
  simp only[Act.put,List.setIfInBounds_toArray,List.set_cons_zero,List.set_cons_succ]
  refine tk 9 (I Z (byt s.data.toList 8)) rfl (Or.inl ⟨by rfl,by intro w _;go_simp⟩) trivial ?_
  simp only[Act.put,List.setIfInBounds_toArray,List.set_cons_zero,List.set_cons_succ]
  refine tk 10 (.string s) rfl (Or.inl ⟨by rfl,by intro w _;go_simp⟩) trivial ?_
  simp only[Act.put,List.setIfInBounds_toArray,List.set_cons_zero,List.set_cons_succ]
  refine AR [4,13] ?_
  refine AC (fun K hK=>?_) ?_
  ·go_simp
   refine(qi7 s _ _ om om om).mono ?_;rintro e w' ⟨rfl,q,rfl⟩;simp only[Int.reduceToNat]
   go_wp2_with fail
   refine hK.out _ _ trivial (fun _=>?_)
   clear hK K
   try simp only[Act.put,List.setIfInBounds_toArray,List.set_cons_zero,List.set_cons_succ]
   refine AR [6,13] ?_
   refine AC (fun K hK=>?_) ?_
   ·go_simp
    refine(qi7 s _ _ om om om).mono ?_;rintro e w' ⟨rfl,q,rfl⟩;simp only[Int.reduceToNat]
    go_wp2_with fail
    refine hK.out _ _ trivial (fun _=>?_)
    clear hK K
    try simp only[Act.put,List.setIfInBounds_toArray,List.set_cons_zero,List.set_cons_succ]
    refine AR [11,13] ?_
    refine AC (fun K hK=>?_) ?_
    ·go_simp
     refine(qh9 s _ _ om om om).mono ?_;rintro e w' ⟨rfl,q,rfl⟩;simp only[Int.reduceToNat]
     go_wp2_with fail
     refine hK.out _ _ trivial (fun _=>?_)
     clear hK K
     try simp only[Act.put,List.setIfInBounds_toArray,List.set_cons_zero,List.set_cons_succ]
     refine tk 12 (.agg #[I Z (byt s.data.toList 9),I Z (lAt s.data.toList 12),I Z 0,I Z (lAt s.data.toList 16),I Z 0,I Z (byt s.data.toList 8),I Z (wAt s.data.toList 4),I Z 0,I Z 0,I Z 0,I Z 0,.string ⟨#[]⟩]) rfl (Or.inl ⟨by rfl,by intro w _;go_simp⟩) trivial ?_
     simp only[Act.put,List.setIfInBounds_toArray,List.set_cons_zero,List.set_cons_succ]
     refine AR [13] ?_
     refine AC (fun K hK=>?_) AZ
     go_simp
     refine hK.out _ _ trivial (fun _=>?_)
     clear hK K
     try simp only[Act.put,List.setIfInBounds_toArray,List.set_cons_zero,List.set_cons_succ]
     exact sZti24
    refine AC (fun K hK=>?_) AZ
    go_simp
    exact sZti22
   refine AC (fun K hK=>?_) AZ
   go_simp
   exact sZti25
  refine AC (fun K hK=>?_) AZ
  go_simp
  refine hK.out _ _ trivial (fun _=>?_)
  clear hK K
  try simp only[Act.put,List.setIfInBounds_toArray,List.set_cons_zero,List.set_cons_succ]
  refine AR [4] ?_
  refine AC (fun K hK=>?_) AZ
  go_simp
  refine(qi7 s _ _ om om om).mono ?_;rintro e w' ⟨rfl,q,rfl⟩;simp only[Int.reduceToNat]
  go_wp2_with fail
  exact sZti25
 case rest=>
  obtain⟨rfl,q,rfl⟩:=hcut
  clear g8 g9 iw8 iw9
  rcases(qei _).1 hk with h1|h1|h1
  ·have pn:qb4 1=8:=rfl
   rcases hf h1 with h8|h8
   ·have E:Hid (pv (qam s.data.toList)=.agg #[I Z 1,I Z (lAt s.data.toList 12),I Z (wAt s.data.toList 24),I Z (lAt s.data.toList 16),I Z 0,I Z (byt s.data.toList 8),I Z (wAt s.data.toList 4),I Z 8,I Z (wAt s.data.toList 26),I Z 0,I Z 0,.string ((s.extract 20 s.size).extract 8 (s.size-20))]):=by
     show _=_
     unfold qam pv
     rw[if_pos h1,←z2,qmg,h8,if_pos rfl,if_pos rfl]
    rw[h1]
    go_wp2_with (first|(go_at_call 80;refine m5s ?_;rintro e w' ⟨rfl,rfl⟩)|(go_at_call 113;refine(qt6 _ s _ _ _ _ _ _ _ _ _ h20 hs (qrp _ _ _ _ zm) h8).mono ?_;refine m6l ?_;intro w' c0 f0 c1 f1 hB))
    refine bodyPost_ret (v:=.agg #[I Z 1,I Z (lAt s.data.toList 12),I Z (wAt s.data.toList 24),I Z (lAt s.data.toList 16),I Z 0,I Z (byt s.data.toList 8),I Z (wAt s.data.toList 4),I Z 8,I Z (wAt s.data.toList 26),I Z 0,I Z 0,.string ((s.extract 20 s.size).extract 8 (s.size-20))]) (by simp[results,results73,go_sem,c0]) rfl ⟨by rw[E.out],?_⟩
    iterate 12 (refine Below.setCell ?_ (by exact Nat.le_refl _) _)
    exact hB
   ·have E:Hid (pv (qam s.data.toList)=.agg #[I Z 1,I Z (lAt s.data.toList 12),I Z 0,I Z (lAt s.data.toList 16),I Z (wAt s.data.toList 24),I Z (byt s.data.toList 8),I Z (wAt s.data.toList 4),I Z 0,I Z (wAt s.data.toList 26),I Z 0,I Z 0,.string ((s.extract 20 s.size).extract 8 (s.size-20))]):=by
     show _=_
     unfold qam pv
     rw[if_pos h1,←z2,qmg,h8,if_neg om,if_neg om]
    rw[h1]
    go_wp2_with (first|(go_at_call 80;refine m5s ?_;rintro e w' ⟨rfl,rfl⟩)|(go_at_call 113;refine(qqb _ s _ _ _ _ _ _ _ _ _ h20 hs (qrp _ _ _ _ zm) h8).mono ?_;refine m6l ?_;intro w' c0 f0 c1 f1 hB))
    refine bodyPost_ret (v:=.agg #[I Z 1,I Z (lAt s.data.toList 12),I Z 0,I Z (lAt s.data.toList 16),I Z (wAt s.data.toList 24),I Z (byt s.data.toList 8),I Z (wAt s.data.toList 4),I Z 0,I Z (wAt s.data.toList 26),I Z 0,I Z 0,.string ((s.extract 20 s.size).extract 8 (s.size-20))]) (by simp[results,results73,go_sem,c0]) rfl ⟨by rw[E.out],?_⟩
    iterate 12 (refine Below.setCell ?_ (by exact Nat.le_refl _) _)
    exact hB
  ·have pn:qb4 6=20:=rfl;have h40:=ht h1
   have E:Hid (pv (qam s.data.toList)=.agg #[I Z 6,I Z (lAt s.data.toList 12),I Z (wAt s.data.toList 20),I Z (lAt s.data.toList 16),I Z (wAt s.data.toList 22),I Z (byt s.data.toList 8),I Z (wAt s.data.toList 4),I Z (byt s.data.toList 33),I Z (lAt s.data.toList 24),I Z (lAt s.data.toList 28),I Z (wAt s.data.toList 34),.string ((s.extract 20 s.size).extract 20 (s.size-20))]):=by
    show _=_
    unfold qam pv
    rw[if_neg om,if_pos h1,←z2,qmg]
   obtain⟨b5,b6⟩:=qf3 s.data.toList 33;(have ge13:∀h,(((s.extract 20 s.size)[13]'h).toNat:Int)=byt s.data.toList 33:=fun h=>qi8 s 13 h);have iw33:IntKind.i64.wrap (byt s.data.toList 33)=byt s.data.toList 33:=wrap_i64 _ om om;(have z6:(13:Int)<(s.size:Int)-20:=by omega);rw[h1]
   go_wp2_with (first|(go_at_call 80;refine m5s ?_;rintro e w' ⟨rfl,rfl⟩)|(go_at_call 109;refine m70 ?_;rintro e w' ⟨rfl,q,rfl⟩;simp only[Int.reduceToNat,Nat.reduceAdd])|(go_at_call 112;refine(qt3 s _ _ om hs om om).mono ?_;rintro e w' ⟨rfl,q,rfl⟩;simp only[Int.reduceToNat,Nat.reduceAdd]))
   go_region_held3 (fun _=>True) (trivial) (first|(go_at_call 109;refine m70 ?_;rintro e w' ⟨rfl,q,rfl⟩;simp only[Int.reduceToNat,Nat.reduceAdd]))
   all_goals
    go_wp2_with fail
    exact bodyPost_ret (v:=.agg #[I Z 6,I Z (lAt s.data.toList 12),I Z (wAt s.data.toList 20),I Z (lAt s.data.toList 16),I Z (wAt s.data.toList 22),I Z (byt s.data.toList 8),I Z (wAt s.data.toList 4),I Z (byt s.data.toList 33),I Z (lAt s.data.toList 24),I Z (lAt s.data.toList 28),I Z (wAt s.data.toList 34),.string ((s.extract 20 s.size).extract 20 (s.size-20))]) (by simp[results,results73,go_sem]) rfl ⟨by rw[E.out],qma _ _ _ _⟩
  ·have pn:qb4 17=8:=rfl
   have E:Hid (pv (qam s.data.toList)=.agg #[I Z 17,I Z (lAt s.data.toList 12),I Z (wAt s.data.toList 20),I Z (lAt s.data.toList 16),I Z (wAt s.data.toList 22),I Z (byt s.data.toList 8),I Z (wAt s.data.toList 4),I Z 0,I Z 0,I Z 0,I Z 0,.string ((s.extract 20 s.size).extract 8 (s.size-20))]):=by
    show _=_
    unfold qam pv
    rw[if_neg om,if_neg om,←z2,qmg,h1]
   rw[h1]
   go_wp2_with (first|(go_at_call 80;refine m5s ?_;rintro e w' ⟨rfl,rfl⟩)|(go_at_call 109;refine m70 ?_;rintro e w' ⟨rfl,q,rfl⟩;simp only[Int.reduceToNat,Nat.reduceAdd])|(go_at_call 112;refine(qt3 s _ _ om hs om om).mono ?_;rintro e w' ⟨rfl,q,rfl⟩;simp only[Int.reduceToNat,Nat.reduceAdd]))
   exact bodyPost_ret (v:=.agg #[I Z 17,I Z (lAt s.data.toList 12),I Z (wAt s.data.toList 20),I Z (lAt s.data.toList 16),I Z (wAt s.data.toList 22),I Z (byt s.data.toList 8),I Z (wAt s.data.toList 4),I Z 0,I Z 0,I Z 0,I Z 0,.string ((s.extract 20 s.size).extract 8 (s.size-20))]) (by simp[results,results73,go_sem]) rfl ⟨by rw[E.out],qma _ _ _ _⟩
end
structure qls(l:List UInt8):Prop where
 len:20<=l.length
 mark:byt l 0=69
 size:wAt l 2=l.length
 sum:bk (tot (l.take 20))=65535
 serv:byt l 1=0
 piece:wAt l 6=0
 ttl:byt l 8≠0
 kind:qdc (byt l 9)=true
theorem qk8(l:List UInt8)(h:qcw l=0):qls l:=by
 unfold qcw at h
 by_cases h1:l.length<20
 ·rw[if_pos h1] at h;omega
 rw[if_neg h1] at h
 by_cases h2:byt l 0≠69
 ·rw[if_pos h2] at h;omega
 rw[if_neg h2] at h
 by_cases h3:wAt l 2≠l.length
 ·rw[if_pos h3] at h;omega
 rw[if_neg h3] at h
 by_cases h4:bk (tot (l.take 20))≠65535
 ·rw[if_pos h4] at h;omega
 rw[if_neg h4] at h
 by_cases h5:byt l 1≠0
 ·rw[if_pos h5] at h;omega
 rw[if_neg h5] at h
 by_cases h6:wAt l 6≠0
 ·rw[if_pos h6] at h;omega
 rw[if_neg h6] at h
 by_cases h7:byt l 8=0
 ·rw[if_pos h7] at h;omega
 rw[if_neg h7] at h
 by_cases h8:qdc (byt l 9)=false
 ·rw[if_pos h8] at h;omega
 exact⟨by omega,by omega,by omega,by omega,by omega,by omega,h7,by simpa using h8⟩
structure qom(l:List UInt8)(proto:Int):Prop where
 len:qb4 proto<=(l.length:Int)-20
 sum:bk (tot (chkd l proto))=65535
 udpSum:proto=17->wAt l 26≠0
 ping:proto=1->byt l 20=8\/byt l 20=0
 ping':proto=1->byt l 21=0
 tcp1:proto=6->byt l 32=80
 tcp2:proto=6->byt l 33<=63
 tcp3:proto=6->wAt l 38=0
 udp:proto=17->wAt l 24=(l.length:Int)-20
theorem qsp(l:List UInt8)(proto:Int)(h:qcx l proto=0):qom l proto:=by
 unfold qcx at h
 by_cases h1:(l.length:Int)-20<qb4 proto
 ·rw[if_pos h1] at h;omega
 rw[if_neg h1] at h
 by_cases h2:bk (tot (chkd l proto))≠65535
 ·rw[if_pos h2] at h;omega
 rw[if_neg h2] at h
 by_cases h3:proto=17/\wAt l 26=0
 ·rw[if_pos h3] at h;omega
 rw[if_neg h3] at h
 by_cases h4:proto=1/\byt l 20≠8/\byt l 20≠0
 ·rw[if_pos h4] at h;omega
 rw[if_neg h4] at h
 by_cases h5:proto=1/\byt l 21≠0
 ·rw[if_pos h5] at h;omega
 rw[if_neg h5] at h
 by_cases h6:proto=6/\byt l 32≠80
 ·rw[if_pos h6] at h;omega
 rw[if_neg h6] at h
 by_cases h7:proto=6/\63<byt l 33
 ·rw[if_pos h7] at h;omega
 rw[if_neg h7] at h
 by_cases h8:proto=6/\wAt l 38≠0
 ·rw[if_pos h8] at h;omega
 rw[if_neg h8] at h
 by_cases h9:proto=17/\wAt l 24≠(l.length:Int)-20
 ·rw[if_pos h9] at h;omega
 exact⟨by omega,by omega,by omega,by omega,by omega,by omega,by omega,by omega,by omega⟩
theorem qls.small{l:List UInt8}(h:qls l):l.length<=65535:=by
 have:=h.size;have:=qhr l 2;omega
theorem qge(n:Int)(h:qdc n=true):8<=qb4 n:=by
 rcases(qei _).1 h with rfl|rfl|rfl<;>decide
theorem qgi(l:List UInt8)(h:bad l=0):qls l/\qom l (byt l 9)/\good (qam l)=0:=by
 unfold bad at h
 by_cases h1:qcw l≠0
 ·rw[if_pos h1] at h;omega
 rw[if_neg h1] at h
 by_cases h2:qcx l (byt l 9)≠0
 ·rw[if_pos h2] at h;omega
 rw[if_neg h2] at h
 exact⟨qk8 l om,qsp l _ om,h⟩
section
open Go.ChangeShapes Go.WideShapes Go.ChangeAt
theorem qmh(e:Int)(w:World):Calls prog 71 #[I Z e] w fun r w'=>r=.returned (.tuple #[pv p0,I Z e])/\Below w.heap.size w w':=by
 go_enter func71,ntmps71
 go_wp2
 exact bodyPost_ret (v:=.tuple #[pv p0,I Z e]) (by simp[results,results71,go_sem,pv,p0];rfl) rfl ⟨rfl,((Below.refl _ _).alloc (Nat.le_refl _) _).alloc zm _⟩
theorem qbx.below(h:qbx w b cs)(hb:Below w.heap.size w w'):qbx w' b cs:=
 (hb.block b (Array.getElem?_eq_some_iff.1 h).1).trans h
theorem q0g(s:ByteArray)(w:World)(hs:s.size<=140737488351232)(h:qcw s.data.toList≠0):
  Calls prog 29 #[.string s] w fun e w'=>e=.returned (.tuple #[pv p0,I Z (qcw s.data.toList)])/\Below w.heap.size w w':=by
 (have hn:(qcw s.data.toList==0)=false:=by simpa using h);refine m05 ?_;intro T0 hB c0 f0
 go_enter func29,ntmps29
 go_wp2_with (first|(go_at_call 70;refine(qh2 s _ hs).mono ?_;rintro e w' ⟨rfl,hb⟩;refine m1l ?_;clear T0 hB hb;intro T0 hB c0 f0)|(go_at_call 71;refine(qmh _ _).mono ?_;rintro e w' ⟨rfl,hb⟩;refine m1l ?_;clear T0 hB hb;intro T0 hB c0 f0;unfold pv p0))
 refine bodyPost_ret (v:=.tuple #[pv p0,I Z (qcw s.data.toList)]) (by simp[results,results29,go_sem,pv,p0,c0]<;>rfl) rfl ⟨rfl,?_⟩
 iterate 12 (refine Below.setCell ?_ (by exact Nat.le_refl _) _)
 exact hB
theorem qyw(s:ByteArray)(w:World)(hs:s.size<=140737488351232)(h0:qcw s.data.toList=0)(h1:qcx s.data.toList (byt s.data.toList 9)≠0):
  Calls prog 29 #[.string s] w fun e w'=>e=.returned (.tuple #[pv p0,I Z (qcx s.data.toList (byt s.data.toList 9))])/\Below w.heap.size w w':=by
 have H:=qk8 _ h0;(have h20:20<=s.size:=by have:=H.len;rw[qb6] at this;exact this);(have h65:s.size<=65535:=by have:=H.small;rw[qb6] at this;exact this);have g9:=qfo s 9 om;obtain⟨b3,b4⟩:=qf3 s.data.toList 9;(have hz:(qcw s.data.toList==0)=true:=by simpa using h0);(have hn:(qcx s.data.toList (byt s.data.toList 9)==0)=false:=by simpa using h1);refine m05 ?_;intro T0 hB c0 f0
 go_enter func29,ntmps29
 go_wp2_with (first|(go_at_call 70;refine(qh2 s _ hs).mono ?_;rintro e w' ⟨rfl,hb⟩;rw[h0];refine m1l ?_;clear T0 hB hb;intro T0 hB c0 f0)|(go_at_call 72;refine(qkj s _ _ h20 h65 H.kind).mono ?_;rintro e w' ⟨rfl,hb⟩;refine m1l ?_;clear T0 hB hb;intro T0 hB c0 f0)|(go_at_call 71;refine(qmh _ _).mono ?_;rintro e w' ⟨rfl,hb⟩;refine m1l ?_;clear T0 hB hb;intro T0 hB c0 f0;unfold pv p0))
 refine bodyPost_ret (v:=.tuple #[pv p0,I Z (qcx s.data.toList (byt s.data.toList 9))]) (by simp[results,results29,go_sem,pv,p0,c0]<;>rfl) rfl ⟨rfl,?_⟩
 iterate 12 (refine Below.setCell ?_ (by exact Nat.le_refl _) _)
 exact hB
theorem qv4(l:List UInt8):(qam l).body.size<=l.length:=by
 unfold qam
 split<;>(try split)<;>simp[qck]<;>omega
theorem q1d(s:ByteArray)(w:World)(hs:s.size<=140737488351232)(h0:qcw s.data.toList=0)(h1:qcx s.data.toList (byt s.data.toList 9)=0)(k:Pkt)(hk:qam s.data.toList=k)(h2:good k≠0):
  Calls prog 29 #[.string s] w fun e w'=>e=.returned (.tuple #[pv p0,I Z (good k)])/\Below w.heap.size w w':=by
 refine m2d ?_;intro H h20 h65 g9 b3 b4 hz P hpl h28 hf ht hbody;(have hn:(good k==0)=false:=by simpa using h2);refine m05 ?_;intro T0 hB c0 f0
 go_enter func29,ntmps29
 go_wp2_with (first|(go_at_call 70;refine(qh2 s _ hs).mono ?_;rintro e w' ⟨rfl,hb⟩;rw[h0];refine m1l ?_;clear T0 hB hb;intro T0 hB c0 f0)|(go_at_call 72;refine(qkj s _ _ h20 h65 H.kind).mono ?_;rintro e w' ⟨rfl,hb⟩;rw[h1];refine m1l ?_;clear T0 hB hb;intro T0 hB c0 f0)|(go_at_call 73;refine(qn9 s _ h28 h65 H.kind hf ht).mono ?_;rintro e w3 ⟨rfl,hb⟩;refine m1l ?_;clear T0 hB hb;intro T0 hB c0 f0;rw[hk];unfold pv;refine m0q ?_;clear hB T0;intro T1 hB T0)|(go_at_call 47;refine(qke k _ hbody).mono ?_;rintro e w' ⟨rfl,hb⟩;replace T0:=T0.below hb;replace hB:=hB.trans (hb.mono hB.size);replace T1:=T1.below hb;clear hb;have c0:=T0.cell;have f0:=T0.free;have c1:=T1.cell;have f1:=T1.free)|(go_at_call 71;refine(qmh _ _).mono ?_;rintro e w' ⟨rfl,hb⟩;refine m1l ?_;clear T0 hB hb;intro T0 hB c0 f0;unfold pv p0))
 refine bodyPost_ret (v:=.tuple #[pv p0,I Z (good k)]) (by simp[results,results29,go_sem,pv,p0,c0]<;>rfl) rfl ⟨rfl,?_⟩
 iterate 12 (refine Below.setCell ?_ (by exact Nat.le_refl _) _)
 exact hB
theorem q01(s:ByteArray)(w:World)(hs:s.size<=140737488351232)(h0:qcw s.data.toList=0)(h1:qcx s.data.toList (byt s.data.toList 9)=0)(k:Pkt)(hk:qam s.data.toList=k)(h2:good k=0):
  Calls prog 29 #[.string s] w fun e w'=>e=.returned (.tuple #[pv k,I Z 0])/\Below w.heap.size w w':=by
 refine m2d ?_;intro H h20 h65 g9 b3 b4 hz P hpl h28 hf ht hbody;refine m05 ?_;intro T0 hB c0 f0
 go_enter func29,ntmps29
 go_wp2_with (first|(go_at_call 70;refine(qh2 s _ hs).mono ?_;rintro e w' ⟨rfl,hb⟩;rw[h0];refine m1l ?_;clear T0 hB hb;intro T0 hB c0 f0)|(go_at_call 72;refine(qkj s _ _ h20 h65 H.kind).mono ?_;rintro e w' ⟨rfl,hb⟩;rw[h1];refine m1l ?_;clear T0 hB hb;intro T0 hB c0 f0)|(go_at_call 73;refine(qn9 s _ h28 h65 H.kind hf ht).mono ?_;rintro e w3 ⟨rfl,hb⟩;refine m1l ?_;clear T0 hB hb;intro T0 hB c0 f0;rw[hk];unfold pv;refine m0q ?_;clear hB T0;intro T1 hB T0)|(go_at_call 47;refine(qke k _ hbody).mono ?_;rintro e w' ⟨rfl,hb⟩;rw[h2];replace T0:=T0.below hb;replace hB:=hB.trans (hb.mono hB.size);replace T1:=T1.below hb;clear hb;have c0:=T0.cell;have f0:=T0.free;have c1:=T1.cell;have f1:=T1.free))
 refine bodyPost_ret (v:=.tuple #[pv k,I Z 0]) (by simp[results,results29,go_sem,pv,c0]) rfl ⟨rfl,?_⟩
 iterate 12 (refine Below.setCell ?_ (by exact Nat.le_refl _) _)
 exact hB
theorem qch(s:ByteArray)(w:World)(hs:s.size<=140737488351232):
  Calls prog 29 #[.string s] w fun e w'=>e=.returned (.tuple #[pv (qb9 s.data.toList),I Z (bad s.data.toList)])/\Below w.heap.size w w':=by
 by_cases h0:qcw s.data.toList=0
 ·by_cases h1:qcx s.data.toList (byt s.data.toList 9)=0
  ·(have e:bad s.data.toList=good (qam s.data.toList):=by unfold bad;rw[if_neg om,if_neg om])
   by_cases h2:good (qam s.data.toList)=0
   ·rw[qb9,e,if_pos h2,h2];exact q01 s w hs h0 h1 _ rfl h2
   ·rw[qb9,e,if_neg h2];exact q1d s w hs h0 h1 _ rfl h2
  ·(have e:bad s.data.toList=qcx s.data.toList (byt s.data.toList 9):=by unfold bad;rw[if_neg om,if_pos h1])
   rw[qb9,e,if_neg h1];exact qyw s w hs h0 h1
 ·(have e:bad s.data.toList=qcw s.data.toList:=by unfold bad;rw[if_pos h0])
  rw[qb9,e,if_neg h0];exact q0g s w hs h0
def twoB(n:Int):Bool:=n==0||n==65535
def qg8(l:List UInt8)(proto:Int):List UInt8:=if twoB (wAt l (qbd proto))=true then qgf l proto else l
theorem qky(p g:Nat)(l:List UInt8)(w:World)(h:Rd w p g l)(proto:Int)(hl:qbd proto+1<l.length)(hm:l.length<=400000):
  Calls prog 138 #[V (some ⟨p,0,none⟩),I Z proto] w fun e w'=>e=.returned (.tuple #[])/\Rd w' p g (qg8 l proto)/\Step p (some g) (some g) w w':=by
 have hS:=Step.refl p (some g) w;(have two:∀(n:Int) (w:World),Calls prog 170 #[I Z n] w fun e w'=>e=.returned (.bool (twoB n))/\w'=w:=qw4)
 by_cases ht:twoB (wAt l (qbd proto))=true
 ·(have E:Hid (qg8 l proto=qgf l proto):=by show _=_;unfold qg8;rw[if_pos ht])
  go_enter func138,ntmps138
  go_wp2_with (first|(go_at_call 111;refine(qdp _ _).mono ?_;rintro e w' ⟨rfl,rfl⟩)|(go_at_call 168;refine(qli p g _ _ h _ hl).mono ?_;refine m91 ?_;clear hS;intro w' h hS)|(go_at_call 170;refine(two _ _).mono ?_;rintro e w' ⟨rfl,rfl⟩)|(go_at_call 119;refine(qlk p g _ _ h _ hl hm).mono ?_;refine m91 ?_;clear hS;intro w' h hS))
  go_end0
  exact⟨rfl,by rw[E.out];exact h,hS⟩
 ·(have E:Hid (qg8 l proto=l):=by show _=_;unfold qg8;rw[if_neg ht]);(have ht':twoB (wAt l (qbd proto))=false:=by simpa using ht)
  go_enter func138,ntmps138
  go_wp2_with (first|(go_at_call 111;refine(qdp _ _).mono ?_;rintro e w' ⟨rfl,rfl⟩)|(go_at_call 168;refine(qli p g _ _ h _ hl).mono ?_;refine m91 ?_;clear hS;intro w' h hS)|(go_at_call 170;refine(two _ _).mono ?_;rintro e w' ⟨rfl,rfl⟩))
  go_end0
  exact⟨rfl,by rw[E.out];exact h,hS⟩
theorem qjw(s:ByteArray)(w:World):∃(C:Array Value) (cap:Nat),
  (convert 9 168 (.string s)).run prog w=.ok (.slice (some ⟨w.heap.size,0,none⟩) s.size cap) (w.drew.alloc (.cells C 5 (C.size,C.size+1)))/\
  s.size<=cap/\(s.size<=maxLen->cap<=maxLen)/\C.toList.take s.data.toList.length=bc s.data.toList:=by
 refine⟨_,_,run_bytes_of_string w 9 168 5 s underlying9 underlying168 underlying5,grownCap_ge _ _ _ _,fun h=>grownCap_le_maxLen _ _ _ _ h,?_⟩
 unfold bytesRow bc
 rw[Array.toList_append,List.take_append_of_le_length zm,List.take_of_length_le zm]
 simp
theorem qrr(w:World)(s:ByteArray)(C:Array Value)(cap p g:Nat)(hg:w.heap.size=g)(hp:w.heap.size+1=p)(h1:s.size<=cap)(h2:cap<=maxLen)(h3:C.toList.take s.data.toList.length=bc s.data.toList):
  Rd (((w.alloc (.cells C 5 (C.size,C.size+1))).alloc (.cells #[.slice (some ⟨g,0,none⟩) s.size cap] 170)).drew) p g s.data.toList:=by
 show Rd ((w.alloc (.cells C 5 (C.size,C.size+1))).alloc (.cells #[.slice (some ⟨g,0,none⟩) s.size cap] 170)) p g s.data.toList
 subst hg hp
 refine⟨cap,C,(C.size,C.size+1),?_,by omega,?_,.inr (Nat.le_refl _),by rw[qb6];exact h1,h2,h3⟩
 ·rw[qb6]
  have:=heap_alloc_new (w.alloc (.cells C 5 (C.size,C.size+1))) (.cells #[.slice (some ⟨w.heap.size,0,none⟩) s.size cap] 170)
  simpa using this
 ·rw[Below.heap_alloc _ _ _ zm]
  exact heap_alloc_new w _
theorem q60(s:ByteArray)(side addr port:Int)(w:World)(hs:s.size<=140737488351232)(k:Pkt)(hk:qb9 s.data.toList=k)(e0:Int)(hb:bad s.data.toList=e0)(he:e0≠0):
  Calls prog 94 #[.string s,I Z side,I Z addr,I Z port] w fun e w'=>e=.returned (.tuple #[.string ByteArray.empty,I Z e0])/\Below w.heap.size w w':=by
 (have hz:(e0==0)=false:=by simpa using he)
 go_enter func94,ntmps94
 go_wp2_with (first|(go_at_call 29;refine m3m ?_;intro w1 hb1;unfold pv;refine m02 ?_;intro T1 c1)|(go_at_call 114;refine(qdz _ _).mono ?_;rintro e w' ⟨rfl,rfl⟩)|(go_at_call 121;refine(qd1 _ _).mono ?_;rintro e w' ⟨rfl,rfl⟩)|(go_at_call 122;refine m8d ?_;rintro e w' ⟨rfl,rfl⟩))
 all_goals
  go_ret2
  exact⟨rfl,hb1.alloc hb1.size _⟩
theorem q1j(s:ByteArray)(side addr port:Int)(w:World)(hs:s.size<=140737488351232)(k:Pkt)(hk:qb9 s.data.toList=k)(hb:bad s.data.toList=0)(h0:side≠0)(h1:side≠1):
  Calls prog 94 #[.string s,I Z side,I Z addr,I Z port] w fun e w'=>e=.returned (.tuple #[.string ByteArray.empty,I Z 2])/\Below w.heap.size w w':=by
 (have h0':(side==0)=false:=by simpa using h0);(have h1':(side==1)=false:=by simpa using h1)
 go_enter func94,ntmps94
 go_wp2_with (first|(go_at_call 29;refine m3m ?_;intro w1 hb1;unfold pv;refine m02 ?_;intro T1 c1)|(go_at_call 114;refine(qdz _ _).mono ?_;rintro e w' ⟨rfl,rfl⟩)|(go_at_call 121;refine(qd1 _ _).mono ?_;rintro e w' ⟨rfl,rfl⟩)|(go_at_call 122;refine m8d ?_;rintro e w' ⟨rfl,rfl⟩))
 all_goals
  go_ret2
  exact⟨rfl,hb1.alloc hb1.size _⟩
theorem q4e(s:ByteArray)(side addr port:Int)(w:World)(hs:s.size<=140737488351232)(k:Pkt)(hk:qb9 s.data.toList=k)(hb:bad s.data.toList=0)(h0:side=0\/side=1)(ha:qeb addr=false):
  Calls prog 94 #[.string s,I Z side,I Z addr,I Z port] w fun e w'=>e=.returned (.tuple #[.string ByteArray.empty,I Z 2])/\Below w.heap.size w w':=by
 rcases h0 with rfl|rfl
 all_goals
  go_enter func94,ntmps94
  go_wp2_with (first|(go_at_call 29;refine m3m ?_;intro w1 hb1;unfold pv;refine m02 ?_;intro T1 c1)|(go_at_call 114;refine(qdz _ _).mono ?_;rintro e w' ⟨rfl,rfl⟩)|(go_at_call 121;refine(qd1 _ _).mono ?_;rintro e w' ⟨rfl,rfl⟩)|(go_at_call 122;refine m8d ?_;rintro e w' ⟨rfl,rfl⟩))
  all_goals
   go_ret2
   exact⟨rfl,hb1.alloc hb1.size _⟩
theorem q34(s:ByteArray)(side addr port:Int)(w:World)(hs:s.size<=140737488351232)(k:Pkt)(hk:qb9 s.data.toList=k)(hb:bad s.data.toList=0)(h0:side=0\/side=1)(ha:qeb addr=true)(hp:qc7 port=false):
  Calls prog 94 #[.string s,I Z side,I Z addr,I Z port] w fun e w'=>e=.returned (.tuple #[.string ByteArray.empty,I Z 2])/\Below w.heap.size w w':=by
 rcases h0 with rfl|rfl
 all_goals
  go_enter func94,ntmps94
  go_wp2_with (first|(go_at_call 29;refine m3m ?_;intro w1 hb1;unfold pv;refine m02 ?_;intro T1 c1)|(go_at_call 114;refine(qdz _ _).mono ?_;rintro e w' ⟨rfl,rfl⟩)|(go_at_call 121;refine(qd1 _ _).mono ?_;rintro e w' ⟨rfl,rfl⟩)|(go_at_call 122;refine m8d ?_;rintro e w' ⟨rfl,rfl⟩))
  all_goals
   go_ret2
   exact⟨rfl,hb1.alloc hb1.size _⟩
theorem q2n(s:ByteArray)(side addr port:Int)(w:World)(hs:s.size<=140737488351232)(k:Pkt)(hk:qb9 s.data.toList=k)(hb:bad s.data.toList=0)(h0:side=0\/side=1)(ha:qeb addr=true)(hp:qc7 port=true)(h1:k.ttl=1):
  Calls prog 94 #[.string s,I Z side,I Z addr,I Z port] w fun e w'=>e=.returned (.tuple #[.string ByteArray.empty,I Z 12])/\Below w.heap.size w w':=by
 rcases h0 with rfl|rfl
 all_goals
  go_enter func94,ntmps94
  go_wp2_with (first|(go_at_call 29;refine m3m ?_;intro w1 hb1;unfold pv;refine m02 ?_;intro T1 c1)|(go_at_call 114;refine(qdz _ _).mono ?_;rintro e w' ⟨rfl,rfl⟩)|(go_at_call 121;refine(qd1 _ _).mono ?_;rintro e w' ⟨rfl,rfl⟩)|(go_at_call 122;refine m8d ?_;rintro e w' ⟨rfl,rfl⟩))
  all_goals
   go_ret2
   exact⟨rfl,hb1.alloc hb1.size _⟩
theorem sZti23(h:p:=by
 clear h3
 go_enter func94,ntmps94
 go_wp2_with (first|(go_at_call 29;refine m3m ?_;intro w1 hb1;unfold pv;refine m02 ?_;intro T1 c1)|(go_at_call 114;refine(qdz _ _).mono ?_;rintro e w' ⟨rfl,rfl⟩)|(go_at_call 121;refine(qd1 _ _).mono ?_;rintro e w' ⟨rfl,rfl⟩)|(go_at_call 122;refine m8d ?_;rintro e w' ⟨rfl,rfl⟩))
 all_goals
  go_ret2
  exact⟨rfl,hb1.alloc hb1.size _⟩):p:=h
theorem q3e(s:ByteArray)(side addr port:Int)(w:World)(hs:s.size<=140737488351232)(k:Pkt)(hk:qb9 s.data.toList=k)(hb:bad s.data.toList=0)(h0:side=0\/side=1)(ha:qeb addr=true)(hp:qc7 port=true)(h1:k.ttl≠1)(h2:k.proto=1)(h3:(k.flags==8)≠(side==0)):
  Calls prog 94 #[.string s,I Z side,I Z addr,I Z port] w fun e w'=>e=.returned (.tuple #[.string ByteArray.empty,I Z 4])/\Below w.heap.size w w':=by
 (have h1':(k.ttl==1)=false:=by simpa using h1)
 rcases h0 with rfl|rfl
 ·(have h4:(k.flags==8)=false:=by simpa using h3)
  exact sZti23
 ·(have h4:(k.flags==8)=true:=by simpa using h3)
  exact sZti23
theorem qn0(w:World)(cs:Array Value)(t:TypeId)(o1 o2:Obj)(o:Nat):((((w.alloc (.cells cs t)).alloc o1).alloc o2).drew).cell? ⟨w.heap.size,o,none⟩=cs[o]?:=by
 have h:(((w.alloc (.cells cs t)).alloc o1).alloc o2).heap[w.heap.size]?=some (.cells cs t (0,0)):=by
  rw[Below.heap_alloc _ _ _ (by simp;omega),Below.heap_alloc _ _ _ zm]
  exact heap_alloc_new w _
 show(((w.alloc (.cells cs t)).alloc o1).alloc o2).cell? _=_
 simp[World.cell?,h]
theorem ql4(p g:Nat)(l:List UInt8)(w:World)(h:Rd w p g l)(proto side addr port:Int)(hs:side=0\/side=1)(a0:0<=addr)(a1:addr<=4294967295)(hl:28<=l.length)(hq:qbd proto+1<l.length):
  Calls prog 137 #[V (some ⟨p,0,none⟩),I Z proto,I Z side,I Z addr,I Z port] w fun e w'=>e=.returned (.tuple #[])/\Rd w' p g (qjz l proto side addr port)/\Step p (some g) (some g) w w':=by
 by_cases hp:proto=1
 ·subst hp;exact q0l p g l w h side addr port hs a0 a1 hl
 ·exact qxk p g l w h proto side addr port hs a0 a1 hl hp hq
@[simp] theorem qayb(l:List UInt8)(proto side addr port:Int):(qjz l proto side addr port).length=l.length:=by simp[qjz]
def spun(l:List UInt8)(proto side addr port:Int):List UInt8:=qg8 (qjz (aged l) proto side addr port) proto
theorem qk2{w1:World}{o1 o2 o3:Obj}{G':Option Nat}(hb:Below w.heap.size w w1)(hS:Step (w1.heap.size+1+1) (some (w1.heap.size+1)) G' ((((w1.alloc o1).alloc o2).alloc o3).drew) w'):Below w.heap.size w w':=by
 have h1:=hb.size;have b1:Below w.heap.size w ((((w1.alloc o1).alloc o2).alloc o3).drew):=((((hb.alloc h1 o1).alloc (by simp;omega) o2).alloc (by simp;omega) o3)).drew
 exact b1.trans (hS.below (by have:=b1.size;omega) om (fun k e=>by cases e;omega))
theorem sZti21(h:p:=by
 go_wp2_with (first|(go_at_call 29;refine m3m ?_;intro w1 hb1;unfold pv;refine m02 ?_;intro T1 c1;obtain⟨C,cap,hconv,hc1,hc2,hc3⟩:=qjw s (w1.alloc (.cells #[I Z k.proto,I Z k.src,I Z k.sport,I Z k.dst,I Z k.dport,I Z k.ttl,I Z k.id,I Z k.flags,I Z k.seq,I Z k.ack,I Z k.win,.string k.body] 61));have h:=qrr (w1.alloc (.cells #[I Z k.proto,I Z k.src,I Z k.sport,I Z k.dst,I Z k.dport,I Z k.ttl,I Z k.id,I Z k.flags,I Z k.seq,I Z k.ack,I Z k.win,.string k.body] 61)) s C cap (w1.heap.size+1+1) (w1.heap.size+1) zm zm hc1 (hc2 (by unfold maxLen;omega)) hc3;have hI:Inv w1.heap.size (w1.heap.size+1+1) (some (w1.heap.size+1)) ((((w1.alloc (.cells #[I Z k.proto,I Z k.src,I Z k.sport,I Z k.dst,I Z k.dport,I Z k.ttl,I Z k.id,I Z k.flags,I Z k.seq,I Z k.ack,I Z k.win,.string k.body] 61)).alloc (.cells C 5 (C.size,C.size+1))).alloc (.cells #[.slice (some ⟨w1.heap.size+1,0,none⟩) s.size cap] 170)).drew) #[I Z k.proto,I Z k.src,I Z k.sport,I Z k.dst,I Z k.dport,I Z k.ttl,I Z k.id,I Z k.flags,I Z k.seq,I Z k.ack,I Z k.win,.string k.body]:=⟨by simp;omega,by omega,by simp,fun o=>qn0 w1 _ _ _ _ o⟩;have hS:=Step.refl (w1.heap.size+1+1) (some (w1.heap.size+1)) ((((w1.alloc (.cells #[I Z k.proto,I Z k.src,I Z k.sport,I Z k.dst,I Z k.dport,I Z k.ttl,I Z k.id,I Z k.flags,I Z k.seq,I Z k.ack,I Z k.win,.string k.body] 61)).alloc (.cells C 5 (C.size,C.size+1))).alloc (.cells #[.slice (some ⟨w1.heap.size+1,0,none⟩) s.size cap] 170)).drew);clear hc1 hc2 hc3;have hbx:=hI.cell)|(go_at_call 121;refine(qd1 _ _).mono ?_;rintro e w' ⟨rfl,rfl⟩)|(go_at_call 122;refine m8d ?_;rintro e w' ⟨rfl,rfl⟩)|(go_at_call 136;go_fit (qpk _ _ _ _ h om);rintro e w' ⟨rfl,h,hst⟩;replace hI:=hI.step hst;replace hS:=hS.trans hst;clear hst;have hbx:=hI.cell)|(go_at_call 137;(go_fit (ql4 _ _ _ _ h k.proto _ _ _ om ha'.1 ha'.2 (by simp;omega) (by simp;omega));rintro e w' ⟨rfl,h,hst⟩;replace hI:=hI.step hst;replace hS:=hS.trans hst;clear hst;have hbx:=hI.cell))|(go_at_call 138;go_fit (qky _ _ _ _ h k.proto (by simp;omega) (by simp;omega));refine m91 ?_;clear hS;intro w' h hS)|(go_at_call 120;go_fit (qfw _ _ _ _ h);rintro e w' ⟨rfl,rfl⟩))
 go_ret2
 exact⟨rfl,qk2 hb1 hS⟩):p:=h
theorem sZti27(h:p:=by
 clear h3
 go_enter func94,ntmps94
 exact sZti21):p:=h
theorem q8d(s:ByteArray)(side addr port:Int)(w:World)(hs:s.size<=140737488351232)(k:Pkt)(hk:qb9 s.data.toList=k)(hb:bad s.data.toList=0)(hsd:side=0\/side=1)(ha:qeb addr=true)(hp:qc7 port=true)(h1:k.ttl≠1)(h2:k.proto=1->(k.flags==8)=(side==0))(hl:28<=s.size)(hsm:s.size<=65535)(hq:qbd k.proto+1<s.size):
  Calls prog 94 #[.string s,I Z side,I Z addr,I Z port] w fun e w'=>e=.returned (.tuple #[.string (txt (spun s.data.toList k.proto side addr port)),I Z 0])/\Below w.heap.size w w':=by
 (have ha':0<=addr/\addr<=4294967295:=by unfold qeb at ha;simpa using ha);have hll:=qb6 s;(have h1':(k.ttl==1)=false:=by simpa using h1);clear h1
 by_cases hpr:k.proto=1
 ·(have hpr':(k.proto==1)=true:=by simpa using hpr);have h3:=h2 hpr;clear h2 hpr
  rcases hsd with rfl|rfl
  ·(have h4:(k.flags==8)=true:=by simpa using h3)
   exact sZti27
  ·(have h4:(k.flags==8)=false:=by simpa using h3)
   exact sZti27
 ·(have hpr':(k.proto==1)=false:=by simpa using hpr);clear h2 hpr
  rcases hsd with rfl|rfl
  ·go_enter func94,ntmps94
   exact sZti21
  ·go_enter func94,ntmps94
   exact sZti21
end
theorem sZti26(h:p:=by
 simp only[List.cons_append,List.nil_append,tot,qc1]
 omega):p:=h
theorem qw2(p:Pkt)(c:Int)(h0:0<=c)(h1:c<=65535):tot (hd p (flen p) c)=tot (hd p (flen p) 0)+c:=by
 unfold hd w16 l32 w16
 exact sZti26
theorem q9u(p:Pkt)(n c:Int):0<tot (hd p n c):=by
 have h1:=qgj ((hd p n c).drop 2);have e:hd p n c=[69,0]++(hd p n c).drop 2:=rfl;rw[e,qa8 _ _ (by rfl)]
 have:tot [69,0]=17664:=by decide
 omega
theorem qr6(p:Pkt):0<=chkH p/\chkH p<=65534:=by
 unfold chkH
 have:=qhn (tot (hd p (flen p) 0));have:=q3x (tot (hd p (flen p) 0)) (by have:=q9u p (flen p) 0;omega);omega
theorem q3z(p:Pkt):bk (tot (hd p (flen p) (chkH p)))=65535:=by
 have hb:=qr6 p;rw[qw2 p _ hb.1 om]
 exact qpg _ (qgj _)
theorem qr4(p:Pkt)(c:Int):(pt p c).length%2=0:=by
 unfold pt;split<;>(try split)<;>simp[w16,l32]
theorem qsl(a b c n:Int):(ps a b c n).length%2=0:=by
 unfold ps;split<;>simp
theorem q9r(p:Pkt)(c:Int)(h0:0<=c)(h1:c<=65535):tot (pt p c)=tot (pt p 0)+c:=by
 unfold pt
 split
 ·unfold w16
  exact sZti26
 ·split
  ·unfold w16
   exact sZti26
  ·unfold l32 w16
   exact sZti26
def allP(p:Pkt)(c:Int):Int:=tot (ps p.src p.dst p.proto (qb4 p.proto+p.body.size)++(pt p c++p.body.data.toList))
theorem qxw(p:Pkt)(c:Int)(h0:0<=c)(h1:c<=65535):allP p c=allP p 0+c:=by
 unfold allP
 rw[qa8 _ _ (qsl _ _ _ _),qa8 _ _ (qsl _ _ _ _),qa8 _ _ (qr4 _ _),qa8 _ _ (qr4 _ _),q9r p c h0 h1]
 omega
theorem qsa(p:Pkt):0<=chkP p/\chkP p<=65535:=by
 have:=qhn (allP p 0)
 have e:qnl p=65535-bk (allP p 0):=rfl
 unfold chkP;split<;>omega
theorem q74(x:Int)(h:0<x)(hx:bk x=65535):bk (x+65535)=65535:=by
 rw[←hx]
 refine q7i _ _ ?_ ?_<;>omega
theorem q2z(p:Pkt):bk (allP p (chkP p))=65535:=by
 have hb:=qsa p;rw[qxw p _ hb.1 hb.2];have e:qnl p=65535-bk (allP p 0):=rfl;have hn:0<=allP p 0:=qgj _
 unfold chkP
 split
 ·rename_i h
  (have h2:bk (allP p 0)=65535:=by omega);have hz:=qo6 (allP p 0)
  exact q74 _ om h2
 ·rw[e];exact qpg _ hn
theorem q7m(p:Pkt)(h:p.proto=17):chkP p≠0:=by
 unfold chkP
 split
 ·omega
 ·rename_i h';intro e;exact h' ⟨h,e⟩
theorem qw6(l:List UInt8)(h:qls l):qcw l=0:=by
 unfold qcw
 have h1:=h.len
 rw[if_neg om,if_neg (by have:=h.mark;omega),if_neg (by have:=h.size;omega),if_neg (by have:=h.sum;omega),if_neg (by have:=h.serv;omega),if_neg (by have:=h.piece;omega),if_neg h.ttl,if_neg (by rw[h.kind];simp)]
theorem qxc(l:List UInt8)(proto:Int)(h:qom l proto):qcx l proto=0:=by
 unfold qcx
 have:=h.len;have:=h.sum;have:=h.udpSum;have:=h.ping;have:=h.ping';have:=h.tcp1;have:=h.tcp2;have:=h.tcp3;have:=h.udp
 rw[if_neg om,if_neg om,if_neg om,if_neg om,if_neg om,if_neg om,if_neg om,if_neg om,if_neg om]
theorem qf4(x:Int)(h0:0<=x)(h1:x<=65535):((b8 (x/256)).toNat:Int)*256+((b8 x).toNat:Int)=x:=by rw[qc1,qc1];omega
theorem qsi(x:Int)(h0:0<=x)(h1:x<=4294967295):(((b8 (x/65536/256)).toNat:Int)*256+((b8 (x/65536)).toNat:Int))*65536+(((b8 (x/256)).toNat:Int)*256+((b8 x).toNat:Int))=x:=by
 rw[qc1,qc1,qc1,qc1];omega
theorem qj1(x:Int)(h0:0<=x)(h1:x<=255):((b8 x).toNat:Int)=x:=by rw[qc1];omega
section
variable (k:Pkt) (c1 c2:Int)
theorem fr_0:byt (fr k c1 c2) 0=69:=rfl
theorem fr_1:byt (fr k c1 c2) 1=0:=rfl
theorem fr_2:wAt (fr k c1 c2) 2=((b8 (flen k/256)).toNat:Int)*256+((b8 (flen k)).toNat:Int):=rfl
theorem fr_4:wAt (fr k c1 c2) 4=((b8 (k.id/256)).toNat:Int)*256+((b8 k.id).toNat:Int):=rfl
theorem fr_6:wAt (fr k c1 c2) 6=((b8 (0/256)).toNat:Int)*256+((b8 0).toNat:Int):=rfl
theorem fr_8:byt (fr k c1 c2) 8=((b8 k.ttl).toNat:Int):=rfl
theorem fr_9:byt (fr k c1 c2) 9=((b8 k.proto).toNat:Int):=rfl
theorem qaob:lAt (fr k c1 c2) 12=(((b8 (k.src/65536/256)).toNat:Int)*256+((b8 (k.src/65536)).toNat:Int))*65536+(((b8 (k.src/256)).toNat:Int)*256+((b8 k.src).toNat:Int)):=rfl
theorem qaxb:lAt (fr k c1 c2) 16=(((b8 (k.dst/65536/256)).toNat:Int)*256+((b8 (k.dst/65536)).toNat:Int))*65536+(((b8 (k.dst/256)).toNat:Int)*256+((b8 k.dst).toNat:Int)):=rfl
end
theorem qzl(k:Pkt)(hg:good k=0)(c2:Int):qls (fr k (chkH k) c2):=by
 obtain⟨hk,hr,hb,_⟩:=qde k hg
 have hr':=(qdu k).1 hr;have hl:=qlm k (chkH k) c2 hk;have hs:=qpl k hb
 refine⟨by omega,fr_0 _ _ _,?_,?_,fr_1 _ _ _,by rw[fr_6,qf4 0 om om],?_,?_⟩
 ·rw[fr_2,qf4 _ om om,hl]
 ·rw[q1r];exact q3z k
 ·rw[fr_8,qj1 _ om om];omega
 ·rw[fr_9,qj1]
  ·exact hk
  ·rcases(qei _).1 hk with h|h|h<;>omega
  ·rcases(qei _).1 hk with h|h|h<;>omega
theorem qp8(k:Pkt)(hk:qdc k.proto=true)(c1 c2:Int):byt (fr k c1 c2) 9=k.proto:=by
 rw[fr_9,qj1]
 ·rcases(qei _).1 hk with h|h|h<;>omega
 ·rcases(qei _).1 hk with h|h|h<;>omega
theorem q03(k:Pkt)(hg:good k=0):qom (frame k) k.proto:=by
 obtain⟨hk,hr,hb,hf⟩:=qde k hg;have hr':=(qdu k).1 hr;have hf':=(qjo k).1 hf;have hl:=qlm k (chkH k) (chkP k) hk;have hs:=qpl k hb;have hc:=qsa k
 unfold frame
 (have hsum:bk (tot (chkd (fr k (chkH k) (chkP k)) k.proto))=65535:=by rw[qx8 k _ _ hk];exact q2z k);have hu:=q7m k
 generalize hc2:chkP k=c2 at *
 generalize chkH k=c1 at *
 obtain⟨proto,src,sport,dst,dport,ttl,id,flags,seq,ack,win,body⟩:=k
 simp only at *
 rcases(qei _).1 hk with rfl|rfl|rfl
 ·refine⟨by unfold flen at hl;simp only at hl;omega,hsum,by omega,fun _=>?_,fun _=>?_,by omega,by omega,by omega,by omega⟩
  rotate_left
  ·have e:byt (fr ⟨1,src,sport,dst,dport,ttl,id,flags,seq,ack,win,body⟩ c1 c2) 21=((0:UInt8).toNat:Int):=rfl
   rw[e];decide
  have e:byt (fr ⟨1,src,sport,dst,dport,ttl,id,flags,seq,ack,win,body⟩ c1 c2) 20=((b8 flags).toNat:Int):=rfl
  rw[e,qj1 _ om om];omega
 ·refine⟨by unfold flen at hl;simp only at hl;omega,hsum,by omega,by omega,by omega,fun _=>?_,fun _=>?_,fun _=>?_,by omega⟩
  ·have e:byt (fr ⟨6,src,sport,dst,dport,ttl,id,flags,seq,ack,win,body⟩ c1 c2) 32=((80:UInt8).toNat:Int):=rfl
   rw[e];decide
  rotate_left
  ·have e:wAt (fr ⟨6,src,sport,dst,dport,ttl,id,flags,seq,ack,win,body⟩ c1 c2) 38=((b8 (0/256)).toNat:Int)*256+((b8 0).toNat:Int):=rfl;rw[e,qf4 0 om om]
  have e:byt (fr ⟨6,src,sport,dst,dport,ttl,id,flags,seq,ack,win,body⟩ c1 c2) 33=((b8 flags).toNat:Int):=rfl
  rw[e,qj1 _ om om];omega
 ·have e:wAt (fr ⟨17,src,sport,dst,dport,ttl,id,flags,seq,ack,win,body⟩ c1 c2) 26=((b8 (c2/256)).toNat:Int)*256+((b8 c2).toNat:Int):=rfl;have e2:wAt (fr ⟨17,src,sport,dst,dport,ttl,id,flags,seq,ack,win,body⟩ c1 c2) 24=((b8 ((8+body.size)/256)).toNat:Int)*256+((b8 (8+body.size)).toNat:Int):=rfl
  refine⟨by unfold flen at hl;simp only at hl;omega,hsum,fun _=>?_,by omega,by omega,by omega,by omega,by omega,fun _=>?_⟩
  ·rw[e,qf4 _ om om];exact hu rfl
  ·rw[e2,qf4 _ om om,hl];unfold flen qb4;simp;omega
theorem ql1(k:Pkt)(hg:good k=0)(c1 c2:Int):qam (fr k c1 c2)=k:=by
 obtain⟨hk,hr,hb,hf⟩:=qde k hg;have hr':=(qdu k).1 hr;have hf':=(qjo k).1 hf;have h9:=qp8 k hk c1 c2;have e12:=qaob k c1 c2;have e16:=qaxb k c1 c2;have e8:=fr_8 k c1 c2;have e4:=fr_4 k c1 c2;obtain⟨proto,src,sport,dst,dport,ttl,id,flags,seq,ack,win,body⟩:=k
 simp only at *
 rw[qsi _ om om] at e12 e16
 rw[qf4 _ om om] at e4
 rw[qj1 _ om om] at e8
 unfold qam
 rw[h9,e12,e16,e8,e4]
 rcases(qei _).1 hk with rfl|rfl|rfl
 ·have e20:byt (fr ⟨1,src,sport,dst,dport,ttl,id,flags,seq,ack,win,body⟩ c1 c2) 20=((b8 flags).toNat:Int):=rfl;have e24:wAt (fr ⟨1,src,sport,dst,dport,ttl,id,flags,seq,ack,win,body⟩ c1 c2) 24=((b8 ((sport+dport)/256)).toNat:Int)*256+((b8 (sport+dport)).toNat:Int):=rfl;have e26:wAt (fr ⟨1,src,sport,dst,dport,ttl,id,flags,seq,ack,win,body⟩ c1 c2) 26=((b8 (seq/256)).toNat:Int)*256+((b8 seq).toNat:Int):=rfl;have eb:(fr ⟨1,src,sport,dst,dport,ttl,id,flags,seq,ack,win,body⟩ c1 c2).drop 28=body.data.toList:=rfl;have hp:=hf'.1 rfl;rw[if_pos rfl,e20,e24,e26,eb,qmw,qj1 flags om om,qf4 seq om om,qf4 (sport+dport) om om]
  obtain⟨h|h,_,_,ha,hw⟩:=hp
  ·rw[h.1,h.2,ha,hw];simp
  ·rw[h.1,h.2,ha,hw];simp
 ·have e20:wAt (fr ⟨6,src,sport,dst,dport,ttl,id,flags,seq,ack,win,body⟩ c1 c2) 20=((b8 (sport/256)).toNat:Int)*256+((b8 sport).toNat:Int):=rfl;have e22:wAt (fr ⟨6,src,sport,dst,dport,ttl,id,flags,seq,ack,win,body⟩ c1 c2) 22=((b8 (dport/256)).toNat:Int)*256+((b8 dport).toNat:Int):=rfl;have e33:byt (fr ⟨6,src,sport,dst,dport,ttl,id,flags,seq,ack,win,body⟩ c1 c2) 33=((b8 flags).toNat:Int):=rfl;have e24:lAt (fr ⟨6,src,sport,dst,dport,ttl,id,flags,seq,ack,win,body⟩ c1 c2) 24=(((b8 (seq/65536/256)).toNat:Int)*256+((b8 (seq/65536)).toNat:Int))*65536+(((b8 (seq/256)).toNat:Int)*256+((b8 seq).toNat:Int)):=rfl;have e28:lAt (fr ⟨6,src,sport,dst,dport,ttl,id,flags,seq,ack,win,body⟩ c1 c2) 28=(((b8 (ack/65536/256)).toNat:Int)*256+((b8 (ack/65536)).toNat:Int))*65536+(((b8 (ack/256)).toNat:Int)*256+((b8 ack).toNat:Int)):=rfl;have e34:wAt (fr ⟨6,src,sport,dst,dport,ttl,id,flags,seq,ack,win,body⟩ c1 c2) 34=((b8 (win/256)).toNat:Int)*256+((b8 win).toNat:Int):=rfl;have eb:(fr ⟨6,src,sport,dst,dport,ttl,id,flags,seq,ack,win,body⟩ c1 c2).drop 40=body.data.toList:=rfl;rw[if_neg om,if_pos rfl,e20,e22,e33,e24,e28,e34,eb,qmw,qf4 sport om om,qf4 dport om om,qj1 flags om om,qsi seq om om,qsi ack om om,qf4 win om om]
 ·have e20:wAt (fr ⟨17,src,sport,dst,dport,ttl,id,flags,seq,ack,win,body⟩ c1 c2) 20=((b8 (sport/256)).toNat:Int)*256+((b8 sport).toNat:Int):=rfl;have e22:wAt (fr ⟨17,src,sport,dst,dport,ttl,id,flags,seq,ack,win,body⟩ c1 c2) 22=((b8 (dport/256)).toNat:Int)*256+((b8 dport).toNat:Int):=rfl;have eb:(fr ⟨17,src,sport,dst,dport,ttl,id,flags,seq,ack,win,body⟩ c1 c2).drop 28=body.data.toList:=rfl;obtain⟨h1,h2,h3,h4⟩:=hf'.2 rfl;rw[if_neg om,if_neg om,e20,e22,eb,qmw,qf4 sport om om,qf4 dport om om,h1,h2,h3,h4]
theorem qev(k:Pkt)(hg:good k=0):bad (frame k)=0/\qb9 (frame k)=k:=by
 have hk:=(qde k hg).1;have h1:qcw (frame k)=0:=qw6 _ (qzl k hg _);have h9:byt (frame k) 9=k.proto:=qp8 k hk _ _;(have h2:qcx (frame k) (byt (frame k) 9)=0:=by rw[h9];exact qxc _ _ (q03 k hg));have hp:qam (frame k)=k:=ql1 k hg _ _;(have hb:bad (frame k)=0:=by unfold bad;rw[if_neg om,if_neg om,hp];exact hg)
 exact⟨hb,by unfold qb9;rw[if_pos hb];exact hp⟩
end Go.Proofs.YtonnjgmognbnbaaGreatDoor
