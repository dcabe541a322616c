/-
  Of what a law stands on.
-/
import Derived.Deep.DeepCutAuto
import Derived.Test.YtnicenfgemkdnaaGreatDoorZvi1
set_option linter.unusedSimpArgs false
set_option linter.unusedVariables false
namespace Go.Proofs.YtnicenfgemkdnaaGreatDoor
open _root_.Go.Proofs.Tryz
set_option maxHeartbeats 16000000
set_option maxRecDepth 100000
open Go.ChangeShapes Go.WideShapes Go.ChangeAt Go.RowKit
theorem q7v(s:ByteArray)(w:World)(hl:28<=s.size)(hs:s.size<=65535):
  Calls prog 63 #[.string s,.int .i64 17] w fun e w'=>e=.returned (.int .i64 (qcx s.data.toList 17))/\Below w.heap.size w w':=by
 have z2:(s.extract 20 s.size).size=s.size-20:=qef s 20 s.size (Nat.le_refl _)
 have z3:((s.size-20:Nat):Int)=(s.size:Int)-20:=by omega
 have z4:((s.extract 20 s.size).size:Int)=(s.size:Int)-20:=by omega
 have pn:qb4 17=8:=rfl
 have cn:((qbd 17:Nat):Int)=26:=rfl
 have hB:=Below.refl w.heap.size w
 go_enter func63,ntmps63
 go_wp2_with (first
  | (go_at_call 78;refine(qbz _ _).mono ?_;rintro e w' ⟨rfl,rfl⟩)
  | (go_at_call 93;refine(qdp _ _).mono ?_;rintro e w' ⟨rfl,rfl⟩)
  | (go_at_call 92;refine(qgq _ _ _ om om).mono ?_;rintro e w' ⟨rfl,hb⟩;replace hB:=hB.trans (hb.mono hB.size))
  | (go_at_call_of 91 (Value.string (s.extract 20 s.size));refine(qwh s 4 _ om hs om om).mono ?_;rintro e w' ⟨rfl,hb⟩;replace hB:=hB.trans (hb.mono hB.size);simp only[Int.reduceToNat,Nat.reduceAdd])
  | (go_at_call_of 91 (Value.string s);refine(qqe s _ _ om om om).mono ?_;rintro e w' ⟨rfl,hb⟩;replace hB:=hB.trans (hb.mono hB.size);simp only[Int.reduceToNat])
  | (go_at_call 46;refine(qr0 _ _ _ (by rw[qb6];omega)).mono ?_;rintro e w' ⟨rfl,rfl⟩))
 all_goals
  go_ret
  refine⟨qdm ?_,hB⟩
  unfold qcx
  rw[qb6]
  unfold sumP at *
  clear hB
  simp_all
 all_goals omega
theorem q8p(s:ByteArray)(w:World)(hl:40<=s.size)(hs:s.size<=65535):
  Calls prog 63 #[.string s,.int .i64 6] w fun e w'=>e=.returned (.int .i64 (qcx s.data.toList 6))/\Below w.heap.size w w':=by
 have z2:(s.extract 20 s.size).size=s.size-20:=qef s 20 s.size (Nat.le_refl _)
 have z3:((s.size-20:Nat):Int)=(s.size:Int)-20:=by omega
 have z4:((s.extract 20 s.size).size:Int)=(s.size:Int)-20:=by omega
 have pn:qb4 6=20:=rfl
 have ge0:∀h,(((s.extract 20 s.size)[12]'h).toNat:Int)=byt s.data.toList 32:=fun h=>qi8 s 12 h
 have ge1:∀h,(((s.extract 20 s.size)[13]'h).toNat:Int)=byt s.data.toList 33:=fun h=>qi8 s 13 h
 have hB:=Below.refl w.heap.size w
 go_enter func63,ntmps63
 go_wp2_with (first
  | (go_at_call 78;refine(qbz _ _).mono ?_;rintro e w' ⟨rfl,rfl⟩)
  | (go_at_call 92;refine(qgq _ _ _ om om).mono ?_;rintro e w' ⟨rfl,hb⟩;replace hB:=hB.trans (hb.mono hB.size))
  | (go_at_call_of 91 (Value.string (s.extract 20 s.size));refine(qwh s 18 _ om hs om om).mono ?_;rintro e w' ⟨rfl,hb⟩;replace hB:=hB.trans (hb.mono hB.size);simp only[Int.reduceToNat,Nat.reduceAdd])
  | (go_at_call 46;refine(qr0 _ _ _ (by rw[qb6];omega)).mono ?_;rintro e w' ⟨rfl,rfl⟩))
 all_goals
  go_ret
  refine⟨qdm ?_,hB⟩
  unfold qcx
  rw[qb6]
  unfold sumP at *
  clear hB
  simp_all
 all_goals omega
theorem qkj(s:ByteArray)(proto:Int)(w:World)(h20:20<=s.size)(hs:s.size<=65535)(hk:qdc proto=true):
  Calls prog 63 #[.string s,.int .i64 proto] w fun e w'=>e=.returned (.int .i64 (qcx s.data.toList proto))/\Below w.heap.size w w':=by
 by_cases h:(s.size:Int)-20<qb4 proto
 ·have E:qcx s.data.toList proto=1:=by unfold qcx;rw[qb6,if_pos h]
  rw[E]
  exact(q1n s proto w h20 hs h).mono fun e w' ⟨he,hw⟩=>⟨he,by rw[hw];exact Below.refl _ _⟩
 ·rcases(qei _).1 hk with rfl|rfl|rfl
  ·exact q54 s w (by rw[show qb4 1=8 from rfl] at h;omega) hs
  ·exact q8p s w (by rw[show qb4 6=20 from rfl] at h;omega) hs
  ·exact q7v s w (by rw[show qb4 17=8 from rfl] at h;omega) hs
def qbx(w:World)(b:Nat)(cs:Array Value):Prop:=w.heap[b]?=some (.cells cs 58 (0,0))
theorem qbx.cell{w:World}{b:Nat}{cs:Array Value}(h:qbx w b cs):∀o,w.cell? ⟨b,o,none⟩=cs[o]?:=by
 intro o
 unfold qbx at h
 simp[World.cell?,h]
theorem qbx.free{w:World}{b:Nat}{cs:Array Value}(h:qbx w b cs):∀o,w.frozen? ⟨b,o,none⟩=false:=by
 intro o
 unfold qbx at h
 simp[World.frozen?,h]
theorem qbx.set{w:World}{b:Nat}{cs:Array Value}(h:qbx w b cs)(o:Nat)(v:Value):qbx (w.setCell ⟨b,o,none⟩ v) b (cs.setIfInBounds o v):=qpq h
theorem qbx.drewN{w:World}{b:Nat}{cs:Array Value}(h:qbx w b cs)(q:Nat):qbx (w.drewN q) b cs:=h
theorem qif{w:World}{b o:Nat}{v:Value}:Step b none none w (w.setCell ⟨b,o,none⟩ v):=
 ⟨rfl,rfl,rfl,by simp[World.setCell],fun i _ hi _=>Below.heap_setCell _ _ _ _ hi,.inl rfl⟩
theorem qp4(p q:Nat)(w:World):Step p none none w (w.drewN q):=by
 refine⟨?_,?_,?_,?_,?_,.inl rfl⟩<;>first|rfl|simp
theorem qt6(b:Nat)(s:ByteArray)(w:World)(v0 v1 v3 v5 v6 v9 v10 v11:Value)(h28:28<=s.size)(hs:s.size<=65535)(hb:qbx w b #[v0,v1,.int .i64 0,v3,.int .i64 0,v5,v6,.int .i64 0,.int .i64 0,v9,v10,v11])(hf:byt s.data.toList 20=8):
  Calls prog 95 #[.pointer (some ⟨b,0,none⟩),.string (s.extract 20 s.size)] w fun e w'=>e=.returned (.tuple #[])/\
   qbx w' b #[v0,v1,.int .i64 (wAt s.data.toList 24),v3,.int .i64 0,v5,v6,.int .i64 8,.int .i64 (wAt s.data.toList 26),v9,v10,v11]/\Step b none none w w':=by
 have hc:=hb.cell
 have hz:=hb.free
 have z2:(s.extract 20 s.size).size=s.size-20:=qef s 20 s.size (Nat.le_refl _)
 have z4:((s.extract 20 s.size).size:Int)=(s.size:Int)-20:=by omega
 have z5:(0:Int)<(s.size:Int)-20:=by omega
 have ge0:∀h,(((s.extract 20 s.size)[0]'h).toNat:Int)=8:=fun h=>by rw[qi8 s 0 h,hf]
 have sd:∀(w:World) (n:Nat) (a:Addr) (v:Value),(w.drewN n).setCell a v=(w.setCell a v).drewN n:=fun _ _ _ _=>rfl
 go_enter func95,ntmps95
 go_wp2
 go_region_held3 (fun _=>True) (trivial) (first
  | (go_at_call 91;refine(qg1 s _ _ om hs om om).mono ?_;rintro e w' ⟨rfl,q,rfl⟩;simp only[Int.reduceToNat,Nat.reduceAdd]))
 all_goals
  go_wp2_with (go_at_call 91;refine(qg1 s _ _ om hs om om).mono ?_;rintro e w' ⟨rfl,q,rfl⟩;simp only[Int.reduceToNat,Nat.reduceAdd])
 all_goals
  go_end0
  exact⟨rfl,(((hb.set 7 _).set 8 _).set 2 _).drewN _,((qif.trans qif).trans qif).trans (qp4 _ _ _)⟩
theorem qqb(b:Nat)(s:ByteArray)(w:World)(v0 v1 v3 v5 v6 v9 v10 v11:Value)(h28:28<=s.size)(hs:s.size<=65535)(hb:qbx w b #[v0,v1,.int .i64 0,v3,.int .i64 0,v5,v6,.int .i64 0,.int .i64 0,v9,v10,v11])(hf:byt s.data.toList 20=0):
  Calls prog 95 #[.pointer (some ⟨b,0,none⟩),.string (s.extract 20 s.size)] w fun e w'=>e=.returned (.tuple #[])/\
   qbx w' b #[v0,v1,.int .i64 0,v3,.int .i64 (wAt s.data.toList 24),v5,v6,.int .i64 0,.int .i64 (wAt s.data.toList 26),v9,v10,v11]/\Step b none none w w':=by
 have hc:=hb.cell
 have hz:=hb.free
 have z2:(s.extract 20 s.size).size=s.size-20:=qef s 20 s.size (Nat.le_refl _)
 have z4:((s.extract 20 s.size).size:Int)=(s.size:Int)-20:=by omega
 have z5:(0:Int)<(s.size:Int)-20:=by omega
 have ge0:∀h,(((s.extract 20 s.size)[0]'h).toNat:Int)=0:=fun h=>by rw[qi8 s 0 h,hf]
 have sd:∀(w:World) (n:Nat) (a:Addr) (v:Value),(w.drewN n).setCell a v=(w.setCell a v).drewN n:=fun _ _ _ _=>rfl
 go_enter func95,ntmps95
 go_wp2
 go_region_held3 (fun _=>True) (trivial) (first
  | (go_at_call 91;refine(qg1 s _ _ om hs om om).mono ?_;rintro e w' ⟨rfl,q,rfl⟩;simp only[Int.reduceToNat,Nat.reduceAdd]))
 all_goals
  go_wp2_with (go_at_call 91;refine(qg1 s _ _ om hs om om).mono ?_;rintro e w' ⟨rfl,q,rfl⟩;simp only[Int.reduceToNat,Nat.reduceAdd])
 all_goals
  go_end0
  exact⟨rfl,(((hb.set 7 _).set 8 _).set 4 _).drewN _,((qif.trans qif).trans qif).trans (qp4 _ _ _)⟩
theorem qmg(s:ByteArray)(a:Nat):(s.extract 20 s.size).extract a (s.extract 20 s.size).size=txt (s.data.toList.drop (20+a)):=by
 rw[←qmw ((s.extract 20 s.size).extract a _),qg5,qg5,List.drop_drop]
theorem qrp(w:World)(cs:Array Value)(q n:Nat)(hn:w.heap.size=n):qbx ((w.alloc (.cells cs 58)).drewN q) n cs:=by
 subst hn
 exact heap_alloc_new w _
theorem qrw(w:World)(cs:Array Value)(o:Obj)(q:Nat):qbx (((w.alloc (.cells cs 58)).alloc o).drewN q) w.heap.size cs:=by
 show((w.alloc (.cells cs 58)).alloc o).heap[w.heap.size]?=_
 rw[Below.heap_alloc _ _ _ zm]
 exact heap_alloc_new w _
theorem qbx.step{w w':World}{b r:Nat}{cs:Array Value}(h:qbx w r cs)(st:Step b none none w w')(hne:r≠b):qbx w' r cs:=
 (st.block r (Array.getElem?_eq_some_iff.1 h).1 hne zm).trans h
theorem qma(w:World)(o o':Obj)(q:Nat):Below w.heap.size w (((w.alloc o).alloc o').drewN q):=
 (((Below.refl _ _).alloc (Nat.le_refl _) o).alloc zm o').trans ((qpw q _).mono (by simp;omega))
theorem sZvi24{p:Prop}(h:p:=by
 refine AR [14] ?_
 refine AllReadyH.cons rfl (fun K hK=>?_) ?_
 ·go_simp
  refine hK.out _ _ trivial (fun _=>?_)
  clear hK K
  try simp only[Act.put,List.setIfInBounds_toArray,List.set_cons_zero,List.set_cons_succ]
  refine AN ?_
  go_wp2_with fail
  go_meet
  case rel=>exact⟨rfl,_,rfl⟩
 exact AZ):p:=h
theorem sZvi22{p:Prop}(h:p:=by
 refine hK.out _ _ trivial (fun _=>?_)
 clear hK K
 try simp only[Act.put,List.setIfInBounds_toArray,List.set_cons_zero,List.set_cons_succ]
 refine AR [11] ?_
 refine AllReadyH.cons rfl (fun K hK=>?_) ?_
 ·go_simp
  refine(qh9 s _ _ om om om).mono ?_;rintro e w' ⟨rfl,q,rfl⟩;simp only[Int.reduceToNat]
  go_wp2_with fail
  refine hK.out _ _ trivial (fun _=>?_)
  clear hK K
  try simp only[Act.put,List.setIfInBounds_toArray,List.set_cons_zero,List.set_cons_succ]
  refine tk 12 (.agg #[.int .i64 (byt s.data.toList 9),.int .i64 (lAt s.data.toList 12),.int .i64 0,.int .i64 (lAt s.data.toList 16),.int .i64 0,.int .i64 (byt s.data.toList 8),.int .i64 (wAt s.data.toList 4),.int .i64 0,.int .i64 0,.int .i64 0,.int .i64 0,.string ⟨#[]⟩]) rfl (Or.inl ⟨by rfl,by intro w _;go_simp⟩) trivial ?_
  simp only[Act.put,List.setIfInBounds_toArray,List.set_cons_zero,List.set_cons_succ]
  exact sZvi24
 exact AZ):p:=h
theorem sZvi25{p:Prop}(h:p:=by
 refine hK.out _ _ trivial (fun _=>?_)
 clear hK K
 try simp only[Act.put,List.setIfInBounds_toArray,List.set_cons_zero,List.set_cons_succ]
 refine AR [6] ?_
 refine AllReadyH.cons rfl (fun K hK=>?_) ?_
 ·go_simp
  refine(qi7 s _ _ om om om).mono ?_;rintro e w' ⟨rfl,q,rfl⟩;simp only[Int.reduceToNat]
  go_wp2_with fail
  exact sZvi22
 exact AZ):p:=h
theorem qn9(s:ByteArray)(w:World)(h20:28<=s.size)(hs:s.size<=65535)(hk:qdc (byt s.data.toList 9)=true)(hf:byt s.data.toList 9=1->byt s.data.toList 20=8\/byt s.data.toList 20=0)(ht:byt s.data.toList 9=6->40<=s.size):
  Calls prog 64 #[.string s] w fun e w'=>e=.returned (pv (qam s.data.toList))/\Below w.heap.size w w':=by
 have g8:=qfo s 8 om;have g9:=qfo s 9 om
 obtain⟨b1,b2⟩:=qf3 s.data.toList 8
 obtain⟨b3,b4⟩:=qf3 s.data.toList 9
 have k8:(8:Int)<(s.size:Int):=by omega
 have k9:(9:Int)<(s.size:Int):=by omega
 have iw8:IntKind.i64.wrap (byt s.data.toList 8)=byt s.data.toList 8:=wrap_i64 _ om om
 have iw9:IntKind.i64.wrap (byt s.data.toList 9)=byt s.data.toList 9:=wrap_i64 _ om om
 have sd:∀(w:World) (n:Nat) (a:Addr) (v:Value),(w.drewN n).setCell a v=(w.setCell a v).drewN n:=fun _ _ _ _=>rfl
 have ad:∀(w:World) (n:Nat) (o:Obj),(w.drewN n).alloc o=(w.alloc o).drewN n:=fun _ _ _=>rfl
 have z2:(s.extract 20 s.size).size=s.size-20:=qef s 20 s.size (Nat.le_refl _)
 have z3:((s.size-20:Nat):Int)=(s.size:Int)-20:=by omega
 have z4:((s.extract 20 s.size).size:Int)=(s.size:Int)-20:=by omega
 go_enter func64,ntmps64
 go_wp2
 go_cut [3] (fun t3 wx=>t3=.pointer (some ⟨w.heap.size+1,0,none⟩)/\∃q,wx=((w.alloc (.cells #[.int .i64 0,.int .i64 0,.int .i64 0,.int .i64 0,.int .i64 0,.int .i64 0,.int .i64 0,.int .i64 0,.int .i64 0,.int .i64 0,.int .i64 0,.string ⟨#[]⟩] 58)).alloc (.cells #[.int .i64 (byt s.data.toList 9),.int .i64 (lAt s.data.toList 12),.int .i64 0,.int .i64 (lAt s.data.toList 16),.int .i64 0,.int .i64 (byt s.data.toList 8),.int .i64 (wAt s.data.toList 4),.int .i64 0,.int .i64 0,.int .i64 0,.int .i64 0,.string ⟨#[]⟩] 58)).drewN q)
 case first=>
  refine RD (fun _=>True) trivial (fun _=>?_)
  refine tk 0 (.string s) rfl (Or.inl ⟨by rfl,by intro w _;go_simp⟩) trivial ?_
  simp only[Act.put,List.setIfInBounds_toArray,List.set_cons_zero,List.set_cons_succ]
  refine tk 1 (.int .u8 (byt s.data.toList 9)) rfl (Or.inl ⟨by rfl,by intro w _;go_simp⟩) trivial ?_
  simp only[Act.put,List.setIfInBounds_toArray,List.set_cons_zero,List.set_cons_succ]
  refine tk 2 (.int .i64 (byt s.data.toList 9)) rfl (Or.inl ⟨by rfl,by intro w _;go_simp⟩) trivial ?_
  simp only[Act.put,List.setIfInBounds_toArray,List.set_cons_zero,List.set_cons_succ]
  refine tk 3 (.string s) rfl (Or.inl ⟨by rfl,by intro w _;go_simp⟩) trivial ?_
  simp only[Act.put,List.setIfInBounds_toArray,List.set_cons_zero,List.set_cons_succ]
  refine tk 5 (.string s) rfl (Or.inl ⟨by rfl,by intro w _;go_simp⟩) trivial ?_
  simp only[Act.put,List.setIfInBounds_toArray,List.set_cons_zero,List.set_cons_succ]
  refine tk 7 (.string s) rfl (Or.inl ⟨by rfl,by intro w _;go_simp⟩) trivial ?_
  simp only[Act.put,List.setIfInBounds_toArray,List.set_cons_zero,List.set_cons_succ]
  refine tk 8 (.int .u8 (byt s.data.toList 8)) rfl (Or.inl ⟨by rfl,by intro w _;go_simp⟩) trivial ?_
  simp only[Act.put,List.setIfInBounds_toArray,List.set_cons_zero,List.set_cons_succ]
  refine tk 9 (.int .i64 (byt s.data.toList 8)) rfl (Or.inl ⟨by rfl,by intro w _;go_simp⟩) trivial ?_
  simp only[Act.put,List.setIfInBounds_toArray,List.set_cons_zero,List.set_cons_succ]
  refine tk 10 (.string s) rfl (Or.inl ⟨by rfl,by intro w _;go_simp⟩) trivial ?_
  simp only[Act.put,List.setIfInBounds_toArray,List.set_cons_zero,List.set_cons_succ]
  refine AR [4,13] ?_
  refine AllReadyH.cons rfl (fun K hK=>?_) ?_
  ·go_simp
   refine(qi7 s _ _ om om om).mono ?_;rintro e w' ⟨rfl,q,rfl⟩;simp only[Int.reduceToNat]
   go_wp2_with fail
   refine hK.out _ _ trivial (fun _=>?_)
   clear hK K
   try simp only[Act.put,List.setIfInBounds_toArray,List.set_cons_zero,List.set_cons_succ]
   refine AR [6,13] ?_
   refine AllReadyH.cons rfl (fun K hK=>?_) ?_
   ·go_simp
    refine(qi7 s _ _ om om om).mono ?_;rintro e w' ⟨rfl,q,rfl⟩;simp only[Int.reduceToNat]
    go_wp2_with fail
    refine hK.out _ _ trivial (fun _=>?_)
    clear hK K
    try simp only[Act.put,List.setIfInBounds_toArray,List.set_cons_zero,List.set_cons_succ]
    refine AR [11,13] ?_
    refine AllReadyH.cons rfl (fun K hK=>?_) ?_
    ·go_simp
     refine(qh9 s _ _ om om om).mono ?_;rintro e w' ⟨rfl,q,rfl⟩;simp only[Int.reduceToNat]
     go_wp2_with fail
     refine hK.out _ _ trivial (fun _=>?_)
     clear hK K
     try simp only[Act.put,List.setIfInBounds_toArray,List.set_cons_zero,List.set_cons_succ]
     refine tk 12 (.agg #[.int .i64 (byt s.data.toList 9),.int .i64 (lAt s.data.toList 12),.int .i64 0,.int .i64 (lAt s.data.toList 16),.int .i64 0,.int .i64 (byt s.data.toList 8),.int .i64 (wAt s.data.toList 4),.int .i64 0,.int .i64 0,.int .i64 0,.int .i64 0,.string ⟨#[]⟩]) rfl (Or.inl ⟨by rfl,by intro w _;go_simp⟩) trivial ?_
     simp only[Act.put,List.setIfInBounds_toArray,List.set_cons_zero,List.set_cons_succ]
     refine AR [13] ?_
     refine AllReadyH.cons rfl (fun K hK=>?_) ?_
     ·go_simp
      refine hK.out _ _ trivial (fun _=>?_)
      clear hK K
      try simp only[Act.put,List.setIfInBounds_toArray,List.set_cons_zero,List.set_cons_succ]
      exact sZvi24
     exact AZ
    refine AllReadyH.cons rfl (fun K hK=>?_) ?_
    ·go_simp
     exact sZvi22
    exact AZ
   refine AllReadyH.cons rfl (fun K hK=>?_) ?_
   ·go_simp
    exact sZvi25
   exact AZ
  refine AllReadyH.cons rfl (fun K hK=>?_) ?_
  ·go_simp
   refine hK.out _ _ trivial (fun _=>?_)
   clear hK K
   try simp only[Act.put,List.setIfInBounds_toArray,List.set_cons_zero,List.set_cons_succ]
   refine AR [4] ?_
   refine AllReadyH.cons rfl (fun K hK=>?_) ?_
   ·go_simp
    refine(qi7 s _ _ om om om).mono ?_;rintro e w' ⟨rfl,q,rfl⟩;simp only[Int.reduceToNat]
    go_wp2_with fail
    exact sZvi25
   exact AZ
  exact AZ
 case rest=>
  obtain⟨rfl,q,rfl⟩:=hcut
  clear g8 g9 iw8 iw9
  rcases(qei _).1 hk with h1|h1|h1
  ·have pn:qb4 1=8:=rfl
   rcases hf h1 with h8|h8
   ·have E:Hid (pv (qam s.data.toList)=.agg #[.int .i64 1,.int .i64 (lAt s.data.toList 12),.int .i64 (wAt s.data.toList 24),.int .i64 (lAt s.data.toList 16),.int .i64 0,.int .i64 (byt s.data.toList 8),.int .i64 (wAt s.data.toList 4),.int .i64 8,.int .i64 (wAt s.data.toList 26),.int .i64 0,.int .i64 0,.string ((s.extract 20 s.size).extract 8 (s.size-20))]):=by
     show _=_
     unfold qam pv
     rw[if_pos h1,←z2,qmg,h8,if_pos rfl,if_pos rfl]
    rw[h1]
    go_wp2_with (first
     | (go_at_call 78;refine(qbz _ _).mono ?_;rintro e w' ⟨rfl,rfl⟩)
     | (go_at_call 95;refine(qt6 _ s _ _ _ _ _ _ _ _ _ h20 hs (qrp _ _ _ _ zm) h8).mono ?_;rintro e w' ⟨rfl,tw,hst⟩;have t0:=(qrw _ _ _ _).step hst om;have c0:=t0.cell;have f0:=t0.free;have c1:=tw.cell;have f1:=tw.free;have hB:=(qma _ _ _ _).trans (hst.below (B:=w.heap.size) (by simp;omega) om (fun k e=>by cases e));clear tw t0 hst))
    refine bodyPost_ret (v:=.agg #[.int .i64 1,.int .i64 (lAt s.data.toList 12),.int .i64 (wAt s.data.toList 24),.int .i64 (lAt s.data.toList 16),.int .i64 0,.int .i64 (byt s.data.toList 8),.int .i64 (wAt s.data.toList 4),.int .i64 8,.int .i64 (wAt s.data.toList 26),.int .i64 0,.int .i64 0,.string ((s.extract 20 s.size).extract 8 (s.size-20))]) (by simp[results,results64,go_sem,c0]) rfl ⟨by rw[E.out],?_⟩
    iterate 12 (refine Below.setCell ?_ (by exact Nat.le_refl _) _)
    exact hB
   ·have E:Hid (pv (qam s.data.toList)=.agg #[.int .i64 1,.int .i64 (lAt s.data.toList 12),.int .i64 0,.int .i64 (lAt s.data.toList 16),.int .i64 (wAt s.data.toList 24),.int .i64 (byt s.data.toList 8),.int .i64 (wAt s.data.toList 4),.int .i64 0,.int .i64 (wAt s.data.toList 26),.int .i64 0,.int .i64 0,.string ((s.extract 20 s.size).extract 8 (s.size-20))]):=by
     show _=_
     unfold qam pv
     rw[if_pos h1,←z2,qmg,h8,if_neg om,if_neg om]
    rw[h1]
    go_wp2_with (first
     | (go_at_call 78;refine(qbz _ _).mono ?_;rintro e w' ⟨rfl,rfl⟩)
     | (go_at_call 95;refine(qqb _ s _ _ _ _ _ _ _ _ _ h20 hs (qrp _ _ _ _ zm) h8).mono ?_;rintro e w' ⟨rfl,tw,hst⟩;have t0:=(qrw _ _ _ _).step hst om;have c0:=t0.cell;have f0:=t0.free;have c1:=tw.cell;have f1:=tw.free;have hB:=(qma _ _ _ _).trans (hst.below (B:=w.heap.size) (by simp;omega) om (fun k e=>by cases e));clear tw t0 hst))
    refine bodyPost_ret (v:=.agg #[.int .i64 1,.int .i64 (lAt s.data.toList 12),.int .i64 0,.int .i64 (lAt s.data.toList 16),.int .i64 (wAt s.data.toList 24),.int .i64 (byt s.data.toList 8),.int .i64 (wAt s.data.toList 4),.int .i64 0,.int .i64 (wAt s.data.toList 26),.int .i64 0,.int .i64 0,.string ((s.extract 20 s.size).extract 8 (s.size-20))]) (by simp[results,results64,go_sem,c0]) rfl ⟨by rw[E.out],?_⟩
    iterate 12 (refine Below.setCell ?_ (by exact Nat.le_refl _) _)
    exact hB
  ·have pn:qb4 6=20:=rfl
   have h40:=ht h1
   have E:Hid (pv (qam s.data.toList)=.agg #[.int .i64 6,.int .i64 (lAt s.data.toList 12),.int .i64 (wAt s.data.toList 20),.int .i64 (lAt s.data.toList 16),.int .i64 (wAt s.data.toList 22),.int .i64 (byt s.data.toList 8),.int .i64 (wAt s.data.toList 4),.int .i64 (byt s.data.toList 33),.int .i64 (lAt s.data.toList 24),.int .i64 (lAt s.data.toList 28),.int .i64 (wAt s.data.toList 34),.string ((s.extract 20 s.size).extract 20 (s.size-20))]):=by
    show _=_
    unfold qam pv
    rw[if_neg om,if_pos h1,←z2,qmg]
   obtain⟨b5,b6⟩:=qf3 s.data.toList 33
   have ge13:∀h,(((s.extract 20 s.size)[13]'h).toNat:Int)=byt s.data.toList 33:=fun h=>qi8 s 13 h
   have iw33:IntKind.i64.wrap (byt s.data.toList 33)=byt s.data.toList 33:=wrap_i64 _ om om
   have z6:(13:Int)<(s.size:Int)-20:=by omega
   rw[h1]
   go_wp2_with (first
    | (go_at_call 78;refine(qbz _ _).mono ?_;rintro e w' ⟨rfl,rfl⟩)
    | (go_at_call 91;refine(qg1 s _ _ om hs om om).mono ?_;rintro e w' ⟨rfl,q,rfl⟩;simp only[Int.reduceToNat,Nat.reduceAdd])
    | (go_at_call 94;refine(qt3 s _ _ om hs om om).mono ?_;rintro e w' ⟨rfl,q,rfl⟩;simp only[Int.reduceToNat,Nat.reduceAdd]))
   go_region_held3 (fun _=>True) (trivial) (first
    | (go_at_call 91;refine(qg1 s _ _ om hs om om).mono ?_;rintro e w' ⟨rfl,q,rfl⟩;simp only[Int.reduceToNat,Nat.reduceAdd]))
   all_goals
    go_wp2_with fail
    exact bodyPost_ret (v:=.agg #[.int .i64 6,.int .i64 (lAt s.data.toList 12),.int .i64 (wAt s.data.toList 20),.int .i64 (lAt s.data.toList 16),.int .i64 (wAt s.data.toList 22),.int .i64 (byt s.data.toList 8),.int .i64 (wAt s.data.toList 4),.int .i64 (byt s.data.toList 33),.int .i64 (lAt s.data.toList 24),.int .i64 (lAt s.data.toList 28),.int .i64 (wAt s.data.toList 34),.string ((s.extract 20 s.size).extract 20 (s.size-20))]) (by simp[results,results64,go_sem]) rfl ⟨by rw[E.out],qma _ _ _ _⟩
  ·have pn:qb4 17=8:=rfl
   have E:Hid (pv (qam s.data.toList)=.agg #[.int .i64 17,.int .i64 (lAt s.data.toList 12),.int .i64 (wAt s.data.toList 20),.int .i64 (lAt s.data.toList 16),.int .i64 (wAt s.data.toList 22),.int .i64 (byt s.data.toList 8),.int .i64 (wAt s.data.toList 4),.int .i64 0,.int .i64 0,.int .i64 0,.int .i64 0,.string ((s.extract 20 s.size).extract 8 (s.size-20))]):=by
    show _=_
    unfold qam pv
    rw[if_neg om,if_neg om,←z2,qmg,h1]
   rw[h1]
   go_wp2_with (first
    | (go_at_call 78;refine(qbz _ _).mono ?_;rintro e w' ⟨rfl,rfl⟩)
    | (go_at_call 91;refine(qg1 s _ _ om hs om om).mono ?_;rintro e w' ⟨rfl,q,rfl⟩;simp only[Int.reduceToNat,Nat.reduceAdd])
    | (go_at_call 94;refine(qt3 s _ _ om hs om om).mono ?_;rintro e w' ⟨rfl,q,rfl⟩;simp only[Int.reduceToNat,Nat.reduceAdd]))
   exact bodyPost_ret (v:=.agg #[.int .i64 17,.int .i64 (lAt s.data.toList 12),.int .i64 (wAt s.data.toList 20),.int .i64 (lAt s.data.toList 16),.int .i64 (wAt s.data.toList 22),.int .i64 (byt s.data.toList 8),.int .i64 (wAt s.data.toList 4),.int .i64 0,.int .i64 0,.int .i64 0,.int .i64 0,.string ((s.extract 20 s.size).extract 8 (s.size-20))]) (by simp[results,results64,go_sem]) rfl ⟨by rw[E.out],qma _ _ _ _⟩
end Go.Proofs.YtnicenfgemkdnaaGreatDoor
namespace Go.Proofs.YtnicenfgemkdnaaGreatDoor
open _root_.Go.Proofs.Tryz
set_option maxHeartbeats 16000000
set_option maxRecDepth 100000
open Go.RowKit
structure qls(l:List UInt8):Prop where
 len:20<=l.length
 mark:byt l 0=69
 size:wAt l 2=l.length
 sum:bk (tot (l.take 20))=65535
 serv:byt l 1=0
 piece:wAt l 6=0
 ttl:byt l 8≠0
 kind:qdc (byt l 9)=true
theorem qk8(l:List UInt8)(h:qcw l=0):qls l:=by
 unfold qcw at h
 by_cases h1:l.length<20
 ·rw[if_pos h1] at h;omega
 rw[if_neg h1] at h
 by_cases h2:byt l 0≠69
 ·rw[if_pos h2] at h;omega
 rw[if_neg h2] at h
 by_cases h3:wAt l 2≠l.length
 ·rw[if_pos h3] at h;omega
 rw[if_neg h3] at h
 by_cases h4:bk (tot (l.take 20))≠65535
 ·rw[if_pos h4] at h;omega
 rw[if_neg h4] at h
 by_cases h5:byt l 1≠0
 ·rw[if_pos h5] at h;omega
 rw[if_neg h5] at h
 by_cases h6:wAt l 6≠0
 ·rw[if_pos h6] at h;omega
 rw[if_neg h6] at h
 by_cases h7:byt l 8=0
 ·rw[if_pos h7] at h;omega
 rw[if_neg h7] at h
 by_cases h8:qdc (byt l 9)=false
 ·rw[if_pos h8] at h;omega
 exact⟨by omega,by omega,by omega,by omega,by omega,by omega,h7,by simpa using h8⟩
structure qom(l:List UInt8)(proto:Int):Prop where
 len:qb4 proto<=(l.length:Int)-20
 sum:bk (tot (chkd l proto))=65535
 udpSum:proto=17->wAt l 26≠0
 ping:proto=1->byt l 20=8\/byt l 20=0
 ping':proto=1->byt l 21=0
 tcp1:proto=6->byt l 32=80
 tcp2:proto=6->byt l 33<=63
 tcp3:proto=6->wAt l 38=0
 udp:proto=17->wAt l 24=(l.length:Int)-20
theorem qsp(l:List UInt8)(proto:Int)(h:qcx l proto=0):qom l proto:=by
 unfold qcx at h
 by_cases h1:(l.length:Int)-20<qb4 proto
 ·rw[if_pos h1] at h;omega
 rw[if_neg h1] at h
 by_cases h2:bk (tot (chkd l proto))≠65535
 ·rw[if_pos h2] at h;omega
 rw[if_neg h2] at h
 by_cases h3:proto=17/\wAt l 26=0
 ·rw[if_pos h3] at h;omega
 rw[if_neg h3] at h
 by_cases h4:proto=1/\byt l 20≠8/\byt l 20≠0
 ·rw[if_pos h4] at h;omega
 rw[if_neg h4] at h
 by_cases h5:proto=1/\byt l 21≠0
 ·rw[if_pos h5] at h;omega
 rw[if_neg h5] at h
 by_cases h6:proto=6/\byt l 32≠80
 ·rw[if_pos h6] at h;omega
 rw[if_neg h6] at h
 by_cases h7:proto=6/\63<byt l 33
 ·rw[if_pos h7] at h;omega
 rw[if_neg h7] at h
 by_cases h8:proto=6/\wAt l 38≠0
 ·rw[if_pos h8] at h;omega
 rw[if_neg h8] at h
 by_cases h9:proto=17/\wAt l 24≠(l.length:Int)-20
 ·rw[if_pos h9] at h;omega
 exact⟨by omega,by omega,by omega,by omega,by omega,by omega,by omega,by omega,by omega⟩
theorem qls.small{l:List UInt8}(h:qls l):l.length<=65535:=by
 have:=h.size;have:=qhr l 2;omega
theorem qge(n:Int)(h:qdc n=true):8<=qb4 n:=by
 rcases(qei _).1 h with rfl|rfl|rfl<;>decide
theorem qgi(l:List UInt8)(h:bad l=0):qls l/\qom l (byt l 9)/\good (qam l)=0:=by
 unfold bad at h
 by_cases h1:qcw l≠0
 ·rw[if_pos h1] at h;omega
 rw[if_neg h1] at h
 by_cases h2:qcx l (byt l 9)≠0
 ·rw[if_pos h2] at h;omega
 rw[if_neg h2] at h
 exact⟨qk8 l om,qsp l _ om,h⟩
end Go.Proofs.YtnicenfgemkdnaaGreatDoor
namespace Go.Proofs.YtnicenfgemkdnaaGreatDoor
open _root_.Go.Proofs.Tryz
set_option maxHeartbeats 16000000
set_option maxRecDepth 100000
open Go.ChangeShapes Go.WideShapes Go.ChangeAt Go.RowKit
theorem qmh(e:Int)(w:World):Calls prog 62 #[.int .i64 e] w fun r w'=>r=.returned (.tuple #[pv p0,.int .i64 e])/\Below w.heap.size w w':=by
 go_enter func62,ntmps62
 go_wp2
 exact bodyPost_ret (v:=.tuple #[pv p0,.int .i64 e]) (by simp[results,results62,go_sem,pv,p0];rfl) rfl ⟨rfl,((Below.refl _ _).alloc (Nat.le_refl _) _).alloc zm _⟩
theorem qbx.below{w w':World}{b:Nat}{cs:Array Value}(h:qbx w b cs)(hb:Below w.heap.size w w'):qbx w' b cs:=
 (hb.block b (Array.getElem?_eq_some_iff.1 h).1).trans h
theorem q0g(s:ByteArray)(w:World)(hs:s.size<=140737488351232)(h:qcw s.data.toList≠0):
  Calls prog 26 #[.string s] w fun e w'=>e=.returned (.tuple #[pv p0,.int .i64 (qcw s.data.toList)])/\Below w.heap.size w w':=by
 have hn:(qcw s.data.toList==0)=false:=by simpa using h
 have T0:qbx (w.alloc (.cells #[.int .i64 0,.int .i64 0,.int .i64 0,.int .i64 0,.int .i64 0,.int .i64 0,.int .i64 0,.int .i64 0,.int .i64 0,.int .i64 0,.int .i64 0,.string ⟨#[]⟩] 58)) w.heap.size #[.int .i64 0,.int .i64 0,.int .i64 0,.int .i64 0,.int .i64 0,.int .i64 0,.int .i64 0,.int .i64 0,.int .i64 0,.int .i64 0,.int .i64 0,.string ⟨#[]⟩]:=heap_alloc_new w _
 have hB:Below w.heap.size w (w.alloc (.cells #[.int .i64 0,.int .i64 0,.int .i64 0,.int .i64 0,.int .i64 0,.int .i64 0,.int .i64 0,.int .i64 0,.int .i64 0,.int .i64 0,.int .i64 0,.string ⟨#[]⟩] 58)):=(Below.refl _ _).alloc (Nat.le_refl _) _
 have c0:=T0.cell;have f0:=T0.free
 go_enter func26,ntmps26
 go_wp2_with (first
  | (go_at_call 61;refine(qh2 s _ hs).mono ?_;rintro e w' ⟨rfl,hb⟩;replace T0:=T0.below hb;replace hB:=hB.trans (hb.mono hB.size);clear hb;have c0:=T0.cell;have f0:=T0.free)
  | (go_at_call 62;refine(qmh _ _).mono ?_;rintro e w' ⟨rfl,hb⟩;replace T0:=T0.below hb;replace hB:=hB.trans (hb.mono hB.size);clear hb;have c0:=T0.cell;have f0:=T0.free;unfold pv p0))
 refine bodyPost_ret (v:=.tuple #[pv p0,.int .i64 (qcw s.data.toList)]) (by simp[results,results26,go_sem,pv,p0,c0]<;>rfl) rfl ⟨rfl,?_⟩
 iterate 12 (refine Below.setCell ?_ (by exact Nat.le_refl _) _)
 exact hB
theorem qyw(s:ByteArray)(w:World)(hs:s.size<=140737488351232)(h0:qcw s.data.toList=0)(h1:qcx s.data.toList (byt s.data.toList 9)≠0):
  Calls prog 26 #[.string s] w fun e w'=>e=.returned (.tuple #[pv p0,.int .i64 (qcx s.data.toList (byt s.data.toList 9))])/\Below w.heap.size w w':=by
 have H:=qk8 _ h0
 have h20:20<=s.size:=by have:=H.len;rw[qb6] at this;exact this
 have h65:s.size<=65535:=by have:=H.small;rw[qb6] at this;exact this
 have g9:=qfo s 9 om
 obtain⟨b3,b4⟩:=qf3 s.data.toList 9
 have hz:(qcw s.data.toList==0)=true:=by simpa using h0
 have hn:(qcx s.data.toList (byt s.data.toList 9)==0)=false:=by simpa using h1
 have T0:qbx (w.alloc (.cells #[.int .i64 0,.int .i64 0,.int .i64 0,.int .i64 0,.int .i64 0,.int .i64 0,.int .i64 0,.int .i64 0,.int .i64 0,.int .i64 0,.int .i64 0,.string ⟨#[]⟩] 58)) w.heap.size #[.int .i64 0,.int .i64 0,.int .i64 0,.int .i64 0,.int .i64 0,.int .i64 0,.int .i64 0,.int .i64 0,.int .i64 0,.int .i64 0,.int .i64 0,.string ⟨#[]⟩]:=heap_alloc_new w _
 have hB:Below w.heap.size w (w.alloc (.cells #[.int .i64 0,.int .i64 0,.int .i64 0,.int .i64 0,.int .i64 0,.int .i64 0,.int .i64 0,.int .i64 0,.int .i64 0,.int .i64 0,.int .i64 0,.string ⟨#[]⟩] 58)):=(Below.refl _ _).alloc (Nat.le_refl _) _
 have c0:=T0.cell;have f0:=T0.free
 go_enter func26,ntmps26
 go_wp2_with (first
  | (go_at_call 61;refine(qh2 s _ hs).mono ?_;rintro e w' ⟨rfl,hb⟩;rw[h0];replace T0:=T0.below hb;replace hB:=hB.trans (hb.mono hB.size);clear hb;have c0:=T0.cell;have f0:=T0.free)
  | (go_at_call 63;refine(qkj s _ _ h20 h65 H.kind).mono ?_;rintro e w' ⟨rfl,hb⟩;replace T0:=T0.below hb;replace hB:=hB.trans (hb.mono hB.size);clear hb;have c0:=T0.cell;have f0:=T0.free)
  | (go_at_call 62;refine(qmh _ _).mono ?_;rintro e w' ⟨rfl,hb⟩;replace T0:=T0.below hb;replace hB:=hB.trans (hb.mono hB.size);clear hb;have c0:=T0.cell;have f0:=T0.free;unfold pv p0))
 refine bodyPost_ret (v:=.tuple #[pv p0,.int .i64 (qcx s.data.toList (byt s.data.toList 9))]) (by simp[results,results26,go_sem,pv,p0,c0]<;>rfl) rfl ⟨rfl,?_⟩
 iterate 12 (refine Below.setCell ?_ (by exact Nat.le_refl _) _)
 exact hB
theorem qv4(l:List UInt8):(qam l).body.size<=l.length:=by
 unfold qam
 split<;>(try split)<;>simp[qck]<;>omega
theorem q1d(s:ByteArray)(w:World)(hs:s.size<=140737488351232)(h0:qcw s.data.toList=0)(h1:qcx s.data.toList (byt s.data.toList 9)=0)(k:Pkt)(hk:qam s.data.toList=k)(h2:good k≠0):
  Calls prog 26 #[.string s] w fun e w'=>e=.returned (.tuple #[pv p0,.int .i64 (good k)])/\Below w.heap.size w w':=by
 have H:=qk8 _ h0
 have h20:20<=s.size:=by have:=H.len;rw[qb6] at this;exact this
 have h65:s.size<=65535:=by have:=H.small;rw[qb6] at this;exact this
 have g9:=qfo s 9 om
 obtain⟨b3,b4⟩:=qf3 s.data.toList 9
 have hz:(qcw s.data.toList==0)=true:=by simpa using h0
 have P:=qsp _ _ h1
 have hpl:=qge _ H.kind
 have h28:28<=s.size:=by have:=P.len;rw[qb6] at this;omega
 have hf:=P.ping
 have ht:byt s.data.toList 9=6->40<=s.size:=fun e=>by have:=P.len;rw[qb6,e,show qb4 6=20 from rfl] at this;omega
 have hbody:k.body.size<=140737488351232:=by rw[←hk];have:=qv4 s.data.toList;rw[qb6] at this;omega
 have hn:(good k==0)=false:=by simpa using h2
 have T0:qbx (w.alloc (.cells #[.int .i64 0,.int .i64 0,.int .i64 0,.int .i64 0,.int .i64 0,.int .i64 0,.int .i64 0,.int .i64 0,.int .i64 0,.int .i64 0,.int .i64 0,.string ⟨#[]⟩] 58)) w.heap.size #[.int .i64 0,.int .i64 0,.int .i64 0,.int .i64 0,.int .i64 0,.int .i64 0,.int .i64 0,.int .i64 0,.int .i64 0,.int .i64 0,.int .i64 0,.string ⟨#[]⟩]:=heap_alloc_new w _
 have hB:Below w.heap.size w (w.alloc (.cells #[.int .i64 0,.int .i64 0,.int .i64 0,.int .i64 0,.int .i64 0,.int .i64 0,.int .i64 0,.int .i64 0,.int .i64 0,.int .i64 0,.int .i64 0,.string ⟨#[]⟩] 58)):=(Below.refl _ _).alloc (Nat.le_refl _) _
 have c0:=T0.cell;have f0:=T0.free
 go_enter func26,ntmps26
 go_wp2_with (first
  | (go_at_call 61;refine(qh2 s _ hs).mono ?_;rintro e w' ⟨rfl,hb⟩;rw[h0];replace T0:=T0.below hb;replace hB:=hB.trans (hb.mono hB.size);clear hb;have c0:=T0.cell;have f0:=T0.free)
  | (go_at_call 63;refine(qkj s _ _ h20 h65 H.kind).mono ?_;rintro e w' ⟨rfl,hb⟩;rw[h1];replace T0:=T0.below hb;replace hB:=hB.trans (hb.mono hB.size);clear hb;have c0:=T0.cell;have f0:=T0.free)
  | (go_at_call 64;refine(qn9 s _ h28 h65 H.kind hf ht).mono ?_;rintro e w3 ⟨rfl,hb⟩;replace T0:=T0.below hb;replace hB:=hB.trans (hb.mono hB.size);clear hb;have c0:=T0.cell;have f0:=T0.free;rw[hk];unfold pv;have T1:qbx (w3.alloc (.cells #[.int .i64 k.proto,.int .i64 k.src,.int .i64 k.sport,.int .i64 k.dst,.int .i64 k.dport,.int .i64 k.ttl,.int .i64 k.id,.int .i64 k.flags,.int .i64 k.seq,.int .i64 k.ack,.int .i64 k.win,.string k.body] 58)) w3.heap.size #[.int .i64 k.proto,.int .i64 k.src,.int .i64 k.sport,.int .i64 k.dst,.int .i64 k.dport,.int .i64 k.ttl,.int .i64 k.id,.int .i64 k.flags,.int .i64 k.seq,.int .i64 k.ack,.int .i64 k.win,.string k.body]:=heap_alloc_new w3 _;replace hB:=hB.alloc (by have:=hB.size;omega) (.cells #[.int .i64 k.proto,.int .i64 k.src,.int .i64 k.sport,.int .i64 k.dst,.int .i64 k.dport,.int .i64 k.ttl,.int .i64 k.id,.int .i64 k.flags,.int .i64 k.seq,.int .i64 k.ack,.int .i64 k.win,.string k.body] 58);replace T0:=T0.below ((Below.refl _ _).alloc (Nat.le_refl _) (.cells #[.int .i64 k.proto,.int .i64 k.src,.int .i64 k.sport,.int .i64 k.dst,.int .i64 k.dport,.int .i64 k.ttl,.int .i64 k.id,.int .i64 k.flags,.int .i64 k.seq,.int .i64 k.ack,.int .i64 k.win,.string k.body] 58)))
  | (go_at_call 45;refine(qke k _ hbody).mono ?_;rintro e w' ⟨rfl,hb⟩;replace T0:=T0.below hb;replace hB:=hB.trans (hb.mono hB.size);replace T1:=T1.below hb;clear hb;have c0:=T0.cell;have f0:=T0.free;have c1:=T1.cell;have f1:=T1.free)
  | (go_at_call 62;refine(qmh _ _).mono ?_;rintro e w' ⟨rfl,hb⟩;replace T0:=T0.below hb;replace hB:=hB.trans (hb.mono hB.size);clear hb;have c0:=T0.cell;have f0:=T0.free;unfold pv p0))
 refine bodyPost_ret (v:=.tuple #[pv p0,.int .i64 (good k)]) (by simp[results,results26,go_sem,pv,p0,c0]<;>rfl) rfl ⟨rfl,?_⟩
 iterate 12 (refine Below.setCell ?_ (by exact Nat.le_refl _) _)
 exact hB
theorem q01(s:ByteArray)(w:World)(hs:s.size<=140737488351232)(h0:qcw s.data.toList=0)(h1:qcx s.data.toList (byt s.data.toList 9)=0)(k:Pkt)(hk:qam s.data.toList=k)(h2:good k=0):
  Calls prog 26 #[.string s] w fun e w'=>e=.returned (.tuple #[pv k,.int .i64 0])/\Below w.heap.size w w':=by
 have H:=qk8 _ h0
 have h20:20<=s.size:=by have:=H.len;rw[qb6] at this;exact this
 have h65:s.size<=65535:=by have:=H.small;rw[qb6] at this;exact this
 have g9:=qfo s 9 om
 obtain⟨b3,b4⟩:=qf3 s.data.toList 9
 have hz:(qcw s.data.toList==0)=true:=by simpa using h0
 have P:=qsp _ _ h1
 have hpl:=qge _ H.kind
 have h28:28<=s.size:=by have:=P.len;rw[qb6] at this;omega
 have hf:=P.ping
 have ht:byt s.data.toList 9=6->40<=s.size:=fun e=>by have:=P.len;rw[qb6,e,show qb4 6=20 from rfl] at this;omega
 have hbody:k.body.size<=140737488351232:=by rw[←hk];have:=qv4 s.data.toList;rw[qb6] at this;omega
 have T0:qbx (w.alloc (.cells #[.int .i64 0,.int .i64 0,.int .i64 0,.int .i64 0,.int .i64 0,.int .i64 0,.int .i64 0,.int .i64 0,.int .i64 0,.int .i64 0,.int .i64 0,.string ⟨#[]⟩] 58)) w.heap.size #[.int .i64 0,.int .i64 0,.int .i64 0,.int .i64 0,.int .i64 0,.int .i64 0,.int .i64 0,.int .i64 0,.int .i64 0,.int .i64 0,.int .i64 0,.string ⟨#[]⟩]:=heap_alloc_new w _
 have hB:Below w.heap.size w (w.alloc (.cells #[.int .i64 0,.int .i64 0,.int .i64 0,.int .i64 0,.int .i64 0,.int .i64 0,.int .i64 0,.int .i64 0,.int .i64 0,.int .i64 0,.int .i64 0,.string ⟨#[]⟩] 58)):=(Below.refl _ _).alloc (Nat.le_refl _) _
 have c0:=T0.cell;have f0:=T0.free
 go_enter func26,ntmps26
 go_wp2_with (first
  | (go_at_call 61;refine(qh2 s _ hs).mono ?_;rintro e w' ⟨rfl,hb⟩;rw[h0];replace T0:=T0.below hb;replace hB:=hB.trans (hb.mono hB.size);clear hb;have c0:=T0.cell;have f0:=T0.free)
  | (go_at_call 63;refine(qkj s _ _ h20 h65 H.kind).mono ?_;rintro e w' ⟨rfl,hb⟩;rw[h1];replace T0:=T0.below hb;replace hB:=hB.trans (hb.mono hB.size);clear hb;have c0:=T0.cell;have f0:=T0.free)
  | (go_at_call 64;refine(qn9 s _ h28 h65 H.kind hf ht).mono ?_;rintro e w3 ⟨rfl,hb⟩;replace T0:=T0.below hb;replace hB:=hB.trans (hb.mono hB.size);clear hb;have c0:=T0.cell;have f0:=T0.free;rw[hk];unfold pv;have T1:qbx (w3.alloc (.cells #[.int .i64 k.proto,.int .i64 k.src,.int .i64 k.sport,.int .i64 k.dst,.int .i64 k.dport,.int .i64 k.ttl,.int .i64 k.id,.int .i64 k.flags,.int .i64 k.seq,.int .i64 k.ack,.int .i64 k.win,.string k.body] 58)) w3.heap.size #[.int .i64 k.proto,.int .i64 k.src,.int .i64 k.sport,.int .i64 k.dst,.int .i64 k.dport,.int .i64 k.ttl,.int .i64 k.id,.int .i64 k.flags,.int .i64 k.seq,.int .i64 k.ack,.int .i64 k.win,.string k.body]:=heap_alloc_new w3 _;replace hB:=hB.alloc (by have:=hB.size;omega) (.cells #[.int .i64 k.proto,.int .i64 k.src,.int .i64 k.sport,.int .i64 k.dst,.int .i64 k.dport,.int .i64 k.ttl,.int .i64 k.id,.int .i64 k.flags,.int .i64 k.seq,.int .i64 k.ack,.int .i64 k.win,.string k.body] 58);replace T0:=T0.below ((Below.refl _ _).alloc (Nat.le_refl _) (.cells #[.int .i64 k.proto,.int .i64 k.src,.int .i64 k.sport,.int .i64 k.dst,.int .i64 k.dport,.int .i64 k.ttl,.int .i64 k.id,.int .i64 k.flags,.int .i64 k.seq,.int .i64 k.ack,.int .i64 k.win,.string k.body] 58)))
  | (go_at_call 45;refine(qke k _ hbody).mono ?_;rintro e w' ⟨rfl,hb⟩;rw[h2];replace T0:=T0.below hb;replace hB:=hB.trans (hb.mono hB.size);replace T1:=T1.below hb;clear hb;have c0:=T0.cell;have f0:=T0.free;have c1:=T1.cell;have f1:=T1.free))
 refine bodyPost_ret (v:=.tuple #[pv k,.int .i64 0]) (by simp[results,results26,go_sem,pv,c0]) rfl ⟨rfl,?_⟩
 iterate 12 (refine Below.setCell ?_ (by exact Nat.le_refl _) _)
 exact hB
theorem qch(s:ByteArray)(w:World)(hs:s.size<=140737488351232):
  Calls prog 26 #[.string s] w fun e w'=>e=.returned (.tuple #[pv (qb9 s.data.toList),.int .i64 (bad s.data.toList)])/\Below w.heap.size w w':=by
 by_cases h0:qcw s.data.toList=0
 ·by_cases h1:qcx s.data.toList (byt s.data.toList 9)=0
  ·have e:bad s.data.toList=good (qam s.data.toList):=by unfold bad;rw[if_neg om,if_neg om]
   by_cases h2:good (qam s.data.toList)=0
   ·rw[qb9,e,if_pos h2,h2];exact q01 s w hs h0 h1 _ rfl h2
   ·rw[qb9,e,if_neg h2];exact q1d s w hs h0 h1 _ rfl h2
  ·have e:bad s.data.toList=qcx s.data.toList (byt s.data.toList 9):=by unfold bad;rw[if_neg om,if_pos h1]
   rw[qb9,e,if_neg h1];exact qyw s w hs h0 h1
 ·have e:bad s.data.toList=qcw s.data.toList:=by unfold bad;rw[if_pos h0]
  rw[qb9,e,if_neg h0];exact q0g s w hs h0
def twoB(n:Int):Bool:=n==0||n==65535
def qg8(l:List UInt8)(proto:Int):List UInt8:=if twoB (wAt l (qbd proto))=true then qgf l proto else l
theorem qky(p g:Nat)(l:List UInt8)(w:World)(h:Rd w p g l)(proto:Int)(hl:qbd proto+1<l.length)(hm:l.length<=400000):
  Calls prog 143 #[.pointer (some ⟨p,0,none⟩),.int .i64 proto] w fun e w'=>e=.returned (.tuple #[])/\Rd w' p g (qg8 l proto)/\Step p (some g) (some g) w w':=by
 have hS:=Step.refl p (some g) w
 have two:∀(n:Int) (w:World),Calls prog 171 #[.int .i64 n] w fun e w'=>e=.returned (.bool (twoB n))/\w'=w:=qw4
 by_cases ht:twoB (wAt l (qbd proto))=true
 ·have E:Hid (qg8 l proto=qgf l proto):=by show _=_;unfold qg8;rw[if_pos ht]
  go_enter func143,ntmps143
  go_wp2_with (first
   | (go_at_call 93;refine(qdp _ _).mono ?_;rintro e w' ⟨rfl,rfl⟩)
   | (go_at_call 169;refine(qli p g _ _ h _ hl).mono ?_;rintro e w' ⟨rfl,h,hst⟩;replace hS:=hS.trans hst;clear hst)
   | (go_at_call 171;refine(two _ _).mono ?_;rintro e w' ⟨rfl,rfl⟩)
   | (go_at_call 117;refine(qlk p g _ _ h _ hl hm).mono ?_;rintro e w' ⟨rfl,h,hst⟩;replace hS:=hS.trans hst;clear hst))
  go_end0
  exact⟨rfl,by rw[E.out];exact h,hS⟩
 ·have E:Hid (qg8 l proto=l):=by show _=_;unfold qg8;rw[if_neg ht]
  have ht':twoB (wAt l (qbd proto))=false:=by simpa using ht
  go_enter func143,ntmps143
  go_wp2_with (first
   | (go_at_call 93;refine(qdp _ _).mono ?_;rintro e w' ⟨rfl,rfl⟩)
   | (go_at_call 169;refine(qli p g _ _ h _ hl).mono ?_;rintro e w' ⟨rfl,h,hst⟩;replace hS:=hS.trans hst;clear hst)
   | (go_at_call 171;refine(two _ _).mono ?_;rintro e w' ⟨rfl,rfl⟩))
  go_end0
  exact⟨rfl,by rw[E.out];exact h,hS⟩
theorem qjw(s:ByteArray)(w:World):∃(C:Array Value) (cap:Nat),
  (convert 9 167 (.string s)).run prog w=.ok (.slice (some ⟨w.heap.size,0,none⟩) s.size cap) (w.drew.alloc (.cells C 5 (C.size,C.size+1)))/\
  s.size<=cap/\(s.size<=maxLen->cap<=maxLen)/\C.toList.take s.data.toList.length=bc s.data.toList:=by
 refine⟨_,_,run_bytes_of_string w 9 167 5 s underlying9 underlying167 underlying5,grownCap_ge _ _ _ _,fun h=>grownCap_le_maxLen _ _ _ _ h,?_⟩
 unfold bytesRow bc
 rw[Array.toList_append,List.take_append_of_le_length zm,List.take_of_length_le zm]
 simp
theorem qrr(w:World)(s:ByteArray)(C:Array Value)(cap p g:Nat)(hg:w.heap.size=g)(hp:w.heap.size+1=p)(h1:s.size<=cap)(h2:cap<=maxLen)(h3:C.toList.take s.data.toList.length=bc s.data.toList):
  Rd (((w.alloc (.cells C 5 (C.size,C.size+1))).alloc (.cells #[.slice (some ⟨g,0,none⟩) s.size cap] 169)).drew) p g s.data.toList:=by
 show Rd ((w.alloc (.cells C 5 (C.size,C.size+1))).alloc (.cells #[.slice (some ⟨g,0,none⟩) s.size cap] 169)) p g s.data.toList
 subst hg hp
 refine⟨cap,C,(C.size,C.size+1),?_,by omega,?_,.inr (Nat.le_refl _),by rw[qb6];exact h1,h2,h3⟩
 ·rw[qb6]
  have:=heap_alloc_new (w.alloc (.cells C 5 (C.size,C.size+1))) (.cells #[.slice (some ⟨w.heap.size,0,none⟩) s.size cap] 169)
  simpa using this
 ·rw[Below.heap_alloc _ _ _ zm]
  exact heap_alloc_new w _
theorem q60(s:ByteArray)(side addr port:Int)(w:World)(hs:s.size<=140737488351232)(k:Pkt)(hk:qb9 s.data.toList=k)(e0:Int)(hb:bad s.data.toList=e0)(he:e0≠0):
  Calls prog 105 #[.string s,.int .i64 side,.int .i64 addr,.int .i64 port] w fun e w'=>e=.returned (.tuple #[.string ByteArray.empty,.int .i64 e0])/\Below w.heap.size w w':=by
 have hz:(e0==0)=false:=by simpa using he
 go_enter func105,ntmps105
 go_wp2_with (first
  | (go_at_call 26;refine(qch s _ hs).mono ?_;rintro e w1 ⟨rfl,hb1⟩;rw[hb,hk];unfold pv;have T1:qbx (w1.alloc (.cells #[.int .i64 k.proto,.int .i64 k.src,.int .i64 k.sport,.int .i64 k.dst,.int .i64 k.dport,.int .i64 k.ttl,.int .i64 k.id,.int .i64 k.flags,.int .i64 k.seq,.int .i64 k.ack,.int .i64 k.win,.string k.body] 58)) w1.heap.size #[.int .i64 k.proto,.int .i64 k.src,.int .i64 k.sport,.int .i64 k.dst,.int .i64 k.dport,.int .i64 k.ttl,.int .i64 k.id,.int .i64 k.flags,.int .i64 k.seq,.int .i64 k.ack,.int .i64 k.win,.string k.body]:=heap_alloc_new w1 _;have c1:=T1.cell)
  | (go_at_call 112;refine(qdz _ _).mono ?_;rintro e w' ⟨rfl,rfl⟩)
  | (go_at_call 119;refine(qd1 _ _).mono ?_;rintro e w' ⟨rfl,rfl⟩)
  | (go_at_call 120;refine(qcz _ _).mono ?_;rintro e w' ⟨rfl,rfl⟩))
 all_goals
  go_ret2
  exact⟨rfl,hb1.alloc hb1.size _⟩
theorem q1j(s:ByteArray)(side addr port:Int)(w:World)(hs:s.size<=140737488351232)(k:Pkt)(hk:qb9 s.data.toList=k)(hb:bad s.data.toList=0)(h0:side≠0)(h1:side≠1):
  Calls prog 105 #[.string s,.int .i64 side,.int .i64 addr,.int .i64 port] w fun e w'=>e=.returned (.tuple #[.string ByteArray.empty,.int .i64 2])/\Below w.heap.size w w':=by
 have h0':(side==0)=false:=by simpa using h0
 have h1':(side==1)=false:=by simpa using h1
 go_enter func105,ntmps105
 go_wp2_with (first
  | (go_at_call 26;refine(qch s _ hs).mono ?_;rintro e w1 ⟨rfl,hb1⟩;rw[hb,hk];unfold pv;have T1:qbx (w1.alloc (.cells #[.int .i64 k.proto,.int .i64 k.src,.int .i64 k.sport,.int .i64 k.dst,.int .i64 k.dport,.int .i64 k.ttl,.int .i64 k.id,.int .i64 k.flags,.int .i64 k.seq,.int .i64 k.ack,.int .i64 k.win,.string k.body] 58)) w1.heap.size #[.int .i64 k.proto,.int .i64 k.src,.int .i64 k.sport,.int .i64 k.dst,.int .i64 k.dport,.int .i64 k.ttl,.int .i64 k.id,.int .i64 k.flags,.int .i64 k.seq,.int .i64 k.ack,.int .i64 k.win,.string k.body]:=heap_alloc_new w1 _;have c1:=T1.cell)
  | (go_at_call 112;refine(qdz _ _).mono ?_;rintro e w' ⟨rfl,rfl⟩)
  | (go_at_call 119;refine(qd1 _ _).mono ?_;rintro e w' ⟨rfl,rfl⟩)
  | (go_at_call 120;refine(qcz _ _).mono ?_;rintro e w' ⟨rfl,rfl⟩))
 all_goals
  go_ret2
  exact⟨rfl,hb1.alloc hb1.size _⟩
theorem q4e(s:ByteArray)(side addr port:Int)(w:World)(hs:s.size<=140737488351232)(k:Pkt)(hk:qb9 s.data.toList=k)(hb:bad s.data.toList=0)(h0:side=0\/side=1)(ha:qeb addr=false):
  Calls prog 105 #[.string s,.int .i64 side,.int .i64 addr,.int .i64 port] w fun e w'=>e=.returned (.tuple #[.string ByteArray.empty,.int .i64 2])/\Below w.heap.size w w':=by
 rcases h0 with rfl|rfl
 all_goals
  go_enter func105,ntmps105
  go_wp2_with (first
   | (go_at_call 26;refine(qch s _ hs).mono ?_;rintro e w1 ⟨rfl,hb1⟩;rw[hb,hk];unfold pv;have T1:qbx (w1.alloc (.cells #[.int .i64 k.proto,.int .i64 k.src,.int .i64 k.sport,.int .i64 k.dst,.int .i64 k.dport,.int .i64 k.ttl,.int .i64 k.id,.int .i64 k.flags,.int .i64 k.seq,.int .i64 k.ack,.int .i64 k.win,.string k.body] 58)) w1.heap.size #[.int .i64 k.proto,.int .i64 k.src,.int .i64 k.sport,.int .i64 k.dst,.int .i64 k.dport,.int .i64 k.ttl,.int .i64 k.id,.int .i64 k.flags,.int .i64 k.seq,.int .i64 k.ack,.int .i64 k.win,.string k.body]:=heap_alloc_new w1 _;have c1:=T1.cell)
   | (go_at_call 112;refine(qdz _ _).mono ?_;rintro e w' ⟨rfl,rfl⟩)
   | (go_at_call 119;refine(qd1 _ _).mono ?_;rintro e w' ⟨rfl,rfl⟩)
   | (go_at_call 120;refine(qcz _ _).mono ?_;rintro e w' ⟨rfl,rfl⟩))
  all_goals
   go_ret2
   exact⟨rfl,hb1.alloc hb1.size _⟩
theorem q34(s:ByteArray)(side addr port:Int)(w:World)(hs:s.size<=140737488351232)(k:Pkt)(hk:qb9 s.data.toList=k)(hb:bad s.data.toList=0)(h0:side=0\/side=1)(ha:qeb addr=true)(hp:qc7 port=false):
  Calls prog 105 #[.string s,.int .i64 side,.int .i64 addr,.int .i64 port] w fun e w'=>e=.returned (.tuple #[.string ByteArray.empty,.int .i64 2])/\Below w.heap.size w w':=by
 rcases h0 with rfl|rfl
 all_goals
  go_enter func105,ntmps105
  go_wp2_with (first
   | (go_at_call 26;refine(qch s _ hs).mono ?_;rintro e w1 ⟨rfl,hb1⟩;rw[hb,hk];unfold pv;have T1:qbx (w1.alloc (.cells #[.int .i64 k.proto,.int .i64 k.src,.int .i64 k.sport,.int .i64 k.dst,.int .i64 k.dport,.int .i64 k.ttl,.int .i64 k.id,.int .i64 k.flags,.int .i64 k.seq,.int .i64 k.ack,.int .i64 k.win,.string k.body] 58)) w1.heap.size #[.int .i64 k.proto,.int .i64 k.src,.int .i64 k.sport,.int .i64 k.dst,.int .i64 k.dport,.int .i64 k.ttl,.int .i64 k.id,.int .i64 k.flags,.int .i64 k.seq,.int .i64 k.ack,.int .i64 k.win,.string k.body]:=heap_alloc_new w1 _;have c1:=T1.cell)
   | (go_at_call 112;refine(qdz _ _).mono ?_;rintro e w' ⟨rfl,rfl⟩)
   | (go_at_call 119;refine(qd1 _ _).mono ?_;rintro e w' ⟨rfl,rfl⟩)
   | (go_at_call 120;refine(qcz _ _).mono ?_;rintro e w' ⟨rfl,rfl⟩))
  all_goals
   go_ret2
   exact⟨rfl,hb1.alloc hb1.size _⟩
theorem q2n(s:ByteArray)(side addr port:Int)(w:World)(hs:s.size<=140737488351232)(k:Pkt)(hk:qb9 s.data.toList=k)(hb:bad s.data.toList=0)(h0:side=0\/side=1)(ha:qeb addr=true)(hp:qc7 port=true)(h1:k.ttl=1):
  Calls prog 105 #[.string s,.int .i64 side,.int .i64 addr,.int .i64 port] w fun e w'=>e=.returned (.tuple #[.string ByteArray.empty,.int .i64 12])/\Below w.heap.size w w':=by
 rcases h0 with rfl|rfl
 all_goals
  go_enter func105,ntmps105
  go_wp2_with (first
   | (go_at_call 26;refine(qch s _ hs).mono ?_;rintro e w1 ⟨rfl,hb1⟩;rw[hb,hk];unfold pv;have T1:qbx (w1.alloc (.cells #[.int .i64 k.proto,.int .i64 k.src,.int .i64 k.sport,.int .i64 k.dst,.int .i64 k.dport,.int .i64 k.ttl,.int .i64 k.id,.int .i64 k.flags,.int .i64 k.seq,.int .i64 k.ack,.int .i64 k.win,.string k.body] 58)) w1.heap.size #[.int .i64 k.proto,.int .i64 k.src,.int .i64 k.sport,.int .i64 k.dst,.int .i64 k.dport,.int .i64 k.ttl,.int .i64 k.id,.int .i64 k.flags,.int .i64 k.seq,.int .i64 k.ack,.int .i64 k.win,.string k.body]:=heap_alloc_new w1 _;have c1:=T1.cell)
   | (go_at_call 112;refine(qdz _ _).mono ?_;rintro e w' ⟨rfl,rfl⟩)
   | (go_at_call 119;refine(qd1 _ _).mono ?_;rintro e w' ⟨rfl,rfl⟩)
   | (go_at_call 120;refine(qcz _ _).mono ?_;rintro e w' ⟨rfl,rfl⟩))
  all_goals
   go_ret2
   exact⟨rfl,hb1.alloc hb1.size _⟩
theorem sZvi23{p:Prop}(h:p:=by
 clear h3
 go_enter func105,ntmps105
 go_wp2_with (first
  | (go_at_call 26;refine(qch s _ hs).mono ?_;rintro e w1 ⟨rfl,hb1⟩;rw[hb,hk];unfold pv;have T1:qbx (w1.alloc (.cells #[.int .i64 k.proto,.int .i64 k.src,.int .i64 k.sport,.int .i64 k.dst,.int .i64 k.dport,.int .i64 k.ttl,.int .i64 k.id,.int .i64 k.flags,.int .i64 k.seq,.int .i64 k.ack,.int .i64 k.win,.string k.body] 58)) w1.heap.size #[.int .i64 k.proto,.int .i64 k.src,.int .i64 k.sport,.int .i64 k.dst,.int .i64 k.dport,.int .i64 k.ttl,.int .i64 k.id,.int .i64 k.flags,.int .i64 k.seq,.int .i64 k.ack,.int .i64 k.win,.string k.body]:=heap_alloc_new w1 _;have c1:=T1.cell)
  | (go_at_call 112;refine(qdz _ _).mono ?_;rintro e w' ⟨rfl,rfl⟩)
  | (go_at_call 119;refine(qd1 _ _).mono ?_;rintro e w' ⟨rfl,rfl⟩)
  | (go_at_call 120;refine(qcz _ _).mono ?_;rintro e w' ⟨rfl,rfl⟩))
 all_goals
  go_ret2
  exact⟨rfl,hb1.alloc hb1.size _⟩):p:=h
theorem q3e(s:ByteArray)(side addr port:Int)(w:World)(hs:s.size<=140737488351232)(k:Pkt)(hk:qb9 s.data.toList=k)(hb:bad s.data.toList=0)(h0:side=0\/side=1)(ha:qeb addr=true)(hp:qc7 port=true)(h1:k.ttl≠1)(h2:k.proto=1)(h3:(k.flags==8)≠(side==0)):
  Calls prog 105 #[.string s,.int .i64 side,.int .i64 addr,.int .i64 port] w fun e w'=>e=.returned (.tuple #[.string ByteArray.empty,.int .i64 4])/\Below w.heap.size w w':=by
 have h1':(k.ttl==1)=false:=by simpa using h1
 rcases h0 with rfl|rfl
 ·have h4:(k.flags==8)=false:=by simpa using h3
  exact sZvi23
 ·have h4:(k.flags==8)=true:=by simpa using h3
  exact sZvi23
theorem qn0(w:World)(cs:Array Value)(t:TypeId)(o1 o2:Obj)(o:Nat):((((w.alloc (.cells cs t)).alloc o1).alloc o2).drew).cell? ⟨w.heap.size,o,none⟩=cs[o]?:=by
 have h:(((w.alloc (.cells cs t)).alloc o1).alloc o2).heap[w.heap.size]?=some (.cells cs t (0,0)):=by
  rw[Below.heap_alloc _ _ _ (by simp;omega),Below.heap_alloc _ _ _ zm]
  exact heap_alloc_new w _
 show(((w.alloc (.cells cs t)).alloc o1).alloc o2).cell? _=_
 simp[World.cell?,h]
theorem ql4(p g:Nat)(l:List UInt8)(w:World)(h:Rd w p g l)(proto side addr port:Int)(hs:side=0\/side=1)(a0:0<=addr)(a1:addr<=4294967295)(hl:28<=l.length)(hq:qbd proto+1<l.length):
  Calls prog 142 #[.pointer (some ⟨p,0,none⟩),.int .i64 proto,.int .i64 side,.int .i64 addr,.int .i64 port] w fun e w'=>e=.returned (.tuple #[])/\Rd w' p g (qjz l proto side addr port)/\Step p (some g) (some g) w w':=by
 by_cases hp:proto=1
 ·subst hp;exact q0l p g l w h side addr port hs a0 a1 hl
 ·exact qxk p g l w h proto side addr port hs a0 a1 hl hp hq
@[simp] theorem qayb(l:List UInt8)(proto side addr port:Int):(qjz l proto side addr port).length=l.length:=by simp[qjz]
def spun(l:List UInt8)(proto side addr port:Int):List UInt8:=qg8 (qjz (aged l) proto side addr port) proto
theorem qk2{w w1 w':World}{o1 o2 o3:Obj}{G':Option Nat}(hb:Below w.heap.size w w1)(hS:Step (w1.heap.size+1+1) (some (w1.heap.size+1)) G' ((((w1.alloc o1).alloc o2).alloc o3).drew) w'):Below w.heap.size w w':=by
 have h1:=hb.size
 have b1:Below w.heap.size w ((((w1.alloc o1).alloc o2).alloc o3).drew):=((((hb.alloc h1 o1).alloc (by simp;omega) o2).alloc (by simp;omega) o3)).drew
 exact b1.trans (hS.below (by have:=b1.size;omega) om (fun k e=>by cases e;omega))
theorem sZvi21{p:Prop}(h:p:=by
 go_wp2_with (first
  | (go_at_call 26;refine(qch s _ hs).mono ?_;rintro e w1 ⟨rfl,hb1⟩;rw[hb,hk];unfold pv;have T1:qbx (w1.alloc (.cells #[.int .i64 k.proto,.int .i64 k.src,.int .i64 k.sport,.int .i64 k.dst,.int .i64 k.dport,.int .i64 k.ttl,.int .i64 k.id,.int .i64 k.flags,.int .i64 k.seq,.int .i64 k.ack,.int .i64 k.win,.string k.body] 58)) w1.heap.size #[.int .i64 k.proto,.int .i64 k.src,.int .i64 k.sport,.int .i64 k.dst,.int .i64 k.dport,.int .i64 k.ttl,.int .i64 k.id,.int .i64 k.flags,.int .i64 k.seq,.int .i64 k.ack,.int .i64 k.win,.string k.body]:=heap_alloc_new w1 _;have c1:=T1.cell;obtain⟨C,cap,hconv,hc1,hc2,hc3⟩:=qjw s (w1.alloc (.cells #[.int .i64 k.proto,.int .i64 k.src,.int .i64 k.sport,.int .i64 k.dst,.int .i64 k.dport,.int .i64 k.ttl,.int .i64 k.id,.int .i64 k.flags,.int .i64 k.seq,.int .i64 k.ack,.int .i64 k.win,.string k.body] 58));have h:=qrr (w1.alloc (.cells #[.int .i64 k.proto,.int .i64 k.src,.int .i64 k.sport,.int .i64 k.dst,.int .i64 k.dport,.int .i64 k.ttl,.int .i64 k.id,.int .i64 k.flags,.int .i64 k.seq,.int .i64 k.ack,.int .i64 k.win,.string k.body] 58)) s C cap (w1.heap.size+1+1) (w1.heap.size+1) zm zm hc1 (hc2 (by unfold maxLen;omega)) hc3;have hI:Inv w1.heap.size (w1.heap.size+1+1) (some (w1.heap.size+1)) ((((w1.alloc (.cells #[.int .i64 k.proto,.int .i64 k.src,.int .i64 k.sport,.int .i64 k.dst,.int .i64 k.dport,.int .i64 k.ttl,.int .i64 k.id,.int .i64 k.flags,.int .i64 k.seq,.int .i64 k.ack,.int .i64 k.win,.string k.body] 58)).alloc (.cells C 5 (C.size,C.size+1))).alloc (.cells #[.slice (some ⟨w1.heap.size+1,0,none⟩) s.size cap] 169)).drew) #[.int .i64 k.proto,.int .i64 k.src,.int .i64 k.sport,.int .i64 k.dst,.int .i64 k.dport,.int .i64 k.ttl,.int .i64 k.id,.int .i64 k.flags,.int .i64 k.seq,.int .i64 k.ack,.int .i64 k.win,.string k.body]:=⟨by simp;omega,by omega,by simp,fun o=>qn0 w1 _ _ _ _ o⟩;have hS:=Step.refl (w1.heap.size+1+1) (some (w1.heap.size+1)) ((((w1.alloc (.cells #[.int .i64 k.proto,.int .i64 k.src,.int .i64 k.sport,.int .i64 k.dst,.int .i64 k.dport,.int .i64 k.ttl,.int .i64 k.id,.int .i64 k.flags,.int .i64 k.seq,.int .i64 k.ack,.int .i64 k.win,.string k.body] 58)).alloc (.cells C 5 (C.size,C.size+1))).alloc (.cells #[.slice (some ⟨w1.heap.size+1,0,none⟩) s.size cap] 169)).drew);clear hc1 hc2 hc3;have hbx:=hI.cell)
  | (go_at_call 119;refine(qd1 _ _).mono ?_;rintro e w' ⟨rfl,rfl⟩)
  | (go_at_call 120;refine(qcz _ _).mono ?_;rintro e w' ⟨rfl,rfl⟩)
  | (go_at_call 141;go_fit (qpk _ _ _ _ h om);rintro e w' ⟨rfl,h,hst⟩;replace hI:=hI.step hst;replace hS:=hS.trans hst;clear hst;have hbx:=hI.cell)
  | (go_at_call 142;(go_fit (ql4 _ _ _ _ h k.proto _ _ _ om ha'.1 ha'.2 (by simp;omega) (by simp;omega));rintro e w' ⟨rfl,h,hst⟩;replace hI:=hI.step hst;replace hS:=hS.trans hst;clear hst;have hbx:=hI.cell))
  | (go_at_call 143;go_fit (qky _ _ _ _ h k.proto (by simp;omega) (by simp;omega));rintro e w' ⟨rfl,h,hst⟩;replace hS:=hS.trans hst;clear hst)
  | (go_at_call 118;go_fit (qfw _ _ _ _ h);rintro e w' ⟨rfl,rfl⟩))
 go_ret2
 exact⟨rfl,qk2 hb1 hS⟩):p:=h
theorem sZvi27{p:Prop}(h:p:=by
 clear h3
 go_enter func105,ntmps105
 exact sZvi21):p:=h
theorem q8d(s:ByteArray)(side addr port:Int)(w:World)(hs:s.size<=140737488351232)(k:Pkt)(hk:qb9 s.data.toList=k)(hb:bad s.data.toList=0)(hsd:side=0\/side=1)(ha:qeb addr=true)(hp:qc7 port=true)(h1:k.ttl≠1)(h2:k.proto=1->(k.flags==8)=(side==0))(hl:28<=s.size)(hsm:s.size<=65535)(hq:qbd k.proto+1<s.size):
  Calls prog 105 #[.string s,.int .i64 side,.int .i64 addr,.int .i64 port] w fun e w'=>e=.returned (.tuple #[.string (txt (spun s.data.toList k.proto side addr port)),.int .i64 0])/\Below w.heap.size w w':=by
 have ha':0<=addr/\addr<=4294967295:=by unfold qeb at ha;simpa using ha
 have hll:=qb6 s
 have h1':(k.ttl==1)=false:=by simpa using h1
 clear h1
 by_cases hpr:k.proto=1
 ·have hpr':(k.proto==1)=true:=by simpa using hpr
  have h3:=h2 hpr
  clear h2 hpr
  rcases hsd with rfl|rfl
  ·have h4:(k.flags==8)=true:=by simpa using h3
   exact sZvi27
  ·have h4:(k.flags==8)=false:=by simpa using h3
   exact sZvi27
 ·have hpr':(k.proto==1)=false:=by simpa using hpr
  clear h2 hpr
  rcases hsd with rfl|rfl
  ·go_enter func105,ntmps105
   exact sZvi21
  ·go_enter func105,ntmps105
   exact sZvi21
end Go.Proofs.YtnicenfgemkdnaaGreatDoor
namespace Go.Proofs.YtnicenfgemkdnaaGreatDoor
open _root_.Go.Proofs.Tryz
set_option maxHeartbeats 16000000
set_option maxRecDepth 100000
open Go.RowKit
theorem sZvi26{p:Prop}(h:p:=by
 simp only[List.cons_append,List.nil_append,tot,qc1]
 omega):p:=h
theorem qw2(p:Pkt)(c:Int)(h0:0<=c)(h1:c<=65535):tot (hd p (flen p) c)=tot (hd p (flen p) 0)+c:=by
 unfold hd w16 l32 w16
 exact sZvi26
theorem q9u(p:Pkt)(n c:Int):0<tot (hd p n c):=by
 have h1:=qgj ((hd p n c).drop 2)
 have e:hd p n c=[69,0]++(hd p n c).drop 2:=rfl
 rw[e,qa8 _ _ (by rfl)]
 have:tot [69,0]=17664:=by decide
 omega
theorem qr6(p:Pkt):0<=chkH p/\chkH p<=65534:=by
 unfold chkH
 have:=qhn (tot (hd p (flen p) 0));have:=q3x (tot (hd p (flen p) 0)) (by have:=q9u p (flen p) 0;omega);omega
theorem q3z(p:Pkt):bk (tot (hd p (flen p) (chkH p)))=65535:=by
 have hb:=qr6 p
 rw[qw2 p _ hb.1 om]
 exact qpg _ (qgj _)
theorem qr4(p:Pkt)(c:Int):(pt p c).length%2=0:=by
 unfold pt;split<;>(try split)<;>simp[w16,l32]
theorem qsl(a b c n:Int):(ps a b c n).length%2=0:=by
 unfold ps;split<;>simp
theorem q9r(p:Pkt)(c:Int)(h0:0<=c)(h1:c<=65535):tot (pt p c)=tot (pt p 0)+c:=by
 unfold pt
 split
 ·unfold w16
  exact sZvi26
 ·split
  ·unfold w16
   exact sZvi26
  ·unfold l32 w16
   exact sZvi26
def allP(p:Pkt)(c:Int):Int:=tot (ps p.src p.dst p.proto (qb4 p.proto+p.body.size)++(pt p c++p.body.data.toList))
theorem qxw(p:Pkt)(c:Int)(h0:0<=c)(h1:c<=65535):allP p c=allP p 0+c:=by
 unfold allP
 rw[qa8 _ _ (qsl _ _ _ _),qa8 _ _ (qsl _ _ _ _),qa8 _ _ (qr4 _ _),qa8 _ _ (qr4 _ _),q9r p c h0 h1]
 omega
theorem qsa(p:Pkt):0<=chkP p/\chkP p<=65535:=by
 have:=qhn (allP p 0)
 have e:qnl p=65535-bk (allP p 0):=rfl
 unfold chkP;split<;>omega
theorem q74(x:Int)(h:0<x)(hx:bk x=65535):bk (x+65535)=65535:=by
 rw[←hx]
 refine q7i _ _ ?_ ?_<;>omega
theorem q2z(p:Pkt):bk (allP p (chkP p))=65535:=by
 have hb:=qsa p
 rw[qxw p _ hb.1 hb.2]
 have e:qnl p=65535-bk (allP p 0):=rfl
 have hn:0<=allP p 0:=qgj _
 unfold chkP
 split
 ·rename_i h
  have h2:bk (allP p 0)=65535:=by omega
  have hz:=qo6 (allP p 0)
  exact q74 _ om h2
 ·rw[e];exact qpg _ hn
theorem q7m(p:Pkt)(h:p.proto=17):chkP p≠0:=by
 unfold chkP
 split
 ·omega
 ·rename_i h';intro e;exact h' ⟨h,e⟩
theorem qw6(l:List UInt8)(h:qls l):qcw l=0:=by
 unfold qcw
 have h1:=h.len
 rw[if_neg om,if_neg (by have:=h.mark;omega),if_neg (by have:=h.size;omega),if_neg (by have:=h.sum;omega),if_neg (by have:=h.serv;omega),if_neg (by have:=h.piece;omega),if_neg h.ttl,if_neg (by rw[h.kind];simp)]
theorem qxc(l:List UInt8)(proto:Int)(h:qom l proto):qcx l proto=0:=by
 unfold qcx
 have:=h.len;have:=h.sum;have:=h.udpSum;have:=h.ping;have:=h.ping';have:=h.tcp1;have:=h.tcp2;have:=h.tcp3;have:=h.udp
 rw[if_neg om,if_neg om,if_neg om,if_neg om,if_neg om,if_neg om,if_neg om,if_neg om,if_neg om]
theorem qf4(x:Int)(h0:0<=x)(h1:x<=65535):((b8 (x/256)).toNat:Int)*256+((b8 x).toNat:Int)=x:=by rw[qc1,qc1];omega
theorem qsi(x:Int)(h0:0<=x)(h1:x<=4294967295):(((b8 (x/65536/256)).toNat:Int)*256+((b8 (x/65536)).toNat:Int))*65536+(((b8 (x/256)).toNat:Int)*256+((b8 x).toNat:Int))=x:=by
 rw[qc1,qc1,qc1,qc1];omega
theorem qj1(x:Int)(h0:0<=x)(h1:x<=255):((b8 x).toNat:Int)=x:=by rw[qc1];omega
section
variable (k:Pkt) (c1 c2:Int)
theorem fr_0:byt (fr k c1 c2) 0=69:=rfl
theorem fr_1:byt (fr k c1 c2) 1=0:=rfl
theorem fr_2:wAt (fr k c1 c2) 2=((b8 (flen k/256)).toNat:Int)*256+((b8 (flen k)).toNat:Int):=rfl
theorem fr_4:wAt (fr k c1 c2) 4=((b8 (k.id/256)).toNat:Int)*256+((b8 k.id).toNat:Int):=rfl
theorem fr_6:wAt (fr k c1 c2) 6=((b8 (0/256)).toNat:Int)*256+((b8 0).toNat:Int):=rfl
theorem fr_8:byt (fr k c1 c2) 8=((b8 k.ttl).toNat:Int):=rfl
theorem fr_9:byt (fr k c1 c2) 9=((b8 k.proto).toNat:Int):=rfl
theorem qaob:lAt (fr k c1 c2) 12=(((b8 (k.src/65536/256)).toNat:Int)*256+((b8 (k.src/65536)).toNat:Int))*65536+(((b8 (k.src/256)).toNat:Int)*256+((b8 k.src).toNat:Int)):=rfl
theorem qaxb:lAt (fr k c1 c2) 16=(((b8 (k.dst/65536/256)).toNat:Int)*256+((b8 (k.dst/65536)).toNat:Int))*65536+(((b8 (k.dst/256)).toNat:Int)*256+((b8 k.dst).toNat:Int)):=rfl
end
theorem qzl(k:Pkt)(hg:good k=0)(c2:Int):qls (fr k (chkH k) c2):=by
 obtain⟨hk,hr,hb,_⟩:=qde k hg
 have hr':=(qdu k).1 hr
 have hl:=qlm k (chkH k) c2 hk
 have hs:=qpl k hb
 refine⟨by omega,fr_0 _ _ _,?_,?_,fr_1 _ _ _,by rw[fr_6,qf4 0 om om],?_,?_⟩
 ·rw[fr_2,qf4 _ om om,hl]
 ·rw[q1r];exact q3z k
 ·rw[fr_8,qj1 _ om om];omega
 ·rw[fr_9,qj1]
  ·exact hk
  ·rcases(qei _).1 hk with h|h|h<;>omega
  ·rcases(qei _).1 hk with h|h|h<;>omega
theorem qp8(k:Pkt)(hk:qdc k.proto=true)(c1 c2:Int):byt (fr k c1 c2) 9=k.proto:=by
 rw[fr_9,qj1]
 ·rcases(qei _).1 hk with h|h|h<;>omega
 ·rcases(qei _).1 hk with h|h|h<;>omega
theorem q03(k:Pkt)(hg:good k=0):qom (frame k) k.proto:=by
 obtain⟨hk,hr,hb,hf⟩:=qde k hg
 have hr':=(qdu k).1 hr
 have hf':=(qjo k).1 hf
 have hl:=qlm k (chkH k) (chkP k) hk
 have hs:=qpl k hb
 have hc:=qsa k
 unfold frame
 have hsum:bk (tot (chkd (fr k (chkH k) (chkP k)) k.proto))=65535:=by rw[qx8 k _ _ hk];exact q2z k
 have hu:=q7m k
 generalize hc2:chkP k=c2 at *
 generalize chkH k=c1 at *
 obtain⟨proto,src,sport,dst,dport,ttl,id,flags,seq,ack,win,body⟩:=k
 simp only at *
 rcases(qei _).1 hk with rfl|rfl|rfl
 ·refine⟨by unfold flen at hl;simp only at hl;omega,hsum,by omega,fun _=>?_,fun _=>?_,by omega,by omega,by omega,by omega⟩
  rotate_left
  ·have e:byt (fr ⟨1,src,sport,dst,dport,ttl,id,flags,seq,ack,win,body⟩ c1 c2) 21=((0:UInt8).toNat:Int):=rfl
   rw[e];decide
  have e:byt (fr ⟨1,src,sport,dst,dport,ttl,id,flags,seq,ack,win,body⟩ c1 c2) 20=((b8 flags).toNat:Int):=rfl
  rw[e,qj1 _ om om];omega
 ·refine⟨by unfold flen at hl;simp only at hl;omega,hsum,by omega,by omega,by omega,fun _=>?_,fun _=>?_,fun _=>?_,by omega⟩
  ·have e:byt (fr ⟨6,src,sport,dst,dport,ttl,id,flags,seq,ack,win,body⟩ c1 c2) 32=((80:UInt8).toNat:Int):=rfl
   rw[e];decide
  rotate_left
  ·have e:wAt (fr ⟨6,src,sport,dst,dport,ttl,id,flags,seq,ack,win,body⟩ c1 c2) 38=((b8 (0/256)).toNat:Int)*256+((b8 0).toNat:Int):=rfl
   rw[e,qf4 0 om om]
  have e:byt (fr ⟨6,src,sport,dst,dport,ttl,id,flags,seq,ack,win,body⟩ c1 c2) 33=((b8 flags).toNat:Int):=rfl
  rw[e,qj1 _ om om];omega
 ·have e:wAt (fr ⟨17,src,sport,dst,dport,ttl,id,flags,seq,ack,win,body⟩ c1 c2) 26=((b8 (c2/256)).toNat:Int)*256+((b8 c2).toNat:Int):=rfl
  have e2:wAt (fr ⟨17,src,sport,dst,dport,ttl,id,flags,seq,ack,win,body⟩ c1 c2) 24=((b8 ((8+body.size)/256)).toNat:Int)*256+((b8 (8+body.size)).toNat:Int):=rfl
  refine⟨by unfold flen at hl;simp only at hl;omega,hsum,fun _=>?_,by omega,by omega,by omega,by omega,by omega,fun _=>?_⟩
  ·rw[e,qf4 _ om om];exact hu rfl
  ·rw[e2,qf4 _ om om,hl];unfold flen qb4;simp;omega
theorem ql1(k:Pkt)(hg:good k=0)(c1 c2:Int):qam (fr k c1 c2)=k:=by
 obtain⟨hk,hr,hb,hf⟩:=qde k hg
 have hr':=(qdu k).1 hr
 have hf':=(qjo k).1 hf
 have h9:=qp8 k hk c1 c2
 have e12:=qaob k c1 c2;have e16:=qaxb k c1 c2;have e8:=fr_8 k c1 c2;have e4:=fr_4 k c1 c2
 obtain⟨proto,src,sport,dst,dport,ttl,id,flags,seq,ack,win,body⟩:=k
 simp only at *
 rw[qsi _ om om] at e12 e16
 rw[qf4 _ om om] at e4
 rw[qj1 _ om om] at e8
 unfold qam
 rw[h9,e12,e16,e8,e4]
 rcases(qei _).1 hk with rfl|rfl|rfl
 ·have e20:byt (fr ⟨1,src,sport,dst,dport,ttl,id,flags,seq,ack,win,body⟩ c1 c2) 20=((b8 flags).toNat:Int):=rfl
  have e24:wAt (fr ⟨1,src,sport,dst,dport,ttl,id,flags,seq,ack,win,body⟩ c1 c2) 24=((b8 ((sport+dport)/256)).toNat:Int)*256+((b8 (sport+dport)).toNat:Int):=rfl
  have e26:wAt (fr ⟨1,src,sport,dst,dport,ttl,id,flags,seq,ack,win,body⟩ c1 c2) 26=((b8 (seq/256)).toNat:Int)*256+((b8 seq).toNat:Int):=rfl
  have eb:(fr ⟨1,src,sport,dst,dport,ttl,id,flags,seq,ack,win,body⟩ c1 c2).drop 28=body.data.toList:=rfl
  have hp:=hf'.1 rfl
  rw[if_pos rfl,e20,e24,e26,eb,qmw,qj1 flags om om,qf4 seq om om,qf4 (sport+dport) om om]
  obtain⟨h|h,_,_,ha,hw⟩:=hp
  ·rw[h.1,h.2,ha,hw];simp
  ·rw[h.1,h.2,ha,hw];simp
 ·have e20:wAt (fr ⟨6,src,sport,dst,dport,ttl,id,flags,seq,ack,win,body⟩ c1 c2) 20=((b8 (sport/256)).toNat:Int)*256+((b8 sport).toNat:Int):=rfl
  have e22:wAt (fr ⟨6,src,sport,dst,dport,ttl,id,flags,seq,ack,win,body⟩ c1 c2) 22=((b8 (dport/256)).toNat:Int)*256+((b8 dport).toNat:Int):=rfl
  have e33:byt (fr ⟨6,src,sport,dst,dport,ttl,id,flags,seq,ack,win,body⟩ c1 c2) 33=((b8 flags).toNat:Int):=rfl
  have e24:lAt (fr ⟨6,src,sport,dst,dport,ttl,id,flags,seq,ack,win,body⟩ c1 c2) 24=(((b8 (seq/65536/256)).toNat:Int)*256+((b8 (seq/65536)).toNat:Int))*65536+(((b8 (seq/256)).toNat:Int)*256+((b8 seq).toNat:Int)):=rfl
  have e28:lAt (fr ⟨6,src,sport,dst,dport,ttl,id,flags,seq,ack,win,body⟩ c1 c2) 28=(((b8 (ack/65536/256)).toNat:Int)*256+((b8 (ack/65536)).toNat:Int))*65536+(((b8 (ack/256)).toNat:Int)*256+((b8 ack).toNat:Int)):=rfl
  have e34:wAt (fr ⟨6,src,sport,dst,dport,ttl,id,flags,seq,ack,win,body⟩ c1 c2) 34=((b8 (win/256)).toNat:Int)*256+((b8 win).toNat:Int):=rfl
  have eb:(fr ⟨6,src,sport,dst,dport,ttl,id,flags,seq,ack,win,body⟩ c1 c2).drop 40=body.data.toList:=rfl
  rw[if_neg om,if_pos rfl,e20,e22,e33,e24,e28,e34,eb,qmw,qf4 sport om om,qf4 dport om om,qj1 flags om om,qsi seq om om,qsi ack om om,qf4 win om om]
 ·have e20:wAt (fr ⟨17,src,sport,dst,dport,ttl,id,flags,seq,ack,win,body⟩ c1 c2) 20=((b8 (sport/256)).toNat:Int)*256+((b8 sport).toNat:Int):=rfl
  have e22:wAt (fr ⟨17,src,sport,dst,dport,ttl,id,flags,seq,ack,win,body⟩ c1 c2) 22=((b8 (dport/256)).toNat:Int)*256+((b8 dport).toNat:Int):=rfl
  have eb:(fr ⟨17,src,sport,dst,dport,ttl,id,flags,seq,ack,win,body⟩ c1 c2).drop 28=body.data.toList:=rfl
  obtain⟨h1,h2,h3,h4⟩:=hf'.2 rfl
  rw[if_neg om,if_neg om,e20,e22,eb,qmw,qf4 sport om om,qf4 dport om om,h1,h2,h3,h4]
theorem qev(k:Pkt)(hg:good k=0):bad (frame k)=0/\qb9 (frame k)=k:=by
 have hk:=(qde k hg).1
 have h1:qcw (frame k)=0:=qw6 _ (qzl k hg _)
 have h9:byt (frame k) 9=k.proto:=qp8 k hk _ _
 have h2:qcx (frame k) (byt (frame k) 9)=0:=by rw[h9];exact qxc _ _ (q03 k hg)
 have hp:qam (frame k)=k:=ql1 k hg _ _
 have hb:bad (frame k)=0:=by unfold bad;rw[if_neg om,if_neg om,hp];exact hg
 exact⟨hb,by unfold qb9;rw[if_pos hb];exact hp⟩
end Go.Proofs.YtnicenfgemkdnaaGreatDoor
