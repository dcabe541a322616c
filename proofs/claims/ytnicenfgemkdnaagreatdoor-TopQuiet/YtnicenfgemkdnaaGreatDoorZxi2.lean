/-
  Of what a law stands on.
-/
import Derived.Deep.DeepCutAuto
import Derived.Test.YtnicenfgemkdnaaGreatDoorZxi1
set_option linter.unusedSimpArgs false
set_option linter.unusedVariables false
namespace Go.Proofs.YtnicenfgemkdnaaGreatDoor
open _root_.Go.Proofs.Tryz
set_option maxHeartbeats 16000000
set_option maxRecDepth 100000
open Go.ChangeShapes Go.WideShapes Go.ChangeAt Go.RowKit
theorem qt0(p:Pkt)(c1 c2 c:Int):setW (fr p c1 c2) 10 c=fr p c c2:=rfl
theorem q1r(p:Pkt)(c1 c2:Int):(fr p c1 c2).take 20=hd p (flen p) c1:=rfl
theorem q3m(p:Pkt)(c1 c2:Int):(fr p c1 c2).drop 20=pt p c2++p.body.data.toList:=rfl
theorem q5d(p:Pkt):q0r (fr p 0 0)=fr p (chkH p) 0:=rfl
theorem qj7(p:Pkt)(c1 c2 c:Int)(h:qdc p.proto=true):setW (fr p c1 c2) (qbd p.proto) c=fr p c1 c:=by
 rcases(qei _).1 h with h|h|h<;>(unfold fr pt qbd;simp only[h];rfl)
theorem qx8(p:Pkt)(c1 c2:Int)(h:qdc p.proto=true):chkd (fr p c1 c2) p.proto=ps p.src p.dst p.proto (qb4 p.proto+p.body.size)++(pt p c2++p.body.data.toList):=by
 have hl:=qlm p c1 c2 h
 unfold chkd ps
 rw[q3m,hl,show flen p-20=qb4 p.proto+p.body.size by unfold flen;omega]
 by_cases h1:p.proto=1
 ·simp[h1]
 ·simp only[h1,if_false,List.append_assoc];rfl
theorem qwj(p:Pkt)(c1:Int)(h:qdc p.proto=true):qgf (fr p c1 0) p.proto=fr p c1 (chkP p):=by
 unfold qgf
 rw[qj7 p _ _ _ h,qj7 p _ _ _ h]
 unfold ckP
 rw[qx8 p _ _ h]
 rfl
theorem q53(p:Pkt)(c1 c2:Int)(h:qdc p.proto=true):qbd p.proto+1<(fr p c1 c2).length:=by
 have:=qlm p c1 c2 h
 unfold flen qb4 at this
 unfold qbd
 rcases(qei _).1 h with h|h|h <;> simp[h] at * <;> omega
theorem qdz(e:Int)(w:World):Calls prog 112 #[.int .i64 e] w fun r w'=>r=.returned (.tuple #[.string ByteArray.empty,.int .i64 e])/\w'=w:=by
 go_enter func112,ntmps112
 go_wp2
 go_ret2
 exact⟨rfl,rfl⟩
theorem qde(k:Pkt)(h:good k=0):qdc k.proto=true/\qht k=true/\k.body.size<=64/\qiz k=true:=by
 unfold good at h
 by_cases h1:qdc k.proto=false
 ·rw[if_pos h1] at h;omega
 rw[if_neg h1] at h
 by_cases h2:qht k=false
 ·rw[if_pos h2] at h;omega
 rw[if_neg h2] at h
 by_cases h3:64<k.body.size
 ·rw[if_pos h3] at h;omega
 rw[if_neg h3] at h
 by_cases h4:qiz k=false
 ·rw[if_pos h4] at h;omega
 exact⟨by simpa using h1,by simpa using h2,by omega,by simpa using h4⟩
theorem qxq{a b c d:Value}(h1:a=b)(h2:c=d):Ending.returned (.tuple #[a,c])=.returned (.tuple #[b,d]):=by rw[h1,h2]
def built(k:Pkt):ByteArray:=if good k=0 then txt (frame k) else ByteArray.empty
theorem q3b(k:Pkt)(w:World)(hsz:k.body.size<=140737488351232):Calls prog 75 #[pv k] w fun e w'=>e=.returned (.tuple #[.string (built k),.int .i64 (good k)])/\Below w.heap.size w w':=by
 have hbox:=qgz w #[.int .i64 k.proto,.int .i64 k.src,.int .i64 k.sport,.int .i64 k.dst,.int .i64 k.dport,.int .i64 k.ttl,.int .i64 k.id,.int .i64 k.flags,.int .i64 k.seq,.int .i64 k.ack,.int .i64 k.win,.string k.body] 58
 have hlt:w.heap.size<(w.alloc (.cells #[.int .i64 k.proto,.int .i64 k.src,.int .i64 k.sport,.int .i64 k.dst,.int .i64 k.dport,.int .i64 k.ttl,.int .i64 k.id,.int .i64 k.flags,.int .i64 k.seq,.int .i64 k.ack,.int .i64 k.win,.string k.body] 58)).heap.size:=by simp
 by_cases hg:good k=0
 ·obtain⟨hk,hr,hb64,hf⟩:=qde k hg
  have HB:Hid (built k=txt (frame k)):=by show _=_;unfold built;rw[if_pos hg]
  have hp2:0<=qb4 k.proto/\qb4 k.proto<=20:=by unfold qb4;split<;>(try split)<;>omega
  unfold pv
  go_enter func75,ntmps75
  go_wp2_with (go_at_call 45;refine(qke k _ hsz).mono ?_;rintro e w1 ⟨rfl,hb1⟩;rw[hg];have hbox1:=qhu hb1 hlt hbox)
  have h:=qwg w1
  have hS:=(Step.refl w1.heap.size none (w1.alloc (.cells #[.slice none 0 0] 169)))
  have hsz1:w.heap.size<w1.heap.size:=by have:=hb1.size;simp at this;omega
  have hI:Inv w.heap.size w1.heap.size none (w1.alloc (.cells #[.slice none 0 0] 169)) #[.int .i64 k.proto,.int .i64 k.src,.int .i64 k.sport,.int .i64 k.dst,.int .i64 k.dport,.int .i64 k.ttl,.int .i64 k.id,.int .i64 k.flags,.int .i64 k.seq,.int .i64 k.ack,.int .i64 k.win,.string k.body]:=
   ⟨by simp;omega,by omega,by simp,qhu ((Below.refl _ _).alloc (Nat.le_refl _) _) hsz1 hbox1⟩
  have hbox2:=hI.cell
  go_region_held3 (fun w'=>w'.cell? ⟨w.heap.size,0,none⟩=some (.int .i64 k.proto)/\w'.cell? ⟨w.heap.size,1,none⟩=some (.int .i64 k.src)/\w'.cell? ⟨w.heap.size,2,none⟩=some (.int .i64 k.sport)/\w'.cell? ⟨w.heap.size,3,none⟩=some (.int .i64 k.dst)/\w'.cell? ⟨w.heap.size,4,none⟩=some (.int .i64 k.dport)/\w'.cell? ⟨w.heap.size,5,none⟩=some (.int .i64 k.ttl)/\w'.cell? ⟨w.heap.size,6,none⟩=some (.int .i64 k.id)/\w'.cell? ⟨w.heap.size,7,none⟩=some (.int .i64 k.flags)/\w'.cell? ⟨w.heap.size,8,none⟩=some (.int .i64 k.seq)/\w'.cell? ⟨w.heap.size,9,none⟩=some (.int .i64 k.ack)/\w'.cell? ⟨w.heap.size,10,none⟩=some (.int .i64 k.win)/\w'.cell? ⟨w.heap.size,11,none⟩=some (.string k.body))
   (first|exact⟨hI.cell 0,hI.cell 1,hI.cell 2,hI.cell 3,hI.cell 4,hI.cell 5,hI.cell 6,hI.cell 7,hI.cell 8,hI.cell 9,hI.cell 10,hI.cell 11⟩|go_keep)
   (first|(go_at_call 78;refine(qbz _ _).mono ?_;rintro e w' ⟨rfl,rfl⟩)|(go_at_call 113;refine(qp1 _ _ _ _ h.drew k _ (by(try simp)<;>omega)).mono ?_;rintro e w' ⟨rfl,G1,h,hst⟩;replace hst:=qog hst;replace hI:=hI.step hst;replace hS:=hS.trans hst;clear hst;have hbox:=hI.cell))
  have hfl:=qpl k hb64
  have HL:Hid (IntKind.i64.wrap (IntKind.i64.wrap (20+qb4 k.proto)+(k.body.size:Int))=flen k):=by
   show _=_
   rw[wrap_i64 (20+qb4 k.proto) om om,wrap_i64 _ om om];rfl
  go_wp2_with (first|(go_at_call 114;refine(qww _ _ _ _ h k hk hb64 hr (by(try simp)<;>omega)).mono ?_;rintro e w' ⟨rfl,G1,h,hst⟩;replace hI:=hI.step hst;replace hS:=hS.trans hst;clear hst;have hbox:=hI.cell)|(go_at_call 115;have hpl:=q28 k 0 hk;refine(qmm _ _ _ _ h _ (by simp<;>omega)).mono ?_;rintro e w' ⟨rfl,G1,h,hst⟩;replace hI:=hI.step hst;replace hS:=hS.trans hst;clear hst;have hbox:=hI.cell;rw[HL.out,List.nil_append,List.append_assoc] at h;change Fr _ _ _ (fr k 0 0) at h)|(go_at_call 116;obtain⟨g,hG,hpg,hrd⟩:=h.rd (by intro e;have:=congrArg List.length e;simp[fr] at this);rw[hG] at hS;refine(qob _ g _ _ hrd (by have:=qlm k 0 0 hk;omega)).mono ?_;rintro e w' ⟨rfl,hrd,hst⟩;rw[hG] at hI;replace hI:=hI.step hst;replace hS:=hS.trans hst;clear hst;have hbox:=hI.cell;rw[q5d] at hrd)|(go_at_call 117;refine(qlk _ g _ _ hrd k.proto (q53 k _ _ hk) (by have:=qlm k (chkH k) 0 hk;omega)).mono ?_;rintro e w' ⟨rfl,hrd,hst⟩;replace hS:=hS.trans hst;clear hst;rw[qwj k _ hk] at hrd)|(go_at_call 118;refine(qfw _ g _ _ hrd).mono ?_;rintro e w' ⟨rfl,rfl⟩))
  go_ret2
  exact⟨qxq (congrArg Value.string HB.out.symm) (congrArg (Value.int .i64) hg.symm),(qii hb1).trans ((qoc hS).mono om)⟩
 ·have HB:Hid (built k=ByteArray.empty):=by show _=_;unfold built;rw[if_neg hg]
  have hg':(good k==0)=false:=by simpa using hg
  unfold pv
  go_enter func75,ntmps75
  go_wp2_with (first|(go_at_call 45;refine(qke k _ hsz).mono ?_;rintro e w1 ⟨rfl,hb1⟩)|(go_at_call 112;refine(qdz _ _).mono ?_;rintro e w' ⟨rfl,rfl⟩))
  go_ret2
  exact⟨qxq (congrArg Value.string HB.out.symm) rfl,qii hb1⟩
end Go.Proofs.YtnicenfgemkdnaaGreatDoor
namespace Go.Proofs.YtnicenfgemkdnaaGreatDoor
open _root_.Go.Proofs.Tryz
set_option maxHeartbeats 16000000
set_option maxRecDepth 100000
open Go.RowKit
def lAt(l:List UInt8)(k:Nat):Int:=wAt l k*65536+wAt l (k+2)
def qcw(l:List UInt8):Int:=
 if l.length<20 then 1 else if byt l 0≠69 then 1 else if wAt l 2≠l.length then 1 else if bk (tot (l.take 20))≠65535 then 3 else if byt l 1≠0 then 4 else if wAt l 6≠0 then 4 else if byt l 8=0 then 12 else if qdc (byt l 9)=false then 4 else 0
def qcx(l:List UInt8)(proto:Int):Int:=
 if (l.length:Int)-20<qb4 proto then 1 else if bk (tot (chkd l proto))≠65535 then 3 else if proto=17/\wAt l 26=0 then 3
 else if proto=1/\byt l 20≠8/\byt l 20≠0 then 4 else if proto=1/\byt l 21≠0 then 4
 else if proto=6/\byt l 32≠80 then 4 else if proto=6/\63<byt l 33 then 4 else if proto=6/\wAt l 38≠0 then 4
 else if proto=17/\wAt l 24≠(l.length:Int)-20 then 1 else 0
def qam(l:List UInt8):Pkt:=
 if byt l 9=1 then⟨1,lAt l 12,if byt l 20=8 then wAt l 24 else 0,lAt l 16,if byt l 20=8 then 0 else wAt l 24,byt l 8,wAt l 4,byt l 20,wAt l 26,0,0,txt (l.drop 28)⟩
 else if byt l 9=6 then⟨6,lAt l 12,wAt l 20,lAt l 16,wAt l 22,byt l 8,wAt l 4,byt l 33,lAt l 24,lAt l 28,wAt l 34,txt (l.drop 40)⟩
 else⟨byt l 9,lAt l 12,wAt l 20,lAt l 16,wAt l 22,byt l 8,wAt l 4,0,0,0,0,txt (l.drop 28)⟩
def bad(l:List UInt8):Int:=if qcw l≠0 then qcw l else if qcx l (byt l 9)≠0 then qcx l (byt l 9) else good (qam l)
def qb9(l:List UInt8):Pkt:=if bad l=0 then qam l else p0
theorem qfo(s:ByteArray)(k:Nat)(h:k<s.size):(s[k].toNat:Int)=byt s.data.toList k:=by
 unfold byt
 have e:s.data.toList.getD k 0=s[k]:=by
  rw[List.getD_eq_getElem?_getD,Array.getElem?_toList,Array.getElem?_eq_getElem h];rfl
 rw[e]
theorem qqo(l:List UInt8)(n k:Nat):byt (l.drop n) k=byt l (n+k):=by
 unfold byt
 simp[List.getD_eq_getElem?_getD,List.getElem?_drop]
theorem qnf(l:List UInt8)(n k:Nat):wAt (l.drop n) k=wAt l (n+k):=by
 unfold wAt;rw[qqo,qqo,Nat.add_assoc]
theorem q5s(l:List UInt8)(n k:Nat):lAt (l.drop n) k=lAt l (n+k):=by
 unfold lAt;rw[qnf,qnf,Nat.add_assoc]
theorem qb6(s:ByteArray):s.data.toList.length=s.size:=by simp
theorem qi8(s:ByteArray)(k:Nat)(h:k<(s.extract 20 s.size).size):((s.extract 20 s.size)[k].toNat:Int)=byt s.data.toList (20+k):=by
 rw[qfo,qg5,qqo]
end Go.Proofs.YtnicenfgemkdnaaGreatDoor
namespace Go.Proofs.YtnicenfgemkdnaaGreatDoor
open _root_.Go.Proofs.Tryz
set_option maxHeartbeats 16000000
set_option maxRecDepth 100000
open Go.ChangeShapes Go.WideShapes Go.ChangeAt Go.RowKit
theorem qpw(n:Nat)(w:World):Below w.heap.size w (w.drewN n):=by
 refine⟨?_,?_,?_,?_,?_⟩<;>first|rfl|simp
theorem q5t(s:ByteArray)(k m:Nat)(w:World)(hs:s.size<=140737488351232)(hm:k+1=m)(h0:k<s.size)(h:m<s.size):
  Calls prog 91 #[.string s,.int .i64 k] w fun e w'=>e=.returned (.int .i64 (wAt s.data.toList k))/\∃q,w'=w.drewN q:=by
 have J:Hid (bits .or .i64 ((s[k].toNat:Int)*256) (s[m].toNat:Int)=wAt s.data.toList k):=by
  show _=_
  obtain⟨b1,b2⟩:=qf3 s.data.toList k
  obtain⟨b3,b4⟩:=qf3 s.data.toList m
  rw[qfo,qfo,q7e _ _ b1 b2 b3 b4,wAt,hm]
 obtain⟨c0,c0'⟩:=qje s[k];obtain⟨c1,c1'⟩:=qje s[m]
 have i1:(k:Int)<(s.size:Int):=by omega
 have i2:(m:Int)<(s.size:Int):=by omega
 have i4:IntKind.i64.wrap ((k:Int)+1)=(m:Int):=by rw[wrap_i64 _ om om];omega
 clear hm
 go_enter func91,ntmps91
 go_wp2
 go_quiet (fail)
 go_wp2
 go_ret
 exact⟨qdm J.out,nq,rfl⟩
theorem qh9(s:ByteArray)(k:Int)(w:World)(hs:s.size<=140737488351232)(h0:0<=k)(h:k+1<(s.size:Int)):
  Calls prog 91 #[.string s,.int .i64 k] w fun e w'=>e=.returned (.int .i64 (wAt s.data.toList k.toNat))/\∃q,w'=w.drewN q:=by
 obtain⟨n,rfl⟩:=Int.eq_ofNat_of_zero_le h0
 exact q5t s n (n+1) w hs rfl om om
theorem qi7(s:ByteArray)(k:Int)(w:World)(hs:s.size<=140737488351232)(h0:0<=k)(h:k+3<(s.size:Int)):
  Calls prog 94 #[.string s,.int .i64 k] w fun e w'=>e=.returned (.int .i64 (lAt s.data.toList k.toNat))/\∃q,w'=w.drewN q:=by
 obtain⟨b1,b2⟩:=qhr s.data.toList k.toNat
 obtain⟨b3,b4⟩:=qhr s.data.toList (k+2).toNat
 have J:Hid (bits .or .i64 (wAt s.data.toList k.toNat*65536) (wAt s.data.toList (k+2).toNat)=lAt s.data.toList k.toNat):=by
  show _=_
  rw[q9m _ _ b1 b2 b3 b4,lAt,show(k+2).toNat=k.toNat+2 by omega]
 have i3:(s.size:Int)<=140737488351232:=by omega
 go_enter func94,ntmps94
 go_wp2_with (go_at_call 91;refine(qh9 s _ _ hs om om).mono ?_;rintro e w' ⟨rfl,q,rfl⟩)
 go_ret
 exact⟨qdm J.out,_,rfl⟩
theorem qqe(s:ByteArray)(k:Int)(w:World)(hs:s.size<=140737488351232)(h0:0<=k)(h:k+1<(s.size:Int)):
  Calls prog 91 #[.string s,.int .i64 k] w fun e w'=>e=.returned (.int .i64 (wAt s.data.toList k.toNat))/\Below w.heap.size w w':=
 (qh9 s k w hs h0 h).mono fun _ _ ⟨he,q,hw⟩=>⟨he,by rw[hw];exact qpw q w⟩
theorem qwh(s:ByteArray)(k:Int)(w:World)(h20:20<=s.size)(hs:s.size<=65535)(h0:0<=k)(h:k+1<(s.size:Int)-20):
  Calls prog 91 #[.string (s.extract 20 s.size),.int .i64 k] w fun e w'=>e=.returned (.int .i64 (wAt s.data.toList (20+k.toNat)))/\Below w.heap.size w w':=by
 have z2:(s.extract 20 s.size).size=s.size-20:=qef s 20 s.size (Nat.le_refl _)
 have:=qqe (s.extract 20 s.size) k w om h0 om
 rw[qg5,qnf] at this
 exact this
theorem qg1(s:ByteArray)(k:Int)(w:World)(h20:20<=s.size)(hs:s.size<=65535)(h0:0<=k)(h:k+1<(s.size:Int)-20):
  Calls prog 91 #[.string (s.extract 20 s.size),.int .i64 k] w fun e w'=>e=.returned (.int .i64 (wAt s.data.toList (20+k.toNat)))/\∃q,w'=w.drewN q:=by
 have z2:(s.extract 20 s.size).size=s.size-20:=qef s 20 s.size (Nat.le_refl _)
 have:=qh9 (s.extract 20 s.size) k w om h0 om
 rw[qg5,qnf] at this
 exact this
theorem qt3(s:ByteArray)(k:Int)(w:World)(h20:20<=s.size)(hs:s.size<=65535)(h0:0<=k)(h:k+3<(s.size:Int)-20):
  Calls prog 94 #[.string (s.extract 20 s.size),.int .i64 k] w fun e w'=>e=.returned (.int .i64 (lAt s.data.toList (20+k.toNat)))/\∃q,w'=w.drewN q:=by
 have z2:(s.extract 20 s.size).size=s.size-20:=qef s 20 s.size (Nat.le_refl _)
 have:=qi7 (s.extract 20 s.size) k w om h0 om
 rw[qg5,q5s] at this
 exact this
theorem qsj(s:ByteArray)(w:World)(hs:s.size<=140737488351232)(h20:20<=s.size):
  Calls prog 61 #[.string s] w fun e w'=>e=.returned (.int .i64 (qcw s.data.toList))/\Below w.heap.size w w':=by
 have P:=qth (byt s.data.toList 9)
 have g0:=qfo s 0 om;have g1:=qfo s 1 om;have g8:=qfo s 8 om;have g9:=qfo s 9 om
 have hof:∀w:World,Calls prog 46 #[.string (s.extract 0 20)] w fun e w'=>e=.returned (.int .i64 (bk (tot (s.data.toList.take 20))))/\w'=w:=by
  intro w
  have:=qqw (s.extract 0 20) w (by rw[qef s 0 20 om];omega)
  rw[qh7] at this
  exact this
 obtain⟨b91,b92⟩:=qf3 s.data.toList 9
 have hB:=Below.refl w.heap.size w
 go_enter func61,ntmps61
 go_wp2_with (first|(go_at_call 91;refine(qqe s _ _ hs om om).mono ?_;rintro e w' ⟨rfl,hb⟩;replace hB:=hB.trans (hb.mono hB.size);simp only[Int.reduceToNat])|(go_at_call 46;refine(hof _).mono ?_;rintro e w' ⟨rfl,rfl⟩)|(go_at_call 78;refine(qbz _ _).mono ?_;rintro e w' ⟨rfl,rfl⟩))
 all_goals
  go_ret
  refine⟨qdm ?_,hB⟩
  unfold qcw
  rw[qb6]
  simp_all
  try (intro hx;exfalso;omega)
theorem q07(s:ByteArray)(w:World)(h:s.size<20):
  Calls prog 61 #[.string s] w fun e w'=>e=.returned (.int .i64 1)/\w'=w:=by
 go_enter func61,ntmps61
 go_wp2
 go_ret
 exact⟨rfl,rfl⟩
theorem qh2(s:ByteArray)(w:World)(hs:s.size<=140737488351232):
  Calls prog 61 #[.string s] w fun e w'=>e=.returned (.int .i64 (qcw s.data.toList))/\Below w.heap.size w w':=by
 by_cases h1:s.size<20
 ·have E:qcw s.data.toList=1:=by unfold qcw;rw[qb6,if_pos h1]
  rw[E]
  exact(q07 s w h1).mono fun e w' ⟨he,hw⟩=>⟨he,by rw[hw];exact Below.refl _ _⟩
 ·exact qsj s w hs om
theorem q1n(s:ByteArray)(proto:Int)(w:World)(h20:20<=s.size)(hs:s.size<=65535)(h:(s.size:Int)-20<qb4 proto):
  Calls prog 63 #[.string s,.int .i64 proto] w fun e w'=>e=.returned (.int .i64 1)/\w'=w:=by
 have z2:(s.extract 20 s.size).size=s.size-20:=qef s 20 s.size (Nat.le_refl _)
 have z3:((s.size-20:Nat):Int)=(s.size:Int)-20:=by omega
 go_enter func63,ntmps63
 go_wp2_with (go_at_call 78;refine(qbz _ _).mono ?_;rintro e w' ⟨rfl,rfl⟩)
 go_ret
 exact⟨rfl,rfl⟩
def sumP(l:List UInt8)(proto:Int):Int:=bk (tot (chkd l proto))
theorem qr0(l:List UInt8)(proto:Int)(w:World)(h:l.length<=500000):
  Calls prog 46 #[.string (txt (chkd l proto))] w fun e w'=>e=.returned (.int .i64 (sumP l proto))/\w'=w:=by
 have:=qv0 l proto
 exact q77 (chkd l proto) w om
theorem q54(s:ByteArray)(w:World)(hl:28<=s.size)(hs:s.size<=65535):
  Calls prog 63 #[.string s,.int .i64 1] w fun e w'=>e=.returned (.int .i64 (qcx s.data.toList 1))/\Below w.heap.size w w':=by
 have z2:(s.extract 20 s.size).size=s.size-20:=qef s 20 s.size (Nat.le_refl _)
 have z3:((s.size-20:Nat):Int)=(s.size:Int)-20:=by omega
 have z4:((s.extract 20 s.size).size:Int)=(s.size:Int)-20:=by omega
 have pn:qb4 1=8:=rfl
 have ge0:∀h,(((s.extract 20 s.size)[0]'h).toNat:Int)=byt s.data.toList 20:=fun h=>qi8 s 0 h
 have ge1:∀h,(((s.extract 20 s.size)[1]'h).toNat:Int)=byt s.data.toList 21:=fun h=>qi8 s 1 h
 have hB:=Below.refl w.heap.size w
 go_enter func63,ntmps63
 go_wp2_with (first|(go_at_call 78;refine(qbz _ _).mono ?_;rintro e w' ⟨rfl,rfl⟩)|(go_at_call 92;refine(qgq _ _ _ om om).mono ?_;rintro e w' ⟨rfl,hb⟩;replace hB:=hB.trans (hb.mono hB.size))|(go_at_call 46;refine(qr0 _ _ _ (by rw[qb6];omega)).mono ?_;rintro e w' ⟨rfl,rfl⟩))
 all_goals
  go_ret
  refine⟨qdm ?_,hB⟩
  unfold qcx
  rw[qb6]
  unfold sumP at *
  simp_all
 all_goals omega
theorem q7v(s:ByteArray)(w:World)(hl:28<=s.size)(hs:s.size<=65535):
  Calls prog 63 #[.string s,.int .i64 17] w fun e w'=>e=.returned (.int .i64 (qcx s.data.toList 17))/\Below w.heap.size w w':=by
 have z2:(s.extract 20 s.size).size=s.size-20:=qef s 20 s.size (Nat.le_refl _)
 have z3:((s.size-20:Nat):Int)=(s.size:Int)-20:=by omega
 have z4:((s.extract 20 s.size).size:Int)=(s.size:Int)-20:=by omega
 have pn:qb4 17=8:=rfl
 have cn:((qbd 17:Nat):Int)=26:=rfl
 have hB:=Below.refl w.heap.size w
 go_enter func63,ntmps63
 go_wp2_with (first|(go_at_call 78;refine(qbz _ _).mono ?_;rintro e w' ⟨rfl,rfl⟩)|(go_at_call 93;refine(qdp _ _).mono ?_;rintro e w' ⟨rfl,rfl⟩)|(go_at_call 92;refine(qgq _ _ _ om om).mono ?_;rintro e w' ⟨rfl,hb⟩;replace hB:=hB.trans (hb.mono hB.size))|(go_at_call_of 91 (Value.string (s.extract 20 s.size));refine(qwh s 4 _ om hs om om).mono ?_;rintro e w' ⟨rfl,hb⟩;replace hB:=hB.trans (hb.mono hB.size);simp only[Int.reduceToNat,Nat.reduceAdd])|(go_at_call_of 91 (Value.string s);refine(qqe s _ _ om om om).mono ?_;rintro e w' ⟨rfl,hb⟩;replace hB:=hB.trans (hb.mono hB.size);simp only[Int.reduceToNat])|(go_at_call 46;refine(qr0 _ _ _ (by rw[qb6];omega)).mono ?_;rintro e w' ⟨rfl,rfl⟩))
 all_goals
  go_ret
  refine⟨qdm ?_,hB⟩
  unfold qcx
  rw[qb6]
  unfold sumP at *
  clear hB
  simp_all
 all_goals omega
theorem q8p(s:ByteArray)(w:World)(hl:40<=s.size)(hs:s.size<=65535):
  Calls prog 63 #[.string s,.int .i64 6] w fun e w'=>e=.returned (.int .i64 (qcx s.data.toList 6))/\Below w.heap.size w w':=by
 have z2:(s.extract 20 s.size).size=s.size-20:=qef s 20 s.size (Nat.le_refl _)
 have z3:((s.size-20:Nat):Int)=(s.size:Int)-20:=by omega
 have z4:((s.extract 20 s.size).size:Int)=(s.size:Int)-20:=by omega
 have pn:qb4 6=20:=rfl
 have ge0:∀h,(((s.extract 20 s.size)[12]'h).toNat:Int)=byt s.data.toList 32:=fun h=>qi8 s 12 h
 have ge1:∀h,(((s.extract 20 s.size)[13]'h).toNat:Int)=byt s.data.toList 33:=fun h=>qi8 s 13 h
 have hB:=Below.refl w.heap.size w
 go_enter func63,ntmps63
 go_wp2_with (first|(go_at_call 78;refine(qbz _ _).mono ?_;rintro e w' ⟨rfl,rfl⟩)|(go_at_call 92;refine(qgq _ _ _ om om).mono ?_;rintro e w' ⟨rfl,hb⟩;replace hB:=hB.trans (hb.mono hB.size))|(go_at_call_of 91 (Value.string (s.extract 20 s.size));refine(qwh s 18 _ om hs om om).mono ?_;rintro e w' ⟨rfl,hb⟩;replace hB:=hB.trans (hb.mono hB.size);simp only[Int.reduceToNat,Nat.reduceAdd])|(go_at_call 46;refine(qr0 _ _ _ (by rw[qb6];omega)).mono ?_;rintro e w' ⟨rfl,rfl⟩))
 all_goals
  go_ret
  refine⟨qdm ?_,hB⟩
  unfold qcx
  rw[qb6]
  unfold sumP at *
  clear hB
  simp_all
 all_goals omega
theorem qkj(s:ByteArray)(proto:Int)(w:World)(h20:20<=s.size)(hs:s.size<=65535)(hk:qdc proto=true):
  Calls prog 63 #[.string s,.int .i64 proto] w fun e w'=>e=.returned (.int .i64 (qcx s.data.toList proto))/\Below w.heap.size w w':=by
 by_cases h:(s.size:Int)-20<qb4 proto
 ·have E:qcx s.data.toList proto=1:=by unfold qcx;rw[qb6,if_pos h]
  rw[E]
  exact(q1n s proto w h20 hs h).mono fun e w' ⟨he,hw⟩=>⟨he,by rw[hw];exact Below.refl _ _⟩
 ·rcases(qei _).1 hk with rfl|rfl|rfl
  ·exact q54 s w (by rw[show qb4 1=8 from rfl] at h;omega) hs
  ·exact q8p s w (by rw[show qb4 6=20 from rfl] at h;omega) hs
  ·exact q7v s w (by rw[show qb4 17=8 from rfl] at h;omega) hs
def qbx(w:World)(b:Nat)(cs:Array Value):Prop:=w.heap[b]?=some (.cells cs 58 (0,0))
theorem qbx.cell{w:World}{b:Nat}{cs:Array Value}(h:qbx w b cs):∀o,w.cell? ⟨b,o,none⟩=cs[o]?:=by
 intro o
 unfold qbx at h
 simp[World.cell?,h]
theorem qbx.free{w:World}{b:Nat}{cs:Array Value}(h:qbx w b cs):∀o,w.frozen? ⟨b,o,none⟩=false:=by
 intro o
 unfold qbx at h
 simp[World.frozen?,h]
theorem qbx.set{w:World}{b:Nat}{cs:Array Value}(h:qbx w b cs)(o:Nat)(v:Value):qbx (w.setCell ⟨b,o,none⟩ v) b (cs.setIfInBounds o v):=qpq h
theorem qbx.drewN{w:World}{b:Nat}{cs:Array Value}(h:qbx w b cs)(q:Nat):qbx (w.drewN q) b cs:=h
theorem qif{w:World}{b o:Nat}{v:Value}:Step b none none w (w.setCell ⟨b,o,none⟩ v):=
 ⟨rfl,rfl,rfl,by simp[World.setCell],fun i _ hi _=>Below.heap_setCell _ _ _ _ hi,.inl rfl⟩
theorem qp4(p q:Nat)(w:World):Step p none none w (w.drewN q):=by
 refine⟨?_,?_,?_,?_,?_,.inl rfl⟩<;>first|rfl|simp
theorem qt6(b:Nat)(s:ByteArray)(w:World)(v0 v1 v3 v5 v6 v9 v10 v11:Value)(h28:28<=s.size)(hs:s.size<=65535)(hb:qbx w b #[v0,v1,.int .i64 0,v3,.int .i64 0,v5,v6,.int .i64 0,.int .i64 0,v9,v10,v11])(hf:byt s.data.toList 20=8):
  Calls prog 95 #[.pointer (some ⟨b,0,none⟩),.string (s.extract 20 s.size)] w fun e w'=>e=.returned (.tuple #[])/\
   qbx w' b #[v0,v1,.int .i64 (wAt s.data.toList 24),v3,.int .i64 0,v5,v6,.int .i64 8,.int .i64 (wAt s.data.toList 26),v9,v10,v11]/\Step b none none w w':=by
 have hc:=hb.cell
 have hz:=hb.free
 have z2:(s.extract 20 s.size).size=s.size-20:=qef s 20 s.size (Nat.le_refl _)
 have z4:((s.extract 20 s.size).size:Int)=(s.size:Int)-20:=by omega
 have z5:(0:Int)<(s.size:Int)-20:=by omega
 have ge0:∀h,(((s.extract 20 s.size)[0]'h).toNat:Int)=8:=fun h=>by rw[qi8 s 0 h,hf]
 have sd:∀(w:World) (n:Nat) (a:Addr) (v:Value),(w.drewN n).setCell a v=(w.setCell a v).drewN n:=fun _ _ _ _=>rfl
 go_enter func95,ntmps95
 go_wp2
 go_region_held3 (fun _=>True) (trivial) (first|(go_at_call 91;refine(qg1 s _ _ om hs om om).mono ?_;rintro e w' ⟨rfl,q,rfl⟩;simp only[Int.reduceToNat,Nat.reduceAdd]))
 all_goals
  go_wp2_with (go_at_call 91;refine(qg1 s _ _ om hs om om).mono ?_;rintro e w' ⟨rfl,q,rfl⟩;simp only[Int.reduceToNat,Nat.reduceAdd])
 all_goals
  go_end0
  exact⟨rfl,(((hb.set 7 _).set 8 _).set 2 _).drewN _,((qif.trans qif).trans qif).trans (qp4 _ _ _)⟩
theorem qqb(b:Nat)(s:ByteArray)(w:World)(v0 v1 v3 v5 v6 v9 v10 v11:Value)(h28:28<=s.size)(hs:s.size<=65535)(hb:qbx w b #[v0,v1,.int .i64 0,v3,.int .i64 0,v5,v6,.int .i64 0,.int .i64 0,v9,v10,v11])(hf:byt s.data.toList 20=0):
  Calls prog 95 #[.pointer (some ⟨b,0,none⟩),.string (s.extract 20 s.size)] w fun e w'=>e=.returned (.tuple #[])/\
   qbx w' b #[v0,v1,.int .i64 0,v3,.int .i64 (wAt s.data.toList 24),v5,v6,.int .i64 0,.int .i64 (wAt s.data.toList 26),v9,v10,v11]/\Step b none none w w':=by
 have hc:=hb.cell
 have hz:=hb.free
 have z2:(s.extract 20 s.size).size=s.size-20:=qef s 20 s.size (Nat.le_refl _)
 have z4:((s.extract 20 s.size).size:Int)=(s.size:Int)-20:=by omega
 have z5:(0:Int)<(s.size:Int)-20:=by omega
 have ge0:∀h,(((s.extract 20 s.size)[0]'h).toNat:Int)=0:=fun h=>by rw[qi8 s 0 h,hf]
 have sd:∀(w:World) (n:Nat) (a:Addr) (v:Value),(w.drewN n).setCell a v=(w.setCell a v).drewN n:=fun _ _ _ _=>rfl
 go_enter func95,ntmps95
 go_wp2
 go_region_held3 (fun _=>True) (trivial) (first|(go_at_call 91;refine(qg1 s _ _ om hs om om).mono ?_;rintro e w' ⟨rfl,q,rfl⟩;simp only[Int.reduceToNat,Nat.reduceAdd]))
 all_goals
  go_wp2_with (go_at_call 91;refine(qg1 s _ _ om hs om om).mono ?_;rintro e w' ⟨rfl,q,rfl⟩;simp only[Int.reduceToNat,Nat.reduceAdd])
 all_goals
  go_end0
  exact⟨rfl,(((hb.set 7 _).set 8 _).set 4 _).drewN _,((qif.trans qif).trans qif).trans (qp4 _ _ _)⟩
theorem qmg(s:ByteArray)(a:Nat):(s.extract 20 s.size).extract a (s.extract 20 s.size).size=txt (s.data.toList.drop (20+a)):=by
 rw[←qmw ((s.extract 20 s.size).extract a _),qg5,qg5,List.drop_drop]
theorem qrp(w:World)(cs:Array Value)(q n:Nat)(hn:w.heap.size=n):qbx ((w.alloc (.cells cs 58)).drewN q) n cs:=by
 subst hn
 exact heap_alloc_new w _
theorem qrw(w:World)(cs:Array Value)(o:Obj)(q:Nat):qbx (((w.alloc (.cells cs 58)).alloc o).drewN q) w.heap.size cs:=by
 show((w.alloc (.cells cs 58)).alloc o).heap[w.heap.size]?=_
 rw[Below.heap_alloc _ _ _ zm]
 exact heap_alloc_new w _
theorem qbx.step{w w':World}{b r:Nat}{cs:Array Value}(h:qbx w r cs)(st:Step b none none w w')(hne:r≠b):qbx w' r cs:=
 (st.block r (Array.getElem?_eq_some_iff.1 h).1 hne zm).trans h
theorem qma(w:World)(o o':Obj)(q:Nat):Below w.heap.size w (((w.alloc o).alloc o').drewN q):=
 (((Below.refl _ _).alloc (Nat.le_refl _) o).alloc zm o').trans ((qpw q _).mono (by simp;omega))
theorem sZxi22{p:Prop}(h:p:=by
 refine AR [14] ?_
 refine AC (fun K hK=>?_) ?_
 ·go_simp
  refine hK.out _ _ trivial (fun _=>?_)
  clear hK K
  try simp only[Act.put,List.setIfInBounds_toArray,List.set_cons_zero,List.set_cons_succ]
  refine AN ?_
  go_wp2_with fail
  go_meet
  case rel=>exact⟨rfl,_,rfl⟩
 exact AZ):p:=h
theorem sZxi21{p:Prop}(h:p:=by
 refine hK.out _ _ trivial (fun _=>?_)
 clear hK K
 try simp only[Act.put,List.setIfInBounds_toArray,List.set_cons_zero,List.set_cons_succ]
 refine AR [11] ?_
 refine AC (fun K hK=>?_) ?_
 ·go_simp
  refine(qh9 s _ _ om om om).mono ?_;rintro e w' ⟨rfl,q,rfl⟩;simp only[Int.reduceToNat]
  go_wp2_with fail
  refine hK.out _ _ trivial (fun _=>?_)
  clear hK K
  try simp only[Act.put,List.setIfInBounds_toArray,List.set_cons_zero,List.set_cons_succ]
  refine tk 12 (.agg #[.int .i64 (byt s.data.toList 9),.int .i64 (lAt s.data.toList 12),.int .i64 0,.int .i64 (lAt s.data.toList 16),.int .i64 0,.int .i64 (byt s.data.toList 8),.int .i64 (wAt s.data.toList 4),.int .i64 0,.int .i64 0,.int .i64 0,.int .i64 0,.string ⟨#[]⟩]) rfl (Or.inl ⟨by rfl,by intro w _;go_simp⟩) trivial ?_
  simp only[Act.put,List.setIfInBounds_toArray,List.set_cons_zero,List.set_cons_succ]
  exact sZxi22
 exact AZ):p:=h
theorem sZxi23{p:Prop}(h:p:=by
 refine hK.out _ _ trivial (fun _=>?_)
 clear hK K
 try simp only[Act.put,List.setIfInBounds_toArray,List.set_cons_zero,List.set_cons_succ]
 refine AR [6] ?_
 refine AC (fun K hK=>?_) ?_
 ·go_simp
  refine(qi7 s _ _ om om om).mono ?_;rintro e w' ⟨rfl,q,rfl⟩;simp only[Int.reduceToNat]
  go_wp2_with fail
  exact sZxi21
 exact AZ):p:=h
theorem qn9(s:ByteArray)(w:World)(h20:28<=s.size)(hs:s.size<=65535)(hk:qdc (byt s.data.toList 9)=true)(hf:byt s.data.toList 9=1->byt s.data.toList 20=8\/byt s.data.toList 20=0)(ht:byt s.data.toList 9=6->40<=s.size):
  Calls prog 64 #[.string s] w fun e w'=>e=.returned (pv (qam s.data.toList))/\Below w.heap.size w w':=by
 have g8:=qfo s 8 om;have g9:=qfo s 9 om
 obtain⟨b1,b2⟩:=qf3 s.data.toList 8
 obtain⟨b3,b4⟩:=qf3 s.data.toList 9
 have k8:(8:Int)<(s.size:Int):=by omega
 have k9:(9:Int)<(s.size:Int):=by omega
 have iw8:IntKind.i64.wrap (byt s.data.toList 8)=byt s.data.toList 8:=wrap_i64 _ om om
 have iw9:IntKind.i64.wrap (byt s.data.toList 9)=byt s.data.toList 9:=wrap_i64 _ om om
 have sd:∀(w:World) (n:Nat) (a:Addr) (v:Value),(w.drewN n).setCell a v=(w.setCell a v).drewN n:=fun _ _ _ _=>rfl
 have ad:∀(w:World) (n:Nat) (o:Obj),(w.drewN n).alloc o=(w.alloc o).drewN n:=fun _ _ _=>rfl
 have z2:(s.extract 20 s.size).size=s.size-20:=qef s 20 s.size (Nat.le_refl _)
 have z3:((s.size-20:Nat):Int)=(s.size:Int)-20:=by omega
 have z4:((s.extract 20 s.size).size:Int)=(s.size:Int)-20:=by omega
 go_enter func64,ntmps64
 go_wp2
 go_cut [3] (fun t3 wx=>t3=.pointer (some ⟨w.heap.size+1,0,none⟩)/\∃q,wx=((w.alloc (.cells #[.int .i64 0,.int .i64 0,.int .i64 0,.int .i64 0,.int .i64 0,.int .i64 0,.int .i64 0,.int .i64 0,.int .i64 0,.int .i64 0,.int .i64 0,.string ⟨#[]⟩] 58)).alloc (.cells #[.int .i64 (byt s.data.toList 9),.int .i64 (lAt s.data.toList 12),.int .i64 0,.int .i64 (lAt s.data.toList 16),.int .i64 0,.int .i64 (byt s.data.toList 8),.int .i64 (wAt s.data.toList 4),.int .i64 0,.int .i64 0,.int .i64 0,.int .i64 0,.string ⟨#[]⟩] 58)).drewN q)
 case first=>
  refine RD (fun _=>True) trivial (fun _=>?_)
  refine tk 0 (.string s) rfl (Or.inl ⟨by rfl,by intro w _;go_simp⟩) trivial ?_
  simp only[Act.put,List.setIfInBounds_toArray,List.set_cons_zero,List.set_cons_succ]
  refine tk 1 (.int .u8 (byt s.data.toList 9)) rfl (Or.inl ⟨by rfl,by intro w _;go_simp⟩) trivial ?_
  simp only[Act.put,List.setIfInBounds_toArray,List.set_cons_zero,List.set_cons_succ]
  refine tk 2 (.int .i64 (byt s.data.toList 9)) rfl (Or.inl ⟨by rfl,by intro w _;go_simp⟩) trivial ?_
  simp only[Act.put,List.setIfInBounds_toArray,List.set_cons_zero,List.set_cons_succ]
  refine tk 3 (.string s) rfl (Or.inl ⟨by rfl,by intro w _;go_simp⟩) trivial ?_
  simp only[Act.put,List.setIfInBounds_toArray,List.set_cons_zero,List.set_cons_succ]
  refine tk 5 (.string s) rfl (Or.inl ⟨by rfl,by intro w _;go_simp⟩) trivial ?_
  simp only[Act.put,List.setIfInBounds_toArray,List.set_cons_zero,List.set_cons_succ]
  refine tk 7 (.string s) rfl (Or.inl ⟨by rfl,by intro w _;go_simp⟩) trivial ?_
  simp only[Act.put,List.setIfInBounds_toArray,List.set_cons_zero,List.set_cons_succ]
  refine tk 8 (.int .u8 (byt s.data.toList 8)) rfl (Or.inl ⟨by rfl,by intro w _;go_simp⟩) trivial ?_
  simp only[Act.put,List.setIfInBounds_toArray,List.set_cons_zero,List.set_cons_succ]
  refine tk 9 (.int .i64 (byt s.data.toList 8)) rfl (Or.inl ⟨by rfl,by intro w _;go_simp⟩) trivial ?_
  simp only[Act.put,List.setIfInBounds_toArray,List.set_cons_zero,List.set_cons_succ]
  refine tk 10 (.string s) rfl (Or.inl ⟨by rfl,by intro w _;go_simp⟩) trivial ?_
  simp only[Act.put,List.setIfInBounds_toArray,List.set_cons_zero,List.set_cons_succ]
  refine AR [4,13] ?_
  refine AC (fun K hK=>?_) ?_
  ·go_simp
   refine(qi7 s _ _ om om om).mono ?_;rintro e w' ⟨rfl,q,rfl⟩;simp only[Int.reduceToNat]
   go_wp2_with fail
   refine hK.out _ _ trivial (fun _=>?_)
   clear hK K
   try simp only[Act.put,List.setIfInBounds_toArray,List.set_cons_zero,List.set_cons_succ]
   refine AR [6,13] ?_
   refine AC (fun K hK=>?_) ?_
   ·go_simp
    refine(qi7 s _ _ om om om).mono ?_;rintro e w' ⟨rfl,q,rfl⟩;simp only[Int.reduceToNat]
    go_wp2_with fail
    refine hK.out _ _ trivial (fun _=>?_)
    clear hK K
    try simp only[Act.put,List.setIfInBounds_toArray,List.set_cons_zero,List.set_cons_succ]
    refine AR [11,13] ?_
    refine AC (fun K hK=>?_) ?_
    ·go_simp
     refine(qh9 s _ _ om om om).mono ?_;rintro e w' ⟨rfl,q,rfl⟩;simp only[Int.reduceToNat]
     go_wp2_with fail
     refine hK.out _ _ trivial (fun _=>?_)
     clear hK K
     try simp only[Act.put,List.setIfInBounds_toArray,List.set_cons_zero,List.set_cons_succ]
     refine tk 12 (.agg #[.int .i64 (byt s.data.toList 9),.int .i64 (lAt s.data.toList 12),.int .i64 0,.int .i64 (lAt s.data.toList 16),.int .i64 0,.int .i64 (byt s.data.toList 8),.int .i64 (wAt s.data.toList 4),.int .i64 0,.int .i64 0,.int .i64 0,.int .i64 0,.string ⟨#[]⟩]) rfl (Or.inl ⟨by rfl,by intro w _;go_simp⟩) trivial ?_
     simp only[Act.put,List.setIfInBounds_toArray,List.set_cons_zero,List.set_cons_succ]
     refine AR [13] ?_
     refine AC (fun K hK=>?_) ?_
     ·go_simp
      refine hK.out _ _ trivial (fun _=>?_)
      clear hK K
      try simp only[Act.put,List.setIfInBounds_toArray,List.set_cons_zero,List.set_cons_succ]
      exact sZxi22
     exact AZ
    refine AC (fun K hK=>?_) ?_
    ·go_simp
     exact sZxi21
    exact AZ
   refine AC (fun K hK=>?_) ?_
   ·go_simp
    exact sZxi23
   exact AZ
  refine AC (fun K hK=>?_) ?_
  ·go_simp
   refine hK.out _ _ trivial (fun _=>?_)
   clear hK K
   try simp only[Act.put,List.setIfInBounds_toArray,List.set_cons_zero,List.set_cons_succ]
   refine AR [4] ?_
   refine AC (fun K hK=>?_) ?_
   ·go_simp
    refine(qi7 s _ _ om om om).mono ?_;rintro e w' ⟨rfl,q,rfl⟩;simp only[Int.reduceToNat]
    go_wp2_with fail
    exact sZxi23
   exact AZ
  exact AZ
 case rest=>
  obtain⟨rfl,q,rfl⟩:=hcut
  clear g8 g9 iw8 iw9
  rcases(qei _).1 hk with h1|h1|h1
  ·have pn:qb4 1=8:=rfl
   rcases hf h1 with h8|h8
   ·have E:Hid (pv (qam s.data.toList)=.agg #[.int .i64 1,.int .i64 (lAt s.data.toList 12),.int .i64 (wAt s.data.toList 24),.int .i64 (lAt s.data.toList 16),.int .i64 0,.int .i64 (byt s.data.toList 8),.int .i64 (wAt s.data.toList 4),.int .i64 8,.int .i64 (wAt s.data.toList 26),.int .i64 0,.int .i64 0,.string ((s.extract 20 s.size).extract 8 (s.size-20))]):=by
     show _=_
     unfold qam pv
     rw[if_pos h1,←z2,qmg,h8,if_pos rfl,if_pos rfl]
    rw[h1]
    go_wp2_with (first|(go_at_call 78;refine(qbz _ _).mono ?_;rintro e w' ⟨rfl,rfl⟩)|(go_at_call 95;refine(qt6 _ s _ _ _ _ _ _ _ _ _ h20 hs (qrp _ _ _ _ zm) h8).mono ?_;rintro e w' ⟨rfl,tw,hst⟩;have t0:=(qrw _ _ _ _).step hst om;have c0:=t0.cell;have f0:=t0.free;have c1:=tw.cell;have f1:=tw.free;have hB:=(qma _ _ _ _).trans (hst.below (B:=w.heap.size) (by simp;omega) om (fun k e=>by cases e));clear tw t0 hst))
    refine bodyPost_ret (v:=.agg #[.int .i64 1,.int .i64 (lAt s.data.toList 12),.int .i64 (wAt s.data.toList 24),.int .i64 (lAt s.data.toList 16),.int .i64 0,.int .i64 (byt s.data.toList 8),.int .i64 (wAt s.data.toList 4),.int .i64 8,.int .i64 (wAt s.data.toList 26),.int .i64 0,.int .i64 0,.string ((s.extract 20 s.size).extract 8 (s.size-20))]) (by simp[results,results64,go_sem,c0]) rfl ⟨by rw[E.out],?_⟩
    iterate 12 (refine Below.setCell ?_ (by exact Nat.le_refl _) _)
    exact hB
   ·have E:Hid (pv (qam s.data.toList)=.agg #[.int .i64 1,.int .i64 (lAt s.data.toList 12),.int .i64 0,.int .i64 (lAt s.data.toList 16),.int .i64 (wAt s.data.toList 24),.int .i64 (byt s.data.toList 8),.int .i64 (wAt s.data.toList 4),.int .i64 0,.int .i64 (wAt s.data.toList 26),.int .i64 0,.int .i64 0,.string ((s.extract 20 s.size).extract 8 (s.size-20))]):=by
     show _=_
     unfold qam pv
     rw[if_pos h1,←z2,qmg,h8,if_neg om,if_neg om]
    rw[h1]
    go_wp2_with (first|(go_at_call 78;refine(qbz _ _).mono ?_;rintro e w' ⟨rfl,rfl⟩)|(go_at_call 95;refine(qqb _ s _ _ _ _ _ _ _ _ _ h20 hs (qrp _ _ _ _ zm) h8).mono ?_;rintro e w' ⟨rfl,tw,hst⟩;have t0:=(qrw _ _ _ _).step hst om;have c0:=t0.cell;have f0:=t0.free;have c1:=tw.cell;have f1:=tw.free;have hB:=(qma _ _ _ _).trans (hst.below (B:=w.heap.size) (by simp;omega) om (fun k e=>by cases e));clear tw t0 hst))
    refine bodyPost_ret (v:=.agg #[.int .i64 1,.int .i64 (lAt s.data.toList 12),.int .i64 0,.int .i64 (lAt s.data.toList 16),.int .i64 (wAt s.data.toList 24),.int .i64 (byt s.data.toList 8),.int .i64 (wAt s.data.toList 4),.int .i64 0,.int .i64 (wAt s.data.toList 26),.int .i64 0,.int .i64 0,.string ((s.extract 20 s.size).extract 8 (s.size-20))]) (by simp[results,results64,go_sem,c0]) rfl ⟨by rw[E.out],?_⟩
    iterate 12 (refine Below.setCell ?_ (by exact Nat.le_refl _) _)
    exact hB
  ·have pn:qb4 6=20:=rfl
   have h40:=ht h1
   have E:Hid (pv (qam s.data.toList)=.agg #[.int .i64 6,.int .i64 (lAt s.data.toList 12),.int .i64 (wAt s.data.toList 20),.int .i64 (lAt s.data.toList 16),.int .i64 (wAt s.data.toList 22),.int .i64 (byt s.data.toList 8),.int .i64 (wAt s.data.toList 4),.int .i64 (byt s.data.toList 33),.int .i64 (lAt s.data.toList 24),.int .i64 (lAt s.data.toList 28),.int .i64 (wAt s.data.toList 34),.string ((s.extract 20 s.size).extract 20 (s.size-20))]):=by
    show _=_
    unfold qam pv
    rw[if_neg om,if_pos h1,←z2,qmg]
   obtain⟨b5,b6⟩:=qf3 s.data.toList 33
   have ge13:∀h,(((s.extract 20 s.size)[13]'h).toNat:Int)=byt s.data.toList 33:=fun h=>qi8 s 13 h
   have iw33:IntKind.i64.wrap (byt s.data.toList 33)=byt s.data.toList 33:=wrap_i64 _ om om
   have z6:(13:Int)<(s.size:Int)-20:=by omega
   rw[h1]
   go_wp2_with (first|(go_at_call 78;refine(qbz _ _).mono ?_;rintro e w' ⟨rfl,rfl⟩)|(go_at_call 91;refine(qg1 s _ _ om hs om om).mono ?_;rintro e w' ⟨rfl,q,rfl⟩;simp only[Int.reduceToNat,Nat.reduceAdd])|(go_at_call 94;refine(qt3 s _ _ om hs om om).mono ?_;rintro e w' ⟨rfl,q,rfl⟩;simp only[Int.reduceToNat,Nat.reduceAdd]))
   go_region_held3 (fun _=>True) (trivial) (first|(go_at_call 91;refine(qg1 s _ _ om hs om om).mono ?_;rintro e w' ⟨rfl,q,rfl⟩;simp only[Int.reduceToNat,Nat.reduceAdd]))
   all_goals
    go_wp2_with fail
    exact bodyPost_ret (v:=.agg #[.int .i64 6,.int .i64 (lAt s.data.toList 12),.int .i64 (wAt s.data.toList 20),.int .i64 (lAt s.data.toList 16),.int .i64 (wAt s.data.toList 22),.int .i64 (byt s.data.toList 8),.int .i64 (wAt s.data.toList 4),.int .i64 (byt s.data.toList 33),.int .i64 (lAt s.data.toList 24),.int .i64 (lAt s.data.toList 28),.int .i64 (wAt s.data.toList 34),.string ((s.extract 20 s.size).extract 20 (s.size-20))]) (by simp[results,results64,go_sem]) rfl ⟨by rw[E.out],qma _ _ _ _⟩
  ·have pn:qb4 17=8:=rfl
   have E:Hid (pv (qam s.data.toList)=.agg #[.int .i64 17,.int .i64 (lAt s.data.toList 12),.int .i64 (wAt s.data.toList 20),.int .i64 (lAt s.data.toList 16),.int .i64 (wAt s.data.toList 22),.int .i64 (byt s.data.toList 8),.int .i64 (wAt s.data.toList 4),.int .i64 0,.int .i64 0,.int .i64 0,.int .i64 0,.string ((s.extract 20 s.size).extract 8 (s.size-20))]):=by
    show _=_
    unfold qam pv
    rw[if_neg om,if_neg om,←z2,qmg,h1]
   rw[h1]
   go_wp2_with (first|(go_at_call 78;refine(qbz _ _).mono ?_;rintro e w' ⟨rfl,rfl⟩)|(go_at_call 91;refine(qg1 s _ _ om hs om om).mono ?_;rintro e w' ⟨rfl,q,rfl⟩;simp only[Int.reduceToNat,Nat.reduceAdd])|(go_at_call 94;refine(qt3 s _ _ om hs om om).mono ?_;rintro e w' ⟨rfl,q,rfl⟩;simp only[Int.reduceToNat,Nat.reduceAdd]))
   exact bodyPost_ret (v:=.agg #[.int .i64 17,.int .i64 (lAt s.data.toList 12),.int .i64 (wAt s.data.toList 20),.int .i64 (lAt s.data.toList 16),.int .i64 (wAt s.data.toList 22),.int .i64 (byt s.data.toList 8),.int .i64 (wAt s.data.toList 4),.int .i64 0,.int .i64 0,.int .i64 0,.int .i64 0,.string ((s.extract 20 s.size).extract 8 (s.size-20))]) (by simp[results,results64,go_sem]) rfl ⟨by rw[E.out],qma _ _ _ _⟩
end Go.Proofs.YtnicenfgemkdnaaGreatDoor
namespace Go.Proofs.YtnicenfgemkdnaaGreatDoor
open _root_.Go.Proofs.Tryz
set_option maxHeartbeats 16000000
set_option maxRecDepth 100000
open Go.RowKit
structure qls(l:List UInt8):Prop where
 len:20<=l.length
 mark:byt l 0=69
 size:wAt l 2=l.length
 sum:bk (tot (l.take 20))=65535
 serv:byt l 1=0
 piece:wAt l 6=0
 ttl:byt l 8≠0
 kind:qdc (byt l 9)=true
theorem qk8(l:List UInt8)(h:qcw l=0):qls l:=by
 unfold qcw at h
 by_cases h1:l.length<20
 ·rw[if_pos h1] at h;omega
 rw[if_neg h1] at h
 by_cases h2:byt l 0≠69
 ·rw[if_pos h2] at h;omega
 rw[if_neg h2] at h
 by_cases h3:wAt l 2≠l.length
 ·rw[if_pos h3] at h;omega
 rw[if_neg h3] at h
 by_cases h4:bk (tot (l.take 20))≠65535
 ·rw[if_pos h4] at h;omega
 rw[if_neg h4] at h
 by_cases h5:byt l 1≠0
 ·rw[if_pos h5] at h;omega
 rw[if_neg h5] at h
 by_cases h6:wAt l 6≠0
 ·rw[if_pos h6] at h;omega
 rw[if_neg h6] at h
 by_cases h7:byt l 8=0
 ·rw[if_pos h7] at h;omega
 rw[if_neg h7] at h
 by_cases h8:qdc (byt l 9)=false
 ·rw[if_pos h8] at h;omega
 exact⟨by omega,by omega,by omega,by omega,by omega,by omega,h7,by simpa using h8⟩
structure qom(l:List UInt8)(proto:Int):Prop where
 len:qb4 proto<=(l.length:Int)-20
 sum:bk (tot (chkd l proto))=65535
 udpSum:proto=17->wAt l 26≠0
 ping:proto=1->byt l 20=8\/byt l 20=0
 ping':proto=1->byt l 21=0
 tcp1:proto=6->byt l 32=80
 tcp2:proto=6->byt l 33<=63
 tcp3:proto=6->wAt l 38=0
 udp:proto=17->wAt l 24=(l.length:Int)-20
theorem qsp(l:List UInt8)(proto:Int)(h:qcx l proto=0):qom l proto:=by
 unfold qcx at h
 by_cases h1:(l.length:Int)-20<qb4 proto
 ·rw[if_pos h1] at h;omega
 rw[if_neg h1] at h
 by_cases h2:bk (tot (chkd l proto))≠65535
 ·rw[if_pos h2] at h;omega
 rw[if_neg h2] at h
 by_cases h3:proto=17/\wAt l 26=0
 ·rw[if_pos h3] at h;omega
 rw[if_neg h3] at h
 by_cases h4:proto=1/\byt l 20≠8/\byt l 20≠0
 ·rw[if_pos h4] at h;omega
 rw[if_neg h4] at h
 by_cases h5:proto=1/\byt l 21≠0
 ·rw[if_pos h5] at h;omega
 rw[if_neg h5] at h
 by_cases h6:proto=6/\byt l 32≠80
 ·rw[if_pos h6] at h;omega
 rw[if_neg h6] at h
 by_cases h7:proto=6/\63<byt l 33
 ·rw[if_pos h7] at h;omega
 rw[if_neg h7] at h
 by_cases h8:proto=6/\wAt l 38≠0
 ·rw[if_pos h8] at h;omega
 rw[if_neg h8] at h
 by_cases h9:proto=17/\wAt l 24≠(l.length:Int)-20
 ·rw[if_pos h9] at h;omega
 exact⟨by omega,by omega,by omega,by omega,by omega,by omega,by omega,by omega,by omega⟩
theorem qls.small{l:List UInt8}(h:qls l):l.length<=65535:=by
 have:=h.size;have:=qhr l 2;omega
theorem qge(n:Int)(h:qdc n=true):8<=qb4 n:=by
 rcases(qei _).1 h with rfl|rfl|rfl<;>decide
theorem qgi(l:List UInt8)(h:bad l=0):qls l/\qom l (byt l 9)/\good (qam l)=0:=by
 unfold bad at h
 by_cases h1:qcw l≠0
 ·rw[if_pos h1] at h;omega
 rw[if_neg h1] at h
 by_cases h2:qcx l (byt l 9)≠0
 ·rw[if_pos h2] at h;omega
 rw[if_neg h2] at h
 exact⟨qk8 l om,qsp l _ om,h⟩
end Go.Proofs.YtnicenfgemkdnaaGreatDoor
namespace Go.Proofs.YtnicenfgemkdnaaGreatDoor
open _root_.Go.Proofs.Tryz
set_option maxHeartbeats 16000000
set_option maxRecDepth 100000
open Go.ChangeShapes Go.WideShapes Go.ChangeAt Go.RowKit
theorem qmh(e:Int)(w:World):Calls prog 62 #[.int .i64 e] w fun r w'=>r=.returned (.tuple #[pv p0,.int .i64 e])/\Below w.heap.size w w':=by
 go_enter func62,ntmps62
 go_wp2
 exact bodyPost_ret (v:=.tuple #[pv p0,.int .i64 e]) (by simp[results,results62,go_sem,pv,p0];rfl) rfl ⟨rfl,((Below.refl _ _).alloc (Nat.le_refl _) _).alloc zm _⟩
theorem qbx.below{w w':World}{b:Nat}{cs:Array Value}(h:qbx w b cs)(hb:Below w.heap.size w w'):qbx w' b cs:=
 (hb.block b (Array.getElem?_eq_some_iff.1 h).1).trans h
theorem q0g(s:ByteArray)(w:World)(hs:s.size<=140737488351232)(h:qcw s.data.toList≠0):
  Calls prog 26 #[.string s] w fun e w'=>e=.returned (.tuple #[pv p0,.int .i64 (qcw s.data.toList)])/\Below w.heap.size w w':=by
 have hn:(qcw s.data.toList==0)=false:=by simpa using h
 have T0:qbx (w.alloc (.cells #[.int .i64 0,.int .i64 0,.int .i64 0,.int .i64 0,.int .i64 0,.int .i64 0,.int .i64 0,.int .i64 0,.int .i64 0,.int .i64 0,.int .i64 0,.string ⟨#[]⟩] 58)) w.heap.size #[.int .i64 0,.int .i64 0,.int .i64 0,.int .i64 0,.int .i64 0,.int .i64 0,.int .i64 0,.int .i64 0,.int .i64 0,.int .i64 0,.int .i64 0,.string ⟨#[]⟩]:=heap_alloc_new w _
 have hB:Below w.heap.size w (w.alloc (.cells #[.int .i64 0,.int .i64 0,.int .i64 0,.int .i64 0,.int .i64 0,.int .i64 0,.int .i64 0,.int .i64 0,.int .i64 0,.int .i64 0,.int .i64 0,.string ⟨#[]⟩] 58)):=(Below.refl _ _).alloc (Nat.le_refl _) _
 have c0:=T0.cell;have f0:=T0.free
 go_enter func26,ntmps26
 go_wp2_with (first|(go_at_call 61;refine(qh2 s _ hs).mono ?_;rintro e w' ⟨rfl,hb⟩;replace T0:=T0.below hb;replace hB:=hB.trans (hb.mono hB.size);clear hb;have c0:=T0.cell;have f0:=T0.free)|(go_at_call 62;refine(qmh _ _).mono ?_;rintro e w' ⟨rfl,hb⟩;replace T0:=T0.below hb;replace hB:=hB.trans (hb.mono hB.size);clear hb;have c0:=T0.cell;have f0:=T0.free;unfold pv p0))
 refine bodyPost_ret (v:=.tuple #[pv p0,.int .i64 (qcw s.data.toList)]) (by simp[results,results26,go_sem,pv,p0,c0]<;>rfl) rfl ⟨rfl,?_⟩
 iterate 12 (refine Below.setCell ?_ (by exact Nat.le_refl _) _)
 exact hB
theorem qyw(s:ByteArray)(w:World)(hs:s.size<=140737488351232)(h0:qcw s.data.toList=0)(h1:qcx s.data.toList (byt s.data.toList 9)≠0):
  Calls prog 26 #[.string s] w fun e w'=>e=.returned (.tuple #[pv p0,.int .i64 (qcx s.data.toList (byt s.data.toList 9))])/\Below w.heap.size w w':=by
 have H:=qk8 _ h0
 have h20:20<=s.size:=by have:=H.len;rw[qb6] at this;exact this
 have h65:s.size<=65535:=by have:=H.small;rw[qb6] at this;exact this
 have g9:=qfo s 9 om
 obtain⟨b3,b4⟩:=qf3 s.data.toList 9
 have hz:(qcw s.data.toList==0)=true:=by simpa using h0
 have hn:(qcx s.data.toList (byt s.data.toList 9)==0)=false:=by simpa using h1
 have T0:qbx (w.alloc (.cells #[.int .i64 0,.int .i64 0,.int .i64 0,.int .i64 0,.int .i64 0,.int .i64 0,.int .i64 0,.int .i64 0,.int .i64 0,.int .i64 0,.int .i64 0,.string ⟨#[]⟩] 58)) w.heap.size #[.int .i64 0,.int .i64 0,.int .i64 0,.int .i64 0,.int .i64 0,.int .i64 0,.int .i64 0,.int .i64 0,.int .i64 0,.int .i64 0,.int .i64 0,.string ⟨#[]⟩]:=heap_alloc_new w _
 have hB:Below w.heap.size w (w.alloc (.cells #[.int .i64 0,.int .i64 0,.int .i64 0,.int .i64 0,.int .i64 0,.int .i64 0,.int .i64 0,.int .i64 0,.int .i64 0,.int .i64 0,.int .i64 0,.string ⟨#[]⟩] 58)):=(Below.refl _ _).alloc (Nat.le_refl _) _
 have c0:=T0.cell;have f0:=T0.free
 go_enter func26,ntmps26
 go_wp2_with (first|(go_at_call 61;refine(qh2 s _ hs).mono ?_;rintro e w' ⟨rfl,hb⟩;rw[h0];replace T0:=T0.below hb;replace hB:=hB.trans (hb.mono hB.size);clear hb;have c0:=T0.cell;have f0:=T0.free)|(go_at_call 63;refine(qkj s _ _ h20 h65 H.kind).mono ?_;rintro e w' ⟨rfl,hb⟩;replace T0:=T0.below hb;replace hB:=hB.trans (hb.mono hB.size);clear hb;have c0:=T0.cell;have f0:=T0.free)|(go_at_call 62;refine(qmh _ _).mono ?_;rintro e w' ⟨rfl,hb⟩;replace T0:=T0.below hb;replace hB:=hB.trans (hb.mono hB.size);clear hb;have c0:=T0.cell;have f0:=T0.free;unfold pv p0))
 refine bodyPost_ret (v:=.tuple #[pv p0,.int .i64 (qcx s.data.toList (byt s.data.toList 9))]) (by simp[results,results26,go_sem,pv,p0,c0]<;>rfl) rfl ⟨rfl,?_⟩
 iterate 12 (refine Below.setCell ?_ (by exact Nat.le_refl _) _)
 exact hB
theorem qv4(l:List UInt8):(qam l).body.size<=l.length:=by
 unfold qam
 split<;>(try split)<;>simp[qck]<;>omega
theorem q1d(s:ByteArray)(w:World)(hs:s.size<=140737488351232)(h0:qcw s.data.toList=0)(h1:qcx s.data.toList (byt s.data.toList 9)=0)(k:Pkt)(hk:qam s.data.toList=k)(h2:good k≠0):
  Calls prog 26 #[.string s] w fun e w'=>e=.returned (.tuple #[pv p0,.int .i64 (good k)])/\Below w.heap.size w w':=by
 have H:=qk8 _ h0
 have h20:20<=s.size:=by have:=H.len;rw[qb6] at this;exact this
 have h65:s.size<=65535:=by have:=H.small;rw[qb6] at this;exact this
 have g9:=qfo s 9 om
 obtain⟨b3,b4⟩:=qf3 s.data.toList 9
 have hz:(qcw s.data.toList==0)=true:=by simpa using h0
 have P:=qsp _ _ h1
 have hpl:=qge _ H.kind
 have h28:28<=s.size:=by have:=P.len;rw[qb6] at this;omega
 have hf:=P.ping
 have ht:byt s.data.toList 9=6->40<=s.size:=fun e=>by have:=P.len;rw[qb6,e,show qb4 6=20 from rfl] at this;omega
 have hbody:k.body.size<=140737488351232:=by rw[←hk];have:=qv4 s.data.toList;rw[qb6] at this;omega
 have hn:(good k==0)=false:=by simpa using h2
 have T0:qbx (w.alloc (.cells #[.int .i64 0,.int .i64 0,.int .i64 0,.int .i64 0,.int .i64 0,.int .i64 0,.int .i64 0,.int .i64 0,.int .i64 0,.int .i64 0,.int .i64 0,.string ⟨#[]⟩] 58)) w.heap.size #[.int .i64 0,.int .i64 0,.int .i64 0,.int .i64 0,.int .i64 0,.int .i64 0,.int .i64 0,.int .i64 0,.int .i64 0,.int .i64 0,.int .i64 0,.string ⟨#[]⟩]:=heap_alloc_new w _
 have hB:Below w.heap.size w (w.alloc (.cells #[.int .i64 0,.int .i64 0,.int .i64 0,.int .i64 0,.int .i64 0,.int .i64 0,.int .i64 0,.int .i64 0,.int .i64 0,.int .i64 0,.int .i64 0,.string ⟨#[]⟩] 58)):=(Below.refl _ _).alloc (Nat.le_refl _) _
 have c0:=T0.cell;have f0:=T0.free
 go_enter func26,ntmps26
 go_wp2_with (first|(go_at_call 61;refine(qh2 s _ hs).mono ?_;rintro e w' ⟨rfl,hb⟩;rw[h0];replace T0:=T0.below hb;replace hB:=hB.trans (hb.mono hB.size);clear hb;have c0:=T0.cell;have f0:=T0.free)|(go_at_call 63;refine(qkj s _ _ h20 h65 H.kind).mono ?_;rintro e w' ⟨rfl,hb⟩;rw[h1];replace T0:=T0.below hb;replace hB:=hB.trans (hb.mono hB.size);clear hb;have c0:=T0.cell;have f0:=T0.free)|(go_at_call 64;refine(qn9 s _ h28 h65 H.kind hf ht).mono ?_;rintro e w3 ⟨rfl,hb⟩;replace T0:=T0.below hb;replace hB:=hB.trans (hb.mono hB.size);clear hb;have c0:=T0.cell;have f0:=T0.free;rw[hk];unfold pv;have T1:qbx (w3.alloc (.cells #[.int .i64 k.proto,.int .i64 k.src,.int .i64 k.sport,.int .i64 k.dst,.int .i64 k.dport,.int .i64 k.ttl,.int .i64 k.id,.int .i64 k.flags,.int .i64 k.seq,.int .i64 k.ack,.int .i64 k.win,.string k.body] 58)) w3.heap.size #[.int .i64 k.proto,.int .i64 k.src,.int .i64 k.sport,.int .i64 k.dst,.int .i64 k.dport,.int .i64 k.ttl,.int .i64 k.id,.int .i64 k.flags,.int .i64 k.seq,.int .i64 k.ack,.int .i64 k.win,.string k.body]:=heap_alloc_new w3 _;replace hB:=hB.alloc (by have:=hB.size;omega) (.cells #[.int .i64 k.proto,.int .i64 k.src,.int .i64 k.sport,.int .i64 k.dst,.int .i64 k.dport,.int .i64 k.ttl,.int .i64 k.id,.int .i64 k.flags,.int .i64 k.seq,.int .i64 k.ack,.int .i64 k.win,.string k.body] 58);replace T0:=T0.below ((Below.refl _ _).alloc (Nat.le_refl _) (.cells #[.int .i64 k.proto,.int .i64 k.src,.int .i64 k.sport,.int .i64 k.dst,.int .i64 k.dport,.int .i64 k.ttl,.int .i64 k.id,.int .i64 k.flags,.int .i64 k.seq,.int .i64 k.ack,.int .i64 k.win,.string k.body] 58)))|(go_at_call 45;refine(qke k _ hbody).mono ?_;rintro e w' ⟨rfl,hb⟩;replace T0:=T0.below hb;replace hB:=hB.trans (hb.mono hB.size);replace T1:=T1.below hb;clear hb;have c0:=T0.cell;have f0:=T0.free;have c1:=T1.cell;have f1:=T1.free)|(go_at_call 62;refine(qmh _ _).mono ?_;rintro e w' ⟨rfl,hb⟩;replace T0:=T0.below hb;replace hB:=hB.trans (hb.mono hB.size);clear hb;have c0:=T0.cell;have f0:=T0.free;unfold pv p0))
 refine bodyPost_ret (v:=.tuple #[pv p0,.int .i64 (good k)]) (by simp[results,results26,go_sem,pv,p0,c0]<;>rfl) rfl ⟨rfl,?_⟩
 iterate 12 (refine Below.setCell ?_ (by exact Nat.le_refl _) _)
 exact hB
theorem q01(s:ByteArray)(w:World)(hs:s.size<=140737488351232)(h0:qcw s.data.toList=0)(h1:qcx s.data.toList (byt s.data.toList 9)=0)(k:Pkt)(hk:qam s.data.toList=k)(h2:good k=0):
  Calls prog 26 #[.string s] w fun e w'=>e=.returned (.tuple #[pv k,.int .i64 0])/\Below w.heap.size w w':=by
 have H:=qk8 _ h0
 have h20:20<=s.size:=by have:=H.len;rw[qb6] at this;exact this
 have h65:s.size<=65535:=by have:=H.small;rw[qb6] at this;exact this
 have g9:=qfo s 9 om
 obtain⟨b3,b4⟩:=qf3 s.data.toList 9
 have hz:(qcw s.data.toList==0)=true:=by simpa using h0
 have P:=qsp _ _ h1
 have hpl:=qge _ H.kind
 have h28:28<=s.size:=by have:=P.len;rw[qb6] at this;omega
 have hf:=P.ping
 have ht:byt s.data.toList 9=6->40<=s.size:=fun e=>by have:=P.len;rw[qb6,e,show qb4 6=20 from rfl] at this;omega
 have hbody:k.body.size<=140737488351232:=by rw[←hk];have:=qv4 s.data.toList;rw[qb6] at this;omega
 have T0:qbx (w.alloc (.cells #[.int .i64 0,.int .i64 0,.int .i64 0,.int .i64 0,.int .i64 0,.int .i64 0,.int .i64 0,.int .i64 0,.int .i64 0,.int .i64 0,.int .i64 0,.string ⟨#[]⟩] 58)) w.heap.size #[.int .i64 0,.int .i64 0,.int .i64 0,.int .i64 0,.int .i64 0,.int .i64 0,.int .i64 0,.int .i64 0,.int .i64 0,.int .i64 0,.int .i64 0,.string ⟨#[]⟩]:=heap_alloc_new w _
 have hB:Below w.heap.size w (w.alloc (.cells #[.int .i64 0,.int .i64 0,.int .i64 0,.int .i64 0,.int .i64 0,.int .i64 0,.int .i64 0,.int .i64 0,.int .i64 0,.int .i64 0,.int .i64 0,.string ⟨#[]⟩] 58)):=(Below.refl _ _).alloc (Nat.le_refl _) _
 have c0:=T0.cell;have f0:=T0.free
 go_enter func26,ntmps26
 go_wp2_with (first|(go_at_call 61;refine(qh2 s _ hs).mono ?_;rintro e w' ⟨rfl,hb⟩;rw[h0];replace T0:=T0.below hb;replace hB:=hB.trans (hb.mono hB.size);clear hb;have c0:=T0.cell;have f0:=T0.free)|(go_at_call 63;refine(qkj s _ _ h20 h65 H.kind).mono ?_;rintro e w' ⟨rfl,hb⟩;rw[h1];replace T0:=T0.below hb;replace hB:=hB.trans (hb.mono hB.size);clear hb;have c0:=T0.cell;have f0:=T0.free)|(go_at_call 64;refine(qn9 s _ h28 h65 H.kind hf ht).mono ?_;rintro e w3 ⟨rfl,hb⟩;replace T0:=T0.below hb;replace hB:=hB.trans (hb.mono hB.size);clear hb;have c0:=T0.cell;have f0:=T0.free;rw[hk];unfold pv;have T1:qbx (w3.alloc (.cells #[.int .i64 k.proto,.int .i64 k.src,.int .i64 k.sport,.int .i64 k.dst,.int .i64 k.dport,.int .i64 k.ttl,.int .i64 k.id,.int .i64 k.flags,.int .i64 k.seq,.int .i64 k.ack,.int .i64 k.win,.string k.body] 58)) w3.heap.size #[.int .i64 k.proto,.int .i64 k.src,.int .i64 k.sport,.int .i64 k.dst,.int .i64 k.dport,.int .i64 k.ttl,.int .i64 k.id,.int .i64 k.flags,.int .i64 k.seq,.int .i64 k.ack,.int .i64 k.win,.string k.body]:=heap_alloc_new w3 _;replace hB:=hB.alloc (by have:=hB.size;omega) (.cells #[.int .i64 k.proto,.int .i64 k.src,.int .i64 k.sport,.int .i64 k.dst,.int .i64 k.dport,.int .i64 k.ttl,.int .i64 k.id,.int .i64 k.flags,.int .i64 k.seq,.int .i64 k.ack,.int .i64 k.win,.string k.body] 58);replace T0:=T0.below ((Below.refl _ _).alloc (Nat.le_refl _) (.cells #[.int .i64 k.proto,.int .i64 k.src,.int .i64 k.sport,.int .i64 k.dst,.int .i64 k.dport,.int .i64 k.ttl,.int .i64 k.id,.int .i64 k.flags,.int .i64 k.seq,.int .i64 k.ack,.int .i64 k.win,.string k.body] 58)))|(go_at_call 45;refine(qke k _ hbody).mono ?_;rintro e w' ⟨rfl,hb⟩;rw[h2];replace T0:=T0.below hb;replace hB:=hB.trans (hb.mono hB.size);replace T1:=T1.below hb;clear hb;have c0:=T0.cell;have f0:=T0.free;have c1:=T1.cell;have f1:=T1.free))
 refine bodyPost_ret (v:=.tuple #[pv k,.int .i64 0]) (by simp[results,results26,go_sem,pv,c0]) rfl ⟨rfl,?_⟩
 iterate 12 (refine Below.setCell ?_ (by exact Nat.le_refl _) _)
 exact hB
theorem qch(s:ByteArray)(w:World)(hs:s.size<=140737488351232):
  Calls prog 26 #[.string s] w fun e w'=>e=.returned (.tuple #[pv (qb9 s.data.toList),.int .i64 (bad s.data.toList)])/\Below w.heap.size w w':=by
 by_cases h0:qcw s.data.toList=0
 ·by_cases h1:qcx s.data.toList (byt s.data.toList 9)=0
  ·have e:bad s.data.toList=good (qam s.data.toList):=by unfold bad;rw[if_neg om,if_neg om]
   by_cases h2:good (qam s.data.toList)=0
   ·rw[qb9,e,if_pos h2,h2];exact q01 s w hs h0 h1 _ rfl h2
   ·rw[qb9,e,if_neg h2];exact q1d s w hs h0 h1 _ rfl h2
  ·have e:bad s.data.toList=qcx s.data.toList (byt s.data.toList 9):=by unfold bad;rw[if_neg om,if_pos h1]
   rw[qb9,e,if_neg h1];exact qyw s w hs h0 h1
 ·have e:bad s.data.toList=qcw s.data.toList:=by unfold bad;rw[if_pos h0]
  rw[qb9,e,if_neg h0];exact q0g s w hs h0
end Go.Proofs.YtnicenfgemkdnaaGreatDoor
