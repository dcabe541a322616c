/-
  Of what a law stands on.
-/
import Derived.Test.YtnicenfgemkdnaaGreatDoorZxi2
set_option linter.unusedSimpArgs false
set_option linter.unusedVariables false
namespace Go.Proofs.YtnicenfgemkdnaaGreatDoor
open _root_.Go.Proofs.Tryz
set_option maxHeartbeats 16000000
set_option maxRecDepth 100000
open Go.ChangeShapes Go.WideShapes Go.ChangeAt Go.RowKit
def twoB(n:Int):Bool:=n==0||n==65535
def qg8(l:List UInt8)(proto:Int):List UInt8:=if twoB (wAt l (qbd proto))=true then qgf l proto else l
theorem qky(p g:Nat)(l:List UInt8)(w:World)(h:Rd w p g l)(proto:Int)(hl:qbd proto+1<l.length)(hm:l.length<=400000):
  Calls prog 143 #[.pointer (some ⟨p,0,none⟩),.int .i64 proto] w fun e w'=>e=.returned (.tuple #[])/\Rd w' p g (qg8 l proto)/\Step p (some g) (some g) w w':=by
 have hS:=Step.refl p (some g) w
 have two:∀(n:Int) (w:World),Calls prog 171 #[.int .i64 n] w fun e w'=>e=.returned (.bool (twoB n))/\w'=w:=qw4
 by_cases ht:twoB (wAt l (qbd proto))=true
 ·have E:Hid (qg8 l proto=qgf l proto):=by show _=_;unfold qg8;rw[if_pos ht]
  go_enter func143,ntmps143
  go_wp2_with (first|(go_at_call 93;refine(qdp _ _).mono ?_;rintro e w' ⟨rfl,rfl⟩)|(go_at_call 169;refine(qli p g _ _ h _ hl).mono ?_;rintro e w' ⟨rfl,h,hst⟩;replace hS:=hS.trans hst;clear hst)|(go_at_call 171;refine(two _ _).mono ?_;rintro e w' ⟨rfl,rfl⟩)|(go_at_call 117;refine(qlk p g _ _ h _ hl hm).mono ?_;rintro e w' ⟨rfl,h,hst⟩;replace hS:=hS.trans hst;clear hst))
  go_end0
  exact⟨rfl,by rw[E.out];exact h,hS⟩
 ·have E:Hid (qg8 l proto=l):=by show _=_;unfold qg8;rw[if_neg ht]
  have ht':twoB (wAt l (qbd proto))=false:=by simpa using ht
  go_enter func143,ntmps143
  go_wp2_with (first|(go_at_call 93;refine(qdp _ _).mono ?_;rintro e w' ⟨rfl,rfl⟩)|(go_at_call 169;refine(qli p g _ _ h _ hl).mono ?_;rintro e w' ⟨rfl,h,hst⟩;replace hS:=hS.trans hst;clear hst)|(go_at_call 171;refine(two _ _).mono ?_;rintro e w' ⟨rfl,rfl⟩))
  go_end0
  exact⟨rfl,by rw[E.out];exact h,hS⟩
theorem qjw(s:ByteArray)(w:World):∃(C:Array Value) (cap:Nat),
  (convert 9 167 (.string s)).run prog w=.ok (.slice (some ⟨w.heap.size,0,none⟩) s.size cap) (w.drew.alloc (.cells C 5 (C.size,C.size+1)))/\
  s.size<=cap/\(s.size<=maxLen->cap<=maxLen)/\C.toList.take s.data.toList.length=bc s.data.toList:=by
 refine⟨_,_,run_bytes_of_string w 9 167 5 s underlying9 underlying167 underlying5,grownCap_ge _ _ _ _,fun h=>grownCap_le_maxLen _ _ _ _ h,?_⟩
 unfold bytesRow bc
 rw[Array.toList_append,List.take_append_of_le_length zm,List.take_of_length_le zm]
 simp
theorem qrr(w:World)(s:ByteArray)(C:Array Value)(cap p g:Nat)(hg:w.heap.size=g)(hp:w.heap.size+1=p)(h1:s.size<=cap)(h2:cap<=maxLen)(h3:C.toList.take s.data.toList.length=bc s.data.toList):
  Rd (((w.alloc (.cells C 5 (C.size,C.size+1))).alloc (.cells #[.slice (some ⟨g,0,none⟩) s.size cap] 169)).drew) p g s.data.toList:=by
 show Rd ((w.alloc (.cells C 5 (C.size,C.size+1))).alloc (.cells #[.slice (some ⟨g,0,none⟩) s.size cap] 169)) p g s.data.toList
 subst hg hp
 refine⟨cap,C,(C.size,C.size+1),?_,by omega,?_,.inr (Nat.le_refl _),by rw[qb6];exact h1,h2,h3⟩
 ·rw[qb6]
  have:=heap_alloc_new (w.alloc (.cells C 5 (C.size,C.size+1))) (.cells #[.slice (some ⟨w.heap.size,0,none⟩) s.size cap] 169)
  simpa using this
 ·rw[Below.heap_alloc _ _ _ zm]
  exact heap_alloc_new w _
theorem q60(s:ByteArray)(side addr port:Int)(w:World)(hs:s.size<=140737488351232)(k:Pkt)(hk:qb9 s.data.toList=k)(e0:Int)(hb:bad s.data.toList=e0)(he:e0≠0):
  Calls prog 105 #[.string s,.int .i64 side,.int .i64 addr,.int .i64 port] w fun e w'=>e=.returned (.tuple #[.string ByteArray.empty,.int .i64 e0])/\Below w.heap.size w w':=by
 have hz:(e0==0)=false:=by simpa using he
 go_enter func105,ntmps105
 go_wp2_with (first|(go_at_call 26;refine(qch s _ hs).mono ?_;rintro e w1 ⟨rfl,hb1⟩;rw[hb,hk];unfold pv;have T1:qbx (w1.alloc (.cells #[.int .i64 k.proto,.int .i64 k.src,.int .i64 k.sport,.int .i64 k.dst,.int .i64 k.dport,.int .i64 k.ttl,.int .i64 k.id,.int .i64 k.flags,.int .i64 k.seq,.int .i64 k.ack,.int .i64 k.win,.string k.body] 58)) w1.heap.size #[.int .i64 k.proto,.int .i64 k.src,.int .i64 k.sport,.int .i64 k.dst,.int .i64 k.dport,.int .i64 k.ttl,.int .i64 k.id,.int .i64 k.flags,.int .i64 k.seq,.int .i64 k.ack,.int .i64 k.win,.string k.body]:=heap_alloc_new w1 _;have c1:=T1.cell)|(go_at_call 112;refine(qdz _ _).mono ?_;rintro e w' ⟨rfl,rfl⟩)|(go_at_call 119;refine(qd1 _ _).mono ?_;rintro e w' ⟨rfl,rfl⟩)|(go_at_call 120;refine(qcz _ _).mono ?_;rintro e w' ⟨rfl,rfl⟩))
 all_goals
  go_ret2
  exact⟨rfl,hb1.alloc hb1.size _⟩
theorem q1j(s:ByteArray)(side addr port:Int)(w:World)(hs:s.size<=140737488351232)(k:Pkt)(hk:qb9 s.data.toList=k)(hb:bad s.data.toList=0)(h0:side≠0)(h1:side≠1):
  Calls prog 105 #[.string s,.int .i64 side,.int .i64 addr,.int .i64 port] w fun e w'=>e=.returned (.tuple #[.string ByteArray.empty,.int .i64 2])/\Below w.heap.size w w':=by
 have h0':(side==0)=false:=by simpa using h0
 have h1':(side==1)=false:=by simpa using h1
 go_enter func105,ntmps105
 go_wp2_with (first|(go_at_call 26;refine(qch s _ hs).mono ?_;rintro e w1 ⟨rfl,hb1⟩;rw[hb,hk];unfold pv;have T1:qbx (w1.alloc (.cells #[.int .i64 k.proto,.int .i64 k.src,.int .i64 k.sport,.int .i64 k.dst,.int .i64 k.dport,.int .i64 k.ttl,.int .i64 k.id,.int .i64 k.flags,.int .i64 k.seq,.int .i64 k.ack,.int .i64 k.win,.string k.body] 58)) w1.heap.size #[.int .i64 k.proto,.int .i64 k.src,.int .i64 k.sport,.int .i64 k.dst,.int .i64 k.dport,.int .i64 k.ttl,.int .i64 k.id,.int .i64 k.flags,.int .i64 k.seq,.int .i64 k.ack,.int .i64 k.win,.string k.body]:=heap_alloc_new w1 _;have c1:=T1.cell)|(go_at_call 112;refine(qdz _ _).mono ?_;rintro e w' ⟨rfl,rfl⟩)|(go_at_call 119;refine(qd1 _ _).mono ?_;rintro e w' ⟨rfl,rfl⟩)|(go_at_call 120;refine(qcz _ _).mono ?_;rintro e w' ⟨rfl,rfl⟩))
 all_goals
  go_ret2
  exact⟨rfl,hb1.alloc hb1.size _⟩
theorem q4e(s:ByteArray)(side addr port:Int)(w:World)(hs:s.size<=140737488351232)(k:Pkt)(hk:qb9 s.data.toList=k)(hb:bad s.data.toList=0)(h0:side=0\/side=1)(ha:qeb addr=false):
  Calls prog 105 #[.string s,.int .i64 side,.int .i64 addr,.int .i64 port] w fun e w'=>e=.returned (.tuple #[.string ByteArray.empty,.int .i64 2])/\Below w.heap.size w w':=by
 rcases h0 with rfl|rfl
 all_goals
  go_enter func105,ntmps105
  go_wp2_with (first|(go_at_call 26;refine(qch s _ hs).mono ?_;rintro e w1 ⟨rfl,hb1⟩;rw[hb,hk];unfold pv;have T1:qbx (w1.alloc (.cells #[.int .i64 k.proto,.int .i64 k.src,.int .i64 k.sport,.int .i64 k.dst,.int .i64 k.dport,.int .i64 k.ttl,.int .i64 k.id,.int .i64 k.flags,.int .i64 k.seq,.int .i64 k.ack,.int .i64 k.win,.string k.body] 58)) w1.heap.size #[.int .i64 k.proto,.int .i64 k.src,.int .i64 k.sport,.int .i64 k.dst,.int .i64 k.dport,.int .i64 k.ttl,.int .i64 k.id,.int .i64 k.flags,.int .i64 k.seq,.int .i64 k.ack,.int .i64 k.win,.string k.body]:=heap_alloc_new w1 _;have c1:=T1.cell)|(go_at_call 112;refine(qdz _ _).mono ?_;rintro e w' ⟨rfl,rfl⟩)|(go_at_call 119;refine(qd1 _ _).mono ?_;rintro e w' ⟨rfl,rfl⟩)|(go_at_call 120;refine(qcz _ _).mono ?_;rintro e w' ⟨rfl,rfl⟩))
  all_goals
   go_ret2
   exact⟨rfl,hb1.alloc hb1.size _⟩
theorem q34(s:ByteArray)(side addr port:Int)(w:World)(hs:s.size<=140737488351232)(k:Pkt)(hk:qb9 s.data.toList=k)(hb:bad s.data.toList=0)(h0:side=0\/side=1)(ha:qeb addr=true)(hp:qc7 port=false):
  Calls prog 105 #[.string s,.int .i64 side,.int .i64 addr,.int .i64 port] w fun e w'=>e=.returned (.tuple #[.string ByteArray.empty,.int .i64 2])/\Below w.heap.size w w':=by
 rcases h0 with rfl|rfl
 all_goals
  go_enter func105,ntmps105
  go_wp2_with (first|(go_at_call 26;refine(qch s _ hs).mono ?_;rintro e w1 ⟨rfl,hb1⟩;rw[hb,hk];unfold pv;have T1:qbx (w1.alloc (.cells #[.int .i64 k.proto,.int .i64 k.src,.int .i64 k.sport,.int .i64 k.dst,.int .i64 k.dport,.int .i64 k.ttl,.int .i64 k.id,.int .i64 k.flags,.int .i64 k.seq,.int .i64 k.ack,.int .i64 k.win,.string k.body] 58)) w1.heap.size #[.int .i64 k.proto,.int .i64 k.src,.int .i64 k.sport,.int .i64 k.dst,.int .i64 k.dport,.int .i64 k.ttl,.int .i64 k.id,.int .i64 k.flags,.int .i64 k.seq,.int .i64 k.ack,.int .i64 k.win,.string k.body]:=heap_alloc_new w1 _;have c1:=T1.cell)|(go_at_call 112;refine(qdz _ _).mono ?_;rintro e w' ⟨rfl,rfl⟩)|(go_at_call 119;refine(qd1 _ _).mono ?_;rintro e w' ⟨rfl,rfl⟩)|(go_at_call 120;refine(qcz _ _).mono ?_;rintro e w' ⟨rfl,rfl⟩))
  all_goals
   go_ret2
   exact⟨rfl,hb1.alloc hb1.size _⟩
theorem q2n(s:ByteArray)(side addr port:Int)(w:World)(hs:s.size<=140737488351232)(k:Pkt)(hk:qb9 s.data.toList=k)(hb:bad s.data.toList=0)(h0:side=0\/side=1)(ha:qeb addr=true)(hp:qc7 port=true)(h1:k.ttl=1):
  Calls prog 105 #[.string s,.int .i64 side,.int .i64 addr,.int .i64 port] w fun e w'=>e=.returned (.tuple #[.string ByteArray.empty,.int .i64 12])/\Below w.heap.size w w':=by
 rcases h0 with rfl|rfl
 all_goals
  go_enter func105,ntmps105
  go_wp2_with (first|(go_at_call 26;refine(qch s _ hs).mono ?_;rintro e w1 ⟨rfl,hb1⟩;rw[hb,hk];unfold pv;have T1:qbx (w1.alloc (.cells #[.int .i64 k.proto,.int .i64 k.src,.int .i64 k.sport,.int .i64 k.dst,.int .i64 k.dport,.int .i64 k.ttl,.int .i64 k.id,.int .i64 k.flags,.int .i64 k.seq,.int .i64 k.ack,.int .i64 k.win,.string k.body] 58)) w1.heap.size #[.int .i64 k.proto,.int .i64 k.src,.int .i64 k.sport,.int .i64 k.dst,.int .i64 k.dport,.int .i64 k.ttl,.int .i64 k.id,.int .i64 k.flags,.int .i64 k.seq,.int .i64 k.ack,.int .i64 k.win,.string k.body]:=heap_alloc_new w1 _;have c1:=T1.cell)|(go_at_call 112;refine(qdz _ _).mono ?_;rintro e w' ⟨rfl,rfl⟩)|(go_at_call 119;refine(qd1 _ _).mono ?_;rintro e w' ⟨rfl,rfl⟩)|(go_at_call 120;refine(qcz _ _).mono ?_;rintro e w' ⟨rfl,rfl⟩))
  all_goals
   go_ret2
   exact⟨rfl,hb1.alloc hb1.size _⟩
theorem sZxi32{p:Prop}(h:p:=by
 clear h3
 go_enter func105,ntmps105
 go_wp2_with (first|(go_at_call 26;refine(qch s _ hs).mono ?_;rintro e w1 ⟨rfl,hb1⟩;rw[hb,hk];unfold pv;have T1:qbx (w1.alloc (.cells #[.int .i64 k.proto,.int .i64 k.src,.int .i64 k.sport,.int .i64 k.dst,.int .i64 k.dport,.int .i64 k.ttl,.int .i64 k.id,.int .i64 k.flags,.int .i64 k.seq,.int .i64 k.ack,.int .i64 k.win,.string k.body] 58)) w1.heap.size #[.int .i64 k.proto,.int .i64 k.src,.int .i64 k.sport,.int .i64 k.dst,.int .i64 k.dport,.int .i64 k.ttl,.int .i64 k.id,.int .i64 k.flags,.int .i64 k.seq,.int .i64 k.ack,.int .i64 k.win,.string k.body]:=heap_alloc_new w1 _;have c1:=T1.cell)|(go_at_call 112;refine(qdz _ _).mono ?_;rintro e w' ⟨rfl,rfl⟩)|(go_at_call 119;refine(qd1 _ _).mono ?_;rintro e w' ⟨rfl,rfl⟩)|(go_at_call 120;refine(qcz _ _).mono ?_;rintro e w' ⟨rfl,rfl⟩))
 all_goals
  go_ret2
  exact⟨rfl,hb1.alloc hb1.size _⟩):p:=h
theorem q3e(s:ByteArray)(side addr port:Int)(w:World)(hs:s.size<=140737488351232)(k:Pkt)(hk:qb9 s.data.toList=k)(hb:bad s.data.toList=0)(h0:side=0\/side=1)(ha:qeb addr=true)(hp:qc7 port=true)(h1:k.ttl≠1)(h2:k.proto=1)(h3:(k.flags==8)≠(side==0)):
  Calls prog 105 #[.string s,.int .i64 side,.int .i64 addr,.int .i64 port] w fun e w'=>e=.returned (.tuple #[.string ByteArray.empty,.int .i64 4])/\Below w.heap.size w w':=by
 have h1':(k.ttl==1)=false:=by simpa using h1
 rcases h0 with rfl|rfl
 ·have h4:(k.flags==8)=false:=by simpa using h3
  exact sZxi32
 ·have h4:(k.flags==8)=true:=by simpa using h3
  exact sZxi32
theorem qn0(w:World)(cs:Array Value)(t:TypeId)(o1 o2:Obj)(o:Nat):((((w.alloc (.cells cs t)).alloc o1).alloc o2).drew).cell? ⟨w.heap.size,o,none⟩=cs[o]?:=by
 have h:(((w.alloc (.cells cs t)).alloc o1).alloc o2).heap[w.heap.size]?=some (.cells cs t (0,0)):=by
  rw[Below.heap_alloc _ _ _ (by simp;omega),Below.heap_alloc _ _ _ zm]
  exact heap_alloc_new w _
 show(((w.alloc (.cells cs t)).alloc o1).alloc o2).cell? _=_
 simp[World.cell?,h]
theorem ql4(p g:Nat)(l:List UInt8)(w:World)(h:Rd w p g l)(proto side addr port:Int)(hs:side=0\/side=1)(a0:0<=addr)(a1:addr<=4294967295)(hl:28<=l.length)(hq:qbd proto+1<l.length):
  Calls prog 142 #[.pointer (some ⟨p,0,none⟩),.int .i64 proto,.int .i64 side,.int .i64 addr,.int .i64 port] w fun e w'=>e=.returned (.tuple #[])/\Rd w' p g (qjz l proto side addr port)/\Step p (some g) (some g) w w':=by
 by_cases hp:proto=1
 ·subst hp;exact q0l p g l w h side addr port hs a0 a1 hl
 ·exact qxk p g l w h proto side addr port hs a0 a1 hl hp hq
@[simp] theorem qayb(l:List UInt8)(proto side addr port:Int):(qjz l proto side addr port).length=l.length:=by simp[qjz]
def spun(l:List UInt8)(proto side addr port:Int):List UInt8:=qg8 (qjz (aged l) proto side addr port) proto
theorem qk2{w w1 w':World}{o1 o2 o3:Obj}{G':Option Nat}(hb:Below w.heap.size w w1)(hS:Step (w1.heap.size+1+1) (some (w1.heap.size+1)) G' ((((w1.alloc o1).alloc o2).alloc o3).drew) w'):Below w.heap.size w w':=by
 have h1:=hb.size
 have b1:Below w.heap.size w ((((w1.alloc o1).alloc o2).alloc o3).drew):=((((hb.alloc h1 o1).alloc (by simp;omega) o2).alloc (by simp;omega) o3)).drew
 exact b1.trans (hS.below (by have:=b1.size;omega) om (fun k e=>by cases e;omega))
theorem sZxi31{p:Prop}(h:p:=by
 go_wp2_with (first|(go_at_call 26;refine(qch s _ hs).mono ?_;rintro e w1 ⟨rfl,hb1⟩;rw[hb,hk];unfold pv;have T1:qbx (w1.alloc (.cells #[.int .i64 k.proto,.int .i64 k.src,.int .i64 k.sport,.int .i64 k.dst,.int .i64 k.dport,.int .i64 k.ttl,.int .i64 k.id,.int .i64 k.flags,.int .i64 k.seq,.int .i64 k.ack,.int .i64 k.win,.string k.body] 58)) w1.heap.size #[.int .i64 k.proto,.int .i64 k.src,.int .i64 k.sport,.int .i64 k.dst,.int .i64 k.dport,.int .i64 k.ttl,.int .i64 k.id,.int .i64 k.flags,.int .i64 k.seq,.int .i64 k.ack,.int .i64 k.win,.string k.body]:=heap_alloc_new w1 _;have c1:=T1.cell;obtain⟨C,cap,hconv,hc1,hc2,hc3⟩:=qjw s (w1.alloc (.cells #[.int .i64 k.proto,.int .i64 k.src,.int .i64 k.sport,.int .i64 k.dst,.int .i64 k.dport,.int .i64 k.ttl,.int .i64 k.id,.int .i64 k.flags,.int .i64 k.seq,.int .i64 k.ack,.int .i64 k.win,.string k.body] 58));have h:=qrr (w1.alloc (.cells #[.int .i64 k.proto,.int .i64 k.src,.int .i64 k.sport,.int .i64 k.dst,.int .i64 k.dport,.int .i64 k.ttl,.int .i64 k.id,.int .i64 k.flags,.int .i64 k.seq,.int .i64 k.ack,.int .i64 k.win,.string k.body] 58)) s C cap (w1.heap.size+1+1) (w1.heap.size+1) zm zm hc1 (hc2 (by unfold maxLen;omega)) hc3;have hI:Inv w1.heap.size (w1.heap.size+1+1) (some (w1.heap.size+1)) ((((w1.alloc (.cells #[.int .i64 k.proto,.int .i64 k.src,.int .i64 k.sport,.int .i64 k.dst,.int .i64 k.dport,.int .i64 k.ttl,.int .i64 k.id,.int .i64 k.flags,.int .i64 k.seq,.int .i64 k.ack,.int .i64 k.win,.string k.body] 58)).alloc (.cells C 5 (C.size,C.size+1))).alloc (.cells #[.slice (some ⟨w1.heap.size+1,0,none⟩) s.size cap] 169)).drew) #[.int .i64 k.proto,.int .i64 k.src,.int .i64 k.sport,.int .i64 k.dst,.int .i64 k.dport,.int .i64 k.ttl,.int .i64 k.id,.int .i64 k.flags,.int .i64 k.seq,.int .i64 k.ack,.int .i64 k.win,.string k.body]:=⟨by simp;omega,by omega,by simp,fun o=>qn0 w1 _ _ _ _ o⟩;have hS:=Step.refl (w1.heap.size+1+1) (some (w1.heap.size+1)) ((((w1.alloc (.cells #[.int .i64 k.proto,.int .i64 k.src,.int .i64 k.sport,.int .i64 k.dst,.int .i64 k.dport,.int .i64 k.ttl,.int .i64 k.id,.int .i64 k.flags,.int .i64 k.seq,.int .i64 k.ack,.int .i64 k.win,.string k.body] 58)).alloc (.cells C 5 (C.size,C.size+1))).alloc (.cells #[.slice (some ⟨w1.heap.size+1,0,none⟩) s.size cap] 169)).drew);clear hc1 hc2 hc3;have hbx:=hI.cell)|(go_at_call 119;refine(qd1 _ _).mono ?_;rintro e w' ⟨rfl,rfl⟩)|(go_at_call 120;refine(qcz _ _).mono ?_;rintro e w' ⟨rfl,rfl⟩)|(go_at_call 141;go_fit (qpk _ _ _ _ h om);rintro e w' ⟨rfl,h,hst⟩;replace hI:=hI.step hst;replace hS:=hS.trans hst;clear hst;have hbx:=hI.cell)|(go_at_call 142;(go_fit (ql4 _ _ _ _ h k.proto _ _ _ om ha'.1 ha'.2 (by simp;omega) (by simp;omega));rintro e w' ⟨rfl,h,hst⟩;replace hI:=hI.step hst;replace hS:=hS.trans hst;clear hst;have hbx:=hI.cell))|(go_at_call 143;go_fit (qky _ _ _ _ h k.proto (by simp;omega) (by simp;omega));rintro e w' ⟨rfl,h,hst⟩;replace hS:=hS.trans hst;clear hst)|(go_at_call 118;go_fit (qfw _ _ _ _ h);rintro e w' ⟨rfl,rfl⟩))
 go_ret2
 exact⟨rfl,qk2 hb1 hS⟩):p:=h
theorem sZxi34{p:Prop}(h:p:=by
 clear h3
 go_enter func105,ntmps105
 exact sZxi31):p:=h
theorem q8d(s:ByteArray)(side addr port:Int)(w:World)(hs:s.size<=140737488351232)(k:Pkt)(hk:qb9 s.data.toList=k)(hb:bad s.data.toList=0)(hsd:side=0\/side=1)(ha:qeb addr=true)(hp:qc7 port=true)(h1:k.ttl≠1)(h2:k.proto=1->(k.flags==8)=(side==0))(hl:28<=s.size)(hsm:s.size<=65535)(hq:qbd k.proto+1<s.size):
  Calls prog 105 #[.string s,.int .i64 side,.int .i64 addr,.int .i64 port] w fun e w'=>e=.returned (.tuple #[.string (txt (spun s.data.toList k.proto side addr port)),.int .i64 0])/\Below w.heap.size w w':=by
 have ha':0<=addr/\addr<=4294967295:=by unfold qeb at ha;simpa using ha
 have hll:=qb6 s
 have h1':(k.ttl==1)=false:=by simpa using h1
 clear h1
 by_cases hpr:k.proto=1
 ·have hpr':(k.proto==1)=true:=by simpa using hpr
  have h3:=h2 hpr
  clear h2 hpr
  rcases hsd with rfl|rfl
  ·have h4:(k.flags==8)=true:=by simpa using h3
   exact sZxi34
  ·have h4:(k.flags==8)=false:=by simpa using h3
   exact sZxi34
 ·have hpr':(k.proto==1)=false:=by simpa using hpr
  clear h2 hpr
  rcases hsd with rfl|rfl
  ·go_enter func105,ntmps105
   exact sZxi31
  ·go_enter func105,ntmps105
   exact sZxi31
end Go.Proofs.YtnicenfgemkdnaaGreatDoor
namespace Go.Proofs.YtnicenfgemkdnaaGreatDoor
open _root_.Go.Proofs.Tryz
set_option maxHeartbeats 16000000
set_option maxRecDepth 100000
open Go.RowKit
theorem sZxi33{p:Prop}(h:p:=by
 simp only[List.cons_append,List.nil_append,tot,qc1]
 omega):p:=h
theorem qw2(p:Pkt)(c:Int)(h0:0<=c)(h1:c<=65535):tot (hd p (flen p) c)=tot (hd p (flen p) 0)+c:=by
 unfold hd w16 l32 w16
 exact sZxi33
theorem q9u(p:Pkt)(n c:Int):0<tot (hd p n c):=by
 have h1:=qgj ((hd p n c).drop 2)
 have e:hd p n c=[69,0]++(hd p n c).drop 2:=rfl
 rw[e,qa8 _ _ (by rfl)]
 have:tot [69,0]=17664:=by decide
 omega
theorem qr6(p:Pkt):0<=chkH p/\chkH p<=65534:=by
 unfold chkH
 have:=qhn (tot (hd p (flen p) 0));have:=q3x (tot (hd p (flen p) 0)) (by have:=q9u p (flen p) 0;omega);omega
theorem q3z(p:Pkt):bk (tot (hd p (flen p) (chkH p)))=65535:=by
 have hb:=qr6 p
 rw[qw2 p _ hb.1 om]
 exact qpg _ (qgj _)
theorem qr4(p:Pkt)(c:Int):(pt p c).length%2=0:=by
 unfold pt;split<;>(try split)<;>simp[w16,l32]
theorem qsl(a b c n:Int):(ps a b c n).length%2=0:=by
 unfold ps;split<;>simp
theorem q9r(p:Pkt)(c:Int)(h0:0<=c)(h1:c<=65535):tot (pt p c)=tot (pt p 0)+c:=by
 unfold pt
 split
 ·unfold w16
  exact sZxi33
 ·split
  ·unfold w16
   exact sZxi33
  ·unfold l32 w16
   exact sZxi33
def allP(p:Pkt)(c:Int):Int:=tot (ps p.src p.dst p.proto (qb4 p.proto+p.body.size)++(pt p c++p.body.data.toList))
theorem qxw(p:Pkt)(c:Int)(h0:0<=c)(h1:c<=65535):allP p c=allP p 0+c:=by
 unfold allP
 rw[qa8 _ _ (qsl _ _ _ _),qa8 _ _ (qsl _ _ _ _),qa8 _ _ (qr4 _ _),qa8 _ _ (qr4 _ _),q9r p c h0 h1]
 omega
theorem qsa(p:Pkt):0<=chkP p/\chkP p<=65535:=by
 have:=qhn (allP p 0)
 have e:qnl p=65535-bk (allP p 0):=rfl
 unfold chkP;split<;>omega
theorem q74(x:Int)(h:0<x)(hx:bk x=65535):bk (x+65535)=65535:=by
 rw[←hx]
 refine q7i _ _ ?_ ?_<;>omega
theorem q2z(p:Pkt):bk (allP p (chkP p))=65535:=by
 have hb:=qsa p
 rw[qxw p _ hb.1 hb.2]
 have e:qnl p=65535-bk (allP p 0):=rfl
 have hn:0<=allP p 0:=qgj _
 unfold chkP
 split
 ·rename_i h
  have h2:bk (allP p 0)=65535:=by omega
  have hz:=qo6 (allP p 0)
  exact q74 _ om h2
 ·rw[e];exact qpg _ hn
theorem q7m(p:Pkt)(h:p.proto=17):chkP p≠0:=by
 unfold chkP
 split
 ·omega
 ·rename_i h';intro e;exact h' ⟨h,e⟩
theorem qw6(l:List UInt8)(h:qls l):qcw l=0:=by
 unfold qcw
 have h1:=h.len
 rw[if_neg om,if_neg (by have:=h.mark;omega),if_neg (by have:=h.size;omega),if_neg (by have:=h.sum;omega),if_neg (by have:=h.serv;omega),if_neg (by have:=h.piece;omega),if_neg h.ttl,if_neg (by rw[h.kind];simp)]
theorem qxc(l:List UInt8)(proto:Int)(h:qom l proto):qcx l proto=0:=by
 unfold qcx
 have:=h.len;have:=h.sum;have:=h.udpSum;have:=h.ping;have:=h.ping';have:=h.tcp1;have:=h.tcp2;have:=h.tcp3;have:=h.udp
 rw[if_neg om,if_neg om,if_neg om,if_neg om,if_neg om,if_neg om,if_neg om,if_neg om,if_neg om]
theorem qf4(x:Int)(h0:0<=x)(h1:x<=65535):((b8 (x/256)).toNat:Int)*256+((b8 x).toNat:Int)=x:=by rw[qc1,qc1];omega
theorem qsi(x:Int)(h0:0<=x)(h1:x<=4294967295):(((b8 (x/65536/256)).toNat:Int)*256+((b8 (x/65536)).toNat:Int))*65536+(((b8 (x/256)).toNat:Int)*256+((b8 x).toNat:Int))=x:=by
 rw[qc1,qc1,qc1,qc1];omega
theorem qj1(x:Int)(h0:0<=x)(h1:x<=255):((b8 x).toNat:Int)=x:=by rw[qc1];omega
section
variable (k:Pkt) (c1 c2:Int)
theorem fr_0:byt (fr k c1 c2) 0=69:=rfl
theorem fr_1:byt (fr k c1 c2) 1=0:=rfl
theorem fr_2:wAt (fr k c1 c2) 2=((b8 (flen k/256)).toNat:Int)*256+((b8 (flen k)).toNat:Int):=rfl
theorem fr_4:wAt (fr k c1 c2) 4=((b8 (k.id/256)).toNat:Int)*256+((b8 k.id).toNat:Int):=rfl
theorem fr_6:wAt (fr k c1 c2) 6=((b8 (0/256)).toNat:Int)*256+((b8 0).toNat:Int):=rfl
theorem fr_8:byt (fr k c1 c2) 8=((b8 k.ttl).toNat:Int):=rfl
theorem fr_9:byt (fr k c1 c2) 9=((b8 k.proto).toNat:Int):=rfl
theorem qaob:lAt (fr k c1 c2) 12=(((b8 (k.src/65536/256)).toNat:Int)*256+((b8 (k.src/65536)).toNat:Int))*65536+(((b8 (k.src/256)).toNat:Int)*256+((b8 k.src).toNat:Int)):=rfl
theorem qaxb:lAt (fr k c1 c2) 16=(((b8 (k.dst/65536/256)).toNat:Int)*256+((b8 (k.dst/65536)).toNat:Int))*65536+(((b8 (k.dst/256)).toNat:Int)*256+((b8 k.dst).toNat:Int)):=rfl
end
theorem qzl(k:Pkt)(hg:good k=0)(c2:Int):qls (fr k (chkH k) c2):=by
 obtain⟨hk,hr,hb,_⟩:=qde k hg
 have hr':=(qdu k).1 hr
 have hl:=qlm k (chkH k) c2 hk
 have hs:=qpl k hb
 refine⟨by omega,fr_0 _ _ _,?_,?_,fr_1 _ _ _,by rw[fr_6,qf4 0 om om],?_,?_⟩
 ·rw[fr_2,qf4 _ om om,hl]
 ·rw[q1r];exact q3z k
 ·rw[fr_8,qj1 _ om om];omega
 ·rw[fr_9,qj1]
  ·exact hk
  ·rcases(qei _).1 hk with h|h|h<;>omega
  ·rcases(qei _).1 hk with h|h|h<;>omega
theorem qp8(k:Pkt)(hk:qdc k.proto=true)(c1 c2:Int):byt (fr k c1 c2) 9=k.proto:=by
 rw[fr_9,qj1]
 ·rcases(qei _).1 hk with h|h|h<;>omega
 ·rcases(qei _).1 hk with h|h|h<;>omega
theorem q03(k:Pkt)(hg:good k=0):qom (frame k) k.proto:=by
 obtain⟨hk,hr,hb,hf⟩:=qde k hg
 have hr':=(qdu k).1 hr
 have hf':=(qjo k).1 hf
 have hl:=qlm k (chkH k) (chkP k) hk
 have hs:=qpl k hb
 have hc:=qsa k
 unfold frame
 have hsum:bk (tot (chkd (fr k (chkH k) (chkP k)) k.proto))=65535:=by rw[qx8 k _ _ hk];exact q2z k
 have hu:=q7m k
 generalize hc2:chkP k=c2 at *
 generalize chkH k=c1 at *
 obtain⟨proto,src,sport,dst,dport,ttl,id,flags,seq,ack,win,body⟩:=k
 simp only at *
 rcases(qei _).1 hk with rfl|rfl|rfl
 ·refine⟨by unfold flen at hl;simp only at hl;omega,hsum,by omega,fun _=>?_,fun _=>?_,by omega,by omega,by omega,by omega⟩
  rotate_left
  ·have e:byt (fr ⟨1,src,sport,dst,dport,ttl,id,flags,seq,ack,win,body⟩ c1 c2) 21=((0:UInt8).toNat:Int):=rfl
   rw[e];decide
  have e:byt (fr ⟨1,src,sport,dst,dport,ttl,id,flags,seq,ack,win,body⟩ c1 c2) 20=((b8 flags).toNat:Int):=rfl
  rw[e,qj1 _ om om];omega
 ·refine⟨by unfold flen at hl;simp only at hl;omega,hsum,by omega,by omega,by omega,fun _=>?_,fun _=>?_,fun _=>?_,by omega⟩
  ·have e:byt (fr ⟨6,src,sport,dst,dport,ttl,id,flags,seq,ack,win,body⟩ c1 c2) 32=((80:UInt8).toNat:Int):=rfl
   rw[e];decide
  rotate_left
  ·have e:wAt (fr ⟨6,src,sport,dst,dport,ttl,id,flags,seq,ack,win,body⟩ c1 c2) 38=((b8 (0/256)).toNat:Int)*256+((b8 0).toNat:Int):=rfl
   rw[e,qf4 0 om om]
  have e:byt (fr ⟨6,src,sport,dst,dport,ttl,id,flags,seq,ack,win,body⟩ c1 c2) 33=((b8 flags).toNat:Int):=rfl
  rw[e,qj1 _ om om];omega
 ·have e:wAt (fr ⟨17,src,sport,dst,dport,ttl,id,flags,seq,ack,win,body⟩ c1 c2) 26=((b8 (c2/256)).toNat:Int)*256+((b8 c2).toNat:Int):=rfl
  have e2:wAt (fr ⟨17,src,sport,dst,dport,ttl,id,flags,seq,ack,win,body⟩ c1 c2) 24=((b8 ((8+body.size)/256)).toNat:Int)*256+((b8 (8+body.size)).toNat:Int):=rfl
  refine⟨by unfold flen at hl;simp only at hl;omega,hsum,fun _=>?_,by omega,by omega,by omega,by omega,by omega,fun _=>?_⟩
  ·rw[e,qf4 _ om om];exact hu rfl
  ·rw[e2,qf4 _ om om,hl];unfold flen qb4;simp;omega
theorem ql1(k:Pkt)(hg:good k=0)(c1 c2:Int):qam (fr k c1 c2)=k:=by
 obtain⟨hk,hr,hb,hf⟩:=qde k hg
 have hr':=(qdu k).1 hr
 have hf':=(qjo k).1 hf
 have h9:=qp8 k hk c1 c2
 have e12:=qaob k c1 c2;have e16:=qaxb k c1 c2;have e8:=fr_8 k c1 c2;have e4:=fr_4 k c1 c2
 obtain⟨proto,src,sport,dst,dport,ttl,id,flags,seq,ack,win,body⟩:=k
 simp only at *
 rw[qsi _ om om] at e12 e16
 rw[qf4 _ om om] at e4
 rw[qj1 _ om om] at e8
 unfold qam
 rw[h9,e12,e16,e8,e4]
 rcases(qei _).1 hk with rfl|rfl|rfl
 ·have e20:byt (fr ⟨1,src,sport,dst,dport,ttl,id,flags,seq,ack,win,body⟩ c1 c2) 20=((b8 flags).toNat:Int):=rfl
  have e24:wAt (fr ⟨1,src,sport,dst,dport,ttl,id,flags,seq,ack,win,body⟩ c1 c2) 24=((b8 ((sport+dport)/256)).toNat:Int)*256+((b8 (sport+dport)).toNat:Int):=rfl
  have e26:wAt (fr ⟨1,src,sport,dst,dport,ttl,id,flags,seq,ack,win,body⟩ c1 c2) 26=((b8 (seq/256)).toNat:Int)*256+((b8 seq).toNat:Int):=rfl
  have eb:(fr ⟨1,src,sport,dst,dport,ttl,id,flags,seq,ack,win,body⟩ c1 c2).drop 28=body.data.toList:=rfl
  have hp:=hf'.1 rfl
  rw[if_pos rfl,e20,e24,e26,eb,qmw,qj1 flags om om,qf4 seq om om,qf4 (sport+dport) om om]
  obtain⟨h|h,_,_,ha,hw⟩:=hp
  ·rw[h.1,h.2,ha,hw];simp
  ·rw[h.1,h.2,ha,hw];simp
 ·have e20:wAt (fr ⟨6,src,sport,dst,dport,ttl,id,flags,seq,ack,win,body⟩ c1 c2) 20=((b8 (sport/256)).toNat:Int)*256+((b8 sport).toNat:Int):=rfl
  have e22:wAt (fr ⟨6,src,sport,dst,dport,ttl,id,flags,seq,ack,win,body⟩ c1 c2) 22=((b8 (dport/256)).toNat:Int)*256+((b8 dport).toNat:Int):=rfl
  have e33:byt (fr ⟨6,src,sport,dst,dport,ttl,id,flags,seq,ack,win,body⟩ c1 c2) 33=((b8 flags).toNat:Int):=rfl
  have e24:lAt (fr ⟨6,src,sport,dst,dport,ttl,id,flags,seq,ack,win,body⟩ c1 c2) 24=(((b8 (seq/65536/256)).toNat:Int)*256+((b8 (seq/65536)).toNat:Int))*65536+(((b8 (seq/256)).toNat:Int)*256+((b8 seq).toNat:Int)):=rfl
  have e28:lAt (fr ⟨6,src,sport,dst,dport,ttl,id,flags,seq,ack,win,body⟩ c1 c2) 28=(((b8 (ack/65536/256)).toNat:Int)*256+((b8 (ack/65536)).toNat:Int))*65536+(((b8 (ack/256)).toNat:Int)*256+((b8 ack).toNat:Int)):=rfl
  have e34:wAt (fr ⟨6,src,sport,dst,dport,ttl,id,flags,seq,ack,win,body⟩ c1 c2) 34=((b8 (win/256)).toNat:Int)*256+((b8 win).toNat:Int):=rfl
  have eb:(fr ⟨6,src,sport,dst,dport,ttl,id,flags,seq,ack,win,body⟩ c1 c2).drop 40=body.data.toList:=rfl
  rw[if_neg om,if_pos rfl,e20,e22,e33,e24,e28,e34,eb,qmw,qf4 sport om om,qf4 dport om om,qj1 flags om om,qsi seq om om,qsi ack om om,qf4 win om om]
 ·have e20:wAt (fr ⟨17,src,sport,dst,dport,ttl,id,flags,seq,ack,win,body⟩ c1 c2) 20=((b8 (sport/256)).toNat:Int)*256+((b8 sport).toNat:Int):=rfl
  have e22:wAt (fr ⟨17,src,sport,dst,dport,ttl,id,flags,seq,ack,win,body⟩ c1 c2) 22=((b8 (dport/256)).toNat:Int)*256+((b8 dport).toNat:Int):=rfl
  have eb:(fr ⟨17,src,sport,dst,dport,ttl,id,flags,seq,ack,win,body⟩ c1 c2).drop 28=body.data.toList:=rfl
  obtain⟨h1,h2,h3,h4⟩:=hf'.2 rfl
  rw[if_neg om,if_neg om,e20,e22,eb,qmw,qf4 sport om om,qf4 dport om om,h1,h2,h3,h4]
theorem qev(k:Pkt)(hg:good k=0):bad (frame k)=0/\qb9 (frame k)=k:=by
 have hk:=(qde k hg).1
 have h1:qcw (frame k)=0:=qw6 _ (qzl k hg _)
 have h9:byt (frame k) 9=k.proto:=qp8 k hk _ _
 have h2:qcx (frame k) (byt (frame k) 9)=0:=by rw[h9];exact qxc _ _ (q03 k hg)
 have hp:qam (frame k)=k:=ql1 k hg _ _
 have hb:bad (frame k)=0:=by unfold bad;rw[if_neg om,if_neg om,hp];exact hg
 exact⟨hb,by unfold qb9;rw[if_pos hb];exact hp⟩
end Go.Proofs.YtnicenfgemkdnaaGreatDoor
