/-
  Of what a law stands on.
-/
import Derived.Deep.QuietTactic
import Derived.BigQuiet
import Derived.Test.YtonnjgmognbnbaaGreatDoorZtb1
set_option linter.unusedSimpArgs false
set_option linter.unusedVariables false
namespace Go.Proofs.YtonnjgmognbnbaaGreatDoor
open Go.Value renaming int → I,pointer → V
open Go.IntKind renaming i64 → Z
open _root_.Go.Proofs.Tryz
set_option maxHeartbeats 16000000
set_option maxRecDepth 100000
variable {b base g k p q:Nat}{G G':Option Nat}{a w w' w1:World}{l:List UInt8}{v:Value}{t:TypeId}{o:Obj}{cs:Array Value}
structure Pkt where
 proto:Int
 src:Int
 sport:Int
 dst:Int
 dport:Int
 ttl:Int
 id:Int
 flags:Int
 seq:Int
 ack:Int
 win:Int
 body:ByteArray
def pv(p:Pkt):Value:=.agg #[I Z p.proto,I Z p.src,I Z p.sport,I Z p.dst,I Z p.dport,I Z p.ttl,I Z p.id,I Z p.flags,I Z p.seq,I Z p.ack,I Z p.win,.string p.body]
def Pkt.wf(p:Pkt):Prop:=(Lit.int .i64 p.proto).wf=true/\(Lit.int .i64 p.src).wf=true/\(Lit.int .i64 p.sport).wf=true/\(Lit.int .i64 p.dst).wf=true/\(Lit.int .i64 p.dport).wf=true/\(Lit.int .i64 p.ttl).wf=true/\(Lit.int .i64 p.id).wf=true/\(Lit.int .i64 p.flags).wf=true/\(Lit.int .i64 p.seq).wf=true/\(Lit.int .i64 p.ack).wf=true/\(Lit.int .i64 p.win).wf=true
def p0:Pkt:=⟨0,0,0,0,0,0,0,0,0,0,0,ByteArray.empty⟩
def qdc(n:Int):Bool:=n==1||n==6||n==17
def qc7(n:Int):Bool:=decide (0<=n/\n<=65535)
def qeb(n:Int):Bool:=decide (0<=n/\n<=4294967295)
def qht(p:Pkt):Bool:=((qeb p.src&&qeb p.dst&&qeb p.seq&&qeb p.ack)&&(qc7 p.sport&&qc7 p.dport&&qc7 p.id&&qc7 p.win))&&decide (1<=p.ttl)&&decide (p.ttl<=255)&&decide (0<=p.flags)&&decide (p.flags<=63)
theorem qdu(p:Pkt):qht p=true↔(0<=p.src/\p.src<=4294967295/\0<=p.dst/\p.dst<=4294967295/\0<=p.seq/\p.seq<=4294967295/\0<=p.ack/\p.ack<=4294967295/\
  0<=p.sport/\p.sport<=65535/\0<=p.dport/\p.dport<=65535/\0<=p.id/\p.id<=65535/\0<=p.win/\p.win<=65535/\1<=p.ttl/\p.ttl<=255/\0<=p.flags/\p.flags<=63):=by
 unfold qht qeb qc7
 simp only[Bool.and_eq_true,decide_eq_true_eq,and_assoc]
def qiz(p:Pkt):Bool:=if p.proto=1 then((p.flags==8&&p.dport==0)||(p.flags==0&&p.sport==0))&&qc7 p.seq&&p.ack==0&&p.win==0 else if p.proto=17 then p.flags==0&&p.seq==0&&p.ack==0&&p.win==0 else true
theorem qjo(p:Pkt):qiz p=true↔((p.proto=1->((p.flags=8/\p.dport=0)\/(p.flags=0/\p.sport=0))/\0<=p.seq/\p.seq<=65535/\p.ack=0/\p.win=0)/\(p.proto=17->p.flags=0/\p.seq=0/\p.ack=0/\p.win=0)):=by
 unfold qiz qc7
 by_cases h:p.proto=1
 ·simp[h,and_assoc]
 ·by_cases h':p.proto=17
  ·simp[h',and_assoc]
  ·simp[h,h']
theorem qei(n:Int):qdc n=true↔n=1\/n=6\/n=17:=by unfold qdc;simp[or_assoc]
def good(p:Pkt):Int:=if qdc p.proto=false then 4 else if qht p=false then 2 else if 64<p.body.size then 5 else if qiz p=false then 1 else 0
def qb4(n:Int):Int:=if n=1\/n=17 then 8 else if n=6 then 20 else 0
def qbd(n:Int):Nat:=if n=1 then 22 else if n=17 then 26 else 36
def hd(p:Pkt)(len c:Int):List UInt8:=
 [69,0]++w16 len++w16 p.id++w16 0++[b8 p.ttl,b8 p.proto]++w16 c++l32 p.src++l32 p.dst
def pt(p:Pkt)(c:Int):List UInt8:=
 if p.proto=1 then [b8 p.flags,0]++w16 c++w16 (p.sport+p.dport)++w16 p.seq
 else if p.proto=17 then w16 p.sport++w16 p.dport++w16 (8+p.body.size)++w16 c
 else w16 p.sport++w16 p.dport++l32 p.seq++l32 p.ack++[80,b8 p.flags]++w16 p.win++w16 c++w16 0
def flen(p:Pkt):Int:=20+qb4 p.proto+p.body.size
def fr(p:Pkt)(c1 c2:Int):List UInt8:=hd p (flen p) c1++(pt p c2++p.body.data.toList)
def ps(src dst proto n:Int):List UInt8:=if proto=1 then [] else l32 src++l32 dst++w16 proto++w16 n
def chkH(p:Pkt):Int:=65535-bk (tot (hd p (flen p) 0))
def qnl(p:Pkt):Int:=65535-bk (tot (ps p.src p.dst p.proto (qb4 p.proto+p.body.size)++(pt p 0++p.body.data.toList)))
def chkP(p:Pkt):Int:=if p.proto=17/\qnl p=0 then 65535 else qnl p
def frame(p:Pkt):List UInt8:=fr p (chkH p) (chkP p)
theorem qth(n:Int):(qb4 n==0)=!qdc n:=by
 unfold qb4 qdc
 by_cases h1:n=1
 ·simp[h1]
 ·by_cases h2:n=17
  ·simp[h2]
  ·by_cases h3:n=6
   ·simp[h3]
   ·simp[h1,h2,h3]
@[simp] theorem qafb(p:Pkt)(len c:Int):(hd p len c).length=20:=rfl
theorem q28(p:Pkt)(c:Int)(h:qdc p.proto=true):((pt p c).length:Int)=qb4 p.proto:=by
 unfold qdc at h
 unfold pt qb4
 simp at h
 rcases h with(h|h)|h<;>simp[h,w16,l32]
theorem qlm(p:Pkt)(c1 c2:Int)(h:qdc p.proto=true):((fr p c1 c2).length:Int)=flen p:=by
 have:=q28 p c2 h
 unfold fr flen
 simp only[List.length_append,qafb]
 have:p.body.data.toList.length=p.body.size:=by simp
 omega
theorem qpl(p:Pkt)(h:p.body.size<=64):flen p<=104/\20<=flen p:=by
 unfold flen qb4;split<;>(try split)<;>omega
section
open Go.ChangeShapes Go.WideShapes Go.ChangeAt Go.RowKit
theorem q04(a:Int):0<=IntKind.u16.wrap a/\IntKind.u16.wrap a<=65535:=by rw[qfi];omega
def updI(c m n:Int):Int:=65535-bk (bk (65535-c%65536+(65535-m%65536))+n%65536)
theorem q3a(b:Nat)(hb:b<2^16):(2^16-1) ^^^ b=2^16-1-b:=by
 apply Nat.eq_of_testBit_eq
 intro i;(rw[Nat.testBit_xor,Nat.testBit_two_pow_sub_one,show 2^16-1-b=2^16-(b+1) by omega,Nat.testBit_two_pow_sub_succ hb])
 by_cases h:i<16
 ·simp[h]
 ·have:b.testBit i=false:=Nat.testBit_lt_two_pow (Nat.lt_of_lt_of_le hb (Nat.pow_le_pow_right om om))
  simp[h,this]
theorem qm3(x:Int)(h0:0<=x)(h1:x<=65535):bits .xor .u16 IntKind.u16.max x=65535-x:=by
 rw[show IntKind.u16.max=65535 from rfl,u16_xor _ _ om om om om]
 have:=q3a x.toNat om
 rw[show(65535:Int).toNat=2^16-1 by decide,this];omega
theorem qrl(x:Int)(h0:0<=x)(h1:x<=65535):0<=bits .xor .u16 IntKind.u16.max x/\bits .xor .u16 IntKind.u16.max x<=65535:=by
 rw[qm3 x h0 h1];omega
theorem q71(c m n:Int)(w:World):
  Calls prog 190 #[I Z c,I Z m,I Z n] w fun e w'=>e=.returned (I Z (updI c m n))/\w'=w:=by
 have hc:=q04 c;have hm:=q04 m;have hn:=q04 n;have hc':=qrl _ hc.1 hc.2;have hm':=qrl _ hm.1 hm.2
 have E:Hid (65535-bk (bk (bits .xor .u16 IntKind.u16.max (IntKind.u16.wrap c)+bits .xor .u16 IntKind.u16.max (IntKind.u16.wrap m))+IntKind.u16.wrap n)=updI c m n):=by
  show _=_
  rw[qm3 _ hc.1 hc.2,qm3 _ hm.1 hm.2,qfi,qfi,qfi];rfl
 have hsg:IntKind.u16.signed=false:=rfl;have hk:=qhn (bits .xor .u16 IntKind.u16.max (IntKind.u16.wrap c)+bits .xor .u16 IntKind.u16.max (IntKind.u16.wrap m));have hk2:=qhn (bk (bits .xor .u16 IntKind.u16.max (IntKind.u16.wrap c)+bits .xor .u16 IntKind.u16.max (IntKind.u16.wrap m))+IntKind.u16.wrap n);have N:Hid (bits .xor .u16 IntKind.u16.max (bk (bk (bits .xor .u16 IntKind.u16.max (IntKind.u16.wrap c)+bits .xor .u16 IntKind.u16.max (IntKind.u16.wrap m))+IntKind.u16.wrap n))=_):=qm3 _ hk2.1 hk2.2;have hk3:=qrl _ hk2.1 hk2.2
 go_enter func190,ntmps190
 go_wp2_with (go_at_call 83;refine(qlg _ _ _ om om om om).mono ?_;rintro e w' ⟨rfl,rfl⟩)
 go_ret
 exact⟨qdm (by rw[N.out];exact E.out),rfl⟩
theorem q2o(s:ByteArray)(w:World)(hs:s.size<=562949953421312):
  Calls prog 160 #[.string s] w fun e w'=>e=.returned (I Z (65535-bk (tot s.data.toList)))/\w'=w:=by
 have hk:=qhn (tot s.data.toList);have N:Hid (bits .xor .u16 IntKind.u16.max (bk (tot s.data.toList))=65535-bk (tot s.data.toList)):=qm3 _ hk.1 hk.2;have hb:=qrl _ hk.1 hk.2;have hsg:IntKind.u16.signed=false:=rfl
 go_enter func160,ntmps160
 go_wp2_with (go_at_call 48;refine(qqw _ _ hs).mono ?_;rintro e w' ⟨rfl,rfl⟩)
 go_ret
 exact⟨qdm N.out,rfl⟩
structure Step(p:Nat)(G G':Option Nat)(w w':World):Prop where
 os:w'.os=w.os
 tape:w'.tape=w.tape
 output:w'.output=w.output
 size:w.heap.size<=w'.heap.size
 block:∀k,k<w.heap.size->k≠p->some k≠G->w'.heap[k]?=w.heap[k]?
 lies:G'=G\/∃k,G'=some k/\w.heap.size<=k
theorem Step.refl(p:Nat)(G:Option Nat)(w:World):Step p G G w w:=⟨rfl,rfl,rfl,Nat.le_refl _,fun _ _ _ _=>rfl,.inl rfl⟩
theorem Step.trans{G'':Option Nat}{b c:World}(h:Step p G G' a b)(k:Step p G' G'' b c):Step p G G'' a c:=by
 refine⟨k.os.trans h.os,k.tape.trans h.tape,k.output.trans h.output,Nat.le_trans h.size k.size,fun i hi hp hG=>?_,?_⟩
 ·refine(k.block i (Nat.lt_of_lt_of_le hi h.size) hp ?_).trans (h.block i hi hp hG)
  rcases h.lies with e|⟨j,e,hj⟩
  ·rw[e];exact hG
  ·rw[e];intro x;have:=Option.some.inj x;omega
 ·rcases k.lies with e|⟨j,e,hj⟩
  ·rw[e];exact h.lies
  ·exact .inr ⟨j,e,Nat.le_trans h.size hj⟩
theorem Step.alloc{b:World}(h:Step p G G' a b)(o:Obj):Step p G G' a (b.alloc o):=
 ⟨h.os,h.tape,h.output,Nat.le_trans h.size zm,fun k hk hp hG=>(Below.heap_alloc b o k (Nat.lt_of_lt_of_le hk h.size)).trans (h.block k hk hp hG),h.lies⟩
theorem Step.drew{b:World}(h:Step p G G' a b):Step p G G' a b.drew:=⟨h.os,h.tape,h.output,h.size,h.block,h.lies⟩
theorem Step.below{B:Nat}{b:World}(h:Step p G G' a b)(hB:B<=a.heap.size)(hp:B<=p)(hG:∀k,G=some k->B<=k):Below B a b:=
 ⟨h.os,h.tape,h.output,h.size,fun k hk=>h.block k om om (fun e=>by have:=hG k e.symm;omega)⟩
theorem Step.ofBelow{b:World}(h:Below a.heap.size a b):Step p G G a b:=
 ⟨h.os,h.tape,h.output,h.size,fun k hk _ _=>h.block k hk,.inl rfl⟩
theorem Step.cell{b:World}(h:Step p G G' a b)(hq:q<a.heap.size)(hp:q≠p)(hG:some q≠G):∀o,b.cell? ⟨q,o,none⟩=a.cell? ⟨q,o,none⟩:=
 fun o=>World.cell?_of_block (w:=a) (a:=⟨q,o,none⟩) (h.block q hq hp hG)
def Fr(w:World)(p:Nat)(G:Option Nat)(l:List UInt8):Prop:=
 ∃v,w.heap[p]?=some (.cells #[v] 170 (0,0))/\v.ownBlock=G/\w.ownsRow (p+1) 5 1 v l.length (bc l)
theorem Fr.lt(h:Fr w p G l):p<w.heap.size:=by
 obtain⟨v,h1,_⟩:=h;exact(Array.getElem?_eq_some_iff.1 h1).1
theorem Fr.own(h:Fr w p G l):∀k,G=some k->p<k/\k<w.heap.size:=by
 obtain⟨v,h1,h2,h3⟩:=h;intro k hk
 have:=h3.lt k (h2.trans hk);omega
theorem Fr.ne_new(h:Fr w p G l):w.heap.size≠p/\some w.heap.size≠G:=by
 refine⟨by have:=h.lt;omega,fun e=>?_⟩
 have:=h.own _ e.symm;omega
theorem Fr.alloc(h:Fr w p G l)(o:Obj):Fr (w.alloc o) p G l:=by
 have hp:=h.lt;obtain⟨v,h1,h2,h3⟩:=h
 exact⟨v,(Below.heap_alloc w o p hp).trans h1,h2,h3.alloc o⟩
theorem Fr.below(h:Fr w p G l)(hb:Below w.heap.size w w'):Fr w' p G l:=by
 have hp:=h.lt;have ho:=h.own;obtain⟨v,h1,h2,h3⟩:=h
 refine⟨v,(hb.block p hp).trans h1,h2,h3.1,?_⟩
 rcases h3.2 with hn|⟨g,cap,cur,rfl,hbg,hg,r⟩
 ·exact .inl hn
 ·exact .inr ⟨g,cap,cur,rfl,hbg,(hb.block g (Array.getElem?_eq_some_iff.1 hg).1).trans hg,r⟩
theorem Fr.drew(h:Fr w p G l):Fr w.drew p G l:=h
theorem qog(h:Step p G G' w.drew w'):Step p G G' w w':=⟨h.os,h.tape,h.output,h.size,h.block,h.lies⟩
theorem qjf(h:w.heap[p]?=some (.cells #[v] t (0,0))):w.cell? ⟨p,0,none⟩=some v/\w.frozen? ⟨p,0,none⟩=false:=by
 constructor
 ·simp[World.cell?,h]
 ·simp[World.frozen?,h]
theorem qsw{e:TypeId}{size:Nat}{n:Nat}{xs:List Value}(h:w.ownsRow base e size v n xs):∃ao m c,v=.slice ao m c:=by
 rcases h.2 with⟨rfl,_⟩|⟨g,cap,cur,rfl,_⟩
 ·exact⟨_,_,_,rfl⟩
 ·exact⟨_,_,_,rfl⟩
theorem qs5{v':Value}{news:List UInt8}(h1:w.heap[p]?=some (.cells #[v] 170 (0,0)))(h3:w.ownsRow (p+1) 5 1 v l.length (bc l))(hown:w1.ownsRow (p+1) 5 1 v' (l.length+news.length) (bc l++bc news))(hgrow:w.grownBy w1 v.ownBlock)(hat:v'.ownBlock=v.ownBlock\/v'.ownBlock=some w.heap.size):
  (∃G',Fr (w1.setCell ⟨p,0,none⟩ v') p G' (l++news)/\Step p v.ownBlock G' w (w1.setCell ⟨p,0,none⟩ v')):=by
 have hp:p<w.heap.size:=(Array.getElem?_eq_some_iff.1 h1).1;(have hne:some p≠v.ownBlock:=fun e=>by have:=h3.lt p e.symm;omega);have hb1:w1.heap[p]?=some (.cells #[v] 170 (0,0)):=(hgrow.block p hp hne).trans h1
 refine⟨v'.ownBlock,⟨v',one_setCell hb1,rfl,?_⟩,hgrow.os,hgrow.tape,hgrow.output,Nat.le_trans hgrow.size zm,?_,?_⟩
 ·have:=ownsRow_setCell_below hown (a:=⟨p,0,none⟩) zm v'
  rw[qvx,List.length_append];exact this
 ·intro k hk hkp hkG;rw[Below.heap_setCell _ _ _ _ (by simpa using hkp)]
  exact hgrow.block k hk hkG
 ·rcases hat with e|e
  ·exact .inl e
  ·exact .inr ⟨_,e,Nat.le_refl _⟩
theorem qf5(p:Nat)(G:Option Nat)(l:List UInt8)(w:World)(h:Fr w p G l)(g0 c:Nat)(news:List UInt8)(hc:∀j u,(bc news)[j]?=some u->w.cell? ⟨g0,j,none⟩=some u)(hl:l.length+news.length<=1000000):
  Calls prog 157 #[V (some ⟨p,0,none⟩),.slice (some ⟨g0,0,none⟩) news.length c] w fun e w'=>e=.returned (.tuple #[])/\∃G',Fr w' p G' (l++news)/\Step p G G' w w':=by
 have hlt:=h.lt
 obtain⟨v,h1,rfl,h3⟩:=h
 obtain⟨hcell,hfz⟩:=qjf h1;obtain⟨i0,hi,hz0,hz1,hz2⟩:=info_parts qpj
 have hsrc:Src prog 1 168 (.slice (some ⟨g0,0,none⟩) news.length c) news.length (bc news) w:=
  Src.ofSlice w underlying168 ⟨g0,0,none⟩ news.length c (bc news) (by simp[bc]) (fun j u hu=>by rw[Addr.add_lit,Nat.zero_add];exact hc j u hu) (qu7 _)
 go_enter func157,ntmps157
 go_wp2_with (at_builtin;refine qfz _ rfl (.tmp 8) (.tmp 9) 168 168 rfl (p+1) 5 i0 (.int .u8 0) underlying168 hi hz0 hz1 hz2 rfl v l.length (bc l) rfl h3 _ news.length (bc news) rfl hsrc om om ?_)
 intro v' w1 hown hgrow hat;(have hne:some p≠v.ownBlock:=fun e=>by have:=h3.lt p e.symm;omega);obtain⟨hcell1,hfz1⟩:=qjf ((hgrow.block p hlt hne).trans h1)
 obtain⟨ao,vn,vc,rfl⟩:=qsw hown
 go_wp2
 go_end0
 exact⟨rfl,qs5 h1 h3 hown hgrow hat⟩
theorem qmm(p:Nat)(G:Option Nat)(l:List UInt8)(w:World)(h:Fr w p G l)(s:ByteArray)(hl:l.length+s.size<=1000000):
  Calls prog 117 #[V (some ⟨p,0,none⟩),.string s] w fun e w'=>e=.returned (.tuple #[])/\∃G',Fr w' p G' (l++s.data.toList)/\Step p G G' w w':=by
 have hlt:=h.lt
 obtain⟨v,h1,rfl,h3⟩:=h
 obtain⟨hcell,hfz⟩:=qjf h1;obtain⟨i0,hi,hz0,hz1,hz2⟩:=info_parts qpj
 have hsrc:Src prog 1 9 (.string s) s.data.toList.length (bc s.data.toList) w:=by
  have:=Src.ofString (P:=prog) w underlying9 s
  rw[q73] at this
  (have e:s.data.toList.length=s.size:=by simp)
  rw[e];exact this
 (have hl':l.length+s.data.toList.length<=1000000:=by simpa using hl)
 go_enter func117,ntmps117
 go_wp2_with (at_builtin;refine qfz _ rfl (.tmp 8) (.tmp 9) 168 9 rfl (p+1) 5 i0 (.int .u8 0) underlying168 hi hz0 hz1 hz2 rfl v l.length (bc l) rfl h3 _ s.data.toList.length (bc s.data.toList) rfl hsrc om om ?_)
 intro v' w1 hown hgrow hat;(have hne:some p≠v.ownBlock:=fun e=>by have:=h3.lt p e.symm;omega);obtain⟨hcell1,hfz1⟩:=qjf ((hgrow.block p hlt hne).trans h1)
 obtain⟨ao,vn,vc,rfl⟩:=qsw hown
 go_wp2
 go_end0
 exact⟨rfl,qs5 h1 h3 hown hgrow hat⟩
theorem qkg(w:World)(g:Nat)(hg:w.heap.size=g)(a b:UInt8)(x y:Int)(hx:x=(a.toNat:Int))(hy:y=(b.toNat:Int)):∀j u,(bc [a,b])[j]?=some u->(w.alloc (.cells #[.int .u8 x,.int .u8 y] 5)).cell? ⟨g,j,none⟩=some u:=by
 intro j u hu
 subst hx hy hg
 have e:=World.cell?_alloc_mark w #[.int .u8 (a.toNat:Int),.int .u8 (b.toNat:Int)] 5 (0,0) j;refine e.trans ?_
 match j,hu with
 | 0,hu=>simpa[bc] using hu
 | 1,hu=>simpa[bc] using hu
 | n+2,hu=>simp[bc] at hu
theorem qfj(h:Step p G G' (w.alloc o) w'):Step p G G' w w':=
 ((Step.refl p G w).alloc o).trans h
theorem qgo(p:Nat)(G:Option Nat)(l:List UInt8)(w:World)(h:Fr w p G l)(n:Int)(hl:l.length+2<=1000000):
  Calls prog 156 #[V (some ⟨p,0,none⟩),I Z n] w fun e w'=>e=.returned (.tuple #[])/\∃G',Fr w' p G' (l++w16 n)/\Step p G G' w w':=by
 (have hx:IntKind.u8.wrap (n/256)=((b8 (n/256)).toNat:Int):=by rw[qjb,qc1]);(have hy:IntKind.u8.wrap n=((b8 n).toNat:Int):=by rw[qjb,qc1]);have HC:=qkg w _ rfl (b8 (n/256)) (b8 n) _ _ hx hy;have HX:Hid (IntKind.u8.wrap (n/256)=((b8 (n/256)).toNat:Int)):=hx;clear hx hy
 go_enter func156,ntmps156
 go_wp2_with (go_at_call 157;refine(qf5 p G l _ (h.alloc _) w.heap.size 2 (w16 n) HC (by simp[w16];omega)).mono ?_;rintro e w' ⟨rfl,G',hf,hst⟩)
 go_end0
 exact⟨rfl,G',hf,qfj hst⟩
theorem qp9(p:Nat)(G:Option Nat)(l:List UInt8)(w:World)(h:Fr w p G l)(n:Int)(hl:l.length+4<=1000000):
  Calls prog 158 #[V (some ⟨p,0,none⟩),I Z n] w fun e w'=>e=.returned (.tuple #[])/\∃G',Fr w' p G' (l++l32 n)/\Step p G G' w w':=by
 have hS:=Step.refl p G w
 go_enter func158,ntmps158
 go_wp2_with (go_at_call 156;refine m83 ?_;rintro e w' ⟨rfl,G1,h,hst⟩;replace hS:=hS.trans hst;clear hst)
 go_end0
 exact⟨rfl,_,by rw[List.append_assoc] at h;exact h,hS⟩
theorem sZti12{p:Prop}(h:p:=by
 go_wp2
 go_ret
 exact⟨rfl,rfl⟩):p:=h
theorem sZti13{p:Prop}(h:p:=by
 go_enter func80,ntmps80
 exact sZti12):p:=h
theorem qbz(n:Int)(w:World):Calls prog 80 #[I Z n] w fun e w'=>e=.returned (I Z (qb4 n))/\w'=w:=by
 unfold qb4
 by_cases h1:n=1
 ·subst h1
  exact sZti13
 by_cases h2:n=17
 ·subst h2
  exact sZti13
 by_cases h3:n=6
 ·subst h3
  exact sZti13
 go_enter func80,ntmps80
 go_wp2
 go_ret
 exact⟨qdm zm,rfl⟩
theorem qdp(n:Int)(w:World):Calls prog 111 #[I Z n] w fun e w'=>e=.returned (I Z (qbd n))/\w'=w:=by
 unfold qbd
 by_cases h1:n=1
 ·subst h1
  go_enter func111,ntmps111
  exact sZti12
 by_cases h2:n=17
 ·subst h2
  go_enter func111,ntmps111
  exact sZti12
 go_enter func111,ntmps111
 go_wp2
 go_ret
 exact⟨qdm zm,rfl⟩
theorem qgz(w:World)(cs:Array Value)(t:TypeId):∀o,(w.alloc (.cells cs t)).cell? ⟨w.heap.size,o,none⟩=cs[o]?:=fun o=>World.cell?_alloc_mark w cs t (0,0) o
theorem q4j(w:World)(l:List UInt8)(cs:Array Value)(h:cs=(bc l).toArray):∀j u,(bc l)[j]?=some u->(w.alloc (.cells cs 5)).cell? ⟨w.heap.size,j,none⟩=some u:=by
 intro j u hu
 subst h
 rw[qgz];simpa using hu
structure Inv(b p:Nat)(G:Option Nat)(w:World)(cs:Array Value):Prop where
 lt:b<w.heap.size
 np:b≠p
 nG:some b≠G
 cell:∀o,w.cell? ⟨b,o,none⟩=cs[o]?
theorem Inv.step(h:Inv b p G w cs)(st:Step p G G' w w'):Inv b p G' w' cs:=by
 refine⟨Nat.lt_of_lt_of_le h.lt st.size,h.np,?_,fun o=>(st.cell h.lt h.np h.nG o).trans (h.cell o)⟩
 rcases st.lies with e|⟨k,e,hk⟩
 ·rw[e];exact h.nG
 ·rw[e];intro x;have:=Option.some.inj x;have:=h.lt;omega
theorem Inv.alloc(h:Inv b p G w cs)(o:Obj):Inv b p G (w.alloc o) cs:=
 h.step ((Step.refl p G w).alloc o)
theorem qx3(h:Fr w p G l)(cs:Array Value)(t:TypeId):Inv w.heap.size p G (w.alloc (.cells cs t)) cs:=
 ⟨by simp,h.ne_new.1,h.ne_new.2,qgz w cs t⟩
theorem qp1(p:Nat)(G:Option Nat)(l:List UInt8)(w:World)(h:Fr w p G l)(k:Pkt)(len:Int)(hl:l.length+20<=1000000):
  Calls prog 115 #[V (some ⟨p,0,none⟩),pv k,I Z len] w fun e w'=>e=.returned (.tuple #[])/\∃G',Fr w' p G' (l++hd k len 0)/\Step p G G' w w':=by
 unfold pv
 (have H1:Hid (IntKind.u8.wrap k.ttl=((b8 k.ttl).toNat:Int)):=by show _=_;rw[qjb,qc1]);(have H2:Hid (IntKind.u8.wrap k.proto=((b8 k.proto).toNat:Int)):=by show _=_;rw[qjb,qc1]);have hI:=qx3 h #[I Z k.proto,I Z k.src,I Z k.sport,I Z k.dst,I Z k.dport,I Z k.ttl,I Z k.id,I Z k.flags,I Z k.seq,I Z k.ack,I Z k.win,.string k.body] 61;have hS:=(Step.refl p G w).alloc (.cells #[I Z k.proto,I Z k.src,I Z k.sport,I Z k.dst,I Z k.dport,I Z k.ttl,I Z k.id,I Z k.flags,I Z k.seq,I Z k.ack,I Z k.win,.string k.body] 61);replace h:=h.alloc (.cells #[I Z k.proto,I Z k.src,I Z k.sport,I Z k.dst,I Z k.dport,I Z k.ttl,I Z k.id,I Z k.flags,I Z k.seq,I Z k.ack,I Z k.win,.string k.body] 61)
 go_enter func115,ntmps115
 go_wp2_with (first|(go_at_call 157;(refine(qf5 p _ _ _ (h.alloc _) _ 2 [69,0] (qkg _ _ zm 69 0 _ _ (by decide) (by decide)) (by(try simp)<;>omega)).mono ?_;rintro e w' ⟨rfl,G1,h,hst⟩;replace hst:=qfj hst;refine m25 ?_;clear hI hS hst;intro hI hS hbox))|(go_at_call 156;refine m83 ?_;rintro e w' ⟨rfl,G1,h,hst⟩;refine m25 ?_;clear hI hS hst;intro hI hS hbox)|(go_at_call 158;refine(qp9 p _ _ _ h _ (by(try simp)<;>omega)).mono ?_;rintro e w' ⟨rfl,G1,h,hst⟩;refine m25 ?_;clear hI hS hst;intro hI hS hbox)|(go_at_call 157;(refine(qf5 p _ _ _ (h.alloc _) _ 2 [b8 k.ttl,b8 k.proto] (qkg _ _ zm (b8 k.ttl) (b8 k.proto) _ _ H1.out H2.out) (by(try simp)<;>omega)).mono ?_;rintro e w' ⟨rfl,G1,h,hst⟩;replace hst:=qfj hst;refine m25 ?_;clear hI hS hst;intro hI hS hbox)))
 go_end0
 exact⟨rfl,_,by simp only[List.append_assoc] at h;simpa only[hd,List.append_assoc] using h,hS⟩
theorem qww(p:Nat)(G:Option Nat)(l:List UInt8)(w:World)(h:Fr w p G l)(k:Pkt)(hk:qdc k.proto=true)(hb:k.body.size<=64)(hr:qht k=true)(hl:l.length+20<=1000000):
  Calls prog 116 #[V (some ⟨p,0,none⟩),pv k] w fun e w'=>e=.returned (.tuple #[])/\∃G',Fr w' p G' (l++pt k 0)/\Step p G G' w w':=by
 obtain⟨proto,src,sport,dst,dport,ttl,id,flags,seq,ack,win,body⟩:=k;replace hr:=(qdu _).1 hr
 simp only at hk hb hr
 unfold pv
 simp only
 (have HW:Hid (IntKind.i64.wrap (qb4 17+(body.size:Int))=8+(body.size:Int)):=by show _=_;rw[show qb4 17=8 from rfl,wrap_i64 _ om om]);(have H1:Hid (flags=((b8 flags).toNat:Int)):=by show _=_;rw[qc1];omega);have hI:=qx3 h #[I Z proto,I Z src,I Z sport,I Z dst,I Z dport,I Z ttl,I Z id,I Z flags,I Z seq,I Z ack,I Z win,.string body] 61;have hS:=(Step.refl p G w).alloc (.cells #[I Z proto,I Z src,I Z sport,I Z dst,I Z dport,I Z ttl,I Z id,I Z flags,I Z seq,I Z ack,I Z win,.string body] 61);replace h:=h.alloc (.cells #[I Z proto,I Z src,I Z sport,I Z dst,I Z dport,I Z ttl,I Z id,I Z flags,I Z seq,I Z ack,I Z win,.string body] 61);(have hk':proto=1\/proto=17\/proto=6:=by unfold qdc at hk;simp at hk;omega);clear hk
 rcases hk' with rfl|rfl|rfl
 all_goals
  go_enter func116,ntmps116
  go_wp2_with (first|(go_at_call 80;refine m5s ?_;rintro e w' ⟨rfl,rfl⟩)|(go_at_call 156;refine m83 ?_;rintro e w' ⟨rfl,G1,h,hst⟩;refine m25 ?_;clear hI hS hst;intro hI hS hbox)|(go_at_call 158;refine(qp9 p _ _ _ h _ (by(try simp)<;>omega)).mono ?_;rintro e w' ⟨rfl,G1,h,hst⟩;refine m25 ?_;clear hI hS hst;intro hI hS hbox)|(go_at_call 157;(refine(qf5 p _ _ _ (h.alloc _) _ 2 [80,b8 flags] (qkg _ _ zm 80 (b8 flags) _ _ (by decide) H1.out) (by(try simp)<;>omega)).mono ?_;rintro e w' ⟨rfl,G1,h,hst⟩;replace hst:=qfj hst;refine m25 ?_;clear hI hS hst;intro hI hS hbox))|(go_at_call 157;(refine(qf5 p _ _ _ (h.alloc _) _ 2 [b8 flags,0] (qkg _ _ zm (b8 flags) 0 _ _ H1.out (by decide)) (by(try simp)<;>omega)).mono ?_;rintro e w' ⟨rfl,G1,h,hst⟩;replace hst:=qfj hst;refine m25 ?_;clear hI hS hst;intro hI hS hbox)))
  try
   go_region_held3 (fun w'=>w'.cell? ⟨w.heap.size,11,none⟩=some (.string body)) (first|go_keep|exact hI.cell 11)
    (first|(go_at_call 80;refine m5s ?_;rintro e w' ⟨rfl,rfl⟩)|(go_at_call 156;refine(qgo p _ _ _ h.drew _ (by(try simp)<;>omega)).mono ?_;rintro e w' ⟨rfl,G1,h,hst⟩;replace hst:=qog hst;refine m25 ?_;clear hI hS hst;intro hI hS hbox))
   go_wp2_with (go_at_call 156;refine m83 ?_;rintro e w' ⟨rfl,G1,h,hst⟩;refine m25 ?_;clear hI hS hst;intro hI hS hbox)
  go_end0
  try rw[HW.out] at h
  exact⟨rfl,_,by simp only[List.append_assoc] at h;simpa[pt,qb4,List.append_assoc] using h,hS⟩
def Rd(w:World)(p g:Nat)(l:List UInt8):Prop:=
 ∃cap cur mk,w.heap[p]?=some (.cells #[.slice (some ⟨g,0,none⟩) l.length cap] 170 (0,0))/\p≠g/\w.heap[g]?=some (.cells cur 5 mk)/\(mk=(0,0)\/cur.size<=mk.1)/\l.length<=cap/\cap<=maxLen/\cur.toList.take l.length=bc l
theorem Fr.rd(h:Fr w p G l)(hl:l≠[]):∃g,G=some g/\p<g/\Rd w p g l:=by
 obtain⟨v,h1,h2,h3,h4⟩:=h
 rcases h4 with⟨_,h0⟩|⟨g,cap,cur,rfl,hbg,hg,hnc,hcm,hcs,htake⟩
 ·exact absurd (List.eq_nil_of_length_eq_zero h0) hl
 ·exact⟨g,by rw[←h2];rfl,by omega,cap,cur,(0,0),h1,by omega,hg,.inl rfl,hnc,hcm,by simpa using htake⟩
theorem Rd.lt(h:Rd w p g l):p<w.heap.size/\g<w.heap.size/\p≠g:=by
 obtain⟨cap,cur,mk,h1,h2,h3,_⟩:=h
 exact⟨(Array.getElem?_eq_some_iff.1 h1).1,(Array.getElem?_eq_some_iff.1 h3).1,h2⟩
theorem Rd.small(h:Rd w p g l):l.length<=maxLen:=by
 obtain⟨cap,cur,mk,h1,h2,h3,h4,h5,h6,h7⟩:=h
 omega
theorem Rd.below(h:Rd w p g l)(hb:Below w.heap.size w w'):Rd w' p g l:=by
 have hlt:=h.lt;obtain⟨cap,cur,mk,h1,h2,h3,r⟩:=h
 exact⟨cap,cur,mk,(hb.block p hlt.1).trans h1,h2,(hb.block g hlt.2.1).trans h3,r⟩
theorem Rd.alloc(h:Rd w p g l)(o:Obj):Rd (w.alloc o) p g l:=
 h.below ((Below.refl _ _).alloc (Nat.le_refl _) _)
theorem Rd.at_(h:Rd w p g l)(k:Nat)(hk:k<l.length):w.cell? ⟨g,k,none⟩=some (.int .u8 (byt l k))/\w.frozen? ⟨g,k,none⟩=false:=by
 obtain⟨cap,cur,mk,h1,h2,h3,h4,h5,h6,h7⟩:=h
 have hs:l.length<=cur.size:=by
  have:=congrArg List.length h7
  rw[qacb,List.length_take] at this;simp at this;omega
 have e:cur[k]?=some (.int .u8 (byt l k)):=by
  unfold byt
  have:=congrArg (fun x:List Value=>x[k]?) h7
  simp only[List.getElem?_take,hk,if_true,qasb] at this
  simp only[Array.getElem?_toList] at this
  rw[this];simp[List.getD,hk]
 refine⟨by simp[World.cell?,h3,e],?_⟩
 rcases h4 with rfl|h4
 ·simp[World.frozen?,h3]
 ·obtain⟨lo,hi⟩:=mk
  simp at h4
  simp[World.frozen?,h3];omega
theorem Rd.facts(h:Rd w p g l):∃cap,w.cell? ⟨p,0,none⟩=some (.slice (some ⟨g,0,none⟩) l.length cap)/\w.frozen? ⟨p,0,none⟩=false/\l.length<=cap/\cap<=maxLen/\
  ∀m,m<=l.length->(convert 168 9 (.slice (some ⟨g,0,none⟩) m cap)).run prog w=.ok (.string (txt (l.take m))) w:=by
 have hat:=h.at_;obtain⟨cap,cur,mk,h1,h2,h3,h4,h5,h6,h7⟩:=h
 refine⟨cap,(qjf h1).1,(qjf h1).2,h5,h6,fun m hm=>?_⟩
 (have hl:(l.take m).length=m:=by rw[List.length_take];omega)
 have:=run_convert_bytes_back (P:=prog) w 168 9 5 ⟨g,0,none⟩ cap (l.take m) underlying168 underlying5 underlying9 (by
  intro j hj;(have hj':j<m:=by rw[hl] at hj;exact hj);have e:=(hat j om).1;rw[Addr.add_lit,Nat.zero_add,e]
  unfold byt
  simp[List.getD,show j<l.length by omega])
 rw[hl] at this
 exact this
theorem qpq{cur:Array Value}{mk:Nat×Nat}(h:w.heap[g]?=some (.cells cur t mk)):(w.setCell ⟨g,k,none⟩ v).heap[g]?=some (.cells (cur.setIfInBounds k v) t mk):=by
 rw[setCell_eq_setRow w g k cur t mk v h]
 exact setRow_heap w g cur _ t _ h
theorem Rd.set(h:Rd w p g l)(k:Nat)(c:UInt8)(x:Int)(hx:x=(c.toNat:Int)):Rd (w.setCell ⟨g,k,none⟩ (.int .u8 x)) p g (l.set k c):=by
 subst hx
 obtain⟨cap,cur,mk,h1,h2,h3,h4,h5,h6,h7⟩:=h
 refine⟨cap,_,mk,?_,h2,qpq h3,?_,by simpa using h5,h6,?_⟩
 ·rw[Below.heap_setCell _ _ _ _ (by simpa using h2),List.length_set];exact h1
 ·simpa using h4
 ·rw[List.length_set,Array.toList_setIfInBounds,List.take_set,h7]
  simp[bc,List.map_set]
theorem qv6:Step p (some g) (some g) w (w.setCell ⟨g,k,none⟩ v):=
 ⟨rfl,rfl,rfl,by simp[World.setCell],fun i _ _ hi=>Below.heap_setCell _ _ _ _ (fun e=>hi (by rw[e])),.inl rfl⟩
theorem qgs(p g:Nat)(l:List UInt8)(w:World)(h:Rd w p g l)(k:Nat)(n:Int)(hk:k+1<l.length):
  Calls prog 159 #[V (some ⟨p,0,none⟩),I Z k,I Z n] w fun e w'=>e=.returned (.tuple #[])/\Rd w' p g (setW l k n)/\Step p (some g) (some g) w w':=by
 (have HX:Hid (IntKind.u8.wrap (n/256)=((b8 (n/256)).toNat:Int)):=by show _=_;rw[qjb,qc1]);(have HY:Hid (IntKind.u8.wrap n=((b8 n).toNat:Int)):=by show _=_;rw[qjb,qc1]);have hne:=h.lt.2.2;(have hne':g≠p:=fun e=>hne e.symm);obtain⟨c1,f1⟩:=h.at_ k om;obtain⟨c2,f2⟩:=h.at_ (k+1) om
 obtain⟨cap,hp,_,hcap,hcm,_⟩:=h.facts
 unfold maxLen at hcm
 go_enter func159,ntmps159
 go_wp2
 go_end0
 exact⟨rfl,(h.set k _ _ HX.out).set (k+1) _ _ HY.out,qv6.trans qv6⟩
theorem qfw(p g:Nat)(l:List UInt8)(w:World)(h:Rd w p g l):
  Calls prog 120 #[V (some ⟨p,0,none⟩)] w fun e w'=>e=.returned (.string (txt l))/\w'=w:=by
 obtain⟨cap,hp,_,hcap,hcm,hcv⟩:=h.facts
 have hcv':=hcv l.length (Nat.le_refl _)
 rw[List.take_length] at hcv'
 clear hcv
 go_enter func120,ntmps120
 go_wp2
 go_ret
 exact⟨rfl,rfl⟩
theorem q0n(p g n:Nat)(w:World):Step p (some g) (some g) w (w.drewN n):=by
 refine⟨?_,?_,?_,?_,?_,.inl rfl⟩<;>first|rfl|simp
theorem Rd.drewN(h:Rd w p g l)(n:Nat):Rd (w.drewN n) p g l:=by
 unfold Rd at *
 simpa using h
theorem qli(p g:Nat)(l:List UInt8)(w:World)(h:Rd w p g l)(k:Nat)(hk:k+1<l.length):
  Calls prog 168 #[V (some ⟨p,0,none⟩),I Z k] w fun e w'=>e=.returned (I Z (wAt l k))/\Rd w' p g l/\Step p (some g) (some g) w w':=by
 obtain⟨c1,f1⟩:=h.at_ k om;obtain⟨c2,f2⟩:=h.at_ (k+1) om
 obtain⟨cap,hp,_,hcap,hcm,_⟩:=h.facts
 unfold maxLen at hcm
 obtain⟨b1,b2⟩:=qf3 l k;obtain⟨b3,b4⟩:=qf3 l (k+1);have J:Hid (bits .or .i64 (byt l k*256) (byt l (k+1))=wAt l k):=q7e _ _ b1 b2 b3 b4;(have i1:(k:Int)<(l.length:Int):=by omega);(have i2:(k:Int)+1<(l.length:Int):=by omega)
 go_enter func168,ntmps168
 go_wp2
 go_quiet (fail)
 go_wp2
 go_ret
 exact⟨qdm J.out,h.drewN nq,q0n p g nq w⟩
theorem qx4{a b:ByteArray}(h:a=b):Ending.returned (.string a)=.returned (.string b):=by rw[h]
theorem qh7(s:ByteArray)(a b:Nat):(s.extract a b).data.toList=(s.data.toList.drop a).take (b-a):=by
 rw[ByteArray.data_extract,Array.toList_extract]
theorem qxy(s:ByteArray)(a b:Nat):s.extract a b=txt ((s.data.toList.drop a).take (b-a)):=by
 rw[←qh7,qmw]
theorem qg5(s:ByteArray)(a:Nat):(s.extract a s.size).data.toList=s.data.toList.drop a:=by
 rw[qh7,List.take_of_length_le];rw[List.length_drop]
 have:s.data.toList.length=s.size:=by simp
 omega
theorem qef(s:ByteArray)(a b:Nat)(h:b<=s.size):(s.extract a b).size=b-a:=by
 simp[ByteArray.size_extract];omega
def chkd(l:List UInt8)(proto:Int):List UInt8:=
 if proto=1 then l.drop 20 else(l.drop 12).take 8++(w16 proto++(w16 ((l.length:Int)-20)++l.drop 20))
theorem qv0(l:List UInt8)(proto:Int):(chkd l proto).length<=l.length+12:=by
 unfold chkd;split<;>simp<;>omega
theorem qwg(w:World):Fr (w.alloc (.cells #[.slice none 0 0] 170)) w.heap.size none []:=
 ⟨_,heap_alloc_new w _,rfl,World.ownsRow_nil _ _ _ _⟩
theorem qoc(h:Step w.heap.size none G' (w.alloc o) w'):Below w.heap.size w w':=
 ((Below.refl _ _).alloc (Nat.le_refl _) o).trans (h.below zm (Nat.le_refl _) (fun k e=>by cases e))
theorem qgq(s:ByteArray)(proto:Int)(w:World)(h0:20<=s.size)(h1:s.size<=500000):
  Calls prog 110 #[.string s,I Z proto] w fun e w'=>e=.returned (.string (txt (chkd s.data.toList proto)))/\Below w.heap.size w w':=by
 by_cases hp:proto=1
 ·subst hp
  go_enter func110,ntmps110
  go_wp2
  go_ret
  exact⟨qx4 (by rw[←qmw (s.extract 20 s.size),qg5];rfl),Below.refl _ _⟩
 ·have h:=qwg w;have hS:=(Step.refl w.heap.size none (w.alloc (.cells #[.slice none 0 0] 170)));have z1:(s.extract 12 20).size=8:=qef s 12 20 h0;refine m1s ?_;intro z2 z3
  have E:Hid (chkd s.data.toList proto=(s.extract 12 20).data.toList++w16 proto++w16 ((s.size:Int)-20)++(s.extract 20 s.size).data.toList):=by
   show _=_
   (have e:s.data.toList.length=s.size:=by simp)
   rw[qg5,qh7,chkd,if_neg hp,e];simp
  go_enter func110,ntmps110
  go_wp2_with (first|(go_at_call 117;refine(qmm _ _ _ _ h _ (by simp[z1,z2]<;>omega)).mono ?_;rintro e w' ⟨rfl,G1,h,hst⟩;replace hS:=hS.trans hst;clear hst)|(go_at_call 156;refine(qgo _ _ _ _ h _ (by(try simp)<;>omega)).mono ?_;rintro e w' ⟨rfl,G1,h,hst⟩;replace hS:=hS.trans hst;clear hst)|(go_at_call 120;obtain⟨g,hG,hpg,hrd⟩:=h.rd (by intro e;have:=congrArg List.length e;simp at this);refine(qfw _ g _ _ hrd).mono ?_;rintro e w' ⟨rfl,rfl⟩))
  go_ret
  exact⟨qx4 (by rw[E.out];simp),qoc hS⟩
theorem qq9(l:List UInt8)(w:World)(hs:l.length<=562949953421312):
  Calls prog 160 #[.string (txt l)] w fun e w'=>e=.returned (I Z (65535-bk (tot l)))/\w'=w:=by
 have:=q2o (txt l) w (by rw[qck];exact hs)
 rw[qds] at this
 exact this
theorem q77(l:List UInt8)(w:World)(hs:l.length<=562949953421312):
  Calls prog 48 #[.string (txt l)] w fun e w'=>e=.returned (I Z (bk (tot l)))/\w'=w:=by
 have:=qqw (txt l) w (by rw[qck];exact hs)
 rw[qds] at this
 exact this
def ckH(l:List UInt8):Int:=65535-bk (tot (l.take 20))
def q0r(l:List UInt8):List UInt8:=setW (setW l 10 0) 10 (ckH (setW l 10 0))
theorem qob(p g:Nat)(l:List UInt8)(w:World)(h:Rd w p g l)(hl:20<=l.length):
  Calls prog 118 #[V (some ⟨p,0,none⟩)] w fun e w'=>e=.returned (.tuple #[])/\Rd w' p g (q0r l)/\Step p (some g) (some g) w w':=by
 have hS:=Step.refl p (some g) w
 go_enter func118,ntmps118
 go_wp2_with (first|(go_at_call 159;refine(qgs p g _ _ h 10 _ (by(try simp)<;>omega)).mono ?_;refine m91 ?_;clear hS;intro w' h hS;obtain⟨cap,hpc,_,hcap,hcm,hcv⟩:=h.facts;have hcv20:=hcv 20 (by(try simp)<;>omega);clear hcv;unfold maxLen at hcm;simp only[q6p] at hcap)|(go_at_call 160;refine(qq9 _ _ (by(try simp)<;>omega)).mono ?_;rintro e w' ⟨rfl,rfl⟩))
 go_end0
 exact⟨rfl,h,hS⟩
def ckP(l:List UInt8)(proto:Int):Int:=65535-bk (tot (chkd l proto))
def ckQ(c proto:Int):Int:=if proto=17/\c=0 then 65535 else c
def qgf(l:List UInt8)(proto:Int):List UInt8:=setW (setW l (qbd proto) 0) (qbd proto) (ckQ (ckP (setW l (qbd proto) 0) proto) proto)
theorem sZti11{p:Prop}(h:p:=by
 go_enter func119,ntmps119
 go_wp2_with (first|(go_at_call 111;refine(qdp _ _).mono ?_;rintro e w' ⟨rfl,rfl⟩)|(go_at_call 159;refine(qgs p g _ _ h (qbd proto) _ (by(try simp)<;>omega)).mono ?_;refine m91 ?_;intro w' h hS)|(go_at_call 120;refine(qfw p g _ _ h).mono ?_;rintro e w' ⟨rfl,rfl⟩)|(go_at_call 110;refine(qgq _ _ _ (by rw[qck];(try simp)<;>omega) (by rw[qck];(try simp)<;>omega)).mono ?_;rintro e w' ⟨rfl,hb⟩;rw[qds];replace h:=h.below hb;replace hS:=hS.trans (Step.ofBelow hb);clear hb)|(go_at_call 160;refine(hck _ _ (by(try simp)<;>omega)).mono ?_;rintro e w' ⟨rfl,rfl⟩))
 go_end0
 exact⟨rfl,by unfold qgf;rw[Q.out];exact h,hS⟩):p:=h
theorem sZti16{p:Prop}(h:p:=by
 (have hu':(proto==17)=true:=by simpa using hu);clear hc hu
 exact sZti11):p:=h
theorem qlk(p g:Nat)(l:List UInt8)(w:World)(h:Rd w p g l)(proto:Int)(hl:qbd proto+1<l.length)(hm:l.length<=400000):
  Calls prog 119 #[V (some ⟨p,0,none⟩),I Z proto] w fun e w'=>e=.returned (.tuple #[])/\Rd w' p g (qgf l proto)/\Step p (some g) (some g) w w':=by
 have hS:=Step.refl p (some g) w;(have h20:20<=qbd proto:=by unfold qbd;split<;>(try split)<;>omega)
 have hck:∀(l:List UInt8) (w:World),l.length<=500000->Calls prog 160 #[.string (txt (chkd l proto))] w fun e w'=>e=.returned (I Z (ckP l proto))/\w'=w:=by
  intro l w h'
  have:=qv0 l proto
  exact qq9 (chkd l proto) w om
 by_cases hu:proto=17
 ·by_cases hc:ckP (setW l (qbd proto) 0) proto=0
  ·(have Q:Hid (ckQ (ckP (setW l (qbd proto) 0) proto) proto=65535):=by show _=_;unfold ckQ;rw[if_pos ⟨hu,hc⟩]);(have hc':(ckP (setW l (qbd proto) 0) proto==0)=true:=by simpa using hc)
   exact sZti16
  ·(have Q:Hid (ckQ (ckP (setW l (qbd proto) 0) proto) proto=ckP (setW l (qbd proto) 0) proto):=by show _=_;unfold ckQ;rw[if_neg (fun e=>hc e.2)]);(have hc':(ckP (setW l (qbd proto) 0) proto==0)=false:=by simpa using hc)
   exact sZti16
 ·(have Q:Hid (ckQ (ckP (setW l (qbd proto) 0) proto) proto=ckP (setW l (qbd proto) 0) proto):=by show _=_;unfold ckQ;rw[if_neg (fun e=>hu e.1)]);(have hu':(proto==17)=false:=by simpa using hu);clear hu
  exact sZti11
def chk1(pos:Nat)(n:Int)(l:List UInt8)(c:Nat):List UInt8:=setW l c (updI (wAt l c) (wAt l pos) n)
def chks(pos:Nat)(n:Int)(l:List UInt8)(cs:List Nat):List UInt8:=cs.foldl (chk1 pos n) l
@[simp] theorem qa2b(pos:Nat)(n:Int)(l:List UInt8)(c:Nat):(chk1 pos n l c).length=l.length:=by simp[chk1]
@[simp] theorem qa0b(pos:Nat)(n:Int)(l:List UInt8)(cs:List Nat):(chks pos n l cs).length=l.length:=by
 unfold chks
 induction cs generalizing l with
 | nil=>rfl
 | cons c r ih=>simp[List.foldl_cons,ih]
theorem q2v(pos:Nat)(n:Int)(l:List UInt8)(cs:List Nat)(k:Nat)(h:k<cs.length):chks pos n l (cs.take (k+1))=chk1 pos n (chks pos n l (cs.take k)) cs[k]:=by
 unfold chks
 rw[List.take_succ_eq_append_getElem h,List.foldl_append];rfl
theorem qdr(p g:Nat)(l:List UInt8)(w:World)(h:Rd w p g l)(pos:Nat)(n:Int)(cs:List Nat)(sb cap:Nat)(hsb:sb<w.heap.size)(hsp:sb≠p)(hsg:sb≠g)(hcell:∀j (hj:j<cs.length),w.cell? ⟨sb,j,none⟩=some (I Z ((cs[j]:Nat):Int)))(hpos:pos+1<l.length)(hcs:∀c∈cs,c+1<l.length)(hln:cs.length<=100):
  Calls prog 167 #[V (some ⟨p,0,none⟩),I Z pos,I Z n,.slice (some ⟨sb,0,none⟩) cs.length cap] w fun e w'=>e=.returned (.tuple #[])/\Rd w' p g (setW (chks pos n l cs) pos n)/\Step p (some g) (some g) w w':=by
 go_enter func167,ntmps167
 go_wp2
 go_loopw [12] (fun i wr=>∃k:Nat,k<=cs.length/\i=I Z k/\Rd wr p g (chks pos n l (cs.take k))/\Step p (some g) (some g) w wr) (fun i _=>cs.length-(intOf i).toNat)
 case atStart=>exact⟨0,by omega,rfl,h,Step.refl _ _ _⟩
 case round=>
  obtain⟨k,hk,rfl,hr,hS⟩:=hrel
  by_cases hlt:k<cs.length
  ·have hc:=hcs cs[k] (List.getElem_mem hlt);have hck:wr.cell? ⟨sb,k,none⟩=some (I Z ((cs[k]:Nat):Int)):=(hS.cell hsb hsp (by simpa using hsg) k).trans (hcell k hlt);(have C1:∀(w:World),Rd w p g (chks pos n l (cs.take k))->Calls prog 168 #[V (some ⟨p,0,none⟩),I Z ((cs[k]:Nat):Int)] w fun e w'=>e=.returned (I Z (wAt (chks pos n l (cs.take k)) cs[k]))/\Rd w' p g (chks pos n l (cs.take k))/\Step p (some g) (some g) w w':=fun w hw=>qli p g _ w hw cs[k] (by simpa using hc))
   generalize hcv:cs[k]=c at *
   (have HS:Hid (chks pos n l (cs.take (k+1))=chk1 pos n (chks pos n l (cs.take k)) c):=by show _=_;rw[q2v _ _ _ _ _ hlt,hcv]);clear hcv
   go_wp2_with (first|(go_at_call 168;refine(qli p g _ _ hr _ (by simp;omega)).mono ?_;rintro e w' ⟨rfl,hr,hst⟩;replace hS:=hS.trans hst;clear hst)|(go_at_call 190;refine(q71 _ _ _ _).mono ?_;rintro e w' ⟨rfl,rfl⟩)|(go_at_call 159;refine(qgs p g _ _ hr c _ (by simp;omega)).mono ?_;rintro e w' ⟨rfl,hr,hst⟩;replace hS:=hS.trans hst;clear hst))
   go_roundw
   case rel=>exact⟨k+1,by omega,by go_num,by rw[HS.out];exact hr,hS⟩
   case measure=>simp[intOf];omega
  ·have hk':cs.take k=cs:=List.take_of_length_le om
   rw[hk'] at hr
   go_wp2_with (go_at_call 159;refine(qgs p g _ _ hr pos _ (by simp;omega)).mono ?_;rintro e w' ⟨rfl,hr,hst⟩;replace hS:=hS.trans hst;clear hst)
   go_end0
   exact⟨rfl,hr,hS⟩
theorem qw4(n:Int)(w:World):Calls prog 170 #[I Z n] w fun e w'=>e=.returned (.bool (n==0||n==65535))/\w'=w:=by
 go_enter func170,ntmps170
 go_wp2
 all_goals
  go_ret
  exact⟨by simp_all,rfl⟩
def qes(proto side:Int):Nat:=if proto=1 then 24 else if side=0 then 20 else 22
theorem qkp(proto side:Int)(w:World)(h:side=0\/side=1):Calls prog 169 #[I Z proto,I Z side] w fun e w'=>e=.returned (I Z ((qes proto side:Nat):Int))/\w'=w:=by
 unfold qes
 by_cases h1:proto=1
 ·subst h1
  go_enter func169,ntmps169
  exact sZti12
 ·rcases h with rfl|rfl
  ·go_enter func169,ntmps169
   exact sZti12
  ·go_enter func169,ntmps169
   exact sZti12
def aged(l:List UInt8):List UInt8:=setW (chks 8 (wAt l 8-256) l [10]) 8 (wAt l 8-256)
@[simp] theorem qa1b(l:List UInt8):(aged l).length=l.length:=by simp[aged]
theorem qiy(w:World)(g:Nat)(hg:w.heap.size=g)(a:Nat)(x:Int)(hx:x=(a:Int)):∀j (hj:j < [a].length),(w.alloc (.cells #[I Z x] 3)).cell? ⟨g,j,none⟩=some (I Z (([a][j]:Nat):Int)):=by
 intro j hj
 subst hx hg
 rw[qgz]
 match j,hj with
 | 0,_=>rfl
theorem qpk(p g:Nat)(l:List UInt8)(w:World)(h:Rd w p g l)(hl:20<=l.length):
  Calls prog 136 #[V (some ⟨p,0,none⟩)] w fun e w'=>e=.returned (.tuple #[])/\Rd w' p g (aged l)/\Step p (some g) (some g) w w':=by
 have hw:=qhr l 8;have hS:=Step.refl p (some g) w
 go_enter func136,ntmps136
 go_wp2_with (first|(go_at_call 168;refine(qli p g _ _ h 8 om).mono ?_;refine m91 ?_;clear hS;intro w' h hS)|(go_at_call 167;refine(qdr p g _ _ (h.alloc _) 8 _ [10] _ 1 zm (by have:=h.lt;omega) (by have:=h.lt;omega) (qiy _ _ zm 10 _ rfl) om (by intro c hc;simp at hc;omega) zm).mono ?_;refine m7c ?_;clear hS;intro w' h hS))
 go_end0
 exact⟨rfl,h,hS⟩
def qld(side:Int):Nat:=if side=0 then 12 else 16
def qg9(proto:Int):List Nat:=if proto=1 then [10] else [10,qbd proto]
def moved(l:List UInt8)(pos:Nat)(n:Int)(cs:List Nat):List UInt8:=setW (chks pos n l cs) pos n
@[simp] theorem qazb(l:List UInt8)(pos:Nat)(n:Int)(cs:List Nat):(moved l pos n cs).length=l.length:=by simp[moved]
def qjz(l:List UInt8)(proto side addr port:Int):List UInt8:=
 moved (moved (moved l (qld side) (addr/65536) (qg9 proto)) (qld side+2) (addr%65536) (qg9 proto)) (qes proto side) port [qbd proto]
theorem q3r:(prog.info? 3).map (fun i=>(i.zero,i.size,i.bytes))=some (some (I Z 0),1,8):=by kernel_rfl
theorem q6f(w:World)(v:Value):(w.alloc (.cells #[v] 3)).ownsRow w.heap.size 3 1 (.slice (some ⟨w.heap.size,0,none⟩) 1 1) 1 [v]:=
 ⟨rfl,.inr ⟨w.heap.size,1,#[v],rfl,Nat.le_refl _,heap_alloc_new w _,Nat.le_refl _,by unfold maxLen;omega,rfl,rfl⟩⟩
theorem qt2(w:World)(g:Nat)(hg:w.heap.size=g)(v:Value):∀j u,[v][j]?=some u->(w.alloc (.cells #[v] 3)).cell? ((⟨g,0,none⟩:Addr).add j)=some u:=by
 intro j u hu
 subst hg
 rw[Addr.add_lit,Nat.zero_add,qgz]
 match j,hu with
 | 0,hu=>simpa using hu
 | n+1,hu=>simp at hu
theorem qye{a b:Value}(h:w.ownsRow base 3 1 v (1+1) ([a]++[b])):∃g cap,v=.slice (some ⟨g,0,none⟩) 2 cap/\base<=g/\g<w.heap.size/\w.cell? ⟨g,0,none⟩=some a/\w.cell? ⟨g,1,none⟩=some b:=by
 have hlt:=h.lt
 obtain⟨g,cap,rfl,hbg⟩:∃g cap,v=.slice (some ⟨g,0,none⟩) 2 cap/\base<=g:=by
  rcases h.2 with⟨_,h0⟩|⟨g,cap,cur,e,hbg,hg,_⟩
  ·omega
  ·exact⟨g,cap,e,hbg⟩
 ·refine⟨g,cap,rfl,hbg,(hlt g rfl).2,?_,?_⟩
  ·have:=h.cells (g:=g) rfl 0 a rfl;rwa [Addr.add_lit] at this
  ·have:=h.cells (g:=g) rfl 1 b rfl;rwa [Addr.add_lit] at this
theorem Rd.grown{row:Option Nat}(h:Rd w p g l)(hg:w.grownBy w' row)(h1:some p≠row)(h2:some g≠row):Rd w' p g l:=by
 have hlt:=h.lt;obtain⟨cap,cur,mk,a,b,c,r⟩:=h
 exact⟨cap,cur,mk,(hg.block p hlt.1 h1).trans a,b,(hg.block g hlt.2.1 h2).trans c,r⟩
theorem q0l(p g:Nat)(l:List UInt8)(w:World)(h:Rd w p g l)(side addr port:Int)(hs:side=0\/side=1)(a0:0<=addr)(a1:addr<=4294967295)(hl:28<=l.length):
  Calls prog 137 #[V (some ⟨p,0,none⟩),I Z 1,I Z side,I Z addr,I Z port] w fun e w'=>e=.returned (.tuple #[])/\Rd w' p g (qjz l 1 side addr port)/\Step p (some g) (some g) w w':=by
 have hlow:=q7f addr a0 a1;have hlt:=h.lt;have hI:∀o,(w.alloc (.cells #[I Z 10] 3)).cell? ⟨w.heap.size,o,none⟩=#[Value.int .i64 10][o]?:=qgz w _ _;have hS:Step p (some g) (some g) w (w.alloc (.cells #[I Z 10] 3)):=(Step.refl _ _ _).alloc _;(have hz:w.heap.size<(w.alloc (.cells #[I Z 10] 3)).heap.size:=by simp);replace h:=h.alloc (.cells #[I Z 10] 3)
 have hc1:∀(W:World),(∀o,W.cell? ⟨w.heap.size,o,none⟩=#[Value.int .i64 10][o]?)->∀j (hj:j < [10].length),W.cell? ⟨w.heap.size,j,none⟩=some (I Z (([10][j]:Nat):Int)):=by
  intro W hW j hj;rw[hW]
  match j,hj with
  | 0,_=>rfl
 (have hp0:qes 1 0+1<l.length:=by show 24+1<_;omega);(have hp1:qes 1 1+1<l.length:=by show 24+1<_;omega);(have hq:qbd 1+1<l.length:=by show 22+1<_;omega)
 rcases hs with rfl|rfl
 ·go_enter func137,ntmps137
  go_wp2_with (first|(go_at_call 169;refine(qkp _ _ _ om).mono ?_;rintro e w' ⟨rfl,rfl⟩)|(go_at_call 111;refine(qdp _ _).mono ?_;rintro e w' ⟨rfl,rfl⟩)|(go_at_call 167;go_fit (qdr p g _ _ h 12 _ [10] w.heap.size 1 hz om om (hc1 _ hI) (by(try simp)<;>omega) (by intro c hc;simp at hc;(try simp)<;>omega) zm);refine m3b ?_;clear hI hz hS;intro w' h hI hz hS)|(go_at_call 167;go_fit (qdr p g _ _ h 14 _ [10] w.heap.size 1 hz om om (hc1 _ hI) (by(try simp)<;>omega) (by intro c hc;simp at hc;(try simp)<;>omega) zm);refine m3b ?_;clear hI hz hS;intro w' h hI hz hS)|(go_at_call 167;go_fit (qdr p g _ _ (h.alloc _) (qes 1 0) _ [(qbd 1)] _ 1 zm (by have:=h.lt;omega) (by have:=h.lt;omega) (qiy _ _ zm (qbd 1) _ rfl) (by simp<;>omega) (by intro c hc;simp at hc;simp<;>omega) zm);refine m7c ?_;clear hS;intro w' h hS))
  go_end0
  exact⟨rfl,h,hS⟩
 ·go_enter func137,ntmps137
  go_wp2_with (first|(go_at_call 169;refine(qkp _ _ _ om).mono ?_;rintro e w' ⟨rfl,rfl⟩)|(go_at_call 111;refine(qdp _ _).mono ?_;rintro e w' ⟨rfl,rfl⟩)|(go_at_call 167;go_fit (qdr p g _ _ h 16 _ [10] w.heap.size 1 hz om om (hc1 _ hI) (by(try simp)<;>omega) (by intro c hc;simp at hc;(try simp)<;>omega) zm);refine m3b ?_;clear hI hz hS;intro w' h hI hz hS)|(go_at_call 167;go_fit (qdr p g _ _ h 18 _ [10] w.heap.size 1 hz om om (hc1 _ hI) (by(try simp)<;>omega) (by intro c hc;simp at hc;(try simp)<;>omega) zm);refine m3b ?_;clear hI hz hS;intro w' h hI hz hS)|(go_at_call 167;go_fit (qdr p g _ _ (h.alloc _) (qes 1 1) _ [(qbd 1)] _ 1 zm (by have:=h.lt;omega) (by have:=h.lt;omega) (qiy _ _ zm (qbd 1) _ rfl) (by simp<;>omega) (by intro c hc;simp at hc;simp<;>omega) zm);refine m7c ?_;clear hS;intro w' h hS))
  go_end0
  exact⟨rfl,h,hS⟩
theorem sZti14{p:Prop}(h:p:=by
 intro j hj
 match j,hj with
 | 0,_=>exact hqa
 | 1,_=>exact hqb):p:=h
theorem qxk(p g:Nat)(l:List UInt8)(w:World)(h:Rd w p g l)(proto side addr port:Int)(hs:side=0\/side=1)(a0:0<=addr)(a1:addr<=4294967295)(hl:28<=l.length)(hp:proto≠1)(hq:qbd proto+1<l.length):
  Calls prog 137 #[V (some ⟨p,0,none⟩),I Z proto,I Z side,I Z addr,I Z port] w fun e w'=>e=.returned (.tuple #[])/\Rd w' p g (qjz l proto side addr port)/\Step p (some g) (some g) w w':=by
 have hlow:=q7f addr a0 a1;have hlt:=h.lt;(have hp':(proto==1)=false:=by simpa using hp);(have W:Hid (qg9 proto=[10,qbd proto]):=by show _=_;unfold qg9;rw[if_neg hp]);have hS:Step p (some g) (some g) w (w.alloc (.cells #[I Z 10] 3)):=(Step.refl _ _ _).alloc _;obtain⟨i0,hi,hz0,hz1,hz2⟩:=info_parts q3r;have hown:=(q6f w (I Z 10)).alloc (.cells #[I Z ((qbd proto:Nat):Int)] 3);(have hp0:qes proto 0+1<l.length:=by unfold qes;rw[if_neg hp,if_pos rfl];omega);(have hp1:qes proto 1+1<l.length:=by unfold qes;rw[if_neg hp,if_neg om];omega)
 rcases hs with rfl|rfl
 ·go_enter func137,ntmps137
  go_wp2_with (first|(at_builtin;refine m37 ?_)|(go_at_call 111;refine(qdp _ _).mono ?_;rintro e w' ⟨rfl,rfl⟩))
  intro v' w1 hown1 hgrow _
  obtain⟨q,cap,rfl,hq0,hq1,hqa,hqb⟩:=qye hown1
  have hI:∀j (hj:j < [10,qbd proto].length),w1.cell? ⟨q,j,none⟩=some (I Z (([10,qbd proto][j]:Nat):Int)):=by
   exact sZti14
  have hz:=hq1;have hrow:(Value.slice (some ⟨w.heap.size,0,none⟩) 1 1).ownBlock=some w.heap.size:=rfl
  rw[hrow] at hgrow
  refine m6b ?_;clear h;intro hB hS h;clear hown hown1 hgrow hB hqa hqb hq1
  go_wp2_with (first|(go_at_call 169;refine(qkp _ _ _ om).mono ?_;rintro e w' ⟨rfl,rfl⟩)|(go_at_call 111;refine(qdp _ _).mono ?_;rintro e w' ⟨rfl,rfl⟩)|(go_at_call 167;go_fit (qdr p g _ _ h 12 _ [10,qbd proto] q cap hz om om hI (by(try simp)<;>omega) (by intro c hc;simp at hc;(try simp)<;>omega) zm);refine m32 ?_;clear hI hz hS;intro w' h hI hz hS)|(go_at_call 167;go_fit (qdr p g _ _ h 14 _ [10,qbd proto] q cap hz om om hI (by(try simp)<;>omega) (by intro c hc;simp at hc;(try simp)<;>omega) zm);refine m32 ?_;clear hI hz hS;intro w' h hI hz hS)|(go_at_call 167;go_fit (qdr p g _ _ (h.alloc _) (qes proto 0) _ [(qbd proto)] _ 1 zm (by have:=h.lt;omega) (by have:=h.lt;omega) (qiy _ _ zm (qbd proto) _ rfl) (by simp<;>omega) (by intro c hc;simp at hc;simp<;>omega) zm);refine m7c ?_;clear hS;intro w' h hS))
  go_end0
  exact⟨rfl,by unfold qjz;rw[W.out];exact h,hS⟩
 ·go_enter func137,ntmps137
  go_wp2_with (first|(at_builtin;refine m37 ?_)|(go_at_call 111;refine(qdp _ _).mono ?_;rintro e w' ⟨rfl,rfl⟩))
  intro v' w1 hown1 hgrow _
  obtain⟨q,cap,rfl,hq0,hq1,hqa,hqb⟩:=qye hown1
  have hI:∀j (hj:j < [10,qbd proto].length),w1.cell? ⟨q,j,none⟩=some (I Z (([10,qbd proto][j]:Nat):Int)):=by
   exact sZti14
  have hz:=hq1;have hrow:(Value.slice (some ⟨w.heap.size,0,none⟩) 1 1).ownBlock=some w.heap.size:=rfl
  rw[hrow] at hgrow
  refine m6b ?_;clear h;intro hB hS h;clear hown hown1 hgrow hB hqa hqb hq1
  go_wp2_with (first|(go_at_call 169;refine(qkp _ _ _ om).mono ?_;rintro e w' ⟨rfl,rfl⟩)|(go_at_call 111;refine(qdp _ _).mono ?_;rintro e w' ⟨rfl,rfl⟩)|(go_at_call 167;go_fit (qdr p g _ _ h 16 _ [10,qbd proto] q cap hz om om hI (by(try simp)<;>omega) (by intro c hc;simp at hc;(try simp)<;>omega) zm);refine m32 ?_;clear hI hz hS;intro w' h hI hz hS)|(go_at_call 167;go_fit (qdr p g _ _ h 18 _ [10,qbd proto] q cap hz om om hI (by(try simp)<;>omega) (by intro c hc;simp at hc;(try simp)<;>omega) zm);refine m32 ?_;clear hI hz hS;intro w' h hI hz hS)|(go_at_call 167;go_fit (qdr p g _ _ (h.alloc _) (qes proto 1) _ [(qbd proto)] _ 1 zm (by have:=h.lt;omega) (by have:=h.lt;omega) (qiy _ _ zm (qbd proto) _ rfl) (by simp<;>omega) (by intro c hc;simp at hc;simp<;>omega) zm);refine m7c ?_;clear hS;intro w' h hS))
  go_end0
  exact⟨rfl,by unfold qjz;rw[W.out];exact h,hS⟩
theorem qjl{a b:Bool}(h:a=b):Ending.returned (.bool a)=.returned (.bool b):=by rw[h]
theorem qcz(n:Int)(w:World):Calls prog 122 #[I Z n] w fun e w'=>e=.returned (.bool (qc7 n))/\w'=w:=by
 go_enter func122,ntmps122
 go_wp2
 all_goals
  go_ret
  exact⟨qjl (by unfold qc7;simp<;>omega),rfl⟩
theorem qd1(n:Int)(w:World):Calls prog 121 #[I Z n] w fun e w'=>e=.returned (.bool (qeb n))/\w'=w:=by
 go_enter func121,ntmps121
 go_wp2
 all_goals
  go_ret
  exact⟨qjl (by unfold qeb;simp<;>omega),rfl⟩
theorem qju(k:Pkt)(w:World):Calls prog 81 #[pv k] w fun e w'=>e=.returned (.bool (qht k))/\Below w.heap.size w w':=by
 obtain⟨proto,src,sport,dst,dport,ttl,id,flags,seq,ack,win,body⟩:=k
 unfold pv
 simp only
 go_enter func81,ntmps81
 go_wp2_with (first|(go_at_call 121;refine(qd1 _ _).mono ?_;rintro e w' ⟨rfl,rfl⟩)|(go_at_call 122;refine m8d ?_;rintro e w' ⟨rfl,rfl⟩))
 all_goals
  go_ret
  refine⟨qjl ?_,(Below.refl _ _).alloc (Nat.le_refl _) _⟩
  simp[qht, *]<;>omega
theorem qrc(k:Pkt)(w:World):Calls prog 82 #[pv k] w fun e w'=>e=.returned (.bool (qiz k))/\Below w.heap.size w w':=by
 obtain⟨proto,src,sport,dst,dport,ttl,id,flags,seq,ack,win,body⟩:=k
 unfold pv
 simp only
 by_cases h1:proto=1
 ·subst h1
  go_enter func82,ntmps82
  go_wp2_with (go_at_call 122;refine m8d ?_;rintro e w' ⟨rfl,rfl⟩)
  all_goals
   go_ret
   refine⟨qjl ?_,(Below.refl _ _).alloc (Nat.le_refl _) _⟩
   simp_all[qiz]
 ·by_cases h2:proto=17
  ·subst h2
   go_enter func82,ntmps82
   go_wp2
   all_goals
    go_ret
    refine⟨qjl ?_,(Below.refl _ _).alloc (Nat.le_refl _) _⟩
    simp_all[qiz]
  ·go_enter func82,ntmps82
   go_wp2
   go_ret
   refine⟨qjl ?_,(Below.refl _ _).alloc (Nat.le_refl _) _⟩
   simp_all[qiz]
theorem qhu{W:World}(hb:Below W.heap.size W w1)(hq:q<W.heap.size)(hc:∀o,W.cell? ⟨q,o,none⟩=cs[o]?):∀o,w1.cell? ⟨q,o,none⟩=cs[o]?:=
 fun o=>(hb.cell (p:=⟨q,o,none⟩) hq).trans (hc o)
theorem qii(h:Below (w.alloc o).heap.size (w.alloc o) w'):Below w.heap.size w w':=
 ((Below.refl _ _).alloc (Nat.le_refl _) o).trans (h.mono zm)
theorem sZti15{p:Prop}(h:p:=by
 go_ret
 exact⟨qdm G.out.symm,(qii hb).trans (hb2.mono (Nat.le_trans zm hb.size))⟩):p:=h
theorem qke(k:Pkt)(w:World)(hsz:k.body.size<=140737488351232):Calls prog 47 #[pv k] w fun e w'=>e=.returned (I Z (good k))/\Below w.heap.size w w':=by
 have P:=qth k.proto;refine m60 ?_;intro hbox;have hbel:Below w.heap.size w (w.alloc (.cells #[I Z k.proto,I Z k.src,I Z k.sport,I Z k.dst,I Z k.dport,I Z k.ttl,I Z k.id,I Z k.flags,I Z k.seq,I Z k.ack,I Z k.win,.string k.body] 61)):=(Below.refl _ _).alloc (Nat.le_refl _) _;refine m4p ?_;intro hlt
 unfold pv
 by_cases h1:qdc k.proto=false
 ·rw[h1] at P
  (have G:Hid (good k=4):=by show _=_;unfold good;rw[if_pos h1])
  go_enter func47,ntmps47
  go_wp2_with (go_at_call 80;refine m5s ?_;rintro e w' ⟨rfl,rfl⟩)
  go_ret
  exact⟨qdm G.out.symm,hbel⟩
 (have h1':qdc k.proto=true:=by simpa using h1)
 rw[h1'] at P
 by_cases h2:qht k=false
 ·(have G:Hid (good k=2):=by show _=_;unfold good;rw[if_neg h1,if_pos h2])
  go_enter func47,ntmps47
  go_wp2_with (first|(go_at_call 80;refine m5s ?_;rintro e w' ⟨rfl,rfl⟩)|(go_at_call 81;refine(qju k _).mono ?_;rintro e w' ⟨rfl,hb⟩;rw[h2]))
  go_ret
  exact⟨qdm G.out.symm,qii hb⟩
 (have h2':qht k=true:=by simpa using h2)
 by_cases h3:64<k.body.size
 ·(have G:Hid (good k=5):=by show _=_;unfold good;rw[if_neg h1,if_neg h2,if_pos h3])
  go_enter func47,ntmps47
  go_wp2_with (first|(go_at_call 80;refine m5s ?_;rintro e w' ⟨rfl,rfl⟩)|(go_at_call 81;refine(qju k _).mono ?_;rintro e w' ⟨rfl,hb⟩;rw[h2'];have hbox2:=qhu hb hlt hbox))
  go_ret
  exact⟨qdm G.out.symm,qii hb⟩
 by_cases h4:qiz k=false
 ·(have G:Hid (good k=1):=by show _=_;unfold good;rw[if_neg h1,if_neg h2,if_neg h3,if_pos h4])
  go_enter func47,ntmps47
  go_wp2_with (first|(go_at_call 80;refine m5s ?_;rintro e w' ⟨rfl,rfl⟩)|(go_at_call 81;refine(qju k _).mono ?_;rintro e w' ⟨rfl,hb⟩;rw[h2'];have hbox2:=qhu hb hlt hbox)|(go_at_call 82;refine(qrc k _).mono ?_;rintro e w2 ⟨rfl,hb2⟩;rw[h4]))
  exact sZti15
 (have h4':qiz k=true:=by simpa using h4);(have G:Hid (good k=0):=by show _=_;unfold good;rw[if_neg h1,if_neg h2,if_neg h3,if_neg h4])
 go_enter func47,ntmps47
 go_wp2_with (first|(go_at_call 80;refine m5s ?_;rintro e w' ⟨rfl,rfl⟩)|(go_at_call 81;refine(qju k _).mono ?_;rintro e w' ⟨rfl,hb⟩;rw[h2'];have hbox2:=qhu hb hlt hbox)|(go_at_call 82;refine(qrc k _).mono ?_;rintro e w2 ⟨rfl,hb2⟩;rw[h4']))
 exact sZti15
theorem qt0(p:Pkt)(c1 c2 c:Int):setW (fr p c1 c2) 10 c=fr p c c2:=rfl
theorem q1r(p:Pkt)(c1 c2:Int):(fr p c1 c2).take 20=hd p (flen p) c1:=rfl
theorem q3m(p:Pkt)(c1 c2:Int):(fr p c1 c2).drop 20=pt p c2++p.body.data.toList:=rfl
theorem q5d(p:Pkt):q0r (fr p 0 0)=fr p (chkH p) 0:=rfl
theorem qj7(p:Pkt)(c1 c2 c:Int)(h:qdc p.proto=true):setW (fr p c1 c2) (qbd p.proto) c=fr p c1 c:=by
 rcases(qei _).1 h with h|h|h<;>(unfold fr pt qbd;simp only[h];rfl)
theorem qx8(p:Pkt)(c1 c2:Int)(h:qdc p.proto=true):chkd (fr p c1 c2) p.proto=ps p.src p.dst p.proto (qb4 p.proto+p.body.size)++(pt p c2++p.body.data.toList):=by
 have hl:=qlm p c1 c2 h
 unfold chkd ps
 (rw[q3m,hl,show flen p-20=qb4 p.proto+p.body.size by unfold flen;omega])
 by_cases h1:p.proto=1
 ·simp[h1]
 ·simp only[h1,if_false,List.append_assoc];rfl
theorem qwj(p:Pkt)(c1:Int)(h:qdc p.proto=true):qgf (fr p c1 0) p.proto=fr p c1 (chkP p):=by
 unfold qgf
 rw[qj7 p _ _ _ h,qj7 p _ _ _ h]
 unfold ckP
 rw[qx8 p _ _ h]
 rfl
theorem q53(p:Pkt)(c1 c2:Int)(h:qdc p.proto=true):qbd p.proto+1<(fr p c1 c2).length:=by
 have:=qlm p c1 c2 h
 unfold flen qb4 at this
 unfold qbd
 rcases(qei _).1 h with h|h|h <;> simp[h] at * <;> omega
theorem qdz(e:Int)(w:World):Calls prog 114 #[I Z e] w fun r w'=>r=.returned (.tuple #[.string ByteArray.empty,I Z e])/\w'=w:=by
 go_enter func114,ntmps114
 go_wp2
 go_ret2
 exact⟨rfl,rfl⟩
theorem qde(k:Pkt)(h:good k=0):qdc k.proto=true/\qht k=true/\k.body.size<=64/\qiz k=true:=by
 unfold good at h
 by_cases h1:qdc k.proto=false
 ·rw[if_pos h1] at h;omega
 rw[if_neg h1] at h
 by_cases h2:qht k=false
 ·rw[if_pos h2] at h;omega
 rw[if_neg h2] at h
 by_cases h3:64<k.body.size
 ·rw[if_pos h3] at h;omega
 rw[if_neg h3] at h
 by_cases h4:qiz k=false
 ·rw[if_pos h4] at h;omega
 exact⟨by simpa using h1,by simpa using h2,by omega,by simpa using h4⟩
theorem qxq{a b c d:Value}(h1:a=b)(h2:c=d):Ending.returned (.tuple #[a,c])=.returned (.tuple #[b,d]):=by rw[h1,h2]
def built(k:Pkt):ByteArray:=if good k=0 then txt (frame k) else ByteArray.empty
theorem q3b(k:Pkt)(w:World)(hsz:k.body.size<=140737488351232):Calls prog 77 #[pv k] w fun e w'=>e=.returned (.tuple #[.string (built k),I Z (good k)])/\Below w.heap.size w w':=by
 refine m60 ?_;intro hbox;refine m4p ?_;intro hlt
 by_cases hg:good k=0
 ·obtain⟨hk,hr,hb64,hf⟩:=qde k hg;(have HB:Hid (built k=txt (frame k)):=by show _=_;unfold built;rw[if_pos hg]);(have hp2:0<=qb4 k.proto/\qb4 k.proto<=20:=by unfold qb4;split<;>(try split)<;>omega)
  unfold pv
  go_enter func77,ntmps77
  go_wp2_with (go_at_call 47;refine(qke k _ hsz).mono ?_;rintro e w1 ⟨rfl,hb1⟩;rw[hg];have hbox1:=qhu hb1 hlt hbox)
  have h:=qwg w1;have hS:=(Step.refl w1.heap.size none (w1.alloc (.cells #[.slice none 0 0] 170)));(have hsz1:w.heap.size<w1.heap.size:=by have:=hb1.size;simp at this;omega)
  have hI:Inv w.heap.size w1.heap.size none (w1.alloc (.cells #[.slice none 0 0] 170)) #[I Z k.proto,I Z k.src,I Z k.sport,I Z k.dst,I Z k.dport,I Z k.ttl,I Z k.id,I Z k.flags,I Z k.seq,I Z k.ack,I Z k.win,.string k.body]:=
   ⟨by simp;omega,by omega,by simp,qhu ((Below.refl _ _).alloc (Nat.le_refl _) _) hsz1 hbox1⟩
  have hbox2:=hI.cell
  go_region_held3 (fun w'=>w'.cell? ⟨w.heap.size,0,none⟩=some (I Z k.proto)/\w'.cell? ⟨w.heap.size,1,none⟩=some (I Z k.src)/\w'.cell? ⟨w.heap.size,2,none⟩=some (I Z k.sport)/\w'.cell? ⟨w.heap.size,3,none⟩=some (I Z k.dst)/\w'.cell? ⟨w.heap.size,4,none⟩=some (I Z k.dport)/\w'.cell? ⟨w.heap.size,5,none⟩=some (I Z k.ttl)/\w'.cell? ⟨w.heap.size,6,none⟩=some (I Z k.id)/\w'.cell? ⟨w.heap.size,7,none⟩=some (I Z k.flags)/\w'.cell? ⟨w.heap.size,8,none⟩=some (I Z k.seq)/\w'.cell? ⟨w.heap.size,9,none⟩=some (I Z k.ack)/\w'.cell? ⟨w.heap.size,10,none⟩=some (I Z k.win)/\w'.cell? ⟨w.heap.size,11,none⟩=some (.string k.body))
   (first|exact⟨hI.cell 0,hI.cell 1,hI.cell 2,hI.cell 3,hI.cell 4,hI.cell 5,hI.cell 6,hI.cell 7,hI.cell 8,hI.cell 9,hI.cell 10,hI.cell 11⟩|go_keep)
   (first|(go_at_call 80;refine m5s ?_;rintro e w' ⟨rfl,rfl⟩)|(go_at_call 115;refine(qp1 _ _ _ _ h.drew k _ (by(try simp)<;>omega)).mono ?_;rintro e w' ⟨rfl,G1,h,hst⟩;replace hst:=qog hst;refine m25 ?_;clear hI hS hst;intro hI hS hbox))
  have hfl:=qpl k hb64
  have HL:Hid (IntKind.i64.wrap (IntKind.i64.wrap (20+qb4 k.proto)+(k.body.size:Int))=flen k):=by
   show _=_
   rw[wrap_i64 (20+qb4 k.proto) om om,wrap_i64 _ om om];rfl
  go_wp2_with (first|(go_at_call 116;refine(qww _ _ _ _ h k hk hb64 hr (by(try simp)<;>omega)).mono ?_;rintro e w' ⟨rfl,G1,h,hst⟩;refine m25 ?_;clear hI hS hst;intro hI hS hbox)|(go_at_call 117;have hpl:=q28 k 0 hk;refine(qmm _ _ _ _ h _ (by simp<;>omega)).mono ?_;rintro e w' ⟨rfl,G1,h,hst⟩;refine m25 ?_;clear hI hS hst;intro hI hS hbox;rw[HL.out,List.nil_append,List.append_assoc] at h;change Fr _ _ _ (fr k 0 0) at h)|(go_at_call 118;obtain⟨g,hG,hpg,hrd⟩:=h.rd (by intro e;have:=congrArg List.length e;simp[fr] at this);rw[hG] at hS;refine(qob _ g _ _ hrd (by have:=qlm k 0 0 hk;omega)).mono ?_;rintro e w' ⟨rfl,hrd,hst⟩;rw[hG] at hI;refine m25 ?_;clear hI hS hst;intro hI hS hbox;rw[q5d] at hrd)|(go_at_call 119;refine(qlk _ g _ _ hrd k.proto (q53 k _ _ hk) (by have:=qlm k (chkH k) 0 hk;omega)).mono ?_;rintro e w' ⟨rfl,hrd,hst⟩;replace hS:=hS.trans hst;clear hst;rw[qwj k _ hk] at hrd)|(go_at_call 120;refine(qfw _ g _ _ hrd).mono ?_;rintro e w' ⟨rfl,rfl⟩))
  go_ret2
  exact⟨qxq (congrArg Value.string HB.out.symm) (congrArg (Value.int .i64) hg.symm),(qii hb1).trans ((qoc hS).mono om)⟩
 ·(have HB:Hid (built k=ByteArray.empty):=by show _=_;unfold built;rw[if_neg hg]);(have hg':(good k==0)=false:=by simpa using hg)
  unfold pv
  go_enter func77,ntmps77
  go_wp2_with (first|(go_at_call 47;refine(qke k _ hsz).mono ?_;rintro e w1 ⟨rfl,hb1⟩)|(go_at_call 114;refine(qdz _ _).mono ?_;rintro e w' ⟨rfl,rfl⟩))
  go_ret2
  exact⟨qxq (congrArg Value.string HB.out.symm) rfl,qii hb1⟩
end
section
open Go.RowKit
def lAt(l:List UInt8)(k:Nat):Int:=wAt l k*65536+wAt l (k+2)
def qcw(l:List UInt8):Int:=
 if l.length<20 then 1 else if byt l 0≠69 then 1 else if wAt l 2≠l.length then 1 else if bk (tot (l.take 20))≠65535 then 3 else if byt l 1≠0 then 4 else if wAt l 6≠0 then 4 else if byt l 8=0 then 12 else if qdc (byt l 9)=false then 4 else 0
def qcx(l:List UInt8)(proto:Int):Int:=
 if (l.length:Int)-20<qb4 proto then 1 else if bk (tot (chkd l proto))≠65535 then 3 else if proto=17/\wAt l 26=0 then 3
 else if proto=1/\byt l 20≠8/\byt l 20≠0 then 4 else if proto=1/\byt l 21≠0 then 4
 else if proto=6/\byt l 32≠80 then 4 else if proto=6/\63<byt l 33 then 4 else if proto=6/\wAt l 38≠0 then 4
 else if proto=17/\wAt l 24≠(l.length:Int)-20 then 1 else 0
def qam(l:List UInt8):Pkt:=
 if byt l 9=1 then⟨1,lAt l 12,if byt l 20=8 then wAt l 24 else 0,lAt l 16,if byt l 20=8 then 0 else wAt l 24,byt l 8,wAt l 4,byt l 20,wAt l 26,0,0,txt (l.drop 28)⟩
 else if byt l 9=6 then⟨6,lAt l 12,wAt l 20,lAt l 16,wAt l 22,byt l 8,wAt l 4,byt l 33,lAt l 24,lAt l 28,wAt l 34,txt (l.drop 40)⟩
 else⟨byt l 9,lAt l 12,wAt l 20,lAt l 16,wAt l 22,byt l 8,wAt l 4,0,0,0,0,txt (l.drop 28)⟩
def bad(l:List UInt8):Int:=if qcw l≠0 then qcw l else if qcx l (byt l 9)≠0 then qcx l (byt l 9) else good (qam l)
def qb9(l:List UInt8):Pkt:=if bad l=0 then qam l else p0
theorem qfo(s:ByteArray)(k:Nat)(h:k<s.size):(s[k].toNat:Int)=byt s.data.toList k:=by
 unfold byt
 have e:s.data.toList.getD k 0=s[k]:=by
  rw[List.getD_eq_getElem?_getD,Array.getElem?_toList,Array.getElem?_eq_getElem h];rfl
 rw[e]
theorem qqo(l:List UInt8)(n k:Nat):byt (l.drop n) k=byt l (n+k):=by
 unfold byt
 simp[List.getD_eq_getElem?_getD,List.getElem?_drop]
theorem qnf(l:List UInt8)(n k:Nat):wAt (l.drop n) k=wAt l (n+k):=by
 unfold wAt;rw[qqo,qqo,Nat.add_assoc]
theorem q5s(l:List UInt8)(n k:Nat):lAt (l.drop n) k=lAt l (n+k):=by
 unfold lAt;rw[qnf,qnf,Nat.add_assoc]
theorem qb6(s:ByteArray):s.data.toList.length=s.size:=by simp
theorem qi8(s:ByteArray)(k:Nat)(h:k<(s.extract 20 s.size).size):((s.extract 20 s.size)[k].toNat:Int)=byt s.data.toList (20+k):=by
 rw[qfo,qg5,qqo]
end
section
open Go.ChangeShapes Go.WideShapes Go.ChangeAt Go.RowKit
theorem qpw(n:Nat)(w:World):Below w.heap.size w (w.drewN n):=by
 refine⟨?_,?_,?_,?_,?_⟩<;>first|rfl|simp
theorem q5t(s:ByteArray)(k m:Nat)(w:World)(hs:s.size<=140737488351232)(hm:k+1=m)(h0:k<s.size)(h:m<s.size):
  Calls prog 109 #[.string s,I Z k] w fun e w'=>e=.returned (I Z (wAt s.data.toList k))/\∃q,w'=w.drewN q:=by
 have J:Hid (bits .or .i64 ((s[k].toNat:Int)*256) (s[m].toNat:Int)=wAt s.data.toList k):=by
  show _=_
  obtain⟨b1,b2⟩:=qf3 s.data.toList k;obtain⟨b3,b4⟩:=qf3 s.data.toList m;rw[qfo,qfo,q7e _ _ b1 b2 b3 b4,wAt,hm]
 obtain⟨c0,c0'⟩:=qje s[k];obtain⟨c1,c1'⟩:=qje s[m];(have i1:(k:Int)<(s.size:Int):=by omega);(have i2:(m:Int)<(s.size:Int):=by omega);(have i4:IntKind.i64.wrap ((k:Int)+1)=(m:Int):=by rw[wrap_i64 _ om om];omega);clear hm
 go_enter func109,ntmps109
 go_wp2
 go_quiet (fail)
 go_wp2
 go_ret
 exact⟨qdm J.out,nq,rfl⟩
theorem qh9(s:ByteArray)(k:Int)(w:World)(hs:s.size<=140737488351232)(h0:0<=k)(h:k+1<(s.size:Int)):
  Calls prog 109 #[.string s,I Z k] w fun e w'=>e=.returned (I Z (wAt s.data.toList k.toNat))/\∃q,w'=w.drewN q:=by
 obtain⟨n,rfl⟩:=Int.eq_ofNat_of_zero_le h0
 exact q5t s n (n+1) w hs rfl om om
theorem qi7(s:ByteArray)(k:Int)(w:World)(hs:s.size<=140737488351232)(h0:0<=k)(h:k+3<(s.size:Int)):
  Calls prog 112 #[.string s,I Z k] w fun e w'=>e=.returned (I Z (lAt s.data.toList k.toNat))/\∃q,w'=w.drewN q:=by
 obtain⟨b1,b2⟩:=qhr s.data.toList k.toNat;obtain⟨b3,b4⟩:=qhr s.data.toList (k+2).toNat
 have J:Hid (bits .or .i64 (wAt s.data.toList k.toNat*65536) (wAt s.data.toList (k+2).toNat)=lAt s.data.toList k.toNat):=by
  show _=_
  (rw[q9m _ _ b1 b2 b3 b4,lAt,show(k+2).toNat=k.toNat+2 by omega])
 (have i3:(s.size:Int)<=140737488351232:=by omega)
 go_enter func112,ntmps112
 go_wp2_with (go_at_call 109;refine(qh9 s _ _ hs om om).mono ?_;rintro e w' ⟨rfl,q,rfl⟩)
 go_ret
 exact⟨qdm J.out,_,rfl⟩
theorem qqe(s:ByteArray)(k:Int)(w:World)(hs:s.size<=140737488351232)(h0:0<=k)(h:k+1<(s.size:Int)):
  Calls prog 109 #[.string s,I Z k] w fun e w'=>e=.returned (I Z (wAt s.data.toList k.toNat))/\Below w.heap.size w w':=
 (qh9 s k w hs h0 h).mono fun _ _ ⟨he,q,hw⟩=>⟨he,by rw[hw];exact qpw q w⟩
theorem qwh(s:ByteArray)(k:Int)(w:World)(h20:20<=s.size)(hs:s.size<=65535)(h0:0<=k)(h:k+1<(s.size:Int)-20):
  Calls prog 109 #[.string (s.extract 20 s.size),I Z k] w fun e w'=>e=.returned (I Z (wAt s.data.toList (20+k.toNat)))/\Below w.heap.size w w':=by
 have z2:(s.extract 20 s.size).size=s.size-20:=qef s 20 s.size (Nat.le_refl _)
 have:=qqe (s.extract 20 s.size) k w om h0 om
 rw[qg5,qnf] at this
 exact this
theorem qg1(s:ByteArray)(k:Int)(w:World)(h20:20<=s.size)(hs:s.size<=65535)(h0:0<=k)(h:k+1<(s.size:Int)-20):
  Calls prog 109 #[.string (s.extract 20 s.size),I Z k] w fun e w'=>e=.returned (I Z (wAt s.data.toList (20+k.toNat)))/\∃q,w'=w.drewN q:=by
 have z2:(s.extract 20 s.size).size=s.size-20:=qef s 20 s.size (Nat.le_refl _)
 have:=qh9 (s.extract 20 s.size) k w om h0 om
 rw[qg5,qnf] at this
 exact this
theorem qt3(s:ByteArray)(k:Int)(w:World)(h20:20<=s.size)(hs:s.size<=65535)(h0:0<=k)(h:k+3<(s.size:Int)-20):
  Calls prog 112 #[.string (s.extract 20 s.size),I Z k] w fun e w'=>e=.returned (I Z (lAt s.data.toList (20+k.toNat)))/\∃q,w'=w.drewN q:=by
 have z2:(s.extract 20 s.size).size=s.size-20:=qef s 20 s.size (Nat.le_refl _)
 have:=qi7 (s.extract 20 s.size) k w om h0 om
 rw[qg5,q5s] at this
 exact this
theorem qsj(s:ByteArray)(w:World)(hs:s.size<=140737488351232)(h20:20<=s.size):
  Calls prog 70 #[.string s] w fun e w'=>e=.returned (I Z (qcw s.data.toList))/\Below w.heap.size w w':=by
 have P:=qth (byt s.data.toList 9);have g0:=qfo s 0 om;have g1:=qfo s 1 om;have g8:=qfo s 8 om;have g9:=qfo s 9 om
 have hof:∀w:World,Calls prog 48 #[.string (s.extract 0 20)] w fun e w'=>e=.returned (I Z (bk (tot (s.data.toList.take 20))))/\w'=w:=by
  intro w
  have:=qqw (s.extract 0 20) w (by rw[qef s 0 20 om];omega)
  rw[qh7] at this
  exact this
 obtain⟨b91,b92⟩:=qf3 s.data.toList 9;refine m2a ?_;intro hB
 go_enter func70,ntmps70
 go_wp2_with (first|(go_at_call 109;refine(qqe s _ _ hs om om).mono ?_;refine m99 ?_;clear hB;intro w' hb hB;simp only[Int.reduceToNat])|(go_at_call 48;refine(hof _).mono ?_;rintro e w' ⟨rfl,rfl⟩)|(go_at_call 80;refine m5s ?_;rintro e w' ⟨rfl,rfl⟩))
 all_goals
  go_ret
  refine⟨qdm ?_,hB⟩
  unfold qcw
  rw[qb6]
  simp_all
  try (intro hx;exfalso;omega)
theorem q07(s:ByteArray)(w:World)(h:s.size<20):
  Calls prog 70 #[.string s] w fun e w'=>e=.returned (I Z 1)/\w'=w:=by
 go_enter func70,ntmps70
 go_wp2
 go_ret
 exact⟨rfl,rfl⟩
theorem qh2(s:ByteArray)(w:World)(hs:s.size<=140737488351232):
  Calls prog 70 #[.string s] w fun e w'=>e=.returned (I Z (qcw s.data.toList))/\Below w.heap.size w w':=by
 by_cases h1:s.size<20
 ·(have E:qcw s.data.toList=1:=by unfold qcw;rw[qb6,if_pos h1]);rw[E]
  exact(q07 s w h1).mono fun e w' ⟨he,hw⟩=>⟨he,by rw[hw];exact Below.refl _ _⟩
 ·exact qsj s w hs om
theorem q1n(s:ByteArray)(proto:Int)(w:World)(h20:20<=s.size)(hs:s.size<=65535)(h:(s.size:Int)-20<qb4 proto):
  Calls prog 72 #[.string s,I Z proto] w fun e w'=>e=.returned (I Z 1)/\w'=w:=by
 refine m1s ?_;intro z2 z3
 go_enter func72,ntmps72
 go_wp2_with (go_at_call 80;refine m5s ?_;rintro e w' ⟨rfl,rfl⟩)
 go_ret
 exact⟨rfl,rfl⟩
def sumP(l:List UInt8)(proto:Int):Int:=bk (tot (chkd l proto))
theorem qr0(l:List UInt8)(proto:Int)(w:World)(h:l.length<=500000):
  Calls prog 48 #[.string (txt (chkd l proto))] w fun e w'=>e=.returned (I Z (sumP l proto))/\w'=w:=by
 have:=qv0 l proto
 exact q77 (chkd l proto) w om
theorem q54(s:ByteArray)(w:World)(hl:28<=s.size)(hs:s.size<=65535):
  Calls prog 72 #[.string s,I Z 1] w fun e w'=>e=.returned (I Z (qcx s.data.toList 1))/\Below w.heap.size w w':=by
 refine m1s ?_;intro z2 z3;refine m58 ?_;intro z4;have pn:qb4 1=8:=rfl;(have ge0:∀h,(((s.extract 20 s.size)[0]'h).toNat:Int)=byt s.data.toList 20:=fun h=>qi8 s 0 h);(have ge1:∀h,(((s.extract 20 s.size)[1]'h).toNat:Int)=byt s.data.toList 21:=fun h=>qi8 s 1 h);refine m2a ?_;intro hB
 go_enter func72,ntmps72
 go_wp2_with (first|(go_at_call 80;refine m5s ?_;rintro e w' ⟨rfl,rfl⟩)|(go_at_call 110;refine(qgq _ _ _ om om).mono ?_;refine m99 ?_;clear hB;intro w' hb hB)|(go_at_call 48;refine(qr0 _ _ _ (by rw[qb6];omega)).mono ?_;rintro e w' ⟨rfl,rfl⟩))
 all_goals
  go_ret
  refine⟨qdm ?_,hB⟩
  unfold qcx
  rw[qb6]
  unfold sumP at *
  simp_all
 all_goals omega
theorem q7v(s:ByteArray)(w:World)(hl:28<=s.size)(hs:s.size<=65535):
  Calls prog 72 #[.string s,I Z 17] w fun e w'=>e=.returned (I Z (qcx s.data.toList 17))/\Below w.heap.size w w':=by
 refine m1s ?_;intro z2 z3;refine m58 ?_;intro z4;have pn:qb4 17=8:=rfl;have cn:((qbd 17:Nat):Int)=26:=rfl;refine m2a ?_;intro hB
 go_enter func72,ntmps72
 go_wp2_with (first|(go_at_call 80;refine m5s ?_;rintro e w' ⟨rfl,rfl⟩)|(go_at_call 111;refine(qdp _ _).mono ?_;rintro e w' ⟨rfl,rfl⟩)|(go_at_call 110;refine(qgq _ _ _ om om).mono ?_;refine m99 ?_;clear hB;intro w' hb hB)|(go_at_call_of 109 (Value.string (s.extract 20 s.size));refine(qwh s 4 _ om hs om om).mono ?_;refine m99 ?_;clear hB;intro w' hb hB;simp only[Int.reduceToNat,Nat.reduceAdd])|(go_at_call_of 109 (Value.string s);refine(qqe s _ _ om om om).mono ?_;refine m99 ?_;clear hB;intro w' hb hB;simp only[Int.reduceToNat])|(go_at_call 48;refine(qr0 _ _ _ (by rw[qb6];omega)).mono ?_;rintro e w' ⟨rfl,rfl⟩))
 all_goals
  go_ret
  refine⟨qdm ?_,hB⟩
  unfold qcx
  rw[qb6]
  unfold sumP at *
  clear hB
  simp_all
 all_goals omega
theorem q8p(s:ByteArray)(w:World)(hl:40<=s.size)(hs:s.size<=65535):
  Calls prog 72 #[.string s,I Z 6] w fun e w'=>e=.returned (I Z (qcx s.data.toList 6))/\Below w.heap.size w w':=by
 refine m1s ?_;intro z2 z3;refine m58 ?_;intro z4;have pn:qb4 6=20:=rfl;(have ge0:∀h,(((s.extract 20 s.size)[12]'h).toNat:Int)=byt s.data.toList 32:=fun h=>qi8 s 12 h);(have ge1:∀h,(((s.extract 20 s.size)[13]'h).toNat:Int)=byt s.data.toList 33:=fun h=>qi8 s 13 h);refine m2a ?_;intro hB
 go_enter func72,ntmps72
 go_wp2_with (first|(go_at_call 80;refine m5s ?_;rintro e w' ⟨rfl,rfl⟩)|(go_at_call 110;refine(qgq _ _ _ om om).mono ?_;refine m99 ?_;clear hB;intro w' hb hB)|(go_at_call_of 109 (Value.string (s.extract 20 s.size));refine(qwh s 18 _ om hs om om).mono ?_;refine m99 ?_;clear hB;intro w' hb hB;simp only[Int.reduceToNat,Nat.reduceAdd])|(go_at_call 48;refine(qr0 _ _ _ (by rw[qb6];omega)).mono ?_;rintro e w' ⟨rfl,rfl⟩))
 all_goals
  go_ret
  refine⟨qdm ?_,hB⟩
  unfold qcx
  rw[qb6]
  unfold sumP at *
  clear hB
  simp_all
 all_goals omega
theorem qkj(s:ByteArray)(proto:Int)(w:World)(h20:20<=s.size)(hs:s.size<=65535)(hk:qdc proto=true):
  Calls prog 72 #[.string s,I Z proto] w fun e w'=>e=.returned (I Z (qcx s.data.toList proto))/\Below w.heap.size w w':=by
 by_cases h:(s.size:Int)-20<qb4 proto
 ·(have E:qcx s.data.toList proto=1:=by unfold qcx;rw[qb6,if_pos h]);rw[E]
  exact(q1n s proto w h20 hs h).mono fun e w' ⟨he,hw⟩=>⟨he,by rw[hw];exact Below.refl _ _⟩
 ·rcases(qei _).1 hk with rfl|rfl|rfl
  ·exact q54 s w (by rw[show qb4 1=8 from rfl] at h;omega) hs
  ·exact q8p s w (by rw[show qb4 6=20 from rfl] at h;omega) hs
  ·exact q7v s w (by rw[show qb4 17=8 from rfl] at h;omega) hs
def qbx(w:World)(b:Nat)(cs:Array Value):Prop:=w.heap[b]?=some (.cells cs 61 (0,0))
theorem qbx.cell(h:qbx w b cs):∀o,w.cell? ⟨b,o,none⟩=cs[o]?:=by
 intro o
 unfold qbx at h
 simp[World.cell?,h]
theorem qbx.free(h:qbx w b cs):∀o,w.frozen? ⟨b,o,none⟩=false:=by
 intro o
 unfold qbx at h
 simp[World.frozen?,h]
theorem qbx.set(h:qbx w b cs)(o:Nat)(v:Value):qbx (w.setCell ⟨b,o,none⟩ v) b (cs.setIfInBounds o v):=qpq h
theorem qbx.drewN(h:qbx w b cs)(q:Nat):qbx (w.drewN q) b cs:=h
theorem qif{o:Nat}:Step b none none w (w.setCell ⟨b,o,none⟩ v):=
 ⟨rfl,rfl,rfl,by simp[World.setCell],fun i _ hi _=>Below.heap_setCell _ _ _ _ hi,.inl rfl⟩
theorem qp4(p q:Nat)(w:World):Step p none none w (w.drewN q):=by
 refine⟨?_,?_,?_,?_,?_,.inl rfl⟩<;>first|rfl|simp
theorem qt6(b:Nat)(s:ByteArray)(w:World)(v0 v1 v3 v5 v6 v9 v10 v11:Value)(h28:28<=s.size)(hs:s.size<=65535)(hb:qbx w b #[v0,v1,I Z 0,v3,I Z 0,v5,v6,I Z 0,I Z 0,v9,v10,v11])(hf:byt s.data.toList 20=8):
  Calls prog 113 #[V (some ⟨b,0,none⟩),.string (s.extract 20 s.size)] w fun e w'=>e=.returned (.tuple #[])/\
   qbx w' b #[v0,v1,I Z (wAt s.data.toList 24),v3,I Z 0,v5,v6,I Z 8,I Z (wAt s.data.toList 26),v9,v10,v11]/\Step b none none w w':=by
 have hc:=hb.cell;have hz:=hb.free;have z2:(s.extract 20 s.size).size=s.size-20:=qef s 20 s.size (Nat.le_refl _);refine m58 ?_;intro z4;(have z5:(0:Int)<(s.size:Int)-20:=by omega);(have ge0:∀h,(((s.extract 20 s.size)[0]'h).toNat:Int)=8:=fun h=>by rw[qi8 s 0 h,hf]);refine m6e ?_;intro sd
 go_enter func113,ntmps113
 go_wp2
 go_region_held3 (fun _=>True) (trivial) (first|(go_at_call 109;refine m70 ?_;rintro e w' ⟨rfl,q,rfl⟩;simp only[Int.reduceToNat,Nat.reduceAdd]))
 all_goals
  go_wp2_with (go_at_call 109;refine m70 ?_;rintro e w' ⟨rfl,q,rfl⟩;simp only[Int.reduceToNat,Nat.reduceAdd])
 all_goals
  go_end0
  exact⟨rfl,(((hb.set 7 _).set 8 _).set 2 _).drewN _,((qif.trans qif).trans qif).trans (qp4 _ _ _)⟩
theorem qqb(b:Nat)(s:ByteArray)(w:World)(v0 v1 v3 v5 v6 v9 v10 v11:Value)(h28:28<=s.size)(hs:s.size<=65535)(hb:qbx w b #[v0,v1,I Z 0,v3,I Z 0,v5,v6,I Z 0,I Z 0,v9,v10,v11])(hf:byt s.data.toList 20=0):
  Calls prog 113 #[V (some ⟨b,0,none⟩),.string (s.extract 20 s.size)] w fun e w'=>e=.returned (.tuple #[])/\
   qbx w' b #[v0,v1,I Z 0,v3,I Z (wAt s.data.toList 24),v5,v6,I Z 0,I Z (wAt s.data.toList 26),v9,v10,v11]/\Step b none none w w':=by
 have hc:=hb.cell;have hz:=hb.free;have z2:(s.extract 20 s.size).size=s.size-20:=qef s 20 s.size (Nat.le_refl _);refine m58 ?_;intro z4;(have z5:(0:Int)<(s.size:Int)-20:=by omega);(have ge0:∀h,(((s.extract 20 s.size)[0]'h).toNat:Int)=0:=fun h=>by rw[qi8 s 0 h,hf]);refine m6e ?_;intro sd
 go_enter func113,ntmps113
 go_wp2
 go_region_held3 (fun _=>True) (trivial) (first|(go_at_call 109;refine m70 ?_;rintro e w' ⟨rfl,q,rfl⟩;simp only[Int.reduceToNat,Nat.reduceAdd]))
 all_goals
  go_wp2_with (go_at_call 109;refine m70 ?_;rintro e w' ⟨rfl,q,rfl⟩;simp only[Int.reduceToNat,Nat.reduceAdd])
 all_goals
  go_end0
  exact⟨rfl,(((hb.set 7 _).set 8 _).set 4 _).drewN _,((qif.trans qif).trans qif).trans (qp4 _ _ _)⟩
end
end Go.Proofs.YtonnjgmognbnbaaGreatDoor
