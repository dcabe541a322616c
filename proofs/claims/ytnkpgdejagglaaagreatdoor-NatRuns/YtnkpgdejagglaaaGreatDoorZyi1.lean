/-
  Of what a law stands on.
-/
import Derived.Deep.QuietTactic
import Derived.BigQuiet
import Derived.Test.YtnkpgdejagglaaaGreatDoorZyb1
set_option linter.all false
namespace Go.Proofs.YtnkpgdejagglaaaGreatDoor
open _root_.Array renaming getElem?_eq_some_iff->aV
open _root_.Go renaming Calls->az,Value->ag,World->af,maxLen->jt
open _root_.Go.Addr renaming add_lit->kV
open _root_.Go.IntKind renaming i64->eJ,u16->aS,u8->iJ
open _root_.Go.Lit renaming int->bR
open _root_.Go.Proofs.Tryz renaming prog->ah
open _root_.Go.RowKit renaming Below->aq,Hid->aK
open _root_.Go.RowKit.Below renaming heap_alloc->fV,heap_setCell->eC,refl->cA
open _root_.Go.World renaming cell?->cS,cell?_alloc_mark->en,frozen?->nk
open _root_.Int renaming reduceToNat->bI
open _root_.List renaming append_assoc->eL,length_append->aY,take_of_length_le->fC
open _root_.Nat renaming le_refl->au,le_trans->aw,lt_of_lt_of_le->bi,reduceAdd->eT,zero_add->bX
open Go.Value renaming int → I,pointer → V
open Go.IntKind renaming i64 → Z
open _root_.Go.Proofs.Tryz
set_option maxHeartbeats 16000000
set_option maxRecDepth 100000
variable {b base g k p q:Nat}{G G':Option Nat}{a w w' w1:World}{l:List UInt8}{v:Value}{t:TypeId}{o:Obj}{cs:Array Value}
structure bM where
 ae:Int
 src:Int
 aj:Int
 dst:Int
 ai:Int
 aG:Int
 id:Int
 flags:Int
 seq:Int
 bo:Int
 br:Int
 body:ByteArray
def pv(p:bM):ag:=.agg #[I Z p.ae,I Z p.src,I Z p.aj,I Z p.dst,I Z p.ai,I Z p.aG,I Z p.id,I Z p.flags,I Z p.seq,I Z p.bo,I Z p.br,.string p.body]
def bM.wf(p:bM):Prop:=(bR .i64 p.ae).wf=true/\(bR .i64 p.src).wf=true/\(bR .i64 p.aj).wf=true/\(bR .i64 p.dst).wf=true/\(bR .i64 p.ai).wf=true/\(bR .i64 p.aG).wf=true/\(bR .i64 p.id).wf=true/\(bR .i64 p.flags).wf=true/\(bR .i64 p.seq).wf=true/\(bR .i64 p.bo).wf=true/\(bR .i64 p.br).wf=true
def p0:bM:=⟨0,0,0,0,0,0,0,0,0,0,0,ByteArray.empty⟩
def jE(n:Int):Bool:=n==1||n==6||n==17
def nH(n:Int):Bool:=decide (0<=n/\n<=65535)
def pg(n:Int):Bool:=decide (0<=n/\n<=4294967295)
def Ey(p:bM):Bool:=((pg p.src&&pg p.dst&&pg p.seq&&pg p.bo)&&(nH p.aj&&nH p.ai&&nH p.id&&nH p.br))&&decide (1<=p.aG)&&decide (p.aG<=255)&&decide (0<=p.flags)&&decide (p.flags<=63)
theorem yg(p:bM):Ey p=true↔(0<=p.src/\p.src<=4294967295/\0<=p.dst/\p.dst<=4294967295/\0<=p.seq/\p.seq<=4294967295/\0<=p.bo/\p.bo<=4294967295/\
  0<=p.aj/\p.aj<=65535/\0<=p.ai/\p.ai<=65535/\0<=p.id/\p.id<=65535/\0<=p.br/\p.br<=65535/\1<=p.aG/\p.aG<=255/\0<=p.flags/\p.flags<=63):=by grind [Ey,pg,nH]
def yh(p:bM):Bool:=if p.ae=1 then((p.flags==8&&p.ai==0)||(p.flags==0&&p.aj==0))&&nH p.seq&&p.bo==0&&p.br==0 else if p.ae=17 then p.flags==0&&p.seq==0&&p.bo==0&&p.br==0 else true
theorem Ot(p:bM):yh p=true↔((p.ae=1->((p.flags=8/\p.ai=0)\/(p.flags=0/\p.aj=0))/\0<=p.seq/\p.seq<=65535/\p.bo=0/\p.br=0)/\(p.ae=17->p.flags=0/\p.seq=0/\p.bo=0/\p.br=0)):=by grind [yh,nH]
theorem Hd(n:Int):jE n=true↔n=1\/n=6\/n=17:=by grind [jE]
def good(p:bM):Int:=if jE p.ae=false then 4 else if Ey p=false then 2 else if 64<p.body.size then 5 else if yh p=false then 1 else 0
def gH(n:Int):Int:=if n=1\/n=17 then 8 else if n=6 then 20 else 0
def fJ(n:Int):Nat:=if n=1 then 22 else if n=17 then 26 else 36
def hd(p:bM)(len c:Int):List UInt8:=
 [69,0]++cr len++cr p.id++cr 0++[b8 p.aG,b8 p.ae]++cr c++iM p.src++iM p.dst
def pt(p:bM)(c:Int):List UInt8:=
 if p.ae=1 then [b8 p.flags,0]++cr c++cr (p.aj+p.ai)++cr p.seq
 else if p.ae=17 then cr p.aj++cr p.ai++cr (8+p.body.size)++cr c
 else cr p.aj++cr p.ai++iM p.seq++iM p.bo++[80,b8 p.flags]++cr p.br++cr c++cr 0
def dQ(p:bM):Int:=20+gH p.ae+p.body.size
def fr(p:bM)(c1 c2:Int):List UInt8:=hd p (dQ p) c1++(pt p c2++p.body.data.toList)
def ps(src dst ae n:Int):List UInt8:=if ae=1 then [] else iM src++iM dst++cr ae++cr n
def rO(p:bM):Int:=65535-bk (bJ (hd p (dQ p) 0))
def pK(p:bM):Int:=65535-bk (bJ (ps p.src p.dst p.ae (gH p.ae+p.body.size)++(pt p 0++p.body.data.toList)))
def oO(p:bM):Int:=if p.ae=17/\pK p=0 then 65535 else pK p
def frame(p:bM):List UInt8:=fr p (rO p) (oO p)
theorem qth(n:Int):(gH n==0)=!jE n:=by grind [gH,jE]
@[simp] theorem Q2(p:bM)(len c:Int):(hd p len c).length=20:=rfl
def q28(p:bM)(c:Int)(h:jE p.ae=true):((pt p c).length:Int)=gH p.ae:=by
 unfold jE at h
 unfold pt gH
 simp at h
 rcases h with(h|h)|h<;>simp[h,cr,iM]
def qlm(p:bM)(c1 c2:Int)(h:jE p.ae=true):((fr p c1 c2).length:Int)=dQ p:=by
 have:=q28 p c2 h
 unfold fr dQ
 simp only[aY,Q2]
 have:p.body.data.toList.length=p.body.size:=by simp
 omega
section
open Go.ChangeShapes Go.WideShapes Go.ChangeAt Go.RowKit
def q04(a:Int):0<=aS.wrap a/\aS.wrap a<=65535:=by rw[Ek];omega
def fo(c m n:Int):Int:=65535-bk (bk (65535-c%65536+(65535-m%65536))+n%65536)
theorem q3a(b:Nat)(hb:b<2^16):(2^16-1) ^^^ b=2^16-1-b:=by
 apply Nat.eq_of_testBit_eq
 intro i;(rw[Nat.testBit_xor,Nat.testBit_two_pow_sub_one,show 2^16-1-b=2^16-(b+1) by omega,Nat.testBit_two_pow_sub_succ hb])
 by_cases h:i<16
 .simp[h]
 .have:b.testBit i=false:=Nat.testBit_lt_two_pow (bi hb (Nat.pow_le_pow_right om om))
  grind
theorem Rh(x:Int)(h0:0<=x)(h1:x<=65535):bits .xor .u16 aS.max x=65535-x:=by
 rw[show aS.max=65535 from rfl,u16_xor _ _ om om om om]
 grind [q3a]
theorem VA(x:Int)(h0:0<=x)(h1:x<=65535):0<=bits .xor .u16 aS.max x/\bits .xor .u16 aS.max x<=65535:=by grind [Rh]
def q71(c m n:Int)(w:af):
  az ah 192 #[I Z c,I Z m,I Z n] w fun e w'=>e=.returned (I Z (fo c m n))/\w'=w:=by
 have hc:=q04 c;have hm:=q04 m;have hn:=q04 n;have hc':=VA _ hc.1 hc.2;have El:=VA _ hm.1 hm.2
 have E:aK (65535-bk (bk (bits .xor .u16 aS.max (aS.wrap c)+bits .xor .u16 aS.max (aS.wrap m))+aS.wrap n)=fo c m n):=by
  show _=_
  rw[Rh _ hc.1 hc.2,Rh _ hm.1 hm.2,Ek,Ek,Ek];rfl
 have hsg:aS.signed=false:=rfl;have hk:=uT (bits .xor .u16 aS.max (aS.wrap c)+bits .xor .u16 aS.max (aS.wrap m));have hk2:=uT (bk (bits .xor .u16 aS.max (aS.wrap c)+bits .xor .u16 aS.max (aS.wrap m))+aS.wrap n);have N:aK (bits .xor .u16 aS.max (bk (bk (bits .xor .u16 aS.max (aS.wrap c)+bits .xor .u16 aS.max (aS.wrap m))+aS.wrap n))=_):=Rh _ hk2.1 hk2.2;have hk3:=VA _ hk2.1 hk2.2
 go_enter func192,ntmps192
 go_wp2_with (go_at_call 173;refine(XV _ _ _ om om om om).mono ?_;rintro e w' ⟨rfl,rfl⟩)
 go_ret
 exact⟨lQ (by rw[N.out];exact E.out),rfl⟩
theorem q2o(s:ByteArray)(w:af)(hs:s.size<=562949953421312):
  az ah 193 #[.string s] w fun e w'=>e=.returned (I Z (65535-bk (bJ s.data.toList)))/\w'=w:=by
 have hk:=uT (bJ s.data.toList);have N:aK (bits .xor .u16 aS.max (bk (bJ s.data.toList))=65535-bk (bJ s.data.toList)):=Rh _ hk.1 hk.2;have hb:=VA _ hk.1 hk.2;have hsg:aS.signed=false:=rfl
 go_enter func193,ntmps193
 go_wp2_with (go_at_call 123;refine(XX _ _ hs).mono ?_;rintro e w' ⟨rfl,rfl⟩)
 go_ret
 exact⟨lQ N.out,rfl⟩
structure cf(p:Nat)(G G':Option Nat)(w w':af):Prop where
 os:w'.os=w.os
 tape:w'.tape=w.tape
 output:w'.output=w.output
 size:w.heap.size<=w'.heap.size
 block:∀k,k<w.heap.size->k≠p->some k≠G->w'.heap[k]?=w.heap[k]?
 lies:G'=G\/∃k,G'=some k/\w.heap.size<=k
def cf.refl(p:Nat)(G:Option Nat)(w:af):cf p G G w w:=⟨rfl,rfl,rfl,au _,fun _ _ _ _=>rfl,.inl rfl⟩
theorem cf.trans{G'':Option Nat}{b c:af}(h:cf p G G' a b)(k:cf p G' G'' b c):cf p G G'' a c:=by
 refine⟨k.os.trans h.os,k.tape.trans h.tape,k.output.trans h.output,aw h.size k.size,fun i hi hp hG=>?_,?_⟩
 .refine(k.block i (bi hi h.size) hp ?_).trans (h.block i hi hp hG)
  rcases h.lies with e|⟨j,e,hj⟩
  .grind
  grind
 .rcases k.lies with e|⟨j,e,hj⟩
  .rw[e];exact h.lies
  .exact .inr ⟨j,e,aw h.size hj⟩
def cf.alloc{b:af}(h:cf p G G' a b)(o:Obj):cf p G G' a (b.alloc o):=
 ⟨h.os,h.tape,h.output,aw h.size zm,fun k hk hp hG=>(fV b o k (bi hk h.size)).trans (h.block k hk hp hG),h.lies⟩
def cf.drew{b:af}(h:cf p G G' a b):cf p G G' a b.drew:=⟨h.os,h.tape,h.output,h.size,h.block,h.lies⟩
def cf.below{B:Nat}{b:af}(h:cf p G G' a b)(hB:B<=a.heap.size)(hp:B<=p)(hG:∀k,G=some k->B<=k):aq B a b:=
 ⟨h.os,h.tape,h.output,h.size,fun k hk=>h.block k om om (fun e=>by have:=hG k e.symm;omega)⟩
def cf.gh{b:af}(h:aq a.heap.size a b):cf p G G a b:=
 ⟨h.os,h.tape,h.output,h.size,fun k hk _ _=>h.block k hk,.inl rfl⟩
def cf.cell{b:af}(h:cf p G G' a b)(hq:q<a.heap.size)(hp:q≠p)(hG:some q≠G):∀o,b.cell? ⟨q,o,none⟩=a.cell? ⟨q,o,none⟩:=
 fun o=>World.cell?_of_block (w:=a) (a:=⟨q,o,none⟩) (h.block q hq hp hG)
def Fr(w:af)(p:Nat)(G:Option Nat)(l:List UInt8):Prop:=
 ∃v,w.heap[p]?=some (.cells #[v] 133 (0,0))/\v.ownBlock=G/\w.ownsRow (p+1) 5 1 v l.length (bc l)
def Fr.lt(h:Fr w p G l):p<w.heap.size:=by
 obtain⟨v,h1,_⟩:=h;exact(aV.1 h1).1
def Fr.own(h:Fr w p G l):∀k,G=some k->p<k/\k<w.heap.size:=by
 obtain⟨v,h1,h2,h3⟩:=h;intro k hk
 have:=h3.lt k (h2.trans hk);omega
def Fr.A2(h:Fr w p G l):w.heap.size≠p/\some w.heap.size≠G:=by
 refine⟨by have:=h.lt;omega,fun e=>?_⟩
 have:=h.own _ e.symm;omega
def Fr.alloc(h:Fr w p G l)(o:Obj):Fr (w.alloc o) p G l:=by
 have hp:=h.lt;obtain⟨v,h1,h2,h3⟩:=h
 exact⟨v,(fV w o p hp).trans h1,h2,h3.alloc o⟩
theorem Fr.below(h:Fr w p G l)(hb:aq w.heap.size w w'):Fr w' p G l:=by
 have hp:=h.lt;obtain⟨v,h1,h2,h3⟩:=h
 refine⟨v,(hb.block p hp).trans h1,h2,h3.1,?_⟩
 rcases h3.2 with hn|⟨g,cap,cur,rfl,hbg,hg,r⟩
 .grind
 .exact .inr ⟨g,cap,cur,rfl,hbg,(hb.block g (aV.1 hg).1).trans hg,r⟩
def Fr.drew(h:Fr w p G l):Fr w.drew p G l:=h
def qog(h:cf p G G' w.drew w'):cf p G G' w w':=⟨h.os,h.tape,h.output,h.size,h.block,h.lies⟩
def OI(h:w.heap[p]?=some (.cells #[v] t (0,0))):w.cell? ⟨p,0,none⟩=some v/\w.frozen? ⟨p,0,none⟩=false:=by
 constructor
 .simp[World.cell?,h]
 .simp[World.frozen?,h]
def qsw{e:TypeId}{size:Nat}{n:Nat}{xs:List ag}(h:w.ownsRow base e size v n xs):∃ao m c,v=.slice ao m c:=by
 rcases h.2 with⟨rfl,_⟩|⟨g,cap,cur,rfl,_⟩
 .simp
 simp
def qs5{v':ag}{news:List UInt8}(h1:w.heap[p]?=some (.cells #[v] 133 (0,0)))(h3:w.ownsRow (p+1) 5 1 v l.length (bc l))(hown:w1.ownsRow (p+1) 5 1 v' (l.length+news.length) (bc l++bc news))(hgrow:w.grownBy w1 v.ownBlock)(hat:v'.ownBlock=v.ownBlock\/v'.ownBlock=some w.heap.size):
  (∃G',Fr (w1.setCell ⟨p,0,none⟩ v') p G' (l++news)/\cf p v.ownBlock G' w (w1.setCell ⟨p,0,none⟩ v')):=by
 have hp:p<w.heap.size:=(aV.1 h1).1;(have hne:some p≠v.ownBlock:=fun e=>by have:=h3.lt p e.symm;omega);have hb1:w1.heap[p]?=some (.cells #[v] 133 (0,0)):=(hgrow.block p hp hne).trans h1
 refine⟨v'.ownBlock,⟨v',one_setCell hb1,rfl,?_⟩,hgrow.os,hgrow.tape,hgrow.output,aw hgrow.size zm,?_,?_⟩
 .have:=ownsRow_setCell_below hown (a:=⟨p,0,none⟩) zm v'
  rw[XJ,aY];exact this
 .intro k hk hkp hkG;rw[eC _ _ _ _ (by simpa using hkp)]
  exact hgrow.block k hk hkG
 .rcases hat with e|e
  .exact .inl e
  .exact .inr ⟨_,e,au _⟩
def VB(p:Nat)(G:Option Nat)(l:List UInt8)(w:af)(h:Fr w p G l)(g0 c:Nat)(news:List UInt8)(hc:∀j u,(bc news)[j]?=some u->w.cell? ⟨g0,j,none⟩=some u)(hl:l.length+news.length<=1000000):
  az ah 181 #[V (some ⟨p,0,none⟩),.slice (some ⟨g0,0,none⟩) news.length c] w fun e w'=>e=.returned (.tuple #[])/\∃G',Fr w' p G' (l++news)/\cf p G G' w w':=by
 have hlt:=h.lt
 obtain⟨v,h1,rfl,h3⟩:=h
 obtain⟨hcell,Xr⟩:=OI h1;obtain⟨i0,hi,hz0,hz1,hz2⟩:=info_parts UI
 have ub:Src ah 1 131 (.slice (some ⟨g0,0,none⟩) news.length c) news.length (bc news) w:=
  Src.ofSlice w underlying131 ⟨g0,0,none⟩ news.length c (bc news) (by simp[bc]) (fun j u hu=>by rw[kV,bX];exact hc j u hu) (XL _)
 go_enter func181,ntmps181
 go_wp2_with (at_builtin;refine UH _ rfl (.tmp 8) (.tmp 9) 131 131 rfl (p+1) 5 i0 (.int .u8 0) underlying131 hi hz0 hz1 hz2 rfl v l.length (bc l) rfl h3 _ news.length (bc news) rfl ub om om ?_)
 intro v' w1 hown hgrow hat;(have hne:some p≠v.ownBlock:=fun e=>by have:=h3.lt p e.symm;omega);obtain⟨Mk,qcL⟩:=OI ((hgrow.block p hlt hne).trans h1)
 obtain⟨ao,vn,vc,rfl⟩:=qsw hown
 go_wp2
 go_end0
 exact⟨rfl,qs5 h1 h3 hown hgrow hat⟩
def qmm(p:Nat)(G:Option Nat)(l:List UInt8)(w:af)(h:Fr w p G l)(s:ByteArray)(hl:l.length+s.size<=1000000):
  az ah 175 #[V (some ⟨p,0,none⟩),.string s] w fun e w'=>e=.returned (.tuple #[])/\∃G',Fr w' p G' (l++s.data.toList)/\cf p G G' w w':=by
 have hlt:=h.lt
 obtain⟨v,h1,rfl,h3⟩:=h
 obtain⟨hcell,Xr⟩:=OI h1;obtain⟨i0,hi,hz0,hz1,hz2⟩:=info_parts UI
 have ub:Src ah 1 9 (.string s) s.data.toList.length (bc s.data.toList) w:=by
  have:=Src.ofString (P:=ah) w underlying9 s
  rw[q73] at this
  (have e:s.data.toList.length=s.size:=by simp)
  rw[e];exact this
 (have hl':l.length+s.data.toList.length<=1000000:=by simpa using hl)
 go_enter func175,ntmps175
 go_wp2_with (at_builtin;refine UH _ rfl (.tmp 8) (.tmp 9) 131 9 rfl (p+1) 5 i0 (.int .u8 0) underlying131 hi hz0 hz1 hz2 rfl v l.length (bc l) rfl h3 _ s.data.toList.length (bc s.data.toList) rfl ub om om ?_)
 intro v' w1 hown hgrow hat;(have hne:some p≠v.ownBlock:=fun e=>by have:=h3.lt p e.symm;omega);obtain⟨Mk,qcL⟩:=OI ((hgrow.block p hlt hne).trans h1)
 obtain⟨ao,vn,vc,rfl⟩:=qsw hown
 go_wp2
 go_end0
 exact⟨rfl,qs5 h1 h3 hown hgrow hat⟩
def qkg(w:af)(g:Nat)(hg:w.heap.size=g)(a b:UInt8)(x y:Int)(hx:x=(a.toNat:Int))(hy:y=(b.toNat:Int)):∀j u,(bc [a,b])[j]?=some u->(w.alloc (.cells #[.int .u8 x,.int .u8 y] 5)).cell? ⟨g,j,none⟩=some u:=by
 intro j u hu
 subst hx hy hg
 have e:=en w #[.int .u8 (a.toNat:Int),.int .u8 (b.toNat:Int)] 5 (0,0) j;refine e.trans ?_
 match j,hu with
 | 0,hu=>simpa[bc] using hu
 | 1,hu=>simpa[bc] using hu
 | n+2,hu=>simp[bc] at hu
def Ri(h:cf p G G' (w.alloc o) w'):cf p G G' w w':=
 ((cf.refl p G w).alloc o).trans h
def qgo(p:Nat)(G:Option Nat)(l:List UInt8)(w:af)(h:Fr w p G l)(n:Int)(hl:l.length+2<=1000000):
  az ah 176 #[V (some ⟨p,0,none⟩),I Z n] w fun e w'=>e=.returned (.tuple #[])/\∃G',Fr w' p G' (l++cr n)/\cf p G G' w w':=by
 (have hx:iJ.wrap (n/256)=((b8 (n/256)).toNat:Int):=by rw[GK,qR]);(have hy:iJ.wrap n=((b8 n).toNat:Int):=by rw[GK,qR]);have HC:=qkg w _ rfl (b8 (n/256)) (b8 n) _ _ hx hy;clear hx hy
 go_enter func176,ntmps176
 go_wp2_with (go_at_call 181;refine(VB p G l _ (h.alloc _) w.heap.size 2 (cr n) HC (by simp[cr];omega)).mono ?_;rintro e w' ⟨rfl,G',hf,hst⟩)
 go_end0
 exact⟨rfl,G',hf,Ri hst⟩
def qp9(p:Nat)(G:Option Nat)(l:List UInt8)(w:af)(h:Fr w p G l)(n:Int)(hl:l.length+4<=1000000):
  az ah 211 #[V (some ⟨p,0,none⟩),I Z n] w fun e w'=>e=.returned (.tuple #[])/\∃G',Fr w' p G' (l++iM n)/\cf p G G' w w':=by
 have hS:=cf.refl p G w
 go_enter func211,ntmps211
 go_wp2_with (go_at_call 176;refine(qgo p _ _ _ h _ (by(try simp)<;>omega)).mono ?_;rintro e w' ⟨rfl,G1,h,hst⟩;replace hS:=hS.trans hst;clear hst)
 go_end0
 exact⟨rfl,_,by rw[eL] at h;exact h,hS⟩
def nY{p:Prop}(h:p:=by
 go_wp2
 go_ret
 exact⟨rfl,rfl⟩):p:=h
def vD{p:Prop}(h:p:=by
 go_enter func124,ntmps124
 exact nY):p:=h
def qbz(n:Int)(w:af):az ah 124 #[I Z n] w fun e w'=>e=.returned (I Z (gH n))/\w'=w:=by
 unfold gH
 by_cases h1:n=1
 .subst h1
  exact vD
 by_cases h2:n=17
 .subst h2
  exact vD
 by_cases h3:n=6
 .subst h3
  exact vD
 go_enter func124,ntmps124
 go_wp2
 go_ret
 exact⟨lQ zm,rfl⟩
def Hg(n:Int)(w:af):az ah 126 #[I Z n] w fun e w'=>e=.returned (I Z (fJ n))/\w'=w:=by
 unfold fJ
 by_cases h1:n=1
 .subst h1
  go_enter func126,ntmps126
  exact nY
 by_cases h2:n=17
 .subst h2
  go_enter func126,ntmps126
  exact nY
 go_enter func126,ntmps126
 go_wp2
 go_ret
 exact⟨lQ zm,rfl⟩
theorem Hb(w:af)(cs:Array ag)(t:TypeId):∀o,(w.alloc (.cells cs t)).cell? ⟨w.heap.size,o,none⟩=cs[o]?:=fun o=>en w cs t (0,0) o
theorem q4j(w:af)(l:List UInt8)(cs:Array ag)(h:cs=(bc l).toArray):∀j u,(bc l)[j]?=some u->(w.alloc (.cells cs 5)).cell? ⟨w.heap.size,j,none⟩=some u:=by simp_all
structure Fu(b p:Nat)(G:Option Nat)(w:af)(cs:Array ag):Prop where
 lt:b<w.heap.size
 np:b≠p
 nG:some b≠G
 cell:∀o,w.cell? ⟨b,o,none⟩=cs[o]?
theorem Fu.step(h:Fu b p G w cs)(st:cf p G G' w w'):Fu b p G' w' cs:=by
 refine⟨bi h.lt st.size,h.np,?_,fun o=>(st.cell h.lt h.np h.nG o).trans (h.cell o)⟩
 rcases st.lies with e|⟨k,e,hk⟩
 .rw[e];exact h.nG
 .rw[e];intro x;have:=Option.some.inj x;have:=h.lt;omega
def Fu.alloc(h:Fu b p G w cs)(o:Obj):Fu b p G (w.alloc o) cs:=
 h.step ((cf.refl p G w).alloc o)
def qx3(h:Fr w p G l)(cs:Array Value)(t:TypeId):Fu w.heap.size p G (w.alloc (.cells cs t)) cs:=
 ⟨by simp,h.A2.1,h.A2.2,Hb w cs t⟩
def qp1(p:Nat)(G:Option Nat)(l:List UInt8)(w:af)(h:Fr w p G l)(k:bM)(len:Int)(hl:l.length+20<=1000000):
  az ah 180 #[V (some ⟨p,0,none⟩),pv k,I Z len] w fun e w'=>e=.returned (.tuple #[])/\∃G',Fr w' p G' (l++hd k len 0)/\cf p G G' w w':=by
 unfold pv
 (have H1:aK (iJ.wrap k.aG=((b8 k.aG).toNat:Int)):=by show _=_;rw[GK,qR]);(have H2:aK (iJ.wrap k.ae=((b8 k.ae).toNat:Int)):=by show _=_;rw[GK,qR]);have hI:=qx3 h #[I Z k.ae,I Z k.src,I Z k.aj,I Z k.dst,I Z k.ai,I Z k.aG,I Z k.id,I Z k.flags,I Z k.seq,I Z k.bo,I Z k.br,.string k.body] 77;have hS:=(cf.refl p G w).alloc (.cells #[I Z k.ae,I Z k.src,I Z k.aj,I Z k.dst,I Z k.ai,I Z k.aG,I Z k.id,I Z k.flags,I Z k.seq,I Z k.bo,I Z k.br,.string k.body] 77);replace h:=h.alloc (.cells #[I Z k.ae,I Z k.src,I Z k.aj,I Z k.dst,I Z k.ai,I Z k.aG,I Z k.id,I Z k.flags,I Z k.seq,I Z k.bo,I Z k.br,.string k.body] 77)
 go_enter func180,ntmps180
 go_wp2_with (first|(go_at_call 181;(refine(VB p _ _ _ (h.alloc _) _ 2 [69,0] (qkg _ _ zm 69 0 _ _ (by decide) (by decide)) (by(try simp)<;>omega)).mono ?_;rintro e w' ⟨rfl,G1,h,hst⟩;replace hst:=Ri hst;refine Hh ?_;clear hI hS hst;intro hI hS jR))|(go_at_call 176;refine(qgo p _ _ _ h _ (by(try simp)<;>omega)).mono ?_;rintro e w' ⟨rfl,G1,h,hst⟩;refine Hh ?_;clear hI hS hst;intro hI hS jR)|(go_at_call 211;refine(qp9 p _ _ _ h _ (by(try simp)<;>omega)).mono ?_;rintro e w' ⟨rfl,G1,h,hst⟩;refine Hh ?_;clear hI hS hst;intro hI hS jR)|(go_at_call 181;(refine(VB p _ _ _ (h.alloc _) _ 2 [b8 k.aG,b8 k.ae] (qkg _ _ zm (b8 k.aG) (b8 k.ae) _ _ H1.out H2.out) (by(try simp)<;>omega)).mono ?_;rintro e w' ⟨rfl,G1,h,hst⟩;replace hst:=Ri hst;refine Hh ?_;clear hI hS hst;intro hI hS jR)))
 go_end0
 exact⟨rfl,_,by simp only[eL] at h;simpa only[hd,eL] using h,hS⟩
def Rd(w:af)(p g:Nat)(l:List UInt8):Prop:=
 ∃cap cur mk,w.heap[p]?=some (.cells #[.slice (some ⟨g,0,none⟩) l.length cap] 133 (0,0))/\p≠g/\w.heap[g]?=some (.cells cur 5 mk)/\(mk=(0,0)\/cur.size<=mk.1)/\l.length<=cap/\cap<=jt/\cur.toList.take l.length=bc l
theorem Fr.rd(h:Fr w p G l)(hl:l≠[]):∃g,G=some g/\p<g/\Rd w p g l:=by
 obtain⟨v,h1,h2,h3,h4⟩:=h
 rcases h4 with⟨_,h0⟩|⟨g,cap,cur,rfl,hbg,hg,y7,hcm,hcs,GJ⟩
 .grind
 .exact⟨g,by rw[←h2];rfl,by omega,cap,cur,(0,0),h1,by omega,hg,.inl rfl,y7,hcm,by simpa using GJ⟩
theorem Rd.lt(h:Rd w p g l):p<w.heap.size/\g<w.heap.size/\p≠g:=by
 obtain⟨cap,cur,mk,h1,h2,h3,_⟩:=h
 grind
def Rd.small(h:Rd w p g l):l.length<=jt:=by
 obtain⟨cap,cur,mk,h1,h2,h3,h4,h5,h6,h7⟩:=h
 omega
def Rd.below(h:Rd w p g l)(hb:aq w.heap.size w w'):Rd w' p g l:=by
 have hlt:=h.lt;obtain⟨cap,cur,mk,h1,h2,h3,r⟩:=h
 exact⟨cap,cur,mk,(hb.block p hlt.1).trans h1,h2,(hb.block g hlt.2.1).trans h3,r⟩
def Rd.alloc(h:Rd w p g l)(o:Obj):Rd (w.alloc o) p g l:=
 h.below ((cA _ _).alloc (au _) _)
theorem Rd.at_(h:Rd w p g l)(k:Nat)(hk:k<l.length):w.cell? ⟨g,k,none⟩=some (.int .u8 (aC l k))/\w.frozen? ⟨g,k,none⟩=false:=by
 obtain⟨cap,cur,mk,h1,h2,h3,h4,h5,h6,h7⟩:=h
 have hs:l.length<=cur.size:=by
  grind [XI]
 have e:cur[k]?=some (.int .u8 (aC l k)):=by
  unfold aC
  have:=congrArg (fun x:List ag=>x[k]?) h7
  grind [XK]
 refine⟨by simp[cS,h3,e],?_⟩
 rcases h4 with rfl|h4
 .simp[nk,h3]
 .obtain⟨lo,hi⟩:=mk
  simp at h4
  simp[nk,h3];omega
def Rd.facts(h:Rd w p g l):∃cap,w.cell? ⟨p,0,none⟩=some (.slice (some ⟨g,0,none⟩) l.length cap)/\w.frozen? ⟨p,0,none⟩=false/\l.length<=cap/\cap<=jt/\
  ∀m,m<=l.length->(convert 131 9 (.slice (some ⟨g,0,none⟩) m cap)).run ah w=.ok (.string (bl (l.take m))) w:=by
 have hat:=h.at_;obtain⟨cap,cur,mk,h1,h2,h3,h4,h5,h6,h7⟩:=h
 refine⟨cap,(OI h1).1,(OI h1).2,h5,h6,fun m hm=>?_⟩
 (have hl:(l.take m).length=m:=by rw[List.length_take];omega)
 have:=run_convert_bytes_back (P:=ah) w 131 9 5 ⟨g,0,none⟩ cap (l.take m) underlying131 underlying5 underlying9 (by
  intro j hj;have e:=(hat j om).1;rw[kV,bX,e]
  unfold aC
  simp[List.getD,show j<l.length by omega])
 rw[hl] at this
 exact this
def qpq{cur:Array ag}{mk:Nat×Nat}(h:w.heap[g]?=some (.cells cur t mk)):(w.setCell ⟨g,k,none⟩ v).heap[g]?=some (.cells (cur.setIfInBounds k v) t mk):=by
 rw[setCell_eq_setRow w g k cur t mk v h]
 exact setRow_heap w g cur _ t _ h
theorem Rd.set(h:Rd w p g l)(k:Nat)(c:UInt8)(x:Int)(hx:x=(c.toNat:Int)):Rd (w.setCell ⟨g,k,none⟩ (.int .u8 x)) p g (l.set k c):=by
 subst hx
 obtain⟨cap,cur,mk,h1,h2,h3,h4,h5,h6,h7⟩:=h
 refine⟨cap,_,mk,?_,h2,qpq h3,?_,by simpa using h5,h6,?_⟩
 .rw[eC _ _ _ _ (by simpa using h2),List.length_set];exact h1
 .grind
 .rw[List.length_set,Array.toList_setIfInBounds,List.take_set,h7]
  simp[bc,List.map_set]
def qv6:cf p (some g) (some g) w (w.setCell ⟨g,k,none⟩ v):=
 ⟨rfl,rfl,rfl,by simp[World.setCell],fun i _ _ hi=>eC _ _ _ _ (fun e=>hi (by rw[e])),.inl rfl⟩
def VC(p g:Nat)(l:List UInt8)(w:af)(h:Rd w p g l)(k:Nat)(n:Int)(hk:k+1<l.length):
  az ah 191 #[V (some ⟨p,0,none⟩),I Z k,I Z n] w fun e w'=>e=.returned (.tuple #[])/\Rd w' p g (et l k n)/\cf p (some g) (some g) w w':=by
 (have HX:aK (iJ.wrap (n/256)=((b8 (n/256)).toNat:Int)):=by show _=_;rw[GK,qR]);(have HY:aK (iJ.wrap n=((b8 n).toNat:Int)):=by show _=_;rw[GK,qR]);have hne:=h.lt.2.2;(have qjT:g≠p:=fun e=>hne e.symm);obtain⟨c1,f1⟩:=h.at_ k om;obtain⟨c2,f2⟩:=h.at_ (k+1) om
 obtain⟨cap,hp,_,Fv,hcm,_⟩:=h.facts
 unfold jt at hcm
 go_enter func191,ntmps191
 go_wp2
 go_end0
 exact⟨rfl,(h.set k _ _ HX.out).set (k+1) _ _ HY.out,qv6.trans qv6⟩
def VD(p g:Nat)(l:List UInt8)(w:af)(h:Rd w p g l):
  az ah 87 #[V (some ⟨p,0,none⟩)] w fun e w'=>e=.returned (.string (bl l))/\w'=w:=by
 obtain⟨cap,hp,_,Fv,hcm,hcv⟩:=h.facts
 have qcM:=hcv l.length (au _)
 rw[List.take_length] at qcM
 clear hcv
 go_enter func87,ntmps87
 go_wp2
 go_ret
 exact⟨rfl,rfl⟩
def q0n(p g n:Nat)(w:af):cf p (some g) (some g) w (w.drewN n):=by
 refine⟨?_,?_,?_,?_,?_,.inl rfl⟩<;>first|rfl|simp
theorem Rd.drewN(h:Rd w p g l)(n:Nat):Rd (w.drewN n) p g l:=by
 unfold Rd at *
 simp_all
def qli(p g:Nat)(l:List UInt8)(w:af)(h:Rd w p g l)(k:Nat)(hk:k+1<l.length):
  az ah 144 #[V (some ⟨p,0,none⟩),I Z k] w fun e w'=>e=.returned (I Z (bf l k))/\Rd w' p g l/\cf p (some g) (some g) w w':=by
 obtain⟨c1,f1⟩:=h.at_ k om;obtain⟨c2,f2⟩:=h.at_ (k+1) om
 obtain⟨cap,hp,_,Fv,hcm,_⟩:=h.facts
 unfold jt at hcm
 obtain⟨b1,b2⟩:=nE l k;obtain⟨b3,b4⟩:=nE l (k+1);have J:aK (bits .or .i64 (aC l k*256) (aC l (k+1))=bf l k):=q7e _ _ b1 b2 b3 b4;(have i1:(k:Int)<(l.length:Int):=by omega)
 go_enter func144,ntmps144
 go_wp2
 go_quiet (fail)
 go_wp2
 go_ret
 exact⟨lQ J.out,h.drewN nq,q0n p g nq w⟩
def Vt{a b:ByteArray}(h:a=b):Ending.returned (.string a)=.returned (.string b):=by rw[h]
theorem G9(s:ByteArray)(a b:Nat):(s.extract a b).data.toList=(s.data.toList.drop a).take (b-a):=by simp
theorem wZ(s:ByteArray)(a:Nat):(s.extract a s.size).data.toList=s.data.toList.drop a:=by
 rw[G9,fC]
 simp
theorem wX(s:ByteArray)(a b:Nat)(h:b<=s.size):(s.extract a b).size=b-a:=by simp_all
def dY(l:List UInt8)(ae:Int):List UInt8:=
 if ae=1 then l.drop 20 else(l.drop 12).take 8++(cr ae++(cr ((l.length:Int)-20)++l.drop 20))
theorem qv0(l:List UInt8)(ae:Int):(dY l ae).length<=l.length+12:=by
 unfold dY;split<;>simp<;>omega
def qwg(w:af):Fr (w.alloc (.cells #[.slice none 0 0] 133)) w.heap.size none []:=
 ⟨_,heap_alloc_new w _,rfl,World.ownsRow_nil _ _ _ _⟩
def qoc(h:cf w.heap.size none G' (w.alloc o) w'):Below w.heap.size w w':=
 ((Below.refl _ _).alloc (Nat.le_refl _) o).trans (h.below zm (Nat.le_refl _) (fun k e=>by cases e))
def VE(s:ByteArray)(ae:Int)(w:af)(h0:20<=s.size)(h1:s.size<=500000):
  az ah 125 #[.string s,I Z ae] w fun e w'=>e=.returned (.string (bl (dY s.data.toList ae)))/\aq w.heap.size w w':=by
 by_cases hp:ae=1
 .subst hp
  go_enter func125,ntmps125
  go_wp2
  go_ret
  exact⟨Vt (by rw[←P4 (s.extract 20 s.size),wZ];rfl),cA _ _⟩
 .have h:=qwg w;have hS:=(cf.refl w.heap.size none (w.alloc (.cells #[.slice none 0 0] 133)));have z1:(s.extract 12 20).size=8:=wX s 12 20 h0;refine Rj ?_;intro z2 z3
  have E:aK (dY s.data.toList ae=(s.extract 12 20).data.toList++cr ae++cr ((s.size:Int)-20)++(s.extract 20 s.size).data.toList):=by
   show _=_
   (have e:s.data.toList.length=s.size:=by simp)
   rw[wZ,G9,dY,aT hp,e];simp
  go_enter func125,ntmps125
  go_wp2_with (first|(go_at_call 175;refine(qmm _ _ _ _ h _ (by simp[z1,z2]<;>omega)).mono ?_;rintro e w' ⟨rfl,G1,h,hst⟩;replace hS:=hS.trans hst;clear hst)|(go_at_call 176;refine(qgo _ _ _ _ h _ (by(try simp)<;>omega)).mono ?_;rintro e w' ⟨rfl,G1,h,hst⟩;replace hS:=hS.trans hst;clear hst)|(go_at_call 87;obtain⟨g,hG,hpg,na⟩:=h.rd (by intro e;have:=congrArg List.length e;simp at this);refine(VD _ g _ _ na).mono ?_;rintro e w' ⟨rfl,rfl⟩))
  go_ret
  exact⟨Vt (by rw[E.out];simp),qoc hS⟩
theorem qq9(l:List UInt8)(w:af)(hs:l.length<=562949953421312):
  az ah 193 #[.string (bl l)] w fun e w'=>e=.returned (I Z (65535-bk (bJ l)))/\w'=w:=by grind [q2o,bl,kY,zW,bJ]
theorem q77(l:List UInt8)(w:af)(hs:l.length<=562949953421312):
  az ah 123 #[.string (bl l)] w fun e w'=>e=.returned (I Z (bk (bJ l)))/\w'=w:=by grind [XX,bl,kY,zW,bJ]
def ckH(l:List UInt8):Int:=65535-bk (bJ (l.take 20))
def q0r(l:List UInt8):List UInt8:=et (et l 10 0) 10 (ckH (et l 10 0))
def qob(p g:Nat)(l:List UInt8)(w:af)(h:Rd w p g l)(hl:20<=l.length):
  az ah 182 #[V (some ⟨p,0,none⟩)] w fun e w'=>e=.returned (.tuple #[])/\Rd w' p g (q0r l)/\cf p (some g) (some g) w w':=by
 have hS:=cf.refl p (some g) w
 go_enter func182,ntmps182
 go_wp2_with (first|(go_at_call 191;refine(VC p g _ _ h 10 _ (by(try simp)<;>omega)).mono ?_;rintro e w' ⟨rfl,h,hst⟩;replace hS:=hS.trans hst;clear hst;obtain⟨cap,hpc,_,Fv,hcm,hcv⟩:=h.facts;have qjD:=hcv 20 (by(try simp)<;>omega);clear hcv;unfold jt at hcm;simp only[q6p] at Fv)|(go_at_call 193;refine(qq9 _ _ (by(try simp)<;>omega)).mono ?_;rintro e w' ⟨rfl,rfl⟩))
 go_end0
 exact⟨rfl,h,hS⟩
def zr(l:List UInt8)(ae:Int):Int:=65535-bk (bJ (dY l ae))
def Hi(c ae:Int):Int:=if ae=17/\c=0 then 65535 else c
def A3(l:List UInt8)(ae:Int):List UInt8:=et (et l (fJ ae) 0) (fJ ae) (Hi (zr (et l (fJ ae) 0) ae) ae)
def A4{p:Prop}(h:p:=by
 go_enter func147,ntmps147
 go_wp2_with (first|(go_at_call 126;refine(Hg _ _).mono ?_;rintro e w' ⟨rfl,rfl⟩)|(go_at_call 191;refine(VC p g _ _ h (fJ ae) _ (by(try simp)<;>omega)).mono ?_;rintro e w' ⟨rfl,h,hst⟩;replace hS:=hS.trans hst;clear hst)|(go_at_call 87;refine(VD p g _ _ h).mono ?_;rintro e w' ⟨rfl,rfl⟩)|(go_at_call 125;refine(VE _ _ _ (by rw[kY];(try simp)<;>omega) (by rw[kY];(try simp)<;>omega)).mono ?_;rintro e w' ⟨rfl,hb⟩;rw[zW];replace h:=h.below hb;replace hS:=hS.trans (cf.gh hb);clear hb)|(go_at_call 193;refine(hck _ _ (by(try simp)<;>omega)).mono ?_;rintro e w' ⟨rfl,rfl⟩))
 go_end0
 exact⟨rfl,by unfold A3;rw[Q.out];exact h,hS⟩):p:=h
def A5{p:Prop}(h:p:=by
 (have Qp:(ae==17)=true:=by simpa using hu);clear hc hu
 exact A4):p:=h
def qlk(p g:Nat)(l:List UInt8)(w:af)(h:Rd w p g l)(ae:Int)(hl:fJ ae+1<l.length)(hm:l.length<=400000):
  az ah 147 #[V (some ⟨p,0,none⟩),I Z ae] w fun e w'=>e=.returned (.tuple #[])/\Rd w' p g (A3 l ae)/\cf p (some g) (some g) w w':=by
 have hS:=cf.refl p (some g) w;(have i3:20<=fJ ae:=by unfold fJ;split<;>(try split)<;>omega)
 have hck:∀(l:List UInt8) (w:af),l.length<=500000->az ah 193 #[.string (bl (dY l ae))] w fun e w'=>e=.returned (I Z (zr l ae))/\w'=w:=by
  intro l w h'
  have:=qv0 l ae
  exact qq9 (dY l ae) w om
 by_cases hu:ae=17
 .by_cases hc:zr (et l (fJ ae) 0) ae=0
  ·(have Q:aK (Hi (zr (et l (fJ ae) 0) ae) ae=65535):=by show _=_;unfold Hi;rw[aZ ⟨hu,hc⟩]);(have hc':(zr (et l (fJ ae) 0) ae==0)=true:=by simpa using hc)
   exact A5
  ·(have Q:aK (Hi (zr (et l (fJ ae) 0) ae) ae=zr (et l (fJ ae) 0) ae):=by show _=_;unfold Hi;rw[aT (fun e=>hc e.2)]);(have hc':(zr (et l (fJ ae) 0) ae==0)=false:=by simpa using hc)
   exact A5
 ·(have Q:aK (Hi (zr (et l (fJ ae) 0) ae) ae=zr (et l (fJ ae) 0) ae):=by show _=_;unfold Hi;rw[aT (fun e=>hu e.1)]);(have Qp:(ae==17)=false:=by simpa using hu);clear hu
  exact A4
def ud(pos:Nat)(n:Int)(l:List UInt8)(c:Nat):List UInt8:=et l c (fo (bf l c) (bf l pos) n)
def ny(pos:Nat)(n:Int)(l:List UInt8)(cs:List Nat):List UInt8:=cs.foldl (ud pos n) l
@[simp] theorem qjU(pos:Nat)(n:Int)(l:List UInt8)(c:Nat):(ud pos n l c).length=l.length:=by simp[ud]
@[simp] theorem qjV(pos:Nat)(n:Int)(l:List UInt8)(cs:List Nat):(ny pos n l cs).length=l.length:=by
 unfold ny
 induction cs generalizing l with
 | nil=>rfl
 | cons c r ih=>simp[List.foldl_cons,ih]
theorem q2v(pos:Nat)(n:Int)(l:List UInt8)(cs:List Nat)(k:Nat)(h:k<cs.length):ny pos n l (cs.take (k+1))=ud pos n (ny pos n l (cs.take k)) cs[k]:=by
 unfold ny
 rw[List.take_succ_eq_append_getElem h,List.foldl_append];rfl
def yt(p g:Nat)(l:List UInt8)(w:af)(h:Rd w p g l)(pos:Nat)(n:Int)(cs:List Nat)(sb cap:Nat)(zZ:sb<w.heap.size)(hsp:sb≠p)(hsg:sb≠g)(hcell:∀j (hj:j<cs.length),w.cell? ⟨sb,j,none⟩=some (I Z ((cs[j]:Nat):Int)))(gI:pos+1<l.length)(hcs:∀c∈cs,c+1<l.length)(nV:cs.length<=100):
  az ah 143 #[V (some ⟨p,0,none⟩),I Z pos,I Z n,.slice (some ⟨sb,0,none⟩) cs.length cap] w fun e w'=>e=.returned (.tuple #[])/\Rd w' p g (et (ny pos n l cs) pos n)/\cf p (some g) (some g) w w':=by
 go_enter func143,ntmps143
 go_wp2
 go_loopw [12] (fun i wr=>∃k:Nat,k<=cs.length/\i=I Z k/\Rd wr p g (ny pos n l (cs.take k))/\cf p (some g) (some g) w wr) (fun i _=>cs.length-(intOf i).toNat)
 case atStart=>exact⟨0,by omega,rfl,h,cf.refl _ _ _⟩
 case round=>
  obtain⟨k,hk,rfl,hr,hS⟩:=hrel
  by_cases hlt:k<cs.length
  .have hc:=hcs cs[k] (List.getElem_mem hlt);have hck:wr.cell? ⟨sb,k,none⟩=some (I Z ((cs[k]:Nat):Int)):=(hS.cell zZ hsp (by simpa using hsg) k).trans (hcell k hlt)
   generalize hcv:cs[k]=c at *
   (have HS:aK (ny pos n l (cs.take (k+1))=ud pos n (ny pos n l (cs.take k)) c):=by show _=_;rw[q2v _ _ _ _ _ hlt,hcv]);clear hcv
   go_wp2_with (first|(go_at_call 144;refine(qli p g _ _ hr _ (by simp;omega)).mono ?_;rintro e w' ⟨rfl,hr,hst⟩;replace hS:=hS.trans hst;clear hst)|(go_at_call 192;refine(q71 _ _ _ _).mono ?_;rintro e w' ⟨rfl,rfl⟩)|(go_at_call 191;refine(VC p g _ _ hr c _ (by simp;omega)).mono ?_;rintro e w' ⟨rfl,hr,hst⟩;replace hS:=hS.trans hst;clear hst))
   go_roundw
   case rel=>exact⟨k+1,by omega,by go_num,by rw[HS.out];exact hr,hS⟩
   case measure=>simp[intOf];omega
  .have hk':cs.take k=cs:=fC om
   rw[hk'] at hr
   go_wp2_with (go_at_call 191;refine(VC p g _ _ hr pos _ (by simp;omega)).mono ?_;rintro e w' ⟨rfl,hr,hst⟩;replace hS:=hS.trans hst;clear hst)
   go_end0
   exact⟨rfl,hr,hS⟩
theorem qw4(n:Int)(w:af):az ah 146 #[I Z n] w fun e w'=>e=.returned (.bool (n==0||n==65535))/\w'=w:=by
 go_enter func146,ntmps146
 go_wp2
 all_goals
  go_ret
  exact⟨by simp_all,rfl⟩
def vE(ae side:Int):Nat:=if ae=1 then 24 else if side=0 then 20 else 22
def qkp(ae side:Int)(w:af)(h:side=0\/side=1):az ah 145 #[I Z ae,I Z side] w fun e w'=>e=.returned (I Z ((vE ae side:Nat):Int))/\w'=w:=by
 unfold vE
 by_cases h1:ae=1
 .subst h1
  go_enter func145,ntmps145
  exact nY
 .rcases h with rfl|rfl
  .go_enter func145,ntmps145
   exact nY
  .go_enter func145,ntmps145
   exact nY
def ue(l:List UInt8):List UInt8:=et (ny 8 (bf l 8-256) l [10]) 8 (bf l 8-256)
@[simp] theorem qjW(l:List UInt8):(ue l).length=l.length:=by simp[ue]
theorem Rl(w:af)(g:Nat)(hg:w.heap.size=g)(a:Nat)(x:Int)(hx:x=(a:Int)):∀j (hj:j < [a].length),(w.alloc (.cells #[I Z x] 3)).cell? ⟨g,j,none⟩=some (I Z (([a][j]:Nat):Int)):=by grind [Hb]
def qpk(p g:Nat)(l:List UInt8)(w:af)(h:Rd w p g l)(hl:20<=l.length):
  az ah 84 #[V (some ⟨p,0,none⟩)] w fun e w'=>e=.returned (.tuple #[])/\Rd w' p g (ue l)/\cf p (some g) (some g) w w':=by
 have hw:=Ej l 8;have hS:=cf.refl p (some g) w
 go_enter func84,ntmps84
 go_wp2_with (first|(go_at_call 144;refine(qli p g _ _ h 8 om).mono ?_;rintro e w' ⟨rfl,h,hst⟩;replace hS:=hS.trans hst;clear hst)|(go_at_call 143;refine(yt p g _ _ (h.alloc _) 8 _ [10] _ 1 zm (by have:=h.lt;omega) (by have:=h.lt;omega) (Rl _ _ zm 10 _ rfl) om (by intro c hc;simp at hc;omega) zm).mono ?_;refine Ro ?_;clear hS;intro w' h hS))
 go_end0
 exact⟨rfl,h,hS⟩
def OJ(side:Int):Nat:=if side=0 then 12 else 16
def OL(ae:Int):List Nat:=if ae=1 then [10] else [10,fJ ae]
def moved(l:List UInt8)(pos:Nat)(n:Int)(cs:List Nat):List UInt8:=et (ny pos n l cs) pos n
@[simp] theorem qjX(l:List UInt8)(pos:Nat)(n:Int)(cs:List Nat):(moved l pos n cs).length=l.length:=by simp[moved]
def A6(l:List UInt8)(ae side addr port:Int):List UInt8:=
 moved (moved (moved l (OJ side) (addr/65536) (OL ae)) (OJ side+2) (addr%65536) (OL ae)) (vE ae side) port [fJ ae]
def q3r:(ah.info? 3).map (fun i=>(i.zero,i.size,i.bytes))=some (some (I Z 0),1,8):=by kernel_rfl
def q6f(w:af)(v:ag):(w.alloc (.cells #[v] 3)).ownsRow w.heap.size 3 1 (.slice (some ⟨w.heap.size,0,none⟩) 1 1) 1 [v]:=
 ⟨rfl,.inr ⟨w.heap.size,1,#[v],rfl,au _,heap_alloc_new w _,au _,by unfold jt;omega,rfl,rfl⟩⟩
theorem qt2(w:af)(g:Nat)(hg:w.heap.size=g)(v:ag):∀j u,[v][j]?=some u->(w.alloc (.cells #[v] 3)).cell? ((⟨g,0,none⟩:Addr).add j)=some u:=by
 intro j u hu
 subst hg
 rw[kV,bX,Hb]
 grind
theorem qye{a b:ag}(h:w.ownsRow base 3 1 v (1+1) ([a]++[b])):∃g cap,v=.slice (some ⟨g,0,none⟩) 2 cap/\base<=g/\g<w.heap.size/\w.cell? ⟨g,0,none⟩=some a/\w.cell? ⟨g,1,none⟩=some b:=by
 have hlt:=h.lt
 obtain⟨g,cap,rfl,hbg⟩:∃g cap,v=.slice (some ⟨g,0,none⟩) 2 cap/\base<=g:=by
  rcases h.2 with⟨_,h0⟩|⟨g,cap,cur,e,hbg,hg,_⟩
  all_goals grind
 .refine⟨g,cap,rfl,hbg,(hlt g rfl).2,?_,?_⟩
  .have:=h.cells (g:=g) rfl 0 a rfl;rwa [kV] at this
  .have:=h.cells (g:=g) rfl 1 b rfl;rwa [kV] at this
def Rd.grown{row:Option Nat}(h:Rd w p g l)(hg:w.grownBy w' row)(h1:some p≠row)(h2:some g≠row):Rd w' p g l:=by
 have hlt:=h.lt;obtain⟨cap,cur,mk,a,b,c,r⟩:=h
 exact⟨cap,cur,mk,(hg.block p hlt.1 h1).trans a,b,(hg.block g hlt.2.1 h2).trans c,r⟩
def A7{p:Prop}(h:p:=by
 go_wp2_with (first|(go_at_call 145;refine(qkp _ _ _ om).mono ?_;rintro e w' ⟨rfl,rfl⟩)|(go_at_call 126;refine(Hg _ _).mono ?_;rintro e w' ⟨rfl,rfl⟩)|(go_at_call 143;go_fit (yt p g _ _ h 16 _ [10] w.heap.size 1 hz om om (hc1 _ hI) (by(try simp)<;>omega) (by intro c hc;simp at hc<;>omega) zm);refine VF ?_;clear hI hz;intro w' h hI hz hS)|(go_at_call 143;go_fit (yt p g _ _ h 18 _ [10] w.heap.size 1 hz om om (hc1 _ hI) (by(try simp)<;>omega) (by intro c hc;simp at hc;(try simp)<;>omega) zm);refine VF ?_;clear hI hz hS;intro w' h hI hz hS)|(go_at_call 143;go_fit (yt p g _ _ (h.alloc _) (vE 1 1) _ [(fJ 1)] _ 1 zm (by have:=h.lt;omega) (by have:=h.lt;omega) (Rl _ _ zm (fJ 1) _ rfl) (by simp<;>omega) (by intro c hc;simp at hc;simp<;>omega) zm);refine Ro ?_;clear hS;intro w' h hS)|(go_at_call 143;go_fit (yt p g _ _ h 12 _ [10] w.heap.size 1 hz om om (hc1 _ hI) (by(try simp)<;>omega) (by intro c hc;simp at hc<;>omega) zm);refine VF ?_;clear hI hz hS;intro w' h hI hz hS)|(go_at_call 143;go_fit (yt p g _ _ h 14 _ [10] w.heap.size 1 hz om om (hc1 _ hI) (by(try simp)<;>omega) (by intro c hc;simp at hc;(try simp)<;>omega) zm);refine VF ?_;clear hI hz hS;intro w' h hI hz hS)|(go_at_call 143;go_fit (yt p g _ _ (h.alloc _) (vE 1 0) _ [(fJ 1)] _ 1 zm (by have:=h.lt;omega) (by have:=h.lt;omega) (Rl _ _ zm (fJ 1) _ rfl) (by simp<;>omega) (by intro c hc;simp at hc;simp<;>omega) zm);refine Ro ?_;clear hS;intro w' h hS))
 go_end0
 exact⟨rfl,h,hS⟩):p:=h
theorem q0l(p g:Nat)(l:List UInt8)(w:af)(h:Rd w p g l)(side addr port:Int)(hs:side=0\/side=1)(a0:0<=addr)(a1:addr<=4294967295)(hl:28<=l.length):
  az ah 85 #[V (some ⟨p,0,none⟩),I Z 1,I Z side,I Z addr,I Z port] w fun e w'=>e=.returned (.tuple #[])/\Rd w' p g (A6 l 1 side addr port)/\cf p (some g) (some g) w w':=by
 have Fx:=q7f addr a0 a1;have hlt:=h.lt;have hI:∀o,(w.alloc (.cells #[I Z 10] 3)).cell? ⟨w.heap.size,o,none⟩=#[Value.int .i64 10][o]?:=Hb w _ _;have hS:cf p (some g) (some g) w (w.alloc (.cells #[I Z 10] 3)):=(cf.refl _ _ _).alloc _;(have hz:w.heap.size<(w.alloc (.cells #[I Z 10] 3)).heap.size:=by simp);replace h:=h.alloc (.cells #[I Z 10] 3)
 have hc1:∀(W:af),(∀o,W.cell? ⟨w.heap.size,o,none⟩=#[Value.int .i64 10][o]?)->∀j (hj:j < [10].length),W.cell? ⟨w.heap.size,j,none⟩=some (I Z (([10][j]:Nat):Int)):=by
  intro W hW j hj;rw[hW]
  match j,hj with
  | 0,_=>rfl
 (have hp0:vE 1 0+1<l.length:=by show 24+1<_;omega);(have jF:vE 1 1+1<l.length:=by show 24+1<_;omega);(have hq:fJ 1+1<l.length:=by show 22+1<_;omega)
 rcases hs with rfl|rfl
 .go_enter func85,ntmps85
  exact A7
 .go_enter func85,ntmps85
  exact A7
def A8{p:Prop}(h:p:=by
 intro j hj
 match j,hj with
 | 0,_=>exact VG
 | 1,_=>exact VH):p:=h
theorem qxk(p g:Nat)(l:List UInt8)(w:af)(h:Rd w p g l)(ae side addr port:Int)(hs:side=0\/side=1)(a0:0<=addr)(a1:addr<=4294967295)(hl:28<=l.length)(hp:ae≠1)(hq:fJ ae+1<l.length):
  az ah 85 #[V (some ⟨p,0,none⟩),I Z ae,I Z side,I Z addr,I Z port] w fun e w'=>e=.returned (.tuple #[])/\Rd w' p g (A6 l ae side addr port)/\cf p (some g) (some g) w w':=by
 have Fx:=q7f addr a0 a1;have hlt:=h.lt;(have qm:(ae==1)=false:=by simpa using hp);(have W:aK (OL ae=[10,fJ ae]):=by show _=_;unfold OL;rw[aT hp]);have hS:cf p (some g) (some g) w (w.alloc (.cells #[I Z 10] 3)):=(cf.refl _ _ _).alloc _;obtain⟨i0,hi,hz0,hz1,hz2⟩:=info_parts q3r;have hown:=(q6f w (I Z 10)).alloc (.cells #[I Z ((fJ ae:Nat):Int)] 3);(have hp0:vE ae 0+1<l.length:=by unfold vE;rw[aT hp,aZ rfl];omega);(have jF:vE ae 1+1<l.length:=by unfold vE;rw[aT hp,aT om];omega)
 rcases hs with rfl|rfl
 .go_enter func85,ntmps85
  go_wp2_with (first|(at_builtin;refine m2f ?_)|(go_at_call 126;refine(Hg _ _).mono ?_;rintro e w' ⟨rfl,rfl⟩))
  intro v' w1 hown1 hgrow _
  obtain⟨q,cap,rfl,hq0,zn,VG,VH⟩:=qye hown1
  have hI:∀j (hj:j < [10,fJ ae].length),w1.cell? ⟨q,j,none⟩=some (I Z (([10,fJ ae][j]:Nat):Int)):=by
   exact A8
  have hz:=zn;have hrow:(Value.slice (some ⟨w.heap.size,0,none⟩) 1 1).ownBlock=some w.heap.size:=rfl
  rw[hrow] at hgrow
  refine m41 ?_;clear h;intro hB hS h;clear hown hown1 hgrow hB VG VH zn
  go_wp2_with (first|(go_at_call 145;refine(qkp _ _ _ om).mono ?_;rintro e w' ⟨rfl,rfl⟩)|(go_at_call 126;refine(Hg _ _).mono ?_;rintro e w' ⟨rfl,rfl⟩)|(go_at_call 143;go_fit (yt p g _ _ h 12 _ [10,fJ ae] q cap hz om om hI (by(try simp)<;>omega) (by intro c hc;simp at hc<;>omega) zm);refine VI ?_;clear hI hz hS;intro w' h hI hz hS)|(go_at_call 143;go_fit (yt p g _ _ h 14 _ [10,fJ ae] q cap hz om om hI (by(try simp)<;>omega) (by intro c hc;simp at hc;(try simp)<;>omega) zm);refine VI ?_;clear hI hz hS;intro w' h hI hz hS)|(go_at_call 143;go_fit (yt p g _ _ (h.alloc _) (vE ae 0) _ [(fJ ae)] _ 1 zm (by have:=h.lt;omega) (by have:=h.lt;omega) (Rl _ _ zm (fJ ae) _ rfl) (by simp<;>omega) (by intro c hc;simp at hc;simp<;>omega) zm);refine Ro ?_;clear hS;intro w' h hS))
  go_end0
  exact⟨rfl,by unfold A6;rw[W.out];exact h,hS⟩
 .go_enter func85,ntmps85
  go_wp2_with (first|(at_builtin;refine m2f ?_)|(go_at_call 126;refine(Hg _ _).mono ?_;rintro e w' ⟨rfl,rfl⟩))
  intro v' w1 hown1 hgrow _
  obtain⟨q,cap,rfl,hq0,zn,VG,VH⟩:=qye hown1
  have hI:∀j (hj:j < [10,fJ ae].length),w1.cell? ⟨q,j,none⟩=some (I Z (([10,fJ ae][j]:Nat):Int)):=by
   exact A8
  have hz:=zn;have hrow:(Value.slice (some ⟨w.heap.size,0,none⟩) 1 1).ownBlock=some w.heap.size:=rfl
  rw[hrow] at hgrow
  refine m41 ?_;clear h;intro hB hS h;clear hown hown1 hgrow hB VG VH zn
  go_wp2_with (first|(go_at_call 145;refine(qkp _ _ _ om).mono ?_;rintro e w' ⟨rfl,rfl⟩)|(go_at_call 126;refine(Hg _ _).mono ?_;rintro e w' ⟨rfl,rfl⟩)|(go_at_call 143;go_fit (yt p g _ _ h 16 _ [10,fJ ae] q cap hz om om hI (by(try simp)<;>omega) (by intro c hc;simp at hc<;>omega) zm);refine VI ?_;clear hI hz hS;intro w' h hI hz hS)|(go_at_call 143;go_fit (yt p g _ _ h 18 _ [10,fJ ae] q cap hz om om hI (by(try simp)<;>omega) (by intro c hc;simp at hc;(try simp)<;>omega) zm);refine VI ?_;clear hI hz hS;intro w' h hI hz hS)|(go_at_call 143;go_fit (yt p g _ _ (h.alloc _) (vE ae 1) _ [(fJ ae)] _ 1 zm (by have:=h.lt;omega) (by have:=h.lt;omega) (Rl _ _ zm (fJ ae) _ rfl) (by simp<;>omega) (by intro c hc;simp at hc;simp<;>omega) zm);refine Ro ?_;clear hS;intro w' h hS))
  go_end0
  exact⟨rfl,by unfold A6;rw[W.out];exact h,hS⟩
def JK{a b:Bool}(h:a=b):Ending.returned (.bool a)=.returned (.bool b):=by rw[h]
def Ez(n:Int)(w:af):az ah 83 #[I Z n] w fun e w'=>e=.returned (.bool (nH n))/\w'=w:=by
 go_enter func83,ntmps83
 go_wp2
 all_goals
  go_ret
  exact⟨JK (by unfold nH;simp<;>omega),rfl⟩
def Hj(n:Int)(w:af):az ah 82 #[I Z n] w fun e w'=>e=.returned (.bool (pg n))/\w'=w:=by
 go_enter func82,ntmps82
 go_wp2
 all_goals
  go_ret
  exact⟨JK (by unfold pg;simp<;>omega),rfl⟩
def qju(k:bM)(w:af):az ah 129 #[pv k] w fun e w'=>e=.returned (.bool (Ey k))/\aq w.heap.size w w':=by
 obtain⟨ae,src,aj,dst,ai,aG,id,flags,seq,bo,br,body⟩:=k
 unfold pv
 simp only
 go_enter func129,ntmps129
 go_wp2_with (first|(go_at_call 82;refine(Hj _ _).mono ?_;rintro e w' ⟨rfl,rfl⟩)|(go_at_call 83;refine(Ez _ _).mono ?_;rintro e w' ⟨rfl,rfl⟩))
 all_goals
  go_ret
  refine⟨JK ?_,(cA _ _).alloc (au _) _⟩
  simp[Ey, *]<;>omega
theorem qrc(k:bM)(w:af):az ah 130 #[pv k] w fun e w'=>e=.returned (.bool (yh k))/\aq w.heap.size w w':=by
 obtain⟨ae,src,aj,dst,ai,aG,id,flags,seq,bo,br,body⟩:=k
 unfold pv
 simp only
 by_cases h1:ae=1
 .subst h1
  go_enter func130,ntmps130
  go_wp2_with (go_at_call 83;refine(Ez _ _).mono ?_;rintro e w' ⟨rfl,rfl⟩)
  all_goals
   go_ret
   refine⟨JK ?_,(cA _ _).alloc (au _) _⟩
   simp_all[yh]
 .by_cases h2:ae=17
  .subst h2
   go_enter func130,ntmps130
   go_wp2
   all_goals
    go_ret
    refine⟨JK ?_,(cA _ _).alloc (au _) _⟩
    simp_all[yh]
  .go_enter func130,ntmps130
   go_wp2
   go_ret
   refine⟨JK ?_,(cA _ _).alloc (au _) _⟩
   simp_all[yh]
def qhu{W:af}(hb:aq W.heap.size W w1)(hq:q<W.heap.size)(hc:∀o,W.cell? ⟨q,o,none⟩=cs[o]?):∀o,w1.cell? ⟨q,o,none⟩=cs[o]?:=
 fun o=>(hb.cell (p:=⟨q,o,none⟩) hq).trans (hc o)
def qii(h:Below (w.alloc o).heap.size (w.alloc o) w'):Below w.heap.size w w':=
 ((Below.refl _ _).alloc (Nat.le_refl _) o).trans (h.mono zm)
def rY{p:Prop}(h:p:=by
 go_enter func66,ntmps66
 go_wp2_with (first|(go_at_call 124;refine zt ?_;rintro e w' ⟨rfl,rfl⟩)|(go_at_call 129;refine(qju k _).mono ?_;rintro e w' ⟨rfl,hb⟩;rw[Es];have qjE:=qhu hb hlt jR)|(go_at_call 130;refine(qrc k _).mono ?_;rintro e w2 ⟨rfl,hb2⟩;rw[OM])|(go_at_call 130;refine(qrc k _).mono ?_;rintro e w2 ⟨rfl,hb2⟩;rw[h4])|(go_at_call 129;refine(qju k _).mono ?_;rintro e w' ⟨rfl,hb⟩;rw[h2]))
 go_ret
 first
  | exact⟨lQ G.out.symm,qii hb⟩
  | exact⟨lQ G.out.symm,(qii hb).trans (hb2.mono (Nat.le_trans zm hb.size))⟩):p:=h
def qke(k:bM)(w:af)(hsz:k.body.size<=140737488351232):az ah 66 #[pv k] w fun e w'=>e=.returned (I Z (good k))/\aq w.heap.size w w':=by
 have P:=qth k.ae;have jR:=Hb w #[I Z k.ae,I Z k.src,I Z k.aj,I Z k.dst,I Z k.ai,I Z k.aG,I Z k.id,I Z k.flags,I Z k.seq,I Z k.bo,I Z k.br,.string k.body] 77;have qcN:aq w.heap.size w (w.alloc (.cells #[I Z k.ae,I Z k.src,I Z k.aj,I Z k.dst,I Z k.ai,I Z k.aG,I Z k.id,I Z k.flags,I Z k.seq,I Z k.bo,I Z k.br,.string k.body] 77)):=(cA _ _).alloc (au _) _;(have hlt:w.heap.size<(w.alloc (.cells #[I Z k.ae,I Z k.src,I Z k.aj,I Z k.dst,I Z k.ai,I Z k.aG,I Z k.id,I Z k.flags,I Z k.seq,I Z k.bo,I Z k.br,.string k.body] 77)).heap.size:=by simp)
 unfold pv
 by_cases h1:jE k.ae=false
 .rw[h1] at P
  (have G:aK (good k=4):=by show _=_;unfold good;rw[aZ h1])
  go_enter func66,ntmps66
  go_wp2_with (go_at_call 124;refine zt ?_;rintro e w' ⟨rfl,rfl⟩)
  go_ret
  exact⟨lQ G.out.symm,qcN⟩
 (have gY:jE k.ae=true:=by simpa using h1)
 rw[gY] at P
 by_cases h2:Ey k=false
 ·(have G:aK (good k=2):=by show _=_;unfold good;rw[aT h1,aZ h2])
  exact rY
 (have Es:Ey k=true:=by simpa using h2)
 by_cases h3:64<k.body.size
 ·(have G:aK (good k=5):=by show _=_;unfold good;rw[aT h1,aT h2,aZ h3])
  exact rY
 by_cases h4:yh k=false
 ·(have G:aK (good k=1):=by show _=_;unfold good;rw[aT h1,aT h2,aT h3,aZ h4])
  exact rY
 (have OM:yh k=true:=by simpa using h4);(have G:aK (good k=0):=by show _=_;unfold good;rw[aT h1,aT h2,aT h3,aT h4])
 exact rY
theorem qt0(p:bM)(c1 c2 c:Int):et (fr p c1 c2) 10 c=fr p c c2:=rfl
theorem q3m(p:bM)(c1 c2:Int):(fr p c1 c2).drop 20=pt p c2++p.body.data.toList:=rfl
theorem Rq(p:bM)(c1 c2 c:Int)(h:jE p.ae=true):et (fr p c1 c2) (fJ p.ae) c=fr p c1 c:=by
 rcases(Hd _).1 h with h|h|h<;>(unfold fr pt fJ;simp only[h];rfl)
theorem qx8(p:bM)(c1 c2:Int)(h:jE p.ae=true):dY (fr p c1 c2) p.ae=ps p.src p.dst p.ae (gH p.ae+p.body.size)++(pt p c2++p.body.data.toList):=by
 have hl:=qlm p c1 c2 h
 unfold dY ps
 (rw[q3m,hl,show dQ p-20=gH p.ae+p.body.size by unfold dQ;omega])
 by_cases h1:p.ae=1
 .simp[h1]
 .simp only[h1,if_false,eL];rfl
theorem qwj(p:bM)(c1:Int)(h:jE p.ae=true):A3 (fr p c1 0) p.ae=fr p c1 (oO p):=by
 unfold A3
 rw[Rq p _ _ _ h,Rq p _ _ _ h]
 unfold zr
 rw[qx8 p _ _ h]
 rfl
def Hk(e:Int)(w:af):az ah 81 #[I Z e] w fun r w'=>r=.returned (.tuple #[.string ByteArray.empty,I Z e])/\w'=w:=by
 go_enter func81,ntmps81
 go_wp2
 go_ret2
 exact⟨rfl,rfl⟩
theorem uJ(k:bM)(h:good k=0):jE k.ae=true/\Ey k=true/\k.body.size<=64/\yh k=true:=by
 unfold good at h
 grind
def Vu{a b c d:ag}(h1:a=b)(h2:c=d):Ending.returned (.tuple #[a,c])=.returned (.tuple #[b,d]):=by rw[h1,h2]
def built(k:bM):ByteArray:=if good k=0 then bl (frame k) else ByteArray.empty
end
section
open Go.RowKit
def bL(l:List UInt8)(k:Nat):Int:=bf l k*65536+bf l (k+2)
def m7(l:List UInt8):Int:=
 if l.length<20 then 1 else if aC l 0≠69 then 1 else if bf l 2≠l.length then 1 else if bk (bJ (l.take 20))≠65535 then 3 else if aC l 1≠0 then 4 else if bf l 6≠0 then 4 else if aC l 8=0 then 12 else if jE (aC l 9)=false then 4 else 0
def lz(l:List UInt8)(ae:Int):Int:=
 if (l.length:Int)-20<gH ae then 1 else if bk (bJ (dY l ae))≠65535 then 3 else if ae=17/\bf l 26=0 then 3
 else if ae=1/\aC l 20≠8/\aC l 20≠0 then 4 else if ae=1/\aC l 21≠0 then 4
 else if ae=6/\aC l 32≠80 then 4 else if ae=6/\63<aC l 33 then 4 else if ae=6/\bf l 38≠0 then 4
 else if ae=17/\bf l 24≠(l.length:Int)-20 then 1 else 0
def ba(l:List UInt8):bM:=
 if aC l 9=1 then⟨1,bL l 12,if aC l 20=8 then bf l 24 else 0,bL l 16,if aC l 20=8 then 0 else bf l 24,aC l 8,bf l 4,aC l 20,bf l 26,0,0,bl (l.drop 28)⟩
 else if aC l 9=6 then⟨6,bL l 12,bf l 20,bL l 16,bf l 22,aC l 8,bf l 4,aC l 33,bL l 24,bL l 28,bf l 34,bl (l.drop 40)⟩
 else⟨aC l 9,bL l 12,bf l 20,bL l 16,bf l 22,aC l 8,bf l 4,0,0,0,0,bl (l.drop 28)⟩
def cj(l:List UInt8):Int:=if m7 l≠0 then m7 l else if lz l (aC l 9)≠0 then lz l (aC l 9) else good (ba l)
def iw(l:List UInt8):bM:=if cj l=0 then ba l else p0
theorem tZ(s:ByteArray)(k:Nat)(h:k<s.size):(s[k].toNat:Int)=aC s.data.toList k:=by
 unfold aC
 have e:s.data.toList.getD k 0=s[k]:=by
  rw[List.getD_eq_getElem?_getD,Array.getElem?_toList,Array.getElem?_eq_getElem h];rfl
 rw[e]
theorem qqo(l:List UInt8)(n k:Nat):aC (l.drop n) k=aC l (n+k):=by grind [aC]
theorem Mi(l:List UInt8)(n k:Nat):bf (l.drop n) k=bf l (n+k):=by grind [bf,qqo]
theorem q5s(l:List UInt8)(n k:Nat):bL (l.drop n) k=bL l (n+k):=by grind [bL,Mi]
def Mj(l:List UInt8)(k:Nat):0<=bL l k/\bL l k<=4294967295:=by
 unfold bL
 have:=Ej l k;have:=Ej l (k+2);omega
theorem mf(s:ByteArray):s.data.toList.length=s.size:=by simp
theorem yq(s:ByteArray)(k:Nat)(h:k<(s.extract 20 s.size).size):((s.extract 20 s.size)[k].toNat:Int)=aC s.data.toList (20+k):=by
 rw[tZ,wZ,qqo]
end
section
open Go.ChangeShapes Go.WideShapes Go.ChangeAt Go.RowKit
def qpw(n:Nat)(w:af):aq w.heap.size w (w.drewN n):=by
 refine⟨?_,?_,?_,?_,?_⟩<;>first|rfl|simp
def q5t(s:ByteArray)(k m:Nat)(w:af)(hs:s.size<=140737488351232)(hm:k+1=m)(h0:k<s.size)(h:m<s.size):
  az ah 122 #[.string s,I Z k] w fun e w'=>e=.returned (I Z (bf s.data.toList k))/\∃q,w'=w.drewN q:=by
 have J:aK (bits .or .i64 ((s[k].toNat:Int)*256) (s[m].toNat:Int)=bf s.data.toList k):=by
  show _=_
  obtain⟨b1,b2⟩:=nE s.data.toList k;obtain⟨b3,b4⟩:=nE s.data.toList m;rw[tZ,tZ,q7e _ _ b1 b2 b3 b4,bf,hm]
 obtain⟨c0,c0'⟩:=xQ s[k];obtain⟨c1,c1'⟩:=xQ s[m];(have i1:(k:Int)<(s.size:Int):=by omega);(have i2:(m:Int)<(s.size:Int):=by omega);(have i4:eJ.wrap ((k:Int)+1)=(m:Int):=by rw[wrap_i64 _ om om];omega);clear hm
 go_enter func122,ntmps122
 go_wp2
 go_quiet (fail)
 go_wp2
 go_ret
 exact⟨lQ J.out,nq,rfl⟩
def Rt(s:ByteArray)(k:Int)(w:af)(hs:s.size<=140737488351232)(h0:0<=k)(h:k+1<(s.size:Int)):
  az ah 122 #[.string s,I Z k] w fun e w'=>e=.returned (I Z (bf s.data.toList k.toNat))/\∃q,w'=w.drewN q:=by
 obtain⟨n,rfl⟩:=Int.eq_ofNat_of_zero_le h0
 exact q5t s n (n+1) w hs rfl om om
def Ru(s:ByteArray)(k:Int)(w:af)(hs:s.size<=140737488351232)(h0:0<=k)(h:k+3<(s.size:Int)):
  az ah 127 #[.string s,I Z k] w fun e w'=>e=.returned (I Z (bL s.data.toList k.toNat))/\∃q,w'=w.drewN q:=by
 obtain⟨b1,b2⟩:=Ej s.data.toList k.toNat;obtain⟨b3,b4⟩:=Ej s.data.toList (k+2).toNat
 have J:aK (bits .or .i64 (bf s.data.toList k.toNat*65536) (bf s.data.toList (k+2).toNat)=bL s.data.toList k.toNat):=by
  show _=_
  (rw[q9m _ _ b1 b2 b3 b4,bL,show(k+2).toNat=k.toNat+2 by omega])
 go_enter func127,ntmps127
 go_wp2_with (go_at_call 122;refine(Rt s _ _ hs om om).mono ?_;rintro e w' ⟨rfl,q,rfl⟩)
 go_ret
 exact⟨lQ J.out,_,rfl⟩
def qqe(s:ByteArray)(k:Int)(w:af)(hs:s.size<=140737488351232)(h0:0<=k)(h:k+1<(s.size:Int)):
  az ah 122 #[.string s,I Z k] w fun e w'=>e=.returned (I Z (bf s.data.toList k.toNat))/\aq w.heap.size w w':=
 (Rt s k w hs h0 h).mono fun _ _ ⟨he,q,hw⟩=>⟨he,by rw[hw];exact qpw q w⟩
def qwh(s:ByteArray)(k:Int)(w:af)(i3:20<=s.size)(hs:s.size<=65535)(h0:0<=k)(h:k+1<(s.size:Int)-20):
  az ah 122 #[.string (s.extract 20 s.size),I Z k] w fun e w'=>e=.returned (I Z (bf s.data.toList (20+k.toNat)))/\aq w.heap.size w w':=by
 have z2:(s.extract 20 s.size).size=s.size-20:=wX s 20 s.size (au _)
 have:=qqe (s.extract 20 s.size) k w om h0 om
 rw[wZ,Mi] at this
 exact this
def qg1(s:ByteArray)(k:Int)(w:af)(i3:20<=s.size)(hs:s.size<=65535)(h0:0<=k)(h:k+1<(s.size:Int)-20):
  az ah 122 #[.string (s.extract 20 s.size),I Z k] w fun e w'=>e=.returned (I Z (bf s.data.toList (20+k.toNat)))/\∃q,w'=w.drewN q:=by
 have z2:(s.extract 20 s.size).size=s.size-20:=wX s 20 s.size (au _)
 have:=Rt (s.extract 20 s.size) k w om h0 om
 rw[wZ,Mi] at this
 exact this
def qt3(s:ByteArray)(k:Int)(w:af)(i3:20<=s.size)(hs:s.size<=65535)(h0:0<=k)(h:k+3<(s.size:Int)-20):
  az ah 127 #[.string (s.extract 20 s.size),I Z k] w fun e w'=>e=.returned (I Z (bL s.data.toList (20+k.toNat)))/\∃q,w'=w.drewN q:=by
 have z2:(s.extract 20 s.size).size=s.size-20:=wX s 20 s.size (au _)
 have:=Ru (s.extract 20 s.size) k w om h0 om
 rw[wZ,q5s] at this
 exact this
theorem qsj(s:ByteArray)(w:af)(hs:s.size<=140737488351232)(i3:20<=s.size):
  az ah 62 #[.string s] w fun e w'=>e=.returned (I Z (m7 s.data.toList))/\aq w.heap.size w w':=by
 have P:=qth (aC s.data.toList 9);have g0:=tZ s 0 om;have g1:=tZ s 1 om;have g8:=tZ s 8 om;have g9:=tZ s 9 om
 have hof:∀w:af,az ah 123 #[.string (s.extract 0 20)] w fun e w'=>e=.returned (I Z (bk (bJ (s.data.toList.take 20))))/\w'=w:=by
  intro w
  have:=XX (s.extract 0 20) w (by rw[wX s 0 20 om];omega)
  rw[G9] at this
  exact this
 obtain⟨b91,b92⟩:=nE s.data.toList 9;refine gP ?_;intro hB
 go_enter func62,ntmps62
 go_wp2_with (first|(go_at_call 122;refine(qqe s _ _ hs om om).mono ?_;refine wW ?_;clear hB;intro w' hb hB;simp only[bI])|(go_at_call 123;refine(hof _).mono ?_;rintro e w' ⟨rfl,rfl⟩)|(go_at_call 124;refine zt ?_;rintro e w' ⟨rfl,rfl⟩))
 all_goals
  go_ret
  refine⟨lQ ?_,hB⟩
  unfold m7
  rw[mf]
  simp_all
  try (intro hx;exfalso;omega)
def q07(s:ByteArray)(w:af)(h:s.size<20):
  az ah 62 #[.string s] w fun e w'=>e=.returned (I Z 1)/\w'=w:=by
 go_enter func62,ntmps62
 go_wp2
 go_ret
 exact⟨rfl,rfl⟩
theorem VJ(s:ByteArray)(w:af)(hs:s.size<=140737488351232):
  az ah 62 #[.string s] w fun e w'=>e=.returned (I Z (m7 s.data.toList))/\aq w.heap.size w w':=by
 by_cases h1:s.size<20
 ·(have E:m7 s.data.toList=1:=by unfold m7;rw[mf,aZ h1]);rw[E]
  exact(q07 s w h1).mono fun e w' ⟨he,hw⟩=>⟨he,by rw[hw];exact cA _ _⟩
 grind [qsj]
def q1n(s:ByteArray)(ae:Int)(w:af)(i3:20<=s.size)(hs:s.size<=65535)(h:(s.size:Int)-20<gH ae):
  az ah 64 #[.string s,I Z ae] w fun e w'=>e=.returned (I Z 1)/\w'=w:=by
 refine Rj ?_;intro z2 z3
 go_enter func64,ntmps64
 go_wp2_with (go_at_call 124;refine zt ?_;rintro e w' ⟨rfl,rfl⟩)
 go_ret
 exact⟨rfl,rfl⟩
def A9(l:List UInt8)(ae:Int):Int:=bk (bJ (dY l ae))
theorem qr0(l:List UInt8)(ae:Int)(w:af)(h:l.length<=500000):
  az ah 123 #[.string (bl (dY l ae))] w fun e w'=>e=.returned (I Z (A9 l ae))/\w'=w:=by grind [qv0,q77,dY,bl,A9]
theorem q54(s:ByteArray)(w:af)(hl:28<=s.size)(hs:s.size<=65535):
  az ah 64 #[.string s,I Z 1] w fun e w'=>e=.returned (I Z (lz s.data.toList 1))/\aq w.heap.size w w':=by
 refine Rj ?_;intro z2 z3;have pn:gH 1=8:=rfl;refine m57 ?_;intro OA Vw;refine gP ?_;intro hB
 go_enter func64,ntmps64
 go_wp2_with (first|(go_at_call 124;refine zt ?_;rintro e w' ⟨rfl,rfl⟩)|(go_at_call 125;refine(VE _ _ _ om om).mono ?_;refine wW ?_;clear hB;intro w' hb hB)|(go_at_call 123;refine(qr0 _ _ _ (by rw[mf];omega)).mono ?_;rintro e w' ⟨rfl,rfl⟩))
 all_goals
  go_ret
  refine⟨lQ ?_,hB⟩
  unfold lz
  rw[mf]
  unfold A9 at *
  simp_all
 all_goals omega
theorem q7v(s:ByteArray)(w:af)(hl:28<=s.size)(hs:s.size<=65535):
  az ah 64 #[.string s,I Z 17] w fun e w'=>e=.returned (I Z (lz s.data.toList 17))/\aq w.heap.size w w':=by
 refine Rj ?_;intro z2 z3;have pn:gH 17=8:=rfl;have cn:((fJ 17:Nat):Int)=26:=rfl;refine gP ?_;intro hB
 go_enter func64,ntmps64
 go_wp2_with (first|(go_at_call 124;refine zt ?_;rintro e w' ⟨rfl,rfl⟩)|(go_at_call 126;refine(Hg _ _).mono ?_;rintro e w' ⟨rfl,rfl⟩)|(go_at_call 125;refine(VE _ _ _ om om).mono ?_;refine wW ?_;clear hB;intro w' hb hB)|(go_at_call_of 122 (Value.string (s.extract 20 s.size));refine(qwh s 4 _ om hs om om).mono ?_;refine wW ?_;clear hB;intro w' hb hB;simp only[bI,eT])|(go_at_call_of 122 (Value.string s);refine(qqe s _ _ om om om).mono ?_;refine wW ?_;clear hB;intro w' hb hB;simp only[bI])|(go_at_call 123;refine(qr0 _ _ _ (by rw[mf];omega)).mono ?_;rintro e w' ⟨rfl,rfl⟩))
 all_goals
  go_ret
  refine⟨lQ ?_,hB⟩
  unfold lz
  rw[mf]
  unfold A9 at *
  clear hB
  simp_all
 all_goals omega
theorem q8p(s:ByteArray)(w:af)(hl:40<=s.size)(hs:s.size<=65535):
  az ah 64 #[.string s,I Z 6] w fun e w'=>e=.returned (I Z (lz s.data.toList 6))/\aq w.heap.size w w':=by
 refine Rj ?_;intro z2 z3;have pn:gH 6=20:=rfl;(have OA:∀h,(((s.extract 20 s.size)[12]'h).toNat:Int)=aC s.data.toList 32:=fun h=>yq s 12 h);(have Vw:∀h,(((s.extract 20 s.size)[13]'h).toNat:Int)=aC s.data.toList 33:=fun h=>yq s 13 h);refine gP ?_;intro hB
 go_enter func64,ntmps64
 go_wp2_with (first|(go_at_call 124;refine zt ?_;rintro e w' ⟨rfl,rfl⟩)|(go_at_call 125;refine(VE _ _ _ om om).mono ?_;refine wW ?_;clear hB;intro w' hb hB)|(go_at_call_of 122 (Value.string (s.extract 20 s.size));refine(qwh s 18 _ om hs om om).mono ?_;refine wW ?_;clear hB;intro w' hb hB;simp only[bI,eT])|(go_at_call 123;refine(qr0 _ _ _ (by rw[mf];omega)).mono ?_;rintro e w' ⟨rfl,rfl⟩))
 all_goals
  go_ret
  refine⟨lQ ?_,hB⟩
  unfold lz
  rw[mf]
  unfold A9 at *
  clear hB
  simp_all
 all_goals omega
theorem qkj(s:ByteArray)(ae:Int)(w:af)(i3:20<=s.size)(hs:s.size<=65535)(hk:jE ae=true):
  az ah 64 #[.string s,I Z ae] w fun e w'=>e=.returned (I Z (lz s.data.toList ae))/\aq w.heap.size w w':=by
 by_cases h:(s.size:Int)-20<gH ae
 ·(have E:lz s.data.toList ae=1:=by unfold lz;rw[mf,aZ h]);rw[E]
  exact(q1n s ae w i3 hs h).mono fun e w' ⟨he,hw⟩=>⟨he,by rw[hw];exact cA _ _⟩
 grind [Hd,q54,gH,q8p,q7v]
def ew(w:af)(b:Nat)(cs:Array ag):Prop:=w.heap[b]?=some (.cells cs 77 (0,0))
def ew.cell(h:ew w b cs):∀o,w.cell? ⟨b,o,none⟩=cs[o]?:=by
 intro o
 unfold ew at h
 simp[cS,h]
def ew.free(h:ew w b cs):∀o,w.frozen? ⟨b,o,none⟩=false:=by
 intro o
 unfold ew at h
 simp[nk,h]
def ew.set(h:ew w b cs)(o:Nat)(v:ag):ew (w.setCell ⟨b,o,none⟩ v) b (cs.setIfInBounds o v):=qpq h
def ew.drewN(h:ew w b cs)(q:Nat):ew (w.drewN q) b cs:=h
def OO{o:Nat}:cf b none none w (w.setCell ⟨b,o,none⟩ v):=
 ⟨rfl,rfl,rfl,by simp[World.setCell],fun i _ hi _=>eC _ _ _ _ hi,.inl rfl⟩
def qp4(p q:Nat)(w:af):cf p none none w (w.drewN q):=by
 refine⟨?_,?_,?_,?_,?_,.inl rfl⟩<;>first|rfl|simp
def qt6(b:Nat)(s:ByteArray)(w:af)(v0 v1 v3 v5 v6 v9 v10 v11:ag)(Ml:28<=s.size)(hs:s.size<=65535)(hb:ew w b #[v0,v1,I Z 0,v3,I Z 0,v5,v6,I Z 0,I Z 0,v9,v10,v11])(hf:aC s.data.toList 20=8):
  az ah 128 #[V (some ⟨b,0,none⟩),.string (s.extract 20 s.size)] w fun e w'=>e=.returned (.tuple #[])/\
   ew w' b #[v0,v1,I Z (bf s.data.toList 24),v3,I Z 0,v5,v6,I Z 8,I Z (bf s.data.toList 26),v9,v10,v11]/\cf b none none w w':=by
 refine m64 ?_;intro hc hz z2 z4;(have OA:∀h,(((s.extract 20 s.size)[0]'h).toNat:Int)=8:=fun h=>by rw[yq s 0 h,hf]);(have sd:∀(w:af) (n:Nat) (a:Addr) (v:ag),(w.drewN n).setCell a v=(w.setCell a v).drewN n:=fun _ _ _ _=>rfl)
 go_enter func128,ntmps128
 go_wp2
 go_region_held3 (fun _=>True) (trivial) ((go_at_call 122;refine Mm ?_;rintro e w' ⟨rfl,q,rfl⟩;simp only[bI,eT]))
 all_goals
  go_wp2_with (go_at_call 122;refine Mm ?_;rintro e w' ⟨rfl,q,rfl⟩;simp only[bI,eT])
 all_goals
  go_end0
  exact⟨rfl,(((hb.set 7 _).set 8 _).set 2 _).drewN _,((OO.trans OO).trans OO).trans (qp4 _ _ _)⟩
def qqb(b:Nat)(s:ByteArray)(w:af)(v0 v1 v3 v5 v6 v9 v10 v11:ag)(Ml:28<=s.size)(hs:s.size<=65535)(hb:ew w b #[v0,v1,I Z 0,v3,I Z 0,v5,v6,I Z 0,I Z 0,v9,v10,v11])(hf:aC s.data.toList 20=0):
  az ah 128 #[V (some ⟨b,0,none⟩),.string (s.extract 20 s.size)] w fun e w'=>e=.returned (.tuple #[])/\
   ew w' b #[v0,v1,I Z 0,v3,I Z (bf s.data.toList 24),v5,v6,I Z 0,I Z (bf s.data.toList 26),v9,v10,v11]/\cf b none none w w':=by
 refine m64 ?_;intro hc hz z2 z4;(have OA:∀h,(((s.extract 20 s.size)[0]'h).toNat:Int)=0:=fun h=>by rw[yq s 0 h,hf]);(have sd:∀(w:af) (n:Nat) (a:Addr) (v:ag),(w.drewN n).setCell a v=(w.setCell a v).drewN n:=fun _ _ _ _=>rfl)
 go_enter func128,ntmps128
 go_wp2
 go_region_held3 (fun _=>True) (trivial) ((go_at_call 122;refine Mm ?_;rintro e w' ⟨rfl,q,rfl⟩;simp only[bI,eT]))
 all_goals
  go_wp2_with (go_at_call 122;refine Mm ?_;rintro e w' ⟨rfl,q,rfl⟩;simp only[bI,eT])
 all_goals
  go_end0
  exact⟨rfl,(((hb.set 7 _).set 8 _).set 4 _).drewN _,((OO.trans OO).trans OO).trans (qp4 _ _ _)⟩
end
end Go.Proofs.YtnkpgdejagglaaaGreatDoor
