/-
  Of what a law stands on.
-/
import Derived.LaidMore
import Derived.Lib.LaidTab
import Derived.Deep.DeepHandedRow
import Derived.Maps.AppendAt
import Derived.Test.YtnicenfgemkdnaaGreatDoorZxb1
import Derived.Test.YtnicenfgemkdnaaGreatDoorZxp1
set_option linter.unusedSimpArgs false
set_option linter.unusedVariables false
namespace Go.Proofs.YtnicenfgemkdnaaGreatDoor
open _root_.Go.Proofs.Tryz
set_option maxHeartbeats 16000000
set_option maxRecDepth 100000
open Go.ChangeShapes Go.WideShapes Go.ChangeAt Go.RowKit
structure Ev where
 t:Int
 s:Int
 a:Int
 b:Int
 fr:Bool
def ecl(e:Ev):List Value:=[.int .i64 e.t,.int .i64 e.s,.int .i64 e.a,.int .i64 e.b,.bool e.fr]
def ec(e:Ev):Array Value:=#[.int .i64 e.t,.int .i64 e.s,.int .i64 e.a,.int .i64 e.b,.bool e.fr]
theorem qf2(e:Ev):(prog.info? 105).map (·.size)=some (ec e).size:=by kernel_rfl
theorem q5j(e:Ev):(prog.info? 105).map (·.size)=some (ecl e).length:=by kernel_rfl
theorem qqy(e:Ev):(ec e).all (·.oneCell')=true:=by kernel_rfl
def noE:Ev:=⟨0,0,0,0,false⟩
theorem qr3(w:World):(zeroValue 105).run prog w=.ok (.agg (ec noE)) w:=by kernel_rfl
def okE(e:Ev):Prop:=(0<=e.t/\e.t<=1099511627776)/\(0<=e.s/\e.s<8)/\(0<=e.a/\e.a<3)/\(0<=e.b/\e.b<6)
open Classical in
noncomputable def ql8(e:Ev):Int:=if okE e then 0 else 2
theorem qs0{e:Ev}(h:okE e):ql8 e=0:=if_pos h
theorem qlh{e:Ev}(h:¬okE e):ql8 e=2:=if_neg h
theorem atOp{ops:Array Oper}{rest:List Oper}{o:Oper}{a:Act}{w:World}{Q:Exit->Act->World->Prop}(p:Op)(ho:o.op=p)(h:wpList prog ops Q (o::rest) a w):wpList prog ops Q (o::rest) a w:=h
theorem qv3{ops:Array Oper}{rest:List Oper}{o:Oper}{a:Act}{w:World}{Q:Exit->Act->World->Prop}{t:TypeId}{b:Nat}{cs:Array Value}(R:Row t w b cs)(x:Operand)(ho:o.op=.load 4 x)(hw:Region.wanted o (yielded ops a.tmps)=true)(f:Nat)(hx:a.eval x=.pointer (some ⟨b,f,none⟩))(n:Bool)(hc:cs[f]?=some (.bool n))(hr:wpList prog ops Q rest (a.put o.dst (.bool n)) w):wpList prog ops Q (o::rest) a w:=
 wpList_step fun K hK=>by
  rw[if_pos hw]
  have hcell:=(R.cell f).trans hc
  unfold Oper.wp execOp
  simp only[ho,hx]
  simp[go_sem,hcell,underlying4]
  exact hK _ _ hr
def inZ(x hi:Int):Bool:=decide (0<=x)&&decide (x<hi)
theorem qij{x hi:Int}(h0:0<=x)(h1:x<hi):inZ x hi=true:=by simp[inZ,h0,h1]
theorem qpb{x hi:Int}(h0:x<0):inZ x hi=false:=by simp[inZ];omega
theorem qns{x hi:Int}(h1:hi<=x):inZ x hi=false:=by simp[inZ];omega
theorem sZxr19{p:Prop}(h:p:=by
 go_meet
 case rel=>exact⟨by rw[HI.out],R1,hB⟩):p:=h
theorem sZxr11{p:Prop}(h:p:=by
 go_wp2_with (first|((with_reducible refine gL 3 31 ?_);refine qae R1 _ rfl ?_ 3 rfl _ rfl ?_;· rfl)|((with_reducible refine gL 3 35 ?_);refine qae R1 _ rfl ?_ 3 rfl _ rfl ?_;· rfl))
 exact sZxr19):p:=h
theorem sZxr12{p:Prop}(h:p:=by
 go_wp2_with (first|((with_reducible refine gL 3 23 ?_);refine qae R1 _ rfl ?_ 2 rfl _ rfl ?_;· rfl)|((with_reducible refine gL 3 27 ?_);refine qae R1 _ rfl ?_ 2 rfl _ rfl ?_;· rfl))
 exact sZxr19):p:=h
theorem sZxr13{p:Prop}(h:p:=by
 go_wp2_with (first|((with_reducible refine gL 3 15 ?_);refine qae R1 _ rfl ?_ 1 rfl _ rfl ?_;· rfl)|((with_reducible refine gL 3 19 ?_);refine qae R1 _ rfl ?_ 1 rfl _ rfl ?_;· rfl))
 exact sZxr19):p:=h
theorem sZxr14{p:Prop}(h:p:=by
 go_wp2_with (first|((with_reducible refine gL 3 7 ?_);refine qae R1 _ rfl ?_ 0 rfl _ rfl ?_;· rfl)|((with_reducible refine gL 3 11 ?_);refine qae R1 _ rfl ?_ 0 rfl _ rfl ?_;· rfl))
 exact sZxr19):p:=h
theorem sZxr15{p:Prop}(h:p:=by
 go_wp2
 go_ret
 exact⟨by rw[HG.out];rfl,hB⟩):p:=h
theorem qro(e:Ev)(w:World):Calls prog 59 #[.agg (ec e)] w fun x w'=>x=.returned (.int .i64 (ql8 e))/\Below w.heap.size w w':=by
 have hB:=Below.refl w.heap.size w
 go_enter func59,ntmps59
 go_upto_region 1 with(first|((with_reducible refine gB 105 0 ?_);refine bx 105 _ (ec e) ?_;intro b1 w2 l1 R1 hb2;replace hB:=hB.trans (hb2.mono hB.size)))
 go_cut [3] (fun s3 wx=>s3=.bool (inZ e.t 1099511627777)/\Row 105 wx b1 (ec e)/\Below w.heap.size w wx)
 case first=>
  by_cases h0:0<=e.t
  ·by_cases h1:e.t<=1099511627776
   ·have HI:Hid (inZ e.t 1099511627777=true):=qij h0 om
    have g0:decide (0<=e.t)=true:=by simpa using h0
    have g1:decide (e.t<=1099511627776)=true:=by simpa using h1
    clear h0 h1
    exact sZxr14
   ·have HI:Hid (inZ e.t 1099511627777=false):=qns om
    have g0:decide (0<=e.t)=true:=by simpa using h0
    have g1:decide (e.t<=1099511627776)=false:=by simpa using h1
    clear h0 h1
    exact sZxr14
  ·have HI:Hid (inZ e.t 1099511627777=false):=qpb om
   have g0:decide (0<=e.t)=false:=by simpa using h0
   clear h0
   exact sZxr14
 case rest=>
  clear R1 hB
  obtain⟨rfl,R1,hB⟩:=hcut
  go_upto_region 2 with fail
  go_cut [4] (fun s4 wx=>s4=.bool (inZ e.s 8)/\Row 105 wx b1 (ec e)/\Below w.heap.size w wx)
  case first=>
   by_cases h0:0<=e.s
   ·by_cases h1:e.s<8
    ·have HI:Hid (inZ e.s 8=true):=qij h0 om
     have g0:decide (0<=e.s)=true:=by simpa using h0
     have g1:decide (e.s<8)=true:=by simpa using h1
     clear h0 h1
     exact sZxr13
    ·have HI:Hid (inZ e.s 8=false):=qns om
     have g0:decide (0<=e.s)=true:=by simpa using h0
     have g1:decide (e.s<8)=false:=by simpa using h1
     clear h0 h1
     exact sZxr13
   ·have HI:Hid (inZ e.s 8=false):=qpb om
    have g0:decide (0<=e.s)=false:=by simpa using h0
    clear h0
    exact sZxr13
  case rest=>
   clear R1 hB
   obtain⟨rfl,R1,hB⟩:=hcut
   go_upto_region 3 with fail
   go_cut [5] (fun s5 wx=>s5=.bool (inZ e.a 3)/\Row 105 wx b1 (ec e)/\Below w.heap.size w wx)
   case first=>
    by_cases h0:0<=e.a
    ·by_cases h1:e.a<3
     ·have HI:Hid (inZ e.a 3=true):=qij h0 om
      have g0:decide (0<=e.a)=true:=by simpa using h0
      have g1:decide (e.a<3)=true:=by simpa using h1
      clear h0 h1
      exact sZxr12
     ·have HI:Hid (inZ e.a 3=false):=qns om
      have g0:decide (0<=e.a)=true:=by simpa using h0
      have g1:decide (e.a<3)=false:=by simpa using h1
      clear h0 h1
      exact sZxr12
    ·have HI:Hid (inZ e.a 3=false):=qpb om
     have g0:decide (0<=e.a)=false:=by simpa using h0
     clear h0
     exact sZxr12
   case rest=>
    clear R1 hB
    obtain⟨rfl,R1,hB⟩:=hcut
    go_upto_region 4 with fail
    go_cut [6] (fun s6 wx=>s6=.bool (inZ e.b 6)/\Row 105 wx b1 (ec e)/\Below w.heap.size w wx)
    case first=>
     by_cases h0:0<=e.b
     ·by_cases h1:e.b<6
      ·have HI:Hid (inZ e.b 6=true):=qij h0 om
       have g0:decide (0<=e.b)=true:=by simpa using h0
       have g1:decide (e.b<6)=true:=by simpa using h1
       clear h0 h1
       exact sZxr11
      ·have HI:Hid (inZ e.b 6=false):=qns om
       have g0:decide (0<=e.b)=true:=by simpa using h0
       have g1:decide (e.b<6)=false:=by simpa using h1
       clear h0 h1
       exact sZxr11
     ·have HI:Hid (inZ e.b 6=false):=qpb om
      have g0:decide (0<=e.b)=false:=by simpa using h0
      clear h0
      exact sZxr11
    case rest=>
     clear R1 hB
     obtain⟨rfl,R1,hB⟩:=hcut
     rcases hb0:inZ e.t 1099511627777 with _|_
     ·have HG:Hid (ql8 e=2):=qlh (fun h=>by have:=h.1;rw[qij this.1 om] at hb0;simp at hb0)
      exact sZxr15
     rcases hb1:inZ e.s 8 with _|_
     ·have HG:Hid (ql8 e=2):=qlh (fun h=>by have:=h.2.1;rw[qij this.1 om] at hb1;simp at hb1)
      exact sZxr15
     rcases hb2:inZ e.a 3 with _|_
     ·have HG:Hid (ql8 e=2):=qlh (fun h=>by have:=h.2.2.1;rw[qij this.1 om] at hb2;simp at hb2)
      exact sZxr15
     rcases hb3:inZ e.b 6 with _|_
     ·have HG:Hid (ql8 e=2):=qlh (fun h=>by have:=h.2.2.2;rw[qij this.1 om] at hb3;simp at hb3)
      exact sZxr15
     have HG:Hid (ql8 e=0):=qs0 (by simp[inZ] at hb0 hb1 hb2 hb3;unfold okE;omega)
     exact sZxr15
def mkE(e:Ev):Int:=if e.fr then 2 else 1
theorem qadb(e:Ev):1<=mkE e/\mkE e<=2:=by unfold mkE;split<;>omega
theorem q6i(e:Ev)(w:World):Calls prog 182 #[.agg (ec e)] w fun x w'=>x=.returned (.int .i64 (mkE e))/\Below w.heap.size w w':=by
 have hB:=Below.refl w.heap.size w
 obtain⟨t,s,a,b,fr⟩:=e
 cases fr
 all_goals
  go_enter func182,ntmps182
  go_wp2_with (first|((with_reducible refine gB 105 0 ?_);refine bx 105 _ (ec ⟨t,s,a,b,_⟩) ?_;intro b1 w2 l1 R1 hb2;replace hB:=hB.trans (hb2.mono hB.size))|((with_reducible refine gL 4 3 ?_);refine qv3 R1 _ rfl rfl 4 rfl _ rfl ?_))
  go_ret
  exact⟨rfl,hB⟩
theorem qaqb(t:Int)(h0:0<=t)(h1:t<=1099511627776):bits .and .i64 t 4294967295=t%4294967296:=by
 obtain⟨n,rfl⟩:∃n:Nat,t=n:=⟨t.toNat,by omega⟩
 have h3:=Nat.and_two_pow_sub_one_eq_mod n 32
 have e1:(BitVec.ofInt 64 (n:Int)).toNat=n:=by rw[BitVec.toNat_ofInt];omega
 have e2:(BitVec.ofInt 64 (4294967295:Int)).toNat=4294967295:=by decide
 have e3:(4294967295:Nat)=2^32-1:=by decide
 have e4:n &&& 4294967295=n%4294967296:=by rw[e3];exact h3
 have e5:(BitVec.ofInt 64 (n:Int) &&& BitVec.ofInt 64 (4294967295:Int)).toNat=n%4294967296:=by rw[BitVec.toNat_and,e1,e2,e4]
 unfold bits
 show IntKind.i64.wrap ((BitVec.ofInt 64 (n:Int) &&& BitVec.ofInt 64 (4294967295:Int)).toNat:Int)=_
 rw[e5]
 simp[IntKind.wrap,IntKind.bits,IntKind.signed]
 omega
theorem q0t(t:Int)(w:World)(h0:0<=t)(h1:t<=1099511627776):Calls prog 125 #[.int .i64 t] w fun x w'=>x=.returned (.int .i64 (t%4294967296))/\w'=w:=by
 have hl:=qaqb t h0 h1
 go_enter func125,ntmps125
 go_wp2
 go_ret
 exact⟨rfl,rfl⟩
def Bys(w:World)(base:Nat)(v:Value)(l:List UInt8):Prop:=w.ownsRow base 5 1 v l.length (bc l)
theorem Bys.nil(w:World)(base:Nat):Bys w base (.slice none 0 0) []:=World.ownsRow_nil w base 5 1
theorem Bys.below{w w':World}{base:Nat}{v:Value}{l:List UInt8}(h:Bys w base v l)(hb:Below w.heap.size w w'):Bys w' base v l:=by
 refine⟨h.1,?_⟩
 rcases h.2 with e|⟨b,cap,cur,hv,hbb,hh,r⟩
 ·exact .inl e
 ·exact .inr ⟨b,cap,cur,hv,hbb,(hb.block b (Array.getElem?_eq_some_iff.1 hh).1).trans hh,r⟩
theorem Bys.slice{w:World}{base:Nat}{v:Value}{l:List UInt8}(h:Bys w base v l):∃a cap,v=.slice a l.length cap:=by
 rcases h.2 with⟨e,n0⟩|⟨b,cap,cur,hv,_⟩
 ·exact⟨none,0,by rw[e,n0]⟩
 ·exact⟨_,_,hv⟩
structure Grew(v v':Value)(w w':World):Prop where
 by':w.grownBy w' v.ownBlock
 lies:v'.ownBlock=v.ownBlock\/∃k,v'.ownBlock=some k/\w.heap.size<=k
theorem Grew.refl(v:Value)(w:World):Grew v v w w:=⟨⟨rfl,rfl,rfl,Nat.le_refl _,fun _ _ _=>rfl⟩,.inl rfl⟩
theorem Grew.trans{v v' v'':Value}{a b c:World}(h:Grew v v' a b)(k:Grew v' v'' b c):Grew v v'' a c:=by
 refine⟨⟨k.by'.os.trans h.by'.os,k.by'.tape.trans h.by'.tape,k.by'.output.trans h.by'.output,Nat.le_trans h.by'.size k.by'.size,fun i hi hG=>?_⟩,?_⟩
 ·refine(k.by'.block i (Nat.lt_of_lt_of_le hi h.by'.size) ?_).trans (h.by'.block i hi hG)
  rcases h.lies with e|⟨j,e,hj⟩
  ·rw[e];exact hG
  ·rw[e];intro x;have:=Option.some.inj x;omega
 ·rcases k.lies with e|⟨j,e,hj⟩
  ·rw[e];exact h.lies
  ·exact .inr ⟨j,e,Nat.le_trans h.by'.size hj⟩
theorem Grew.ofBelow{v:Value}{a b:World}(h:Below a.heap.size a b):Grew v v a b:=⟨⟨h.os,h.tape,h.output,h.size,fun k hk _=>h.block k hk⟩,.inl rfl⟩
theorem Grew.below{v v':Value}{a b:World}{B:Nat}(h:Grew v v' a b)(hB:B<=a.heap.size)(hv:∀k,v.ownBlock=some k->B<=k):Below B a b:=
 ⟨h.by'.os,h.by'.tape,h.by'.output,h.by'.size,fun k hk=>h.by'.block k om (fun e=>by have:=hv k e.symm;omega)⟩
theorem Bys.ge{w:World}{base:Nat}{v:Value}{l:List UInt8}(h:Bys w base v l):∀k,v.ownBlock=some k->base<=k/\k<w.heap.size:=fun k hk=>h.lt k hk
theorem Grew.row{v v':Value}{a b:World}{t:TypeId}{r:Nat}{cs:Array Value}(h:Grew v v' a b)(R:Row t a r cs)(hne:v.ownBlock≠some r):Row t b r cs:=(h.by'.block r R.lt (fun e=>hne e.symm)).trans R
theorem Grew.bys{v v' u:Value}{a b:World}{base:Nat}{l:List UInt8}(h:Grew v v' a b)(U:Bys a base u l)(hne:∀k,u.ownBlock=some k->v.ownBlock≠some k):Bys b base u l:=by
 refine⟨U.1,?_⟩
 rcases U.2 with e|⟨g,cap,cur,hv,hbb,hh,r⟩
 ·exact .inl e
 ·exact .inr ⟨g,cap,cur,hv,hbb,(h.by'.block g (Array.getElem?_eq_some_iff.1 hh).1 (fun e=>hne g (by rw[hv];rfl) e.symm)).trans hh,r⟩
theorem Grew.ne{v v':Value}{a b:World}{r:Nat}(h:Grew v v' a b)(hne:v.ownBlock≠some r)(hr:r<a.heap.size):v'.ownBlock≠some r:=by
 rcases h.lies with e|⟨k,e,hk⟩
 ·rw[e];exact hne
 ·rw[e];intro x;have:=Option.some.inj x;omega
theorem qg7{w:World}{base b:Nat}{v:Value}{l:List UInt8}(h:Bys w base v l)(hb:w.heap.size<=b):v.ownBlock≠some b:=fun e=>by have:=(h.ge b e).2;omega
theorem qe9{w w':World}{base b:Nat}{v:Value}{l:List UInt8}(h:Bys w base v l)(hne:v.ownBlock≠some b)(t:qbl b w w'):Bys w' base v l:=by
 refine⟨h.1,?_⟩
 rcases h.2 with e|⟨g,cap,cur,hv,hbb,hh,r⟩
 ·exact .inl e
 ·exact .inr ⟨g,cap,cur,hv,hbb,(t.other g (fun e=>hne (by rw[hv,e];rfl))).trans hh,r⟩
theorem qew{v v':Value}{w0 w w':World}{b:Nat}(h:Grew v v' w0 w)(hb:w0.heap.size<=b)(t:qbl b w w'):Grew v v' w0 w':=by
 have hB:=t.below w0.heap.size w om ⟨rfl,rfl,rfl,by have:=h.by'.size;omega,fun _ _=>rfl⟩
 refine⟨⟨hB.os.trans h.by'.os,hB.tape.trans h.by'.tape,hB.output.trans h.by'.output,Nat.le_trans h.by'.size hB.size,fun k hk hG=>?_⟩,h.lies⟩
 exact(t.other k om).trans (h.by'.block k hk hG)
theorem q9k(v:Int)(k:Nat):hi v k=v/256^k:=by
 induction k with
 | zero=>simp[hi]
 | succ k ih=>unfold hi;rw[ih,Int.pow_succ,Int.ediv_ediv_of_nonneg (Int.pow_nonneg (by decide))]
theorem q9p(v:Int)(k:Nat)(h:k<8):hi v k=v/2^(8*k):=by
 rw[q9k]
 rcases(show k=0\/k=1\/k=2\/k=3\/k=4\/k=5\/k=6\/k=7 by omega) with rfl|rfl|rfl|rfl|rfl|rfl|rfl|rfl<;>rfl
theorem q8c(w:World)(c:UInt8)(x:Int)(hx:x=(c.toNat:Int)):Src prog 1 167 (.slice (some ⟨w.heap.size,0,none⟩) 1 1) 1 (bc [c]) (w.alloc (.cells #[.int .u8 x] 5)):=by
 subst hx
 refine Src.ofSlice _ underlying167 ⟨w.heap.size,0,none⟩ 1 1 (bc [c]) (by simp[bc]) (fun j u hu=>?_) (qu7 _)
 rw[Addr.add_lit,Nat.zero_add]
 have hj:j=0:=by have:=(List.getElem?_eq_some_iff.1 hu).1;simp[bc] at this;omega
 subst hj
 have e:=World.cell?_alloc_mark w #[.int .u8 (c.toNat:Int)] 5 (0,0) 0
 rw[show u=.int .u8 (c.toNat:Int) by simpa[bc] using hu.symm]
 exact e
theorem q57(n:Int)(size j:Nat)(hj:j<size):be (hi n j) (size-j)=be (hi n (j+1)) (size-(j+1))++[b8 (hi n j)]:=by
 obtain⟨m,hm⟩:∃m,size-j=m+1:=⟨size-j-1,by omega⟩
 have hm':size-(j+1)=m:=by omega
 rw[hm,hm']
 rfl
theorem qpo(base:Nat)(v:Value)(l:List UInt8)(n:Int)(size:Nat)(w:World)(hv:Bys w base v l)(hbase:base<=w.heap.size)(hs:size<=8)(hl:l.length<=1000000)(h0:-9223372036854775808<=n)(h1:n<=9223372036854775807):
  Calls prog 159 #[v,.int .i64 n,.int .i64 (size:Int)] w fun x w'=>∃v',x=.returned v'/\Bys w' base v' (l++be n size)/\Grew v v' w w':=by
 obtain⟨i0,hi0,hz0,hz1,hz2⟩:=info_parts qpj
 have hw1:wrap64 ((size:Int)-1)=(size:Int)-1:=by unfold wrap64;omega
 go_enter func159,ntmps159
 go_wp2
 go_loopw [0,7] (fun b i W=>∃j:Nat,j<=size/\i=.int .i64 ((j:Int)-1)/\Bys W base b (l++be (hi n j) (size-j))/\Grew v b w W) (fun _ i _=>((intOf i)+1).toNat)
 case atStart=>exact⟨size,Nat.le_refl _,rfl,by simpa[be] using hv,Grew.refl _ _⟩
 case round=>
  obtain⟨j,hj,rfl,hO,hG⟩:=hrel
  by_cases hlt:0<j
  ·obtain⟨k,rfl⟩:∃k,j=k+1:=⟨j-1,by omega⟩
   have hk8:k<8:=by omega
   have hx:IntKind.u8.wrap (n/2^(8*(k:Int)).toNat)=((b8 (hi n k)).toNat:Int):=by
    rw[qjb,qc1,q9p n k hk8,show(8*(k:Int)).toNat=8*k by omega]
   have ek:(((k+1:Nat):Int)-1)=(k:Int):=by omega
   rw[ek]
   have hk0:(0:Int)<=(k:Int):=by omega
   have hk7:(k:Int)<=7:=by omega
   have hbl:(be (hi n (k+1)) (size-(k+1))).length=size-(k+1):=qd8 _ _
   have HN:Hid (be (hi n k) (size-k)=be (hi n (k+1)) (size-(k+1))++[b8 (hi n k)]):=q57 n size k om
   have hlen:(l++be (hi n (k+1)) (size-(k+1))).length<=1000008:=by rw[List.length_append];omega
   have hge:=hG.by'.size
   clear ek
   go_wp2_with (at_builtin;refine qfz _ rfl (.tmp 14) (.tmp 20) 167 167 rfl base 5 i0 (.int .u8 0) underlying167 hi0 hz0 hz1 hz2 rfl _ _ _ rfl (hO.alloc _) _ 1 (bc [b8 (hi n k)]) rfl (q8c _ _ _ hx) om (by simp;omega) ?_;intro v2 w2 hown hgrow hat)
   go_roundw
   case rel=>
    refine⟨k,by omega,rfl,?_,?_⟩
    ·rw[HN.out,←List.append_assoc]
     unfold Bys
     rw[List.length_append,qvx]
     exact hown
    ·refine hG.trans (Grew.trans (Grew.ofBelow ((Below.refl _ _).alloc (Nat.le_refl _) _)) ⟨hgrow,?_⟩)
     rcases hat with e|e
     ·exact .inl e
     ·exact .inr ⟨_,e,Nat.le_refl _⟩
   case measure=>simp[intOf]
  ·obtain rfl:j=0:=by omega
   go_wp2
   go_ret
   exact⟨_,rfl,by simpa[hi] using hO,hG⟩
theorem q44{base:Nat}{v:Value}{l:List UInt8}(n:Int)(w:World)(hv:Bys w base v l)(hbase:base<=w.heap.size)(hl:l.length<=1000000)(h0:-9223372036854775808<=n)(h1:n<=9223372036854775807):
  Calls prog 159 #[v,.int .i64 n,.int .i64 1] w fun x w'=>∃v',x=.returned v'/\Bys w' base v' (l++be n 1)/\Grew v v' w w':=qpo base v l n 1 w hv hbase om hl h0 h1
theorem qgc{base:Nat}{v:Value}{l:List UInt8}(n:Int)(w:World)(hv:Bys w base v l)(hbase:base<=w.heap.size)(hl:l.length<=1000000)(h0:-9223372036854775808<=n)(h1:n<=9223372036854775807):
  Calls prog 159 #[v,.int .i64 n,.int .i64 2] w fun x w'=>∃v',x=.returned v'/\Bys w' base v' (l++be n 2)/\Grew v v' w w':=qpo base v l n 2 w hv hbase om hl h0 h1
theorem qu5{base:Nat}{v:Value}{l:List UInt8}(n:Int)(w:World)(hv:Bys w base v l)(hbase:base<=w.heap.size)(hl:l.length<=1000000)(h0:-9223372036854775808<=n)(h1:n<=9223372036854775807):
  Calls prog 159 #[v,.int .i64 n,.int .i64 4] w fun x w'=>∃v',x=.returned v'/\Bys w' base v' (l++be n 4)/\Grew v v' w w':=qpo base v l n 4 w hv hbase om hl h0 h1
theorem q59{base:Nat}{v:Value}{l:List UInt8}(n:Int)(w:World)(hv:Bys w base v l)(hbase:base<=w.heap.size)(hl:l.length<=1000000)(h0:-9223372036854775808<=n)(h1:n<=9223372036854775807):
  Calls prog 159 #[v,.int .i64 n,.int .i64 8] w fun x w'=>∃v',x=.returned v'/\Bys w' base v' (l++be n 8)/\Grew v v' w w':=qpo base v l n 8 w hv hbase om hl h0 h1
def evB(e:Ev):List UInt8:=be e.t 8++be (167772161+e.s) 4++be (3405803777+e.a) 4++be (1024+e.b*8) 2++be (1024+e.b*8+8-1) 2++be (mkE e) 1
theorem q80(e:Ev):(evB e).length=21:=by simp[evB,qd8]
theorem q7z(l:List UInt8)(e:Ev):l++be e.t 8++be (167772161+e.s) 4++be (3405803777+e.a) 4++be (1024+e.b*8) 2++be (1024+e.b*8+8-1) 2++be (mkE e) 1=l++evB e:=by simp[evB]
theorem qvw{base:Nat}{v:Value}{l:List UInt8}(e:Ev)(w:World)(hv:Bys w base v l)(hbase:base<=w.heap.size)(hl:l.length<=900000)(he:okE e):
  Calls prog 161 #[v,.agg (ec e)] w fun x w'=>∃v',x=.returned v'/\Bys w' base v' (l++evB e)/\Grew v v' w w':=by
 have HA:Hid (_=l++evB e):=q7z l e
 obtain⟨⟨t0,t1⟩,⟨s0,s1⟩,⟨a0,a1⟩,b0,b1⟩:=he
 have hO:=hv
 have hG:=Grew.refl v w
 have hge:=hbase
 have hk:=qadb e
 go_enter func161,ntmps161
 go_wp2_with (first|((with_reducible refine gB 105 1 ?_);refine bx 105 _ (ec e) ?_;intro b3 w2 l3 R3 hb2;have hne:v.ownBlock≠some b3:=(fun ee=>by have:=(hv.ge _ ee).2;omega);replace hO:=hO.below hb2;replace hge:=Nat.le_trans hge hb2.size;replace hG:=hG.trans (Grew.ofBelow hb2))|((with_reducible refine gL 3 6 ?_);refine fx R3 _ 3 _ ?_)|((with_reducible refine gL 3 11 ?_);refine fx R3 _ 0 _ ?_)|((with_reducible refine gL 3 15 ?_);refine fx R3 _ 1 _ ?_)|((with_reducible refine gL 3 20 ?_);refine fx R3 _ 2 _ ?_)|((with_reducible refine gL 105 3 ?_);refine qac 105 _ rfl rfl b3 rfl (ec e) R3 _ underlying105 rfl (qf2 e) ?_)|(go_at_call 182;go_fit (q6i e _);rintro x w5 ⟨rfl,hb5⟩;replace hO:=hO.below hb5;replace hge:=Nat.le_trans hge hb5.size;replace hG:=hG.trans (Grew.ofBelow hb5);replace R3:=R3.below hb5)|(go_at_call 159;go_fit (q59 _ _ hO om (by first|omega|(simp only[List.length_append,List.length_nil,qd8];omega)) om om);rintro x w5 ⟨v5,rfl,hO5,hG5⟩;have hne5:=hG5.ne hne R3.lt;replace R3:=hG5.row R3 hne;replace hne:=hne5;clear hne5;replace hO:=hO5;replace hge:=Nat.le_trans hge hG5.by'.size;replace hG:=hG.trans hG5;clear hO5 hG5)|(go_at_call 159;go_fit (qu5 _ _ hO om (by first|omega|(simp only[List.length_append,List.length_nil,qd8];omega)) om om);rintro x w5 ⟨v5,rfl,hO5,hG5⟩;have hne5:=hG5.ne hne R3.lt;replace R3:=hG5.row R3 hne;replace hne:=hne5;clear hne5;replace hO:=hO5;replace hge:=Nat.le_trans hge hG5.by'.size;replace hG:=hG.trans hG5;clear hO5 hG5)|(go_at_call 159;go_fit (qgc _ _ hO om (by first|omega|(simp only[List.length_append,List.length_nil,qd8];omega)) om om);rintro x w5 ⟨v5,rfl,hO5,hG5⟩;have hne5:=hG5.ne hne R3.lt;replace R3:=hG5.row R3 hne;replace hne:=hne5;clear hne5;replace hO:=hO5;replace hge:=Nat.le_trans hge hG5.by'.size;replace hG:=hG.trans hG5;clear hO5 hG5)|(go_at_call 159;go_fit (q44 _ _ hO om (by first|omega|(simp only[List.length_append,List.length_nil,qd8];omega)) om om);rintro x w5 ⟨v5,rfl,hO5,hG5⟩;have hne5:=hG5.ne hne R3.lt;replace R3:=hG5.row R3 hne;replace hne:=hne5;clear hne5;replace hO:=hO5;replace hge:=Nat.le_trans hge hG5.by'.size;replace hG:=hG.trans hG5;clear hO5 hG5))
 go_ret
 exact⟨_,rfl,by rw[←HA.out];exact hO,hG⟩
theorem q64{w:World}{base:Nat}{v:Value}{l:List UInt8}(h:Bys w base v l)(hl:0<l.length):(convert 167 9 v).run prog w=.ok (.string (txt l)) w:=by
 rcases h.2 with⟨e,n0⟩|⟨b,cap,cur,hv,hbb,hh,hnc,hcm,hcs,ht⟩
 ·omega
 ·subst hv
  refine run_convert_bytes_back (P:=prog) w 167 9 5 ⟨b,0,none⟩ cap l underlying167 underlying5 underlying9 ?_
  intro j hj
  have e:(bc l)[j]?=some (.int .u8 (l[j].toNat:Int)):=by simp[bc,hj]
  rw[←ht] at e
  rw[List.getElem?_take_of_lt om] at e
  rw[Addr.add_lit,Nat.zero_add]
  simpa[World.cell?,hh] using e
theorem q79{w:World}{base:Nat}{v:Value}{l:List UInt8}(h:Bys w base v l)(hl:0<l.length):Src prog 1 167 v l.length (bc l) w:=by
 rcases h.2 with⟨e,n0⟩|⟨b,cap,cur,hv,hbb,hh,hnc,hcm,hcs,ht⟩
 ·omega
 ·subst hv
  refine Src.ofSlice _ underlying167 ⟨b,0,none⟩ l.length cap (bc l) (by simp[bc]) (fun j u hu=>?_) (qu7 _)
  rw[Addr.add_lit,Nat.zero_add]
  have hj:j<l.length:=by have:=(List.getElem?_eq_some_iff.1 hu).1;simpa[bc] using this
  rw[←ht] at hu
  rw[List.getElem?_take_of_lt om] at hu
  simpa[World.cell?,hh] using hu
def msgB(time seq kind:Int)(l:List UInt8):List UInt8:=be 10 2++be (20+(l.length:Int)) 2++be (time%4294967296) 4++be seq 4++be 1 4++be kind 2++be (4+(l.length:Int)) 2++l
theorem qlj(time seq kind:Int)(l:List UInt8):(msgB time seq kind l).length=20+l.length:=by simp[msgB,qd8];omega
def qi0(n:Int):Bool:=decide (0<=n)&&decide (n<=4294967295)
theorem q2s{n:Int}(h:qi0 n=true):0<=n/\n<=4294967295:=by simpa[qi0] using h
theorem q5u{n:Int}(h:qi0 n=false):n<0\/4294967295<n:=by
 simp[qi0] at h
 omega
def msgT(time seq kind:Int)(l:List UInt8):ByteArray:=if qi0 seq then txt (msgB time seq kind l) else ByteArray.empty
def msgE(seq:Int):Int:=if qi0 seq then 0 else 2
def msgS(time seq kind:Int)(l:List UInt8):Value:=.tuple #[.string (msgT time seq kind l),.int .i64 (msgE seq)]
theorem q4t(time seq kind:Int)(l:List UInt8)(h:qi0 seq=true):msgS time seq kind l=.tuple #[.string (txt (msgB time seq kind l)),.int .i64 0]:=by simp[msgS,msgT,msgE,h]
theorem q8h(time seq kind:Int)(l:List UInt8)(h:qi0 seq=false):msgS time seq kind l=.tuple #[.string ByteArray.empty,.int .i64 2]:=by simp[msgS,msgT,msgE,h]
theorem sZxr16{p:Prop}(h:p:=by
 clear h hb
 go_enter func160,ntmps160
 go_wp2
 go_ret2
 exact⟨by rw[HS.out];rfl,hB⟩):p:=h
theorem qp7{v:Value}{l:List UInt8}(base:Nat)(time seq kind:Int)(w:World)(hv:Bys w base v l)(hl0:0<l.length)(hl:l.length<=900000)(ht0:0<=time)(ht1:time<=1099511627776)(hk0:0<=kind)(hk1:kind<=300):
  Calls prog 160 #[.int .i64 time,.int .i64 seq,.int .i64 kind,v] w fun x w'=>x=.returned (msgS time seq kind l)/\Below w.heap.size w w':=by
 rcases hb:qi0 seq with _|_
 ·have HS:Hid (msgS time seq kind l=_):=q8h _ _ _ _ hb
  have hB:=Below.refl w.heap.size w
  rcases q5u hb with h|h
  ·have g0:decide (seq<0)=true:=by simpa using h
   exact sZxr16
  ·have g0:decide (seq<0)=false:=by simp;omega
   have g1:decide (4294967295<seq)=true:=by simpa using h
   exact sZxr16
 ·have HS:Hid (msgS time seq kind l=_):=q4t _ _ _ _ hb
  obtain⟨q0,q1⟩:=q2s hb
  clear hb
  have g0:decide (seq<0)=false:=by simp;omega
  have g1:decide (4294967295<seq)=false:=by simp;omega
  have HM:Hid ([]++be 10 2++be (20+(l.length:Int)) 2++be (time%4294967296) 4++be seq 4++be 1 4++be kind 2++be (4+(l.length:Int)) 2++l=msgB time seq kind l):=by show _=_;simp[msgB]
  obtain⟨sa,sc,rfl⟩:=hv.slice
  have hO:=Bys.nil w w.heap.size
  have hG:=Grew.refl (.slice none 0 0) w
  have hge:=Nat.le_refl w.heap.size
  have hne:∀k,Value.ownBlock (.slice sa l.length sc)=some k->Value.ownBlock (.slice none 0 0)≠some k:=fun k _=>by simp[Value.ownBlock]
  obtain⟨i0,hi0,hz0,hz1,hz2⟩:=info_parts qpj
  have hlow:0<=time%4294967296/\time%4294967296<4294967296:=by omega
  go_enter func160,ntmps160
  go_wp2_with (first|(go_at_call 125;go_fit (q0t _ _ ht0 ht1);rintro x w5 ⟨rfl,hw⟩;rw[hw];clear hw w5)|(go_at_call 159;go_fit (qu5 _ _ hO om (by first|omega|(simp only[List.length_append,List.length_nil,qd8];omega)) om om);rintro x w5 ⟨v5,rfl,hO5,hG5⟩;have hne5:∀k,Value.ownBlock (.slice sa l.length sc)=some k->v5.ownBlock≠some k:=fun k hk=>hG5.ne (hne k hk) (hv.ge k hk).2;replace hv:=hG5.bys hv hne;replace hne:=hne5;clear hne5;replace hO:=hO5;replace hge:=Nat.le_trans hge hG5.by'.size;replace hG:=hG.trans hG5;clear hO5 hG5)|(go_at_call 159;go_fit (qgc _ _ hO om (by first|omega|(simp only[List.length_append,List.length_nil,qd8];omega)) om om);rintro x w5 ⟨v5,rfl,hO5,hG5⟩;have hne5:∀k,Value.ownBlock (.slice sa l.length sc)=some k->v5.ownBlock≠some k:=fun k hk=>hG5.ne (hne k hk) (hv.ge k hk).2;replace hv:=hG5.bys hv hne;replace hne:=hne5;clear hne5;replace hO:=hO5;replace hge:=Nat.le_trans hge hG5.by'.size;replace hG:=hG.trans hG5;clear hO5 hG5)|(at_builtin;refine qfz _ rfl (.tmp 40) (.tmp 41) 167 167 rfl w.heap.size 5 i0 (.int .u8 0) underlying167 hi0 hz0 hz1 hz2 rfl _ _ _ rfl hO _ l.length (bc l) rfl (q79 hv hl0) (by simp[qd8];omega) hge ?_;intro v2 w2 hown hgrow hat;have hO2:=q64 (l:=[]++be 10 2++be (20+(l.length:Int)) 2++be (time%4294967296) 4++be seq 4++be 1 4++be kind 2++be (4+(l.length:Int)) 2++l) (by unfold Bys;rw[List.length_append,qvx];exact hown) (by rw[HM.out,qlj];omega);rw[HM.out] at hO2;replace hG:=hG.trans ⟨hgrow,by rcases hat with e|e;exact .inl e;exact .inr ⟨_,e,Nat.le_refl _⟩⟩))
  go_ret2
  exact⟨by rw[HS.out];rfl,hG.below (Nat.le_refl _) (fun k hk=>by simp[Value.ownBlock] at hk)⟩
def tabL:List Value:=[.int .i64 323,.int .i64 8,.int .i64 8,.int .i64 4,.int .i64 225,.int .i64 4,.int .i64 361,.int .i64 2,.int .i64 362,.int .i64 2,.int .i64 230,.int .i64 1]
def Tab(w:World):Prop:=w.rangeAt 0 0 tabL
theorem Tab.lt{w:World}(h:Tab w):0<w.heap.size:=by
 have:=h 0 _ rfl
 unfold World.cell? at this
 by_cases hlt:0<w.heap.size
 ·exact hlt
 ·have h3:w.heap[0]?=none:=Array.getElem?_eq_none om
  simp[h3] at this
theorem Tab.keep{w w':World}{B:Nat}(h:Tab w)(hb:Below B w w')(hB:0<B):Tab w':=fun j v hv=>by
 have:=h j v hv
 unfold World.cell? at *
 rw[hb.block _ hB]
 exact this
theorem Tab.below{w w':World}(h:Tab w)(hb:Below w.heap.size w w'):Tab w':=h.keep hb h.lt
theorem qsf{ops:Array Oper}{rest:List Oper}{o:Oper}{a:Act}{w:World}{Q:Exit->Act->World->Prop}(x:Operand)(ho:o.op=.load 203 x)(hw:Region.wanted o (yielded ops a.tmps)=true)(hx:a.eval x=.pointer (some ⟨0,0,none⟩))(h:Tab w)(hr:wpList prog ops Q rest (a.put o.dst (.agg tabL.toArray)) w):wpList prog ops Q (o::rest) a w:=
 wpList_step fun K hK=>by
  rw[if_pos hw]
  exact wp_load_mid 203 x ho 0 0 hx tabL _ h underlying203 rfl kr (hK _ _ hr)
theorem sZxr18{p:Prop}(h:p:=by
 rw[if_pos hw]
 unfold Oper.wp execOp
 simp only[ho,hx,hy,Sem.run_bind,hrun,Result.andThen_ok,Sem.run_pure]
 exact hK _ _ hr):p:=h
theorem qfp{ops:Array Oper}{rest:List Oper}{o:Oper}{a:Act}{w:World}{Q:Exit->Act->World->Prop}(x y:Operand)(ho:o.op=.index 203 x y)(hw:Region.wanted o (yielded ops a.tmps)=true)(i q:Value)(hx:a.eval x=.agg tabL.toArray)(hy:a.eval y=i)(hrun:(Instr.index 203 (.agg tabL.toArray) i).run prog w=.ok q w)(hr:wpList prog ops Q rest (a.put o.dst q) w):wpList prog ops Q (o::rest) a w:=
 wpList_step fun K hK=>by
  exact sZxr18
def tplN(j:Nat):List Int:=([323,8,8,4,225,4,361,2,362,2,230,1]:List Int).take (2*j)
def tplB(j:Nat):List UInt8:=be 300 2++be 6 2++(tplN j).flatMap (fun n=>be n 2)
theorem qi9(j:Nat):(tplB j).length<=28:=by
 unfold tplB tplN
 rcases(show j=0\/j=1\/j=2\/j=3\/j=4\/j=5\/6<=j by omega) with rfl|rfl|rfl|rfl|rfl|rfl|h
 all_goals first|(simp[qd8];done)|(rw[List.take_of_length_le (by simp;omega)];simp[qd8])
theorem qqi:(tplB 6).length=28:=by simp[tplB,tplN,qd8]
theorem q14:be 300 2++be 6 2=tplB 0:=by simp[tplB,tplN]
theorem qalb:tplB 0++be 323 2++be 8 2=tplB 1:=by simp[tplB,tplN]
theorem q99:tplB 1++be 8 2++be 4 2=tplB 2:=by simp[tplB,tplN]
theorem qabb:tplB 2++be 225 2++be 4 2=tplB 3:=by simp[tplB,tplN]
theorem q92:tplB 3++be 361 2++be 2 2=tplB 4:=by simp[tplB,tplN]
theorem qaib:tplB 4++be 362 2++be 2 2=tplB 5:=by simp[tplB,tplN]
theorem q9o:tplB 5++be 230 2++be 1 2=tplB 6:=by simp[tplB,tplN]
theorem qu3(seq:Int)(w:World)(hT:Tab w):
  Calls prog 122 #[.int .i64 seq] w fun x w'=>x=.returned (msgS 0 seq 2 (tplB 6))/\Below w.heap.size w w':=by
 have hO:=Bys.nil w w.heap.size
 have hG:=Grew.refl (.slice none 0 0) w
 have hge:=Nat.le_refl w.heap.size
 have H0:Hid ([]++be 300 2++be 6 2=tplB 0):=by show _=_;rw[←q14];rfl
 have hB:∀ {v':Value} {w':World},Grew (.slice none 0 0) v' w w'->Below w.heap.size w w':=fun h=>h.below (Nat.le_refl _) (fun k hk=>by simp[Value.ownBlock] at hk)
 go_enter func122,ntmps122
 go_wp2_with (first|(go_at_call 159;go_fit (qgc _ _ hO om (by first|omega|(simp only[List.length_append,List.length_nil,qd8];omega)) om om);rintro x w5 ⟨v5,rfl,hO5,hG5⟩;replace hO:=hO5;replace hge:=Nat.le_trans hge hG5.by'.size;replace hG:=hG.trans hG5;clear hO5 hG5)|((with_reducible refine atOp (.load 203 (.global 0)) rfl ?_);refine qsf _ rfl rfl rfl (hT.keep (hB hG) hT.lt) ?_))
 rw[H0.out] at hO
 go_loopw [4,11] (fun b i W=>∃j:Nat,j<=6/\i=.int .i64 (j:Int)/\Bys W w.heap.size b (tplB j)/\Grew (.slice none 0 0) b w W) (fun _ i _=>6-(intOf i).toNat)
 case atStart=>exact⟨0,by omega,rfl,hO,hG⟩
 case round=>
  clear hO hG hge
  obtain⟨j,hj,rfl,hO,hG⟩:=hrel
  have hge:=hG.by'.size
  have hge0:=hge
  by_cases hlt:j<6
  ·rcases(show j=0\/j=1\/j=2\/j=3\/j=4\/j=5 by omega) with rfl|rfl|rfl|rfl|rfl|rfl
   ·have HN:Hid (tplB 0++be 323 2++be 8 2=tplB 1):=qalb
    have hlen:=qi9 0
    go_wp2_with (first|((with_reducible refine gA 202 ?_);refine qaf 6 202 rfl rfl rfl #[.int .i64 0,.int .i64 0] (fun w=>by kernel_rfl) ?_;intro b6 w2 l6 R6 hb2;have hne:=qg7 hO l6;replace hO:=hO.below hb2;replace hge:=Nat.le_trans hge hb2.size;replace hG:=hG.trans (Grew.ofBelow hb2))|((with_reducible refine atOp (.index 203 (.tmp 10) (.tmp 11)) rfl ?_);refine qfp (.tmp 10) (.tmp 11) rfl rfl _ (.agg #[.int .i64 323,.int .i64 8]) rfl rfl kr ?_)|((with_reducible refine gS 202 6 13 ?_);refine sx 202 (.tmp 6) (.tmp 13) #[.int .i64 323,.int .i64 8] R6 ?_;intro w3 R6 t3;replace hO:=qe9 hO hne t3;replace hG:=qew hG (Nat.le_trans hge0 l6) t3;replace hge:=Nat.le_trans hge (Nat.le_of_eq t3.size.symm))|((with_reducible refine gL 3 15 ?_);refine fx R6 _ 0 _ ?_)|((with_reducible refine gL 3 19 ?_);refine fx R6 _ 1 _ ?_)|(go_at_call 159;go_fit (qgc _ _ hO om (by first|omega|(simp only[List.length_append,List.length_nil,qd8];omega)) om om);rintro x w5 ⟨v5,rfl,hO5,hG5⟩;have hne5:=hG5.ne hne R6.lt;replace R6:=hG5.row R6 hne;replace hne:=hne5;clear hne5;replace hO:=hO5;replace hge:=Nat.le_trans hge hG5.by'.size;replace hG:=hG.trans hG5;clear hO5 hG5))
    go_roundw
    case rel=>exact⟨1,by omega,rfl,by rw[←HN.out];exact hO,hG⟩
    case measure=>simp[intOf]
   ·have HN:Hid (tplB 1++be 8 2++be 4 2=tplB 2):=q99
    have hlen:=qi9 1
    go_wp2_with (first|((with_reducible refine gA 202 ?_);refine qaf 6 202 rfl rfl rfl #[.int .i64 0,.int .i64 0] (fun w=>by kernel_rfl) ?_;intro b6 w2 l6 R6 hb2;have hne:=qg7 hO l6;replace hO:=hO.below hb2;replace hge:=Nat.le_trans hge hb2.size;replace hG:=hG.trans (Grew.ofBelow hb2))|((with_reducible refine atOp (.index 203 (.tmp 10) (.tmp 11)) rfl ?_);refine qfp (.tmp 10) (.tmp 11) rfl rfl _ (.agg #[.int .i64 8,.int .i64 4]) rfl rfl kr ?_)|((with_reducible refine gS 202 6 13 ?_);refine sx 202 (.tmp 6) (.tmp 13) #[.int .i64 8,.int .i64 4] R6 ?_;intro w3 R6 t3;replace hO:=qe9 hO hne t3;replace hG:=qew hG (Nat.le_trans hge0 l6) t3;replace hge:=Nat.le_trans hge (Nat.le_of_eq t3.size.symm))|((with_reducible refine gL 3 15 ?_);refine fx R6 _ 0 _ ?_)|((with_reducible refine gL 3 19 ?_);refine fx R6 _ 1 _ ?_)|(go_at_call 159;go_fit (qgc _ _ hO om (by first|omega|(simp only[List.length_append,List.length_nil,qd8];omega)) om om);rintro x w5 ⟨v5,rfl,hO5,hG5⟩;have hne5:=hG5.ne hne R6.lt;replace R6:=hG5.row R6 hne;replace hne:=hne5;clear hne5;replace hO:=hO5;replace hge:=Nat.le_trans hge hG5.by'.size;replace hG:=hG.trans hG5;clear hO5 hG5))
    go_roundw
    case rel=>exact⟨2,by omega,rfl,by rw[←HN.out];exact hO,hG⟩
    case measure=>simp[intOf]
   ·have HN:Hid (tplB 2++be 225 2++be 4 2=tplB 3):=qabb
    have hlen:=qi9 2
    go_wp2_with (first|((with_reducible refine gA 202 ?_);refine qaf 6 202 rfl rfl rfl #[.int .i64 0,.int .i64 0] (fun w=>by kernel_rfl) ?_;intro b6 w2 l6 R6 hb2;have hne:=qg7 hO l6;replace hO:=hO.below hb2;replace hge:=Nat.le_trans hge hb2.size;replace hG:=hG.trans (Grew.ofBelow hb2))|((with_reducible refine atOp (.index 203 (.tmp 10) (.tmp 11)) rfl ?_);refine qfp (.tmp 10) (.tmp 11) rfl rfl _ (.agg #[.int .i64 225,.int .i64 4]) rfl rfl kr ?_)|((with_reducible refine gS 202 6 13 ?_);refine sx 202 (.tmp 6) (.tmp 13) #[.int .i64 225,.int .i64 4] R6 ?_;intro w3 R6 t3;replace hO:=qe9 hO hne t3;replace hG:=qew hG (Nat.le_trans hge0 l6) t3;replace hge:=Nat.le_trans hge (Nat.le_of_eq t3.size.symm))|((with_reducible refine gL 3 15 ?_);refine fx R6 _ 0 _ ?_)|((with_reducible refine gL 3 19 ?_);refine fx R6 _ 1 _ ?_)|(go_at_call 159;go_fit (qgc _ _ hO om (by first|omega|(simp only[List.length_append,List.length_nil,qd8];omega)) om om);rintro x w5 ⟨v5,rfl,hO5,hG5⟩;have hne5:=hG5.ne hne R6.lt;replace R6:=hG5.row R6 hne;replace hne:=hne5;clear hne5;replace hO:=hO5;replace hge:=Nat.le_trans hge hG5.by'.size;replace hG:=hG.trans hG5;clear hO5 hG5))
    go_roundw
    case rel=>exact⟨3,by omega,rfl,by rw[←HN.out];exact hO,hG⟩
    case measure=>simp[intOf]
   ·have HN:Hid (tplB 3++be 361 2++be 2 2=tplB 4):=q92
    have hlen:=qi9 3
    go_wp2_with (first|((with_reducible refine gA 202 ?_);refine qaf 6 202 rfl rfl rfl #[.int .i64 0,.int .i64 0] (fun w=>by kernel_rfl) ?_;intro b6 w2 l6 R6 hb2;have hne:=qg7 hO l6;replace hO:=hO.below hb2;replace hge:=Nat.le_trans hge hb2.size;replace hG:=hG.trans (Grew.ofBelow hb2))|((with_reducible refine atOp (.index 203 (.tmp 10) (.tmp 11)) rfl ?_);refine qfp (.tmp 10) (.tmp 11) rfl rfl _ (.agg #[.int .i64 361,.int .i64 2]) rfl rfl kr ?_)|((with_reducible refine gS 202 6 13 ?_);refine sx 202 (.tmp 6) (.tmp 13) #[.int .i64 361,.int .i64 2] R6 ?_;intro w3 R6 t3;replace hO:=qe9 hO hne t3;replace hG:=qew hG (Nat.le_trans hge0 l6) t3;replace hge:=Nat.le_trans hge (Nat.le_of_eq t3.size.symm))|((with_reducible refine gL 3 15 ?_);refine fx R6 _ 0 _ ?_)|((with_reducible refine gL 3 19 ?_);refine fx R6 _ 1 _ ?_)|(go_at_call 159;go_fit (qgc _ _ hO om (by first|omega|(simp only[List.length_append,List.length_nil,qd8];omega)) om om);rintro x w5 ⟨v5,rfl,hO5,hG5⟩;have hne5:=hG5.ne hne R6.lt;replace R6:=hG5.row R6 hne;replace hne:=hne5;clear hne5;replace hO:=hO5;replace hge:=Nat.le_trans hge hG5.by'.size;replace hG:=hG.trans hG5;clear hO5 hG5))
    go_roundw
    case rel=>exact⟨4,by omega,rfl,by rw[←HN.out];exact hO,hG⟩
    case measure=>simp[intOf]
   ·have HN:Hid (tplB 4++be 362 2++be 2 2=tplB 5):=qaib
    have hlen:=qi9 4
    go_wp2_with (first|((with_reducible refine gA 202 ?_);refine qaf 6 202 rfl rfl rfl #[.int .i64 0,.int .i64 0] (fun w=>by kernel_rfl) ?_;intro b6 w2 l6 R6 hb2;have hne:=qg7 hO l6;replace hO:=hO.below hb2;replace hge:=Nat.le_trans hge hb2.size;replace hG:=hG.trans (Grew.ofBelow hb2))|((with_reducible refine atOp (.index 203 (.tmp 10) (.tmp 11)) rfl ?_);refine qfp (.tmp 10) (.tmp 11) rfl rfl _ (.agg #[.int .i64 362,.int .i64 2]) rfl rfl kr ?_)|((with_reducible refine gS 202 6 13 ?_);refine sx 202 (.tmp 6) (.tmp 13) #[.int .i64 362,.int .i64 2] R6 ?_;intro w3 R6 t3;replace hO:=qe9 hO hne t3;replace hG:=qew hG (Nat.le_trans hge0 l6) t3;replace hge:=Nat.le_trans hge (Nat.le_of_eq t3.size.symm))|((with_reducible refine gL 3 15 ?_);refine fx R6 _ 0 _ ?_)|((with_reducible refine gL 3 19 ?_);refine fx R6 _ 1 _ ?_)|(go_at_call 159;go_fit (qgc _ _ hO om (by first|omega|(simp only[List.length_append,List.length_nil,qd8];omega)) om om);rintro x w5 ⟨v5,rfl,hO5,hG5⟩;have hne5:=hG5.ne hne R6.lt;replace R6:=hG5.row R6 hne;replace hne:=hne5;clear hne5;replace hO:=hO5;replace hge:=Nat.le_trans hge hG5.by'.size;replace hG:=hG.trans hG5;clear hO5 hG5))
    go_roundw
    case rel=>exact⟨5,by omega,rfl,by rw[←HN.out];exact hO,hG⟩
    case measure=>simp[intOf]
   ·have HN:Hid (tplB 5++be 230 2++be 1 2=tplB 6):=q9o
    have hlen:=qi9 5
    go_wp2_with (first|((with_reducible refine gA 202 ?_);refine qaf 6 202 rfl rfl rfl #[.int .i64 0,.int .i64 0] (fun w=>by kernel_rfl) ?_;intro b6 w2 l6 R6 hb2;have hne:=qg7 hO l6;replace hO:=hO.below hb2;replace hge:=Nat.le_trans hge hb2.size;replace hG:=hG.trans (Grew.ofBelow hb2))|((with_reducible refine atOp (.index 203 (.tmp 10) (.tmp 11)) rfl ?_);refine qfp (.tmp 10) (.tmp 11) rfl rfl _ (.agg #[.int .i64 230,.int .i64 1]) rfl rfl kr ?_)|((with_reducible refine gS 202 6 13 ?_);refine sx 202 (.tmp 6) (.tmp 13) #[.int .i64 230,.int .i64 1] R6 ?_;intro w3 R6 t3;replace hO:=qe9 hO hne t3;replace hG:=qew hG (Nat.le_trans hge0 l6) t3;replace hge:=Nat.le_trans hge (Nat.le_of_eq t3.size.symm))|((with_reducible refine gL 3 15 ?_);refine fx R6 _ 0 _ ?_)|((with_reducible refine gL 3 19 ?_);refine fx R6 _ 1 _ ?_)|(go_at_call 159;go_fit (qgc _ _ hO om (by first|omega|(simp only[List.length_append,List.length_nil,qd8];omega)) om om);rintro x w5 ⟨v5,rfl,hO5,hG5⟩;have hne5:=hG5.ne hne R6.lt;replace R6:=hG5.row R6 hne;replace hne:=hne5;clear hne5;replace hO:=hO5;replace hge:=Nat.le_trans hge hG5.by'.size;replace hG:=hG.trans hG5;clear hO5 hG5))
    go_roundw
    case rel=>exact⟨6,by omega,rfl,by rw[←HN.out];exact hO,hG⟩
    case measure=>simp[intOf]
  ·obtain rfl:j=6:=by omega
   have hl6:=qqi
   go_wp2_with (go_at_call 160;go_fit (qp7 w.heap.size 0 seq 2 _ hO om om om om om om);rintro x w5 ⟨rfl,hb5⟩;unfold msgS)
   go_ret2
   exact⟨rfl,(hB hG).trans (hb5.mono hge)⟩
theorem q93 : prog.globalNamed "rentroll/record.parts" = some 0 := by kernel_rfl
theorem qym:(prog.globals[0]?).map (·.type)=some 203:=by kernel_rfl
theorem qji{H:Type}{enc:TypeId×Value->H}{w:World}{base:Nat}{sp:Nat->Bool}{held:Bool}{fuel:Nat}{c d:Value}{x:DataW H×List MemPlace}(hf0:DataW.trod enc prog w base sp held fuel 202 [c,d]=some x):∃a b:Int,c=.int .i64 a/\d=.int .i64 b/\x.1=.agg [.lit (.int .i64 a),.lit (.int .i64 b)]:=by
 have cI:prog.cellsOf 3=1:=by kernel_rfl
 obtain⟨ys,m,_,hx,_,hl,hf⟩:=DataW.trod_struct underlying202 hf0
 match ys,hl with
 | [y0,y1],_=>
 have hv0:=hf 0 _ rfl
 have hv1:=hf 1 _ rfl
 simp[cI] at hv0 hv1
 obtain⟨x0,e0,rfl,s0⟩:=DataW.trod_int underlying3 hv0
 obtain⟨x1,e1,rfl,s1⟩:=DataW.trod_int underlying3 hv1
 simp at e0 e1
 subst e0 e1
 exact⟨x0,x1,rfl,rfl,by rw[hx];simp⟩
theorem qm9{W : World}(h : laidMetH prog [("rentroll/record.parts", Rows.laid_rentroll_record_parts)] W): Tab W := by
 rw[MakeChecks.laidMetH_plain _ _ _ kr] at h
 obtain⟨ps,⟨g,t,cs,fuel,p,q,hg,ht,hv,hd,_⟩,_⟩:=h
 obtain rfl:=Option.some.inj (q93.symm.trans hg)
 obtain rfl:=Option.some.inj (qym.symm.trans ht)
 have cT:prog.cellsOf 203=12:=by kernel_rfl
 have cP:prog.cellsOf 202=2:=by kernel_rfl
 obtain⟨xs,m,hfu,hx,hlen,hn,hel⟩:=DataW.trod_array underlying203 hd
 have hvc:=fun k=>World.var?_cell hg hv k
 obtain⟨l⟩:=cs
 have hl12:l.length=12:=by first|simpa[cT,cP] using hlen|simpa[cT] using hlen
 match l,hl12 with
 | [c0,c1,c2,c3,c4,c5,c6,c7,c8,c9,c10,c11],_=>
 match xs,hn with
 | [x0,x1,x2,x3,x4,x5],_=>
 have h0:=hel 0 om
 have h1:=hel 1 om
 have h2:=hel 2 om
 have h3:=hel 3 om
 have h4:=hel 4 om
 have h5:=hel 5 om
 simp[cP] at h0 h1 h2 h3 h4 h5
 obtain⟨a0,b0,rfl,rfl,e0⟩:=qji h0
 obtain⟨a1,b1,rfl,rfl,e1⟩:=qji h1
 obtain⟨a2,b2,rfl,rfl,e2⟩:=qji h2
 obtain⟨a3,b3,rfl,rfl,e3⟩:=qji h3
 obtain⟨a4,b4,rfl,rfl,e4⟩:=qji h4
 obtain⟨a5,b5,rfl,rfl,e5⟩:=qji h5
 have hx':=congrArg Prod.fst hx
 simp[Rows.laid_rentroll_record_parts,e0,e1,e2,e3,e4,e5] at hx'
 obtain⟨⟨rfl,rfl⟩,⟨rfl,rfl⟩,⟨rfl,rfl⟩,⟨rfl,rfl⟩,⟨rfl,rfl⟩,rfl,rfl⟩:=hx'
 intro j v hj
 have:=hvc j
 rw[Nat.zero_add]
 rw[this]
 simpa[tabL] using hj
noncomputable def qdf(os:Os):World:=
 { World.holding prog os ⟨#[],#[],[]⟩ with heap:=(World.holding prog os ⟨#[],#[],[]⟩).heap.modify 0 fun
   | .cells _ t frozen=>.cells tabL.toArray t frozen
   | o=>o }
def eb:Value->Nat
 | .slice (some a) _ _=>a.block
 | _=>0
def eo:Value->Nat
 | .slice (some a) _ _=>a.off
 | _=>0
def EvAt(w:World)(sl:Value)(es:List Ev):Prop:=
 ∃a cap,sl=.slice a es.length cap/\(0<es.length->a=some ⟨eb sl,eo sl,none⟩)/\(∀j (hj:j<es.length),w.rangeAt (eb sl) (eo sl+5*j) (ecl es[j]))/\es.length<=3518437208780
theorem EvAt.lt{w:World}{sl:Value}{es:List Ev}(h:EvAt w sl es)(hl:0<es.length):eb sl<w.heap.size:=by
 obtain⟨a,cap,e,h1,h2,h3⟩:=h
 have:=h2 0 hl 0 _ rfl
 unfold World.cell? at this
 by_cases hlt:eb sl<w.heap.size
 ·exact hlt
 ·have h3:w.heap[eb sl]?=none:=Array.getElem?_eq_none om
  simp[h3] at this
theorem EvAt.keep{w w':World}{sl:Value}{es:List Ev}{B:Nat}(h:EvAt w sl es)(hb:Below B w w')(hlt:0<es.length->eb sl<B):EvAt w' sl es:=by
 obtain⟨a,cap,e,h1,h2,h3⟩:=h
 refine⟨a,cap,e,h1,fun j hj i v hv=>?_,h3⟩
 have:=h2 j hj i v hv
 unfold World.cell? at *
 rw[hb.block _ (hlt om)]
 exact this
theorem EvAt.below{w w':World}{sl:Value}{es:List Ev}(h:EvAt w sl es)(hb:Below w.heap.size w w'):EvAt w' sl es:=h.keep hb h.lt
theorem EvAt.len{w:World}{sl:Value}{es:List Ev}(h:EvAt w sl es):es.length<=3518437208780:=by
 obtain⟨a,cap,e,h1,h2,h3⟩:=h
 exact h3
theorem EvAt.at{w:World}{sl:Value}{es:List Ev}(h:EvAt w sl es)(j:Nat)(hj:j<es.length){e:Ev}(he:es[j]=e):w.rangeAt (eb sl) (eo sl+5*j) (ecl e):=by
 obtain⟨a,cap,_,h1,h2,h3⟩:=h
 rw[←he];exact h2 j hj
theorem EvAt.slice{w:World}{sl:Value}{es:List Ev}(h:EvAt w sl es):∃a cap,sl=.slice a es.length cap:=by
 obtain⟨a,cap,e,_⟩:=h
 exact⟨a,cap,e⟩
theorem q8g{j n:Nat}(h:j<n)(hn:n<=3518437208780):wrap64 ((j:Int)+1)=(j:Int)+1:=by unfold wrap64;omega
theorem q8s{j n:Nat}(h:j<n):n-((j:Int)+1).toNat<n-((j:Int)).toNat:=by omega
theorem EvAt.index{w:World}{sl:Value}{es:List Ev}(h:EvAt w sl es)(j:Nat)(hj:j<es.length)(w2:World):(Instr.indexAt 52 sl (.int .i64 (j:Int))).run prog w2=.ok (.pointer (some ⟨eb sl,eo sl+5*j,none⟩)) w2:=by
 obtain⟨a0,cap,e,h1,h2,h3⟩:=h
 have e1:=h1 om
 generalize eb sl=B at *
 generalize eo sl=O at *
 subst e1
 subst e
 have hn:((j:Int)).toNat<es.length:=by simpa using hj
 have hjl:(j:Int)<(es.length:Int):=by omega
 have hs:(sizeOf 105).run prog w2=.ok 5 w2:=by kernel_rfl
 simp[go_sem,hj,hn,hjl,underlying52,hs]
theorem qh0{ops:Array Oper}{rest:List Oper}{o:Oper}{a:Act}{w:World}{Q:Exit->Act->World->Prop}(t:TypeId)(x y:Operand)(ho:o.op=.indexAddr t x y)(hw:Region.wanted o (yielded ops a.tmps)=true)(p i q:Value)(hx:a.eval x=p)(hy:a.eval y=i)(hrun:(Instr.indexAt t p i).run prog w=.ok q w)(hr:wpList prog ops Q rest (a.put o.dst q) w):wpList prog ops Q (o::rest) a w:=
 wpList_step fun K hK=>by
  exact sZxr18
theorem qgk{ops:Array Oper}{S:World->Prop}{o:Oper}{a:Act}(t:TypeId)(x y:Operand)(ho:o.op=.indexAddr t x y)(hw:Region.wanted o (yielded ops a.tmps)=true)(p i q:Value)(hx:a.eval x=p)(hy:a.eval y=i)(hrun:∀w:World,(Instr.indexAt t p i).run prog w=.ok q w):YieldsIf prog ops S o q a:=
 .inl ⟨hw,fun w _=>by unfold execOp;simp only[ho,hx,hy,Sem.run_bind,hrun w,Result.andThen_ok,Sem.run_pure]⟩
theorem qim{ops:Array Oper}{S:World->Prop}{o:Oper}{a:Act}(x:Operand)(ho:o.op=.load 3 x)(hw:Region.wanted o (yielded ops a.tmps)=true)(b f:Nat)(hx:a.eval x=.pointer (some ⟨b,f,none⟩))(n:Int)(hS:∀w,S w->w.cell? ⟨b,f,none⟩=some (.int .i64 n)):YieldsIf prog ops S o (.int .i64 n) a:=
 .inl ⟨hw,fun w h=>by
  have hcell:=hS w h
  unfold execOp
  simp only[ho,hx]
  simp[go_sem,hcell,underlying3]⟩
theorem qlr{ops:Array Oper}{rest:List Oper}{o:Oper}{a:Act}{w:World}{Q:Exit->Act->World->Prop}(x:Operand)(ho:o.op=.load 105 x)(hw:Region.wanted o (yielded ops a.tmps)=true)(b f:Nat)(hx:a.eval x=.pointer (some ⟨b,f,none⟩))(e:Ev)(h:w.rangeAt b f (ecl e))(hr:wpList prog ops Q rest (a.put o.dst (.agg (ec e))) w):wpList prog ops Q (o::rest) a w:=
 wpList_step fun K hK=>by
  rw[if_pos hw]
  exact wp_load_mid 105 x ho b f hx (ecl e) _ h underlying105 rfl (q5j e) (hK _ _ hr)
theorem qcvb{ops:Array Oper}{rest:List Oper}{o:Oper}{a:Act}{w:World}{Q:Exit->Act->World->Prop}(t:TypeId)(ho:o.op=.build t #[])(hw:Region.wanted o (yielded ops a.tmps)=true)(v:Value)(hrun:∀w:World,(Instr.build t #[]).run prog w=.ok v w)(hr:wpList prog ops Q rest (a.put o.dst v) w):wpList prog ops Q (o::rest) a w:=
 wpList_step fun K hK=>by
  rw[if_pos hw]
  unfold Oper.wp execOp
  simp only[ho,Array.map_empty,List.map_toArray,List.map_nil,Sem.run_bind,hrun w,Result.andThen_ok,Sem.run_pure]
  exact hK _ _ hr
theorem qfzb{o:Oper}{a:Act}{w:World}{K:Act->World->Prop}{Q:Exit->Act->World->Prop}{t:TypeId}{b:Nat}{cs:Array Value}(R:Row t w b cs)(x y:Operand)(ho:o.op=.store 3 x y)(f:Nat)(hx:a.eval x=.pointer (some ⟨b,f,none⟩))(n:Int)(hy:a.eval y=.int .i64 n)(m:Int)(hc:cs[f]?=some (.int .i64 m))(ds:Array Value)(hd:cs.setIfInBounds f (.int .i64 n)=ds)(hr:∀w',Row t w' b ds->qbl b w w'->K (a.put o.dst undef) w'):o.wp prog a w K Q:=by
 have hcell:=(R.cell f).trans hc
 have hfr:=R.free f
 unfold Oper.wp execOp
 simp only[ho,hx,hy]
 simp[go_sem,hcell,hfr,underlying3]
 exact hr _ (hd▸R.set) (qfx _ _ _ _)
def z0:Nat->Int:=fun _=>0
def g0':Nat->Bool:=fun _=>false
theorem qebb(w:World):(zeroValue 35).run prog w=.ok (.agg (pc z0 g0')) w:=by kernel_rfl
theorem qd1b(w:World):(Instr.build 35 #[]).run prog w=.ok (.agg (pc z0 g0')) w:=by kernel_rfl
theorem idxA(b A:Nat)(h:A<3)(w:World):(Instr.indexAt 32 (.pointer (some ⟨b,0,none⟩)) (.int .i64 (A:Int))).run prog w=.ok (.pointer (some ⟨b,6*A,none⟩)) w:=by
 have hs:(sizeOf 31).run prog w=.ok 6 w:=by kernel_rfl
 have hn:((A:Int)).toNat<3:=by omega
 have hl:(A:Int)<3:=by omega
 simp[go_sem,h,hn,hl,underlying32,hs]
theorem idxK(b A K:Nat)(h:K<6)(w:World):(Instr.indexAt 31 (.pointer (some ⟨b,6*A,none⟩)) (.int .i64 (K:Int))).run prog w=.ok (.pointer (some ⟨b,6*A+K,none⟩)) w:=by
 have hs:(sizeOf 3).run prog w=.ok 1 w:=by kernel_rfl
 have hn:((K:Int)).toNat<6:=by omega
 have hl:(K:Int)<6:=by omega
 simp[go_sem,h,hn,hl,underlying31,hs]
theorem qmk{w w':World}(h:Below w.drew.heap.size w.drew w'):Below w.heap.size w w':=⟨h.os,h.tape,h.output,h.size,h.block⟩
theorem qcxb{B:Nat}{w w':World}(h:Below B w w'):Below B w w'.drew:=h.drew
def at6(e:Ev):Nat:=6*e.a.toNat+e.b.toNat
theorem qfpb{e:Ev}(h:okE e):at6 e<18:=by unfold okE at h;unfold at6;omega
def bhE(o:Int)(e:Ev):Int:=if e.fr=false/\o≠0 then 8 else if e.fr=true/\o≠e.s+1 then 7 else 0
def ownN(e:Ev):Int:=if e.fr then 0 else e.s+1
def bhN(o:Int)(e:Ev):Int:=if bhE o e=0 then ownN e else 0
open Classical in
noncomputable def qcub(f:Nat->Int):List Ev->Int×(Nat->Int)
 | []=>(0,f)
 | e::r=>if okE e then(if bhE (f (at6 e)) e=0 then qcub (upd f (at6 e) (ownN e)) r else(bhE (f (at6 e)) e,z0)) else(2,z0)
theorem qfsb(f:Nat->Int)(es:List Ev)(j:Nat)(h:es.length<=j):qcub f (es.drop j)=(0,f):=by rw[List.drop_of_length_le h];rfl
theorem qd5b{es:List Ev}{j:Nat}(h:j<es.length){e:Ev}(he:es[j]=e):es.drop j=e::es.drop (j+1):=by rw[List.drop_eq_getElem_cons h,he]
theorem qf1b(f:Nat->Int){es:List Ev}{j:Nat}(h:j<es.length){e:Ev}(he:es[j]=e)(hk:¬okE e):qcub f (es.drop j)=(2,z0):=by rw[qd5b h he];exact if_neg hk
theorem qfob(f:Nat->Int){es:List Ev}{j:Nat}(h:j<es.length){e:Ev}(he:es[j]=e)(hk:okE e)(hE:bhE (f (at6 e)) e≠0):qcub f (es.drop j)=(bhE (f (at6 e)) e,z0):=by
 rw[qd5b h he];unfold qcub;rw[if_pos hk,if_neg hE]
theorem qf7b(f:Nat->Int){es:List Ev}{j:Nat}(h:j<es.length){e:Ev}(he:es[j]=e)(hk:okE e)(hE:bhE (f (at6 e)) e=0):qcub f (es.drop j)=qcub (upd f (at6 e) (ownN e)) (es.drop (j+1)):=by
 rw[qd5b h he];conv=>lhs;unfold qcub
 rw[if_pos hk,if_pos hE]
noncomputable def ownS(es:List Ev):Value:=.tuple #[.agg (pc (qcub z0 es).2 g0'),.int .i64 (qcub z0 es).1]
theorem qdrb{es:List Ev}{x:Int}{f:Nat->Int}(h:qcub z0 es=(x,f)):ownS es=.tuple #[.agg (pc f g0'),.int .i64 x]:=by unfold ownS;rw[h]
theorem sZxr17{p:Prop}(h:p:=by
 go_ret2
 exact⟨by rw[HR.out.1,HR.out.2];rfl,hB⟩):p:=h
theorem qd0b(o:Int)(e:Ev)(w:World)(h0:0<=e.s)(h1:e.s<8):Calls prog 60 #[.int .i64 o,.agg (ec e)] w fun x w'=>x=.returned (.tuple #[.int .i64 (bhN o e),.int .i64 (bhE o e)])/\Below w.heap.size w w':=by
 have hB:=Below.refl w.heap.size w
 obtain⟨t,s,a,b,fr⟩:=e
 have hw:wrap64 (s+1)=s+1:=by simp at h0 h1;unfold wrap64;omega
 cases fr
 ·by_cases ho:o=0
  ·have HR:Hid (bhN o ⟨t,s,a,b,false⟩=s+1/\bhE o ⟨t,s,a,b,false⟩=0):=by show _/\_;simp[bhN,bhE,ownN,ho]
   subst ho
   simp at h0 h1
   go_enter func60,ntmps60
   go_wp2_with (first|((with_reducible refine gB 105 1 ?_);refine bx 105 _ (ec ⟨t,s,a,b,_⟩) ?_;intro b3 w2 l3 R3 hb2;replace hB:=hB.trans (hb2.mono hB.size))|((with_reducible refine gL 4 7 ?_);refine qv3 R3 _ rfl rfl 4 rfl _ rfl ?_)|((with_reducible refine gL 4 15 ?_);refine qv3 R3 _ rfl rfl 4 rfl _ rfl ?_)|((with_reducible refine gL 4 25 ?_);refine qv3 R3 _ rfl rfl 4 rfl _ rfl ?_)|((with_reducible refine gL 3 27 ?_);refine fx R3 _ 1 _ ?_))
   exact sZxr17
  ·have HR:Hid (bhN o ⟨t,s,a,b,false⟩=0/\bhE o ⟨t,s,a,b,false⟩=8):=by show _/\_;simp[bhN,bhE,ownN,ho]
   have g1:(o != 0)=true:=by simpa using ho
   clear ho
   go_enter func60,ntmps60
   go_wp2_with (first|((with_reducible refine gB 105 1 ?_);refine bx 105 _ (ec ⟨t,s,a,b,_⟩) ?_;intro b3 w2 l3 R3 hb2;replace hB:=hB.trans (hb2.mono hB.size))|((with_reducible refine gL 4 7 ?_);refine qv3 R3 _ rfl rfl 4 rfl _ rfl ?_))
   exact sZxr17
 ·by_cases ho:o=s+1
  ·have HR:Hid (bhN o ⟨t,s,a,b,true⟩=0/\bhE o ⟨t,s,a,b,true⟩=0):=by show _/\_;simp[bhN,bhE,ownN,ho]
   have g1:(o != s+1)=false:=by simpa using ho
   clear ho
   simp at h0 h1
   go_enter func60,ntmps60
   go_wp2_with (first|((with_reducible refine gB 105 1 ?_);refine bx 105 _ (ec ⟨t,s,a,b,_⟩) ?_;intro b3 w2 l3 R3 hb2;replace hB:=hB.trans (hb2.mono hB.size))|((with_reducible refine gL 4 7 ?_);refine qv3 R3 _ rfl rfl 4 rfl _ rfl ?_)|((with_reducible refine gL 4 15 ?_);refine qv3 R3 _ rfl rfl 4 rfl _ rfl ?_)|((with_reducible refine gL 4 25 ?_);refine qv3 R3 _ rfl rfl 4 rfl _ rfl ?_)|((with_reducible refine gL 3 19 ?_);refine fx R3 _ 1 _ ?_))
   exact sZxr17
  ·have HR:Hid (bhN o ⟨t,s,a,b,true⟩=0/\bhE o ⟨t,s,a,b,true⟩=7):=by show _/\_;simp[bhN,bhE,ownN,ho]
   have g1:(o != s+1)=true:=by simpa using ho
   clear ho
   simp at h0 h1
   go_enter func60,ntmps60
   go_wp2_with (first|((with_reducible refine gB 105 1 ?_);refine bx 105 _ (ec ⟨t,s,a,b,_⟩) ?_;intro b3 w2 l3 R3 hb2;replace hB:=hB.trans (hb2.mono hB.size))|((with_reducible refine gL 4 7 ?_);refine qv3 R3 _ rfl rfl 4 rfl _ rfl ?_)|((with_reducible refine gL 4 15 ?_);refine qv3 R3 _ rfl rfl 4 rfl _ rfl ?_)|((with_reducible refine gL 3 19 ?_);refine fx R3 _ 1 _ ?_))
   exact sZxr17
def setB(es:List Ev):List UInt8:=es.flatMap evB
theorem qnn(es:List Ev):(setB es).length=21*es.length:=by
 induction es with
 | nil=>rfl
 | cons e r ih=>unfold setB at *;rw[List.flatMap_cons,List.length_append,ih,q80,List.length_cons];omega
theorem q23{es:List Ev}{j:Nat}(h:j<es.length){e:Ev}(he:es[j]=e):setB (es.take (j+1))=setB (es.take j)++evB e:=by
 unfold setB;rw[List.take_succ_eq_append_getElem h,List.flatMap_append,he];simp
def tmE:List Ev->Int
 | []=>0
 | e::_=>e.t
theorem q58{es:List Ev}(h:0<es.length):es[0].t=tmE es:=by cases es with
 | nil=>simp at h
 | cons e r=>rfl
def okM(es:List Ev):Prop:=∀e∈es,okE e/\e.t=tmE es
open Classical in
noncomputable def mesE(seq:Int)(es:List Ev):Int:=if es.length=0 then 7 else if 64<es.length then 6 else if okM es then msgE seq else 2
open Classical in
noncomputable def mesT(seq:Int)(es:List Ev):ByteArray:=if es.length=0 then ByteArray.empty else if 64<es.length then ByteArray.empty else if okM es then msgT (tmE es) seq 300 (setB es) else ByteArray.empty
noncomputable def mesS(seq:Int)(es:List Ev):Value:=.tuple #[.string (mesT seq es),.int .i64 (mesE seq es)]
theorem q15{seq:Int}{es:List Ev}(h:es.length=0):mesS seq es=.tuple #[.string ByteArray.empty,.int .i64 7]:=by simp only[mesS,mesT,mesE,if_pos h]
theorem q18{seq:Int}{es:List Ev}(h:64<es.length):mesS seq es=.tuple #[.string ByteArray.empty,.int .i64 6]:=by
 have a:¬es.length=0:=by omega
 simp only[mesS,mesT,mesE,if_neg a,if_pos h]
theorem qu6{seq:Int}{es:List Ev}(h0:0<es.length)(h1:es.length<=64)(h:¬okM es):mesS seq es=.tuple #[.string ByteArray.empty,.int .i64 2]:=by
 have a:¬es.length=0:=by omega
 have b:¬64<es.length:=by omega
 simp only[mesS,mesT,mesE,if_neg a,if_neg b,if_neg h]
theorem q8j{seq:Int}{es:List Ev}(h0:0<es.length)(h1:es.length<=64)(h:okM es):mesS seq es=msgS (tmE es) seq 300 (setB es):=by
 have a:¬es.length=0:=by omega
 have b:¬64<es.length:=by omega
 simp only[mesS,mesT,mesE,msgS,if_neg a,if_neg b,if_pos h]
def okTo(es:List Ev)(j:Nat):Prop:=∀i (h:i<es.length),i<j->okE es[i]/\es[i].t=tmE es
theorem q2g(es:List Ev):okTo es 0:=fun i _ h=>absurd h (Nat.not_lt_zero i)
theorem q17{es:List Ev}{j:Nat}(h:okTo es j)(hj:j<es.length){e:Ev}(he:es[j]=e)(hk:okE e)(ht:e.t=tmE es):okTo es (j+1):=fun i hi hij=>by
 by_cases e1:i=j
 ·subst e1;rw[he];exact⟨hk,ht⟩
 ·exact h i hi om
theorem q6a{es:List Ev}{j:Nat}(h:okTo es j)(hj:es.length<=j):okM es:=fun e he=>by
 obtain⟨i,hi,rfl⟩:=List.mem_iff_getElem.1 he
 exact h i hi om
theorem qx1{es:List Ev}{j:Nat}(hj:j<es.length){e:Ev}(he:es[j]=e)(h:¬(okE e/\e.t=tmE es)):¬okM es:=fun hm=>h (hm e (by rw[←he];exact List.getElem_mem hj))
theorem EvAt.index0{w:World}{sl:Value}{es:List Ev}(h:EvAt w sl es)(hl:0<es.length)(w2:World):(Instr.indexAt 52 sl (.int .i64 0)).run prog w2=.ok (.pointer (some ⟨eb sl,eo sl,none⟩)) w2:=h.index 0 hl w2
theorem EvAt.time0{w:World}{sl:Value}{es:List Ev}(h:EvAt w sl es)(hl:0<es.length):w.cell? ⟨eb sl,eo sl,none⟩=some (.int .i64 (tmE es)):=by
 have:=h.at 0 hl rfl 0 _ rfl
 rw[q58 hl] at this
 exact this
theorem qhi{w w':World}{b f:Nat}{v:Value}(h:w.cell? ⟨b,f,none⟩=some v)(hb:Below w.heap.size w w'):w'.cell? ⟨b,f,none⟩=some v:=by
 have hl:b<w.heap.size:=by
  unfold World.cell? at h
  rcases hh:w.heap[b]? with _|x
  ·simp[hh] at h
  ·exact(Array.getElem?_eq_some_iff.1 hh).1
 unfold World.cell? at *
 rw[hb.block _ hl]
 exact h
theorem qnq{w w':World}{b c f:Nat}{v:Value}(h:w.cell? ⟨b,f,none⟩=some v)(t:qbl c w w')(hlt:b<c):w'.cell? ⟨b,f,none⟩=some v:=by
 unfold World.cell? at *
 rw[t.other b om]
 exact h
theorem qvf{ops:Array Oper}{rest:List Oper}{o:Oper}{a:Act}{w:World}{Q:Exit->Act->World->Prop}(x:Operand)(ho:o.op=.load 3 x)(hw:Region.wanted o (yielded ops a.tmps)=true)(b f:Nat)(hx:a.eval x=.pointer (some ⟨b,f,none⟩))(n:Int)(hcell:w.cell? ⟨b,f,none⟩=some (.int .i64 n))(hr:wpList prog ops Q rest (a.put o.dst (.int .i64 n)) w):wpList prog ops Q (o::rest) a w:=
 wpList_step fun K hK=>by
  rw[if_pos hw]
  unfold Oper.wp execOp
  simp only[ho,hx]
  simp[go_sem,hcell,underlying3]
  exact hK _ _ hr
end Go.Proofs.YtnicenfgemkdnaaGreatDoor
