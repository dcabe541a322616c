/-
  Of what a law stands on.
-/
import Derived.Laws.AppendOwn
import Derived.DeepKeys
import Derived.Deep.DeepCutAuto
import Derived.LaidMore
import Derived.Lib.LaidTab
import Derived.Deep.DeepHandedRow
import Derived.Maps.AppendAt
import Derived.Deep.Slices
import Derived.SizedLaws
import Derived.Test.YtnhafdkfjjplkaaDoorZrb1
set_option linter.unusedSimpArgs false
set_option linter.unusedVariables false
namespace Go.Proofs.YtnhafdkfjjplkaaDoor
open Go.Value renaming int → I,pointer → V
open Go.IntKind renaming i64 → Z
open _root_.Go.Proofs.Tryd Go.ChangeShapes Go.WideShapes Go.ChangeAt Go.RowKit
set_option maxHeartbeats 16000000
set_option maxRecDepth 100000
variable {p:Prop}{w w' w0:World}{B b base f fuel j r:Nat}{sl v v':Value}{l:List UInt8}{ops:Array Oper}{rest:List Oper}{o:Oper}{a:Act}{Q:Exit->Act->World->Prop}{t:TypeId}{cs:Array Value}{n seq x:Int}{H:Type}{sp:Nat->Bool}{S:World->Prop}
def pc(f:Nat->Int)(g:Nat->Bool):Array Value:=#[I Z (f 0),I Z (f 1),I Z (f 2),I Z (f 3),I Z (f 4),I Z (f 5),I Z (f 6),I Z (f 7),I Z (f 8),I Z (f 9),I Z (f 10),I Z (f 11),I Z (f 12),I Z (f 13),I Z (f 14),I Z (f 15),I Z (f 16),I Z (f 17),.bool (g 0),.bool (g 1),.bool (g 2)]
def ic(l:List Nat):List Value:=l.map fun(k:Nat)=>Value.int .i64 (k:Int)
def Ints(w:World)(base:Nat)(v:Value)(l:List Nat):Prop:=w.ownsRow base 3 1 v l.length (ic l)
theorem Ints.nil(w:World)(base:Nat):Ints w base (.slice none 0 0) []:=by unfold Ints;exact World.ownsRow_nil w base 3 1
theorem sZrp112(h:p:=by
 rcases h.2 with⟨e,n0⟩|⟨b,cap,cur,hv,_⟩
 ·exact⟨none,0,by rw[e,n0]⟩
 ·exact⟨_,_,hv⟩):p:=h
theorem Ints.len{l:List Nat}(h:Ints w base v l):∃a cap,v=.slice a l.length cap:=by
 exact sZrp112
theorem Ints.at{l:List Nat}(h:Ints w base v l)(hl:0<l.length):∃b cap,v=.slice (some ⟨b,0,none⟩) l.length cap/\∀j (hj:j<l.length),w.cell? ⟨b,j,none⟩=some (I Z ((l[j]:Nat):Int)):=by
 rcases h.2 with⟨e,n0⟩|⟨b,cap,cur,hv,hbb,hh,_,_,_,ht⟩
 ·omega
 ·refine⟨b,cap,hv,fun j hj=>?_⟩
  (have e:(ic l)[j]?=some (I Z ((l[j]:Nat):Int)):=by simp[ic,hj])
  rw[←ht] at e
  rw[List.getElem?_take_of_lt om] at e
  simpa[World.cell?,hh] using e
theorem Ints.grown{l:List Nat}(h:Ints w base v l)(B:Below base w0 w)(hle:base<=w.heap.size)(hg:w.grownBy w' v.ownBlock):Below base w0 w':=by
 refine⟨hg.os.trans B.os,hg.tape.trans B.tape,hg.output.trans B.output,Nat.le_trans B.size hg.size,fun k hk=>?_⟩
 refine(hg.block k om ?_).trans (B.block k hk)
 intro e
 have:=h.lt k e.symm
 omega
def at'(d n:Int):Int:=d%n
theorem qfg(f:Nat->Int)(g:Nat->Bool):(prog.info? 39).map (·.size)=some (pc f g).size:=by kernel_rfl
theorem qoq(f:Nat->Int)(g:Nat->Bool):(pc f g).all (·.oneCell')=true:=by kernel_rfl
theorem q1x(f:Nat->Int)(g:Nat->Bool)(k:Nat)(h:k<18):(pc f g)[k]?=some (I Z (f k)):=by
 rcases(show k=0\/k=1\/k=2\/k=3\/k=4\/k=5\/k=6\/k=7\/k=8\/k=9\/k=10\/k=11\/k=12\/k=13\/k=14\/k=15\/k=16\/k=17 by omega) with rfl|rfl|rfl|rfl|rfl|rfl|rfl|rfl|rfl|rfl|rfl|rfl|rfl|rfl|rfl|rfl|rfl|rfl<;>rfl
def upd(f:Nat->Int)(n:Nat)(x:Int):Nat->Int:=fun i=>if i=n then x else f i
theorem q97(f:Nat->Int)(g:Nat->Bool)(n:Nat)(x:Int)(h:n<18):(pc f g).setIfInBounds n (I Z x)=pc (upd f n x) g:=by
 rcases(show n=0\/n=1\/n=2\/n=3\/n=4\/n=5\/n=6\/n=7\/n=8\/n=9\/n=10\/n=11\/n=12\/n=13\/n=14\/n=15\/n=16\/n=17 by omega) with rfl|rfl|rfl|rfl|rfl|rfl|rfl|rfl|rfl|rfl|rfl|rfl|rfl|rfl|rfl|rfl|rfl|rfl<;>simp[pc,upd]
def wfF(f:Nat->Int):Prop:=∀i,i<18->(Lit.int .i64 (f i)).wf=true
theorem qs8(f:Nat->Int)(g:Nat->Bool)(hf:wfF f):prog.keyLits 4 39 (Value.agg (pc f g)).cells.toList=some [.int .i64 (f 0),.int .i64 (f 1),.int .i64 (f 2),.int .i64 (f 3),.int .i64 (f 4),.int .i64 (f 5),.int .i64 (f 6),.int .i64 (f 7),.int .i64 (f 8),.int .i64 (f 9),.int .i64 (f 10),.int .i64 (f 11),.int .i64 (f 12),.int .i64 (f 13),.int .i64 (f 14),.int .i64 (f 15),.int .i64 (f 16),.int .i64 (f 17),.bool (g 0),.bool (g 1),.bool (g 2)]:=by
 (have c47:prog.cellsOf 39=21:=by kernel_rfl);(have c44:prog.cellsOf 36=18:=by kernel_rfl);(have c43:prog.cellsOf 35=6:=by kernel_rfl);(have c45:prog.cellsOf 37=3:=by kernel_rfl);(have c3:prog.cellsOf 3=1:=by kernel_rfl);(have c4:prog.cellsOf 4=1:=by kernel_rfl);have h0:=hf 0 om;have h1:=hf 1 om;have h2:=hf 2 om;have h3:=hf 3 om;have h4:=hf 4 om;have h5:=hf 5 om;have h6:=hf 6 om;have h7:=hf 7 om;have h8:=hf 8 om;have h9:=hf 9 om;have h10:=hf 10 om;have h11:=hf 11 om;have h12:=hf 12 om;have h13:=hf 13 om;have h14:=hf 14 om;have h15:=hf 15 om;have h16:=hf 16 om;have h17:=hf 17 om
 simp[Program.keyLits,Value.cells,pc,underlying39,underlying36,underlying35,underlying37,underlying3,underlying4,c47,c44,c43,c45,c3,c4,List.range,List.range.loop,h0,h1,h2,h3,h4,h5,h6,h7,h8,h9,h10,h11,h12,h13,h14,h15,h16,h17]
theorem q84(f:Nat->Int)(g:Nat->Bool)(hf:wfF f)(w:World):(Op.equalIn 10000 39 (.agg (pc f g)) (.agg (pc f g))).run prog w=.ok true w:=by
 obtain⟨r,h1,h2⟩:=run_equalIn_deep (P:=prog) 9996 4 39 kr w 4 4 (.agg (pc f g)) (.agg (pc f g)) _ _ kr kr (qs8 f g hf) (qs8 f g hf)
 rw[h2.2 rfl] at h1
 exact h1
structure Ev where
 t:Int
 s:Int
 a:Int
 b:Int
 fr:Bool
def ecl(e:Ev):List Value:=[I Z e.t,I Z e.s,I Z e.a,I Z e.b,.bool e.fr]
def ec(e:Ev):Array Value:=#[I Z e.t,I Z e.s,I Z e.a,I Z e.b,.bool e.fr]
theorem qf2(e:Ev):(prog.info? 29).map (·.size)=some (ec e).size:=by kernel_rfl
theorem q5j(e:Ev):(prog.info? 29).map (·.size)=some (ecl e).length:=by kernel_rfl
theorem qqy(e:Ev):(ec e).all (·.oneCell')=true:=by kernel_rfl
def noE:Ev:=⟨0,0,0,0,false⟩
theorem qr3(w:World):(zeroValue 29).run prog w=.ok (.agg (ec noE)) w:=by kernel_rfl
def okE(e:Ev):Prop:=(0<=e.t/\e.t<=1099511627776)/\(0<=e.s/\e.s<8)/\(0<=e.a/\e.a<3)/\(0<=e.b/\e.b<6)
def okE.dec(e:Ev):Decidable (okE e):=by unfold okE;exact inferInstance
def ql8(e:Ev):Int:=@ite Int (okE e) (okE.dec e) 0 2
theorem qs0{e:Ev}(h:okE e):ql8 e=0:=if_pos h
theorem qlh{e:Ev}(h:¬okE e):ql8 e=2:=if_neg h
theorem atOp(p:Op)(ho:o.op=p)(h:wpList prog ops Q (o::rest) a w):wpList prog ops Q (o::rest) a w:=h
theorem qv3(R:Row t w b cs)(x:Operand)(ho:o.op=.load 4 x)(hw:Region.wanted o (yielded ops a.tmps)=true)(f:Nat)(hx:a.eval x=V (some ⟨b,f,none⟩))(n:Bool)(hc:cs[f]?=some (.bool n))(hr:wpList prog ops Q rest (a.put o.dst (.bool n)) w):wpList prog ops Q (o::rest) a w:=
 wpList_step fun K hK=>by
  rw[if_pos hw];have hcell:=(R.cell f).trans hc
  unfold Oper.wp execOp
  simp only[ho,hx]
  simp[go_sem,hcell,underlying4]
  exact hK _ _ hr
theorem sZrp16(h:p:=by
 go_ret
 exact⟨by rw[HG.out];rfl,hB⟩):p:=h
theorem sZrp11(h:p:=by
 clear h0 h1 h2 h3 h4 h5 h6 h7
 go_enter func13,ntmps13
 go_wp2_with (first|((with_reducible refine gB 29 0 ?_);refine m0s ?_;intro b1 w2 l1 R1 hb2 hB)|((with_reducible refine gL 3 3 ?_);refine qae R1 _ rfl ?_ 0 rfl _ rfl ?_;· rfl)|((with_reducible refine gL 3 7 ?_);refine qae R1 _ rfl ?_ 0 rfl _ rfl ?_;· rfl)|((with_reducible refine gL 3 12 ?_);refine qae R1 _ rfl ?_ 1 rfl _ rfl ?_;· rfl)|((with_reducible refine gL 3 17 ?_);refine qae R1 _ rfl ?_ 1 rfl _ rfl ?_;· rfl)|((with_reducible refine gL 3 22 ?_);refine qae R1 _ rfl ?_ 2 rfl _ rfl ?_;· rfl)|((with_reducible refine gL 3 27 ?_);refine qae R1 _ rfl ?_ 2 rfl _ rfl ?_;· rfl)|((with_reducible refine gL 3 32 ?_);refine qae R1 _ rfl ?_ 3 rfl _ rfl ?_;· rfl)|((with_reducible refine gL 3 37 ?_);refine qae R1 _ rfl ?_ 3 rfl _ rfl ?_;· rfl))
 exact sZrp16):p:=h
theorem qshb(e:Ev)(w:World):Calls prog 13 #[.agg (ec e)] w fun x w'=>x=.returned (I Z (ql8 e))/\Below w.heap.size w w':=by
 refine m2b ?_;intro hB
 by_cases h0:e.t<0
 ·refine m27 ?_;intro HG;(have g0:decide (e.t<0)=true:=by simpa using h0);clear h0
  go_enter func13,ntmps13
  go_wp2_with (first|((with_reducible refine gB 29 0 ?_);refine m0s ?_;clear hB;intro b1 w2 l1 R1 hb2 hB)|((with_reducible refine gL 3 3 ?_);refine qae R1 _ rfl ?_ 0 rfl _ rfl ?_;· rfl))
  exact sZrp16
 by_cases h1:1099511627776<e.t
 ·refine m27 ?_;intro HG;(have g0:decide (e.t<0)=false:=by simpa using h0);(have g1:decide (1099511627776<e.t)=true:=by simpa using h1);clear h0 h1
  go_enter func13,ntmps13
  go_wp2_with (first|((with_reducible refine gB 29 0 ?_);refine m0s ?_;clear hB;intro b1 w2 l1 R1 hb2 hB)|((with_reducible refine gL 3 3 ?_);refine qae R1 _ rfl ?_ 0 rfl _ rfl ?_;· rfl)|((with_reducible refine gL 3 7 ?_);refine qae R1 _ rfl ?_ 0 rfl _ rfl ?_;· rfl))
  exact sZrp16
 by_cases h2:e.s<0
 ·refine m27 ?_;intro HG;(have g0:decide (e.t<0)=false:=by simpa using h0);(have g1:decide (1099511627776<e.t)=false:=by simpa using h1);(have g2:decide (e.s<0)=true:=by simpa using h2);clear h0 h1 h2
  go_enter func13,ntmps13
  go_wp2_with (first|((with_reducible refine gB 29 0 ?_);refine m0s ?_;clear hB;intro b1 w2 l1 R1 hb2 hB)|((with_reducible refine gL 3 3 ?_);refine qae R1 _ rfl ?_ 0 rfl _ rfl ?_;· rfl)|((with_reducible refine gL 3 7 ?_);refine qae R1 _ rfl ?_ 0 rfl _ rfl ?_;· rfl)|((with_reducible refine gL 3 12 ?_);refine qae R1 _ rfl ?_ 1 rfl _ rfl ?_;· rfl))
  exact sZrp16
 by_cases h3:7<e.s
 ·refine m27 ?_;intro HG;(have g0:decide (e.t<0)=false:=by simpa using h0);(have g1:decide (1099511627776<e.t)=false:=by simpa using h1);(have g2:decide (e.s<0)=false:=by simpa using h2);(have g3:decide (7<e.s)=true:=by simpa using h3);clear h0 h1 h2 h3
  go_enter func13,ntmps13
  go_wp2_with (first|((with_reducible refine gB 29 0 ?_);refine m0s ?_;clear hB;intro b1 w2 l1 R1 hb2 hB)|((with_reducible refine gL 3 3 ?_);refine qae R1 _ rfl ?_ 0 rfl _ rfl ?_;· rfl)|((with_reducible refine gL 3 7 ?_);refine qae R1 _ rfl ?_ 0 rfl _ rfl ?_;· rfl)|((with_reducible refine gL 3 12 ?_);refine qae R1 _ rfl ?_ 1 rfl _ rfl ?_;· rfl)|((with_reducible refine gL 3 17 ?_);refine qae R1 _ rfl ?_ 1 rfl _ rfl ?_;· rfl))
  exact sZrp16
 by_cases h4:e.a<0
 ·refine m27 ?_;intro HG;refine m0h ?_;intro g0 g1 g2 g3;(have g4:decide (e.a<0)=true:=by simpa using h4);clear h0 h1 h2 h3 h4
  go_enter func13,ntmps13
  go_wp2_with (first|((with_reducible refine gB 29 0 ?_);refine m0s ?_;clear hB;intro b1 w2 l1 R1 hb2 hB)|((with_reducible refine gL 3 3 ?_);refine qae R1 _ rfl ?_ 0 rfl _ rfl ?_;· rfl)|((with_reducible refine gL 3 7 ?_);refine qae R1 _ rfl ?_ 0 rfl _ rfl ?_;· rfl)|((with_reducible refine gL 3 12 ?_);refine qae R1 _ rfl ?_ 1 rfl _ rfl ?_;· rfl)|((with_reducible refine gL 3 17 ?_);refine qae R1 _ rfl ?_ 1 rfl _ rfl ?_;· rfl)|((with_reducible refine gL 3 22 ?_);refine qae R1 _ rfl ?_ 2 rfl _ rfl ?_;· rfl))
  exact sZrp16
 by_cases h5:2<e.a
 ·refine m27 ?_;intro HG;refine m0h ?_;intro g0 g1 g2 g3;(have g4:decide (e.a<0)=false:=by simpa using h4);(have g5:decide (2<e.a)=true:=by simpa using h5);clear h0 h1 h2 h3 h4 h5
  go_enter func13,ntmps13
  go_wp2_with (first|((with_reducible refine gB 29 0 ?_);refine m0s ?_;clear hB;intro b1 w2 l1 R1 hb2 hB)|((with_reducible refine gL 3 3 ?_);refine qae R1 _ rfl ?_ 0 rfl _ rfl ?_;· rfl)|((with_reducible refine gL 3 7 ?_);refine qae R1 _ rfl ?_ 0 rfl _ rfl ?_;· rfl)|((with_reducible refine gL 3 12 ?_);refine qae R1 _ rfl ?_ 1 rfl _ rfl ?_;· rfl)|((with_reducible refine gL 3 17 ?_);refine qae R1 _ rfl ?_ 1 rfl _ rfl ?_;· rfl)|((with_reducible refine gL 3 22 ?_);refine qae R1 _ rfl ?_ 2 rfl _ rfl ?_;· rfl)|((with_reducible refine gL 3 27 ?_);refine qae R1 _ rfl ?_ 2 rfl _ rfl ?_;· rfl))
  exact sZrp16
 by_cases h6:e.b<0
 ·refine m27 ?_;intro HG;refine m0h ?_;intro g0 g1 g2 g3;refine m2s ?_;intro g4 g5;(have g6:decide (e.b<0)=true:=by simpa using h6);clear h0 h1 h2 h3 h4 h5 h6
  go_enter func13,ntmps13
  go_wp2_with (first|((with_reducible refine gB 29 0 ?_);refine m0s ?_;clear hB;intro b1 w2 l1 R1 hb2 hB)|((with_reducible refine gL 3 3 ?_);refine qae R1 _ rfl ?_ 0 rfl _ rfl ?_;· rfl)|((with_reducible refine gL 3 7 ?_);refine qae R1 _ rfl ?_ 0 rfl _ rfl ?_;· rfl)|((with_reducible refine gL 3 12 ?_);refine qae R1 _ rfl ?_ 1 rfl _ rfl ?_;· rfl)|((with_reducible refine gL 3 17 ?_);refine qae R1 _ rfl ?_ 1 rfl _ rfl ?_;· rfl)|((with_reducible refine gL 3 22 ?_);refine qae R1 _ rfl ?_ 2 rfl _ rfl ?_;· rfl)|((with_reducible refine gL 3 27 ?_);refine qae R1 _ rfl ?_ 2 rfl _ rfl ?_;· rfl)|((with_reducible refine gL 3 32 ?_);refine qae R1 _ rfl ?_ 3 rfl _ rfl ?_;· rfl))
  exact sZrp16
 by_cases h7:5<e.b
 ·refine m27 ?_;intro HG;refine m0h ?_;intro g0 g1 g2 g3;refine m2s ?_;intro g4 g5;(have g6:decide (e.b<0)=false:=by simpa using h6);(have g7:decide (5<e.b)=true:=by simpa using h7)
  exact sZrp11
 have HG:Hid (ql8 e=0):=qs0 (by unfold okE;omega);refine m0h ?_;intro g0 g1 g2 g3;refine m2s ?_;intro g4 g5;(have g6:decide (e.b<0)=false:=by simpa using h6);(have g7:decide (5<e.b)=false:=by simpa using h7)
 exact sZrp11
def inZ(x hi:Int):Bool:=decide (0<=x)&&decide (x<hi)
theorem qij{hi:Int}(h0:0<=x)(h1:x<hi):inZ x hi=true:=by simp[inZ,h0,h1]
theorem qpb{hi:Int}(h0:x<0):inZ x hi=false:=by simp[inZ];omega
theorem qns{hi:Int}(h1:hi<=x):inZ x hi=false:=by simp[inZ];omega
theorem sZrp111(h:p:=by
 go_meet
 case rel=>exact⟨by rw[HI.out],R1,hB⟩):p:=h
theorem sZrp12(h:p:=by
 go_wp2_with (first|((with_reducible refine gL 3 31 ?_);refine qae R1 _ rfl ?_ 3 rfl _ rfl ?_;· rfl)|((with_reducible refine gL 3 35 ?_);refine qae R1 _ rfl ?_ 3 rfl _ rfl ?_;· rfl))
 exact sZrp111):p:=h
theorem sZrp13(h:p:=by
 go_wp2_with (first|((with_reducible refine gL 3 23 ?_);refine qae R1 _ rfl ?_ 2 rfl _ rfl ?_;· rfl)|((with_reducible refine gL 3 27 ?_);refine qae R1 _ rfl ?_ 2 rfl _ rfl ?_;· rfl))
 exact sZrp111):p:=h
theorem sZrp14(h:p:=by
 go_wp2_with (first|((with_reducible refine gL 3 15 ?_);refine qae R1 _ rfl ?_ 1 rfl _ rfl ?_;· rfl)|((with_reducible refine gL 3 19 ?_);refine qae R1 _ rfl ?_ 1 rfl _ rfl ?_;· rfl))
 exact sZrp111):p:=h
theorem sZrp15(h:p:=by
 go_wp2_with (first|((with_reducible refine gL 3 7 ?_);refine qae R1 _ rfl ?_ 0 rfl _ rfl ?_;· rfl)|((with_reducible refine gL 3 11 ?_);refine qae R1 _ rfl ?_ 0 rfl _ rfl ?_;· rfl))
 exact sZrp111):p:=h
theorem qro(e:Ev)(w:World):Calls prog 12 #[.agg (ec e)] w fun x w'=>x=.returned (I Z (ql8 e))/\Below w.heap.size w w':=by
 refine m2b ?_;intro hB
 go_enter func12,ntmps12
 go_upto_region 1 with(first|((with_reducible refine gB 29 0 ?_);refine m0s ?_;clear hB;intro b1 w2 l1 R1 hb2 hB))
 go_cut [3] (fun s3 wx=>s3=.bool (inZ e.t 1099511627777)/\Row 29 wx b1 (ec e)/\Below w.heap.size w wx)
 case first=>
  by_cases h0:0<=e.t
  ·by_cases h1:e.t<=1099511627776
   ·have HI:Hid (inZ e.t 1099511627777=true):=qij h0 om;(have g0:decide (0<=e.t)=true:=by simpa using h0);(have g1:decide (e.t<=1099511627776)=true:=by simpa using h1);clear h0 h1
    exact sZrp15
   ·have HI:Hid (inZ e.t 1099511627777=false):=qns om;(have g0:decide (0<=e.t)=true:=by simpa using h0);(have g1:decide (e.t<=1099511627776)=false:=by simpa using h1);clear h0 h1
    exact sZrp15
  ·have HI:Hid (inZ e.t 1099511627777=false):=qpb om;(have g0:decide (0<=e.t)=false:=by simpa using h0);clear h0
   exact sZrp15
 case rest=>
  clear R1 hB
  obtain⟨rfl,R1,hB⟩:=hcut
  go_upto_region 2 with fail
  go_cut [4] (fun s4 wx=>s4=.bool (inZ e.s 8)/\Row 29 wx b1 (ec e)/\Below w.heap.size w wx)
  case first=>
   by_cases h0:0<=e.s
   ·by_cases h1:e.s<8
    ·have HI:Hid (inZ e.s 8=true):=qij h0 om;(have g0:decide (0<=e.s)=true:=by simpa using h0);(have g1:decide (e.s<8)=true:=by simpa using h1);clear h0 h1
     exact sZrp14
    ·have HI:Hid (inZ e.s 8=false):=qns om;(have g0:decide (0<=e.s)=true:=by simpa using h0);(have g1:decide (e.s<8)=false:=by simpa using h1);clear h0 h1
     exact sZrp14
   ·have HI:Hid (inZ e.s 8=false):=qpb om;(have g0:decide (0<=e.s)=false:=by simpa using h0);clear h0
    exact sZrp14
  case rest=>
   clear R1 hB
   obtain⟨rfl,R1,hB⟩:=hcut
   go_upto_region 3 with fail
   go_cut [5] (fun s5 wx=>s5=.bool (inZ e.a 3)/\Row 29 wx b1 (ec e)/\Below w.heap.size w wx)
   case first=>
    by_cases h0:0<=e.a
    ·by_cases h1:e.a<3
     ·have HI:Hid (inZ e.a 3=true):=qij h0 om;(have g0:decide (0<=e.a)=true:=by simpa using h0);(have g1:decide (e.a<3)=true:=by simpa using h1);clear h0 h1
      exact sZrp13
     ·have HI:Hid (inZ e.a 3=false):=qns om;(have g0:decide (0<=e.a)=true:=by simpa using h0);(have g1:decide (e.a<3)=false:=by simpa using h1);clear h0 h1
      exact sZrp13
    ·have HI:Hid (inZ e.a 3=false):=qpb om;(have g0:decide (0<=e.a)=false:=by simpa using h0);clear h0
     exact sZrp13
   case rest=>
    clear R1 hB
    obtain⟨rfl,R1,hB⟩:=hcut
    go_upto_region 4 with fail
    go_cut [6] (fun s6 wx=>s6=.bool (inZ e.b 6)/\Row 29 wx b1 (ec e)/\Below w.heap.size w wx)
    case first=>
     by_cases h0:0<=e.b
     ·by_cases h1:e.b<6
      ·have HI:Hid (inZ e.b 6=true):=qij h0 om;(have g0:decide (0<=e.b)=true:=by simpa using h0);(have g1:decide (e.b<6)=true:=by simpa using h1);clear h0 h1
       exact sZrp12
      ·have HI:Hid (inZ e.b 6=false):=qns om;(have g0:decide (0<=e.b)=true:=by simpa using h0);(have g1:decide (e.b<6)=false:=by simpa using h1);clear h0 h1
       exact sZrp12
     ·have HI:Hid (inZ e.b 6=false):=qpb om;(have g0:decide (0<=e.b)=false:=by simpa using h0);clear h0
      exact sZrp12
    case rest=>
     clear R1 hB
     obtain⟨rfl,R1,hB⟩:=hcut
     rcases hb0:inZ e.t 1099511627777 with _|_
     ·have HG:Hid (ql8 e=2):=qlh (fun h=>by have:=h.1;rw[qij this.1 om] at hb0;simp at hb0)
      go_wp2
      exact sZrp16
     rcases hb1:inZ e.s 8 with _|_
     ·have HG:Hid (ql8 e=2):=qlh (fun h=>by have:=h.2.1;rw[qij this.1 om] at hb1;simp at hb1)
      go_wp2
      exact sZrp16
     rcases hb2:inZ e.a 3 with _|_
     ·have HG:Hid (ql8 e=2):=qlh (fun h=>by have:=h.2.2.1;rw[qij this.1 om] at hb2;simp at hb2)
      go_wp2
      exact sZrp16
     rcases hb3:inZ e.b 6 with _|_
     ·have HG:Hid (ql8 e=2):=qlh (fun h=>by have:=h.2.2.2;rw[qij this.1 om] at hb3;simp at hb3)
      go_wp2
      exact sZrp16
     have HG:Hid (ql8 e=0):=qs0 (by simp[inZ] at hb0 hb1 hb2 hb3;unfold okE;omega)
     go_wp2
     exact sZrp16
def mkE(e:Ev):Int:=if e.fr then 2 else 1
theorem qadb(e:Ev):1<=mkE e/\mkE e<=2:=by unfold mkE;split<;>omega
theorem q6i(e:Ev)(w:World):Calls prog 31 #[.agg (ec e)] w fun x w'=>x=.returned (I Z (mkE e))/\Below w.heap.size w w':=by
 refine m2b ?_;intro hB;obtain⟨t,s,a,b,fr⟩:=e
 cases fr
 all_goals
  go_enter func31,ntmps31
  go_wp2_with (first|((with_reducible refine gB 29 0 ?_);refine m2a ?_;intro b1 w2 l1 R1 hb2;replace hB:=hB.trans (hb2.mono hB.size))|((with_reducible refine gL 4 3 ?_);refine qv3 R1 _ rfl rfl 4 rfl _ rfl ?_))
  go_ret
  exact⟨rfl,hB⟩
theorem qaqb(t:Int)(h0:0<=t)(h1:t<=1099511627776):bits .and .i64 t 4294967295=t%4294967296:=by
 obtain⟨n,rfl⟩:∃n:Nat,t=n:=⟨t.toNat,by omega⟩
 have h3:=Nat.and_two_pow_sub_one_eq_mod n 32;(have e1:(BitVec.ofInt 64 (n:Int)).toNat=n:=by rw[BitVec.toNat_ofInt];omega);(have e2:(BitVec.ofInt 64 (4294967295:Int)).toNat=4294967295:=by decide);(have e3:(4294967295:Nat)=2^32-1:=by decide);(have e4:n &&& 4294967295=n%4294967296:=by rw[e3];exact h3);(have e5:(BitVec.ofInt 64 (n:Int) &&& BitVec.ofInt 64 (4294967295:Int)).toNat=n%4294967296:=by rw[BitVec.toNat_and,e1,e2,e4])
 unfold bits
 show IntKind.i64.wrap ((BitVec.ofInt 64 (n:Int) &&& BitVec.ofInt 64 (4294967295:Int)).toNat:Int)=_
 rw[e5]
 simp[IntKind.wrap,IntKind.bits,IntKind.signed]
 omega
theorem q0t(t:Int)(w:World)(h0:0<=t)(h1:t<=1099511627776):Calls prog 32 #[I Z t] w fun x w'=>x=.returned (I Z (t%4294967296))/\w'=w:=by
 have hl:=qaqb t h0 h1
 go_enter func32,ntmps32
 go_wp2
 go_ret
 exact⟨rfl,rfl⟩
def Bys(w:World)(base:Nat)(v:Value)(l:List UInt8):Prop:=w.ownsRow base 5 1 v l.length (bc l)
theorem Bys.nil(w:World)(base:Nat):Bys w base (.slice none 0 0) []:=World.ownsRow_nil w base 5 1
theorem Bys.below(h:Bys w base v l)(hb:Below w.heap.size w w'):Bys w' base v l:=by
 refine⟨h.1,?_⟩
 rcases h.2 with e|⟨b,cap,cur,hv,hbb,hh,r⟩
 ·exact .inl e
 ·exact .inr ⟨b,cap,cur,hv,hbb,(hb.block b (Array.getElem?_eq_some_iff.1 hh).1).trans hh,r⟩
theorem Bys.slice(h:Bys w base v l):∃a cap,v=.slice a l.length cap:=by
 exact sZrp112
structure Grew(v v':Value)(w w':World):Prop where
 by':w.grownBy w' v.ownBlock
 lies:v'.ownBlock=v.ownBlock\/∃k,v'.ownBlock=some k/\w.heap.size<=k
theorem Grew.refl(v:Value)(w:World):Grew v v w w:=⟨⟨rfl,rfl,rfl,Nat.le_refl _,fun _ _ _=>rfl⟩,.inl rfl⟩
theorem Grew.trans{v'':Value}{a b c:World}(h:Grew v v' a b)(k:Grew v' v'' b c):Grew v v'' a c:=by
 refine⟨⟨k.by'.os.trans h.by'.os,k.by'.tape.trans h.by'.tape,k.by'.output.trans h.by'.output,Nat.le_trans h.by'.size k.by'.size,fun i hi hG=>?_⟩,?_⟩
 ·refine(k.by'.block i (Nat.lt_of_lt_of_le hi h.by'.size) ?_).trans (h.by'.block i hi hG)
  rcases h.lies with e|⟨j,e,hj⟩
  ·rw[e];exact hG
  ·rw[e];intro x;have:=Option.some.inj x;omega
 ·rcases k.lies with e|⟨j,e,hj⟩
  ·rw[e];exact h.lies
  ·exact .inr ⟨j,e,Nat.le_trans h.by'.size hj⟩
theorem Grew.ofBelow{a b:World}(h:Below a.heap.size a b):Grew v v a b:=⟨⟨h.os,h.tape,h.output,h.size,fun k hk _=>h.block k hk⟩,.inl rfl⟩
theorem Grew.below{a b:World}(h:Grew v v' a b)(hB:B<=a.heap.size)(hv:∀k,v.ownBlock=some k->B<=k):Below B a b:=
 ⟨h.by'.os,h.by'.tape,h.by'.output,h.by'.size,fun k hk=>h.by'.block k om (fun e=>by have:=hv k e.symm;omega)⟩
theorem Bys.ge(h:Bys w base v l):∀k,v.ownBlock=some k->base<=k/\k<w.heap.size:=fun k hk=>h.lt k hk
theorem Grew.row{a b:World}(h:Grew v v' a b)(R:Row t a r cs)(hne:v.ownBlock≠some r):Row t b r cs:=(h.by'.block r R.lt (fun e=>hne e.symm)).trans R
theorem Grew.bys{u:Value}{a b:World}(h:Grew v v' a b)(U:Bys a base u l)(hne:∀k,u.ownBlock=some k->v.ownBlock≠some k):Bys b base u l:=by
 refine⟨U.1,?_⟩
 rcases U.2 with e|⟨g,cap,cur,hv,hbb,hh,r⟩
 ·exact .inl e
 ·exact .inr ⟨g,cap,cur,hv,hbb,(h.by'.block g (Array.getElem?_eq_some_iff.1 hh).1 (fun e=>hne g (by rw[hv];rfl) e.symm)).trans hh,r⟩
theorem Grew.ne{a b:World}(h:Grew v v' a b)(hne:v.ownBlock≠some r)(hr:r<a.heap.size):v'.ownBlock≠some r:=by
 rcases h.lies with e|⟨k,e,hk⟩
 ·rw[e];exact hne
 ·rw[e];intro x;have:=Option.some.inj x;omega
theorem qg7(h:Bys w base v l)(hb:w.heap.size<=b):v.ownBlock≠some b:=fun e=>by have:=(h.ge b e).2;omega
theorem qe9(h:Bys w base v l)(hne:v.ownBlock≠some b)(t:qbl b w w'):Bys w' base v l:=by
 refine⟨h.1,?_⟩
 rcases h.2 with e|⟨g,cap,cur,hv,hbb,hh,r⟩
 ·exact .inl e
 ·exact .inr ⟨g,cap,cur,hv,hbb,(t.other g (fun e=>hne (by rw[hv,e];rfl))).trans hh,r⟩
theorem qew(h:Grew v v' w0 w)(hb:w0.heap.size<=b)(t:qbl b w w'):Grew v v' w0 w':=by
 (have hB:=t.below w0.heap.size w om ⟨rfl,rfl,rfl,by have:=h.by'.size;omega,fun _ _=>rfl⟩)
 refine⟨⟨hB.os.trans h.by'.os,hB.tape.trans h.by'.tape,hB.output.trans h.by'.output,Nat.le_trans h.by'.size hB.size,fun k hk hG=>?_⟩,h.lies⟩
 exact(t.other k om).trans (h.by'.block k hk hG)
theorem q9k(v:Int)(k:Nat):hi v k=v/256^k:=by
 induction k with
 | zero=>simp[hi]
 | succ k ih=>unfold hi;rw[ih,Int.pow_succ,Int.ediv_ediv_of_nonneg (Int.pow_nonneg (by decide))]
theorem q9p(v:Int)(k:Nat)(h:k<8):hi v k=v/2^(8*k):=by
 rw[q9k]
 rcases(show k=0\/k=1\/k=2\/k=3\/k=4\/k=5\/k=6\/k=7 by omega) with rfl|rfl|rfl|rfl|rfl|rfl|rfl|rfl<;>rfl
theorem q8c(w:World)(c:UInt8)(x:Int)(hx:x=(c.toNat:Int)):Src prog 1 48 (.slice (some ⟨w.heap.size,0,none⟩) 1 1) 1 (bc [c]) (w.alloc (.cells #[.int .u8 x] 5)):=by
 subst hx
 refine Src.ofSlice _ underlying48 ⟨w.heap.size,0,none⟩ 1 1 (bc [c]) (by simp[bc]) (fun j u hu=>?_) (qu7 _)
 rw[Addr.add_lit,Nat.zero_add];(have hj:j=0:=by have:=(List.getElem?_eq_some_iff.1 hu).1;simp[bc] at this;omega)
 subst hj
 have e:=World.cell?_alloc_mark w #[.int .u8 (c.toNat:Int)] 5 (0,0) 0
 rw[show u=.int .u8 (c.toNat:Int) by simpa[bc] using hu.symm]
 exact e
theorem q57(n:Int)(size j:Nat)(hj:j<size):be (hi n j) (size-j)=be (hi n (j+1)) (size-(j+1))++[b8 (hi n j)]:=by
 obtain⟨m,hm⟩:∃m,size-j=m+1:=⟨size-j-1,by omega⟩
 (have hm':size-(j+1)=m:=by omega);rw[hm,hm']
 rfl
theorem qpo(base:Nat)(v:Value)(l:List UInt8)(n:Int)(size:Nat)(w:World)(hv:Bys w base v l)(hbase:base<=w.heap.size)(hs:size<=8)(hl:l.length<=1000000)(h0:-9223372036854775808<=n)(h1:n<=9223372036854775807):
  Calls prog 25 #[v,I Z n,I Z (size:Int)] w fun x w'=>∃v',x=.returned v'/\Bys w' base v' (l++be n size)/\Grew v v' w w':=by
 obtain⟨i0,hi0,hz0,hz1,hz2⟩:=info_parts qpj;(have hw1:wrap64 ((size:Int)-1)=(size:Int)-1:=by unfold wrap64;omega)
 go_enter func25,ntmps25
 go_wp2
 go_loopw [0,7] (fun b i W=>∃j:Nat,j<=size/\i=I Z ((j:Int)-1)/\Bys W base b (l++be (hi n j) (size-j))/\Grew v b w W) (fun _ i _=>((intOf i)+1).toNat)
 case atStart=>exact⟨size,Nat.le_refl _,rfl,by simpa[be] using hv,Grew.refl _ _⟩
 case round=>
  obtain⟨j,hj,rfl,hO,hG⟩:=hrel
  by_cases hlt:0<j
  ·obtain⟨k,rfl⟩:∃k,j=k+1:=⟨j-1,by omega⟩
   (have hk8:k<8:=by omega)
   have hx:IntKind.u8.wrap (n/2^(8*(k:Int)).toNat)=((b8 (hi n k)).toNat:Int):=by
    (rw[qjb,qc1,q9p n k hk8,show(8*(k:Int)).toNat=8*k by omega])
   (have ek:(((k+1:Nat):Int)-1)=(k:Int):=by omega);rw[ek];(have hk0:(0:Int)<=(k:Int):=by omega);(have hk7:(k:Int)<=7:=by omega);have hbl:(be (hi n (k+1)) (size-(k+1))).length=size-(k+1):=qd8 _ _;have HN:Hid (be (hi n k) (size-k)=be (hi n (k+1)) (size-(k+1))++[b8 (hi n k)]):=q57 n size k om;(have hlen:(l++be (hi n (k+1)) (size-(k+1))).length<=1000008:=by rw[List.length_append];omega);(have hge:=hG.by'.size);clear ek
   go_wp2_with (at_builtin;refine qfz _ rfl (.tmp 14) (.tmp 20) 48 48 rfl base 5 i0 (.int .u8 0) underlying48 hi0 hz0 hz1 hz2 rfl _ _ _ rfl (hO.alloc _) _ 1 (bc [b8 (hi n k)]) rfl (q8c _ _ _ hx) om (by simp;omega) ?_;intro v2 w2 hown hgrow hat)
   go_roundw
   case rel=>
    refine⟨k,by omega,rfl,?_,?_⟩
    ·rw[HN.out,←List.append_assoc]
     unfold Bys
     rw[List.length_append,qvx]
     exact hown
    ·refine hG.trans (Grew.trans (Grew.ofBelow ((Below.refl _ _).alloc (Nat.le_refl _) _)) ⟨hgrow,?_⟩)
     rcases hat with e|e
     ·exact .inl e
     ·exact .inr ⟨_,e,Nat.le_refl _⟩
   case measure=>simp[intOf]
  ·obtain rfl:j=0:=by omega
   go_wp2
   go_ret
   exact⟨_,rfl,by simpa[hi] using hO,hG⟩
theorem q44(n:Int)(w:World)(hv:Bys w base v l)(hbase:base<=w.heap.size)(hl:l.length<=1000000)(h0:-9223372036854775808<=n)(h1:n<=9223372036854775807):
  Calls prog 25 #[v,I Z n,I Z 1] w fun x w'=>∃v',x=.returned v'/\Bys w' base v' (l++be n 1)/\Grew v v' w w':=qpo base v l n 1 w hv hbase om hl h0 h1
theorem qgc(n:Int)(w:World)(hv:Bys w base v l)(hbase:base<=w.heap.size)(hl:l.length<=1000000)(h0:-9223372036854775808<=n)(h1:n<=9223372036854775807):
  Calls prog 25 #[v,I Z n,I Z 2] w fun x w'=>∃v',x=.returned v'/\Bys w' base v' (l++be n 2)/\Grew v v' w w':=qpo base v l n 2 w hv hbase om hl h0 h1
theorem qu5(n:Int)(w:World)(hv:Bys w base v l)(hbase:base<=w.heap.size)(hl:l.length<=1000000)(h0:-9223372036854775808<=n)(h1:n<=9223372036854775807):
  Calls prog 25 #[v,I Z n,I Z 4] w fun x w'=>∃v',x=.returned v'/\Bys w' base v' (l++be n 4)/\Grew v v' w w':=qpo base v l n 4 w hv hbase om hl h0 h1
theorem q59(n:Int)(w:World)(hv:Bys w base v l)(hbase:base<=w.heap.size)(hl:l.length<=1000000)(h0:-9223372036854775808<=n)(h1:n<=9223372036854775807):
  Calls prog 25 #[v,I Z n,I Z 8] w fun x w'=>∃v',x=.returned v'/\Bys w' base v' (l++be n 8)/\Grew v v' w w':=qpo base v l n 8 w hv hbase om hl h0 h1
def evB(e:Ev):List UInt8:=be e.t 8++be (167772161+e.s) 4++be (3405803777+e.a) 4++be (1024+e.b*8) 2++be (1024+e.b*8+8-1) 2++be (mkE e) 1
theorem q80(e:Ev):(evB e).length=21:=by simp[evB,qd8]
theorem q7z(l:List UInt8)(e:Ev):l++be e.t 8++be (167772161+e.s) 4++be (3405803777+e.a) 4++be (1024+e.b*8) 2++be (1024+e.b*8+8-1) 2++be (mkE e) 1=l++evB e:=by simp[evB]
theorem qvw(e:Ev)(w:World)(hv:Bys w base v l)(hbase:base<=w.heap.size)(hl:l.length<=900000)(he:okE e):
  Calls prog 21 #[v,.agg (ec e)] w fun x w'=>∃v',x=.returned v'/\Bys w' base v' (l++evB e)/\Grew v v' w w':=by
 have HA:Hid (_=l++evB e):=q7z l e;obtain⟨⟨t0,t1⟩,⟨s0,s1⟩,⟨a0,a1⟩,b0,b1⟩:=he;have hO:=hv;have hG:=Grew.refl v w;have hge:=hbase;have hk:=qadb e
 go_enter func21,ntmps21
 go_wp2_with (first|((with_reducible refine gB 29 1 ?_);refine bx 29 _ (ec e) ?_;intro b3 w2 l3 R3 hb2;have hne:v.ownBlock≠some b3:=(fun ee=>by have:=(hv.ge _ ee).2;omega);replace hO:=hO.below hb2;replace hge:=Nat.le_trans hge hb2.size;replace hG:=hG.trans (Grew.ofBelow hb2))|((with_reducible refine gL 3 6 ?_);refine fx R3 _ 3 _ ?_)|((with_reducible refine gL 3 11 ?_);refine fx R3 _ 0 _ ?_)|((with_reducible refine gL 3 15 ?_);refine fx R3 _ 1 _ ?_)|((with_reducible refine gL 3 20 ?_);refine fx R3 _ 2 _ ?_)|((with_reducible refine gL 29 3 ?_);refine qac 29 _ rfl rfl b3 rfl (ec e) R3 _ underlying29 rfl (qf2 e) ?_)|(go_at_call 31;go_fit (q6i e _);rintro x w5 ⟨rfl,hb5⟩;replace hO:=hO.below hb5;replace hge:=Nat.le_trans hge hb5.size;replace hG:=hG.trans (Grew.ofBelow hb5);replace R3:=R3.below hb5)|(go_at_call 25;go_fit (q59 _ _ hO om (by first|omega|(simp only[List.length_append,List.length_nil,qd8];omega)) om om);rintro x w5 ⟨v5,rfl,hO5,hG5⟩;have hne5:=hG5.ne hne R3.lt;replace R3:=hG5.row R3 hne;refine m0l ?_;clear hne hne5 hO hge hG hO5 hG5;intro hne hO hge hG)|(go_at_call 25;go_fit (qu5 _ _ hO om (by first|omega|(simp only[List.length_append,List.length_nil,qd8];omega)) om om);rintro x w5 ⟨v5,rfl,hO5,hG5⟩;have hne5:=hG5.ne hne R3.lt;replace R3:=hG5.row R3 hne;refine m0l ?_;clear hne hne5 hO hge hG hO5 hG5;intro hne hO hge hG)|(go_at_call 25;refine m0c ?_;rintro x w5 ⟨v5,rfl,hO5,hG5⟩;have hne5:=hG5.ne hne R3.lt;replace R3:=hG5.row R3 hne;refine m0l ?_;clear hne hne5 hO hge hG hO5 hG5;intro hne hO hge hG)|(go_at_call 25;go_fit (q44 _ _ hO om (by first|omega|(simp only[List.length_append,List.length_nil,qd8];omega)) om om);rintro x w5 ⟨v5,rfl,hO5,hG5⟩;have hne5:=hG5.ne hne R3.lt;replace R3:=hG5.row R3 hne;refine m0l ?_;clear hne hne5 hO hge hG hO5 hG5;intro hne hO hge hG))
 go_ret
 exact⟨_,rfl,by rw[←HA.out];exact hO,hG⟩
theorem q64(h:Bys w base v l)(hl:0<l.length):(convert 48 9 v).run prog w=.ok (.string (txt l)) w:=by
 rcases h.2 with⟨e,n0⟩|⟨b,cap,cur,hv,hbb,hh,hnc,hcm,hcs,ht⟩
 ·omega
 ·subst hv
  refine run_convert_bytes_back (P:=prog) w 48 9 5 ⟨b,0,none⟩ cap l underlying48 underlying5 underlying9 ?_;intro j hj;(have e:(bc l)[j]?=some (.int .u8 (l[j].toNat:Int)):=by simp[bc,hj])
  rw[←ht] at e
  rw[List.getElem?_take_of_lt om] at e
  rw[Addr.add_lit,Nat.zero_add]
  simpa[World.cell?,hh] using e
theorem q79(h:Bys w base v l)(hl:0<l.length):Src prog 1 48 v l.length (bc l) w:=by
 rcases h.2 with⟨e,n0⟩|⟨b,cap,cur,hv,hbb,hh,hnc,hcm,hcs,ht⟩
 ·omega
 ·subst hv
  refine Src.ofSlice _ underlying48 ⟨b,0,none⟩ l.length cap (bc l) (by simp[bc]) (fun j u hu=>?_) (qu7 _)
  rw[Addr.add_lit,Nat.zero_add];(have hj:j<l.length:=by have:=(List.getElem?_eq_some_iff.1 hu).1;simpa[bc] using this)
  rw[←ht] at hu
  rw[List.getElem?_take_of_lt om] at hu
  simpa[World.cell?,hh] using hu
def msgB(time seq kind:Int)(l:List UInt8):List UInt8:=be 10 2++be (20+(l.length:Int)) 2++be (time%4294967296) 4++be seq 4++be 1 4++be kind 2++be (4+(l.length:Int)) 2++l
theorem qlj(time seq kind:Int)(l:List UInt8):(msgB time seq kind l).length=20+l.length:=by simp[msgB,qd8];omega
def qi0(n:Int):Bool:=decide (0<=n)&&decide (n<=4294967295)
theorem q2s(h:qi0 n=true):0<=n/\n<=4294967295:=by simpa[qi0] using h
theorem q5u(h:qi0 n=false):n<0\/4294967295<n:=by
 simp[qi0] at h
 omega
def msgT(time seq kind:Int)(l:List UInt8):ByteArray:=if qi0 seq then txt (msgB time seq kind l) else ByteArray.empty
def msgE(seq:Int):Int:=if qi0 seq then 0 else 2
def msgS(time seq kind:Int)(l:List UInt8):Value:=.tuple #[.string (msgT time seq kind l),I Z (msgE seq)]
theorem q4t(time seq kind:Int)(l:List UInt8)(h:qi0 seq=true):msgS time seq kind l=.tuple #[.string (txt (msgB time seq kind l)),I Z 0]:=by simp[msgS,msgT,msgE,h]
theorem q8h(time seq kind:Int)(l:List UInt8)(h:qi0 seq=false):msgS time seq kind l=.tuple #[.string ByteArray.empty,I Z 2]:=by simp[msgS,msgT,msgE,h]
theorem sZrp18(h:p:=by
 clear h hb
 go_enter func22,ntmps22
 go_wp2
 go_ret2
 exact⟨by rw[HS.out];rfl,hB⟩):p:=h
theorem qp7(base:Nat)(time seq kind:Int)(w:World)(hv:Bys w base v l)(hl0:0<l.length)(hl:l.length<=900000)(ht0:0<=time)(ht1:time<=1099511627776)(hk0:0<=kind)(hk1:kind<=300):
  Calls prog 22 #[I Z time,I Z seq,I Z kind,v] w fun x w'=>x=.returned (msgS time seq kind l)/\Below w.heap.size w w':=by
 rcases hb:qi0 seq with _|_
 ·have HS:Hid (msgS time seq kind l=_):=q8h _ _ _ _ hb;refine m2b ?_;intro hB
  rcases q5u hb with h|h
  ·(have g0:decide (seq<0)=true:=by simpa using h)
   exact sZrp18
  ·(have g0:decide (seq<0)=false:=by simp;omega);(have g1:decide (4294967295<seq)=true:=by simpa using h)
   exact sZrp18
 ·have HS:Hid (msgS time seq kind l=_):=q4t _ _ _ _ hb;obtain⟨q0,q1⟩:=q2s hb;clear hb;(have g0:decide (seq<0)=false:=by simp;omega);(have g1:decide (4294967295<seq)=false:=by simp;omega);(have HM:Hid ([]++be 10 2++be (20+(l.length:Int)) 2++be (time%4294967296) 4++be seq 4++be 1 4++be kind 2++be (4+(l.length:Int)) 2++l=msgB time seq kind l):=by show _=_;simp[msgB])
  obtain⟨sa,sc,rfl⟩:=hv.slice
  have hO:=Bys.nil w w.heap.size;have hG:=Grew.refl (.slice none 0 0) w;have hge:=Nat.le_refl w.heap.size;(have hne:∀k,Value.ownBlock (.slice sa l.length sc)=some k->Value.ownBlock (.slice none 0 0)≠some k:=fun k _=>by simp[Value.ownBlock]);obtain⟨i0,hi0,hz0,hz1,hz2⟩:=info_parts qpj;(have hlow:0<=time%4294967296/\time%4294967296<4294967296:=by omega)
  go_enter func22,ntmps22
  go_wp2_with (first|(go_at_call 32;go_fit (q0t _ _ ht0 ht1);rintro x w5 ⟨rfl,hw⟩;rw[hw];clear hw w5)|(go_at_call 25;go_fit (qu5 _ _ hO om (by first|omega|(simp only[List.length_append,List.length_nil,qd8];omega)) om om);rintro x w5 ⟨v5,rfl,hO5,hG5⟩;have hne5:∀k,Value.ownBlock (.slice sa l.length sc)=some k->v5.ownBlock≠some k:=fun k hk=>hG5.ne (hne k hk) (hv.ge k hk).2;replace hv:=hG5.bys hv hne;refine m0l ?_;clear hne hne5 hO hge hG hO5 hG5;intro hne hO hge hG)|(go_at_call 25;refine m0c ?_;rintro x w5 ⟨v5,rfl,hO5,hG5⟩;have hne5:∀k,Value.ownBlock (.slice sa l.length sc)=some k->v5.ownBlock≠some k:=fun k hk=>hG5.ne (hne k hk) (hv.ge k hk).2;replace hv:=hG5.bys hv hne;refine m0l ?_;clear hne hne5 hO hge hG hO5 hG5;intro hne hO hge hG)|(at_builtin;refine qfz _ rfl (.tmp 40) (.tmp 41) 48 48 rfl w.heap.size 5 i0 (.int .u8 0) underlying48 hi0 hz0 hz1 hz2 rfl _ _ _ rfl hO _ l.length (bc l) rfl (q79 hv hl0) (by simp[qd8];omega) hge ?_;intro v2 w2 hown hgrow hat;have hO2:=q64 (l:=[]++be 10 2++be (20+(l.length:Int)) 2++be (time%4294967296) 4++be seq 4++be 1 4++be kind 2++be (4+(l.length:Int)) 2++l) (by unfold Bys;rw[List.length_append,qvx];exact hown) (by rw[HM.out,qlj];omega);rw[HM.out] at hO2;replace hG:=hG.trans ⟨hgrow,by rcases hat with e|e;exact .inl e;exact .inr ⟨_,e,Nat.le_refl _⟩⟩))
  go_ret2
  exact⟨by rw[HS.out];rfl,hG.below (Nat.le_refl _) (fun k hk=>by simp[Value.ownBlock] at hk)⟩
def tabL:List Value:=[I Z 323,I Z 8,I Z 8,I Z 4,I Z 225,I Z 4,I Z 361,I Z 2,I Z 362,I Z 2,I Z 230,I Z 1]
def Tab(w:World):Prop:=w.rangeAt 0 0 tabL
theorem Tab.lt(h:Tab w):0<w.heap.size:=by
 have:=h 0 _ rfl
 unfold World.cell? at this
 by_cases hlt:0<w.heap.size
 ·exact hlt
 ·have h3:w.heap[0]?=none:=Array.getElem?_eq_none om
  simp[h3] at this
theorem Tab.keep(h:Tab w)(hb:Below B w w')(hB:0<B):Tab w':=fun j v hv=>by
 have:=h j v hv
 unfold World.cell? at *
 rw[hb.block _ hB]
 exact this
theorem Tab.below(h:Tab w)(hb:Below w.heap.size w w'):Tab w':=h.keep hb h.lt
theorem qsf(x:Operand)(ho:o.op=.load 56 x)(hw:Region.wanted o (yielded ops a.tmps)=true)(hx:a.eval x=V (some ⟨0,0,none⟩))(h:Tab w)(hr:wpList prog ops Q rest (a.put o.dst (.agg tabL.toArray)) w):wpList prog ops Q (o::rest) a w:=
 wpList_step fun K hK=>by
  rw[if_pos hw]
  exact wp_load_mid 56 x ho 0 0 hx tabL _ h underlying56 rfl kr (hK _ _ hr)
theorem sZrp110(h:p:=by
 rw[if_pos hw]
 unfold Oper.wp execOp
 simp only[ho,hx,hy,Sem.run_bind,hrun,Result.andThen_ok,Sem.run_pure]
 exact hK _ _ hr):p:=h
theorem qfp(x y:Operand)(ho:o.op=.index 56 x y)(hw:Region.wanted o (yielded ops a.tmps)=true)(i q:Value)(hx:a.eval x=.agg tabL.toArray)(hy:a.eval y=i)(hrun:(Instr.index 56 (.agg tabL.toArray) i).run prog w=.ok q w)(hr:wpList prog ops Q rest (a.put o.dst q) w):wpList prog ops Q (o::rest) a w:=
 wpList_step fun K hK=>by
  exact sZrp110
def tplN(j:Nat):List Int:=([323,8,8,4,225,4,361,2,362,2,230,1]:List Int).take (2*j)
def tplB(j:Nat):List UInt8:=be 300 2++be 6 2++(tplN j).flatMap (fun n=>be n 2)
theorem qi9(j:Nat):(tplB j).length<=28:=by
 unfold tplB tplN
 rcases(show j=0\/j=1\/j=2\/j=3\/j=4\/j=5\/6<=j by omega) with rfl|rfl|rfl|rfl|rfl|rfl|h
 all_goals first|(simp[qd8];done)|(rw[List.take_of_length_le (by simp;omega)];simp[qd8])
theorem qqi:(tplB 6).length=28:=by simp[tplB,tplN,qd8]
theorem q14:be 300 2++be 6 2=tplB 0:=by simp[tplB,tplN]
theorem qalb:tplB 0++be 323 2++be 8 2=tplB 1:=by simp[tplB,tplN]
theorem q99:tplB 1++be 8 2++be 4 2=tplB 2:=by simp[tplB,tplN]
theorem qabb:tplB 2++be 225 2++be 4 2=tplB 3:=by simp[tplB,tplN]
theorem q92:tplB 3++be 361 2++be 2 2=tplB 4:=by simp[tplB,tplN]
theorem qaib:tplB 4++be 362 2++be 2 2=tplB 5:=by simp[tplB,tplN]
theorem q9o:tplB 5++be 230 2++be 1 2=tplB 6:=by simp[tplB,tplN]
theorem qu3(seq:Int)(w:World)(hT:Tab w):
  Calls prog 10 #[I Z seq] w fun x w'=>x=.returned (msgS 0 seq 2 (tplB 6))/\Below w.heap.size w w':=by
 have hO:=Bys.nil w w.heap.size;have hG:=Grew.refl (.slice none 0 0) w;have hge:=Nat.le_refl w.heap.size;(have H0:Hid ([]++be 300 2++be 6 2=tplB 0):=by show _=_;rw[←q14];rfl);(have hB:∀ {v':Value} {w':World},Grew (.slice none 0 0) v' w w'->Below w.heap.size w w':=fun h=>h.below (Nat.le_refl _) (fun k hk=>by simp[Value.ownBlock] at hk))
 go_enter func10,ntmps10
 go_wp2_with (first|(go_at_call 25;refine m0c ?_;rintro x w5 ⟨v5,rfl,hO5,hG5⟩;replace hO:=hO5;replace hge:=Nat.le_trans hge hG5.by'.size;replace hG:=hG.trans hG5;clear hO5 hG5)|((with_reducible refine atOp (.load 56 (.global 0)) rfl ?_);refine qsf _ rfl rfl rfl (hT.keep (hB hG) hT.lt) ?_))
 rw[H0.out] at hO
 go_loopw [4,11] (fun b i W=>∃j:Nat,j<=6/\i=I Z (j:Int)/\Bys W w.heap.size b (tplB j)/\Grew (.slice none 0 0) b w W) (fun _ i _=>6-(intOf i).toNat)
 case atStart=>exact⟨0,by omega,rfl,hO,hG⟩
 case round=>
  clear hO hG hge
  obtain⟨j,hj,rfl,hO,hG⟩:=hrel
  (have hge:=hG.by'.size);have hge0:=hge
  by_cases hlt:j<6
  ·rcases(show j=0\/j=1\/j=2\/j=3\/j=4\/j=5 by omega) with rfl|rfl|rfl|rfl|rfl|rfl
   ·have HN:Hid (tplB 0++be 323 2++be 8 2=tplB 1):=qalb;have hlen:=qi9 0
    go_wp2_with (first|((with_reducible refine gA 55 ?_);refine qaf 6 55 rfl rfl rfl #[I Z 0,I Z 0] (fun w=>by kernel_rfl) ?_;intro b6 w2 l6 R6 hb2;refine m19 ?_;clear hO hge hG;intro hne hO hge hG)|((with_reducible refine atOp (.index 56 (.tmp 10) (.tmp 11)) rfl ?_);refine qfp (.tmp 10) (.tmp 11) rfl rfl _ (.agg #[I Z 323,I Z 8]) rfl rfl kr ?_)|((with_reducible refine gS 55 6 13 ?_);refine sx 55 (.tmp 6) (.tmp 13) #[I Z 323,I Z 8] R6 ?_;refine m0z ?_;clear hO hG hge;intro w3 R6 t3 hO hG hge)|((with_reducible refine gL 3 15 ?_);refine fx R6 _ 0 _ ?_)|((with_reducible refine gL 3 19 ?_);refine fx R6 _ 1 _ ?_)|(go_at_call 25;refine m0c ?_;rintro x w5 ⟨v5,rfl,hO5,hG5⟩;have hne5:=hG5.ne hne R6.lt;replace R6:=hG5.row R6 hne;refine m0l ?_;clear hne hne5 hO hge hG hO5 hG5;intro hne hO hge hG))
    go_roundw
    case rel=>exact⟨1,by omega,rfl,by rw[←HN.out];exact hO,hG⟩
    case measure=>simp[intOf]
   ·have HN:Hid (tplB 1++be 8 2++be 4 2=tplB 2):=q99;have hlen:=qi9 1
    go_wp2_with (first|((with_reducible refine gA 55 ?_);refine qaf 6 55 rfl rfl rfl #[I Z 0,I Z 0] (fun w=>by kernel_rfl) ?_;intro b6 w2 l6 R6 hb2;refine m19 ?_;clear hO hge hG;intro hne hO hge hG)|((with_reducible refine atOp (.index 56 (.tmp 10) (.tmp 11)) rfl ?_);refine qfp (.tmp 10) (.tmp 11) rfl rfl _ (.agg #[I Z 8,I Z 4]) rfl rfl kr ?_)|((with_reducible refine gS 55 6 13 ?_);refine sx 55 (.tmp 6) (.tmp 13) #[I Z 8,I Z 4] R6 ?_;refine m0z ?_;clear hO hG hge;intro w3 R6 t3 hO hG hge)|((with_reducible refine gL 3 15 ?_);refine fx R6 _ 0 _ ?_)|((with_reducible refine gL 3 19 ?_);refine fx R6 _ 1 _ ?_)|(go_at_call 25;refine m0c ?_;rintro x w5 ⟨v5,rfl,hO5,hG5⟩;have hne5:=hG5.ne hne R6.lt;replace R6:=hG5.row R6 hne;refine m0l ?_;clear hne hne5 hO hge hG hO5 hG5;intro hne hO hge hG))
    go_roundw
    case rel=>exact⟨2,by omega,rfl,by rw[←HN.out];exact hO,hG⟩
    case measure=>simp[intOf]
   ·have HN:Hid (tplB 2++be 225 2++be 4 2=tplB 3):=qabb;have hlen:=qi9 2
    go_wp2_with (first|((with_reducible refine gA 55 ?_);refine qaf 6 55 rfl rfl rfl #[I Z 0,I Z 0] (fun w=>by kernel_rfl) ?_;intro b6 w2 l6 R6 hb2;refine m19 ?_;clear hO hge hG;intro hne hO hge hG)|((with_reducible refine atOp (.index 56 (.tmp 10) (.tmp 11)) rfl ?_);refine qfp (.tmp 10) (.tmp 11) rfl rfl _ (.agg #[I Z 225,I Z 4]) rfl rfl kr ?_)|((with_reducible refine gS 55 6 13 ?_);refine sx 55 (.tmp 6) (.tmp 13) #[I Z 225,I Z 4] R6 ?_;refine m0z ?_;clear hO hG hge;intro w3 R6 t3 hO hG hge)|((with_reducible refine gL 3 15 ?_);refine fx R6 _ 0 _ ?_)|((with_reducible refine gL 3 19 ?_);refine fx R6 _ 1 _ ?_)|(go_at_call 25;refine m0c ?_;rintro x w5 ⟨v5,rfl,hO5,hG5⟩;have hne5:=hG5.ne hne R6.lt;replace R6:=hG5.row R6 hne;refine m0l ?_;clear hne hne5 hO hge hG hO5 hG5;intro hne hO hge hG))
    go_roundw
    case rel=>exact⟨3,by omega,rfl,by rw[←HN.out];exact hO,hG⟩
    case measure=>simp[intOf]
   ·have HN:Hid (tplB 3++be 361 2++be 2 2=tplB 4):=q92;have hlen:=qi9 3
    go_wp2_with (first|((with_reducible refine gA 55 ?_);refine qaf 6 55 rfl rfl rfl #[I Z 0,I Z 0] (fun w=>by kernel_rfl) ?_;intro b6 w2 l6 R6 hb2;refine m19 ?_;clear hO hge hG;intro hne hO hge hG)|((with_reducible refine atOp (.index 56 (.tmp 10) (.tmp 11)) rfl ?_);refine qfp (.tmp 10) (.tmp 11) rfl rfl _ (.agg #[I Z 361,I Z 2]) rfl rfl kr ?_)|((with_reducible refine gS 55 6 13 ?_);refine sx 55 (.tmp 6) (.tmp 13) #[I Z 361,I Z 2] R6 ?_;refine m0z ?_;clear hO hG hge;intro w3 R6 t3 hO hG hge)|((with_reducible refine gL 3 15 ?_);refine fx R6 _ 0 _ ?_)|((with_reducible refine gL 3 19 ?_);refine fx R6 _ 1 _ ?_)|(go_at_call 25;refine m0c ?_;rintro x w5 ⟨v5,rfl,hO5,hG5⟩;have hne5:=hG5.ne hne R6.lt;replace R6:=hG5.row R6 hne;refine m0l ?_;clear hne hne5 hO hge hG hO5 hG5;intro hne hO hge hG))
    go_roundw
    case rel=>exact⟨4,by omega,rfl,by rw[←HN.out];exact hO,hG⟩
    case measure=>simp[intOf]
   ·have HN:Hid (tplB 4++be 362 2++be 2 2=tplB 5):=qaib;have hlen:=qi9 4
    go_wp2_with (first|((with_reducible refine gA 55 ?_);refine qaf 6 55 rfl rfl rfl #[I Z 0,I Z 0] (fun w=>by kernel_rfl) ?_;intro b6 w2 l6 R6 hb2;refine m19 ?_;clear hO hge hG;intro hne hO hge hG)|((with_reducible refine atOp (.index 56 (.tmp 10) (.tmp 11)) rfl ?_);refine qfp (.tmp 10) (.tmp 11) rfl rfl _ (.agg #[I Z 362,I Z 2]) rfl rfl kr ?_)|((with_reducible refine gS 55 6 13 ?_);refine sx 55 (.tmp 6) (.tmp 13) #[I Z 362,I Z 2] R6 ?_;refine m0z ?_;clear hO hG hge;intro w3 R6 t3 hO hG hge)|((with_reducible refine gL 3 15 ?_);refine fx R6 _ 0 _ ?_)|((with_reducible refine gL 3 19 ?_);refine fx R6 _ 1 _ ?_)|(go_at_call 25;refine m0c ?_;rintro x w5 ⟨v5,rfl,hO5,hG5⟩;have hne5:=hG5.ne hne R6.lt;replace R6:=hG5.row R6 hne;refine m0l ?_;clear hne hne5 hO hge hG hO5 hG5;intro hne hO hge hG))
    go_roundw
    case rel=>exact⟨5,by omega,rfl,by rw[←HN.out];exact hO,hG⟩
    case measure=>simp[intOf]
   ·have HN:Hid (tplB 5++be 230 2++be 1 2=tplB 6):=q9o;have hlen:=qi9 5
    go_wp2_with (first|((with_reducible refine gA 55 ?_);refine qaf 6 55 rfl rfl rfl #[I Z 0,I Z 0] (fun w=>by kernel_rfl) ?_;intro b6 w2 l6 R6 hb2;refine m19 ?_;clear hO hge hG;intro hne hO hge hG)|((with_reducible refine atOp (.index 56 (.tmp 10) (.tmp 11)) rfl ?_);refine qfp (.tmp 10) (.tmp 11) rfl rfl _ (.agg #[I Z 230,I Z 1]) rfl rfl kr ?_)|((with_reducible refine gS 55 6 13 ?_);refine sx 55 (.tmp 6) (.tmp 13) #[I Z 230,I Z 1] R6 ?_;refine m0z ?_;clear hO hG hge;intro w3 R6 t3 hO hG hge)|((with_reducible refine gL 3 15 ?_);refine fx R6 _ 0 _ ?_)|((with_reducible refine gL 3 19 ?_);refine fx R6 _ 1 _ ?_)|(go_at_call 25;refine m0c ?_;rintro x w5 ⟨v5,rfl,hO5,hG5⟩;have hne5:=hG5.ne hne R6.lt;replace R6:=hG5.row R6 hne;refine m0l ?_;clear hne hne5 hO hge hG hO5 hG5;intro hne hO hge hG))
    go_roundw
    case rel=>exact⟨6,by omega,rfl,by rw[←HN.out];exact hO,hG⟩
    case measure=>simp[intOf]
  ·obtain rfl:j=6:=by omega
   have hl6:=qqi
   go_wp2_with (go_at_call 22;go_fit (qp7 w.heap.size 0 seq 2 _ hO om om om om om om);rintro x w5 ⟨rfl,hb5⟩;unfold msgS)
   go_ret2
   exact⟨rfl,(hB hG).trans (hb5.mono hge)⟩
theorem q93 : prog.globalNamed "rentroll/record.parts" = some 0 := by kernel_rfl
theorem qym:(prog.globals[0]?).map (·.type)=some 56:=by kernel_rfl
theorem qji{enc:TypeId×Value->H}{held:Bool}{c d:Value}{x:DataW H×List MemPlace}(hf0:DataW.trod enc prog w base sp held fuel 55 [c,d]=some x):∃a b:Int,c=.int .i64 a/\d=.int .i64 b/\x.1=.agg [.lit (.int .i64 a),.lit (.int .i64 b)]:=by
 (have cI:prog.cellsOf 3=1:=by kernel_rfl)
 obtain⟨ys,m,_,hx,_,hl,hf⟩:=DataW.trod_struct underlying55 hf0
 match ys,hl with
 | [y0,y1],_=>
 have hv0:=hf 0 _ rfl;have hv1:=hf 1 _ rfl
 simp[cI] at hv0 hv1
 obtain⟨x0,e0,rfl,s0⟩:=DataW.trod_int underlying3 hv0
 obtain⟨x1,e1,rfl,s1⟩:=DataW.trod_int underlying3 hv1
 simp at e0 e1
 subst e0 e1
 exact⟨x0,x1,rfl,rfl,by rw[hx];simp⟩
theorem qm9{W : World}(h : laidMetH prog [("rentroll/record.parts", Rows.laid_rentroll_record_parts)] W): Tab W := by
 rw[MakeChecks.laidMetH_plain _ _ _ kr] at h
 obtain⟨ps,⟨g,t,cs,fuel,p,q,hg,ht,hv,hd,_⟩,_⟩:=h
 obtain rfl:=Option.some.inj (q93.symm.trans hg)
 obtain rfl:=Option.some.inj (qym.symm.trans ht)
 (have cT:prog.cellsOf 56=12:=by kernel_rfl);(have cP:prog.cellsOf 55=2:=by kernel_rfl);obtain⟨xs,m,hfu,hx,hlen,hn,hel⟩:=DataW.trod_array underlying56 hd;(have hvc:=fun k=>World.var?_cell hg hv k);obtain⟨l⟩:=cs;(have hl12:l.length=12:=by first|simpa[cT,cP] using hlen|simpa[cT] using hlen)
 match l,hl12 with
 | [c0,c1,c2,c3,c4,c5,c6,c7,c8,c9,c10,c11],_=>
 match xs,hn with
 | [x0,x1,x2,x3,x4,x5],_=>
 have h0:=hel 0 om;have h1:=hel 1 om;have h2:=hel 2 om;have h3:=hel 3 om;have h4:=hel 4 om;have h5:=hel 5 om
 simp[cP] at h0 h1 h2 h3 h4 h5
 obtain⟨a0,b0,rfl,rfl,e0⟩:=qji h0
 obtain⟨a1,b1,rfl,rfl,e1⟩:=qji h1
 obtain⟨a2,b2,rfl,rfl,e2⟩:=qji h2
 obtain⟨a3,b3,rfl,rfl,e3⟩:=qji h3
 obtain⟨a4,b4,rfl,rfl,e4⟩:=qji h4
 obtain⟨a5,b5,rfl,rfl,e5⟩:=qji h5
 have hx':=congrArg Prod.fst hx
 simp[Rows.laid_rentroll_record_parts,e0,e1,e2,e3,e4,e5] at hx'
 obtain⟨⟨rfl,rfl⟩,⟨rfl,rfl⟩,⟨rfl,rfl⟩,⟨rfl,rfl⟩,⟨rfl,rfl⟩,rfl,rfl⟩:=hx'
 intro j v hj
 have:=hvc j
 rw[Nat.zero_add];rw[this]
 simpa[tabL] using hj
def qdf(P:Program)(os:Os):World:=
 { World.holding P os ⟨#[],#[],[]⟩ with heap:=(World.holding P os ⟨#[],#[],[]⟩).heap.modify 0 fun
   | .cells _ t frozen=>.cells tabL.toArray t frozen
   | o=>o }
def eb:Value->Nat
 | .slice (some a) _ _=>a.block
 | _=>0
def eo:Value->Nat
 | .slice (some a) _ _=>a.off
 | _=>0
def EvAt(w:World)(sl:Value)(es:List Ev):Prop:=
 ∃a cap,sl=.slice a es.length cap/\(0<es.length->a=some ⟨eb sl,eo sl,none⟩)/\(∀j (hj:j<es.length),w.rangeAt (eb sl) (eo sl+5*j) (ecl es[j]))/\es.length<=3518437208780
theorem EvAt.lt{es:List Ev}(h:EvAt w sl es)(hl:0<es.length):eb sl<w.heap.size:=by
 obtain⟨a,cap,e,h1,h2,h3⟩:=h
 have:=h2 0 hl 0 _ rfl
 unfold World.cell? at this
 by_cases hlt:eb sl<w.heap.size
 ·exact hlt
 ·have h3:w.heap[eb sl]?=none:=Array.getElem?_eq_none om
  simp[h3] at this
theorem EvAt.keep{es:List Ev}(h:EvAt w sl es)(hb:Below B w w')(hlt:0<es.length->eb sl<B):EvAt w' sl es:=by
 obtain⟨a,cap,e,h1,h2,h3⟩:=h
 refine⟨a,cap,e,h1,fun j hj i v hv=>?_,h3⟩
 have:=h2 j hj i v hv
 unfold World.cell? at *
 rw[hb.block _ (hlt om)]
 exact this
theorem EvAt.below{es:List Ev}(h:EvAt w sl es)(hb:Below w.heap.size w w'):EvAt w' sl es:=h.keep hb h.lt
theorem EvAt.len{es:List Ev}(h:EvAt w sl es):es.length<=3518437208780:=by
 obtain⟨a,cap,e,h1,h2,h3⟩:=h
 exact h3
theorem EvAt.at{es:List Ev}(h:EvAt w sl es)(j:Nat)(hj:j<es.length){e:Ev}(he:es[j]=e):w.rangeAt (eb sl) (eo sl+5*j) (ecl e):=by
 obtain⟨a,cap,_,h1,h2,h3⟩:=h
 rw[←he];exact h2 j hj
theorem EvAt.slice{es:List Ev}(h:EvAt w sl es):∃a cap,sl=.slice a es.length cap:=by
 obtain⟨a,cap,e,_⟩:=h
 exact⟨a,cap,e⟩
theorem q8g{n:Nat}(h:j<n)(hn:n<=3518437208780):wrap64 ((j:Int)+1)=(j:Int)+1:=by unfold wrap64;omega
theorem q8s{n:Nat}(h:j<n):n-((j:Int)+1).toNat<n-((j:Int)).toNat:=by omega
theorem EvAt.index{es:List Ev}(h:EvAt w sl es)(j:Nat)(hj:j<es.length)(w2:World):(Instr.indexAt 22 sl (I Z (j:Int))).run prog w2=.ok (V (some ⟨eb sl,eo sl+5*j,none⟩)) w2:=by
 obtain⟨a0,cap,e,h1,h2,h3⟩:=h;have e1:=h1 om
 generalize eb sl=B at *
 generalize eo sl=O at *
 subst e1
 subst e
 (have hn:((j:Int)).toNat<es.length:=by simpa using hj);(have hjl:(j:Int)<(es.length:Int):=by omega);(have hs:(sizeOf 29).run prog w2=.ok 5 w2:=by kernel_rfl)
 simp[go_sem,hj,hn,hjl,underlying22,hs]
theorem qh0(t:TypeId)(x y:Operand)(ho:o.op=.indexAddr t x y)(hw:Region.wanted o (yielded ops a.tmps)=true)(p i q:Value)(hx:a.eval x=p)(hy:a.eval y=i)(hrun:(Instr.indexAt t p i).run prog w=.ok q w)(hr:wpList prog ops Q rest (a.put o.dst q) w):wpList prog ops Q (o::rest) a w:=
 wpList_step fun K hK=>by
  exact sZrp110
theorem qgk(t:TypeId)(x y:Operand)(ho:o.op=.indexAddr t x y)(hw:Region.wanted o (yielded ops a.tmps)=true)(p i q:Value)(hx:a.eval x=p)(hy:a.eval y=i)(hrun:∀w:World,(Instr.indexAt t p i).run prog w=.ok q w):YieldsIf prog ops S o q a:=
 .inl ⟨hw,fun w _=>by unfold execOp;simp only[ho,hx,hy,Sem.run_bind,hrun w,Result.andThen_ok,Sem.run_pure]⟩
theorem qim(x:Operand)(ho:o.op=.load 3 x)(hw:Region.wanted o (yielded ops a.tmps)=true)(b f:Nat)(hx:a.eval x=V (some ⟨b,f,none⟩))(n:Int)(hS:∀w,S w->w.cell? ⟨b,f,none⟩=some (I Z n)):YieldsIf prog ops S o (I Z n) a:=
 .inl ⟨hw,fun w h=>by
  have hcell:=hS w h
  unfold execOp
  simp only[ho,hx]
  simp[go_sem,hcell,underlying3]⟩
theorem qlr(x:Operand)(ho:o.op=.load 29 x)(hw:Region.wanted o (yielded ops a.tmps)=true)(b f:Nat)(hx:a.eval x=V (some ⟨b,f,none⟩))(e:Ev)(h:w.rangeAt b f (ecl e))(hr:wpList prog ops Q rest (a.put o.dst (.agg (ec e))) w):wpList prog ops Q (o::rest) a w:=
 wpList_step fun K hK=>by
  rw[if_pos hw]
  exact wp_load_mid 29 x ho b f hx (ecl e) _ h underlying29 rfl (q5j e) (hK _ _ hr)
theorem qcvb(t:TypeId)(ho:o.op=.build t #[])(hw:Region.wanted o (yielded ops a.tmps)=true)(v:Value)(hrun:∀w:World,(Instr.build t #[]).run prog w=.ok v w)(hr:wpList prog ops Q rest (a.put o.dst v) w):wpList prog ops Q (o::rest) a w:=
 wpList_step fun K hK=>by
  rw[if_pos hw]
  unfold Oper.wp execOp
  simp only[ho,Array.map_empty,List.map_toArray,List.map_nil,Sem.run_bind,hrun w,Result.andThen_ok,Sem.run_pure]
  exact hK _ _ hr
theorem qfzb{K:Act->World->Prop}(R:Row t w b cs)(x y:Operand)(ho:o.op=.store 3 x y)(f:Nat)(hx:a.eval x=V (some ⟨b,f,none⟩))(n:Int)(hy:a.eval y=I Z n)(m:Int)(hc:cs[f]?=some (I Z m))(ds:Array Value)(hd:cs.setIfInBounds f (I Z n)=ds)(hr:∀w',Row t w' b ds->qbl b w w'->K (a.put o.dst undef) w'):o.wp prog a w K Q:=by
 have hcell:=(R.cell f).trans hc;have hfr:=R.free f
 unfold Oper.wp execOp
 simp only[ho,hx,hy]
 simp[go_sem,hcell,hfr,underlying3]
 exact hr _ (hd▸R.set) (qfx _ _ _ _)
def z0:Nat->Int:=fun _=>0
def g0':Nat->Bool:=fun _=>false
theorem qebb(w:World):(zeroValue 39).run prog w=.ok (.agg (pc z0 g0')) w:=by kernel_rfl
theorem qd1b(w:World):(Instr.build 39 #[]).run prog w=.ok (.agg (pc z0 g0')) w:=by kernel_rfl
theorem idxA(b A:Nat)(h:A<3)(w:World):(Instr.indexAt 36 (V (some ⟨b,0,none⟩)) (I Z (A:Int))).run prog w=.ok (V (some ⟨b,6*A,none⟩)) w:=by
 (have hs:(sizeOf 35).run prog w=.ok 6 w:=by kernel_rfl);(have hn:((A:Int)).toNat<3:=by omega);(have hl:(A:Int)<3:=by omega)
 simp[go_sem,h,hn,hl,underlying36,hs]
theorem idxK(b A K:Nat)(h:K<6)(w:World):(Instr.indexAt 35 (V (some ⟨b,6*A,none⟩)) (I Z (K:Int))).run prog w=.ok (V (some ⟨b,6*A+K,none⟩)) w:=by
 (have hs:(sizeOf 3).run prog w=.ok 1 w:=by kernel_rfl);(have hn:((K:Int)).toNat<6:=by omega);(have hl:(K:Int)<6:=by omega)
 simp[go_sem,h,hn,hl,underlying35,hs]
theorem qmk(h:Below w.drew.heap.size w.drew w'):Below w.heap.size w w':=⟨h.os,h.tape,h.output,h.size,h.block⟩
theorem qcxb(h:Below B w w'):Below B w w'.drew:=h.drew
def at6(e:Ev):Nat:=6*e.a.toNat+e.b.toNat
def bhE(o:Int)(e:Ev):Int:=if e.fr=false/\o≠0 then 8 else if e.fr=true/\o≠e.s+1 then 7 else 0
def ownN(e:Ev):Int:=if e.fr then 0 else e.s+1
def bhN(o:Int)(e:Ev):Int:=if bhE o e=0 then ownN e else 0
def qcub(f:Nat->Int):List Ev->Int×(Nat->Int)
 | []=>(0,f)
 | e::r=>@ite _ (okE e) (okE.dec e) (if bhE (f (at6 e)) e=0 then qcub (upd f (at6 e) (ownN e)) r else(bhE (f (at6 e)) e,z0)) (2,z0)
theorem qfsb(f:Nat->Int)(es:List Ev)(j:Nat)(h:es.length<=j):qcub f (es.drop j)=(0,f):=by rw[List.drop_of_length_le h];rfl
theorem qd5b{es:List Ev}(h:j<es.length){e:Ev}(he:es[j]=e):es.drop j=e::es.drop (j+1):=by rw[List.drop_eq_getElem_cons h,he]
theorem qf1b(f:Nat->Int){es:List Ev}(h:j<es.length){e:Ev}(he:es[j]=e)(hk:¬okE e):qcub f (es.drop j)=(2,z0):=by rw[qd5b h he];exact if_neg hk
theorem qfob(f:Nat->Int){es:List Ev}(h:j<es.length){e:Ev}(he:es[j]=e)(hk:okE e)(hE:bhE (f (at6 e)) e≠0):qcub f (es.drop j)=(bhE (f (at6 e)) e,z0):=by
 rw[qd5b h he];unfold qcub;rw[if_pos hk,if_neg hE]
theorem qf7b(f:Nat->Int){es:List Ev}(h:j<es.length){e:Ev}(he:es[j]=e)(hk:okE e)(hE:bhE (f (at6 e)) e=0):qcub f (es.drop j)=qcub (upd f (at6 e) (ownN e)) (es.drop (j+1)):=by
 rw[qd5b h he];conv=>lhs;unfold qcub
 rw[if_pos hk,if_pos hE]
def ownS(es:List Ev):Value:=.tuple #[.agg (pc (qcub z0 es).2 g0'),I Z (qcub z0 es).1]
theorem qdrb{es:List Ev}{f:Nat->Int}(h:qcub z0 es=(x,f)):ownS es=.tuple #[.agg (pc f g0'),I Z x]:=by unfold ownS;rw[h]
theorem sZrp19(h:p:=by
 go_ret2
 exact⟨by rw[HR.out.1,HR.out.2];rfl,hB⟩):p:=h
theorem qd0b(o:Int)(e:Ev)(w:World)(h0:0<=e.s)(h1:e.s<8):Calls prog 30 #[I Z o,.agg (ec e)] w fun x w'=>x=.returned (.tuple #[I Z (bhN o e),I Z (bhE o e)])/\Below w.heap.size w w':=by
 refine m2b ?_;intro hB;obtain⟨t,s,a,b,fr⟩:=e;(have hw:wrap64 (s+1)=s+1:=by simp at h0 h1;unfold wrap64;omega)
 cases fr
 ·by_cases ho:o=0
  ·(have HR:Hid (bhN o ⟨t,s,a,b,false⟩=s+1/\bhE o ⟨t,s,a,b,false⟩=0):=by show _/\_;simp[bhN,bhE,ownN,ho])
   subst ho
   simp at h0 h1
   go_enter func30,ntmps30
   go_wp2_with (first|((with_reducible refine gB 29 1 ?_);refine m2a ?_;intro b3 w2 l3 R3 hb2;replace hB:=hB.trans (hb2.mono hB.size))|((with_reducible refine gL 4 7 ?_);refine m1s ?_)|((with_reducible refine gL 4 15 ?_);refine m1s ?_)|((with_reducible refine gL 4 25 ?_);refine m1s ?_)|((with_reducible refine gL 3 27 ?_);refine fx R3 _ 1 _ ?_))
   exact sZrp19
  ·(have HR:Hid (bhN o ⟨t,s,a,b,false⟩=0/\bhE o ⟨t,s,a,b,false⟩=8):=by show _/\_;simp[bhN,bhE,ownN,ho]);(have g1:(o != 0)=true:=by simpa using ho);clear ho
   go_enter func30,ntmps30
   go_wp2_with (first|((with_reducible refine gB 29 1 ?_);refine m2a ?_;intro b3 w2 l3 R3 hb2;replace hB:=hB.trans (hb2.mono hB.size))|((with_reducible refine gL 4 7 ?_);refine m1s ?_))
   exact sZrp19
 ·by_cases ho:o=s+1
  ·(have HR:Hid (bhN o ⟨t,s,a,b,true⟩=0/\bhE o ⟨t,s,a,b,true⟩=0):=by show _/\_;simp[bhN,bhE,ownN,ho]);(have g1:(o != s+1)=false:=by simpa using ho);clear ho
   simp at h0 h1
   go_enter func30,ntmps30
   go_wp2_with (first|((with_reducible refine gB 29 1 ?_);refine m2a ?_;intro b3 w2 l3 R3 hb2;replace hB:=hB.trans (hb2.mono hB.size))|((with_reducible refine gL 4 7 ?_);refine m1s ?_)|((with_reducible refine gL 4 15 ?_);refine m1s ?_)|((with_reducible refine gL 4 25 ?_);refine m1s ?_)|((with_reducible refine gL 3 19 ?_);refine fx R3 _ 1 _ ?_))
   exact sZrp19
  ·(have HR:Hid (bhN o ⟨t,s,a,b,true⟩=0/\bhE o ⟨t,s,a,b,true⟩=7):=by show _/\_;simp[bhN,bhE,ownN,ho]);(have g1:(o != s+1)=true:=by simpa using ho);clear ho
   simp at h0 h1
   go_enter func30,ntmps30
   go_wp2_with (first|((with_reducible refine gB 29 1 ?_);refine m2a ?_;intro b3 w2 l3 R3 hb2;replace hB:=hB.trans (hb2.mono hB.size))|((with_reducible refine gL 4 7 ?_);refine m1s ?_)|((with_reducible refine gL 4 15 ?_);refine m1s ?_)|((with_reducible refine gL 3 19 ?_);refine fx R3 _ 1 _ ?_))
   exact sZrp19
theorem qwl(es:List Ev):(es.flatMap ecl).length=es.length*5:=by
 induction es with
 | nil=>rfl
 | cons e r ih=>rw[List.flatMap_cons,List.length_append,ih,List.length_cons];simp[ecl];omega
theorem qx0(es:List Ev)(q r:Nat)(hq:q<es.length)(hr:r<5):(es.flatMap ecl)[5*q+r]?=(ecl es[q])[r]?:=by
 induction es generalizing q with
 | nil=>simp at hq
 | cons e l ih=>
  rw[List.flatMap_cons];have hl:(ecl e).length=5:=rfl
  cases q with
  | zero=>rw[List.getElem?_append_left om];simp
  | succ q=>
   (rw[List.getElem?_append_right om,hl,show 5*(q+1)+r-5=5*q+r by omega,ih q (by simpa using hq)])
   simp
theorem q4p(es:List Ev):∀u∈es.flatMap ecl,u.oneCell'=true:=by
 intro u hu
 obtain⟨e,_,he⟩:=List.mem_flatMap.1 hu
 simp[ecl] at he
 rcases he with rfl|rfl|rfl|rfl|rfl<;>rfl
theorem qyu:(prog.info? 29).map (fun i=>(i.zero,i.size,i.bytes))=some (some (.agg (ec noE)),5,40):=by kernel_rfl
theorem EvAt.src{es:List Ev}(h:EvAt w sl es):Src prog 5 22 sl es.length (es.flatMap ecl) w:=by
 obtain⟨a,cap,e,h1,h2,h3⟩:=h
 have hc:∀B O,(∀j (hj:j<es.length),w.rangeAt B (O+5*j) (ecl es[j]))->∀j u,(es.flatMap ecl)[j]?=some u->w.cell? ⟨B,O+j,none⟩=some u:=by
  intro B O hh j u hu;(have hj:j<es.length*5:=by have:=(List.getElem?_eq_some_iff.1 hu).1;rw[qwl] at this;exact this);(have e1:j=5*(j/5)+j%5:=by omega);(have hq:j/5<es.length:=by omega)
  rw[e1,qx0 es (j/5) (j%5) hq om] at hu
  have:=hh (j/5) hq (j%5) u hu
  rw[show O+5*(j/5)+j%5=O+j by omega] at this
  exact this
 cases hes:es with
 | nil=>
  subst hes
  subst e
  cases a with
  | none=>exact Src.ofNil w underlying22 cap
  | some a=>exact Src.ofSlice w underlying22 a 0 cap [] rfl (fun j u hu=>by simp at hu) (fun _ h=>by cases h)
 | cons e0 r=>
  rw[←hes];have e1:=h1 (by rw[hes];simp);have hc':=hc _ _ h2
  generalize eb sl=B at *
  generalize eo sl=O at *
  subst e1
  subst e
  exact Src.ofSlice w underlying22 ⟨B,O,none⟩ es.length cap _ (qwl es) (fun j u hu=>by rw[Addr.add_lit];exact hc' j u hu) (q4p es)
theorem q1nb{es:List Ev}(h:EvAt w sl es)(ty:TypeId):∃v' w',(Builtin.append_ #[22,22] ty #[.slice none 0 0,sl]).run prog w=.ok v' w'/\EvAt w' v' es/\Below w.heap.size w w':=by
 have hlen:=h.len;have hs:=h.src;obtain⟨i0,hi,hz0,hz1,hz2⟩:=info_parts qyu
 by_cases hm:es.length=0
 ·have hes:es=[]:=List.eq_nil_of_length_eq_zero hm
  subst hes
  refine⟨.slice none 0 0,w,?_,⟨none,0,rfl,fun h=>absurd h zm,fun j hj=>absurd hj zm,by simp⟩,Below.refl _ _⟩
  (have hs':Src prog i0.size 22 sl 0 [] w:=by rw[hz1];exact hs)
  simp[Builtin.append_,run_underlying underlying22,sizeOf,typeInfo,hi,hs'.len,hs'.cells]
 ·have hr:=run_append_grow_src (P:=prog) w 22 22 ty 29 i0 (.agg (ec noE)) underlying22 hi hz0 none 0 0 [] (by simpa using run_firstCells_none (P:=prog) w.drew i0.size 0 0 0) sl es.length (es.flatMap ecl) (by rw[hz1];exact hs) om om
   (by rw[hz2,Nat.zero_add,nextslicecap_zero om];omega)
  simp only[Nat.zero_add,List.nil_append] at hr
  refine⟨_,_,hr,⟨_,_,rfl,fun _=>rfl,fun j hj i v hv=>?_,hlen⟩,((Below.refl _ _).drew).alloc zm _⟩
  (have hi5:i<5:=by have:=(List.getElem?_eq_some_iff.1 hv).1;simpa[ecl] using this)
  show World.cell? _ ⟨w.heap.size,0+5*j+i,none⟩=some v
  have hn:=heap_alloc_new w.drew (.cells ((es.flatMap ecl).toArray++Builtin.zeroCells (Value.agg (ec noE)).cells (grownCap w es.length 0 29-es.length)) 29);have hn':(w.drew.alloc (.cells ((es.flatMap ecl).toArray++Builtin.zeroCells (Value.agg (ec noE)).cells (grownCap w es.length 0 29-es.length)) 29)).heap[w.heap.size]?=_:=hn
  simp only[World.cell?,hn',Nat.zero_add]
  (have hl5:5*j+i<(es.flatMap ecl).length:=by rw[qwl];omega)
  have:((es.flatMap ecl).toArray++Builtin.zeroCells (Value.agg (ec noE)).cells (grownCap w es.length 0 29-es.length))[5*j+i]?=some v:=by
   rw[Array.getElem?_append_left (by simpa using hl5)]
   have:=qx0 es j i hj hi5
   simpa using this.trans hv
  simpa using this
theorem q0pb(hgd:o.guard=none)(x y:Operand)(ho:o.op=.call { callee:=.builtin .append,args:=#[x,y],argTypes:=#[22,22] })(sl:Value)(es:List Ev)(hM:EvAt w sl es)(hx:a.eval x=.slice none 0 0)(hy:a.eval y=sl)(hr:∀v' w',EvAt w' v' es->Below w.heap.size w w'->wpList prog ops Q rest (a.put o.dst v') w'):wpList prog ops Q (o::rest) a w:=
 wpList_plain hgd fun K hK=>by
  obtain⟨v',w',hrun,h1,h2⟩:=q1nb hM o.type
  unfold Oper.wp execOp
  simp only[ho,resolve,invoke,builtin,Sem.run_bind,Sem.run_pure,Result.andThen_ok,List.map_toArray,List.map_cons,List.map_nil,hx,hy,hrun]
  exact hK _ _ (hr v' w' h1 h2)
theorem q0xb{enc:TypeId×Value->H}{held:Bool}{l:List Value}{x:DataW H×List MemPlace}(hl0:l.length=5)(hf0:DataW.trod enc prog w base sp held fuel 29 l=some x):∃e:Ev,l=ecl e:=by
 (have cI:prog.cellsOf 3=1:=by kernel_rfl);(have cB:prog.cellsOf 4=1:=by kernel_rfl)
 obtain⟨ys,m,_,hx,_,hl,hf⟩:=DataW.trod_struct underlying29 hf0
 match l,hl0 with
 | [c0,c1,c2,c3,c4],_=>
 match ys,hl with
 | [y0,y1,y2,y3,y4],_=>
 have hv0:=hf 0 _ rfl;have hv1:=hf 1 _ rfl;have hv2:=hf 2 _ rfl;have hv3:=hf 3 _ rfl;have hv4:=hf 4 _ rfl
 simp[cI,cB] at hv0 hv1 hv2 hv3 hv4
 obtain⟨x0,e0,rfl,s0⟩:=DataW.trod_int underlying3 hv0
 obtain⟨x1,e1,rfl,s1⟩:=DataW.trod_int underlying3 hv1
 obtain⟨x2,e2,rfl,s2⟩:=DataW.trod_int underlying3 hv2
 obtain⟨x3,e3,rfl,s3⟩:=DataW.trod_int underlying3 hv3
 obtain⟨x4,e4,rfl⟩:=DataW.trod_bool underlying4 hv4
 simp at e0 e1 e2 e3 e4
 subst e0 e1 e2 e3 e4
 exact⟨⟨x0,x1,x2,x3,x4⟩,rfl⟩
theorem q0jb{enc:TypeId×Value->H}{held:Bool}{l:List Value}{x:DataW H×List MemPlace}(hf0:DataW.trod enc prog w 0 sp held fuel 22 l=some x)(hw:∀y∈x.1.weights prog 22,y<=reachBytes):∃sl,∃es:List Ev,l=[sl]/\EvAt w sl es:=by
 (have c5:prog.cellsOf 29=5:=by kernel_rfl);(have hby:prog.bytesOf 29=40:=by kernel_rfl)
 rcases Go.Deep.open_slice underlying22 hf0 with⟨rfl,rfl⟩|⟨a,len,cap,m,n,D,Pl,rfl,hb,hl,hm,hmm,rfl,hx⟩
 ·exact⟨_,[],rfl,none,0,rfl,fun h=>absurd h zm,fun j hj=>absurd hj zm,by simp⟩
 ·(have hlm:len<=m:=by rw[hmm];split<;>omega)
  have hbd:len<=3518437208780:=by
   have h1:=hw _ (by simp only[DataW.weights,underlying22];exact List.mem_cons_self)
   rw[hby] at h1
   simp[reachBytes] at h1
   omega
  have each:∀i,i<len->∃q:Ev,∀k v,(ecl q)[k]?=some v->w.cell? (a.add (5*i+k))=some v:=by
   intro i hi;obtain⟨cs',h1,h2⟩:=hx i om
   rw[c5] at h1
   obtain⟨_,hlen,hcell⟩:=World.cells?_some h1
   obtain⟨q,rfl⟩:=q0xb hlen h2
   refine⟨q,fun k v hv=>?_⟩
   (have hk:k<5:=by have:=(List.getElem?_eq_some_iff.1 hv).1;simpa[ecl] using this)
   have:=hcell k hk
   rw[Go.Deep.add_add,Nat.mul_comm i 5] at this
   first|exact this.trans hv|(rw[this];simpa using hv)
  haveI:Inhabited Ev:=⟨noE⟩
  obtain⟨q,hq⟩:=Go.Deep.choose_lt each
  have hsp:0<len->a=⟨a.block,a.off,none⟩:=by
   intro h0
   have:=hq 0 h0 0 _ rfl
   obtain⟨b,off,spot⟩:=a;(have hspot:spot=none:=by simpa[Addr.add] using World.cell?_spot this)
   subst hspot
   rfl
  refine⟨_,(List.range len).map q,rfl,some a,cap,by simp,fun h0=>?_,fun j hj k v hv=>?_,by simpa using hbd⟩
  ·rw[hsp (by simpa using h0)];rfl
  ·(have hj':j<len:=by simpa using hj);(have e1:((List.range len).map q)[j]=q j:=by simp)
   rw[e1] at hv
   have:=hq j hj' k v hv
   rw[hsp om,Addr.add_lit] at this
   show w.cell? ⟨a.block,a.off+5*j+k,none⟩=some v
   rw[Nat.add_assoc]
   exact this
theorem q0sb:qi0 0=true:=rfl
theorem q08b:okE noE:=by unfold okE noE;decide
theorem q09b(w:World):(Instr.build 29 #[]).run prog w=.ok (.agg (ec noE)) w:=by kernel_rfl
theorem sZrp17(h:p:=by
 go_wp2_with (first|(go_at_call 10;go_fit (CT _ hT);refine m1k ?_;intro w5 hb5 hB)|((with_reducible refine atOp (.build 29 #[]) rfl ?_);refine qcvb 29 rfl ?_ _ q09b ?_;· rfl)|(go_at_call 12;go_fit (CG _);refine m1k ?_;clear hB;intro w5 hb5 hB))
 go_ret
 exact⟨rfl,hB⟩):p:=h
theorem q0db(w:World)(hT:Tab w):Calls prog 14 #[] w fun x w'=>x=.returned (.bool true)/\Below w.heap.size w w':=by
 refine m0q ?_;intro hB CT CG hsz
 go_enter func14,ntmps14
 exact sZrp17
theorem q0kb(w:World)(hT:Tab w):Calls prog 19 #[] w fun x w'=>x=.returned (.bool true)/\Below w.heap.size w w':=by
 refine m0q ?_;intro hB CT CG hsz
 go_enter func19,ntmps19
 exact sZrp17
def setB(es:List Ev):List UInt8:=es.flatMap evB
theorem qnn(es:List Ev):(setB es).length=21*es.length:=by
 induction es with
 | nil=>rfl
 | cons e r ih=>unfold setB at *;rw[List.flatMap_cons,List.length_append,ih,q80,List.length_cons];omega
theorem q23{es:List Ev}(h:j<es.length){e:Ev}(he:es[j]=e):setB (es.take (j+1))=setB (es.take j)++evB e:=by
 unfold setB;rw[List.take_succ_eq_append_getElem h,List.flatMap_append,he];simp
def tmE:List Ev->Int
 | []=>0
 | e::_=>e.t
theorem q58{es:List Ev}(h:0<es.length):es[0].t=tmE es:=by cases es with
 | nil=>simp at h
 | cons e r=>rfl
def okM(es:List Ev):Prop:=∀e∈es,okE e/\e.t=tmE es
def okM.dec(es:List Ev):Decidable (okM es):=by unfold okM;have:=okE.dec;exact inferInstance
def mesE(seq:Int)(es:List Ev):Int:=if es.length=0 then 7 else if 64<es.length then 6 else @ite Int (okM es) (okM.dec es) (msgE seq) 2
def mesT(seq:Int)(es:List Ev):ByteArray:=if es.length=0 then ByteArray.empty else if 64<es.length then ByteArray.empty else @ite ByteArray (okM es) (okM.dec es) (msgT (tmE es) seq 300 (setB es)) ByteArray.empty
def mesS(seq:Int)(es:List Ev):Value:=.tuple #[.string (mesT seq es),I Z (mesE seq es)]
theorem q15{es:List Ev}(h:es.length=0):mesS seq es=.tuple #[.string ByteArray.empty,I Z 7]:=by simp only[mesS,mesT,mesE,if_pos h]
theorem q18{es:List Ev}(h:64<es.length):mesS seq es=.tuple #[.string ByteArray.empty,I Z 6]:=by
 (have a:¬es.length=0:=by omega)
 simp only[mesS,mesT,mesE,if_neg a,if_pos h]
theorem qu6{es:List Ev}(h0:0<es.length)(h1:es.length<=64)(h:¬okM es):mesS seq es=.tuple #[.string ByteArray.empty,I Z 2]:=by
 (have a:¬es.length=0:=by omega);(have b:¬64<es.length:=by omega)
 simp only[mesS,mesT,mesE,if_neg a,if_neg b,if_neg h]
theorem q8j{es:List Ev}(h0:0<es.length)(h1:es.length<=64)(h:okM es):mesS seq es=msgS (tmE es) seq 300 (setB es):=by
 (have a:¬es.length=0:=by omega);(have b:¬64<es.length:=by omega)
 simp only[mesS,mesT,mesE,msgS,if_neg a,if_neg b,if_pos h]
def okTo(es:List Ev)(j:Nat):Prop:=∀i (h:i<es.length),i<j->okE es[i]/\es[i].t=tmE es
theorem q2g(es:List Ev):okTo es 0:=fun i _ h=>absurd h (Nat.not_lt_zero i)
theorem q17{es:List Ev}(h:okTo es j)(hj:j<es.length){e:Ev}(he:es[j]=e)(hk:okE e)(ht:e.t=tmE es):okTo es (j+1):=fun i hi hij=>by
 by_cases e1:i=j
 ·subst e1;rw[he];exact⟨hk,ht⟩
 ·exact h i hi om
theorem q6a{es:List Ev}(h:okTo es j)(hj:es.length<=j):okM es:=fun e he=>by
 obtain⟨i,hi,rfl⟩:=List.mem_iff_getElem.1 he
 exact h i hi om
theorem qx1{es:List Ev}(hj:j<es.length){e:Ev}(he:es[j]=e)(h:¬(okE e/\e.t=tmE es)):¬okM es:=fun hm=>h (hm e (by rw[←he];exact List.getElem_mem hj))
theorem EvAt.index0{es:List Ev}(h:EvAt w sl es)(hl:0<es.length)(w2:World):(Instr.indexAt 22 sl (I Z 0)).run prog w2=.ok (V (some ⟨eb sl,eo sl,none⟩)) w2:=h.index 0 hl w2
theorem EvAt.time0{es:List Ev}(h:EvAt w sl es)(hl:0<es.length):w.cell? ⟨eb sl,eo sl,none⟩=some (I Z (tmE es)):=by
 have:=h.at 0 hl rfl 0 _ rfl
 rw[q58 hl] at this
 exact this
theorem qhi(h:w.cell? ⟨b,f,none⟩=some v)(hb:Below w.heap.size w w'):w'.cell? ⟨b,f,none⟩=some v:=by
 have hl:b<w.heap.size:=by
  unfold World.cell? at h
  rcases hh:w.heap[b]? with _|x
  ·simp[hh] at h
  ·exact(Array.getElem?_eq_some_iff.1 hh).1
 unfold World.cell? at *
 rw[hb.block _ hl]
 exact h
theorem qnq{c:Nat}(h:w.cell? ⟨b,f,none⟩=some v)(t:qbl c w w')(hlt:b<c):w'.cell? ⟨b,f,none⟩=some v:=by
 unfold World.cell? at *
 rw[t.other b om]
 exact h
theorem qvf(x:Operand)(ho:o.op=.load 3 x)(hw:Region.wanted o (yielded ops a.tmps)=true)(b f:Nat)(hx:a.eval x=V (some ⟨b,f,none⟩))(n:Int)(hcell:w.cell? ⟨b,f,none⟩=some (I Z n))(hr:wpList prog ops Q rest (a.put o.dst (I Z n)) w):wpList prog ops Q (o::rest) a w:=
 wpList_step fun K hK=>by
  rw[if_pos hw]
  unfold Oper.wp execOp
  simp only[ho,hx]
  simp[go_sem,hcell,underlying3]
  exact hK _ _ hr
end Go.Proofs.YtnhafdkfjjplkaaDoor
