/-
  Of what a law stands on.
-/
import Derived.Test.YtnkpgdejagglaaaGreatDoorRows
import Derived.LaidMore
import Derived.Lib.LaidTab
import Derived.Deep.DeepHandedRow
import Derived.Maps.AppendAt
import Derived.Test.YtnkpgdejagglaaaGreatDoorZyb1
import Derived.Test.YtnkpgdejagglaaaGreatDoorZyp1
set_option linter.all false
namespace Go.Proofs.YtnkpgdejagglaaaGreatDoor
open _root_.BitVec renaming ofInt->bW
open _root_.ByteArray renaming empty->ak
open _root_.Go renaming Calls->az,Operand->aU,TypeId->bt,Value->ag,World->af,execOp->bG,wpList->aM,wpList_step->gV,yielded->dy
open _root_.Go.Proofs.Tryz renaming prog->ah
open _root_.Go.Region renaming wanted->bj
open _root_.Go.RowKit renaming Below->aq,Hid->aK,intOf->cY,wrap64->bK
open _root_.Go.Value renaming ownBlock->bA
open _root_.Go.World renaming block_lt_of_cell?->dP,cell?->cS
open _root_.List renaming length_append->aY,length_nil->lZ,take_of_length_le->fC
open _root_.Nat renaming le_refl->au,le_trans->aw,zero_add->bX
open Go.Value renaming int → I,pointer → V
open Go.IntKind renaming i64 → Z
open _root_.Go.Proofs.Tryz Go.ChangeShapes Go.WideShapes Go.ChangeAt Go.RowKit
set_option maxHeartbeats 16000000
set_option maxRecDepth 100000
variable {ops:Array Oper}{rest:List Oper}{o:Oper}{a:Act}{w w':World}{Q:Exit->Act->World->Prop}{t:TypeId}{B b base f j r:Nat}{cs:Array Value}{p:Prop}{n seq x:Int}{v v':Value}{l:List UInt8}{S:World->Prop}
structure Ev where
 t:Int
 s:Int
 a:Int
 b:Int
 fr:Bool
def nh(e:Ev):List ag:=[I Z e.t,I Z e.s,I Z e.a,I Z e.b,.bool e.fr]
def ec(e:Ev):Array ag:=#[I Z e.t,I Z e.s,I Z e.a,I Z e.b,.bool e.fr]
def zG(e:Ev):(ah.info? 100).map (·.size)=some (ec e).size:=by kernel_rfl
def q5j(e:Ev):(ah.info? 100).map (·.size)=some (nh e).length:=by kernel_rfl
def qqy(e:Ev):(ec e).all (·.oneCell')=true:=by kernel_rfl
def WW:Ev:=⟨0,0,0,0,false⟩
def qr3(w:af):(zeroValue 100).run ah w=.ok (.agg (ec WW)) w:=by kernel_rfl
def pu(e:Ev):Prop:=(0<=e.t/\e.t<=1099511627776)/\(0<=e.s/\e.s<8)/\(0<=e.a/\e.a<3)/\(0<=e.b/\e.b<6)
def pu.dec(e:Ev):Decidable (pu e):=by unfold pu;exact inferInstance
def Ce(e:Ev):Int:=@ite Int (pu e) (pu.dec e) 0 2
theorem W8{e:Ev}(h:pu e):Ce e=0:=aZ h
theorem Nl{e:Ev}(h:¬pu e):Ce e=2:=aT h
def mQ(p:Op)(ho:o.op=p)(h:aM ah ops Q (o::rest) a w):aM ah ops Q (o::rest) a w:=h
def qv3(R:aP t w b cs)(x:aU)(ho:o.op=.load 4 x)(hw:bj o (dy ops a.tmps)=true)(f:Nat)(hx:a.eval x=V (some ⟨b,f,none⟩))(n:Bool)(hc:cs[f]?=some (.bool n))(hr:aM ah ops Q rest (a.put o.dst (.bool n)) w):aM ah ops Q (o::rest) a w:=
 gV fun K hK=>by
  rw[aZ hw];have hcell:=(R.cell f).trans hc
  unfold Oper.wp bG
  simp only[ho,hx]
  simp[go_sem,hcell,underlying4]
  exact hK _ _ hr
def ku(h:p:=by
 go_enter func171,ntmps171
 go_wp2_with (first|(refine gB 100 0 ?_;refine bx 100 _ (ec e) ?_;intro b1 w2 l1 R1 hb2;replace hB:=hB.trans (hb2.mono hB.size))|(refine gL 3 3 ?_;refine o6 R1 _ rfl ?_ 0 rfl _ rfl ?_;· rfl)|(refine gL 3 7 ?_;refine o6 R1 _ rfl ?_ 0 rfl _ rfl ?_;· rfl)|(refine gL 3 12 ?_;refine o6 R1 _ rfl ?_ 1 rfl _ rfl ?_;· rfl)|(refine gL 3 17 ?_;refine o6 R1 _ rfl ?_ 1 rfl _ rfl ?_;· rfl)|(refine gL 3 22 ?_;refine o6 R1 _ rfl ?_ 2 rfl _ rfl ?_;· rfl)|(refine gL 3 27 ?_;refine o6 R1 _ rfl ?_ 2 rfl _ rfl ?_;· rfl)|(refine gL 3 32 ?_;refine o6 R1 _ rfl ?_ 3 rfl _ rfl ?_;· rfl)|(refine gL 3 37 ?_;refine o6 R1 _ rfl ?_ 3 rfl _ rfl ?_;· rfl))
 go_ret
 exact⟨by rw[HG.out];rfl,hB⟩):p:=h
def TZ(e:Ev)(w:af):az ah 171 #[.agg (ec e)] w fun x w'=>x=.returned (I Z (Ce e))/\aq w.heap.size w w':=by
 refine gP ?_;intro hB
 by_cases h0:e.t<0
 .refine Ic ?_;intro HG;(have g0:decide (e.t<0)=true:=by simpa using h0);clear h0
  exact ku
 by_cases h1:1099511627776<e.t
 .refine Ic ?_;intro HG;(have g0:decide (e.t<0)=false:=by simpa using h0);(have g1:decide (1099511627776<e.t)=true:=by simpa using h1);clear h0 h1
  exact ku
 by_cases h2:e.s<0
 .refine Ic ?_;intro HG;(have g0:decide (e.t<0)=false:=by simpa using h0);(have g1:decide (1099511627776<e.t)=false:=by simpa using h1);(have g2:decide (e.s<0)=true:=by simpa using h2);clear h0 h1 h2
  exact ku
 by_cases h3:7<e.s
 .refine Ic ?_;intro HG;(have g0:decide (e.t<0)=false:=by simpa using h0);(have g1:decide (1099511627776<e.t)=false:=by simpa using h1);(have g2:decide (e.s<0)=false:=by simpa using h2);(have g3:decide (7<e.s)=true:=by simpa using h3);clear h0 h1 h2 h3
  exact ku
 by_cases h4:e.a<0
 .refine Ic ?_;intro HG;refine Tn ?_;intro g0 g1 g2 g3;(have g4:decide (e.a<0)=true:=by simpa using h4);clear h0 h1 h2 h3 h4
  exact ku
 by_cases h5:2<e.a
 .refine Ic ?_;intro HG;refine Tn ?_;intro g0 g1 g2 g3;(have g4:decide (e.a<0)=false:=by simpa using h4);(have g5:decide (2<e.a)=true:=by simpa using h5);clear h0 h1 h2 h3 h4 h5
  exact ku
 by_cases h6:e.b<0
 .refine Ic ?_;intro HG;refine Tn ?_;intro g0 g1 g2 g3;refine m5p ?_;intro g4 g5;(have g6:decide (e.b<0)=true:=by simpa using h6);clear h0 h1 h2 h3 h4 h5 h6
  exact ku
 by_cases h7:5<e.b
 .refine Ic ?_;intro HG;refine Tn ?_;intro g0 g1 g2 g3;refine m5p ?_;intro g4 g5;(have g6:decide (e.b<0)=false:=by simpa using h6);(have g7:decide (5<e.b)=true:=by simpa using h7);clear h0 h1 h2 h3 h4 h5 h6 h7
  exact ku
 have HG:aK (Ce e=0):=W8 (by unfold pu;omega);refine Tn ?_;intro g0 g1 g2 g3;refine m5p ?_;intro g4 g5;(have g6:decide (e.b<0)=false:=by simpa using h6);(have g7:decide (5<e.b)=false:=by simpa using h7);clear h0 h1 h2 h3 h4 h5 h6 h7
 exact ku
def ot(x hi:Int):Bool:=decide (0<=x)&&decide (x<hi)
theorem IA{hi:Int}(h0:0<=x)(h1:x<hi):ot x hi=true:=by grind [ot]
theorem W9{hi:Int}(h0:x<0):ot x hi=false:=by grind [ot]
theorem Xa{hi:Int}(h1:hi<=x):ot x hi=false:=by grind [ot]
def py(h:p:=by
 go_meet
 case rel=>exact⟨by rw[HI.out],R1,hB⟩):p:=h
def DF(h:p:=by
 clear h0 h1
 go_wp2_with (first|(refine gL 3 31 ?_;refine o6 R1 _ rfl ?_ 3 rfl _ rfl ?_;· rfl)|(refine gL 3 35 ?_;refine o6 R1 _ rfl ?_ 3 rfl _ rfl ?_;· rfl))
 exact py):p:=h
def DI(h:p:=by
 clear h0 h1
 go_wp2_with (first|(refine gL 3 23 ?_;refine o6 R1 _ rfl ?_ 2 rfl _ rfl ?_;· rfl)|(refine gL 3 27 ?_;refine o6 R1 _ rfl ?_ 2 rfl _ rfl ?_;· rfl))
 exact py):p:=h
def DJ(h:p:=by
 clear h0 h1
 go_wp2_with (first|(refine gL 3 15 ?_;refine o6 R1 _ rfl ?_ 1 rfl _ rfl ?_;· rfl)|(refine gL 3 19 ?_;refine o6 R1 _ rfl ?_ 1 rfl _ rfl ?_;· rfl))
 exact py):p:=h
def DK(h:p:=by
 clear h0 h1
 go_wp2_with (first|(refine gL 3 7 ?_;refine o6 R1 _ rfl ?_ 0 rfl _ rfl ?_;· rfl)|(refine gL 3 11 ?_;refine o6 R1 _ rfl ?_ 0 rfl _ rfl ?_;· rfl))
 exact py):p:=h
def pZ(h:p:=by
 go_wp2
 go_ret
 exact⟨by rw[HG.out];rfl,hB⟩):p:=h
def qro(e : Ev)(w : af): az ah 163 #[.agg (ec e)] w fun x w' => x = .returned (I Z (Ce e)) /\ aq w.heap.size w w' := by
  have hB := Below.refl w.heap.size w
  go_enter func163, ntmps163
  go_upto_region 1 with(first | (refine gB 100 0 ?_;refine bx 100 _ (ec e) ?_;intro b1 w2 l1 R1 hb2;replace hB := hB.trans (hb2.mono hB.size)))
  go_cut [3] (fun s3 wx => s3 = .bool (ot e.t 1099511627777) /\ aP 100 wx b1 (ec e) /\ aq w.heap.size w wx)
  case first =>
    by_cases h0 : 0 <= e.t
    · by_cases h1 : e.t <= 1099511627776
      · have HI : aK (ot e.t 1099511627777 = true) := IA h0 om
        (have g0 : decide (0 <= e.t) = true := by simpa using h0);(have g1 : decide (e.t <= 1099511627776) = true := by simpa using h1)
        exact DK
      · have HI : aK (ot e.t 1099511627777 = false) := Xa om
        (have g0 : decide (0 <= e.t) = true := by simpa using h0);(have g1 : decide (e.t <= 1099511627776) = false := by simpa using h1)
        exact DK
    · have HI : aK (ot e.t 1099511627777 = false) := W9 om
      (have g0 : decide (0 <= e.t) = false := by simpa using h0);clear h0
      go_wp2_with (first | (refine gL 3 7 ?_;refine o6 R1 _ rfl ?_ 0 rfl _ rfl ?_;· rfl)
 )
      go_meet
      case rel => exact⟨by rw[HI.out], R1, hB⟩
  case rest =>
    clear R1 hB
    obtain⟨rfl, R1, hB⟩ := hcut
    go_upto_region 2 with fail
    go_cut [4] (fun s4 wx => s4 = .bool (ot e.s 8) /\ aP 100 wx b1 (ec e) /\ aq w.heap.size w wx)
    case first =>
      by_cases h0 : 0 <= e.s
      · by_cases h1 : e.s < 8
        · have HI : aK (ot e.s 8 = true) := IA h0 om
          (have g0 : decide (0 <= e.s) = true := by simpa using h0);(have g1 : decide (e.s < 8) = true := by simpa using h1)
          exact DJ
        · have HI : aK (ot e.s 8 = false) := Xa om
          (have g0 : decide (0 <= e.s) = true := by simpa using h0);(have g1 : decide (e.s < 8) = false := by simpa using h1)
          exact DJ
      · have HI : aK (ot e.s 8 = false) := W9 om
        (have g0 : decide (0 <= e.s) = false := by simpa using h0);clear h0
        go_wp2_with (first | (refine gL 3 15 ?_;refine o6 R1 _ rfl ?_ 1 rfl _ rfl ?_;· rfl)
 )
        go_meet
        case rel => exact⟨by rw[HI.out], R1, hB⟩
    case rest =>
      clear R1 hB
      obtain⟨rfl, R1, hB⟩ := hcut
      go_upto_region 3 with fail
      go_cut [5] (fun s5 wx => s5 = .bool (ot e.a 3) /\ aP 100 wx b1 (ec e) /\ aq w.heap.size w wx)
      case first =>
        by_cases h0 : 0 <= e.a
        · by_cases h1 : e.a < 3
          · have HI : aK (ot e.a 3 = true) := IA h0 om
            (have g0 : decide (0 <= e.a) = true := by simpa using h0);(have g1 : decide (e.a < 3) = true := by simpa using h1)
            exact DI
          · have HI : aK (ot e.a 3 = false) := Xa om
            (have g0 : decide (0 <= e.a) = true := by simpa using h0);(have g1 : decide (e.a < 3) = false := by simpa using h1)
            exact DI
        · have HI : aK (ot e.a 3 = false) := W9 om
          (have g0 : decide (0 <= e.a) = false := by simpa using h0);clear h0
          go_wp2_with (first | (refine gL 3 23 ?_;refine o6 R1 _ rfl ?_ 2 rfl _ rfl ?_;· rfl)
 )
          go_meet
          case rel => exact⟨by rw[HI.out], R1, hB⟩
      case rest =>
        clear R1 hB
        obtain⟨rfl, R1, hB⟩ := hcut
        go_upto_region 4 with fail
        go_cut [6] (fun s6 wx => s6 = .bool (ot e.b 6) /\ aP 100 wx b1 (ec e) /\ aq w.heap.size w wx)
        case first =>
          by_cases h0 : 0 <= e.b
          · by_cases h1 : e.b < 6
            · have HI : aK (ot e.b 6 = true) := IA h0 om
              (have g0 : decide (0 <= e.b) = true := by simpa using h0);(have g1 : decide (e.b < 6) = true := by simpa using h1)
              exact DF
            · have HI : aK (ot e.b 6 = false) := Xa om
              (have g0 : decide (0 <= e.b) = true := by simpa using h0);(have g1 : decide (e.b < 6) = false := by simpa using h1)
              exact DF
          · have HI : aK (ot e.b 6 = false) := W9 om
            (have g0 : decide (0 <= e.b) = false := by simpa using h0);clear h0
            go_wp2_with (first | (refine gL 3 31 ?_;refine o6 R1 _ rfl ?_ 3 rfl _ rfl ?_;· rfl)
 )
            go_meet
            case rel => exact⟨by rw[HI.out], R1, hB⟩
        case rest =>
          clear R1 hB
          obtain⟨rfl, R1, hB⟩ := hcut
          rcases hb0 : ot e.t 1099511627777 with _ | _
          · have HG : aK (Ce e = 2) := Nl (fun h => by have := h.1;rw[IA this.1 om] at hb0;simp at hb0)
            exact pZ
          rcases hb1 : ot e.s 8 with _ | _
          · have HG : aK (Ce e = 2) := Nl (fun h => by have := h.2.1;rw[IA this.1 om] at hb1;simp at hb1)
            exact pZ
          rcases hb2 : ot e.a 3 with _ | _
          · have HG : aK (Ce e = 2) := Nl (fun h => by have := h.2.2.1;rw[IA this.1 om] at hb2;simp at hb2)
            exact pZ
          rcases hb3 : ot e.b 6 with _ | _
          · have HG : aK (Ce e = 2) := Nl (fun h => by have := h.2.2.2;rw[IA this.1 om] at hb3;simp at hb3)
            exact pZ
          have HG : aK (Ce e = 0) := W8 (by simp[ot] at hb0 hb1 hb2 hb3;unfold pu;omega)
          exact pZ
def DL(e:Ev):Int:=if e.fr then 2 else 1
theorem T6(e:Ev):1<=DL e/\DL e<=2:=by grind [DL]
def q6i(e:Ev)(w:af):az ah 207 #[.agg (ec e)] w fun x w'=>x=.returned (I Z (DL e))/\aq w.heap.size w w':=by
 refine gP ?_;intro hB;obtain⟨t,s,a,b,fr⟩:=e
 cases fr
 all_goals
  go_enter func207,ntmps207
  go_wp2_with (first|(refine gB 100 0 ?_;refine bx 100 _ (ec ⟨t,s,a,b,_⟩) ?_;intro b1 w2 l1 R1 hb2;replace hB:=hB.trans (hb2.mono hB.size))|(refine gL 4 3 ?_;refine qv3 R1 _ rfl rfl 4 rfl _ rfl ?_))
  go_ret
  exact⟨rfl,hB⟩
def qhW(t:Int)(h0:0<=t)(h1:t<=1099511627776):bits .and .i64 t 4294967295=t%4294967296:=by
 obtain⟨n,rfl⟩:∃n:Nat,t=n:=⟨t.toNat,by omega⟩
 have h3:=Nat.and_two_pow_sub_one_eq_mod n 32;(have e1:(bW 64 (n:Int)).toNat=n:=by rw[BitVec.toNat_ofInt];omega);(have e2:(bW 64 (4294967295:Int)).toNat=4294967295:=by decide);(have e3:(4294967295:Nat)=2^32-1:=by decide);(have e4:n &&& 4294967295=n%4294967296:=by rw[e3];exact h3);(have e5:(bW 64 (n:Int) &&& bW 64 (4294967295:Int)).toNat=n%4294967296:=by rw[BitVec.toNat_and,e1,e2,e4])
 unfold bits
 show IntKind.i64.wrap ((bW 64 (n:Int) &&& bW 64 (4294967295:Int)).toNat:Int)=_
 rw[e5]
 simp[IntKind.wrap,IntKind.bits,IntKind.signed]
 omega
def q0t(t:Int)(w:af)(h0:0<=t)(h1:t<=1099511627776):az ah 206 #[I Z t] w fun x w'=>x=.returned (I Z (t%4294967296))/\w'=w:=by
 have hl:=qhW t h0 h1
 go_enter func206,ntmps206
 go_wp2
 go_ret
 exact⟨rfl,rfl⟩
def kR(w:af)(base:Nat)(v:ag)(l:List UInt8):Prop:=w.ownsRow base 5 1 v l.length (bc l)
def kR.nil(w:af)(base:Nat):kR w base (.slice none 0 0) []:=World.ownsRow_nil w base 5 1
theorem kR.below(h:kR w base v l)(hb:aq w.heap.size w w'):kR w' base v l:=by
 refine⟨h.1,?_⟩
 rcases h.2 with e|⟨b,cap,cur,hv,fj,hh,r⟩
 .grind
 .exact .inr ⟨b,cap,cur,hv,fj,(hb.block b (Array.getElem?_eq_some_iff.1 hh).1).trans hh,r⟩
theorem kR.slice(h:kR w base v l):∃a cap,v=.slice a l.length cap:=by
 rcases h.2 with⟨e,n0⟩|⟨b,cap,cur,hv,_⟩
 .grind
 grind
structure dC(v v':ag)(w w':af):Prop where
 ii:w.grownBy w' v.ownBlock
 lies:v'.ownBlock=v.ownBlock\/∃k,v'.ownBlock=some k/\w.heap.size<=k
def dC.refl(v:ag)(w:af):dC v v w w:=⟨⟨rfl,rfl,rfl,au _,fun _ _ _=>rfl⟩,.inl rfl⟩
theorem dC.trans{v'':ag}{a b c:af}(h:dC v v' a b)(k:dC v' v'' b c):dC v v'' a c:=by
 refine⟨⟨k.ii.os.trans h.ii.os,k.ii.tape.trans h.ii.tape,k.ii.output.trans h.ii.output,aw h.ii.size k.ii.size,fun i hi hG=>?_⟩,?_⟩
 .refine(k.ii.block i (Nat.lt_of_lt_of_le hi h.ii.size) ?_).trans (h.ii.block i hi hG)
  rcases h.lies with e|⟨j,e,hj⟩
  .grind
  grind
 .rcases k.lies with e|⟨j,e,hj⟩
  .rw[e];exact h.lies
  .exact .inr ⟨j,e,aw h.ii.size hj⟩
def dC.gh{a b:af}(h:aq a.heap.size a b):dC v v a b:=⟨⟨h.os,h.tape,h.output,h.size,fun k hk _=>h.block k hk⟩,.inl rfl⟩
def dC.below{a b:af}(h:dC v v' a b)(hB:B<=a.heap.size)(hv:∀k,v.ownBlock=some k->B<=k):aq B a b:=
 ⟨h.ii.os,h.ii.tape,h.ii.output,h.ii.size,fun k hk=>h.ii.block k om (fun e=>by have:=hv k e.symm;omega)⟩
def kR.ge(h:kR w base v l):∀k,v.ownBlock=some k->base<=k/\k<w.heap.size:=fun k hk=>h.lt k hk
def dC.row{a b:af}(h:dC v v' a b)(R:aP t a r cs)(hne:v.ownBlock≠some r):aP t b r cs:=(h.ii.block r R.lt (fun e=>hne e.symm)).trans R
theorem dC.bys{u:ag}{a b:af}(h:dC v v' a b)(U:kR a base u l)(hne:∀k,u.ownBlock=some k->v.ownBlock≠some k):kR b base u l:=by
 refine⟨U.1,?_⟩
 rcases U.2 with e|⟨g,cap,cur,hv,fj,hh,r⟩
 .grind
 .exact .inr ⟨g,cap,cur,hv,fj,(h.ii.block g (Array.getElem?_eq_some_iff.1 hh).1 (fun e=>hne g (by rw[hv];rfl) e.symm)).trans hh,r⟩
theorem dC.ne{a b:af}(h:dC v v' a b)(hne:v.ownBlock≠some r)(hr:r<a.heap.size):v'.ownBlock≠some r:=by
 rcases h.lies with e|⟨k,e,hk⟩
 .grind
 grind
def qg7(h:kR w base v l)(hb:w.heap.size<=b):v.ownBlock≠some b:=fun e=>by have:=(h.ge b e).2;omega
theorem qe9(h:kR w base v l)(hne:v.ownBlock≠some b)(t:gG b w w'):kR w' base v l:=by
 refine⟨h.1,?_⟩
 rcases h.2 with e|⟨g,cap,cur,hv,fj,hh,r⟩
 .grind
 .exact .inr ⟨g,cap,cur,hv,fj,(t.other g (fun e=>hne (by rw[hv,e];rfl))).trans hh,r⟩
def qew{w0:af}(h:dC v v' w0 w)(hb:w0.heap.size<=b)(t:gG b w w'):dC v v' w0 w':=by
 (have hB:=t.below w0.heap.size w om ⟨rfl,rfl,rfl,by have:=h.ii.size;omega,fun _ _=>rfl⟩)
 refine⟨⟨hB.os.trans h.ii.os,hB.tape.trans h.ii.tape,hB.output.trans h.ii.output,aw h.ii.size hB.size,fun k hk hG=>?_⟩,h.lies⟩
 exact(t.other k om).trans (h.ii.block k hk hG)
theorem q9k(v:Int)(k:Nat):hi v k=v/256^k:=by
 induction k with
 | zero=>simp[hi]
 | succ k ih=>unfold hi;rw[ih,Int.pow_succ,Int.ediv_ediv_of_nonneg (Int.pow_nonneg (by decide))]
theorem q9p(v:Int)(k:Nat)(h:k<8):hi v k=v/2^(8*k):=by
 rw[q9k]
 rcases(show k=0\/k=1\/k=2\/k=3\/k=4\/k=5\/k=6\/k=7 by omega) with rfl|rfl|rfl|rfl|rfl|rfl|rfl|rfl<;>rfl
def q8c(w:af)(c:UInt8)(x:Int)(hx:x=(c.toNat:Int)):Src ah 1 131 (.slice (some ⟨w.heap.size,0,none⟩) 1 1) 1 (bc [c]) (w.alloc (.cells #[.int .u8 x] 5)):=by
 subst hx
 refine Src.ofSlice _ underlying131 ⟨w.heap.size,0,none⟩ 1 1 (bc [c]) (by simp[bc]) (fun j u hu=>?_) (XL _)
 rw[Addr.add_lit,bX];(have hj:j=0:=by have:=(List.getElem?_eq_some_iff.1 hu).1;simp[bc] at this;omega)
 subst hj
 have e:=World.cell?_alloc_mark w #[.int .u8 (c.toNat:Int)] 5 (0,0) 0
 rw[show u=.int .u8 (c.toNat:Int) by simpa[bc] using hu.symm]
 exact e
def q57(n:Int)(size j:Nat)(hj:j<size):be (hi n j) (size-j)=be (hi n (j+1)) (size-(j+1))++[b8 (hi n j)]:=by
 obtain⟨m,hm⟩:∃m,size-j=m+1:=⟨size-j-1,by omega⟩
 (have El:size-(j+1)=m:=by omega);rw[hm,El]
 rfl
def Xb(base:Nat)(v:ag)(l:List UInt8)(n:Int)(size:Nat)(w:af)(hv:kR w base v l)(hbase:base<=w.heap.size)(hs:size<=8)(hl:l.length<=1000000)(h0:-9223372036854775808<=n)(h1:n<=9223372036854775807):
  az ah 161 #[v,I Z n,I Z (size:Int)] w fun x w'=>∃v',x=.returned v'/\kR w' base v' (l++be n size)/\dC v v' w w':=by
 obtain⟨i0,qY,hz0,hz1,hz2⟩:=info_parts UI;(have my:bK ((size:Int)-1)=(size:Int)-1:=by unfold bK;omega)
 go_enter func161,ntmps161
 go_wp2
 go_loopw [0,7] (fun b i W=>∃j:Nat,j<=size/\i=I Z ((j:Int)-1)/\kR W base b (l++be (hi n j) (size-j))/\dC v b w W) (fun _ i _=>((cY i)+1).toNat)
 case atStart=>exact⟨size,au _,rfl,by simpa[be] using hv,dC.refl _ _⟩
 case round=>
  obtain⟨j,hj,rfl,hO,hG⟩:=hrel
  by_cases hlt:0<j
  .obtain⟨k,rfl⟩:∃k,j=k+1:=⟨j-1,by omega⟩
   (have nR:k<8:=by omega)
   have hx:IntKind.u8.wrap (n/2^(8*(k:Int)).toNat)=((b8 (hi n k)).toNat:Int):=by
    (rw[GK,qR,q9p n k nR,show(8*(k:Int)).toNat=8*k by omega])
   (have ek:(((k+1:Nat):Int)-1)=(k:Int):=by omega);rw[ek];(have wG:(0:Int)<=(k:Int):=by omega);have hbl:(be (hi n (k+1)) (size-(k+1))).length=size-(k+1):=nO _ _;have HN:aK (be (hi n k) (size-k)=be (hi n (k+1)) (size-(k+1))++[b8 (hi n k)]):=q57 n size k om;(have hlen:(l++be (hi n (k+1)) (size-(k+1))).length<=1000008:=by rw[aY];omega);(have fq:=hG.ii.size);clear ek
   go_wp2_with (at_builtin;refine UH _ rfl (.tmp 14) (.tmp 20) 131 131 rfl base 5 i0 (.int .u8 0) underlying131 qY hz0 hz1 hz2 rfl _ _ _ rfl (hO.alloc _) _ 1 (bc [b8 (hi n k)]) rfl (q8c _ _ _ hx) om (by simp;omega) ?_;intro v2 w2 hown hgrow hat)
   go_roundw
   case rel=>
    refine⟨k,by omega,rfl,?_,?_⟩
    .rw[HN.out,←List.append_assoc]
     unfold kR
     rw[aY,XJ]
     exact hown
    .refine hG.trans (dC.trans (dC.gh ((Below.refl _ _).alloc (au _) _)) ⟨hgrow,?_⟩)
     rcases hat with e|e
     .exact .inl e
     .exact .inr ⟨_,e,au _⟩
   case measure=>simp[cY]
  .obtain rfl:j=0:=by omega
   go_wp2
   go_ret
   exact⟨_,rfl,by simpa[hi] using hO,hG⟩
def q44(n:Int)(w:af)(hv:kR w base v l)(hbase:base<=w.heap.size)(hl:l.length<=1000000)(h0:-9223372036854775808<=n)(h1:n<=9223372036854775807):
  az ah 161 #[v,I Z n,I Z 1] w fun x w'=>∃v',x=.returned v'/\kR w' base v' (l++be n 1)/\dC v v' w w':=Xb base v l n 1 w hv hbase om hl h0 h1
def qgc(n:Int)(w:af)(hv:kR w base v l)(hbase:base<=w.heap.size)(hl:l.length<=1000000)(h0:-9223372036854775808<=n)(h1:n<=9223372036854775807):
  az ah 161 #[v,I Z n,I Z 2] w fun x w'=>∃v',x=.returned v'/\kR w' base v' (l++be n 2)/\dC v v' w w':=Xb base v l n 2 w hv hbase om hl h0 h1
def qu5(n:Int)(w:af)(hv:kR w base v l)(hbase:base<=w.heap.size)(hl:l.length<=1000000)(h0:-9223372036854775808<=n)(h1:n<=9223372036854775807):
  az ah 161 #[v,I Z n,I Z 4] w fun x w'=>∃v',x=.returned v'/\kR w' base v' (l++be n 4)/\dC v v' w w':=Xb base v l n 4 w hv hbase om hl h0 h1
def q59(n:Int)(w:af)(hv:kR w base v l)(hbase:base<=w.heap.size)(hl:l.length<=1000000)(h0:-9223372036854775808<=n)(h1:n<=9223372036854775807):
  az ah 161 #[v,I Z n,I Z 8] w fun x w'=>∃v',x=.returned v'/\kR w' base v' (l++be n 8)/\dC v v' w w':=Xb base v l n 8 w hv hbase om hl h0 h1
def vR(e:Ev):List UInt8:=be e.t 8++be (167772161+e.s) 4++be (3405803777+e.a) 4++be (1024+e.b*8) 2++be (1024+e.b*8+8-1) 2++be (DL e) 1
theorem q80(e:Ev):(vR e).length=21:=by simp[vR,nO]
def q7z(l:List UInt8)(e:Ev):l++be e.t 8++be (167772161+e.s) 4++be (3405803777+e.a) 4++be (1024+e.b*8) 2++be (1024+e.b*8+8-1) 2++be (DL e) 1=l++vR e:=by simp[vR]
def qvw(e:Ev)(w:af)(hv:kR w base v l)(hbase:base<=w.heap.size)(hl:l.length<=900000)(he:pu e):
  az ah 164 #[v,.agg (ec e)] w fun x w'=>∃v',x=.returned v'/\kR w' base v' (l++vR e)/\dC v v' w w':=by
 have HA:aK (_=l++vR e):=q7z l e;obtain⟨⟨t0,t1⟩,⟨s0,s1⟩,⟨a0,a1⟩,b0,b1⟩:=he;have hO:=hv;have hG:=dC.refl v w;have fq:=hbase;have hk:=T6 e
 go_enter func164,ntmps164
 go_wp2_with (first|(refine gB 100 1 ?_;refine bx 100 _ (ec e) ?_;intro b3 w2 l3 R3 hb2;have hne:v.ownBlock≠some b3:=(fun ee=>by have:=(hv.ge _ ee).2;omega);replace hO:=hO.below hb2;replace fq:=aw fq hb2.size;replace hG:=hG.trans (dC.gh hb2))|(refine gL 3 6 ?_;refine fx R3 _ ?_)|(refine gL 3 11 ?_;refine fx R3 _ ?_)|(refine gL 3 15 ?_;refine fx R3 _ ?_)|(refine gL 3 20 ?_;refine fx R3 _ ?_)|(refine gL 100 3 ?_;refine qf 100 _ rfl rfl b3 rfl (ec e) R3 _ underlying100 rfl (zG e) ?_)|(go_at_call 207;go_fit (q6i e _);rintro x w5 ⟨rfl,bh⟩;replace hO:=hO.below bh;replace fq:=aw fq bh.size;replace hG:=hG.trans (dC.gh bh);replace R3:=R3.below bh)|(go_at_call 161;go_fit (q59 _ _ hO om (by first|omega ) om om);rintro x w5 ⟨v5,rfl,ni,gZ⟩;have iH:=gZ.ne hne R3.lt;replace R3:=gZ.row R3 hne;refine zE ?_;clear hne iH hO fq hG ni gZ;intro hne hO fq hG)|(go_at_call 161;go_fit (qu5 _ _ hO om (by first|(simp only[aY,lZ,nO];omega)) om om);rintro x w5 ⟨v5,rfl,ni,gZ⟩;have iH:=gZ.ne hne R3.lt;replace R3:=gZ.row R3 hne;refine zE ?_;clear hne iH hO fq hG ni gZ;intro hne hO fq hG)|(go_at_call 161;refine m3z ?_;rintro x w5 ⟨v5,rfl,ni,gZ⟩;have iH:=gZ.ne hne R3.lt;replace R3:=gZ.row R3 hne;refine zE ?_;clear hne iH hO fq hG ni gZ;intro hne hO fq hG)|(go_at_call 161;go_fit (q44 _ _ hO om (by first|(simp only[aY,lZ,nO];omega)) om om);rintro x w5 ⟨v5,rfl,ni,gZ⟩;have iH:=gZ.ne hne R3.lt;replace R3:=gZ.row R3 hne;refine zE ?_;clear hne iH hO fq hG ni gZ;intro hne hO fq hG))
 go_ret
 exact⟨_,rfl,by rw[←HA.out];exact hO,hG⟩
def q64(h:kR w base v l)(hl:0<l.length):(convert 131 9 v).run prog w=.ok (.string (bl l)) w:=by
 rcases h.2 with⟨e,n0⟩|⟨b,cap,cur,hv,fj,hh,y7,hcm,hcs,ht⟩
 .omega
 .subst hv
  refine run_convert_bytes_back (P:=prog) w 131 9 5 ⟨b,0,none⟩ cap l underlying131 underlying5 underlying9 ?_;intro j hj;(have e:(bc l)[j]?=some (.int .u8 (l[j].toNat:Int)):=by simp[bc,hj])
  rw[←ht] at e
  rw[List.getElem?_take_of_lt om] at e
  rw[Addr.add_lit,Nat.zero_add]
  simpa[World.cell?,hh] using e
def q79(h:kR w base v l)(hl:0<l.length):Src prog 1 131 v l.length (bc l) w:=by
 rcases h.2 with⟨e,n0⟩|⟨b,cap,cur,hv,fj,hh,y7,hcm,hcs,ht⟩
 .omega
 .subst hv
  refine Src.ofSlice _ underlying131 ⟨b,0,none⟩ l.length cap (bc l) (by simp[bc]) (fun j u hu=>?_) (XL _)
  rw[Addr.add_lit,Nat.zero_add];(have hj:j<l.length:=by have:=(List.getElem?_eq_some_iff.1 hu).1;simpa[bc] using this)
  rw[←ht] at hu
  rw[List.getElem?_take_of_lt om] at hu
  simpa[World.cell?,hh] using hu
def uv(time seq kind:Int)(l:List UInt8):List UInt8:=be 10 2++be (20+(l.length:Int)) 2++be (time%4294967296) 4++be seq 4++be 1 4++be kind 2++be (4+(l.length:Int)) 2++l
theorem qlj(time seq kind:Int)(l:List UInt8):(uv time seq kind l).length=20+l.length:=by grind [uv,nO]
def EU(n:Int):Bool:=decide (0<=n)&&decide (n<=4294967295)
theorem q2s(h:EU n=true):0<=n/\n<=4294967295:=by grind [EU]
theorem q5u(h:EU n=false):n<0\/4294967295<n:=by grind [EU]
def qx(time seq kind:Int)(l:List UInt8):ByteArray:=if EU seq then bl (uv time seq kind l) else ak
def Gp(seq:Int):Int:=if EU seq then 0 else 2
def jU(time seq kind:Int)(l:List UInt8):ag:=.tuple #[.string (qx time seq kind l),I Z (Gp seq)]
def q4t(time seq kind:Int)(l:List UInt8)(h:EU seq=true):jU time seq kind l=.tuple #[.string (bl (uv time seq kind l)),I Z 0]:=by simp[jU,qx,Gp,h]
def q8h(time seq kind:Int)(l:List UInt8)(h:EU seq=false):jU time seq kind l=.tuple #[.string ak,I Z 2]:=by simp[jU,qx,Gp,h]
def sS(h:p:=by
 go_wp2
 go_ret2
 exact⟨by rw[HS.out];rfl,hB⟩):p:=h
def xL(h:p:=by
 clear h hb
 go_enter func162,ntmps162
 exact sS):p:=h
def qp7(base:Nat)(time seq kind:Int)(w:af)(hv:kR w base v l)(hl0:0<l.length)(hl:l.length<=900000)(Cf:0<=time)(xg:time<=1099511627776)(wG:0<=kind)(qE:kind<=300):
  az ah 162 #[I Z time,I Z seq,I Z kind,v] w fun x w'=>x=.returned (jU time seq kind l)/\aq w.heap.size w w':=by
 rcases hb:EU seq with _|_
 .have HS:aK (jU time seq kind l=_):=q8h _ _ _ _ hb;refine gP ?_;intro hB
  rcases q5u hb with h|h
  ·(have g0:decide (seq<0)=true:=by simpa using h)
   exact xL
  ·(have g0:decide (seq<0)=false:=by simp;omega);(have g1:decide (4294967295<seq)=true:=by simpa using h)
   exact xL
 .have HS:aK (jU time seq kind l=_):=q4t _ _ _ _ hb;obtain⟨q0,q1⟩:=q2s hb;clear hb;(have g0:decide (seq<0)=false:=by simp;omega);(have g1:decide (4294967295<seq)=false:=by simp;omega);(have HM:aK ([]++be 10 2++be (20+(l.length:Int)) 2++be (time%4294967296) 4++be seq 4++be 1 4++be kind 2++be (4+(l.length:Int)) 2++l=uv time seq kind l):=by show _=_;simp[uv])
  obtain⟨sa,sc,rfl⟩:=hv.slice
  have hO:=kR.nil w w.heap.size;have hG:=dC.refl (.slice none 0 0) w;have fq:=au w.heap.size;(have hne:∀k,bA (.slice sa l.length sc)=some k->bA (.slice none 0 0)≠some k:=fun k _=>by simp[bA]);obtain⟨i0,qY,hz0,hz1,hz2⟩:=info_parts UI;(have Fx:0<=time%4294967296/\time%4294967296<4294967296:=by omega)
  go_enter func162,ntmps162
  go_wp2_with (first|(go_at_call 206;go_fit (q0t _ _ Cf xg);rintro x w5 ⟨rfl,hw⟩;rw[hw];clear hw w5)|(go_at_call 161;go_fit (qu5 _ _ hO om (by first|(simp only[aY,lZ,nO];omega)) om om);rintro x w5 ⟨v5,rfl,ni,gZ⟩;have iH:∀k,bA (.slice sa l.length sc)=some k->v5.ownBlock≠some k:=fun k hk=>gZ.ne (hne k hk) (hv.ge k hk).2;replace hv:=gZ.bys hv hne;refine zE ?_;clear hne iH hO fq hG ni gZ;intro hne hO fq hG)|(go_at_call 161;refine m3z ?_;rintro x w5 ⟨v5,rfl,ni,gZ⟩;have iH:∀k,bA (.slice sa l.length sc)=some k->v5.ownBlock≠some k:=fun k hk=>gZ.ne (hne k hk) (hv.ge k hk).2;replace hv:=gZ.bys hv hne;refine zE ?_;clear hne iH hO fq hG ni gZ;intro hne hO fq hG)|(at_builtin;refine UH _ rfl (.tmp 40) (.tmp 41) 131 131 rfl w.heap.size 5 i0 (.int .u8 0) underlying131 qY hz0 hz1 hz2 rfl _ _ _ rfl hO _ l.length (bc l) rfl (q79 hv hl0) (by simp[nO];omega) fq ?_;intro v2 w2 hown hgrow hat;have hO2:=q64 (l:=[]++be 10 2++be (20+(l.length:Int)) 2++be (time%4294967296) 4++be seq 4++be 1 4++be kind 2++be (4+(l.length:Int)) 2++l) (by unfold kR;rw[aY,XJ];exact hown) (by rw[HM.out,qlj];omega);rw[HM.out] at hO2;replace hG:=hG.trans ⟨hgrow,by rcases hat with e|e;exact .inl e;exact .inr ⟨_,e,au _⟩⟩))
  go_ret2
  exact⟨by rw[HS.out];rfl,hG.below (au _) (fun k hk=>by simp[bA] at hk)⟩
def wy:List ag:=[I Z 323,I Z 8,I Z 8,I Z 4,I Z 225,I Z 4,I Z 361,I Z 2,I Z 362,I Z 2,I Z 230,I Z 1]
def jv(w:af):Prop:=w.rangeAt 0 0 wy
def jv.lt(h:jv w):0<w.heap.size:=by
 have:=h 0 _ rfl
 exact dP _ _ this
def jv.keep(h:jv w)(hb:aq B w w')(hB:0<B):jv w':=fun j v hv=>by
 have:=h j v hv
 unfold cS at *
 rw[hb.block _ hB]
 exact this
def jv.below(h:jv w)(hb:aq w.heap.size w w'):jv w':=h.keep hb h.lt
def jv.TQ(h:jv w)(hg:dC v v' w w')(hv:v.ownBlock≠some 0):jv w':=fun j x hx=>by
 have:=h j x hx
 unfold cS at *
 (rw[hg.ii.block _ h.lt (fun e=>hv e.symm)])
 exact this
def qsf(x:aU)(ho:o.op=.load 187 x)(hw:bj o (dy ops a.tmps)=true)(hx:a.eval x=V (some ⟨0,0,none⟩))(h:jv w)(hr:aM ah ops Q rest (a.put o.dst (.agg wy.toArray)) w):aM ah ops Q (o::rest) a w:=
 gV fun K hK=>by
  rw[aZ hw]
  exact wp_load_mid 187 x ho 0 0 hx wy _ h underlying187 rfl kr (hK _ _ hr)
def DM(h:p:=by
 rw[aZ hw]
 unfold Oper.wp execOp
 simp only[ho,hx,hy,Sem.run_bind,hrun,Result.andThen_ok,Sem.run_pure]
 exact hK _ _ hr):p:=h
def PI(x y:aU)(ho:o.op=.index 187 x y)(hw:bj o (dy ops a.tmps)=true)(i q:ag)(hx:a.eval x=.agg wy.toArray)(hy:a.eval y=i)(hrun:(Instr.index 187 (.agg wy.toArray) i).run ah w=.ok q w)(hr:aM ah ops Q rest (a.put o.dst q) w):aM ah ops Q (o::rest) a w:=
 gV fun K hK=>by
  exact DM
def qJ(j:Nat):List Int:=([323,8,8,4,225,4,361,2,362,2,230,1]:List Int).take (2*j)
def eA(j:Nat):List UInt8:=be 300 2++be 6 2++(qJ j).flatMap (fun n=>be n 2)
def PJ(j:Nat):(eA j).length<=28:=by
 unfold eA qJ
 rcases(show j=0\/j=1\/j=2\/j=3\/j=4\/j=5\/6<=j by omega) with rfl|rfl|rfl|rfl|rfl|rfl|h
 all_goals first|(simp[nO];done)|(rw[fC (by simp;omega)];simp[nO])
theorem qqi:(eA 6).length=28:=by simp[eA,qJ,nO]
theorem vr:be 300 2++be 6 2=eA 0:=by simp[eA,qJ]
def qhX:eA 0++be 323 2++be 8 2=eA 1:=by simp[eA,qJ]
def q99:eA 1++be 8 2++be 4 2=eA 2:=by simp[eA,qJ]
def qhY:eA 2++be 225 2++be 4 2=eA 3:=by simp[eA,qJ]
def q92:eA 3++be 361 2++be 2 2=eA 4:=by simp[eA,qJ]
def qhZ:eA 4++be 362 2++be 2 2=eA 5:=by simp[eA,qJ]
def q9o:eA 5++be 230 2++be 1 2=eA 6:=by simp[eA,qJ]
def qu3(seq:Int)(w:af)(hT:jv w):
  az ah 99 #[I Z seq] w fun x w'=>x=.returned (jU 0 seq 2 (eA 6))/\aq w.heap.size w w':=by
 have hO:=kR.nil w w.heap.size;have hG:=dC.refl (.slice none 0 0) w;have fq:=au w.heap.size;(have H0:aK ([]++be 300 2++be 6 2=eA 0):=by show _=_;rw[←vr];rfl);(have hB:∀ {v':ag} {w':af},dC (.slice none 0 0) v' w w'->aq w.heap.size w w':=fun h=>h.below (au _) (fun k hk=>by simp[bA] at hk))
 go_enter func99,ntmps99
 go_wp2_with (first|(go_at_call 161;refine m3z ?_;rintro x w5 ⟨v5,rfl,ni,gZ⟩;replace hO:=ni;replace fq:=aw fq gZ.ii.size;replace hG:=hG.trans gZ;clear ni gZ)|((with_reducible refine mQ (.load 187 (.global 0)) rfl ?_);refine qsf _ rfl rfl rfl (hT.keep (hB hG) hT.lt) ?_))
 rw[H0.out] at hO
 go_loopw [4,11] (fun b i W=>∃j:Nat,j<=6/\i=I Z (j:Int)/\kR W w.heap.size b (eA j)/\dC (.slice none 0 0) b w W) (fun _ i _=>6-(cY i).toNat)
 case atStart=>exact⟨0,by omega,rfl,hO,hG⟩
 case round=>
  clear hO hG fq
  obtain⟨j,hj,rfl,hO,hG⟩:=hrel
  (have fq:=hG.ii.size);have qhj:=fq
  by_cases hlt:j<6
  .rcases(show j=0\/j=1\/j=2\/j=3\/j=4\/j=5 by omega) with rfl|rfl|rfl|rfl|rfl|rfl
   .have HN:aK (eA 0++be 323 2++be 8 2=eA 1):=qhX;have hlen:=PJ 0
    go_wp2_with (first|(refine gA 186 ?_;refine I5 6 186 rfl rfl rfl #[I Z 0,I Z 0] (fun w=>by kernel_rfl) ?_;intro b6 w2 l6 R6 hb2;refine Po ?_;clear hO fq hG;intro hne hO fq hG)|((with_reducible refine mQ (.index 187 (.tmp 10) (.tmp 11)) rfl ?_);refine PI (.tmp 10) (.tmp 11) rfl rfl _ (.agg #[I Z 323,I Z 8]) rfl rfl kr ?_)|(refine gS 186 6 13 ?_;refine sx #[I Z 323,I Z 8] R6 ?_;refine Pn ?_;clear hO hG fq;intro w3 R6 t3 hO hG fq)|(refine gL 3 15 ?_;refine fx R6 _ ?_)|(refine gL 3 19 ?_;refine fx R6 _ ?_)|(go_at_call 161;refine Pm ?_;rintro x w5 ⟨v5,rfl,ni,gZ⟩;have iH:=gZ.ne hne R6.lt;replace R6:=gZ.row R6 hne;refine zE ?_;clear hne iH hO fq hG ni gZ;intro hne hO fq hG))
    go_roundw
    case rel=>exact⟨1,by omega,rfl,by rw[←HN.out];exact hO,hG⟩
    case measure=>simp[cY]
   .have HN:aK (eA 1++be 8 2++be 4 2=eA 2):=q99;have hlen:=PJ 1
    go_wp2_with (first|(refine gA 186 ?_;refine I5 6 186 rfl rfl rfl #[I Z 0,I Z 0] (fun w=>by kernel_rfl) ?_;intro b6 w2 l6 R6 hb2;refine Po ?_;clear hO fq hG;intro hne hO fq hG)|((with_reducible refine mQ (.index 187 (.tmp 10) (.tmp 11)) rfl ?_);refine PI (.tmp 10) (.tmp 11) rfl rfl _ (.agg #[I Z 8,I Z 4]) rfl rfl kr ?_)|(refine gS 186 6 13 ?_;refine sx #[I Z 8,I Z 4] R6 ?_;refine Pn ?_;clear hO hG fq;intro w3 R6 t3 hO hG fq)|(refine gL 3 15 ?_;refine fx R6 _ ?_)|(refine gL 3 19 ?_;refine fx R6 _ ?_)|(go_at_call 161;refine Pm ?_;rintro x w5 ⟨v5,rfl,ni,gZ⟩;have iH:=gZ.ne hne R6.lt;replace R6:=gZ.row R6 hne;refine zE ?_;clear hne iH hO fq hG ni gZ;intro hne hO fq hG))
    go_roundw
    case rel=>exact⟨2,by omega,rfl,by rw[←HN.out];exact hO,hG⟩
    case measure=>simp[cY]
   .have HN:aK (eA 2++be 225 2++be 4 2=eA 3):=qhY;have hlen:=PJ 2
    go_wp2_with (first|(refine gA 186 ?_;refine I5 6 186 rfl rfl rfl #[I Z 0,I Z 0] (fun w=>by kernel_rfl) ?_;intro b6 w2 l6 R6 hb2;refine Po ?_;clear hO fq hG;intro hne hO fq hG)|((with_reducible refine mQ (.index 187 (.tmp 10) (.tmp 11)) rfl ?_);refine PI (.tmp 10) (.tmp 11) rfl rfl _ (.agg #[I Z 225,I Z 4]) rfl rfl kr ?_)|(refine gS 186 6 13 ?_;refine sx #[I Z 225,I Z 4] R6 ?_;refine Pn ?_;clear hO hG fq;intro w3 R6 t3 hO hG fq)|(refine gL 3 15 ?_;refine fx R6 _ ?_)|(refine gL 3 19 ?_;refine fx R6 _ ?_)|(go_at_call 161;refine Pm ?_;rintro x w5 ⟨v5,rfl,ni,gZ⟩;have iH:=gZ.ne hne R6.lt;replace R6:=gZ.row R6 hne;refine zE ?_;clear hne iH hO fq hG ni gZ;intro hne hO fq hG))
    go_roundw
    case rel=>exact⟨3,by omega,rfl,by rw[←HN.out];exact hO,hG⟩
    case measure=>simp[cY]
   .have HN:aK (eA 3++be 361 2++be 2 2=eA 4):=q92;have hlen:=PJ 3
    go_wp2_with (first|(refine gA 186 ?_;refine I5 6 186 rfl rfl rfl #[I Z 0,I Z 0] (fun w=>by kernel_rfl) ?_;intro b6 w2 l6 R6 hb2;refine Po ?_;clear hO fq hG;intro hne hO fq hG)|((with_reducible refine mQ (.index 187 (.tmp 10) (.tmp 11)) rfl ?_);refine PI (.tmp 10) (.tmp 11) rfl rfl _ (.agg #[I Z 361,I Z 2]) rfl rfl kr ?_)|(refine gS 186 6 13 ?_;refine sx #[I Z 361,I Z 2] R6 ?_;refine Pn ?_;clear hO hG fq;intro w3 R6 t3 hO hG fq)|(refine gL 3 15 ?_;refine fx R6 _ ?_)|(refine gL 3 19 ?_;refine fx R6 _ ?_)|(go_at_call 161;refine Pm ?_;rintro x w5 ⟨v5,rfl,ni,gZ⟩;have iH:=gZ.ne hne R6.lt;replace R6:=gZ.row R6 hne;refine zE ?_;clear hne iH hO fq hG ni gZ;intro hne hO fq hG))
    go_roundw
    case rel=>exact⟨4,by omega,rfl,by rw[←HN.out];exact hO,hG⟩
    case measure=>simp[cY]
   .have HN:aK (eA 4++be 362 2++be 2 2=eA 5):=qhZ;have hlen:=PJ 4
    go_wp2_with (first|(refine gA 186 ?_;refine I5 6 186 rfl rfl rfl #[I Z 0,I Z 0] (fun w=>by kernel_rfl) ?_;intro b6 w2 l6 R6 hb2;refine Po ?_;clear hO fq hG;intro hne hO fq hG)|((with_reducible refine mQ (.index 187 (.tmp 10) (.tmp 11)) rfl ?_);refine PI (.tmp 10) (.tmp 11) rfl rfl _ (.agg #[I Z 362,I Z 2]) rfl rfl kr ?_)|(refine gS 186 6 13 ?_;refine sx #[I Z 362,I Z 2] R6 ?_;refine Pn ?_;clear hO hG fq;intro w3 R6 t3 hO hG fq)|(refine gL 3 15 ?_;refine fx R6 _ ?_)|(refine gL 3 19 ?_;refine fx R6 _ ?_)|(go_at_call 161;refine Pm ?_;rintro x w5 ⟨v5,rfl,ni,gZ⟩;have iH:=gZ.ne hne R6.lt;replace R6:=gZ.row R6 hne;refine zE ?_;clear hne iH hO fq hG ni gZ;intro hne hO fq hG))
    go_roundw
    case rel=>exact⟨5,by omega,rfl,by rw[←HN.out];exact hO,hG⟩
    case measure=>simp[cY]
   .have HN:aK (eA 5++be 230 2++be 1 2=eA 6):=q9o;have hlen:=PJ 5
    go_wp2_with (first|(refine gA 186 ?_;refine I5 6 186 rfl rfl rfl #[I Z 0,I Z 0] (fun w=>by kernel_rfl) ?_;intro b6 w2 l6 R6 hb2;refine Po ?_;clear hO fq hG;intro hne hO fq hG)|((with_reducible refine mQ (.index 187 (.tmp 10) (.tmp 11)) rfl ?_);refine PI (.tmp 10) (.tmp 11) rfl rfl _ (.agg #[I Z 230,I Z 1]) rfl rfl kr ?_)|(refine gS 186 6 13 ?_;refine sx #[I Z 230,I Z 1] R6 ?_;refine Pn ?_;clear hO hG fq;intro w3 R6 t3 hO hG fq)|(refine gL 3 15 ?_;refine fx R6 _ ?_)|(refine gL 3 19 ?_;refine fx R6 _ ?_)|(go_at_call 161;refine Pm ?_;rintro x w5 ⟨v5,rfl,ni,gZ⟩;have iH:=gZ.ne hne R6.lt;replace R6:=gZ.row R6 hne;refine zE ?_;clear hne iH hO fq hG ni gZ;intro hne hO fq hG))
    go_roundw
    case rel=>exact⟨6,by omega,rfl,by rw[←HN.out];exact hO,hG⟩
    case measure=>simp[cY]
  .obtain rfl:j=6:=by omega
   have hl6:=qqi
   go_wp2_with (go_at_call 162;go_fit (qp7 w.heap.size 0 seq 2 _ hO om om om om om om);rintro x w5 ⟨rfl,bh⟩;unfold jU)
   go_ret2
   exact⟨rfl,(hB hG).trans (bh.mono fq)⟩
def q93 : ah.globalNamed "rentroll/record.parts" = some 0 := by kernel_rfl
def qym:(ah.globals[0]?).map (·.type)=some 187:=by kernel_rfl
def PK{H:Type}{enc:bt×ag->H}{sp:Nat->Bool}{held:Bool}{fuel:Nat}{c d:ag}{x:DataW H×List MemPlace}(Tm:DataW.trod enc ah w base sp held fuel 186 [c,d]=some x):∃a b:Int,c=.int .i64 a/\d=.int .i64 b/\x.1=.agg [.lit (.int .i64 a),.lit (.int .i64 b)]:=by
 (have cI:ah.cellsOf 3=1:=by kernel_rfl)
 obtain⟨ys,m,_,hx,_,hl,hf⟩:=DataW.trod_struct underlying186 Tm
 match ys,hl with
 | [y0,y1],_=>
 have hv0:=hf 0 _ rfl;have Ei:=hf 1 _ rfl
 simp[cI] at hv0 Ei
 obtain⟨x0,e0,rfl,s0⟩:=DataW.trod_int underlying3 hv0
 obtain⟨x1,e1,rfl,s1⟩:=DataW.trod_int underlying3 Ei
 simp at e0 e1
 subst e0 e1
 exact⟨x0,x1,rfl,rfl,by rw[hx];simp⟩
def qm9{W : af}(h : laidMetH ah [("rentroll/record.parts", Rows.laid_rentroll_record_parts)] W): jv W := by
 rw[MakeChecks.laidMetH_plain _ _ _ kr] at h
 obtain⟨ps,⟨g,t,cs,fuel,p,q,hg,ht,hv,hd,_⟩,_⟩:=h
 obtain rfl:=Option.some.inj (q93.symm.trans hg)
 obtain rfl:=Option.some.inj (qym.symm.trans ht)
 (have cT:ah.cellsOf 187=12:=by kernel_rfl);(have cP:ah.cellsOf 186=2:=by kernel_rfl);obtain⟨xs,m,hfu,hx,hlen,hn,yT⟩:=DataW.trod_array underlying187 hd;(have hvc:=fun k=>World.var?_cell hg hv k);obtain⟨l⟩:=cs;(have qik:l.length=12:=by first|simpa[cT,cP] using hlen|simpa[cT] using hlen)
 match l,qik with
 | [c0,c1,c2,c3,c4,c5,c6,c7,c8,c9,c10,c11],_=>
 match xs,hn with
 | [x0,x1,x2,x3,x4,x5],_=>
 have h0:=yT 0 om;have h1:=yT 1 om;have h2:=yT 2 om;have h3:=yT 3 om;have h4:=yT 4 om;have h5:=yT 5 om
 simp[cP] at h0 h1 h2 h3 h4 h5
 obtain⟨a0,b0,rfl,rfl,e0⟩:=PK h0
 obtain⟨a1,b1,rfl,rfl,e1⟩:=PK h1
 obtain⟨a2,b2,rfl,rfl,e2⟩:=PK h2
 obtain⟨a3,b3,rfl,rfl,e3⟩:=PK h3
 obtain⟨a4,b4,rfl,rfl,e4⟩:=PK h4
 obtain⟨a5,b5,rfl,rfl,e5⟩:=PK h5
 have Oa:=congrArg Prod.fst hx
 simp[Rows.laid_rentroll_record_parts,e0,e1,e2,e3,e4,e5] at Oa
 obtain⟨⟨rfl,rfl⟩,⟨rfl,rfl⟩,⟨rfl,rfl⟩,⟨rfl,rfl⟩,⟨rfl,rfl⟩,rfl,rfl⟩:=Oa
 intro j v hj
 have:=hvc j
 rw[bX];rw[this]
 simpa[wy] using hj
def N7(P:Program)(os:Os):af:=
 { World.holding P os ⟨#[],#[],[]⟩ with heap:=(World.holding P os ⟨#[],#[],[]⟩).heap.modify 0 fun
   | .cells _ t frozen=>.cells wy.toArray t frozen
   | o=>o }
def eb:ag->Nat
 | .slice (some a) _ _=>a.block
 | _=>0
def eo:ag->Nat
 | .slice (some a) _ _=>a.off
 | _=>0
def fX(w:af)(sl:ag)(es:List Ev):Prop:=
 ∃a cap,sl=.slice a es.length cap/\(0<es.length->a=some ⟨eb sl,eo sl,none⟩)/\(∀j (hj:j<es.length),w.rangeAt (eb sl) (eo sl+5*j) (nh es[j]))/\es.length<=3518437208780
def fX.lt{sl:ag}{es:List Ev}(h:fX w sl es)(hl:0<es.length):eb sl<w.heap.size:=by
 obtain⟨a,cap,e,h1,h2,h3⟩:=h
 have:=h2 0 hl 0 _ rfl
 exact dP _ _ this
def fX.keep{sl:ag}{es:List Ev}(h:fX w sl es)(hb:aq B w w')(hlt:0<es.length->eb sl<B):fX w' sl es:=by
 obtain⟨a,cap,e,h1,h2,h3⟩:=h
 refine⟨a,cap,e,h1,fun j hj i v hv=>?_,h3⟩
 have:=h2 j hj i v hv
 unfold cS at *
 rw[hb.block _ (hlt om)]
 exact this
def fX.below{sl:ag}{es:List Ev}(h:fX w sl es)(hb:aq w.heap.size w w'):fX w' sl es:=h.keep hb h.lt
theorem fX.len{sl:ag}{es:List Ev}(h:fX w sl es):es.length<=3518437208780:=by grind [fX]
theorem fX.at{sl:ag}{es:List Ev}(h:fX w sl es)(j:Nat)(hj:j<es.length){e:Ev}(he:es[j]=e):w.rangeAt (eb sl) (eo sl+5*j) (nh e):=by grind [fX,nh]
theorem fX.slice{sl:ag}{es:List Ev}(h:fX w sl es):∃a cap,sl=.slice a es.length cap:=by grind [fX]
def q8g{n:Nat}(h:j<n)(hn:n<=3518437208780):bK ((j:Int)+1)=(j:Int)+1:=by unfold bK;omega
def q8s{n:Nat}(h:j<n):n-((j:Int)+1).toNat<n-((j:Int)).toNat:=by omega
def fX.index{sl:ag}{es:List Ev}(h:fX w sl es)(j:Nat)(hj:j<es.length)(w2:af):(Instr.indexAt 96 sl (I Z (j:Int))).run ah w2=.ok (V (some ⟨eb sl,eo sl+5*j,none⟩)) w2:=by
 obtain⟨a0,cap,e,h1,h2,h3⟩:=h;have e1:=h1 om
 generalize eb sl=B at *
 generalize eo sl=O at *
 subst e1
 subst e
 (have hn:((j:Int)).toNat<es.length:=by simpa using hj);(have iu:(j:Int)<(es.length:Int):=by omega);(have hs:(sizeOf 100).run ah w2=.ok 5 w2:=by kernel_rfl)
 simp[go_sem,hj,hn,iu,underlying96,hs]
def WD(t:bt)(x y:aU)(ho:o.op=.indexAddr t x y)(hw:bj o (dy ops a.tmps)=true)(p i q:ag)(hx:a.eval x=p)(hy:a.eval y=i)(hrun:(Instr.indexAt t p i).run ah w=.ok q w)(hr:aM ah ops Q rest (a.put o.dst q) w):aM ah ops Q (o::rest) a w:=
 gV fun K hK=>by
  exact DM
def Xc(t:bt)(x y:aU)(ho:o.op=.indexAddr t x y)(hw:bj o (dy ops a.tmps)=true)(p i q:ag)(hx:a.eval x=p)(hy:a.eval y=i)(hrun:∀w:af,(Instr.indexAt t p i).run ah w=.ok q w):YieldsIf ah ops S o q a:=
 .inl ⟨hw,fun w _=>by unfold bG;simp only[ho,hx,hy,Sem.run_bind,hrun w,Result.andThen_ok,Sem.run_pure]⟩
def tJ(x:aU)(ho:o.op=.load 3 x)(hw:bj o (dy ops a.tmps)=true)(b f:Nat)(hx:a.eval x=V (some ⟨b,f,none⟩))(n:Int)(hS:∀w,S w->w.cell? ⟨b,f,none⟩=some (I Z n)):YieldsIf ah ops S o (I Z n) a:=
 .inl ⟨hw,fun w h=>by
  have hcell:=hS w h
  unfold bG
  simp only[ho,hx]
  simp[go_sem,hcell,underlying3]⟩
def PL(x:aU)(ho:o.op=.load 100 x)(hw:bj o (dy ops a.tmps)=true)(b f:Nat)(hx:a.eval x=V (some ⟨b,f,none⟩))(e:Ev)(h:w.rangeAt b f (nh e))(hr:aM ah ops Q rest (a.put o.dst (.agg (ec e))) w):aM ah ops Q (o::rest) a w:=
 gV fun K hK=>by
  rw[aZ hw]
  exact wp_load_mid 100 x ho b f hx (nh e) _ h underlying100 rfl (q5j e) (hK _ _ hr)
def z0:Nat->Int:=fun _=>0
def qmk(h:Below w.drew.heap.size w.drew w'):Below w.heap.size w w':=⟨h.os,h.tape,h.output,h.size,h.block⟩
def mn(es:List Ev):List UInt8:=es.flatMap vR
theorem WB(es:List Ev):(mn es).length=21*es.length:=by
 induction es with
 | nil=>rfl
 | cons e r ih=>unfold mn at *;rw[List.flatMap_cons,aY,ih,q80,List.length_cons];omega
def q23{es:List Ev}(h:j<es.length){e:Ev}(he:es[j]=e):mn (es.take (j+1))=mn (es.take j)++vR e:=by
 unfold mn;rw[List.take_succ_eq_append_getElem h,List.flatMap_append,he];simp
def ki:List Ev->Int
 | []=>0
 | e::_=>e.t
theorem q58{es:List Ev}(h:0<es.length):es[0].t=ki es:=by cases es with
 | nil=>simp at h
 | cons e r=>rfl
def yU(es:List Ev):Prop:=∀e∈es,pu e/\e.t=ki es
def yU.dec(es:List Ev):Decidable (yU es):=by unfold yU;have:=pu.dec;exact inferInstance
def DN(seq:Int)(es:List Ev):Int:=if es.length=0 then 7 else if 64<es.length then 6 else @ite Int (yU es) (yU.dec es) (Gp seq) 2
def qy(seq:Int)(es:List Ev):ByteArray:=if es.length=0 then ak else if 64<es.length then ak else @ite ByteArray (yU es) (yU.dec es) (qx (ki es) seq 300 (mn es)) ak
def jy(seq:Int)(es:List Ev):ag:=.tuple #[.string (qy seq es),I Z (DN seq es)]
theorem uH{es:List Ev}(h:es.length=0):jy seq es=.tuple #[.string ak,I Z 7]:=by simp only[jy,qy,DN,aZ h]
theorem uI{es:List Ev}(h:64<es.length):jy seq es=.tuple #[.string ak,I Z 6]:=by
 (have a:¬es.length=0:=by omega)
 simp only[jy,qy,DN,aT a,aZ h]
def Xd{es:List Ev}(h0:0<es.length)(h1:es.length<=64)(h:¬yU es):jy seq es=.tuple #[.string ak,I Z 2]:=by
 (have a:¬es.length=0:=by omega);(have b:¬64<es.length:=by omega)
 simp only[jy,qy,DN,aT a,aT b,aT h]
def q8j{es:List Ev}(h0:0<es.length)(h1:es.length<=64)(h:yU es):jy seq es=jU (ki es) seq 300 (mn es):=by
 (have a:¬es.length=0:=by omega);(have b:¬64<es.length:=by omega)
 simp only[jy,qy,DN,jU,aT a,aT b,aZ h]
def sD(es:List Ev)(j:Nat):Prop:=∀i (h:i<es.length),i<j->pu es[i]/\es[i].t=ki es
def q2g(es:List Ev):sD es 0:=fun i _ h=>absurd h (Nat.not_lt_zero i)
theorem vt{es:List Ev}(h:sD es j)(hj:j<es.length){e:Ev}(he:es[j]=e)(hk:pu e)(ht:e.t=ki es):sD es (j+1):=by grind [sD,pu,ki]
theorem q6a{es:List Ev}(h:sD es j)(hj:es.length<=j):yU es:=by grind [sD,yU,List.mem_iff_getElem]
theorem Xe{es:List Ev}(hj:j<es.length){e:Ev}(he:es[j]=e)(h:¬(pu e/\e.t=ki es)):¬yU es:=by grind [pu,ki,yU]
def fX.DO{sl:ag}{es:List Ev}(h:fX w sl es)(hl:0<es.length)(w2:af):(Instr.indexAt 96 sl (I Z 0)).run ah w2=.ok (V (some ⟨eb sl,eo sl,none⟩)) w2:=h.index 0 hl w2
theorem fX.IB{sl:ag}{es:List Ev}(h:fX w sl es)(hl:0<es.length):w.cell? ⟨eb sl,eo sl,none⟩=some (I Z (ki es)):=by
 have:=h.at 0 hl rfl 0 _ rfl
 grind [q58,fX,ki]
def qhi(h:w.cell? ⟨b,f,none⟩=some v)(hb:Below w.heap.size w w'):w'.cell? ⟨b,f,none⟩=some v:=by
 have hl:b<w.heap.size:=World.block_lt_of_cell? _ _ h
 unfold World.cell? at *
 rw[hb.block _ hl]
 exact h
def qnq{c:Nat}(h:w.cell? ⟨b,f,none⟩=some v)(t:gG c w w')(hlt:b<c):w'.cell? ⟨b,f,none⟩=some v:=by
 unfold cS at *
 rw[t.other b om]
 exact h
def qvf(x:aU)(ho:o.op=.load 3 x)(hw:bj o (dy ops a.tmps)=true)(b f:Nat)(hx:a.eval x=V (some ⟨b,f,none⟩))(n:Int)(hcell:w.cell? ⟨b,f,none⟩=some (I Z n))(hr:aM ah ops Q rest (a.put o.dst (I Z n)) w):aM ah ops Q (o::rest) a w:=
 gV fun K hK=>by
  rw[aZ hw]
  unfold Oper.wp bG
  simp only[ho,hx]
  simp[go_sem,hcell,underlying3]
  exact hK _ _ hr
def DR(h:p:=by
 simp only[ZZ];refine tq 11 (.bool true) rfl ⟨R8,c0⟩ ?_;refine oM ?_
 exact sS):p:=h
def qwm(seq:Int)(sl:ag)(es:List Ev)(w:af)(hM:fX w sl es):az ah 100 #[I Z seq,sl] w fun x w'=>x=.returned (jy seq es)/\aq w.heap.size w w':=by
 refine gP ?_;intro hB;obtain⟨a0,cap,dB⟩:=hM.slice
 obtain⟨n,hn⟩:∃n,n=es.length:=⟨_,rfl⟩
 rw[←hn] at dB
 subst dB
 have HN:aK (n=es.length):=hn;have hlt:=hM.lt
 by_cases h0:n=0
 .have HS:aK (jy seq es=_):=uH om
  subst h0
  clear hn
  go_enter func100,ntmps100
  exact sS
 (have GM:((n:Int)==0)=false:=by simp;omega)
 by_cases Ha:64<n
 .have HS:aK (jy seq es=_):=uI om;(have NR:decide ((64:Int)<(n:Int))=true:=by simp;omega);clear hn h0 Ha
  go_enter func100,ntmps100
  exact sS
 (have NR:decide ((64:Int)<(n:Int))=false:=by simp;omega);(have hl0:0<es.length:=by omega);(have pR:es.length<=64:=by omega);(have I0:=fun w2=>hM.DO hl0 w2);clear hn h0 Ha;have hO:=kR.nil w w.heap.size;have hG:=dC.refl (.slice none 0 0) w;(have Pq:∀ {v':ag} {w':af},dC (.slice none 0 0) v' w w'->aq w.heap.size w w':=fun h=>h.below (au _) (fun k hk=>by simp[bA] at hk))
 go_enter func100,ntmps100
 go_wp2
 go_loopw [6,19] (fun v i W=>∃j:Nat,j<=es.length/\i=I Z (j:Int)/\kR W w.heap.size v (mn (es.take j))/\dC (.slice none 0 0) v w W/\sD es j) (fun _ i _=>n-(cY i).toNat)
 case atStart=>exact⟨0,by omega,rfl,hO,hG,q2g es⟩
 case round=>
  clear hO hG hB
  obtain⟨j,hj,rfl,hO,hG,iZ⟩:=hrel
  have hB:=Pq hG;have c0:cS _ ⟨eb (.slice a0 n cap),eo (.slice a0 n cap),none⟩=some (I Z (ki es)):=(hM.keep hB hlt).IB hl0;have hBl:=hlt hl0
  by_cases cz:j<es.length
  ·(have mA:(j:Int)<(n:Int):=by have:=HN.out;omega);have fU:=q8g cz hM.len
   obtain⟨e,he⟩:∃e,es[j]=e:=⟨_,rfl⟩
   have iv:=hM.keep hB hlt;have hrg:=iv.at j cz he;(have IR:=fun w2=>hM.index j cz w2)
   by_cases hk:pu e
   ·(have CG:∀w,az ah 163 #[.agg (ec e)] w fun x w'=>x=.returned (I Z 0)/\aq w.heap.size w w':=fun w=>by have:=qro e w;rw[W8 hk] at this;exact this)
    by_cases ht:e.t=ki es
    .refine m3w ?_;intro Gb HK HB zj;clear ht he
     go_upto_region 9 with(first|((with_reducible refine mQ (.indexAddr 96 (.tmp 17) (.tmp 19)) rfl ?_);refine m58 ?_)|(refine gL 100 21 ?_;refine PL (.tmp 21) rfl rfl _ _ rfl e hrg ?_)|(refine gA 100 ?_;refine m3l ?_;clear c0 hO hG hB hrg iv;intro b8 w3 R8 hb3 hne l8 c0 hO hG hB)|(refine gS 100 8 22 ?_;refine m2z ?_;clear c0 hO hG hB;intro w4 R8 t4 c0 hO hG hB))
     refine RD (fun W=>aP 100 W b8 (ec e)/\W.cell? ⟨eb (.slice a0 n cap),eo (.slice a0 n cap),none⟩=some (I Z (ki es))) ⟨R8,c0⟩ (fun _=>?_)
     refine tk 0 (.agg (ec e)) rfl (rA 100 (.tmp 8) rfl kr b8 kr (ec e) (fun w h=>h.1) _ underlying100 rfl (zG e)) ⟨R8,c0⟩ ?_
     refine E2 ?_
     refine AC (fun K hK=>?_) AZ
     go_simp;go_at_call 163;refine Pp ?_;clear R8 c0;intro w5 bh R8 c0;replace hO:=hO.below bh;replace hG:=hG.trans (dC.gh bh);replace hB:=Pq hG
     go_wp2_with fail
     refine hK.out _ _ ⟨R8,c0⟩ (fun _=>?_)
     clear hK K;refine Wv ?_
     refine tk 5 (I Z e.t) rfl (tJ (.tmp 27) rfl kr b8 0 kr e.t (fun w h=>(h.1.cell 0).trans rfl)) ⟨R8,c0⟩ (tq 6 (.slice a0 n cap) rfl ⟨R8,c0⟩ (tk 7 (V (some ⟨eb (.slice a0 n cap),eo (.slice a0 n cap),none⟩)) rfl (Xc 96 (.tmp 29) (.const (I Z 0)) rfl kr _ _ _ kr kr I0) ⟨R8,c0⟩ ?_))
     simp only[ZZ]
     refine tq 8 (V (some ⟨eb (.slice a0 n cap),eo (.slice a0 n cap),none⟩)) rfl ⟨R8,c0⟩ (tk 9 (I Z (ki es)) rfl (tJ (.tmp 31) rfl kr (eb (.slice a0 n cap)) (eo (.slice a0 n cap)) kr (ki es) (fun w h=>h.2)) ⟨R8,c0⟩ (tk 10 (.bool false) rfl (UR 3 (.tmp 28) (.tmp 32) e.t (ki es) false rfl kr kr kr Gb) ⟨R8,c0⟩ ?_))
     simp only[ZZ];refine tq 11 (.bool false) rfl ⟨R8,c0⟩ ?_;refine oM ?_
     go_wp2_with (first|(refine gL 100 8 ?_;refine qf 100 (.tmp 8) rfl rfl b8 rfl (ec e) R8 _ underlying100 rfl (zG e) ?_)|(go_at_call 164;go_fit (qvw e _ hO hB.size om hk);rintro x w5 ⟨v5,rfl,ni,gZ⟩;replace hO:=ni;replace hG:=hG.trans gZ;clear ni gZ))
     go_roundw
     case rel=>first|exact⟨j+1,by omega,by go_num,by rw[HB.out];exact hO,hG,HK.out⟩ 
     case measure=>exact q8s (HN.out.symm▸cz)
    ·(have Gb:(e.t != ki es)=true:=by simpa using ht);have HS:aK (jy seq es=_):=Xd hl0 pR (Xe cz he (fun h=>ht h.2));clear ht he
     go_upto_region 9 with(first|((with_reducible refine mQ (.indexAddr 96 (.tmp 17) (.tmp 19)) rfl ?_);refine m58 ?_)|(refine gL 100 21 ?_;refine PL (.tmp 21) rfl rfl _ _ rfl e hrg ?_)|(refine gA 100 ?_;refine m3l ?_;clear c0 hO hG hB hrg iv;intro b8 w3 R8 hb3 hne l8 c0 hO hG hB)|(refine gS 100 8 22 ?_;refine m2z ?_;clear c0 hO hG hB;intro w4 R8 t4 c0 hO hG hB))
     refine RD (fun W=>aP 100 W b8 (ec e)/\W.cell? ⟨eb (.slice a0 n cap),eo (.slice a0 n cap),none⟩=some (I Z (ki es))) ⟨R8,c0⟩ (fun _=>?_)
     refine tk 0 (.agg (ec e)) rfl (rA 100 (.tmp 8) rfl kr b8 kr (ec e) (fun w h=>h.1) _ underlying100 rfl (zG e)) ⟨R8,c0⟩ ?_
     refine E2 ?_
     refine AC (fun K hK=>?_) AZ
     go_simp;go_at_call 163;refine Pp ?_;clear R8 c0;intro w5 bh R8 c0;replace hO:=hO.below bh;replace hG:=hG.trans (dC.gh bh);replace hB:=Pq hG
     go_wp2_with fail
     refine hK.out _ _ ⟨R8,c0⟩ (fun _=>?_)
     clear hK K;refine Wv ?_
     refine tk 5 (I Z e.t) rfl (tJ (.tmp 27) rfl kr b8 0 kr e.t (fun w h=>(h.1.cell 0).trans rfl)) ⟨R8,c0⟩ (tq 6 (.slice a0 n cap) rfl ⟨R8,c0⟩ (tk 7 (V (some ⟨eb (.slice a0 n cap),eo (.slice a0 n cap),none⟩)) rfl (Xc 96 (.tmp 29) (.const (I Z 0)) rfl kr _ _ _ kr kr I0) ⟨R8,c0⟩ ?_))
     simp only[ZZ]
     refine tq 8 (V (some ⟨eb (.slice a0 n cap),eo (.slice a0 n cap),none⟩)) rfl ⟨R8,c0⟩ (tk 9 (I Z (ki es)) rfl (tJ (.tmp 31) rfl kr (eb (.slice a0 n cap)) (eo (.slice a0 n cap)) kr (ki es) (fun w h=>h.2)) ⟨R8,c0⟩ (tk 10 (.bool true) rfl (UR 3 (.tmp 28) (.tmp 32) e.t (ki es) true rfl kr kr kr Gb) ⟨R8,c0⟩ ?_))
     exact DR
   ·(have CG:∀w,az ah 163 #[.agg (ec e)] w fun x w'=>x=.returned (I Z 2)/\aq w.heap.size w w':=fun w=>by have:=qro e w;rw[Nl hk] at this;exact this);have HS:aK (jy seq es=_):=Xd hl0 pR (Xe cz he (fun h=>hk h.1));clear hk he
    go_upto_region 9 with(first|((with_reducible refine mQ (.indexAddr 96 (.tmp 17) (.tmp 19)) rfl ?_);refine m58 ?_)|(refine gL 100 21 ?_;refine PL (.tmp 21) rfl rfl _ _ rfl e hrg ?_)|(refine gA 100 ?_;refine m3l ?_;clear c0 hO hG hB hrg iv;intro b8 w3 R8 hb3 hne l8 c0 hO hG hB)|(refine gS 100 8 22 ?_;refine m2z ?_;clear c0 hO hG hB;intro w4 R8 t4 c0 hO hG hB))
    refine RD (fun W=>aP 100 W b8 (ec e)/\W.cell? ⟨eb (.slice a0 n cap),eo (.slice a0 n cap),none⟩=some (I Z (ki es))) ⟨R8,c0⟩ (fun _=>?_)
    refine tk 0 (.agg (ec e)) rfl (rA 100 (.tmp 8) rfl kr b8 kr (ec e) (fun w h=>h.1) _ underlying100 rfl (zG e)) ⟨R8,c0⟩ ?_
    refine E2 ?_
    refine AC (fun K hK=>?_) AZ
    go_simp;go_at_call 163;refine Pp ?_;clear R8 c0;intro w5 bh R8 c0;replace hO:=hO.below bh;replace hG:=hG.trans (dC.gh bh);replace hB:=Pq hG
    go_wp2_with fail
    refine hK.out _ _ ⟨R8,c0⟩ (fun _=>?_)
    clear hK K;refine m18 ?_
    exact DR
  .refine m5x ?_;intro mA hall HS WG wG qE Cf xg
   rw[qE] at Cf xg
   have ej:es.take j=es:=fC om;have zj:(mn es).length=21*es.length:=WB es
   rw[ej] at hO
   clear hall wG qE ej
   go_wp2_with (first|((with_reducible refine mQ (.indexAddr 96 (.tmp 39) (.const (I Z 0))) rfl ?_);refine WD 96 (.tmp 39) (.const (I Z 0)) rfl rfl _ _ _ rfl rfl (I0 _) ?_)|(refine gL 3 41 ?_;refine qvf (.tmp 41) rfl rfl _ _ rfl _ c0 ?_)|(go_at_call 162;go_fit (qp7 w.heap.size (ki es) seq 300 _ hO om om Cf xg om om);rintro x w5 ⟨rfl,bh⟩;unfold jU))
   go_ret2
   exact⟨by rw[HS.out];rfl,hB.trans (bh.mono hB.size)⟩
end Go.Proofs.YtnkpgdejagglaaaGreatDoor
