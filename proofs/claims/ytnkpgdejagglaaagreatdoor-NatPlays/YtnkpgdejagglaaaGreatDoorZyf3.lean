/-
  Of what a law stands on.
-/
import Derived.Test.YtnkpgdejagglaaaGreatDoorZyf2
set_option linter.all false
namespace Go.Proofs.YtnkpgdejagglaaaGreatDoor
open _root_.Array renaming toList_append->eO
open _root_.ByteArray renaming data_append->ed,empty->ak
open _root_.Go renaming Calls->az,World->af,bodyPost_ret->aL
open _root_.Go.RowKit renaming Below->aq,Hid->aK
open Go.Value renaming int → I,pointer → V
open Go.IntKind renaming i64 → Z
open _root_.Go.Proofs.Tryz Go.ChangeShapes Go.WideShapes Go.ChangeAt Go.RowKit
set_option maxHeartbeats 16000000
set_option maxRecDepth 100000
variable {p:Prop}
def rW(h:p:=by
 go_wp2
 refine bodyPost_ret (v:=.tuple #[pv p0,I Z 4]) (by simp[results,results50,go_sem,pv,p0,c0];rfl) rfl ⟨by rw[ye _ 4 ly.out om,ly.out],?_⟩
 iterate 12 (refine Below.setCell ?_ (by exact Nat.le_refl _) _)
 exact hB):p:=h
def qcF(s:ByteArray)(w:af)(hs:s.size<=65535)(i3:20<=s.size)(H:rN s.data.toList)(HK:aK (aC s.data.toList 9=6))(HH:aK (o9 s.data.toList))(HL:aK (gH (aC s.data.toList 9)<=(s.data.toList.length:Int)-20))(HS:aK (bk (bJ (dY s.data.toList (aC s.data.toList 9)))=65535)):Ov s w 20:=by
 have jP:=mf s;intro b wc hb1 T5 T0 T4 hB
 intros;unfold PQ
 conv=>arg 2;whnf
 refine Oy ?_;intro c0 c4 f0 c5 f5 z2 z3 z4;(have e1:(aC s.data.toList 9==1)=false:=by rw[HK.out];rfl);(have iD:(aC s.data.toList 9==17)=false:=by rw[HK.out];rfl);(have hn:(20:Int)<=(s.size:Int)-20:=by have:=HL.out;rw[HK.out,jP] at this;exact this);(have j12:(12:Int)<(s.size:Int)-20:=by omega);(have qjQ:∀h,(((s.extract 20 s.size)[12]'h).toNat:Int)=aC s.data.toList 32:=fun h=>yq s 12 h);(have j13:(13:Int)<(s.size:Int)-20:=by omega);(have Ra:∀h,(((s.extract 20 s.size)[13]'h).toNat:Int)=aC s.data.toList 33:=fun h=>yq s 13 h);(have j18:(18:Int)<(s.size:Int)-20:=by omega);(have qjR:∀h,(((s.extract 20 s.size)[18]'h).toNat:Int)=aC s.data.toList 38:=fun h=>yq s 18 h);(have j19:(19:Int)<(s.size:Int)-20:=by omega);(have qjS:∀h,(((s.extract 20 s.size)[19]'h).toNat:Int)=aC s.data.toList 39:=fun h=>yq s 19 h)
 by_cases q0:aC s.data.toList 32=80
 rotate_left
 .have ly:aK (cj s.data.toList=4):=Fj s.data.toList HH.out HL.out HS.out HK.out (.inl q0);(have v0:(aC s.data.toList 32 != 80)=true:=by simpa using q0);clear q0
  exact rW
 have HQ0:aK (aC s.data.toList 32=80):=q0;(have v0:(aC s.data.toList 32 != 80)=false:=by simpa using q0);clear q0
 by_cases q1:63<aC s.data.toList 33
 .have ly:aK (cj s.data.toList=4):=Fj s.data.toList HH.out HL.out HS.out HK.out (.inr (.inl q1))
  exact rW
 (have v1:aC s.data.toList 33<=63:=by omega);clear q1
 by_cases q2:aC s.data.toList 38=0
 rotate_left
 .have ly:aK (cj s.data.toList=4):=Fj s.data.toList HH.out HL.out HS.out HK.out (.inr (.inr (.inl q2)));(have v2:(aC s.data.toList 38 != 0)=true:=by simpa using q2);clear q2
  exact rW
 have HQ2:aK (aC s.data.toList 38=0):=q2;(have v2:(aC s.data.toList 38 != 0)=false:=by simpa using q2);clear q2
 by_cases q3:aC s.data.toList 39=0
 rotate_left
 .have ly:aK (cj s.data.toList=4):=Fj s.data.toList HH.out HL.out HS.out HK.out (.inr (.inr (.inr q3)));(have v3:(aC s.data.toList 39 != 0)=true:=by simpa using q3);clear q3
  exact rW
 have HQ3:aK (aC s.data.toList 39=0):=q3;(have v3:(aC s.data.toList 39 != 0)=false:=by simpa using q3);clear q3;have bb:=nE s.data.toList 33;have Rb:IntKind.i64.wrap (aC s.data.toList 33)=aC s.data.toList 33:=wrap_i64 _ om om
 have N20:∀w,az prog 105 #[.string ((s.extract 20 s.size).extract 0 2)] w fun e w'=>e=.returned (I Z (bf s.data.toList 20))/\aq w.heap.size w w':=fun w=>by
  have:=pI (s.extract 20 s.size) 0 2 w rfl om
  rw[wZ,Mi] at this;exact this
 have N22:∀w,az prog 105 #[.string ((s.extract 20 s.size).extract 2 4)] w fun e w'=>e=.returned (I Z (bf s.data.toList 22))/\aq w.heap.size w w':=fun w=>by
  have:=pI (s.extract 20 s.size) 2 4 w rfl om
  rw[wZ,Mi] at this;exact this
 have Fq:∀w,az prog 105 #[.string ((s.extract 20 s.size).extract 4 8)] w fun e w'=>e=.returned (I Z (bL s.data.toList 24))/\aq w.heap.size w w':=fun w=>by
  have:=Fi (s.extract 20 s.size) 4 8 w rfl om
  rw[wZ,q5s] at this;exact this
 have N28:∀w,az prog 105 #[.string ((s.extract 20 s.size).extract 8 12)] w fun e w'=>e=.returned (I Z (bL s.data.toList 28))/\aq w.heap.size w w':=fun w=>by
  have:=Fi (s.extract 20 s.size) 8 12 w rfl om
  rw[wZ,q5s] at this;exact this
 have N34:∀w,az prog 105 #[.string ((s.extract 20 s.size).extract 14 16)] w fun e w'=>e=.returned (I Z (bf s.data.toList 34))/\aq w.heap.size w w':=fun w=>by
  have:=pI (s.extract 20 s.size) 14 16 w rfl om
  rw[wZ,Mi] at this;exact this
 have HB:aK (cj s.data.toList=good (ba s.data.toList)):=qbH s.data.toList HH.out HL.out HS.out HK.out HQ0.out v1 HQ2.out HQ3.out;refine m65 ?_;intro kH
 have Mh:-9223372036854775808<=(ba s.data.toList).aG/\(ba s.data.toList).aG<=9223372036854775807:=by
  (have e:(ba s.data.toList).aG=aC s.data.toList 8:=by unfold ba;rw[aT (by rw[HK.out];decide),aZ HK.out])
  rw[e];have:=nE s.data.toList 8;omega
 (have He:aK (iw s.data.toList=if good (ba s.data.toList)=0 then ba s.data.toList else p0):=by show _=_;unfold iw;rw[HB.out])
 have HE:aK (pv (ba s.data.toList)=.agg #[I Z (aC s.data.toList 9),I Z (bL s.data.toList 12),I Z (bf s.data.toList 20),I Z (bL s.data.toList 16),I Z (bf s.data.toList 22),I Z (aC s.data.toList 8),I Z (bf s.data.toList 4),I Z (aC s.data.toList 33),I Z (bL s.data.toList 24),I Z (bL s.data.toList 28),I Z (bf s.data.toList 34),.string ((s.extract 20 s.size).extract 20 (s.extract 20 s.size).size)]):=by
  show _=_
  unfold ba pv
  rw[aT (by rw[HK.out];decide),aZ HK.out,HK.out,Hf]
 have CG:∀w,az prog 108 #[.agg #[I Z (aC s.data.toList 9),I Z (bL s.data.toList 12),I Z (bf s.data.toList 20),I Z (bL s.data.toList 16),I Z (bf s.data.toList 22),I Z (aC s.data.toList 8),I Z (bf s.data.toList 4),I Z (aC s.data.toList 33),I Z (bL s.data.toList 24),I Z (bL s.data.toList 28),I Z (bf s.data.toList 34),.string ((s.extract 20 s.size).extract 20 (s.size-20))]] w fun e w'=>e=.returned (I Z (good (ba s.data.toList)))/\aq w.heap.size w w':=fun w=>by
  have:=ym (ba s.data.toList) w kH Mh
  rw[HE.out,z2] at this;exact this
 have OB:((good (ba s.data.toList) != 0)=false/\aK (good (ba s.data.toList)=0))\/((good (ba s.data.toList) != 0)=true/\aK (¬good (ba s.data.toList)=0)):=by
  by_cases hg:good (ba s.data.toList)=0
  .exact .inl ⟨by simpa using hg,hg⟩
  .exact .inr ⟨by simpa using hg,hg⟩
 go_upto_region 27 with fail
 clear c0 c4 f0 c5 f5
 refine RD (fun _=>True) trivial (fun _=>?_)
 refine tk 0 (.string (s.extract 20 s.size)) rfl (pC (.tmp 6) (.string (s.extract 20 s.size)) rfl kr kr) trivial (tk 1 (.string ((s.extract 20 s.size).extract 0 2)) rfl (qcG (.tmp 135) (s.extract 20 s.size) 2 2 rfl kr kr rfl om) trivial (tk 3 (.string (s.extract 20 s.size)) rfl (pC (.tmp 6) (.string (s.extract 20 s.size)) rfl kr kr) trivial ?_));simp only[ZZ];refine tk 4 (.string ((s.extract 20 s.size).extract 2 4)) rfl (vx (.tmp 138) (s.extract 20 s.size) 2 4 2 4 rfl kr kr rfl rfl om om) trivial (tk 6 (.string (s.extract 20 s.size)) rfl (pC (.tmp 6) (.string (s.extract 20 s.size)) rfl kr kr) trivial (tk 7 (.string ((s.extract 20 s.size).extract 4 8)) rfl (vx (.tmp 141) (s.extract 20 s.size) 4 8 4 8 rfl kr kr rfl rfl om om) trivial ?_));simp only[ZZ];refine tk 9 (.string (s.extract 20 s.size)) rfl (pC (.tmp 6) (.string (s.extract 20 s.size)) rfl kr kr) trivial (tk 10 (.string ((s.extract 20 s.size).extract 8 12)) rfl (vx (.tmp 144) (s.extract 20 s.size) 8 12 8 12 rfl kr kr rfl rfl om om) trivial (tk 12 (.string (s.extract 20 s.size)) rfl (pC (.tmp 6) (.string (s.extract 20 s.size)) rfl kr kr) trivial ?_));simp only[ZZ];refine tk 13 (.int .u8 (aC s.data.toList 33)) rfl (Me (.tmp 147) (s.extract 20 s.size) 13 13 _ rfl kr kr rfl om Ra) trivial (tk 14 (I Z (aC s.data.toList 33)) rfl (Mf (.tmp 148) (aC s.data.toList 33) rfl kr kr Rb) trivial (tk 15 (.string (s.extract 20 s.size)) rfl (pC (.tmp 6) (.string (s.extract 20 s.size)) rfl kr kr) trivial ?_));simp only[ZZ];refine tk 16 (.string ((s.extract 20 s.size).extract 14 16)) rfl (vx (.tmp 150) (s.extract 20 s.size) 14 16 14 16 rfl kr kr rfl rfl om om) trivial ?_;simp only[ZZ];refine AR [2] ?_
 refine AP (fun K hK=>?_) AZ
 refine pL 105 #[.string ((s.extract 20 s.size).extract 0 2)] kr _ (N20 _) ?_;intro w' hb;(try replace hb:=AK hb);refine Ox ?_;clear T0 T4 T5 hB;intro T0 T4 T5 hB
 refine hh ?_
 clear hK K;refine tk 18 (V (some ⟨b,2,none⟩)) rfl (Or.inl ⟨by kernel_rfl,by intro w _;kernel_rfl⟩) trivial ?_;simp only[ZZ];refine AR [5] ?_
 refine AP (fun K hK=>?_) AZ
 refine pL 105 #[.string ((s.extract 20 s.size).extract 2 4)] kr _ (N22 _) ?_;intro w' hb;refine Ox ?_;clear T0 T4 T5 hB;intro T0 T4 T5 hB
 refine hh ?_
 clear hK K;refine AR [8] ?_
 refine AP (fun K hK=>?_) AZ
 refine pL 105 #[.string ((s.extract 20 s.size).extract 4 8)] kr _ (Fq _) ?_;intro w' hb;refine Ox ?_;clear T0 T4 T5 hB;intro T0 T4 T5 hB
 refine hh ?_
 clear hK K;refine AR [11] ?_
 refine AP (fun K hK=>?_) AZ
 refine pL 105 #[.string ((s.extract 20 s.size).extract 8 12)] kr _ (N28 _) ?_;intro w' hb;refine Ox ?_;clear T0 T4 T5 hB;intro T0 T4 T5 hB
 refine hh ?_
 clear hK K;refine AR [17] ?_
 refine AP (fun K hK=>?_) AZ
 refine pL 105 #[.string ((s.extract 20 s.size).extract 14 16)] kr _ (N34 _) ?_;intro w' hb;refine Ox ?_;clear T0 T4 T5 hB;intro T0 T4 T5 hB
 refine hh ?_
 clear hK K;refine AR [19] ?_
 refine AP (fun K hK=>?_) AZ
 refine yr _ _ rfl b 2 rfl (bf s.data.toList 20) rfl #[I Z (aC s.data.toList 9),I Z (bL s.data.toList 12),I Z 0,I Z (bL s.data.toList 16),I Z 0,I Z (aC s.data.toList 8),I Z (bf s.data.toList 4),I Z 0,I Z 0,I Z 0,I Z 0,.string ((s.extract 20 s.size).extract 20 (s.extract 20 s.size).size)] T5 (by show 2<12;omega) ?_;intro w' T5 hk fj;(replace T5:ew w' b #[I Z (aC s.data.toList 9),I Z (bL s.data.toList 12),I Z (bf s.data.toList 20),I Z (bL s.data.toList 16),I Z 0,I Z (aC s.data.toList 8),I Z (bf s.data.toList 4),I Z 0,I Z 0,I Z 0,I Z 0,.string ((s.extract 20 s.size).extract 20 (s.extract 20 s.size).size)]:=T5);replace T0:=hk _ _ om T0;replace T4:=hk _ _ om T4;((replace hB:=fj _ _ om hB));clear hk fj
 refine hh ?_
 clear hK K;refine tk 20 (V (some ⟨b,4,none⟩)) rfl (Or.inl ⟨by kernel_rfl,by intro w _;kernel_rfl⟩) trivial ?_;simp only[ZZ];refine AR [21] ?_
 refine AP (fun K hK=>?_) AZ
 refine yr _ _ rfl b 4 rfl (bf s.data.toList 22) rfl #[I Z (aC s.data.toList 9),I Z (bL s.data.toList 12),I Z (bf s.data.toList 20),I Z (bL s.data.toList 16),I Z 0,I Z (aC s.data.toList 8),I Z (bf s.data.toList 4),I Z 0,I Z 0,I Z 0,I Z 0,.string ((s.extract 20 s.size).extract 20 (s.extract 20 s.size).size)] T5 (by show 4<12;omega) ?_;intro w' T5 hk fj;(replace T5:ew w' b #[I Z (aC s.data.toList 9),I Z (bL s.data.toList 12),I Z (bf s.data.toList 20),I Z (bL s.data.toList 16),I Z (bf s.data.toList 22),I Z (aC s.data.toList 8),I Z (bf s.data.toList 4),I Z 0,I Z 0,I Z 0,I Z 0,.string ((s.extract 20 s.size).extract 20 (s.extract 20 s.size).size)]:=T5);replace T0:=hk _ _ om T0;replace T4:=hk _ _ om T4;((replace hB:=fj _ _ om hB));clear hk fj
 refine hh ?_
 clear hK K;refine tk 22 (V (some ⟨b,8,none⟩)) rfl (Or.inl ⟨by kernel_rfl,by intro w _;kernel_rfl⟩) trivial ?_;simp only[ZZ];refine AR [23] ?_
 refine AP (fun K hK=>?_) AZ
 refine yr _ _ rfl b 8 rfl (bL s.data.toList 24) rfl #[I Z (aC s.data.toList 9),I Z (bL s.data.toList 12),I Z (bf s.data.toList 20),I Z (bL s.data.toList 16),I Z (bf s.data.toList 22),I Z (aC s.data.toList 8),I Z (bf s.data.toList 4),I Z 0,I Z 0,I Z 0,I Z 0,.string ((s.extract 20 s.size).extract 20 (s.extract 20 s.size).size)] T5 (by show 8<12;omega) ?_;intro w' T5 hk fj;(replace T5:ew w' b #[I Z (aC s.data.toList 9),I Z (bL s.data.toList 12),I Z (bf s.data.toList 20),I Z (bL s.data.toList 16),I Z (bf s.data.toList 22),I Z (aC s.data.toList 8),I Z (bf s.data.toList 4),I Z 0,I Z (bL s.data.toList 24),I Z 0,I Z 0,.string ((s.extract 20 s.size).extract 20 (s.extract 20 s.size).size)]:=T5);replace T0:=hk _ _ om T0;replace T4:=hk _ _ om T4;((replace hB:=fj _ _ om hB));clear hk fj
 refine hh ?_
 clear hK K;refine tk 24 (V (some ⟨b,9,none⟩)) rfl (Or.inl ⟨by kernel_rfl,by intro w _;kernel_rfl⟩) trivial ?_;simp only[ZZ];refine AR [25] ?_
 refine AP (fun K hK=>?_) AZ
 refine yr _ _ rfl b 9 rfl (bL s.data.toList 28) rfl #[I Z (aC s.data.toList 9),I Z (bL s.data.toList 12),I Z (bf s.data.toList 20),I Z (bL s.data.toList 16),I Z (bf s.data.toList 22),I Z (aC s.data.toList 8),I Z (bf s.data.toList 4),I Z 0,I Z (bL s.data.toList 24),I Z 0,I Z 0,.string ((s.extract 20 s.size).extract 20 (s.extract 20 s.size).size)] T5 (by show 9<12;omega) ?_;intro w' T5 hk fj;(replace T5:ew w' b #[I Z (aC s.data.toList 9),I Z (bL s.data.toList 12),I Z (bf s.data.toList 20),I Z (bL s.data.toList 16),I Z (bf s.data.toList 22),I Z (aC s.data.toList 8),I Z (bf s.data.toList 4),I Z 0,I Z (bL s.data.toList 24),I Z (bL s.data.toList 28),I Z 0,.string ((s.extract 20 s.size).extract 20 (s.extract 20 s.size).size)]:=T5);replace T0:=hk _ _ om T0;replace T4:=hk _ _ om T4;((replace hB:=fj _ _ om hB));clear hk fj
 refine hh ?_
 clear hK K;refine tk 26 (V (some ⟨b,7,none⟩)) rfl (Or.inl ⟨by kernel_rfl,by intro w _;kernel_rfl⟩) trivial ?_;simp only[ZZ];refine AR [27] ?_
 refine AP (fun K hK=>?_) AZ
 refine yr _ _ rfl b 7 rfl (aC s.data.toList 33) rfl #[I Z (aC s.data.toList 9),I Z (bL s.data.toList 12),I Z (bf s.data.toList 20),I Z (bL s.data.toList 16),I Z (bf s.data.toList 22),I Z (aC s.data.toList 8),I Z (bf s.data.toList 4),I Z 0,I Z (bL s.data.toList 24),I Z (bL s.data.toList 28),I Z 0,.string ((s.extract 20 s.size).extract 20 (s.extract 20 s.size).size)] T5 (by show 7<12;omega) ?_;intro w' T5 hk fj;(replace T5:ew w' b #[I Z (aC s.data.toList 9),I Z (bL s.data.toList 12),I Z (bf s.data.toList 20),I Z (bL s.data.toList 16),I Z (bf s.data.toList 22),I Z (aC s.data.toList 8),I Z (bf s.data.toList 4),I Z (aC s.data.toList 33),I Z (bL s.data.toList 24),I Z (bL s.data.toList 28),I Z 0,.string ((s.extract 20 s.size).extract 20 (s.extract 20 s.size).size)]:=T5);replace T0:=hk _ _ om T0;replace T4:=hk _ _ om T4;((replace hB:=fj _ _ om hB));clear hk fj
 refine hh ?_
 clear hK K;refine tk 28 (V (some ⟨b,10,none⟩)) rfl (Or.inl ⟨by kernel_rfl,by intro w _;kernel_rfl⟩) trivial ?_;simp only[ZZ];refine AR [29] ?_
 refine AP (fun K hK=>?_) AZ
 refine yr _ _ rfl b 10 rfl (bf s.data.toList 34) rfl #[I Z (aC s.data.toList 9),I Z (bL s.data.toList 12),I Z (bf s.data.toList 20),I Z (bL s.data.toList 16),I Z (bf s.data.toList 22),I Z (aC s.data.toList 8),I Z (bf s.data.toList 4),I Z (aC s.data.toList 33),I Z (bL s.data.toList 24),I Z (bL s.data.toList 28),I Z 0,.string ((s.extract 20 s.size).extract 20 (s.extract 20 s.size).size)] T5 (by show 10<12;omega) ?_;intro w' T5 hk fj;(replace T5:ew w' b #[I Z (aC s.data.toList 9),I Z (bL s.data.toList 12),I Z (bf s.data.toList 20),I Z (bL s.data.toList 16),I Z (bf s.data.toList 22),I Z (aC s.data.toList 8),I Z (bf s.data.toList 4),I Z (aC s.data.toList 33),I Z (bL s.data.toList 24),I Z (bL s.data.toList 28),I Z (bf s.data.toList 34),.string ((s.extract 20 s.size).extract 20 (s.extract 20 s.size).size)]:=T5);replace T0:=hk _ _ om T0;replace T4:=hk _ _ om T4;((replace hB:=fj _ _ om hB));clear hk fj
 refine hh ?_
 clear hK K;refine AN ?_;replace c0:=T0.cell;replace c4:=T4.cell;replace f0:=T0.free;replace c5:=T5.cell;replace f5:=T5.free
 rcases OB with⟨dg,HZ⟩|⟨dg,HZ⟩
 .go_wp2_with (go_at_call 108;refine s8 ?_;intro w' hb;refine xd ?_;clear T0 T4 T5 c0 c4 f0 c5 f5 hB;intro T0 T4 T5 c0 c4 f0 c5 f5 hB)
  refine aL (v:=.tuple #[.agg #[I Z (aC s.data.toList 9),I Z (bL s.data.toList 12),I Z (bf s.data.toList 20),I Z (bL s.data.toList 16),I Z (bf s.data.toList 22),I Z (aC s.data.toList 8),I Z (bf s.data.toList 4),I Z (aC s.data.toList 33),I Z (bL s.data.toList 24),I Z (bL s.data.toList 28),I Z (bf s.data.toList 34),.string ((s.extract 20 s.size).extract 20 (s.size-20))],I Z 0]) (by simp[results,results50,go_sem,c0]) rfl ⟨by rw[He.out,aZ HZ.out,HE.out,HB.out,HZ.out,z2],?_⟩
  iterate 12 (refine Below.setCell ?_ (by exact Nat.le_refl _) _)
  exact hB
 .go_wp2_with (go_at_call 108;refine s8 ?_;intro w' hb;refine xd ?_;clear T0 T4 T5 c0 c4 f0 c5 f5 hB;intro T0 T4 T5 c0 c4 f0 c5 f5 hB)
  refine aL (v:=.tuple #[pv p0,I Z (good (ba s.data.toList))]) (by simp[results,results50,go_sem,pv,p0,c0];rfl) rfl ⟨by rw[He.out,aT HZ.out,HB.out],?_⟩
  iterate 12 (refine Below.setCell ?_ (by exact Nat.le_refl _) _)
  exact hB
theorem vA(s:ByteArray)(w:af)(hs:s.size<=140737488351232):
  az prog 50 #[.string s] w fun e w'=>e=.returned (.tuple #[pv (iw s.data.toList),I Z (cj s.data.toList)])/\aq w.heap.size w w':=by
 by_cases i3:s.size<20
 .grind [qbB]
 by_cases hb:aC s.data.toList 0=69/\bf s.data.toList 2=s.data.toList.length/\bk (bJ (s.data.toList.take 20))=65535/\aC s.data.toList 1=0/\aC s.data.toList 6=0/\aC s.data.toList 7=0/\aC s.data.toList 8≠0
 rotate_left
 .grind [qbC]
 obtain⟨b0,b2,bs,b1,b6,b7,b8⟩:=hb;(have H:rN s.data.toList:=⟨b0,b2,bs,b1,by rw[show bf s.data.toList 6=aC s.data.toList 6*256+aC s.data.toList 7 from rfl];omega,b8⟩);have jP:=mf s
 have td:s.size<=65535:=by
  have e:bf s.data.toList 2=aC s.data.toList 2*256+aC s.data.toList 3:=rfl
  have:=nE s.data.toList 2;have:=nE s.data.toList 3;omega
 (have ua:20<=s.size:=by omega);refine qbX s w td ua H ?_
 by_cases k1:aC s.data.toList 9=1
 .exact qcA s w td ua H k1 fun a b c=>qcD s w td ua H k1 a b c
 by_cases k6:aC s.data.toList 9=6
 .exact qcB s w td ua H k6 fun a b c=>qcF s w td ua H k6 a b c
 by_cases Mg:aC s.data.toList 9=17
 .exact qcC s w td ua H Mg fun a b c d=>qcE s w td ua H Mg a b c d
 exact qbZ s w td ua H ⟨k1,k6,Mg⟩
def vB(h:p:=by
 go_wp2_with (go_at_call 50;go_fit (C1 _);rintro e w3 ⟨rfl,hb⟩;replace hB:=hB.trans (hb.mono hB.size))
 go_ret2
 exact⟨by rw[HE.out,HS.out];rfl,hB.alloc hB.size _⟩):p:=h
def A1(h:p:=by
 go_enter func49,ntmps49
 exact vB):p:=h
def qcH(s:ByteArray)(id:Int)(w:af)(hs:s.size<=140737488351232):
  az prog 49 #[.string s,I Z id] w fun e w'=>e=.returned (.tuple #[.string (oP s.data.toList id),I Z (mg s.data.toList id)])/\aq w.heap.size w w':=by
 (have C1:=fun w=>vA s w hs);refine gP ?_;intro hB
 by_cases hb:cj s.data.toList=0
 rotate_left
 ·(have HE:aK (mg s.data.toList id=cj s.data.toList):=by show _=_;unfold mg;rw[aZ hb]);(have HS:aK (oP s.data.toList id=ak):=by show _=_;unfold oP;rw[aT (by rw[HE.out];exact hb)])
  generalize iw s.data.toList=k at *
  generalize cj s.data.toList=e0 at *
  (have hne:(e0 != 0)=true:=by simpa using hb);clear hb
  unfold pv at *
  exact A1
 (have hk:iw s.data.toList=ba s.data.toList:=by unfold iw;rw[aZ hb])
 rw[hb,hk] at C1
 by_cases qu:nH id=true
 rotate_left
 ·(have HE:aK (mg s.data.toList id=2):=by show _=_;unfold mg;rw[aT om,aZ (by simpa using qu)]);(have HS:aK (oP s.data.toList id=ak):=by show _=_;unfold oP;rw[aT (by rw[HE.out];omega)])
  have hdd:id<0\/65535<id:=by
   unfold nH at qu;simp at qu;omega
  clear qu hk hb
  generalize ba s.data.toList=k at *
  unfold pv at *
  by_cases h0:id<0
  .go_enter func49,ntmps49
   exact vB
  ·(have h1:0<=id:=by omega);(have h2:65535<id:=by omega);clear h0 hdd
   exact A1
 have hdd:0<=id/\id<=65535:=of_decide_eq_true qu;(have HE:aK (mg s.data.toList id=0):=by show _=_;unfold mg;rw[aT om,aT (by simp[qu])]);(have HS:aK (oP s.data.toList id=bl (Rc (ba s.data.toList).src id (s.data.toList.take 28))):=by show _=_;unfold oP;rw[aZ HE.out]);have jP:=mf s
 have hl:28<=s.size:=by
  obtain⟨H,P,_⟩:=OD s.data.toList hb
  have:=P.len;have:=Vz _ H.kind;omega
 (have ub:(ba s.data.toList).src=bL s.data.toList 12:=by unfold ba;split<;>(try split)<;>rfl);have zZ:=Mj s.data.toList 12
 rw[←ub] at zZ
 clear ub qu hk hb
 generalize ba s.data.toList=k at *
 (have hx:(s.extract 0 28).data.toList=s.data.toList.take 28:=by rw[G9];simp);(have hxs:(s.extract 0 28).size=28:=by rw[wX _ _ _ hl])
 have CH:∀w,az prog 102 #[I Z 1,I Z 167772414,I Z k.src,I Z 64,I Z id,I Z 36] w fun e w'=>e=.returned (.string (bl (hd (rp k.src id) 56 (OE k.src id))))/\aq w.heap.size w w':=fun w=>
  Q0 (rp k.src id) 36 w om om (by show(0:Int)<=1/\(1:Int)<=255;omega) (by show(0:Int)<=167772414/\(167772414:Int)<=4294967295;omega) zZ (by show(0:Int)<=64/\(64:Int)<=255;omega) hdd
 have CC:∀w,az prog 104 #[.string ((⟨#[3,13,0,0]⟩:ByteArray)++((⟨#[0,0,0,0]⟩:ByteArray)++s.extract 0 28))] w fun e w'=>e=.returned (I Z (vC (s.data.toList.take 28)))/\aq w.heap.size w w':=fun w=>by
  have:=JE ((⟨#[3,13,0,0]⟩:ByteArray)++((⟨#[0,0,0,0]⟩:ByteArray)++s.extract 0 28)) w (by rw[ByteArray.size_append,ByteArray.size_append,hxs];decide)
  rw[ed,ed,eO,eO,hx] at this
  exact this
 have hc2:0<=vC (s.data.toList.take 28)/\vC (s.data.toList.take 28)<=65535:=by
  unfold vC;have:=uT (bJ ([3,13]++cr 0++[0,0,0,0]++s.data.toList.take 28));omega
 have CB:∀w,az prog 103 #[I Z (vC (s.data.toList.take 28)),I Z 2] w fun e w'=>e=.returned (.string (bl (cr (vC (s.data.toList.take 28)))))/\aq w.heap.size w w':=fun w=>
  tO (vC (s.data.toList.take 28)) 2 w hc2.1 om om
 have HT:aK (bl (hd (rp k.src id) 56 (OE k.src id))++⟨#[3,13]⟩++bl (cr (vC (s.data.toList.take 28)))++((⟨#[0,0,0,0]⟩:ByteArray)++s.extract 0 28)=bl (Rc k.src id (s.data.toList.take 28))):=by
  show _=_
  apply vw
  rw[ed,ed,ed,ed,eO,eO,eO,eO,hx,zW,zW]
  unfold Rc xf
  simp[List.append_assoc]
 (have zH:(bl (hd (rp k.src id) 56 (OE k.src id))).size=20:=by rw[kY];rfl);(have zB:(bl (cr (vC (s.data.toList.take 28)))).size=2:=by rw[kY];rfl)
 rw[←HS.out] at HT
 clear HS hx zZ hc2
 generalize bl (hd (rp k.src id) 56 (OE k.src id))=th at *
 generalize bl (cr (vC (s.data.toList.take 28)))=tb at *
 generalize vC (s.data.toList.take 28)=cc at *
 generalize hX:s.extract 0 28=X at *
 (have z28:(28:Int)<=(s.size:Int):=by omega);have h0:0<=id:=hdd.1;have h1:id<=65535:=hdd.2
 unfold pv at *
 go_enter func49,ntmps49
 go_wp2_with (first|(go_at_call 50;go_fit (C1 _);rintro e w3 ⟨rfl,hb⟩;replace hB:=hB.trans (hb.mono hB.size))|(go_at_call 102;go_fit (CH _);rintro e w4 ⟨rfl,hb⟩;replace hB:=(hB.alloc hB.size _).trans (hb.mono (by have:=hB.size;simp;omega)))|(go_at_call 104;go_fit (CC _);rintro e w5 ⟨rfl,hb⟩;replace hB:=hB.trans (hb.mono hB.size))|(go_at_call 103;go_fit (CB _);rintro e w6 ⟨rfl,hb⟩;replace hB:=hB.trans (hb.mono hB.size)))
 go_ret2
 exact⟨by rw[HE.out,←HT.out];rfl,hB⟩
theorem Re(l:List UInt8)(side addr port e:Int)(h:lA l side addr port=e)(he:e≠0):nI l side addr port=ak:=by grind [lA,nI]
theorem qcI(l:List UInt8)(side addr port:Int)(hb:cj l=0)(h:lA l side addr port=0)(hs:side=0\/side=1)(ha:0<=addr/\addr<=4294967295)(hp:0<=port/\port<=65535)(ht:(ba l).aG≠1)(hf:(ba l).ae=1->((ba l).flags==8)=(side==0)):
  nI l side addr port=built (turned (ba l) side addr port)/\good (turned (ba l) side addr port)=0:=by grind [OD,q61,Ej,fJ,aC,qqa,ba,qq0,qcJ,nI,cj,lA,built,turned,good]
def jx(h:p:=by
 go_enter func58,ntmps58
 exact vB):p:=h
def rX(h:p:=by
 go_enter func58,ntmps58
 go_wp2_with (first|(go_at_call 50;go_fit (C1 _);rintro e w3 ⟨rfl,hb⟩;replace hB:=hB.trans (hb.mono hB.size))|(go_at_call 121;go_fit (CB' _);rintro e w4 ⟨rfl,hb⟩;replace hB:=qcK hB (by have:=hB.size;omega) hb))
 go_ret2
 exact⟨by rw[HE.out,HS.out];rfl,hB⟩):p:=h
theorem Rf(s:ByteArray)(side addr port:Int)(w:af)(hs:s.size<=140737488351232):
  az prog 58 #[.string s,I Z side,I Z addr,I Z port] w fun e w'=>e=.returned (.tuple #[.string (nI s.data.toList side addr port),I Z (lA s.data.toList side addr port)])/\aq w.heap.size w w':=by
 (have C1:=fun w=>vA s w hs);refine gP ?_;intro hB
 by_cases hb:cj s.data.toList=0
 rotate_left
 ·(have HE:aK (lA s.data.toList side addr port=cj s.data.toList):=by show _=_;unfold lA;rw[aZ hb]);have HS:aK (nI s.data.toList side addr port=ak):=Re _ _ _ _ _ HE.out hb
  generalize iw s.data.toList=k at *
  generalize cj s.data.toList=e0 at *
  (have hne:(e0 != 0)=true:=by simpa using hb);clear hb
  unfold pv at *
  exact jx
 (have hk:iw s.data.toList=ba s.data.toList:=by unfold iw;rw[aZ hb])
 rw[hb,hk] at C1
 have Y:=qcI s.data.toList side addr port hb
 obtain⟨_,_,hg⟩:=OD s.data.toList hb
 obtain⟨OG,hr,ly,zk⟩:=uJ (ba s.data.toList) hg;have RR:=(yg (ba s.data.toList)).1 hr;have FF:=(Ot (ba s.data.toList)).1 zk;(have xg:1<=(ba s.data.toList).aG/\(ba s.data.toList).aG<=255:=by omega)
 have zq:lA s.data.toList side addr port=if side≠0/\side≠1 then 2 else if pg addr=false then 2 else if nH port=false then 2 else if (ba s.data.toList).aG=1 then 12 else if (ba s.data.toList).ae=1/\((ba s.data.toList).flags==8)≠(side==0) then 4 else 0:=by
  unfold lA;rw[aT om]
 by_cases dR:(0<=side/\side<=1)/\(0<=addr/\addr<=4294967295)/\(0<=port/\port<=65535)
 rotate_left
 .have HE:aK (lA s.data.toList side addr port=2):=by
   show _=_
   rw[zq]
   by_cases q1:side≠0/\side≠1
   .rw[aZ q1]
   rw[aT q1]
   by_cases q2:pg addr=false
   .rw[aZ q2]
   rw[aT q2]
   by_cases q3:nH port=false
   .rw[aZ q3]
   exfalso
   apply dR
   have a2:0<=addr/\addr<=4294967295:=of_decide_eq_true (by unfold pg at q2;simpa using q2);have a3:0<=port/\port<=65535:=of_decide_eq_true (by unfold nH at q3;simpa using q3)
   omega
  refine m62 ?_;intro HS;clear Y zq hk hb hg OG hr ly zk RR FF xg
  generalize ba s.data.toList=k at *
  unfold pv at *
  by_cases t0:side<0
  .clear dR
   exact jx
  (have g0:0<=side:=by omega);clear t0
  by_cases t1:1<side
  .clear dR
   exact jx
  (have g1:side<=1:=by omega);clear t1
  by_cases t2:addr<0
  .clear dR
   exact jx
  (have g2:0<=addr:=by omega);clear t2
  by_cases t3:4294967295<addr
  .clear dR
   exact jx
  (have g3:addr<=4294967295:=by omega);clear t3
  by_cases t4:port<0
  .clear dR
   exact jx
  (have g4:0<=port:=by omega);clear t4;(have t5:65535<port:=by omega);clear dR
  exact jx
 obtain⟨⟨s0,s1⟩,ha,hp⟩:=dR;(have Fs:side=0\/side=1:=by omega);have g2:0<=addr:=ha.1;have g3:addr<=4294967295:=ha.2;have g4:0<=port:=hp.1;have g5:port<=65535:=hp.2;(have N6:pg addr=true:=by unfold pg;exact decide_eq_true ha);(have my:nH port=true:=by unfold nH;exact decide_eq_true hp)
 rw[aT om,aT (by simp[N6]),aT (by simp[my])] at zq
 clear N6 my
 by_cases ht:(ba s.data.toList).aG=1
 ·(have HE:aK (lA s.data.toList side addr port=12):=by show _=_;rw[zq,aZ ht]);refine m62 ?_;intro HS;clear Y zq hk hb hg OG hr ly zk RR FF xg ha hp Fs
  generalize ba s.data.toList=k at *
  (have Rg:k.aG<2:=by omega);clear ht
  unfold pv at *
  exact jx
 rw[aT ht] at zq
 (have Rg:2<=(ba s.data.toList).aG:=by omega)
 by_cases Ep:(ba s.data.toList).ae=1/\((ba s.data.toList).flags==8)≠(side==0)
 ·(have HE:aK (lA s.data.toList side addr port=4):=by show _=_;rw[zq,aZ Ep]);refine m62 ?_;intro HS
  have jS:((ba s.data.toList).flags=8/\side=1)\/((ba s.data.toList).flags=0/\side=0):=by
   obtain⟨p1,p2⟩:=Ep
   have:=(FF.1 p1).1
   rcases Fs with rfl|rfl<;>rcases this with q|q<;>simp_all
  (have jF:((ba s.data.toList).ae==1)=true:=by simpa using Ep.1);clear Y zq hk hb hg OG hr ly zk RR FF xg ha hp Fs ht Ep
  generalize ba s.data.toList=k at *
  unfold pv at *
  rcases jS with⟨q,rfl⟩|⟨q,rfl⟩
  ·(have d1:(k.flags==8)=true:=by simpa using q);clear q
   exact jx
  ·(have d1:(k.flags==8)=false:=by rw[q];rfl);(have d2:(k.flags==0)=true:=by simpa using q);clear q
   exact jx
 rw[aT Ep] at zq
 have hf:(ba s.data.toList).ae=1->((ba s.data.toList).flags==8)=(side==0):=fun h=>by
  by_cases q:((ba s.data.toList).flags==8)=(side==0)
  .exact q
  .exact absurd ⟨h,q⟩ Ep
 obtain⟨Y1,Y2⟩:=Y zq Fs ha hp ht hf;have HE:aK (lA s.data.toList side addr port=0):=zq;have HS:aK (nI s.data.toList side addr port=built (turned (ba s.data.toList) side addr port)):=Y1
 have rP:((ba s.data.toList).ae==1)=true->((ba s.data.toList).flags=8/\side=0)\/((ba s.data.toList).flags=0/\side=1):=fun h=>by
  (have h1:(ba s.data.toList).ae=1:=by simpa using h)
  have:=(FF.1 h1).1
  have h2:=hf h1
  rcases Fs with rfl|rfl<;>rcases this with q|q<;>simp_all
 (have OH:(ba s.data.toList).body.size<=140737488351232:=by omega);(have htb:(turned (ba s.data.toList) side addr port).aG=(ba s.data.toList).aG-1/\(turned (ba s.data.toList) side addr port).body=(ba s.data.toList).body:=by unfold turned;split<;>exact⟨rfl,rfl⟩)
 have CB:∀w,az prog 121 #[pv (turned (ba s.data.toList) side addr port)] w fun e w'=>e=.returned (.tuple #[.string (built (turned (ba s.data.toList) side addr port)),I Z 0])/\aq w.heap.size w w':=fun w=>by
  have:=qbV (turned (ba s.data.toList) side addr port) w (by rw[htb.2];exact OH) (by rw[htb.1];omega)
  rw[Y2] at this;exact this
 clear zq hk hb hg OG hr ly zk RR FF ha hp ht Ep hf Y1 Y2 OH htb Y
 generalize hbu:built (turned (ba s.data.toList) side addr port)=bu at *
 clear hbu
 generalize ba s.data.toList=k at *
 (have hw2:wrap64 (k.aG-1)=k.aG-1:=by unfold wrap64;omega)
 unfold turned pv at *
 rcases Fs with rfl|rfl
 .have CB':∀w,az prog 121 #[.agg #[I Z k.ae,I Z addr,I Z port,I Z k.dst,I Z k.ai,I Z (k.aG-1),I Z k.id,I Z k.flags,I Z k.seq,I Z k.bo,I Z k.br,.string k.body]] w fun e w'=>e=.returned (.tuple #[.string bu,I Z 0])/\aq w.heap.size w w':=fun w=>by
   have:=CB w
   rw[aZ rfl] at this
   exact this
  clear CB
  by_cases jF:k.ae=1
  ·(have d0:(k.ae==1)=true:=by simpa using jF);(have q:k.flags=8:=by rcases rP d0 with⟨q,h⟩|⟨q,h⟩<;>first|exact q|omega);clear rP jF;(have d1:(k.flags==8)=true:=by rw[q];rfl);(have d2:(k.flags==0)=false:=by rw[q];rfl);clear q
   exact rX
  ·(have d0:(k.ae==1)=false:=by simpa using jF);clear rP jF
   exact rX
 .have CB':∀w,az prog 121 #[.agg #[I Z k.ae,I Z k.src,I Z k.aj,I Z addr,I Z port,I Z (k.aG-1),I Z k.id,I Z k.flags,I Z k.seq,I Z k.bo,I Z k.br,.string k.body]] w fun e w'=>e=.returned (.tuple #[.string bu,I Z 0])/\aq w.heap.size w w':=fun w=>by
   have:=CB w
   rw[aT om] at this
   exact this
  clear CB
  by_cases jF:k.ae=1
  ·(have d0:(k.ae==1)=true:=by simpa using jF);(have q:k.flags=0:=by rcases rP d0 with⟨q,h⟩|⟨q,h⟩<;>first|exact q|omega);clear rP jF;(have d1:(k.flags==8)=false:=by rw[q];rfl);(have d2:(k.flags==0)=true:=by rw[q];rfl);clear q
   exact rX
  ·(have d0:(k.ae==1)=false:=by simpa using jF);clear rP jF
   exact rX
end Go.Proofs.YtnkpgdejagglaaaGreatDoor
