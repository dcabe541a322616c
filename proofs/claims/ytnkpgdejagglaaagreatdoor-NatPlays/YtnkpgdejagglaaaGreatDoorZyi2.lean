/-
  Of what a law stands on.
-/
import Derived.Deep.DeepCutAuto
import Derived.Test.YtnkpgdejagglaaaGreatDoorZyi1
set_option linter.all false
namespace Go.Proofs.YtnkpgdejagglaaaGreatDoor
open _root_.ByteArray renaming empty->ak
open _root_.Go renaming Calls->az,Value->ag,World->af,bodyPost_ret->aL,maxLen->jt,results->eQ,wpAnyH_ready->mC
open _root_.Go.Act renaming put->j2
open _root_.Go.AllReadyH renaming cons->eH
open _root_.Go.RowKit renaming Below->aq
open _root_.Go.RowKit.Below renaming heap_alloc->fV,refl->cA,setCell->fy
open _root_.Int renaming reduceToNat->bI
open _root_.List renaming append_assoc->eL,setIfInBounds_toArray->aW,set_cons_succ->aR,set_cons_zero->aQ
open _root_.Nat renaming le_refl->au,reduceAdd->eT
open _root_.Or renaming inl->mS
open Go.Value renaming int → I,pointer → V
open Go.IntKind renaming i64 → Z
open _root_.Go.Proofs.Tryz Go.RowKit
set_option maxHeartbeats 16000000
set_option maxRecDepth 100000
variable {w w':World}{b:Nat}{cs:Array Value}{p:Prop}
section
open Go.ChangeShapes Go.WideShapes Go.ChangeAt
theorem Hf(s:ByteArray)(a:Nat):(s.extract 20 s.size).extract a (s.extract 20 s.size).size=bl (s.data.toList.drop (20+a)):=by grind [P4,wZ,bl,List.drop_drop]
def qrp(w:af)(cs:Array ag)(q n:Nat)(hn:w.heap.size=n):ew ((w.alloc (.cells cs 77)).drewN q) n cs:=by
 subst hn
 exact heap_alloc_new w _
def qrw(w:af)(cs:Array ag)(o:Obj)(q:Nat):ew (((w.alloc (.cells cs 77)).alloc o).drewN q) w.heap.size cs:=by
 show((w.alloc (.cells cs 77)).alloc o).heap[w.heap.size]?=_
 rw[fV _ _ _ zm]
 exact heap_alloc_new w _
theorem ew.step{r:Nat}(h:ew w r cs)(st:cf b none none w w')(hne:r≠b):ew w' r cs:=
 (st.block r (Array.getElem?_eq_some_iff.1 h).1 hne zm).trans h
def qma(w:af)(o o':Obj)(q:Nat):aq w.heap.size w (((w.alloc o).alloc o').drewN q):=
 (((cA _ _).alloc (au _) o).alloc zm o').trans ((qpw q _).mono (by simp;omega))
def Ba(h:p:=by
 refine AR [14] ?_
 refine AC (fun K hK=>?_) ?_
 .go_simp
  refine hK.out _ _ trivial (fun _=>?_)
  clear hK K;refine AN ?_
  go_wp2_with fail
  go_meet
  case rel=>exact⟨rfl,_,rfl⟩
 exact AZ):p:=h
def Bb(h:p:=by
 refine hK.out _ _ trivial (fun _=>?_)
 clear hK K;refine AR [11] ?_
 refine AC (fun K hK=>?_) ?_
 .go_simp
  refine(Rt s _ _ om om om).mono ?_;rintro e w' ⟨rfl,q,rfl⟩;simp only[Int.reduceToNat]
  go_wp2_with fail
  refine hK.out _ _ trivial (fun _=>?_)
  clear hK K;refine tk 12 (.agg #[I Z (aC s.data.toList 9),I Z (bL s.data.toList 12),I Z 0,I Z (bL s.data.toList 16),I Z 0,I Z (aC s.data.toList 8),I Z (bf s.data.toList 4),I Z 0,I Z 0,I Z 0,I Z 0,.string ⟨#[]⟩]) rfl (Or.inl ⟨by rfl,by intro w _;go_simp⟩) trivial ?_
  simp only[Act.put,List.setIfInBounds_toArray,List.set_cons_zero,List.set_cons_succ]
  exact Ba
 exact AZ):p:=h
def Bc(h:p:=by
 refine hK.out _ _ trivial (fun _=>?_)
 clear hK K;refine AR [6] ?_
 refine AC (fun K hK=>?_) ?_
 .go_simp
  refine(Ru s _ _ om om om).mono ?_;rintro e w' ⟨rfl,q,rfl⟩;simp only[Int.reduceToNat]
  go_wp2_with fail
  exact Bb
 exact AZ):p:=h
def qn9(s : ByteArray)(w : af)(i3 : 28 <= s.size)(hs : s.size <= 65535)(hk : jE (aC s.data.toList 9) = true)(hf : aC s.data.toList 9 = 1 -> aC s.data.toList 20 = 8 \/ aC s.data.toList 20 = 0)(ht : aC s.data.toList 9 = 6 -> 40 <= s.size):
    az prog 65 #[.string s] w fun e w' => e = .returned (pv (ba s.data.toList)) /\ aq w.heap.size w w' := by
  have g8 := tZ s 8 om;have g9 := tZ s 9 om
  obtain⟨b1, b2⟩ := nE s.data.toList 8
  obtain⟨b3, b4⟩ := nE s.data.toList 9
  (have k8 : (8 : Int) < (s.size : Int) := by omega);(have k9 : (9 : Int) < (s.size : Int) := by omega);have iw8 : IntKind.i64.wrap (aC s.data.toList 8) = aC s.data.toList 8 := wrap_i64 _ om om;have iw9 : IntKind.i64.wrap (aC s.data.toList 9) = aC s.data.toList 9 := wrap_i64 _ om om;(have sd : ∀(w : af) (n : Nat) (a : Addr) (v : ag), (w.drewN n).setCell a v = (w.setCell a v).drewN n := fun _ _ _ _ => rfl);(have ad : ∀(w : af) (n : Nat) (o : Obj), (w.drewN n).alloc o = (w.alloc o).drewN n := fun _ _ _ => rfl);have z2 : (s.extract 20 s.size).size = s.size-20 := wX s 20 s.size (au _);(have z3 : ((s.size-20 : Nat) : Int) = (s.size : Int)-20 := by omega)
  go_enter func65, ntmps65
  go_wp2
  go_cut [3] (fun t3 wx => t3 = V (some ⟨w.heap.size + 1, 0, none⟩) /\ ∃q, wx = ((w.alloc (.cells #[I Z 0, I Z 0, I Z 0, I Z 0, I Z 0, I Z 0, I Z 0, I Z 0, I Z 0, I Z 0, I Z 0, .string ⟨#[]⟩] 77)).alloc (.cells #[I Z (aC s.data.toList 9), I Z (bL s.data.toList 12), I Z 0, I Z (bL s.data.toList 16), I Z 0, I Z (aC s.data.toList 8), I Z (bf s.data.toList 4), I Z 0, I Z 0, I Z 0, I Z 0, .string ⟨#[]⟩] 77)).drewN q)
  case first =>
    refine wp_region_noPanic ?_
    refine wp_region_held_drew (S := fun _ => True) kr trivial (fun _ => ?_)
    refine tk 0 (.string s) rfl (mS ⟨by rfl, by intro w _;go_simp⟩) trivial ?_
    simp only[j2, aW, aQ, aR]
    refine tk 1 (.int .u8 (aC s.data.toList 9)) rfl (mS ⟨by rfl, by intro w _;go_simp⟩) trivial ?_
    simp only[j2, aW, aQ, aR]
    refine tk 2 (I Z (aC s.data.toList 9)) rfl (mS ⟨by rfl, by intro w _;go_simp⟩) trivial ?_
    simp only[j2, aW, aQ, aR]
    refine tk 3 (.string s) rfl (mS ⟨by rfl, by intro w _;go_simp⟩) trivial ?_
    simp only[j2, aW, aQ, aR]
    refine tk 5 (.string s) rfl (mS ⟨by rfl, by intro w _;go_simp⟩) trivial ?_
    simp only[j2, aW, aQ, aR]
    refine tk 7 (.string s) rfl (mS ⟨by rfl, by intro w _;go_simp⟩) trivial ?_
    simp only[j2, aW, aQ, aR]
    refine tk 8 (.int .u8 (aC s.data.toList 8)) rfl (mS ⟨by rfl, by intro w _;go_simp⟩) trivial ?_
    simp only[j2, aW, aQ, aR]
    refine tk 9 (I Z (aC s.data.toList 8)) rfl (mS ⟨by rfl, by intro w _;go_simp⟩) trivial ?_
    simp only[j2, aW, aQ, aR]
    refine tk 10 (.string s) rfl (mS ⟨by rfl, by intro w _;go_simp⟩) trivial ?_
    simp only[j2, aW, aQ, aR]
    refine mC (rs := [4, 13]) kr zm ?_
    refine eH rfl (fun K hK => ?_) ?_
    · go_simp
      refine(Ru s _ _ om om om).mono ?_;rintro e w' ⟨rfl, q, rfl⟩;simp only[bI]
      go_wp2_with fail
      refine hK.out _ _ trivial (fun _ => ?_)
      clear hK K;refine mC (rs := [6, 13]) kr zm ?_
      refine eH rfl (fun K hK => ?_) ?_
      · go_simp
        refine(Ru s _ _ om om om).mono ?_;rintro e w' ⟨rfl, q, rfl⟩;simp only[bI]
        go_wp2_with fail
        refine hK.out _ _ trivial (fun _ => ?_)
        clear hK K;refine mC (rs := [11, 13]) kr zm ?_
        refine eH rfl (fun K hK => ?_) ?_
        · go_simp
          refine(Rt s _ _ om om om).mono ?_;rintro e w' ⟨rfl, q, rfl⟩;simp only[bI]
          go_wp2_with fail
          refine hK.out _ _ trivial (fun _ => ?_)
          clear hK K;refine tk 12 (.agg #[I Z (aC s.data.toList 9), I Z (bL s.data.toList 12), I Z 0, I Z (bL s.data.toList 16), I Z 0, I Z (aC s.data.toList 8), I Z (bf s.data.toList 4), I Z 0, I Z 0, I Z 0, I Z 0, .string ⟨#[]⟩]) rfl (mS ⟨by rfl, by intro w _;go_simp⟩) trivial ?_
          simp only[j2, aW, aQ, aR]
          refine mC (rs := [13]) kr zm ?_
          refine eH rfl (fun K hK => ?_) ?_
          · go_simp
            refine hK.out _ _ trivial (fun _ => ?_)
            clear hK K
            exact Ba
          exact AZ
        refine eH rfl (fun K hK => ?_) ?_
        · go_simp
          exact Bb
        exact AZ
      refine eH rfl (fun K hK => ?_) ?_
      · go_simp
        exact Bc
      exact AZ
    refine eH rfl (fun K hK => ?_) ?_
    · go_simp
      refine hK.out _ _ trivial (fun _ => ?_)
      clear hK K;refine mC (rs := [4]) kr zm ?_
      refine eH rfl (fun K hK => ?_) ?_
      · go_simp
        refine(Ru s _ _ om om om).mono ?_;rintro e w' ⟨rfl, q, rfl⟩;simp only[bI]
        go_wp2_with fail
        exact Bc
      exact AZ
    exact AZ
  case rest =>
    obtain⟨rfl, q, rfl⟩ := hcut
    clear g8 g9 iw8 iw9
    rcases(Hd _).1 hk with h1 | h1 | h1
    · have pn : gH 1 = 8 := rfl
      rcases hf h1 with h8 | h8
      · have E : Hid (pv (ba s.data.toList) = .agg #[I Z 1, I Z (bL s.data.toList 12), I Z (bf s.data.toList 24), I Z (bL s.data.toList 16), I Z 0, I Z (aC s.data.toList 8), I Z (bf s.data.toList 4), I Z 8, I Z (bf s.data.toList 26), I Z 0, I Z 0, .string ((s.extract 20 s.size).extract 8 (s.size-20))]) := by
          show _ = _
          unfold ba pv
          rw[aZ h1, ←z2, Hf, h8, aZ rfl, aZ rfl]
        rw[h1]
        go_wp2_with (first | (go_at_call 124;refine zt ?_;rintro e w' ⟨rfl, rfl⟩) | (go_at_call 128;refine(qt6 _ s _ _ _ _ _ _ _ _ _ i3 hs (qrp _ _ _ _ zm) h8).mono ?_;refine m3u ?_;intro w' c0 f0 c1 f1 hB))
        refine aL (v := .agg #[I Z 1, I Z (bL s.data.toList 12), I Z (bf s.data.toList 24), I Z (bL s.data.toList 16), I Z 0, I Z (aC s.data.toList 8), I Z (bf s.data.toList 4), I Z 8, I Z (bf s.data.toList 26), I Z 0, I Z 0, .string ((s.extract 20 s.size).extract 8 (s.size-20))]) (by simp[eQ, results65, go_sem, c0]) rfl ⟨by rw[E.out], ?_⟩
        iterate 12 (refine fy ?_ (by exact au _) _)
        exact hB
      · have E : Hid (pv (ba s.data.toList) = .agg #[I Z 1, I Z (bL s.data.toList 12), I Z 0, I Z (bL s.data.toList 16), I Z (bf s.data.toList 24), I Z (aC s.data.toList 8), I Z (bf s.data.toList 4), I Z 0, I Z (bf s.data.toList 26), I Z 0, I Z 0, .string ((s.extract 20 s.size).extract 8 (s.size-20))]) := by
          show _ = _
          unfold ba pv
          rw[aZ h1, ←z2, Hf, h8, aT om, aT om]
        rw[h1]
        go_wp2_with (first | (go_at_call 124;refine zt ?_;rintro e w' ⟨rfl, rfl⟩) | (go_at_call 128;refine(qqb _ s _ _ _ _ _ _ _ _ _ i3 hs (qrp _ _ _ _ zm) h8).mono ?_;refine m3u ?_;intro w' c0 f0 c1 f1 hB))
        refine aL (v := .agg #[I Z 1, I Z (bL s.data.toList 12), I Z 0, I Z (bL s.data.toList 16), I Z (bf s.data.toList 24), I Z (aC s.data.toList 8), I Z (bf s.data.toList 4), I Z 0, I Z (bf s.data.toList 26), I Z 0, I Z 0, .string ((s.extract 20 s.size).extract 8 (s.size-20))]) (by simp[eQ, results65, go_sem, c0]) rfl ⟨by rw[E.out], ?_⟩
        iterate 12 (refine fy ?_ (by exact au _) _)
        exact hB
    · have pn : gH 6 = 20 := rfl
      have h40 := ht h1
      have E : Hid (pv (ba s.data.toList) = .agg #[I Z 6, I Z (bL s.data.toList 12), I Z (bf s.data.toList 20), I Z (bL s.data.toList 16), I Z (bf s.data.toList 22), I Z (aC s.data.toList 8), I Z (bf s.data.toList 4), I Z (aC s.data.toList 33), I Z (bL s.data.toList 24), I Z (bL s.data.toList 28), I Z (bf s.data.toList 34), .string ((s.extract 20 s.size).extract 20 (s.size-20))]) := by
        show _ = _
        unfold ba pv
        rw[aT om, aZ h1, ←z2, Hf]
      obtain⟨b5, b6⟩ := nE s.data.toList 33
      (have Ra : ∀h, (((s.extract 20 s.size)[13]'h).toNat : Int) = aC s.data.toList 33 := fun h => yq s 13 h);have Rb : IntKind.i64.wrap (aC s.data.toList 33) = aC s.data.toList 33 := wrap_i64 _ om om;(have z6 : (13 : Int) < (s.size : Int)-20 := by omega);rw[h1]
      go_wp2_with (first | (go_at_call 124;refine zt ?_;rintro e w' ⟨rfl, rfl⟩) | (go_at_call 122;refine Mm ?_;rintro e w' ⟨rfl, q, rfl⟩;simp only[bI, eT]) | (go_at_call 127;refine(qt3 s _ _ om hs om om).mono ?_;rintro e w' ⟨rfl, q, rfl⟩;simp only[bI, eT]))
      go_region_held3 (fun _ => True) (trivial) (first | (go_at_call 122;refine Mm ?_;rintro e w' ⟨rfl, q, rfl⟩;simp only[bI, eT]))
      all_goals
        go_wp2_with fail
        exact aL (v := .agg #[I Z 6, I Z (bL s.data.toList 12), I Z (bf s.data.toList 20), I Z (bL s.data.toList 16), I Z (bf s.data.toList 22), I Z (aC s.data.toList 8), I Z (bf s.data.toList 4), I Z (aC s.data.toList 33), I Z (bL s.data.toList 24), I Z (bL s.data.toList 28), I Z (bf s.data.toList 34), .string ((s.extract 20 s.size).extract 20 (s.size-20))]) (by simp[eQ, results65, go_sem]) rfl ⟨by rw[E.out], qma _ _ _ _⟩
    · have pn : gH 17 = 8 := rfl
      have E : Hid (pv (ba s.data.toList) = .agg #[I Z 17, I Z (bL s.data.toList 12), I Z (bf s.data.toList 20), I Z (bL s.data.toList 16), I Z (bf s.data.toList 22), I Z (aC s.data.toList 8), I Z (bf s.data.toList 4), I Z 0, I Z 0, I Z 0, I Z 0, .string ((s.extract 20 s.size).extract 8 (s.size-20))]) := by
        show _ = _
        unfold ba pv
        rw[aT om, aT om, ←z2, Hf, h1]
      rw[h1]
      go_wp2_with (first | (go_at_call 124;refine zt ?_;rintro e w' ⟨rfl, rfl⟩) | (go_at_call 122;refine Mm ?_;rintro e w' ⟨rfl, q, rfl⟩;simp only[bI, eT])
 )
      exact aL (v := .agg #[I Z 17, I Z (bL s.data.toList 12), I Z (bf s.data.toList 20), I Z (bL s.data.toList 16), I Z (bf s.data.toList 22), I Z (aC s.data.toList 8), I Z (bf s.data.toList 4), I Z 0, I Z 0, I Z 0, I Z 0, .string ((s.extract 20 s.size).extract 8 (s.size-20))]) (by simp[eQ, results65, go_sem]) rfl ⟨by rw[E.out], qma _ _ _ _⟩
end
structure o9(l:List UInt8):Prop where
 len:20<=l.length
 mark:aC l 0=69
 size:bf l 2=l.length
 sum:bk (bJ (l.take 20))=65535
 yn:aC l 1=0
 piece:bf l 6=0
 aG:aC l 8≠0
 kind:jE (aC l 9)=true
theorem qk8(l:List UInt8)(h:m7 l=0):o9 l:=by
 unfold m7 at h
 by_cases h1:l.length<20
 .omega
 rw[aT h1] at h
 by_cases h2:aC l 0≠69
 .omega
 rw[aT h2] at h
 by_cases h3:bf l 2≠l.length
 .omega
 rw[aT h3] at h
 by_cases h4:bk (bJ (l.take 20))≠65535
 .omega
 rw[aT h4] at h
 by_cases h5:aC l 1≠0
 .omega
 rw[aT h5] at h
 by_cases h6:bf l 6≠0
 .omega
 rw[aT h6] at h
 by_cases h7:aC l 8=0
 .omega
 rw[aT h7] at h
 by_cases h8:jE (aC l 9)=false
 .grind
 exact⟨by omega,by omega,by omega,by omega,by omega,by omega,h7,by simpa using h8⟩
structure qom(l:List UInt8)(ae:Int):Prop where
 len:gH ae<=(l.length:Int)-20
 sum:bk (bJ (dY l ae))=65535
 qcO:ae=17->bf l 26≠0
 qcP:ae=1->aC l 20=8\/aC l 20=0
 Rv:ae=1->aC l 21=0
 qcQ:ae=6->aC l 32=80
 qjY:ae=6->aC l 33<=63
 qcR:ae=6->bf l 38=0
 udp:ae=17->bf l 24=(l.length:Int)-20
theorem qsp(l:List UInt8)(ae:Int)(h:lz l ae=0):qom l ae:=by
 unfold lz at h
 by_cases h1:(l.length:Int)-20<gH ae
 .omega
 rw[aT h1] at h
 by_cases h2:bk (bJ (dY l ae))≠65535
 .omega
 rw[aT h2] at h
 by_cases h3:ae=17/\bf l 26=0
 .omega
 rw[aT h3] at h
 by_cases h4:ae=1/\aC l 20≠8/\aC l 20≠0
 .omega
 rw[aT h4] at h
 by_cases h5:ae=1/\aC l 21≠0
 .omega
 rw[aT h5] at h
 by_cases h6:ae=6/\aC l 32≠80
 .omega
 rw[aT h6] at h
 by_cases h7:ae=6/\63<aC l 33
 .omega
 rw[aT h7] at h
 by_cases h8:ae=6/\bf l 38≠0
 .omega
 rw[aT h8] at h
 by_cases h9:ae=17/\bf l 24≠(l.length:Int)-20
 .omega
 exact⟨by omega,by omega,by omega,by omega,by omega,by omega,by omega,by omega,by omega⟩
def o9.small{l:List UInt8}(h:o9 l):l.length<=65535:=by
 have:=h.size;have:=Ej l 2;omega
theorem Vz(n:Int)(h:jE n=true):8<=gH n:=by grind [jE,gH]
theorem OD(l:List UInt8)(h:cj l=0):o9 l/\qom l (aC l 9)/\good (ba l)=0:=by grind [cj,m7,lz,aC,qk8,qsp,good,ba]
section
open Go.ChangeShapes Go.WideShapes Go.ChangeAt
def qmh(e:Int)(w:af):az prog 63 #[I Z e] w fun r w'=>r=.returned (.tuple #[pv p0,I Z e])/\aq w.heap.size w w':=by
 go_enter func63,ntmps63
 go_wp2
 exact aL (v:=.tuple #[pv p0,I Z e]) (by simp[eQ,results63,go_sem,pv,p0];rfl) rfl ⟨rfl,((cA _ _).alloc (au _) _).alloc zm _⟩
def ew.below(h:ew w b cs)(hb:aq w.heap.size w w'):ew w' b cs:=
 (hb.block b (Array.getElem?_eq_some_iff.1 h).1).trans h
theorem q0g(s:ByteArray)(w:af)(hs:s.size<=140737488351232)(h:m7 s.data.toList≠0):
  az prog 29 #[.string s] w fun e w'=>e=.returned (.tuple #[pv p0,I Z (m7 s.data.toList)])/\aq w.heap.size w w':=by
 (have hn:(m7 s.data.toList==0)=false:=by simpa using h);refine VK ?_;intro T0 hB c0 f0
 go_enter func29,ntmps29
 go_wp2_with (first|(go_at_call 62;refine(VJ s _ hs).mono ?_;rintro e w' ⟨rfl,hb⟩;refine zu ?_;clear T0 hB hb;intro T0 hB c0 f0)|(go_at_call 63;refine(qmh _ _).mono ?_;rintro e w' ⟨rfl,hb⟩;refine zu ?_;clear T0 hB hb;intro T0 hB c0 f0;unfold pv p0))
 refine aL (v:=.tuple #[pv p0,I Z (m7 s.data.toList)]) (by simp[eQ,results29,go_sem,pv,p0,c0]<;>rfl) rfl ⟨rfl,?_⟩
 iterate 12 (refine fy ?_ (by exact au _) _)
 exact hB
theorem qyw(s:ByteArray)(w:af)(hs:s.size<=140737488351232)(h0:m7 s.data.toList=0)(h1:lz s.data.toList (aC s.data.toList 9)≠0):
  az prog 29 #[.string s] w fun e w'=>e=.returned (.tuple #[pv p0,I Z (lz s.data.toList (aC s.data.toList 9))])/\aq w.heap.size w w':=by
 have H:=qk8 _ h0;(have i3:20<=s.size:=by have:=H.len;rw[mf] at this;exact this);(have td:s.size<=65535:=by have:=H.small;rw[mf] at this;exact this);have g9:=tZ s 9 om;obtain⟨b3,b4⟩:=nE s.data.toList 9;(have hn:(lz s.data.toList (aC s.data.toList 9)==0)=false:=by simpa using h1);refine VK ?_;intro T0 hB c0 f0
 go_enter func29,ntmps29
 go_wp2_with (first|(go_at_call 62;refine(VJ s _ hs).mono ?_;rintro e w' ⟨rfl,hb⟩;rw[h0];refine zu ?_;clear T0 hB hb;intro T0 hB c0 f0)|(go_at_call 64;refine(qkj s _ _ i3 td H.kind).mono ?_;rintro e w' ⟨rfl,hb⟩;refine zu ?_;clear T0 hB hb;intro T0 hB c0 f0)|(go_at_call 63;refine(qmh _ _).mono ?_;rintro e w' ⟨rfl,hb⟩;refine zu ?_;clear T0 hB hb;intro T0 hB c0 f0;unfold pv p0))
 refine aL (v:=.tuple #[pv p0,I Z (lz s.data.toList (aC s.data.toList 9))]) (by simp[eQ,results29,go_sem,pv,p0,c0]<;>rfl) rfl ⟨rfl,?_⟩
 iterate 12 (refine fy ?_ (by exact au _) _)
 exact hB
theorem qv4(l:List UInt8):(ba l).body.size<=l.length:=by grind [ba,kY]
theorem q1d(s:ByteArray)(w:af)(hs:s.size<=140737488351232)(h0:m7 s.data.toList=0)(h1:lz s.data.toList (aC s.data.toList 9)=0)(k:bM)(hk:ba s.data.toList=k)(h2:good k≠0):
  az prog 29 #[.string s] w fun e w'=>e=.returned (.tuple #[pv p0,I Z (good k)])/\aq w.heap.size w w':=by
 refine m1w ?_;intro H i3 td g9 b3 b4 P hpl Ml hf ht kH;(have hn:(good k==0)=false:=by simpa using h2);refine VK ?_;intro T0 hB c0 f0
 go_enter func29,ntmps29
 go_wp2_with (first|(go_at_call 62;refine(VJ s _ hs).mono ?_;rintro e w' ⟨rfl,hb⟩;rw[h0];refine zu ?_;clear T0 hB hb;intro T0 hB c0 f0)|(go_at_call 64;refine(qkj s _ _ i3 td H.kind).mono ?_;rintro e w' ⟨rfl,hb⟩;rw[h1];refine zu ?_;clear T0 hB hb;intro T0 hB c0 f0)|(go_at_call 65;refine(qn9 s _ Ml td H.kind hf ht).mono ?_;rintro e w3 ⟨rfl,hb⟩;refine zu ?_;clear T0 hB hb;intro T0 hB c0 f0;rw[hk];unfold pv;refine m0f ?_;clear hB T0;intro T1 hB T0)|(go_at_call 66;refine(qke k _ kH).mono ?_;rintro e w' ⟨rfl,hb⟩;replace T0:=T0.below hb;replace hB:=hB.trans (hb.mono hB.size);replace T1:=T1.below hb;clear hb;have c0:=T0.cell;have f0:=T0.free)|(go_at_call 63;refine(qmh _ _).mono ?_;rintro e w' ⟨rfl,hb⟩;refine zu ?_;clear T0 hB hb;intro T0 hB c0 f0;unfold pv p0))
 refine aL (v:=.tuple #[pv p0,I Z (good k)]) (by simp[eQ,results29,go_sem,pv,p0,c0]<;>rfl) rfl ⟨rfl,?_⟩
 iterate 12 (refine fy ?_ (by exact au _) _)
 exact hB
theorem q01(s:ByteArray)(w:af)(hs:s.size<=140737488351232)(h0:m7 s.data.toList=0)(h1:lz s.data.toList (aC s.data.toList 9)=0)(k:bM)(hk:ba s.data.toList=k)(h2:good k=0):
  az prog 29 #[.string s] w fun e w'=>e=.returned (.tuple #[pv k,I Z 0])/\aq w.heap.size w w':=by
 refine m1w ?_;intro H i3 td g9 b3 b4 P hpl Ml hf ht kH;refine VK ?_;intro T0 hB c0 f0
 go_enter func29,ntmps29
 go_wp2_with (first|(go_at_call 62;refine(VJ s _ hs).mono ?_;rintro e w' ⟨rfl,hb⟩;rw[h0];refine zu ?_;clear T0 hB hb;intro T0 hB c0 f0)|(go_at_call 64;refine(qkj s _ _ i3 td H.kind).mono ?_;rintro e w' ⟨rfl,hb⟩;rw[h1];refine zu ?_;clear T0 hB hb;intro T0 hB c0 f0)|(go_at_call 65;refine(qn9 s _ Ml td H.kind hf ht).mono ?_;rintro e w3 ⟨rfl,hb⟩;refine zu ?_;clear T0 hB hb;intro T0 hB c0 f0;rw[hk];unfold pv;refine m0f ?_;clear hB T0;intro T1 hB T0)|(go_at_call 66;refine(qke k _ kH).mono ?_;rintro e w' ⟨rfl,hb⟩;rw[h2];replace T0:=T0.below hb;replace hB:=hB.trans (hb.mono hB.size);replace T1:=T1.below hb;clear hb;have c0:=T0.cell;have f0:=T0.free;have c1:=T1.cell))
 refine aL (v:=.tuple #[pv k,I Z 0]) (by simp[eQ,results29,go_sem,pv,c0]) rfl ⟨rfl,?_⟩
 iterate 12 (refine fy ?_ (by exact au _) _)
 exact hB
theorem Rx(s:ByteArray)(w:af)(hs:s.size<=140737488351232):
  az prog 29 #[.string s] w fun e w'=>e=.returned (.tuple #[pv (iw s.data.toList),I Z (cj s.data.toList)])/\aq w.heap.size w w':=by
 by_cases h0:m7 s.data.toList=0
 .by_cases h1:lz s.data.toList (aC s.data.toList 9)=0
  ·(have e:cj s.data.toList=good (ba s.data.toList):=by unfold cj;rw[aT om,aT om])
   grind [good,ba,iw,q01,q1d]
  grind [cj,lz,aC,iw,qyw]
 grind [cj,m7,iw,q0g]
def Be(n:Int):Bool:=n==0||n==65535
def Fy(l:List UInt8)(ae:Int):List UInt8:=if Be (bf l (fJ ae))=true then A3 l ae else l
def Bf(h:p:=by
 go_enter func86,ntmps86
 go_wp2_with (first|(go_at_call 126;refine(Hg _ _).mono ?_;rintro e w' ⟨rfl,rfl⟩)|(go_at_call 144;refine(qli p g _ _ h _ hl).mono ?_;rintro e w' ⟨rfl,h,hst⟩;replace hS:=hS.trans hst;clear hst)|(go_at_call 146;refine(two _ _).mono ?_;rintro e w' ⟨rfl,rfl⟩)|(go_at_call 147;refine(qlk p g _ _ h _ hl hm).mono ?_;rintro e w' ⟨rfl,h,hst⟩;replace hS:=hS.trans hst;clear hst))
 go_end0
 exact⟨rfl,by rw[E.out];exact h,hS⟩):p:=h
def qky(p g:Nat)(l:List UInt8)(w:af)(h:Rd w p g l)(ae:Int)(hl:fJ ae+1<l.length)(hm:l.length<=400000):
  az prog 86 #[V (some ⟨p,0,none⟩),I Z ae] w fun e w'=>e=.returned (.tuple #[])/\Rd w' p g (Fy l ae)/\cf p (some g) (some g) w w':=by
 have hS:=cf.refl p (some g) w;(have two:∀(n:Int) (w:af),az prog 146 #[I Z n] w fun e w'=>e=.returned (.bool (Be n))/\w'=w:=qw4)
 by_cases ht:Be (bf l (fJ ae))=true
 ·(have E:Hid (Fy l ae=A3 l ae):=by show _=_;unfold Fy;rw[aZ ht])
  exact Bf
 ·(have E:Hid (Fy l ae=l):=by show _=_;unfold Fy;rw[aT ht])
  exact Bf
def qjw(s:ByteArray)(w:af):∃(C:Array ag) (cap:Nat),
  (convert 9 131 (.string s)).run prog w=.ok (.slice (some ⟨w.heap.size,0,none⟩) s.size cap) (w.drew.alloc (.cells C 5 (C.size,C.size+1)))/\
  s.size<=cap/\(s.size<=jt->cap<=jt)/\C.toList.take s.data.toList.length=bc s.data.toList:=by
 refine⟨_,_,run_bytes_of_string w 9 131 5 s underlying9 underlying131 underlying5,grownCap_ge _ _ _ _,fun h=>grownCap_le_maxLen _ _ _ _ h,?_⟩
 unfold bytesRow bc
 rw[Array.toList_append,List.take_append_of_le_length zm,List.take_of_length_le zm]
 simp
def qrr(w:af)(s:ByteArray)(C:Array ag)(cap p g:Nat)(hg:w.heap.size=g)(hp:w.heap.size+1=p)(h1:s.size<=cap)(h2:cap<=jt)(h3:C.toList.take s.data.toList.length=bc s.data.toList):
  Rd (((w.alloc (.cells C 5 (C.size,C.size+1))).alloc (.cells #[.slice (some ⟨g,0,none⟩) s.size cap] 133)).drew) p g s.data.toList:=by
 show Rd ((w.alloc (.cells C 5 (C.size,C.size+1))).alloc (.cells #[.slice (some ⟨g,0,none⟩) s.size cap] 133)) p g s.data.toList
 subst hg hp
 refine⟨cap,C,(C.size,C.size+1),?_,by omega,?_,.inr (au _),by rw[mf];exact h1,h2,h3⟩
 .rw[mf]
  have:=heap_alloc_new (w.alloc (.cells C 5 (C.size,C.size+1))) (.cells #[.slice (some ⟨w.heap.size,0,none⟩) s.size cap] 133)
  simpa using this
 .rw[fV _ _ _ zm]
  exact heap_alloc_new w _
def q60(s:ByteArray)(side addr port:Int)(w:af)(hs:s.size<=140737488351232)(k:bM)(hk:iw s.data.toList=k)(e0:Int)(hb:cj s.data.toList=e0)(he:e0≠0):
  az prog 40 #[.string s,I Z side,I Z addr,I Z port] w fun e w'=>e=.returned (.tuple #[.string ak,I Z e0])/\aq w.heap.size w w':=by
 (have hz:(e0==0)=false:=by simpa using he)
 go_enter func40,ntmps40
 go_wp2_with (first|(go_at_call 29;refine Hl ?_;intro w1 hb1;unfold pv;refine OP ?_;intro T1;have c1:=T1.cell)|(go_at_call 81;refine(Hk _ _).mono ?_;rintro e w' ⟨rfl,rfl⟩)|(go_at_call 82;refine(Hj _ _).mono ?_;rintro e w' ⟨rfl,rfl⟩)|(go_at_call 83;refine(Ez _ _).mono ?_;rintro e w' ⟨rfl,rfl⟩))
 all_goals
  go_ret2
  exact⟨rfl,hb1.alloc hb1.size _⟩
def q1j(s:ByteArray)(side addr port:Int)(w:af)(hs:s.size<=140737488351232)(k:bM)(hk:iw s.data.toList=k)(hb:cj s.data.toList=0)(h0:side≠0)(h1:side≠1):
  az prog 40 #[.string s,I Z side,I Z addr,I Z port] w fun e w'=>e=.returned (.tuple #[.string ak,I Z 2])/\aq w.heap.size w w':=by
 (have GM:(side==0)=false:=by simpa using h0);(have gY:(side==1)=false:=by simpa using h1)
 go_enter func40,ntmps40
 go_wp2_with (first|(go_at_call 29;refine Hl ?_;intro w1 hb1;unfold pv;refine OP ?_;intro T1;have c1:=T1.cell)|(go_at_call 81;refine(Hk _ _).mono ?_;rintro e w' ⟨rfl,rfl⟩)|(go_at_call 82;refine(Hj _ _).mono ?_;rintro e w' ⟨rfl,rfl⟩)|(go_at_call 83;refine(Ez _ _).mono ?_;rintro e w' ⟨rfl,rfl⟩))
 all_goals
  go_ret2
  exact⟨rfl,hb1.alloc hb1.size _⟩
def q4e(s : ByteArray)(side addr port : Int)(w : af)(hs : s.size <= 140737488351232)(k : bM)(hk : iw s.data.toList = k)(hb : cj s.data.toList = 0)(h0 : side = 0 \/ side = 1)(ha : pg addr = false):
    az prog 40 #[.string s, I Z side, I Z addr, I Z port] w fun e w' => e = .returned (.tuple #[.string ak, I Z 2]) /\ aq w.heap.size w w' := by
  rcases h0 with rfl | rfl
  all_goals
    go_enter func40, ntmps40
    go_wp2_with (first | (go_at_call 29;refine(Rx s _ hs).mono ?_;rintro e w1 ⟨rfl, hb1⟩;rw[hb, hk];unfold pv;have T1 : ew (w1.alloc (.cells #[I Z k.ae, I Z k.src, I Z k.aj, I Z k.dst, I Z k.ai, I Z k.aG, I Z k.id, I Z k.flags, I Z k.seq, I Z k.bo, I Z k.br, .string k.body] 77)) w1.heap.size #[I Z k.ae, I Z k.src, I Z k.aj, I Z k.dst, I Z k.ai, I Z k.aG, I Z k.id, I Z k.flags, I Z k.seq, I Z k.bo, I Z k.br, .string k.body] := heap_alloc_new w1 _) | (go_at_call 81;refine(Hk _ _).mono ?_;rintro e w' ⟨rfl, rfl⟩) | (go_at_call 82;refine(Hj _ _).mono ?_;rintro e w' ⟨rfl, rfl⟩)
 )
    all_goals
      go_ret2
      exact⟨rfl, hb1.alloc hb1.size _⟩
def q34(s:ByteArray)(side addr port:Int)(w:af)(hs:s.size<=140737488351232)(k:bM)(hk:iw s.data.toList=k)(hb:cj s.data.toList=0)(h0:side=0\/side=1)(ha:pg addr=true)(hp:nH port=false):
  az prog 40 #[.string s,I Z side,I Z addr,I Z port] w fun e w'=>e=.returned (.tuple #[.string ak,I Z 2])/\aq w.heap.size w w':=by
 rcases h0 with rfl|rfl
 all_goals
  go_enter func40,ntmps40
  go_wp2_with (first|(go_at_call 29;refine Hl ?_;intro w1 hb1;unfold pv;refine OP ?_;intro T1)|(go_at_call 81;refine(Hk _ _).mono ?_;rintro e w' ⟨rfl,rfl⟩)|(go_at_call 82;refine(Hj _ _).mono ?_;rintro e w' ⟨rfl,rfl⟩)|(go_at_call 83;refine(Ez _ _).mono ?_;rintro e w' ⟨rfl,rfl⟩))
  all_goals
   go_ret2
   exact⟨rfl,hb1.alloc hb1.size _⟩
theorem q2n(s:ByteArray)(side addr port:Int)(w:af)(hs:s.size<=140737488351232)(k:bM)(hk:iw s.data.toList=k)(hb:cj s.data.toList=0)(h0:side=0\/side=1)(ha:pg addr=true)(hp:nH port=true)(h1:k.aG=1):
  az prog 40 #[.string s,I Z side,I Z addr,I Z port] w fun e w'=>e=.returned (.tuple #[.string ak,I Z 12])/\aq w.heap.size w w':=by
 rcases h0 with rfl|rfl
 all_goals
  go_enter func40,ntmps40
  go_wp2_with (first|(go_at_call 29;refine Hl ?_;intro w1 hb1;unfold pv;refine OP ?_;intro T1)|(go_at_call 81;refine(Hk _ _).mono ?_;rintro e w' ⟨rfl,rfl⟩)|(go_at_call 82;refine(Hj _ _).mono ?_;rintro e w' ⟨rfl,rfl⟩)|(go_at_call 83;refine(Ez _ _).mono ?_;rintro e w' ⟨rfl,rfl⟩))
  all_goals
   go_ret2
   exact⟨rfl,hb1.alloc hb1.size _⟩
def Bg(h:p:=by
 clear h3
 go_enter func40,ntmps40
 go_wp2_with (first|(go_at_call 29;refine Hl ?_;intro w1 hb1;unfold pv;refine OP ?_;intro T1;have c1:=T1.cell)|(go_at_call 81;refine(Hk _ _).mono ?_;rintro e w' ⟨rfl,rfl⟩)|(go_at_call 82;refine(Hj _ _).mono ?_;rintro e w' ⟨rfl,rfl⟩)|(go_at_call 83;refine(Ez _ _).mono ?_;rintro e w' ⟨rfl,rfl⟩))
 all_goals
  go_ret2
  exact⟨rfl,hb1.alloc hb1.size _⟩):p:=h
theorem q3e(s:ByteArray)(side addr port:Int)(w:af)(hs:s.size<=140737488351232)(k:bM)(hk:iw s.data.toList=k)(hb:cj s.data.toList=0)(h0:side=0\/side=1)(ha:pg addr=true)(hp:nH port=true)(h1:k.aG≠1)(h2:k.ae=1)(h3:(k.flags==8)≠(side==0)):
  az prog 40 #[.string s,I Z side,I Z addr,I Z port] w fun e w'=>e=.returned (.tuple #[.string ak,I Z 4])/\aq w.heap.size w w':=by
 (have gY:(k.aG==1)=false:=by simpa using h1)
 rcases h0 with rfl|rfl
 ·(have h4:(k.flags==8)=false:=by simpa using h3)
  exact Bg
 ·(have h4:(k.flags==8)=true:=by simpa using h3)
  exact Bg
def qn0(w:af)(cs:Array ag)(t:TypeId)(o1 o2:Obj)(o:Nat):((((w.alloc (.cells cs t)).alloc o1).alloc o2).drew).cell? ⟨w.heap.size,o,none⟩=cs[o]?:=by
 have h:(((w.alloc (.cells cs t)).alloc o1).alloc o2).heap[w.heap.size]?=some (.cells cs t (0,0)):=by
  rw[fV _ _ _ (by simp;omega),fV _ _ _ zm]
  exact heap_alloc_new w _
 show(((w.alloc (.cells cs t)).alloc o1).alloc o2).cell? _=_
 simp[World.cell?,h]
theorem ql4(p g:Nat)(l:List UInt8)(w:af)(h:Rd w p g l)(ae side addr port:Int)(hs:side=0\/side=1)(a0:0<=addr)(a1:addr<=4294967295)(hl:28<=l.length)(hq:fJ ae+1<l.length):
  az prog 85 #[V (some ⟨p,0,none⟩),I Z ae,I Z side,I Z addr,I Z port] w fun e w'=>e=.returned (.tuple #[])/\Rd w' p g (A6 l ae side addr port)/\cf p (some g) (some g) w w':=by grind [q0l,qxk,fJ,A6]
@[simp] theorem qjZ(l:List UInt8)(ae side addr port:Int):(A6 l ae side addr port).length=l.length:=by simp[A6]
def rZ(l:List UInt8)(ae side addr port:Int):List UInt8:=Fy (A6 (ue l) ae side addr port) ae
def qk2{w1:af}{o1 o2 o3:Obj}{G':Option Nat}(hb:aq w.heap.size w w1)(hS:cf (w1.heap.size+1+1) (some (w1.heap.size+1)) G' ((((w1.alloc o1).alloc o2).alloc o3).drew) w'):aq w.heap.size w w':=by
 have h1:=hb.size;have b1:aq w.heap.size w ((((w1.alloc o1).alloc o2).alloc o3).drew):=((((hb.alloc h1 o1).alloc (by simp;omega) o2).alloc (by simp;omega) o3)).drew
 exact b1.trans (hS.below (by have:=b1.size;omega) om (fun k e=>by cases e;omega))
def vF(h:p:=by
 go_wp2_with (first|(go_at_call 29;refine Hl ?_;intro w1 hb1;unfold pv;refine OP ?_;intro T1;have c1:=T1.cell;obtain⟨C,cap,G8,hc1,hc2,hc3⟩:=qjw s (w1.alloc (.cells #[I Z k.ae,I Z k.src,I Z k.aj,I Z k.dst,I Z k.ai,I Z k.aG,I Z k.id,I Z k.flags,I Z k.seq,I Z k.bo,I Z k.br,.string k.body] 77));have h:=qrr (w1.alloc (.cells #[I Z k.ae,I Z k.src,I Z k.aj,I Z k.dst,I Z k.ai,I Z k.aG,I Z k.id,I Z k.flags,I Z k.seq,I Z k.bo,I Z k.br,.string k.body] 77)) s C cap (w1.heap.size+1+1) (w1.heap.size+1) zm zm hc1 (hc2 (by unfold maxLen;omega)) hc3;have hI:Fu w1.heap.size (w1.heap.size+1+1) (some (w1.heap.size+1)) ((((w1.alloc (.cells #[I Z k.ae,I Z k.src,I Z k.aj,I Z k.dst,I Z k.ai,I Z k.aG,I Z k.id,I Z k.flags,I Z k.seq,I Z k.bo,I Z k.br,.string k.body] 77)).alloc (.cells C 5 (C.size,C.size+1))).alloc (.cells #[.slice (some ⟨w1.heap.size+1,0,none⟩) s.size cap] 133)).drew) #[I Z k.ae,I Z k.src,I Z k.aj,I Z k.dst,I Z k.ai,I Z k.aG,I Z k.id,I Z k.flags,I Z k.seq,I Z k.bo,I Z k.br,.string k.body]:=⟨by simp;omega,by omega,by simp,fun o=>qn0 w1 _ _ _ _ o⟩;have hS:=cf.refl (w1.heap.size+1+1) (some (w1.heap.size+1)) ((((w1.alloc (.cells #[I Z k.ae,I Z k.src,I Z k.aj,I Z k.dst,I Z k.ai,I Z k.aG,I Z k.id,I Z k.flags,I Z k.seq,I Z k.bo,I Z k.br,.string k.body] 77)).alloc (.cells C 5 (C.size,C.size+1))).alloc (.cells #[.slice (some ⟨w1.heap.size+1,0,none⟩) s.size cap] 133)).drew);clear hc1 hc2 hc3;have Mn:=hI.cell)|(go_at_call 82;refine(Hj _ _).mono ?_;rintro e w' ⟨rfl,rfl⟩)|(go_at_call 83;refine(Ez _ _).mono ?_;rintro e w' ⟨rfl,rfl⟩)|(go_at_call 84;go_fit (qpk _ _ _ _ h om);rintro e w' ⟨rfl,h,hst⟩;replace hI:=hI.step hst;replace hS:=hS.trans hst;clear hst;have Mn:=hI.cell)|(go_at_call 85;(go_fit (ql4 _ _ _ _ h k.ae _ _ _ om ha'.1 ha'.2 (by simp;omega) (by simp;omega));rintro e w' ⟨rfl,h,hst⟩;replace hI:=hI.step hst;replace hS:=hS.trans hst;clear hst;have Mn:=hI.cell))|(go_at_call 86;go_fit (qky _ _ _ _ h k.ae (by simp;omega) (by simp;omega));rintro e w' ⟨rfl,h,hst⟩;replace hS:=hS.trans hst;clear hst)|(go_at_call 87;go_fit (VD _ _ _ _ h);rintro e w' ⟨rfl,rfl⟩))
 go_ret2
 exact⟨rfl,qk2 hb1 hS⟩):p:=h
def Bh(h:p:=by
 clear h3
 go_enter func40,ntmps40
 exact vF):p:=h
def q8d(s:ByteArray)(side addr port:Int)(w:af)(hs:s.size<=140737488351232)(k:bM)(hk:iw s.data.toList=k)(hb:cj s.data.toList=0)(Fs:side=0\/side=1)(ha:pg addr=true)(hp:nH port=true)(h1:k.aG≠1)(h2:k.ae=1->(k.flags==8)=(side==0))(hl:28<=s.size)(hsm:s.size<=65535)(hq:fJ k.ae+1<s.size):
  az prog 40 #[.string s,I Z side,I Z addr,I Z port] w fun e w'=>e=.returned (.tuple #[.string (bl (rZ s.data.toList k.ae side addr port)),I Z 0])/\aq w.heap.size w w':=by
 (have ha':0<=addr/\addr<=4294967295:=by unfold pg at ha;simpa using ha);have jP:=mf s;(have gY:(k.aG==1)=false:=by simpa using h1);clear h1
 by_cases rb:k.ae=1
 ·(have qcS:(k.ae==1)=true:=by simpa using rb);have h3:=h2 rb;clear h2 rb
  rcases Fs with rfl|rfl
  ·(have h4:(k.flags==8)=true:=by simpa using h3)
   exact Bh
  ·(have h4:(k.flags==8)=false:=by simpa using h3)
   exact Bh
 ·(have qcS:(k.ae==1)=false:=by simpa using rb);clear h2 rb
  rcases Fs with rfl|rfl
  .go_enter func40,ntmps40
   exact vF
  .go_enter func40,ntmps40
   exact vF
end
theorem q9u(p:bM)(n c:Int):0<bJ (hd p n c):=by
 have h1:=UJ ((hd p n c).drop 2);have e:hd p n c=[69,0]++(hd p n c).drop 2:=rfl
 grind [bJ]
def qr6(p:bM):0<=rO p/\rO p<=65534:=by
 unfold rO
 have:=uT (bJ (hd p (dQ p) 0));have:=q3x (bJ (hd p (dQ p) 0)) (by have:=q9u p (dQ p) 0;omega);omega
theorem qr4(p:bM)(c:Int):(pt p c).length%2=0:=by
 unfold pt;split<;>(try split)<;>simp[cr,iM]
theorem qsl(a b c n:Int):(ps a b c n).length%2=0:=by
 unfold ps;split<;>simp
theorem q9r(p:bM)(c:Int)(h0:0<=c)(h1:c<=65535):bJ (pt p c)=bJ (pt p 0)+c:=by
 unfold pt
 split
 .grind [cr,bJ,qR]
 .split
  .grind [cr,bJ,qR]
  .unfold iM cr
   simp only[List.cons_append,List.nil_append,bJ,qR]
   omega
def mh(p:bM)(c:Int):Int:=bJ (ps p.src p.dst p.ae (gH p.ae+p.body.size)++(pt p c++p.body.data.toList))
theorem qxw(p:bM)(c:Int)(h0:0<=c)(h1:c<=65535):mh p c=mh p 0+c:=by
 unfold mh
 rw[kX _ _ (qsl _ _ _ _),kX _ _ (qsl _ _ _ _),kX _ _ (qr4 _ _),kX _ _ (qr4 _ _),q9r p c h0 h1]
 omega
theorem qw6(l:List UInt8)(h:o9 l):m7 l=0:=by
 unfold m7
 have h1:=h.len
 rw[aT om,aT (by have:=h.mark;omega),aT (by have:=h.size;omega),aT (by have:=h.sum;omega),aT (by have:=h.yn;omega),aT (by have:=h.piece;omega),aT h.aG,aT (by rw[h.kind];simp)]
section
variable (k:bM) (c1 c2:Int)
end
theorem yu(c m n:Int)(c0:0<=c)(c1:c<=65535)(m0:0<=m)(m1:m<=65535)(n0:0<=n)(n1:n<=65535):fo c m n%65535=(c+m-n)%65535:=by
 unfold fo
 (rw[show c%65536=c by omega,show m%65536=m by omega,show n%65536=n by omega])
 grind [N8]
def yv(c m n:Int):0<=fo c m n/\fo c m n<=65535:=by
 unfold fo
 have:=uT (bk (65535-c%65536+(65535-m%65536))+n%65536);omega
def Ry(c m n:Int)(c0:0<=c)(c1:c<=65535)(m0:0<=m)(m1:m<=65535)(n0:0<=n)(n1:n<=65535)(h:0<n\/c<65535):fo c m n<=65534:=by
 unfold fo
 (rw[show c%65536=c by omega,show m%65536=m by omega,show n%65536=n by omega]);have h1:=uT (65535-c+(65535-m));have h2:=qo6 (65535-c+(65535-m));have h3:=q3x (bk (65535-c+(65535-m))+n) om
 omega
def qwq(k:bM)(c1 c2:Int):et (fr k c1 c2) 8 (k.aG*256+k.ae-256)=fr { k with aG:=k.aG-1 } c1 c2\/¬(0<=k.ae/\k.ae<=255):=by
 by_cases h:0<=k.ae/\k.ae<=255
 .left
  have e1:b8 ((k.aG*256+k.ae-256)/256)=b8 (k.aG-1):=qd _ _ om;have e2:b8 (k.aG*256+k.ae-256)=b8 k.ae:=qd _ _ om
  unfold et
  rw[e1,e2];rfl
 omega
theorem pj(h:p:=by
 rw[E]
 unfold et fr hd iM cr
 simp_all):p:=h
theorem qte(k:bM)(c1 c2 a:Int):et (fr k c1 c2) 12 a=fr { k with src:=a*65536+k.src%65536 } c1 c2:=by
 have e1:b8 (a/256)=b8 ((a*65536+k.src%65536)/65536/256):=qd _ _ om;have e2:b8 a=b8 ((a*65536+k.src%65536)/65536):=qd _ _ om;have e3:b8 (k.src/256)=b8 ((a*65536+k.src%65536)/256):=qd _ _ om;have e4:b8 k.src=b8 (a*65536+k.src%65536):=qd _ _ om;have E:fr { k with src:=a*65536+k.src%65536 } c1 c2=(hd { k with src:=a*65536+k.src%65536 } (dQ k) c1)++(pt k c2++k.body.data.toList):=rfl
 exact pj
theorem qtw(k:bM)(c1 c2 a:Int)(h0:0<=a)(h1:a<=65535):et (fr k c1 c2) 14 a=fr { k with src:=k.src/65536*65536+a } c1 c2:=by
 have e1:b8 (k.src/65536/256)=b8 ((k.src/65536*65536+a)/65536/256):=qd _ _ om;have e2:b8 (k.src/65536)=b8 ((k.src/65536*65536+a)/65536):=qd _ _ om;have e3:b8 (a/256)=b8 ((k.src/65536*65536+a)/256):=qd _ _ om;have e4:b8 a=b8 (k.src/65536*65536+a):=qd _ _ om;have E:fr { k with src:=k.src/65536*65536+a } c1 c2=(hd { k with src:=k.src/65536*65536+a } (dQ k) c1)++(pt k c2++k.body.data.toList):=rfl
 exact pj
theorem qsr(k:bM)(c1 c2 a:Int):et (fr k c1 c2) 16 a=fr { k with dst:=a*65536+k.dst%65536 } c1 c2:=by
 have e1:b8 (a/256)=b8 ((a*65536+k.dst%65536)/65536/256):=qd _ _ om;have e2:b8 a=b8 ((a*65536+k.dst%65536)/65536):=qd _ _ om;have e3:b8 (k.dst/256)=b8 ((a*65536+k.dst%65536)/256):=qd _ _ om;have e4:b8 k.dst=b8 (a*65536+k.dst%65536):=qd _ _ om;have E:fr { k with dst:=a*65536+k.dst%65536 } c1 c2=(hd { k with dst:=a*65536+k.dst%65536 } (dQ k) c1)++(pt k c2++k.body.data.toList):=rfl
 exact pj
theorem qt1(k:bM)(c1 c2 a:Int)(h0:0<=a)(h1:a<=65535):et (fr k c1 c2) 18 a=fr { k with dst:=k.dst/65536*65536+a } c1 c2:=by
 have e1:b8 (k.dst/65536/256)=b8 ((k.dst/65536*65536+a)/65536/256):=qd _ _ om;have e2:b8 (k.dst/65536)=b8 ((k.dst/65536*65536+a)/65536):=qd _ _ om;have e3:b8 (a/256)=b8 ((k.dst/65536*65536+a)/256):=qd _ _ om;have e4:b8 a=b8 (k.dst/65536*65536+a):=qd _ _ om;have E:fr { k with dst:=k.dst/65536*65536+a } c1 c2=(hd { k with dst:=k.dst/65536*65536+a } (dQ k) c1)++(pt k c2++k.body.data.toList):=rfl
 exact pj
def qy3(k:bM)(c1 c2 a:Int)(h:k.ae≠1):et (fr k c1 c2) 20 a=fr { k with aj:=a } c1 c2:=by
 unfold et fr pt
 simp only[h,if_false]
 split<;>rfl
def q0e(k:bM)(c1 c2 a:Int)(h:k.ae≠1):et (fr k c1 c2) 22 a=fr { k with ai:=a } c1 c2:=by
 unfold et fr pt
 simp only[h,if_false]
 split<;>rfl
def qyn(k:bM)(c1 c2 a:Int)(h:k.ae=1)(Mo:k.ai=0):et (fr k c1 c2) 24 a=fr { k with aj:=a } c1 c2:=by
 have E:fr { k with aj:=a } c1 c2=hd k (dQ k) c1++(([b8 k.flags,0]++cr c2++cr (a+k.ai)++cr k.seq)++k.body.data.toList):=by
  show hd k (dQ k) c1++(pt { k with aj:=a } c2++k.body.data.toList)=_
  unfold pt;rw[aZ h]
 rw[E,Mo,Int.add_zero]
 unfold et fr pt
 rw[aZ h]
 rfl
def qyk(k:bM)(c1 c2 a:Int)(h:k.ae=1)(Mo:k.aj=0):et (fr k c1 c2) 24 a=fr { k with ai:=a } c1 c2:=by
 have E:fr { k with ai:=a } c1 c2=hd k (dQ k) c1++(([b8 k.flags,0]++cr c2++cr (k.aj+a)++cr k.seq)++k.body.data.toList):=by
  show hd k (dQ k) c1++(pt { k with ai:=a } c2++k.body.data.toList)=_
  unfold pt;rw[aZ h]
 rw[E,Mo,Int.zero_add]
 unfold et fr pt
 rw[aZ h]
 rfl
theorem Fz(x:Int):((b8 (x/256)).toNat:Int)*256+((b8 x).toNat:Int)=x%65536:=by grind [qR]
section
variable (k:bM) (c1 c2:Int)
theorem qrz:bf (fr k c1 c2) 8=k.aG%256*256+k.ae%256:=by rw[←qR,←qR];rfl
theorem q69(h0:0<=c1)(h1:c1<=65535):bf (fr k c1 c2) 10=c1:=(Fz c1).trans om
theorem qyd:bf (fr k c1 c2) 12=k.src/65536%65536:=Fz (k.src/65536)
theorem qxs:bf (fr k c1 c2) 14=k.src%65536:=Fz k.src
theorem qyb:bf (fr k c1 c2) 16=k.dst/65536%65536:=Fz (k.dst/65536)
theorem qyi:bf (fr k c1 c2) 18=k.dst%65536:=Fz k.dst
theorem q5v(h:k.ae≠1):bf (fr k c1 c2) 20=k.aj%65536:=by
 refine Eq.trans ?_ (Fz k.aj)
 unfold fr pt
 simp only[h,if_false]
 split<;>rfl
theorem q43(h:k.ae≠1):bf (fr k c1 c2) 22=k.ai%65536:=by
 refine Eq.trans ?_ (Fz k.ai)
 unfold fr pt
 simp only[h,if_false]
 split<;>rfl
theorem qyg(h:k.ae=1):bf (fr k c1 c2) 24=(k.aj+k.ai)%65536:=by
 refine Eq.trans ?_ (Fz (k.aj+k.ai))
 unfold fr pt
 simp only[h,if_true]
 rfl
theorem qz4(hk:jE k.ae=true)(h0:0<=c2)(h1:c2<=65535):bf (fr k c1 c2) (fJ k.ae)=c2:=by
 refine Eq.trans ?_ ((Fz c2).trans om)
 unfold fr pt fJ
 unfold jE at hk
 simp at hk
 rcases hk with(h|h)|h<;>simp only[h]<;>rfl
end
theorem OQ(p:bM)(len:Int):bJ (hd p len 0)=17664+len%65536+p.id%65536+(p.aG%256*256+p.ae%256)+(p.src/65536%65536+p.src%65536)+(p.dst/65536%65536+p.dst%65536):=by
 unfold hd
 simp only[eL]
 rw[kX _ [69,0] zm,kX _ (cr len) zm,kX _ (cr p.id) zm,kX _ (cr 0) zm,kX _ [b8 p.aG,b8 p.ae] zm,kX _ (cr 0) zm,kX _ (iM p.src) zm,
  zV,zV,zV,UL,UL]
 grind [bJ,qR]
def Bi(p:bM):Int:=if p.ae=1 then(p.aj+p.ai)%65536 else p.aj%65536+p.ai%65536
def Bj(p:bM):Int:=if p.ae=1 then 0 else p.src/65536%65536+p.src%65536+(p.dst/65536%65536+p.dst%65536)
def uK(p:bM):Int:=if p.ae=1 then p.flags%256*256+p.seq%65536+bJ p.body.data.toList
 else if p.ae=17 then 17+(8+p.body.size)%65536+(8+p.body.size)%65536+bJ p.body.data.toList
 else p.ae%65536+(gH p.ae+p.body.size)%65536+p.seq/65536%65536+p.seq%65536+p.bo/65536%65536+p.bo%65536+20480+p.flags%256+p.br%65536+bJ p.body.data.toList
theorem OS(p:bM):mh p 0=Bj p+Bi p+uK p:=by
 unfold mh
 rw[kX _ _ (qsl _ _ _ _),kX _ _ (qr4 _ _)]
 unfold ps pt Bj Bi uK
 by_cases h1:p.ae=1
 .simp only[h1,if_true,eL]
  rw[kX _ [b8 p.flags,0] zm,kX _ (cr 0) zm,kX _ (cr _) zm,zV,zV,zV]
  grind [bJ,qR]
 .by_cases h2:p.ae=17
  .simp only[h2,if_true,eL,aT (show ¬(17:Int)=1 by omega),show gH 17=8 from rfl]
   rw[kX _ (iM _) zm,kX _ (iM _) zm,kX _ (cr 17) zm,kX _ (cr _) zm,kX _ (cr _) zm,kX _ (cr _) zm]
   grind [zV,UL]
  .simp only[h1,h2,if_false,eL]
   rw[kX _ (iM _) zm,kX _ (iM _) zm,kX _ (cr p.ae) zm,kX _ (cr p.aj) zm,kX _ (cr p.ai) zm,kX _ (iM p.seq) zm,kX _ (iM p.bo) zm,kX _ [80,b8 p.flags] zm,kX _ (cr p.br) zm,kX _ (cr 0) zm]
   grind [zV,UL,bJ,qR]
theorem Rz(k k':bM)(c1 c2 n m:Int)(pos:Nat)(yw:∀c1 c2,et (fr k c1 c2) pos n=fr k' c1 c2)(hm:∀c1 c2,bf (fr k c1 c2) pos=m)(h0:0<=c1)(h1:c1<=65535):moved (fr k c1 c2) pos n [10]=fr k' (fo c1 m n) c2:=by grind [moved,ny,ud,q69,qt0,et,bf,fo]
theorem VL(k k':bM)(c1 c2 n m:Int)(pos:Nat)(hk:jE k.ae=true)(yw:∀c1 c2,et (fr k c1 c2) pos n=fr k' c1 c2)(hm:∀c1 c2,bf (fr k c1 c2) pos=m)(h0:0<=c2)(h1:c2<=65535):moved (fr k c1 c2) pos n [fJ k.ae]=fr k' c1 (fo c2 m n):=by grind [moved,ny,ud,qz4,Rq,jE,et,bf,fJ,fo]
theorem VM(k k':bM)(c1 c2 n m:Int)(pos:Nat)(hk:jE k.ae=true)(yw:∀c1 c2,et (fr k c1 c2) pos n=fr k' c1 c2)(hm:∀c1 c2,bf (fr k c1 c2) pos=m)(h0:0<=c1)(h1:c1<=65535)(h2:0<=c2)(h3:c2<=65535):moved (fr k c1 c2) pos n [10,fJ k.ae]=fr k' (fo c1 m n) (fo c2 m n):=by grind [moved,ny,ud,q69,qt0,qz4,Rq,jE,et,bf,fJ,fo]
def turned(k:bM)(side addr port:Int):bM:=if side=0 then { k with aG:=k.aG-1,src:=addr,aj:=port } else { k with aG:=k.aG-1,dst:=addr,ai:=port }
theorem VN(q:bM)(c1 c2:Int)(hk:jE q.ae=true)(h0:0<=c1)(h1:c1<=65534)(h2:0<=c2)(h3:c2<=65535)(m1:(c1+bJ (hd q (dQ q) 0))%65535=0)(m2:(c2+mh q 0)%65535=0):
  Fy (fr q c1 c2) q.ae=frame q:=by
 have e1:c1=rO q:=by
  have a:=qr6 q;have b:=N8 (bJ (hd q (dQ q) 0))
  grind [rO]
 unfold Fy frame
 rw[qz4 _ _ _ hk h2 h3]
 by_cases ht:Be c2=true
 .grind [A3,Rq,qwj]
 .rw[aT ht];have e3:pK q=65535-bk (mh q 0):=rfl;have b:=N8 (mh q 0);have d:=uT (mh q 0)
  grind [Be,pK,oO]
def VO(c1 d1 d2 d3 t0 t1 x1 x2 y1 y2 r:Int)(h1:d1%65535=(c1+t0-t1)%65535)(h2:d2%65535=(d1+x1-y1)%65535)(h3:d3%65535=(d2+x2-y2)%65535)(h:(c1+(r+t0+x1+x2))%65535=0):(d3+(r+t1+y1+y2))%65535=0:=by omega
def Bl(h:p:=by
 (have e:bf (fr k c1 c2) 8=k.aG*256+k.ae:=by rw[qrz];omega)
 have:=Rz k { k with aG:=k.aG-1 } c1 c2 (k.aG*256+k.ae-256) (k.aG*256+k.ae) 8 (fun a b=>by rcases qwq k a b with x|x;exact x;omega) (fun a b=>by rw[qrz];omega) h0 h1
 unfold ue;rw[e];exact this):p:=h
theorem qxi(k:bM)(c1 c2 side addr port:Int)(hg:good k=0)(jF:k.ae=1)(hs:side=0\/side=1)(ha:0<=addr/\addr<=4294967295)(hp:0<=port/\port<=65535)(_ht:k.aG≠1)(hf:(k.flags==8)=(side==0))(h0:0<=c1)(h1:c1<=65535)(h2:0<=c2)(h3:c2<=65535)(m1:(c1+bJ (hd k (dQ k) 0))%65535=0)(m2:(c2+mh k 0)%65535=0):
  rZ (fr k c1 c2) k.ae side addr port=frame (turned k side addr port):=by
 obtain⟨hk,hr,hb,zk⟩:=uJ k hg;have R:=(yg k).1 hr;have F:=((Ot k).1 zk).1 jF
 rw[OQ] at m1
 rw[OS] at m2
 have A:ue (fr k c1 c2)=fr { k with aG:=k.aG-1 } (fo c1 (k.aG*256+k.ae) (k.aG*256+k.ae-256)) c2:=by
  exact Bl
 refine m43 ?_;intro u1 l1 b1
 unfold rZ
 rw[A]
 generalize fo c1 (k.aG * 256+k.ae) (k.aG * 256+k.ae - 256)=d1 at *
 clear A
 unfold A6 OL vE
 rw[aZ jF,aZ jF]
 rcases hs with rfl|rfl
 ·(have k7:k.flags=8:=by simpa using hf);(have hdp:k.ai=0:=by rcases F.1 with x|x<;>omega);rw[show OJ 0=12 from rfl]
  rw[Rz { k with aG:=k.aG-1 } { k with aG:=k.aG-1,src:=addr/65536*65536+k.src%65536 } d1 c2 (addr/65536) (k.src/65536) 12 (fun a b=>qte _ a b _) (fun a b=>by rw[qyd];show k.src/65536%65536=_;omega) b1.1 om]
  refine m5s ?_;intro u2 l2 b2
  generalize fo d1 (k.src/65536) (addr/65536)=d2 at *
  rw[Rz { k with aG:=k.aG-1,src:=addr/65536*65536+k.src%65536 } { k with aG:=k.aG-1,src:=addr } d2 c2 (addr%65536) (k.src%65536) 14 (fun a b=>by rw[qtw _ a b _ om om];congr 2;show(addr/65536*65536+k.src%65536)/65536*65536+addr%65536=addr;omega) (fun a b=>by rw[qxs];show(addr/65536*65536+k.src%65536)%65536=_;omega) b2.1 om]
  refine m5t ?_;intro u3 l3 b3
  generalize fo d2 (k.src % 65536) (addr % 65536)=d3 at *
  (have P:=VL { k with aG:=k.aG-1,src:=addr } { k with aG:=k.aG-1,src:=addr,aj:=port } d3 c2 port k.aj 24 hk (fun a b=>qyn _ a b _ jF hdp) (fun a b=>by rw[qyg _ _ _ (by exact jF)];show(k.aj+k.ai)%65536=_;omega) h2 h3)
  rw[show({ k with aG:=k.aG-1,src:=addr }:bM).ae=k.ae from rfl] at P
  rw[P];have u4:=yu c2 k.aj port h2 h3 om om om om;have b4:=yv c2 k.aj port
  generalize fo c2 k.aj port=d4 at *
  have S:=VN { k with aG:=k.aG-1,src:=addr,aj:=port } d3 d4 hk om om om om
   (by
    (have e1:17664+dQ k%65536+k.id%65536+(k.aG%256*256+k.ae%256)+(k.src/65536%65536+k.src%65536)+(k.dst/65536%65536+k.dst%65536)=17664+dQ k%65536+k.id%65536+(k.dst/65536%65536+k.dst%65536)+(k.aG*256+k.ae)+k.src/65536+k.src%65536:=by clear u1 u2 u3 u4 m1 m2;omega);(have e2:17664+dQ k%65536+k.id%65536+((k.aG-1)%256*256+k.ae%256)+(addr/65536%65536+addr%65536)+(k.dst/65536%65536+k.dst%65536)=17664+dQ k%65536+k.id%65536+(k.dst/65536%65536+k.dst%65536)+(k.aG*256+k.ae-256)+addr/65536+addr%65536:=by clear u1 u2 u3 u4 m1 m2;omega)
    rw[e1] at m1
    rw[OQ];show(d3+(17664+dQ k%65536+k.id%65536+((k.aG-1)%256*256+k.ae%256)+(addr/65536%65536+addr%65536)+(k.dst/65536%65536+k.dst%65536)))%65535=0
    rw[e2];exact VO _ _ _ _ _ _ _ _ _ _ _ u1 u2 u3 m1)
   (by rw[OS];unfold Bj Bi uK at *;simp only[jF,if_true] at *;omega)
  exact S
 ·(have k7:k.flags≠8:=by simpa using hf);(have hdp:k.aj=0:=by rcases F.1 with x|x<;>omega);rw[show OJ 1=16 from rfl]
  rw[Rz { k with aG:=k.aG-1 } { k with aG:=k.aG-1,dst:=addr/65536*65536+k.dst%65536 } d1 c2 (addr/65536) (k.dst/65536) 16 (fun a b=>qsr _ a b _) (fun a b=>by rw[qyb];show k.dst/65536%65536=_;omega) b1.1 om]
  refine m5u ?_;intro u2 l2 b2
  generalize fo d1 (k.dst/65536) (addr/65536)=d2 at *
  rw[Rz { k with aG:=k.aG-1,dst:=addr/65536*65536+k.dst%65536 } { k with aG:=k.aG-1,dst:=addr } d2 c2 (addr%65536) (k.dst%65536) 18 (fun a b=>by rw[qt1 _ a b _ om om];congr 2;show(addr/65536*65536+k.dst%65536)/65536*65536+addr%65536=addr;omega) (fun a b=>by rw[qyi];show(addr/65536*65536+k.dst%65536)%65536=_;omega) b2.1 om]
  refine m5v ?_;intro u3 l3 b3
  generalize fo d2 (k.dst % 65536) (addr % 65536)=d3 at *
  (have P:=VL { k with aG:=k.aG-1,dst:=addr } { k with aG:=k.aG-1,dst:=addr,ai:=port } d3 c2 port k.ai 24 hk (fun a b=>qyk _ a b _ jF hdp) (fun a b=>by rw[qyg _ _ _ (by exact jF)];show(k.aj+k.ai)%65536=_;omega) h2 h3)
  rw[show({ k with aG:=k.aG-1,dst:=addr }:bM).ae=k.ae from rfl] at P
  rw[P];have u4:=yu c2 k.ai port h2 h3 om om om om;have b4:=yv c2 k.ai port
  generalize fo c2 k.ai port=d4 at *
  have S:=VN { k with aG:=k.aG-1,dst:=addr,ai:=port } d3 d4 hk om om om om
   (by
    (have e1:17664+dQ k%65536+k.id%65536+(k.aG%256*256+k.ae%256)+(k.src/65536%65536+k.src%65536)+(k.dst/65536%65536+k.dst%65536)=17664+dQ k%65536+k.id%65536+(k.src/65536%65536+k.src%65536)+(k.aG*256+k.ae)+k.dst/65536+k.dst%65536:=by clear u1 u2 u3 u4 m1 m2;omega);(have e2:17664+dQ k%65536+k.id%65536+((k.aG-1)%256*256+k.ae%256)+(k.src/65536%65536+k.src%65536)+(addr/65536%65536+addr%65536)=17664+dQ k%65536+k.id%65536+(k.src/65536%65536+k.src%65536)+(k.aG*256+k.ae-256)+addr/65536+addr%65536:=by clear u1 u2 u3 u4 m1 m2;omega)
    rw[e1] at m1
    rw[OQ];show(d3+(17664+dQ k%65536+k.id%65536+((k.aG-1)%256*256+k.ae%256)+(k.src/65536%65536+k.src%65536)+(addr/65536%65536+addr%65536)))%65535=0
    rw[e2];exact VO _ _ _ _ _ _ _ _ _ _ _ u1 u2 u3 m1)
   (by rw[OS];unfold Bj Bi uK at *;simp only[jF,if_true] at *;omega)
  exact S
def qxz(c1 d1 d2 d3 x1 x2 y1 y2 x3 y3 r:Int)(h1:d1%65535=(c1+x1-y1)%65535)(h2:d2%65535=(d1+x2-y2)%65535)(h3:d3%65535=(d2+x3-y3)%65535)(h:(c1+(r+x1+x2+x3))%65535=0):(d3+(r+y1+y2+y3))%65535=0:=by omega
def Bn(h:p:=by
 unfold Bj Bi;rw[aT (by exact jF),aT (by exact jF)];clear u1 u2 u3 u4 v2 v3 m1 m2;simp only[];omega):p:=h
theorem quu(k:bM)(c1 c2 side addr port:Int)(hg:good k=0)(jF:k.ae≠1)(hs:side=0\/side=1)(ha:0<=addr/\addr<=4294967295)(hp:0<=port/\port<=65535)(_ht:k.aG≠1)(h0:0<=c1)(h1:c1<=65535)(h2:0<=c2)(h3:c2<=65535)(m1:(c1+bJ (hd k (dQ k) 0))%65535=0)(m2:(c2+mh k 0)%65535=0):
  rZ (fr k c1 c2) k.ae side addr port=frame (turned k side addr port):=by
 obtain⟨hk,hr,hb,zk⟩:=uJ k hg;have R:=(yg k).1 hr;have K:=(Hd _).1 hk
 rw[OQ] at m1
 rw[OS] at m2
 have A:ue (fr k c1 c2)=fr { k with aG:=k.aG-1 } (fo c1 (k.aG*256+k.ae) (k.aG*256+k.ae-256)) c2:=by
  exact Bl
 refine m43 ?_;intro u1 l1 b1
 unfold rZ
 rw[A]
 generalize fo c1 (k.aG * 256+k.ae) (k.aG * 256+k.ae - 256)=d1 at *
 clear A
 unfold A6 OL vE
 rw[aT jF,aT jF]
 rcases hs with rfl|rfl
 .rw[show OJ 0=12 from rfl,aZ rfl];have M1:=VM { k with aG:=k.aG-1 } { k with aG:=k.aG-1,src:=addr/65536*65536+k.src%65536 } d1 c2 (addr/65536) (k.src/65536) 12 hk (fun a b=>qte _ a b _) (fun a b=>by rw[qyd];show k.src/65536%65536=_;omega) b1.1 om h2 h3
  rw[show({ k with aG:=k.aG-1 }:bM).ae=k.ae from rfl] at M1
  rw[M1];clear M1;refine m5s ?_;intro u2 l2 b2
  generalize fo d1 (k.src/65536) (addr/65536)=d2 at *
  have v2:=yu c2 (k.src/65536) (addr/65536) h2 h3 om om om om;have f2:=yv c2 (k.src/65536) (addr/65536)
  generalize fo c2 (k.src/65536) (addr/65536)=e2 at *
  (have M2:=VM { k with aG:=k.aG-1,src:=addr/65536*65536+k.src%65536 } { k with aG:=k.aG-1,src:=addr } d2 e2 (addr%65536) (k.src%65536) 14 hk (fun a b=>by rw[qtw _ a b _ om om];congr 2;show(addr/65536*65536+k.src%65536)/65536*65536+addr%65536=addr;omega) (fun a b=>by rw[qxs];show(addr/65536*65536+k.src%65536)%65536=_;omega) b2.1 om f2.1 f2.2)
  rw[show({ k with aG:=k.aG-1,src:=addr/65536*65536+k.src%65536 }:bM).ae=k.ae from rfl] at M2
  rw[M2];clear M2;refine m5t ?_;intro u3 l3 b3
  generalize fo d2 (k.src % 65536) (addr % 65536)=d3 at *
  have v3:=yu e2 (k.src%65536) (addr%65536) f2.1 f2.2 om om om om;have f3:=yv e2 (k.src%65536) (addr%65536)
  generalize fo e2 (k.src % 65536) (addr % 65536)=e3 at *
  (have P:=VL { k with aG:=k.aG-1,src:=addr } { k with aG:=k.aG-1,src:=addr,aj:=port } d3 e3 port k.aj 20 hk (fun a b=>qy3 _ a b _ jF) (fun a b=>by rw[q5v _ _ _ (by exact jF)];show k.aj%65536=_;omega) f3.1 f3.2)
  rw[show({ k with aG:=k.aG-1,src:=addr }:bM).ae=k.ae from rfl] at P
  rw[P];clear P;have u4:=yu e3 k.aj port f3.1 f3.2 om om om om;have b4:=yv e3 k.aj port
  generalize fo e3 k.aj port=d4 at *
  have S:=VN { k with aG:=k.aG-1,src:=addr,aj:=port } d3 d4 hk om om om om
   (by
    (have e1:17664+dQ k%65536+k.id%65536+(k.aG%256*256+k.ae%256)+(k.src/65536%65536+k.src%65536)+(k.dst/65536%65536+k.dst%65536)=17664+dQ k%65536+k.id%65536+(k.dst/65536%65536+k.dst%65536)+(k.aG*256+k.ae)+k.src/65536+k.src%65536:=by clear u1 u2 u3 u4 v2 v3 m1 m2;omega);(have e2:17664+dQ k%65536+k.id%65536+((k.aG-1)%256*256+k.ae%256)+(addr/65536%65536+addr%65536)+(k.dst/65536%65536+k.dst%65536)=17664+dQ k%65536+k.id%65536+(k.dst/65536%65536+k.dst%65536)+(k.aG*256+k.ae-256)+addr/65536+addr%65536:=by clear u1 u2 u3 u4 v2 v3 m1 m2;omega)
    rw[e1] at m1
    rw[OQ];show(d3+(17664+dQ k%65536+k.id%65536+((k.aG-1)%256*256+k.ae%256)+(addr/65536%65536+addr%65536)+(k.dst/65536%65536+k.dst%65536)))%65535=0
    rw[e2];exact VO _ _ _ _ _ _ _ _ _ _ _ u1 u2 u3 m1)
   (by
    (have e1:Bj k+Bi k+uK k=uK k+(k.dst/65536%65536+k.dst%65536)+k.ai+k.src/65536+k.src%65536+k.aj:=by unfold Bj Bi;rw[aT jF,aT jF];clear u1 u2 u3 u4 v2 v3 m1 m2;omega)
    have e2:Bj { k with aG:=k.aG-1,src:=addr,aj:=port } + Bi { k with aG:=k.aG-1,src:=addr,aj:=port } + uK { k with aG:=k.aG-1,src:=addr,aj:=port }=uK k+(k.dst/65536%65536+k.dst%65536)+k.ai+addr/65536+addr%65536+port:=by
     rw[show uK { k with aG:=k.aG-1,src:=addr,aj:=port }=uK k from rfl]
     exact Bn
    rw[e1] at m2;rw[OS,e2];exact qxz _ _ _ _ _ _ _ _ _ _ _ v2 v3 u4 m2)
  exact S
 .rw[show OJ 1=16 from rfl,aT om];have M1:=VM { k with aG:=k.aG-1 } { k with aG:=k.aG-1,dst:=addr/65536*65536+k.dst%65536 } d1 c2 (addr/65536) (k.dst/65536) 16 hk (fun a b=>qsr _ a b _) (fun a b=>by rw[qyb];show k.dst/65536%65536=_;omega) b1.1 om h2 h3
  rw[show({ k with aG:=k.aG-1 }:bM).ae=k.ae from rfl] at M1
  rw[M1];clear M1;refine m5u ?_;intro u2 l2 b2
  generalize fo d1 (k.dst/65536) (addr/65536)=d2 at *
  have v2:=yu c2 (k.dst/65536) (addr/65536) h2 h3 om om om om;have f2:=yv c2 (k.dst/65536) (addr/65536)
  generalize fo c2 (k.dst/65536) (addr/65536)=e2 at *
  (have M2:=VM { k with aG:=k.aG-1,dst:=addr/65536*65536+k.dst%65536 } { k with aG:=k.aG-1,dst:=addr } d2 e2 (addr%65536) (k.dst%65536) 18 hk (fun a b=>by rw[qt1 _ a b _ om om];congr 2;show(addr/65536*65536+k.dst%65536)/65536*65536+addr%65536=addr;omega) (fun a b=>by rw[qyi];show(addr/65536*65536+k.dst%65536)%65536=_;omega) b2.1 om f2.1 f2.2)
  rw[show({ k with aG:=k.aG-1,dst:=addr/65536*65536+k.dst%65536 }:bM).ae=k.ae from rfl] at M2
  rw[M2];clear M2;refine m5v ?_;intro u3 l3 b3
  generalize fo d2 (k.dst % 65536) (addr % 65536)=d3 at *
  have v3:=yu e2 (k.dst%65536) (addr%65536) f2.1 f2.2 om om om om;have f3:=yv e2 (k.dst%65536) (addr%65536)
  generalize fo e2 (k.dst % 65536) (addr % 65536)=e3 at *
  (have P:=VL { k with aG:=k.aG-1,dst:=addr } { k with aG:=k.aG-1,dst:=addr,ai:=port } d3 e3 port k.ai 22 hk (fun a b=>q0e _ a b _ jF) (fun a b=>by rw[q43 _ _ _ (by exact jF)];show k.ai%65536=_;omega) f3.1 f3.2)
  rw[show({ k with aG:=k.aG-1,dst:=addr }:bM).ae=k.ae from rfl] at P
  rw[P];clear P;have u4:=yu e3 k.ai port f3.1 f3.2 om om om om;have b4:=yv e3 k.ai port
  generalize fo e3 k.ai port=d4 at *
  have S:=VN { k with aG:=k.aG-1,dst:=addr,ai:=port } d3 d4 hk om om om om
   (by
    (have e1:17664+dQ k%65536+k.id%65536+(k.aG%256*256+k.ae%256)+(k.src/65536%65536+k.src%65536)+(k.dst/65536%65536+k.dst%65536)=17664+dQ k%65536+k.id%65536+(k.src/65536%65536+k.src%65536)+(k.aG*256+k.ae)+k.dst/65536+k.dst%65536:=by clear u1 u2 u3 u4 v2 v3 m1 m2;omega);(have e2:17664+dQ k%65536+k.id%65536+((k.aG-1)%256*256+k.ae%256)+(k.src/65536%65536+k.src%65536)+(addr/65536%65536+addr%65536)=17664+dQ k%65536+k.id%65536+(k.src/65536%65536+k.src%65536)+(k.aG*256+k.ae-256)+addr/65536+addr%65536:=by clear u1 u2 u3 u4 v2 v3 m1 m2;omega)
    rw[e1] at m1
    rw[OQ];show(d3+(17664+dQ k%65536+k.id%65536+((k.aG-1)%256*256+k.ae%256)+(k.src/65536%65536+k.src%65536)+(addr/65536%65536+addr%65536)))%65535=0
    rw[e2];exact VO _ _ _ _ _ _ _ _ _ _ _ u1 u2 u3 m1)
   (by
    (have e1:Bj k+Bi k+uK k=uK k+(k.src/65536%65536+k.src%65536)+k.aj+k.dst/65536+k.dst%65536+k.ai:=by unfold Bj Bi;rw[aT jF,aT jF];clear u1 u2 u3 u4 v2 v3 m1 m2;omega)
    have e2:Bj { k with aG:=k.aG-1,dst:=addr,ai:=port } + Bi { k with aG:=k.aG-1,dst:=addr,ai:=port } + uK { k with aG:=k.aG-1,dst:=addr,ai:=port }=uK k+(k.src/65536%65536+k.src%65536)+k.aj+addr/65536+addr%65536+port:=by
     rw[show uK { k with aG:=k.aG-1,dst:=addr,ai:=port }=uK k from rfl]
     exact Bn
    rw[e1] at m2;rw[OS,e2];exact qxz _ _ _ _ _ _ _ _ _ _ _ v2 v3 u4 m2)
  exact S
theorem qq0(k:bM)(c1 c2 side addr port:Int)(hg:good k=0)(hs:side=0\/side=1)(ha:0<=addr/\addr<=4294967295)(hp:0<=port/\port<=65535)(ht:k.aG≠1)(hf:k.ae=1->(k.flags==8)=(side==0))(h0:0<=c1)(h1:c1<=65535)(h2:0<=c2)(h3:c2<=65535)(m1:(c1+bJ (hd k (dQ k) 0))%65535=0)(m2:(c2+mh k 0)%65535=0):
  rZ (fr k c1 c2) k.ae side addr port=frame (turned k side addr port):=by
 by_cases jF:k.ae=1
 .grind [qxi]
 grind [quu]
theorem qqa(k:bM)(side addr port:Int)(hg:good k=0)(hs:side=0\/side=1)(ha:0<=addr/\addr<=4294967295)(hp:0<=port/\port<=65535)(ht:k.aG≠1)(hf:k.ae=1->(k.flags==8)=(side==0)):good (turned k side addr port)=0:=by grind [uJ,yg,Ot,good,turned]
end Go.Proofs.YtnkpgdejagglaaaGreatDoor
