/-
  Of what a law stands on.
-/
import Derived.SizedLaws
import Derived.Deep.RegionHeld3
import Derived.Test.YtnicenfgemkdnaaGreatDoorZvp1
set_option linter.unusedSimpArgs false
set_option linter.unusedVariables false
namespace Go.Proofs.YtnicenfgemkdnaaGreatDoor
open _root_.Go.Proofs.Tryz
set_option maxHeartbeats 16000000
set_option maxRecDepth 100000
open Go.ChangeShapes Go.WideShapes Go.ChangeAt Go.RowKit
def qjx(f:Nat->Int)(s a k:Int):Int:=if qcv f=true then(if (inR a 3=true/\inR k 6=true)/\inR s 8=true/\f (6*a.toNat+k.toNat)=s+1 then 0 else 7) else 2
def que(f:Nat->Int)(s a k:Int):Nat->Int:=if qjx f s a k=0 then upd f (6*a.toNat+k.toNat) 0 else f
def qgh(f:Nat->Int)(g:Nat->Bool)(s a k:Int):Value:=.tuple #[plv (que f s a k) g,.int .i64 (qjx f s a k)]
theorem q1s{f:Nat->Int}{s a k:Int}(h:qcv f=false):qjx f s a k=2:=by unfold qjx;rw[if_neg (by simp[h])]
theorem qk6{f:Nat->Int}{s a k:Int}(h:qcv f=true)(h1:¬((inR a 3=true/\inR k 6=true)/\inR s 8=true/\f (6*a.toNat+k.toNat)=s+1)):qjx f s a k=7:=by unfold qjx;rw[if_pos h,if_neg h1]
theorem qno{f:Nat->Int}{s:Int}{a k:Nat}(h:qcv f=true)(h1:a<3)(h2:k<6)(h3:inR s 8=true)(h4:f (6*a+k)=s+1):qjx f s a k=0:=by
 unfold qjx;rw[if_pos h,if_pos ⟨⟨qed om om,qed om om⟩,h3,by rw[Int.toNat_natCast,Int.toNat_natCast];exact h4⟩]
theorem qll{f:Nat->Int}{g:Nat->Bool}{s a k e:Int}(h:qjx f s a k=e)(he:e≠0):qgh f g s a k=.tuple #[plv f g,.int .i64 e]:=by
 unfold qgh que;rw[if_neg om,h]
theorem qoz{f:Nat->Int}{g:Nat->Bool}{s:Int}{a k:Nat}(h:qjx f s a k=0):qgh f g s a k=.tuple #[plv (upd f (6*a+k) 0) g,.int .i64 0]:=by
 unfold qgh que;rw[if_pos h,h,Int.toNat_natCast,Int.toNat_natCast]
theorem sZvp21{p:Prop}(h:p:=by
 have h8:PRow ((w.alloc (.cells (pc f g) 35)).alloc (.cells #[.int .i64 0,.int .i64 0,.int .i64 0,.int .i64 0,.int .i64 0,.int .i64 0,.int .i64 0,.int .i64 0,.int .i64 0,.int .i64 0,.int .i64 0,.int .i64 0,.int .i64 0,.int .i64 0,.int .i64 0,.int .i64 0,.int .i64 0,.int .i64 0,.bool false,.bool false,.bool false] 35)) (w.alloc (.cells (pc f g) 35)).heap.size #[.int .i64 0,.int .i64 0,.int .i64 0,.int .i64 0,.int .i64 0,.int .i64 0,.int .i64 0,.int .i64 0,.int .i64 0,.int .i64 0,.int .i64 0,.int .i64 0,.int .i64 0,.int .i64 0,.int .i64 0,.int .i64 0,.int .i64 0,.int .i64 0,.bool false,.bool false,.bool false]:=PRow.new _ _
 have e8:(w.alloc (.cells (pc f g) 35)).heap.size=w.heap.size+1:=by simp
 rw[e8] at h8
 exact h8):p:=h
theorem sZvp23{p:Prop}(h:p:=by
 go_enter func181,ntmps181
 go_wp2_with (first
 | (refine qat _ rfl ?_ _ rfl f g T0 ?_;· rfl)
 | (refine qay rfl _ _ rfl _ rfl f g rfl _ T8 rfl ?_;intro w8 T8 hs8 hk8 hb8;replace T0:=hk8 _ _ om T0;replace hB:=hb8 _ _ om hB)
 | (go_at_call 52;go_fit (CG _);rintro e w' ⟨rfl,hb⟩;(try replace hb:=qa1 hb);replace T0:=T0.below hb;replace T8:=T8.below hb;replace hB:=hB.trans (hb.mono hB.size))
 | (go_at_call 76;go_fit (CA _);rintro e w' ⟨rfl,rfl⟩)
 | (go_at_call 200;go_fit (CK _);rintro e w' ⟨rfl,rfl⟩)
 | (go_at_call 201;go_fit (CS _);rintro e w' ⟨rfl,rfl⟩))
 ((try simp only[Exit.inBlock,Exit.then]);refine bodyPost_ret (qbw rfl _ _ _ _ _ rfl T8) rfl ⟨?_,hB⟩)
 rw[HS.out];rfl):p:=h
theorem sZvp24{p:Prop}(h:p:=by
 show _=_
 rw[qoz (qno hgp hn hK his (by simpa using ho))]):p:=h
theorem quv(f : Nat -> Int)(g : Nat -> Bool)(s a k : Int)(w : World):
    Calls prog 181 #[plv f g, .int .i64 s, .int .i64 a, .int .i64 k] w fun e w' => e = .returned (qgh f g s a k) /\ Below w.heap.size w w' := by
  have T0 : PRow ((w.alloc (.cells (pc f g) 35)).alloc (.cells #[.int .i64 0, .int .i64 0, .int .i64 0, .int .i64 0, .int .i64 0, .int .i64 0, .int .i64 0, .int .i64 0, .int .i64 0, .int .i64 0, .int .i64 0, .int .i64 0, .int .i64 0, .int .i64 0, .int .i64 0, .int .i64 0, .int .i64 0, .int .i64 0, .bool false, .bool false, .bool false] 35)) w.heap.size (pc f g) := (PRow.new _ _).alloc _
  have T8 : PRow ((w.alloc (.cells (pc f g) 35)).alloc (.cells #[.int .i64 0, .int .i64 0, .int .i64 0, .int .i64 0, .int .i64 0, .int .i64 0, .int .i64 0, .int .i64 0, .int .i64 0, .int .i64 0, .int .i64 0, .int .i64 0, .int .i64 0, .int .i64 0, .int .i64 0, .int .i64 0, .int .i64 0, .int .i64 0, .bool false, .bool false, .bool false] 35)) (w.heap.size + 1) (pc (fun _ => 0) (fun _ => false)) := by
    exact sZvp21
  have hB : Below w.heap.size w ((w.alloc (.cells (pc f g) 35)).alloc (.cells #[.int .i64 0, .int .i64 0, .int .i64 0, .int .i64 0, .int .i64 0, .int .i64 0, .int .i64 0, .int .i64 0, .int .i64 0, .int .i64 0, .int .i64 0, .int .i64 0, .int .i64 0, .int .i64 0, .int .i64 0, .int .i64 0, .int .i64 0, .int .i64 0, .bool false, .bool false, .bool false] 35)) := ((Below.refl _ _).alloc (Nat.le_refl _) _).alloc zm _
  have CG := fun w => qni f g w
  have CA := fun w => qe7 a w
  have CK := fun w => qwv k w
  have CS := fun w => qlq s w
  unfold plv at CG
  unfold plv
  cases hgp : qcv f with
  | false =>
    have HS : Hid (qgh f g s a k = _) := qll (q1s hgp) om
    rw[hgp] at CG
    go_enter func181, ntmps181
    go_wp2_with (first
          | (refine qat _ rfl ?_ _ rfl f g T0 ?_;· rfl)
          | (refine qay rfl _ _ rfl _ rfl f g rfl _ T8 rfl ?_;intro w8 T8 hs8 hk8 hb8;replace T0 := hk8 _ _ om T0;replace hB := hb8 _ _ om hB)
          | (go_at_call 52;go_fit (CG _);rintro e w' ⟨rfl, hb⟩;(try replace hb := qa1 hb);replace T0 := T0.below hb;replace T8 := T8.below hb;replace hB := hB.trans (hb.mono hB.size))
          | (go_at_call 76;go_fit (CA _);rintro e w' ⟨rfl, rfl⟩)
          | (go_at_call 200;go_fit (CK _);rintro e w' ⟨rfl, rfl⟩)
          | (go_at_call 201;go_fit (CS _);rintro e w' ⟨rfl, rfl⟩))
    ((try simp only[Exit.inBlock, Exit.then]);refine bodyPost_ret (qbw rfl _ _ _ _ _ rfl T8) rfl ⟨?_, hB⟩)
    rw[HS.out];rfl
  | true =>
    rw[hgp] at CG
    by_cases hin : (inR a 3 = true /\ inR k 6 = true) /\ inR s 8 = true
    rotate_left
    · have HS : Hid (qgh f g s a k = _) := qll (qk6 hgp (fun h => hin ⟨h.1, h.2.1⟩)) om
      clear hgp
      cases ha : inR a 3 with
      | false =>
        rw[ha] at CA
        go_enter func181, ntmps181
        go_wp2_with (first
          | (refine qat _ rfl ?_ _ rfl f g T0 ?_;· rfl)
          | (refine qay rfl _ _ rfl _ rfl f g rfl _ T8 rfl ?_;intro w8 T8 hs8 hk8 hb8;replace T0 := hk8 _ _ om T0;replace hB := hb8 _ _ om hB)
          | (go_at_call 52;go_fit (CG _);rintro e w' ⟨rfl, hb⟩;(try replace hb := qa1 hb);replace T0 := T0.below hb;replace T8 := T8.below hb;replace hB := hB.trans (hb.mono hB.size))
          | (go_at_call 76;go_fit (CA _);rintro e w' ⟨rfl, rfl⟩)
          | (go_at_call 200;go_fit (CK _);rintro e w' ⟨rfl, rfl⟩)
          | (go_at_call 201;go_fit (CS _);rintro e w' ⟨rfl, rfl⟩))
        ((try simp only[Exit.inBlock, Exit.then]);refine bodyPost_ret (qbw rfl _ _ _ _ _ rfl T8) rfl ⟨?_, hB⟩)
        rw[HS.out];rfl
      | true =>
        rw[ha] at CA
        cases hk : inR k 6 with
        | false =>
          rw[hk] at CK
          exact sZvp23
        | true =>
          rw[hk] at CK
          have hs : inR s 8 = false := by
            cases h : inR s 8 with
            | false => rfl
            | true => exact absurd ⟨⟨ha, hk⟩, h⟩ hin
          rw[hs] at CS
          exact sZvp23
    obtain⟨⟨hia, hik⟩, his⟩ := hin
    have hba : 0 <= a /\ a < 3 := of_decide_eq_true hia
    have hbk : 0 <= k /\ k < 6 := of_decide_eq_true hik
    have hbs : 0 <= s /\ s < 8 := of_decide_eq_true his
    rw[hia] at CA
    rw[hik] at CK
    rw[his] at CS
    obtain⟨n, rfl⟩ : ∃n : Nat, a = n := ⟨a.toNat, by omega⟩
    obtain⟨K, rfl⟩ : ∃K : Nat, k = K := ⟨k.toNat, by omega⟩
    have hn : n < 3 := by omega
    have hK : K < 6 := by omega
    have hK6 : (K : Int) < 6 := by omega
    have hK5 : (K : Int) <= 5 := by omega
    have hK0 : (0 : Int) <= (K : Int) := by omega
    have hs0 : 0 <= s := hbs.1
    have hs7 : s <= 7 := by omega
    have hs1 : wrap64 (s + 1) = s + 1 := by unfold wrap64;omega
    rcases(show n = 0 \/ n = 1 \/ n = 2 by omega) with rfl | rfl | rfl
    · have cw := T0.own (K) om
      have fw := T0.free (K)
      by_cases ho : f (K) = s + 1
      rotate_left
      · have HS : Hid (qgh f g s ((0 : Nat) : Int) (K : Int) = _) := qll (qk6 hgp (fun h => ho (by have := h.2.2;rw[Int.toNat_natCast, Int.toNat_natCast] at this;simpa using this))) om
        have hne : (f (K) != s + 1) = true := by simpa using ho
        clear ho hgp hia hik his
        go_enter func181, ntmps181
        go_wp2_with (first
          | (refine qat _ rfl ?_ _ rfl f g T0 ?_;· rfl)
          | (refine qay rfl _ _ rfl _ rfl f g rfl _ T8 rfl ?_;intro w8 T8 hs8 hk8 hb8;replace T0 := hk8 _ _ om T0;replace hB := hb8 _ _ om hB)
          | (go_at_call 52;go_fit (CG _);rintro e w' ⟨rfl, hb⟩;(try replace hb := qa1 hb);replace T0 := T0.below hb;replace T8 := T8.below hb;replace hB := hB.trans (hb.mono hB.size);replace cw := T0.own (K) om;replace fw := T0.free (K))
          | (go_at_call 76;go_fit (CA _);rintro e w' ⟨rfl, rfl⟩)
          | (go_at_call 200;go_fit (CK _);rintro e w' ⟨rfl, rfl⟩)
          | (go_at_call 201;go_fit (CS _);rintro e w' ⟨rfl, rfl⟩))
        ((try simp only[Exit.inBlock, Exit.then]);refine bodyPost_ret (qbw rfl _ _ _ _ _ rfl T8) rfl ⟨?_, hB⟩)
        rw[HS.out];rfl
      · have HS : Hid (qgh f g s ((0 : Nat) : Int) (K : Int) = .tuple #[plv (upd f (K) 0) g, .int .i64 0]) := by
          show _ = _
          rw[qoz (qno hgp hn hK his (by simpa using ho))];simp
        have hne : (f (K) != s + 1) = false := by simpa using ho
        clear ho hgp hia hik his
        go_enter func181, ntmps181
        go_wp2_with (first
          | (refine qat _ rfl ?_ _ rfl f g T0 ?_;· rfl)
          | (refine qay rfl _ _ rfl _ rfl f g rfl _ T8 rfl ?_;intro w8 T8 hs8 hk8 hb8;replace T0 := hk8 _ _ om T0;replace hB := hb8 _ _ om hB)
          | (replace T0 := T0.upd (K) (0) om;replace T8 := T8.other (o := K) (v := .int .i64 (0)) (show w.heap.size + 1 ≠ w.heap.size by omega);replace hB := hB.setCell (p := ⟨w.heap.size, K, none⟩) (Nat.le_refl _) (.int .i64 (0));refine qat _ rfl ?_ _ rfl (upd f (K) (0)) g T0 ?_;· rfl)
          | (refine qay rfl _ _ rfl _ rfl (upd f (K) (0)) g rfl _ T8 rfl ?_;intro w8 T8 hs8 hk8 hb8;replace hB := hb8 _ _ om hB)
          | (go_at_call 52;go_fit (CG _);rintro e w' ⟨rfl, hb⟩;(try replace hb := qa1 hb);replace T0 := T0.below hb;replace T8 := T8.below hb;replace hB := hB.trans (hb.mono hB.size);replace cw := T0.own (K) om;replace fw := T0.free (K))
          | (go_at_call 76;go_fit (CA _);rintro e w' ⟨rfl, rfl⟩)
          | (go_at_call 200;go_fit (CK _);rintro e w' ⟨rfl, rfl⟩)
          | (go_at_call 201;go_fit (CS _);rintro e w' ⟨rfl, rfl⟩))
        ((try simp only[Exit.inBlock, Exit.then]);refine bodyPost_ret (qbw rfl _ _ _ _ _ rfl T8) rfl ⟨?_, hB⟩)
        rw[HS.out];rfl
    · have cw := T0.own (6 + K) om
      have fw := T0.free (6 + K)
      by_cases ho : f (6 + K) = s + 1
      rotate_left
      · have HS : Hid (qgh f g s ((1 : Nat) : Int) (K : Int) = _) := qll (qk6 hgp (fun h => ho (by have := h.2.2;rw[Int.toNat_natCast, Int.toNat_natCast] at this;simpa using this))) om
        have hne : (f (6 + K) != s + 1) = true := by simpa using ho
        clear ho hgp hia hik his
        go_enter func181, ntmps181
        go_wp2_with (first
          | (refine qat _ rfl ?_ _ rfl f g T0 ?_;· rfl)
          | (refine qay rfl _ _ rfl _ rfl f g rfl _ T8 rfl ?_;intro w8 T8 hs8 hk8 hb8;replace T0 := hk8 _ _ om T0;replace hB := hb8 _ _ om hB)
          | (go_at_call 52;go_fit (CG _);rintro e w' ⟨rfl, hb⟩;(try replace hb := qa1 hb);replace T0 := T0.below hb;replace T8 := T8.below hb;replace hB := hB.trans (hb.mono hB.size);replace cw := T0.own (6 + K) om;replace fw := T0.free (6 + K))
          | (go_at_call 76;go_fit (CA _);rintro e w' ⟨rfl, rfl⟩)
          | (go_at_call 200;go_fit (CK _);rintro e w' ⟨rfl, rfl⟩)
          | (go_at_call 201;go_fit (CS _);rintro e w' ⟨rfl, rfl⟩))
        ((try simp only[Exit.inBlock, Exit.then]);refine bodyPost_ret (qbw rfl _ _ _ _ _ rfl T8) rfl ⟨?_, hB⟩)
        rw[HS.out];rfl
      · have HS : Hid (qgh f g s ((1 : Nat) : Int) (K : Int) = .tuple #[plv (upd f (6 + K) 0) g, .int .i64 0]) := by
          exact sZvp24
        have hne : (f (6 + K) != s + 1) = false := by simpa using ho
        clear ho hgp hia hik his
        go_enter func181, ntmps181
        go_wp2_with (first
          | (refine qat _ rfl ?_ _ rfl f g T0 ?_;· rfl)
          | (refine qay rfl _ _ rfl _ rfl f g rfl _ T8 rfl ?_;intro w8 T8 hs8 hk8 hb8;replace T0 := hk8 _ _ om T0;replace hB := hb8 _ _ om hB)
          | (replace T0 := T0.upd (6 + K) (0) om;replace T8 := T8.other (o := 6 + K) (v := .int .i64 (0)) (show w.heap.size + 1 ≠ w.heap.size by omega);replace hB := hB.setCell (p := ⟨w.heap.size, 6 + K, none⟩) (Nat.le_refl _) (.int .i64 (0));refine qat _ rfl ?_ _ rfl (upd f (6 + K) (0)) g T0 ?_;· rfl)
          | (refine qay rfl _ _ rfl _ rfl (upd f (6 + K) (0)) g rfl _ T8 rfl ?_;intro w8 T8 hs8 hk8 hb8;replace hB := hb8 _ _ om hB)
          | (go_at_call 52;go_fit (CG _);rintro e w' ⟨rfl, hb⟩;(try replace hb := qa1 hb);replace T0 := T0.below hb;replace T8 := T8.below hb;replace hB := hB.trans (hb.mono hB.size);replace cw := T0.own (6 + K) om;replace fw := T0.free (6 + K))
          | (go_at_call 76;go_fit (CA _);rintro e w' ⟨rfl, rfl⟩)
          | (go_at_call 200;go_fit (CK _);rintro e w' ⟨rfl, rfl⟩)
          | (go_at_call 201;go_fit (CS _);rintro e w' ⟨rfl, rfl⟩))
        ((try simp only[Exit.inBlock, Exit.then]);refine bodyPost_ret (qbw rfl _ _ _ _ _ rfl T8) rfl ⟨?_, hB⟩)
        rw[HS.out];rfl
    · have cw := T0.own (12 + K) om
      have fw := T0.free (12 + K)
      by_cases ho : f (12 + K) = s + 1
      rotate_left
      · have HS : Hid (qgh f g s ((2 : Nat) : Int) (K : Int) = _) := qll (qk6 hgp (fun h => ho (by have := h.2.2;rw[Int.toNat_natCast, Int.toNat_natCast] at this;simpa using this))) om
        have hne : (f (12 + K) != s + 1) = true := by simpa using ho
        clear ho hgp hia hik his
        go_enter func181, ntmps181
        go_wp2_with (first
          | (refine qat _ rfl ?_ _ rfl f g T0 ?_;· rfl)
          | (refine qay rfl _ _ rfl _ rfl f g rfl _ T8 rfl ?_;intro w8 T8 hs8 hk8 hb8;replace T0 := hk8 _ _ om T0;replace hB := hb8 _ _ om hB)
          | (go_at_call 52;go_fit (CG _);rintro e w' ⟨rfl, hb⟩;(try replace hb := qa1 hb);replace T0 := T0.below hb;replace T8 := T8.below hb;replace hB := hB.trans (hb.mono hB.size);replace cw := T0.own (12 + K) om;replace fw := T0.free (12 + K))
          | (go_at_call 76;go_fit (CA _);rintro e w' ⟨rfl, rfl⟩)
          | (go_at_call 200;go_fit (CK _);rintro e w' ⟨rfl, rfl⟩)
          | (go_at_call 201;go_fit (CS _);rintro e w' ⟨rfl, rfl⟩))
        ((try simp only[Exit.inBlock, Exit.then]);refine bodyPost_ret (qbw rfl _ _ _ _ _ rfl T8) rfl ⟨?_, hB⟩)
        rw[HS.out];rfl
      · have HS : Hid (qgh f g s ((2 : Nat) : Int) (K : Int) = .tuple #[plv (upd f (12 + K) 0) g, .int .i64 0]) := by
          exact sZvp24
        have hne : (f (12 + K) != s + 1) = false := by simpa using ho
        clear ho hgp hia hik his
        go_enter func181, ntmps181
        go_wp2_with (first
          | (refine qat _ rfl ?_ _ rfl f g T0 ?_;· rfl)
          | (refine qay rfl _ _ rfl _ rfl f g rfl _ T8 rfl ?_;intro w8 T8 hs8 hk8 hb8;replace T0 := hk8 _ _ om T0;replace hB := hb8 _ _ om hB)
          | (replace T0 := T0.upd (12 + K) (0) om;replace T8 := T8.other (o := 12 + K) (v := .int .i64 (0)) (show w.heap.size + 1 ≠ w.heap.size by omega);replace hB := hB.setCell (p := ⟨w.heap.size, 12 + K, none⟩) (Nat.le_refl _) (.int .i64 (0));refine qat _ rfl ?_ _ rfl (upd f (12 + K) (0)) g T0 ?_;· rfl)
          | (refine qay rfl _ _ rfl _ rfl (upd f (12 + K) (0)) g rfl _ T8 rfl ?_;intro w8 T8 hs8 hk8 hb8;replace hB := hb8 _ _ om hB)
          | (go_at_call 52;go_fit (CG _);rintro e w' ⟨rfl, hb⟩;(try replace hb := qa1 hb);replace T0 := T0.below hb;replace T8 := T8.below hb;replace hB := hB.trans (hb.mono hB.size);replace cw := T0.own (12 + K) om;replace fw := T0.free (12 + K))
          | (go_at_call 76;go_fit (CA _);rintro e w' ⟨rfl, rfl⟩)
          | (go_at_call 200;go_fit (CK _);rintro e w' ⟨rfl, rfl⟩)
          | (go_at_call 201;go_fit (CS _);rintro e w' ⟨rfl, rfl⟩))
        ((try simp only[Exit.inBlock, Exit.then]);refine bodyPost_ret (qbw rfl _ _ _ _ _ rfl T8) rfl ⟨?_, hB⟩)
        rw[HS.out];rfl
theorem qea{B:Nat}{w0 w:World}(h:Below B w0 w):Below B w0 w.drew:=⟨h.os,h.tape,h.output,h.size,h.block⟩
theorem qtj{f:Nat->Int}{g:Nat->Bool}{s a:Int}(h:qdh f g s a=0):qcv f=true/\(0<=a/\a<3)/\(0<=s/\s<8)/\g a.toNat=false/\0<(qbo (rowF f a.toNat)).length:=by
 unfold qdh at h
 by_cases h1:qcv f=true
 ·rw[if_pos h1] at h
  by_cases h2:inR a 3=true/\inR s 8=true
  ·rw[if_pos h2] at h
   by_cases h3:g a.toNat=true
   ·rw[if_pos h3] at h;omega
   ·rw[if_neg h3] at h
    by_cases h4:(qbo (rowF f a.toNat)).length=0
    ·rw[if_pos h4] at h;omega
    ·exact⟨h1,of_decide_eq_true h2.1,of_decide_eq_true h2.2,by simpa using h3,by omega⟩
  ·rw[if_neg h2] at h;omega
 ·rw[if_neg h1] at h;omega
def qfu(g:Nat->Bool)(a:Int)(b:Bool):Int:=if inR a 3=true then(if g a.toNat=b then 8 else 0) else 7
def qg3(g:Nat->Bool)(a:Int)(b:Bool):Nat->Bool:=if qfu g a b=0 then updB g a.toNat b else g
def qd5(f:Nat->Int)(g:Nat->Bool)(a:Int)(b:Bool):Value:=.tuple #[plv f (qg3 g a b),.int .i64 (qfu g a b)]
theorem qzd{f:Nat->Int}{g:Nat->Bool}{a:Int}{b:Bool}(h:a<0\/3<=a):qd5 f g a b=.tuple #[plv f g,.int .i64 7]:=by
 have e:qfu g a b=7:=by unfold qfu;rw[if_neg (by simp[qfe h])]
 unfold qd5 qg3;rw[e];rfl
theorem qlp{f:Nat->Int}{g:Nat->Bool}{a:Nat}{b:Bool}(h:a<3)(h1:g a=b):qd5 f g a b=.tuple #[plv f g,.int .i64 8]:=by
 have e:qfu g a b=8:=by unfold qfu;rw[if_pos (qed om om),Int.toNat_natCast,if_pos h1]
 unfold qd5 qg3;rw[e];rfl
theorem qox{f:Nat->Int}{g:Nat->Bool}{a:Nat}{b:Bool}(h:a<3)(h1:g a≠b):qd5 f g a b=.tuple #[plv f (updB g a b),.int .i64 0]:=by
 have e:qfu g a b=0:=by unfold qfu;rw[if_pos (qed om om),Int.toNat_natCast,if_neg h1]
 unfold qd5 qg3;rw[e,Int.toNat_natCast];rfl
theorem sZvp22{p:Prop}(h:p:=by
 clear he
 go_enter func111,ntmps111
 go_upto_region 1 with fail
 generalize((w.alloc (.cells (pc f g) 35)).alloc (.cells #[.int .i64 0,.int .i64 0,.int .i64 0,.int .i64 0,.int .i64 0,.int .i64 0,.int .i64 0,.int .i64 0,.int .i64 0,.int .i64 0,.int .i64 0,.int .i64 0,.int .i64 0,.int .i64 0,.int .i64 0,.int .i64 0,.int .i64 0,.int .i64 0,.bool false,.bool false,.bool false] 35))=w1 at *
 go_wp2_with (first
   | (refine qat _ rfl ?_ _ rfl f g T0 ?_;· rfl)
   | (refine qay rfl _ _ rfl _ rfl f g rfl _ T8 rfl ?_;intro w8 T8 hs8 hk8 hb8;replace T0:=hk8 _ _ om T0;replace hB:=hb8 _ _ om hB)
   | (go_at_call 76;go_fit (CA _);rintro e w' ⟨rfl,rfl⟩))
 ((try simp only[Exit.inBlock,Exit.then]);refine bodyPost_ret (qbw rfl _ _ _ _ _ rfl T8) rfl ⟨?_,hB⟩)
 rw[HS.out];rfl):p:=h
theorem qsx(f : Nat -> Int)(g : Nat -> Bool)(a : Int)(b : Bool)(w : World):
    Calls prog 111 #[plv f g, .int .i64 a, .bool b] w fun e w' => e = .returned (qd5 f g a b) /\ Below w.heap.size w w' := by
  have T0 : PRow ((w.alloc (.cells (pc f g) 35)).alloc (.cells #[.int .i64 0, .int .i64 0, .int .i64 0, .int .i64 0, .int .i64 0, .int .i64 0, .int .i64 0, .int .i64 0, .int .i64 0, .int .i64 0, .int .i64 0, .int .i64 0, .int .i64 0, .int .i64 0, .int .i64 0, .int .i64 0, .int .i64 0, .int .i64 0, .bool false, .bool false, .bool false] 35)) w.heap.size (pc f g) := (PRow.new _ _).alloc _
  have T8 : PRow ((w.alloc (.cells (pc f g) 35)).alloc (.cells #[.int .i64 0, .int .i64 0, .int .i64 0, .int .i64 0, .int .i64 0, .int .i64 0, .int .i64 0, .int .i64 0, .int .i64 0, .int .i64 0, .int .i64 0, .int .i64 0, .int .i64 0, .int .i64 0, .int .i64 0, .int .i64 0, .int .i64 0, .int .i64 0, .bool false, .bool false, .bool false] 35)) (w.heap.size + 1) (pc (fun _ => 0) (fun _ => false)) := by
    exact sZvp21
  have hB : Below w.heap.size w ((w.alloc (.cells (pc f g) 35)).alloc (.cells #[.int .i64 0, .int .i64 0, .int .i64 0, .int .i64 0, .int .i64 0, .int .i64 0, .int .i64 0, .int .i64 0, .int .i64 0, .int .i64 0, .int .i64 0, .int .i64 0, .int .i64 0, .int .i64 0, .int .i64 0, .int .i64 0, .int .i64 0, .int .i64 0, .bool false, .bool false, .bool false] 35)) := ((Below.refl _ _).alloc (Nat.le_refl _) _).alloc zm _
  have CA := fun w => qe7 a w
  unfold plv
  by_cases hin : 0 <= a /\ a < 3
  rotate_left
  · have HS : Hid (qd5 f g a b = _) := qzd om
    rw[qfe om] at CA
    clear hin
    go_enter func111, ntmps111
    go_upto_region 1 with fail
    generalize((w.alloc (.cells (pc f g) 35)).alloc (.cells #[.int .i64 0, .int .i64 0, .int .i64 0, .int .i64 0, .int .i64 0, .int .i64 0, .int .i64 0, .int .i64 0, .int .i64 0, .int .i64 0, .int .i64 0, .int .i64 0, .int .i64 0, .int .i64 0, .int .i64 0, .int .i64 0, .int .i64 0, .int .i64 0, .bool false, .bool false, .bool false] 35)) = w1 at *
    go_wp2_with (first
          | (refine qat _ rfl ?_ _ rfl f g T0 ?_;· rfl)
          | (refine qay rfl _ _ rfl _ rfl f g rfl _ T8 rfl ?_;intro w8 T8 hs8 hk8 hb8;replace T0 := hk8 _ _ om T0;replace hB := hb8 _ _ om hB)
          | (go_at_call 76;go_fit (CA _);rintro e w' ⟨rfl, rfl⟩))
    ((try simp only[Exit.inBlock, Exit.then]);refine bodyPost_ret (qbw rfl _ _ _ _ _ rfl T8) rfl ⟨?_, hB⟩)
    rw[HS.out];rfl
  obtain⟨n, rfl⟩ : ∃n : Nat, a = n := ⟨a.toNat, by omega⟩
  have hn : n < 3 := by omega
  rw[qed hin.1 hin.2] at CA
  clear hin
  rcases(show n = 0 \/ n = 1 \/ n = 2 by omega) with rfl | rfl | rfl
  · have dr : ((w.alloc (.cells (pc f g) 35)).alloc (.cells #[.int .i64 0, .int .i64 0, .int .i64 0, .int .i64 0, .int .i64 0, .int .i64 0, .int .i64 0, .int .i64 0, .int .i64 0, .int .i64 0, .int .i64 0, .int .i64 0, .int .i64 0, .int .i64 0, .int .i64 0, .int .i64 0, .int .i64 0, .int .i64 0, .bool false, .bool false, .bool false] 35)).cell? ⟨w.heap.size, 18, none⟩ = some (.bool (g 0)) := T0.dr 0 om
    have fr : ((w.alloc (.cells (pc f g) 35)).alloc (.cells #[.int .i64 0, .int .i64 0, .int .i64 0, .int .i64 0, .int .i64 0, .int .i64 0, .int .i64 0, .int .i64 0, .int .i64 0, .int .i64 0, .int .i64 0, .int .i64 0, .int .i64 0, .int .i64 0, .int .i64 0, .int .i64 0, .int .i64 0, .int .i64 0, .bool false, .bool false, .bool false] 35)).frozen? ⟨w.heap.size, 18, none⟩ = false := T0.free 18
    by_cases he : g 0 = b
    · have HS : Hid (qd5 f g ((0 : Nat) : Int) b = _) := qlp hn he
      have hq : (g 0==b) = true := by simpa using he
      exact sZvp22
    · have HS : Hid (qd5 f g ((0 : Nat) : Int) b = _) := qox hn he
      have hq : (g 0==b) = false := by simpa using he
      clear he
      go_enter func111, ntmps111
      go_upto_region 1 with fail
      generalize((w.alloc (.cells (pc f g) 35)).alloc (.cells #[.int .i64 0, .int .i64 0, .int .i64 0, .int .i64 0, .int .i64 0, .int .i64 0, .int .i64 0, .int .i64 0, .int .i64 0, .int .i64 0, .int .i64 0, .int .i64 0, .int .i64 0, .int .i64 0, .int .i64 0, .int .i64 0, .int .i64 0, .int .i64 0, .bool false, .bool false, .bool false] 35)) = w1 at *
      go_wp2_with (first
          | (refine qat _ rfl ?_ _ rfl f g T0 ?_;· rfl)
          | (refine qay rfl _ _ rfl _ rfl f g rfl _ T8 rfl ?_;intro w8 T8 hs8 hk8 hb8;replace T0 := hk8 _ _ om T0;replace hB := hb8 _ _ om hB)
          | (replace T0 := T0.updB 0 (b) om;replace T8 := T8.other (o := 18 + 0) (v := .bool (b)) (show w.heap.size + 1 ≠ w.heap.size by omega);replace hB := hB.setCell (p := ⟨w.heap.size, 18 + 0, none⟩) (Nat.le_refl _) (.bool (b));refine qat _ rfl ?_ _ rfl f (updB g 0 (b)) T0 ?_;· rfl)
          | (refine qay rfl _ _ rfl _ rfl f (updB g 0 (b)) rfl _ T8 rfl ?_;intro w8 T8 hs8 hk8 hb8;replace hB := hb8 _ _ om hB)
          | (go_at_call 76;go_fit (CA _);rintro e w' ⟨rfl, rfl⟩))
      ((try simp only[Exit.inBlock, Exit.then]);refine bodyPost_ret (qbw rfl _ _ _ _ _ rfl T8) rfl ⟨?_, hB⟩)
      rw[HS.out];rfl
  · have dr : ((w.alloc (.cells (pc f g) 35)).alloc (.cells #[.int .i64 0, .int .i64 0, .int .i64 0, .int .i64 0, .int .i64 0, .int .i64 0, .int .i64 0, .int .i64 0, .int .i64 0, .int .i64 0, .int .i64 0, .int .i64 0, .int .i64 0, .int .i64 0, .int .i64 0, .int .i64 0, .int .i64 0, .int .i64 0, .bool false, .bool false, .bool false] 35)).cell? ⟨w.heap.size, 19, none⟩ = some (.bool (g 1)) := T0.dr 1 om
    have fr : ((w.alloc (.cells (pc f g) 35)).alloc (.cells #[.int .i64 0, .int .i64 0, .int .i64 0, .int .i64 0, .int .i64 0, .int .i64 0, .int .i64 0, .int .i64 0, .int .i64 0, .int .i64 0, .int .i64 0, .int .i64 0, .int .i64 0, .int .i64 0, .int .i64 0, .int .i64 0, .int .i64 0, .int .i64 0, .bool false, .bool false, .bool false] 35)).frozen? ⟨w.heap.size, 19, none⟩ = false := T0.free 19
    by_cases he : g 1 = b
    · have HS : Hid (qd5 f g ((1 : Nat) : Int) b = _) := qlp hn he
      have hq : (g 1==b) = true := by simpa using he
      exact sZvp22
    · have HS : Hid (qd5 f g ((1 : Nat) : Int) b = _) := qox hn he
      have hq : (g 1==b) = false := by simpa using he
      clear he
      go_enter func111, ntmps111
      go_upto_region 1 with fail
      generalize((w.alloc (.cells (pc f g) 35)).alloc (.cells #[.int .i64 0, .int .i64 0, .int .i64 0, .int .i64 0, .int .i64 0, .int .i64 0, .int .i64 0, .int .i64 0, .int .i64 0, .int .i64 0, .int .i64 0, .int .i64 0, .int .i64 0, .int .i64 0, .int .i64 0, .int .i64 0, .int .i64 0, .int .i64 0, .bool false, .bool false, .bool false] 35)) = w1 at *
      go_wp2_with (first
          | (refine qat _ rfl ?_ _ rfl f g T0 ?_;· rfl)
          | (refine qay rfl _ _ rfl _ rfl f g rfl _ T8 rfl ?_;intro w8 T8 hs8 hk8 hb8;replace T0 := hk8 _ _ om T0;replace hB := hb8 _ _ om hB)
          | (replace T0 := T0.updB 1 (b) om;replace T8 := T8.other (o := 18 + 1) (v := .bool (b)) (show w.heap.size + 1 ≠ w.heap.size by omega);replace hB := hB.setCell (p := ⟨w.heap.size, 18 + 1, none⟩) (Nat.le_refl _) (.bool (b));refine qat _ rfl ?_ _ rfl f (updB g 1 (b)) T0 ?_;· rfl)
          | (refine qay rfl _ _ rfl _ rfl f (updB g 1 (b)) rfl _ T8 rfl ?_;intro w8 T8 hs8 hk8 hb8;replace hB := hb8 _ _ om hB)
          | (go_at_call 76;go_fit (CA _);rintro e w' ⟨rfl, rfl⟩))
      ((try simp only[Exit.inBlock, Exit.then]);refine bodyPost_ret (qbw rfl _ _ _ _ _ rfl T8) rfl ⟨?_, hB⟩)
      rw[HS.out];rfl
  · have dr : ((w.alloc (.cells (pc f g) 35)).alloc (.cells #[.int .i64 0, .int .i64 0, .int .i64 0, .int .i64 0, .int .i64 0, .int .i64 0, .int .i64 0, .int .i64 0, .int .i64 0, .int .i64 0, .int .i64 0, .int .i64 0, .int .i64 0, .int .i64 0, .int .i64 0, .int .i64 0, .int .i64 0, .int .i64 0, .bool false, .bool false, .bool false] 35)).cell? ⟨w.heap.size, 20, none⟩ = some (.bool (g 2)) := T0.dr 2 om
    have fr : ((w.alloc (.cells (pc f g) 35)).alloc (.cells #[.int .i64 0, .int .i64 0, .int .i64 0, .int .i64 0, .int .i64 0, .int .i64 0, .int .i64 0, .int .i64 0, .int .i64 0, .int .i64 0, .int .i64 0, .int .i64 0, .int .i64 0, .int .i64 0, .int .i64 0, .int .i64 0, .int .i64 0, .int .i64 0, .bool false, .bool false, .bool false] 35)).frozen? ⟨w.heap.size, 20, none⟩ = false := T0.free 20
    by_cases he : g 2 = b
    · have HS : Hid (qd5 f g ((2 : Nat) : Int) b = _) := qlp hn he
      have hq : (g 2==b) = true := by simpa using he
      exact sZvp22
    · have HS : Hid (qd5 f g ((2 : Nat) : Int) b = _) := qox hn he
      have hq : (g 2==b) = false := by simpa using he
      clear he
      go_enter func111, ntmps111
      go_upto_region 1 with fail
      generalize((w.alloc (.cells (pc f g) 35)).alloc (.cells #[.int .i64 0, .int .i64 0, .int .i64 0, .int .i64 0, .int .i64 0, .int .i64 0, .int .i64 0, .int .i64 0, .int .i64 0, .int .i64 0, .int .i64 0, .int .i64 0, .int .i64 0, .int .i64 0, .int .i64 0, .int .i64 0, .int .i64 0, .int .i64 0, .bool false, .bool false, .bool false] 35)) = w1 at *
      go_wp2_with (first
          | (refine qat _ rfl ?_ _ rfl f g T0 ?_;· rfl)
          | (refine qay rfl _ _ rfl _ rfl f g rfl _ T8 rfl ?_;intro w8 T8 hs8 hk8 hb8;replace T0 := hk8 _ _ om T0;replace hB := hb8 _ _ om hB)
          | (replace T0 := T0.updB 2 (b) om;replace T8 := T8.other (o := 18 + 2) (v := .bool (b)) (show w.heap.size + 1 ≠ w.heap.size by omega);replace hB := hB.setCell (p := ⟨w.heap.size, 18 + 2, none⟩) (Nat.le_refl _) (.bool (b));refine qat _ rfl ?_ _ rfl f (updB g 2 (b)) T0 ?_;· rfl)
          | (refine qay rfl _ _ rfl _ rfl f (updB g 2 (b)) rfl _ T8 rfl ?_;intro w8 T8 hs8 hk8 hb8;replace hB := hb8 _ _ om hB)
          | (go_at_call 76;go_fit (CA _);rintro e w' ⟨rfl, rfl⟩))
      ((try simp only[Exit.inBlock, Exit.then]);refine bodyPost_ret (qbw rfl _ _ _ _ _ rfl T8) rfl ⟨?_, hB⟩)
      rw[HS.out];rfl
theorem q2r(f:Nat->Int)(g:Nat->Bool)(a:Int)(w:World):
  Calls prog 73 #[plv f g,.int .i64 a] w fun e w'=>e=.returned (qd5 f g a true)/\Below w.heap.size w w':=by
 have T0:PRow ((w.alloc (.cells (pc f g) 35)).alloc (.cells #[.int .i64 0,.int .i64 0,.int .i64 0,.int .i64 0,.int .i64 0,.int .i64 0,.int .i64 0,.int .i64 0,.int .i64 0,.int .i64 0,.int .i64 0,.int .i64 0,.int .i64 0,.int .i64 0,.int .i64 0,.int .i64 0,.int .i64 0,.int .i64 0,.bool false,.bool false,.bool false] 35)) w.heap.size (pc f g):=(PRow.new _ _).alloc _
 have T8:PRow ((w.alloc (.cells (pc f g) 35)).alloc (.cells #[.int .i64 0,.int .i64 0,.int .i64 0,.int .i64 0,.int .i64 0,.int .i64 0,.int .i64 0,.int .i64 0,.int .i64 0,.int .i64 0,.int .i64 0,.int .i64 0,.int .i64 0,.int .i64 0,.int .i64 0,.int .i64 0,.int .i64 0,.int .i64 0,.bool false,.bool false,.bool false] 35)) (w.heap.size+1) (pc (fun _=>0) (fun _=>false)):=by
  exact sZvp21
 have hB:Below w.heap.size w ((w.alloc (.cells (pc f g) 35)).alloc (.cells #[.int .i64 0,.int .i64 0,.int .i64 0,.int .i64 0,.int .i64 0,.int .i64 0,.int .i64 0,.int .i64 0,.int .i64 0,.int .i64 0,.int .i64 0,.int .i64 0,.int .i64 0,.int .i64 0,.int .i64 0,.int .i64 0,.int .i64 0,.int .i64 0,.bool false,.bool false,.bool false] 35)):=((Below.refl _ _).alloc (Nat.le_refl _) _).alloc zm _
 have C:=fun w=>qsx f g a true w
 unfold qd5 at *
 generalize qg3 g a true=G at *
 generalize qfu g a true=ee at *
 unfold plv at *
 go_enter func73,ntmps73
 go_wp2_with (first
  | (refine qat _ rfl ?_ _ rfl f g T0 ?_;· rfl)
  | (go_at_call 111;go_fit (C _);rintro e w' ⟨rfl,hb⟩;(try replace hb:=qa1 hb);replace T0:=T0.below hb;replace T8:=T8.below hb;replace hB:=hB.trans (hb.mono hB.size))
  | (refine qay rfl _ _ rfl _ rfl f G rfl _ T8 rfl ?_;intro w8 T8 hs8 hk8 hb8;replace hB:=hb8 _ _ om hB))
 ((try simp only[Exit.inBlock,Exit.then]);refine bodyPost_ret (qbw rfl _ _ _ _ _ rfl T8) rfl ⟨rfl,hB⟩)
theorem qxg(f:Nat->Int)(g:Nat->Bool)(a:Int)(w:World):
  Calls prog 74 #[plv f g,.int .i64 a] w fun e w'=>e=.returned (qd5 f g a false)/\Below w.heap.size w w':=by
 have T0:PRow ((w.alloc (.cells (pc f g) 35)).alloc (.cells #[.int .i64 0,.int .i64 0,.int .i64 0,.int .i64 0,.int .i64 0,.int .i64 0,.int .i64 0,.int .i64 0,.int .i64 0,.int .i64 0,.int .i64 0,.int .i64 0,.int .i64 0,.int .i64 0,.int .i64 0,.int .i64 0,.int .i64 0,.int .i64 0,.bool false,.bool false,.bool false] 35)) w.heap.size (pc f g):=(PRow.new _ _).alloc _
 have T8:PRow ((w.alloc (.cells (pc f g) 35)).alloc (.cells #[.int .i64 0,.int .i64 0,.int .i64 0,.int .i64 0,.int .i64 0,.int .i64 0,.int .i64 0,.int .i64 0,.int .i64 0,.int .i64 0,.int .i64 0,.int .i64 0,.int .i64 0,.int .i64 0,.int .i64 0,.int .i64 0,.int .i64 0,.int .i64 0,.bool false,.bool false,.bool false] 35)) (w.heap.size+1) (pc (fun _=>0) (fun _=>false)):=by
  exact sZvp21
 have hB:Below w.heap.size w ((w.alloc (.cells (pc f g) 35)).alloc (.cells #[.int .i64 0,.int .i64 0,.int .i64 0,.int .i64 0,.int .i64 0,.int .i64 0,.int .i64 0,.int .i64 0,.int .i64 0,.int .i64 0,.int .i64 0,.int .i64 0,.int .i64 0,.int .i64 0,.int .i64 0,.int .i64 0,.int .i64 0,.int .i64 0,.bool false,.bool false,.bool false] 35)):=((Below.refl _ _).alloc (Nat.le_refl _) _).alloc zm _
 have C:=fun w=>qsx f g a false w
 unfold qd5 at *
 generalize qg3 g a false=G at *
 generalize qfu g a false=ee at *
 unfold plv at *
 go_enter func74,ntmps74
 go_wp2_with (first
  | (refine qat _ rfl ?_ _ rfl f g T0 ?_;· rfl)
  | (go_at_call 111;go_fit (C _);rintro e w' ⟨rfl,hb⟩;(try replace hb:=qa1 hb);replace T0:=T0.below hb;replace T8:=T8.below hb;replace hB:=hB.trans (hb.mono hB.size))
  | (refine qay rfl _ _ rfl _ rfl f G rfl _ T8 rfl ?_;intro w8 T8 hs8 hk8 hb8;replace hB:=hb8 _ _ om hB))
 ((try simp only[Exit.inBlock,Exit.then]);refine bodyPost_ret (qbw rfl _ _ _ _ _ rfl T8) rfl ⟨rfl,hB⟩)
end Go.Proofs.YtnicenfgemkdnaaGreatDoor
