/-
  Advance: the timers that go off, in their order; the others wait on.
-/
import Derived.Test.YtphijplgnffoiaaWhK
namespace Go.Proofs.Ytphijplgnffoiaa
open Go.ChangeShapes Go.WideShapes Go.ChangeAt Go.RowKit Go.Maps
set_option linter.unusedSimpArgs false
set_option linter.unusedVariables false

theorem isTime_any (n : Int) (w : World) : Calls Try.prog 20 #[.int .i64 n] w fun e w' => e = .returned (.bool (decide (0 ≤ n) && decide (n ≤ 1099511627776))) ∧ w' = w := by
  by_cases h0 : 0 ≤ n
  · by_cases h1 : n ≤ 1099511627776
    · go_enter Try.func20, Try.ntmps20
      go_wp2
      go_ret
      exact ⟨by simp [h0, h1], rfl⟩
    · go_enter Try.func20, Try.ntmps20
      go_wp2
      go_ret
      exact ⟨by simp [h0, h1], rfl⟩
  · go_enter Try.func20, Try.ntmps20
    go_wp2
    go_ret
    exact ⟨by rw [show decide (0 ≤ n) = false by simpa using h0]; rfl, rfl⟩
theorem isTime_yes (n : Int) (w : World) (h : 0 ≤ n ∧ n ≤ 1099511627776) : Calls Try.prog 20 #[.int .i64 n] w fun e w' => e = .returned (.bool true) ∧ w' = w := by
  have := isTime_any n w
  rw [show (decide (0 ≤ n) && decide (n ≤ 1099511627776)) = true by simp [h.1, h.2]] at this
  exact this
theorem isTime_no (n : Int) (w : World) (h : ¬ (0 ≤ n ∧ n ≤ 1099511627776)) : Calls Try.prog 20 #[.int .i64 n] w fun e w' => e = .returned (.bool false) ∧ w' = w := by
  have := isTime_any n w
  rw [show (decide (0 ≤ n) && decide (n ≤ 1099511627776)) = false by simp; omega] at this
  exact this
theorem sort_none (p : Option Addr) (c : Nat) (fv : Value) (w : World) : Calls Try.prog 24 #[.slice p 0 c, fv] w fun e w' => e = .returned (.tuple #[]) ∧ w' = w :=
  AnyF.slices_SortFunc_none (P := Try.prog) (ρ := sortL_ren) { sortL with } p c fv w
theorem sort_all {w : World} {v : Value} {off : List Int} (h : Own w v off) (hm : off.length ≤ 1000000000) (hwf : ∀ i ∈ off, (Lit.int .i64 i).wf = true) (z : Int → Int) {b o bx : Nat} {D : DataW Unit} (hz : Says D z)
    (hb : w.cell? ⟨bx, 0, none⟩ = some (.pointer (some ⟨b, o, none⟩))) (hmap : off ≠ [] → ∃ bm n, w.cell? ⟨b, o + 1, none⟩ = some (.map (some bm)) ∧ MapI w bm n D) (nx : v.ownBlock ≠ some bx) (nb : v.ownBlock ≠ some b) :
    Calls Try.prog 24 #[v, .func (.func 25) #[] #[.pointer (some ⟨bx, 0, none⟩)]] w fun e w' => e = .returned (.tuple #[]) ∧ Own w' v (sortZ z off) ∧ w.grownBy w' v.ownBlock := by
  by_cases hl : off = []
  · subst hl
    have hsh : ∃ a c, v = .slice a 0 c := by
      rcases h.2 with ⟨e, _⟩ | ⟨g, cap, cur, e, _⟩
      · exact ⟨_, _, e⟩
      · exact ⟨_, _, e⟩
    obtain ⟨a, c, rfl⟩ := hsh
    refine (sort_none a c _ w).mono ?_
    rintro e w' ⟨rfl, rfl⟩
    have hs : sortZ z [] = [] := by simp [sortZ]
    rw [hs]
    exact ⟨rfl, h, rfl, rfl, rfl, Nat.le_refl _, fun _ _ _ => rfl⟩
  · obtain ⟨bm, n, c1, hm2⟩ := hmap hl
    haveI : Inhabited WfI := ⟨wf0⟩
    exact sort_any h (List.length_pos_iff.2 hl) hm hwf z hz hb c1 hm2 nx nb
/-- what is left of a turn: the timers are struck out of the map one by one. -/
def DelR (w0 W : World) (b : Nat) (t : TypeId) (cs : Array Value) (o : Nat) (now : Int) (mb : Option Nat) (D : DataW Unit) (vs : Nat → Value) (L : Nat → List Int) (bx : Nat) (v : Value) (l : List Int) : Prop :=
  WM W b t cs o now mb D vs L ∧ Own W v l ∧ W.cell? ⟨bx, 0, none⟩ = some (.pointer (some ⟨b, o, none⟩)) ∧ Gr (fun c => mb = some c) w0 W
theorem DelR.step {w0 W w' : World} {b : Nat} {t : TypeId} {cs : Array Value} {o : Nat} {now : Int} {bm : Nat} {D D' : DataW Unit} {vs : Nat → Value} {L : Nat → List Int} {bx : Nat} {v : Value} {l : List Int} (h : DelR w0 W b t cs o now (some bm) D vs L bx v l) {n : Nat} (hn : n ≤ 1000000) (hm : MapI w' bm n D') (ht : W.mapTurned w' bm) : DelR w0 w' b t cs o now (some bm) D' vs L bx v l := by
  obtain ⟨hw, ho, hb, hg⟩ := h
  obtain ⟨k, _, hm0⟩ := hw.theMap
  have hgr := ht.grown
  have g1 : Gr (fun c => some bm = some c) W w' := Gr.of_grown hgr (fun c hc => hc)
  refine ⟨hw.setMap hgr hn hm, ho.keepGr g1 (fun c hc e => ho.ne_map hm0 (by rw [hc, ← e])), ?_, hg.trans g1 (fun x hx => .inl hx)⟩
  have hlt := World.block_lt_of_cell? W _ hb
  have hne : bx ≠ bm := by
    rintro rfl
    obtain ⟨es, clock, h1, _⟩ := hm0
    simp [World.cell?, h1] at hb
  rw [← hb]
  exact World.cell?_of_block (hgr.block bx hlt (by simpa using hne))
theorem own_slice {w : World} {v : Value} {l : List Int} (h : Own w v l) : ∃ a c, v = .slice a l.length c := by
  rcases h.2 with ⟨e, n0⟩ | ⟨g, cap, cur, e, _⟩
  · exact ⟨none, 0, by rw [e, n0]⟩
  · exact ⟨_, _, e⟩
theorem delF_snoc (D : DataW Unit) (l : List Int) (j : Nat) (hj : j < l.length) : delF D (l.take (j + 1)) = (delF D (l.take j)).del (kI l[j]) := take_fold (fun D i => DataW.del D (kI i)) D l j hj
theorem adv_sort {w1 w2 : World} {b : Nat} {t : TypeId} {cs : Array Value} {o : Nat} {now : Int} {mb : Option Nat} {D : DataW Unit} {vs : Nat → Value} {T : Nat} {TF : (Nat → List Int) × List Int} {ov : Value} (h : TuR w1 w2 b t cs o now mb D vs T TF ov) (z : Int → Int) (hz : Says D z) (hT : T ≤ 1000000) (hoff : mb = none → TF.2 = []) (hwf : ∀ i ∈ TF.2, (Lit.int .i64 i).wf = true)
    {bx : Nat} (hbx : w1.cell? ⟨bx, 0, none⟩ = some (.pointer (some ⟨b, o, none⟩))) (hnf : ¬ Fp b mb vs bx) :
    Calls Try.prog 24 #[ov, .func (.func 25) #[] #[.pointer (some ⟨bx, 0, none⟩)]] w2 fun e w3 => e = .returned (.tuple #[]) ∧ ∃ cs2 vs2, DelR w3 w3 b t cs2 o now mb D vs2 TF.1 bx ov (sortZ z TF.2) ∧ SameOut o cs cs2 ∧ Gr (Fp b mb vs) w1 w3 ∧ (∀ c, Fp b mb vs2 c → Fp b mb vs c ∨ w1.heap.size ≤ c) ∧ NotIn ov (Fp b mb vs2) ∧ (∀ c, ov.ownBlock = some c → w1.heap.size ≤ c) := by
  obtain ⟨cs2, vs2, hm, hso, hgr, hfp, hov, htot, hmb⟩ := h
  have hbl := World.block_lt_of_cell? w1 _ hbx
  have hb2 : w2.cell? ⟨bx, 0, none⟩ = some (.pointer (some ⟨b, o, none⟩)) := (World.cell?_of_block (hgr.block bx hbl hnf)).trans hbx
  have nx : ov.ownBlock ≠ some bx := fun e => by have := hov bx e; simp only at hbl; omega
  have nb : ov.ownBlock ≠ some b := fun e => hm.out b e (.inl rfl)
  have hof := htot.off
  refine (sort_all hm.own (by omega) hwf z hz hb2 (fun hne => ?_) nx nb).mono ?_
  · rcases hm.wm.map with ⟨h1, _⟩ | ⟨bm, n, h1, _, h3⟩
    · exact absurd (hoff h1) hne
    · refine ⟨bm, n, ?_, h3⟩
      rw [← h1]
      exact (hm.wm.cell _).trans hm.wm.c1
  · rintro e w3 ⟨rfl, ho3, hg3⟩
    have g3 : Gr (fun c => ov.ownBlock = some c) w2 w3 := Gr.of_grown hg3 (fun c hc => hc)
    refine ⟨rfl, cs2, vs2, ⟨hm.wm.keep g3 (fun c hc hd => hm.out c hd hc), ho3, ?_, Gr.refl _ _⟩, hso, hgr.trans g3 (fun x hx => .inr (hov x hx)), hfp, hm.out, hov⟩
    have hl2 := World.block_lt_of_cell? w2 _ hb2
    rw [← hb2]
    exact World.cell?_of_block (g3.block bx hl2 nx)
set_option maxRecDepth 10000 in
set_option maxHeartbeats 8000000 in
theorem advance_mid {w : World} {b o : Nat} {t : TypeId} {cs : Array Value} {A tn : Nat} {mb : Option Nat} {D : DataW Unit} {vs : Nat → Value} {L : Nat → List Int} {T : Nat} (h : WM w b t cs o (A : Int) mb D vs L) (z : Int → Int) (hz : Says D z) (hzz : ∀ i, 0 ≤ z i ∧ z i ≤ 1099511627776) (hA : A ≤ tn) (hto : tn ≤ 1099511627776) (hT : T ≤ 1000000) (htot : Tot T (L, [])) (hmb : mb = none → ∀ k, L k = [])
    (hTL : (turnF (A : Int) (tn : Int) z L).2.length ≤ 1000000) (hoff : mb = none → (turnF (A : Int) (tn : Int) z L).2 = []) (hwf : ∀ i ∈ (turnF (A : Int) (tn : Int) z L).2, (Lit.int .i64 i).wf = true) :
    Calls Try.prog 10 #[.pointer (some ⟨b, o, none⟩), .int .i64 (tn : Int)] w fun e w' => ∃ v, e = .returned (.tuple #[v, .int .i64 0]) ∧ ∃ cs' vs', WM w' b t cs' o (tn : Int) mb (delF D (sortZ z (turnF (A : Int) (tn : Int) z L).2)) vs' (turnF (A : Int) (tn : Int) z L).1 ∧ Own w' v (sortZ z (turnF (A : Int) (tn : Int) z L).2) ∧ NotIn v (Fp b mb vs') ∧ SameOut o cs cs' ∧ Gr (Fp b mb vs) w w' ∧ (∀ c, Fp b mb vs' c → Fp b mb vs c ∨ w.heap.size ≤ c) ∧ (∀ c, v.ownBlock = some c → w.heap.size ≤ c) := by
  have hli : ¬ (tn : Int) < (A : Int) := by omega
  have c0 := cell_alloc ((h.cell o).trans h.c0) (.cells #[.pointer (some ⟨b, o, none⟩)] 24)
  have CT := turn_any (h.alloc (.cells #[.pointer (some ⟨b, o, none⟩)] 24)) z hz hzz hA hto hT htot hmb
  have bx0 : (w.alloc (.cells #[.pointer (some ⟨b, o, none⟩)] 24)).cell? ⟨w.heap.size, 0, none⟩ = some (.pointer (some ⟨b, o, none⟩)) := World.cell?_alloc_mark w #[.pointer (some ⟨b, o, none⟩)] 24 (0, 0) 0
  have CI := fun w => isTime_yes (tn : Int) w (by omega)
  have hfl : ∀ c, Fp b mb vs c → c < w.heap.size := fun c hc => Mid.fp_lt h hc
  have hws : (w.alloc (.cells #[.pointer (some ⟨b, o, none⟩)] 24)).heap.size = w.heap.size + 1 := by simp
  generalize turnF (A : Int) (tn : Int) z L = TF at *
  have hlen : (sortZ z TF.2).length = TF.2.length := by simp [sortZ]
  have hwf' : ∀ i ∈ sortZ z TF.2, (Lit.int .i64 i).wf = true := fun i hi => hwf i (by simpa [sortZ] using hi)
  have HTL0 : Hid ((sortZ z TF.2).length ≤ 1000000) := by rw [hlen]; exact hTL
  clear h htot hTL hlen
  generalize hw1 : w.alloc (.cells #[.pointer (some ⟨b, o, none⟩)] 24) = w1 at *
  have HW1 : Hid (w.alloc (.cells #[.pointer (some ⟨b, o, none⟩)] 24) = w1) := hw1
  have HB1 : Hid (Below w.heap.size w w1) := by rw [← hw1]; exact (Below.refl _ _).alloc (Nat.le_refl _) _
  have HTL : Hid ((sortZ z TF.2).length ≤ 1000000) := HTL0
  have HSZ : Hid (w1.heap.size = w.heap.size + 1) := hws
  have HNF : Hid (¬ Fp b mb vs w.heap.size) := fun hf => by have := hfl _ hf; omega
  clear hws
  go_enter Try.func10, Try.ntmps10
  go_wp2_with (first
    | (go_at_call 20; refine (CI _).mono ?_; rintro e w' ⟨rfl, hw⟩; rw [hw]; clear hw w')
    | (go_at_call 23; refine CT.mono ?_; rintro e w2 ⟨ov, rfl, hTR⟩)
    | (go_at_call 24; have CS := adv_sort hTR z hz hT hoff hwf bx0 HNF.out; go_fit CS; rintro e w3 ⟨rfl, cs2, vs2, hDR, hso2, hgr2, hfp2, hon, hov2⟩; clear CS hTR; obtain ⟨al, kp, hal⟩ := own_slice hDR.2.1; subst hal))
  obtain ⟨N, hN⟩ : ∃ N, N = (sortZ z TF.2).length := ⟨_, rfl⟩
  rw [← hN] at hDR hon hov2 ⊢
  have HN : Hid (N = (sortZ z TF.2).length) := hN
  have hNb : N ≤ 1000000 := by have := HTL.out; omega
  clear hN
  go_loopw [30] (fun i W => ∃ j : Nat, j ≤ N ∧ i = .int .i64 (j : Int) ∧ DelR w3 W b t cs2 o (tn : Int) mb (delF D ((sortZ z TF.2).take j)) vs2 TF.1 w.heap.size (.slice al N kp) (sortZ z TF.2)) (fun i _ => N - (intOf i).toNat)
  case atStart => exact ⟨0, Nat.zero_le _, rfl, hDR⟩
  case round =>
    clear hDR
    obtain ⟨j, hj, rfl, hDR⟩ := hrel
    by_cases hlt : j < N
    · have hjl : j < (sortZ z TF.2).length := by have := HN.out; omega
      obtain ⟨bm, rfl⟩ : ∃ bm, mb = some bm := by
        rcases mb with _ | bm
        · have h0 := hoff rfl
          have := HN.out
          rw [h0] at this
          simp [sortZ] at this
          omega
        · exact ⟨bm, rfl⟩
      have hji : (j : Int) < (N : Int) := by omega
      have HM := meas_up hlt
      obtain ⟨hwm, hown, hbx, hgd⟩ := id hDR
      obtain ⟨g, kp', cur, hsh, hg, _, _, _, ht⟩ := hown.shape (by omega)
      obtain ⟨rfl, _, rfl⟩ : al = some ⟨g, 0, none⟩ ∧ N = (sortZ z TF.2).length ∧ kp = kp' := by simpa using hsh
      have hix := fun w => ixI g N kp j hlt w
      have hcx := (row_cell hg j).trans (cur_at ht j hjl)
      have hwx := hwf' _ (List.getElem_mem hjl)
      have hkey := keyOf_int_mk (P := Try.prog) (q := .i64) (a := (sortZ z TF.2)[j]) Try.underlying3 hwx
      have hsn := delF_snoc D (sortZ z TF.2) j hjl
      have HSN : Hid (delF D ((sortZ z TF.2).take (j + 1)) = (delF D ((sortZ z TF.2).take j)).del (kI (sortZ z TF.2)[j])) := hsn
      obtain ⟨n, hn, hm⟩ := hwm.theMap
      have c1 := (hwm.cell (o + 1)).trans hwm.c1
      have HJ : Hid (j + 1 ≤ N) := hid (by omega)
      have hjw := wrap_up (p := j) (by omega)
      generalize (sortZ z TF.2)[j] = x at *
      clear hsh ht hsn hwx hjl hj hlt hwm hown hgd hli hzz hA hto hT hfl hNb
      go_wp2_with (first
        | (at_delete; refine wpList_delete_own _ rfl _ _ 29 3 rfl 3 lawI Try.underlying29 _ bm n _ rfl hm _ _ rfl hkey ?_; intro w4 hm4 ht4; simp only [Act.put, List.setIfInBounds_toArray, List.set_cons_succ, List.set_cons_zero]))
      go_roundw
      case rel =>
        refine ⟨j + 1, HJ.out, by go_num, ?_⟩
        rw [HSN.out]
        exact hDR.step hn hm4 ht4
      case measure => first | exact HM.out | (rw [hjw]; exact HM.out)
    · have hji : ¬ (j : Int) < (N : Int) := by omega
      obtain rfl : j = N := by omega
      have e : (sortZ z TF.2).take j = sortZ z TF.2 := List.take_of_length_le (by have := HN.out; omega)
      rw [e] at hDR
      clear e hj hlt
      go_wp2
      go_ret2
      obtain ⟨hwm, hown, hbx, hgd⟩ := hDR
      have hsz := HSZ.out
      have hb1 := HB1.out
      refine ⟨_, rfl, cs2, vs2, hwm, hown, hon, hso2, ?_, fun c hc => ?_, fun c hc => ?_⟩
      · exact ((Gr.of_below hb1).trans hgr2 (fun x hx => .inl hx)).trans hgd (fun x hx => (hfp2 x (.inr (.inl hx))).imp id (fun h => by omega))
      · exact (hfp2 c hc).imp id (fun h => by omega)
      · have := hov2 c hc; omega
end Go.Proofs.Ytphijplgnffoiaa
