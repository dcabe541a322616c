/-
  Every play upon a wheel answers as the document's does: the walk.
-/
import Derived.Test.YtphijplgnffoiaaWpJ
namespace Go.Proofs.Ytphijplgnffoiaa
open Go.ChangeShapes Go.WideShapes Go.ChangeAt Go.RowKit Go.Maps
set_option linter.unusedSimpArgs false
set_option linter.unusedVariables false

theorem yields_neE {ops : Array Oper} {S : World → Prop} {o : Oper} {a : Act} (x y : Operand) (ho : o.op = .binOp .neq 25 x y 25) (hw : Region.wanted o (yielded ops a.tmps) = true) (n : Int) (hx : a.eval x = .int .i64 n) (hy : a.eval y = .int .i64 n) : YieldsIf Try.prog ops S o (.bool false) a :=
  .inl ⟨hw, fun w _ => by unfold execOp; simp only [ho, hx, hy]; simp [go_sem]⟩
set_option maxHeartbeats 2000000 in
theorem turnsLaw_any (w : World) : Calls Try.prog 13 #[] w fun e w' => e = .returned (.bool true) ∧ Below w.heap.size w w' := by
  have hN := wheel_new w 3 (by omega)
  have C0 := now_any hN
  have C1 := arm_ok hN 1 9 (by decide) (by omega) (by omega) (fun _ => by omega)
  have hb0 : Below w.heap.size w (w.alloc (.cells (wcs 3 (.map none) nilL) 51)) := (Below.refl _ _).alloc (Nat.le_refl _) _
  have hsz : w.heap.size ≤ (w.alloc (.cells (wcs 3 (.map none) nilL) 51)).heap.size := by simp
  have CN := new_any w 3 (by omega)
  have HE : Hid (∀ w2 cs2 F2, Wheel' w2 w.heap.size 51 cs2 0 3 (setD (fun _ => none) 1 (max 9 3)) (if ((fun _ => none : Int → Option Int) 1).isSome then 0 else 0 + 1) F2 → Gr (fun c => c = w.heap.size) (w.alloc (.cells (wcs 3 (.map none) nilL) 51)) w2 → Below w.heap.size w w2) := hid fun w2 cs2 F2 _ hg => hb0.trans (hg.below (fun c hc => by omega) hsz)
  clear hN hb0 hsz
  generalize w.alloc (.cells (wcs 3 (.map none) nilL) 51) = w1 at *
  go_enter Try.func13, Try.ntmps13
  go_wp2_with (first
    | (go_at_call 7; refine CN.mono ?_; rintro e w' ⟨rfl, hw⟩; rw [hw]; clear hw w')
    | (go_at_call 12; refine C0.mono ?_; rintro e w' ⟨rfl, hw⟩; rw [hw]; clear hw w')
    | (go_at_call 9; refine C1.mono ?_; rintro e w2 ⟨rfl, cs2, F2, hw2, hso2, hg2, hf2⟩; have C2 : Calls Try.prog 11 #[.pointer (some ⟨w.heap.size, 0, none⟩)] w2 fun e w' => e = .returned (.int .i64 1) ∧ w' = w2 := many_any hw2)
    | (go_at_call 11; refine C2.mono ?_; rintro e w' ⟨rfl, hw⟩; rw [hw]; clear hw w'))
  go_ret
  exact ⟨rfl, HE.out w2 cs2 F2 hw2 hg2⟩
theorem wpList_loadG {ops : Array Oper} {rest : List Oper} {o : Oper} {a : Act} {w : World} {Q : Exit → Act → World → Prop} (x : Operand) (ho : o.op = .load 43 x) (hw : Region.wanted o (yielded ops a.tmps) = true)
    (b f : Nat) (hx : a.eval x = .pointer (some ⟨b, f, none⟩)) (e : Tg) (h : w.rangeAt b f (tgl e))
    (hr : wpList Try.prog ops Q rest (a.put o.dst (.agg (tgc e))) w) : wpList Try.prog ops Q (o :: rest) a w :=
  wpList_step fun K hK => by
    rw [if_pos hw]
    exact wp_load_mid 43 x ho b f hx (tgl e) _ h Try.underlying43 rfl (tgl_info e) (hK _ _ hr)
theorem pl_new (w : World) (at' : Int) (h : 0 ≤ at' ∧ at' ≤ 1099511627776) : Pl w ((w.alloc (.cells (wcs at' (.map none) nilL) 51)).alloc (.cells #[.int .i64 at', .slice none 0 0] 41)) w.heap.size (w.heap.size + 1) [] [] at' at' (lk []) 0 [] := by
  have hN := wheel_new w at' h
  have hs : (w.alloc (.cells (wcs at' (.map none) nilL) 51)).heap.size = w.heap.size + 1 := by simp
  have e0 : (fun _ => none : Int → Option Int) = lk [] := rfl
  rw [e0] at hN
  have hb1 : Below (w.heap.size + 1) (w.alloc (.cells (wcs at' (.map none) nilL) 51)) ((w.alloc (.cells (wcs at' (.map none) nilL) 51)).alloc (.cells #[.int .i64 at', .slice none 0 0] 41)) := (Below.refl _ _).alloc (by rw [hs]; exact Nat.le_refl _) _
  refine ⟨_, fun c => c = w.heap.size, .slice none 0 0, hN.below (by rw [hs]; exact hb1), ⟨?_, TmO.nil _, by simp [Value.ownBlock], by simp⟩, List.nodup_nil, fun c hc => by subst hc; simp; omega, by omega, by omega, fun c hc => by simp [Value.ownBlock] at hc, by simp, by simp, ?_⟩
  · have := Row.new 41 (w.alloc (.cells (wcs at' (.map none) nilL) 51)) #[.int .i64 at', .slice none 0 0]
    rw [hs] at this
    exact this
  · exact ((Below.refl _ _).alloc (Nat.le_refl _) _).trans (hb1.mono (by omega))
theorem Pl.drewN {w W : World} {b p : Nat} {X : List (Nat × Obj)} {us : List (Value × List Int)} {now nowR : Int} {du : Int → Option Int} {cnt : Nat} {ts : List Tm} (h : Pl w W b p X us now nowR du cnt ts) (n : Nat) : Pl w (W.drewN n) b p X us now nowR du cnt ts := h.below ⟨rfl, rfl, rfl, Nat.le_refl _, fun _ _ => rfl⟩
theorem readK {w : World} {a : Option Addr} {kp : Nat} {l : List Int} {n : Nat} (h : Own w (.slice a n kp) l) (k : Nat) (hk : k < l.length) : ∃ g, a = some ⟨g, 0, none⟩ ∧ w.cell? ⟨g, k, none⟩ = some (.int .i64 l[k]) := by
  obtain ⟨g, cap, cur, e, hg, _, _, _, ht⟩ := h.shape (by omega)
  obtain ⟨rfl, _, _⟩ : a = some ⟨g, 0, none⟩ ∧ n = l.length ∧ kp = cap := by simpa using e
  exact ⟨g, rfl, (row_cell hg k).trans (cur_at ht k hk)⟩
theorem rem4 (k : Int) : wrap64 (k.tmod 4) = k.tmod 4 := by
  have := tmod_bd k 4 (by decide)
  unfold wrap64; omega
set_option maxRecDepth 10000 in
set_option maxHeartbeats 8000000 in
theorem plays_any (a0 : Int) (s1 : Option Addr) (c1 B O : Nat) (zs : List Tg) (w : World) (w0 : (Lit.int .i64 a0).wf = true) (hS : TgsAt w s1 c1 B O zs) :
    Calls Try.prog 5 #[.int .i64 a0, .slice s1 zs.length c1] w fun e w' => e = .returned (.bool true) ∧ Below w.heap.size w w' := by
  have CT := fun w => turnsLaw_any w
  by_cases hat : 0 ≤ a0 ∧ a0 ≤ 1099511627776
  · have CN := new_any w a0 hat
    have hP := pl_new w a0 hat
    have g1 : decide (a0 < 0) = false := by simp; omega
    have g2 : decide (1099511627776 < a0) = false := by simp; omega
    have hlt : 0 < zs.length → B < w.heap.size := hS.lt
    have HLen : Hid (zs.length ≤ 5864062014805) := hS.len
    obtain ⟨n, hn⟩ : ∃ n, n = zs.length := ⟨_, rfl⟩
    have HN : Hid (n = zs.length) := hn
    rw [← hn]
    clear hn hat
    go_enter Try.func5, Try.ntmps5
    go_wp2_with (go_at_call 7; refine CN.mono ?_; rintro e w' ⟨rfl, hw⟩; rw [hw]; clear hw w' CN)
    generalize (w.alloc (.cells (wcs a0 (.map none) nilL) 51)).alloc (.cells #[.int .i64 a0, .slice none 0 0] 41) = w1 at *
    go_loopw [8] (fun k W => ∃ j : Nat, k = .int .i64 (j : Int) ∧ Hid (j ≤ zs.length) ∧ ∃ (now : Int) (ts : List Tm), Pl w W w.heap.size (w.heap.size + 1) [] [] now now (lk ts) ts.length ts) (fun k _ => n - (intOf k).toNat)
    case atStart => exact ⟨0, rfl, Nat.zero_le _, a0, [], hP⟩
    case round =>
      clear hP
      obtain ⟨j, rfl, HJ0, now, ts, h⟩ := hrel
      by_cases hl1 : j < zs.length
      · have g3 : (j : Int) < (n : Int) := by have := HN.out; omega
        by_cases hl2 : j < 120
        · have g4 : (j : Int) < 120 := by omega
          have hjw := nextT hl2 (by decide)
          have HJ : Hid (j < zs.length) := hl1
          obtain ⟨x, hx⟩ : ∃ x : Tg, zs[j] = x := ⟨_, rfl⟩
          have hwf : Tg.wf x := by subst hx; exact hS.wf _ (List.getElem_mem hl1)
          have rE : World.rangeAt wr B (O + 3 * j) (tgl x) := by subst hx; exact (hS.below h.base hlt).row j hl1
          obtain ⟨kd, i, nn⟩ := x
          have HF : Hid (ts.length ≤ 400) := h.few
          have HI : Hid ((Lit.int .i64 i).wf = true) := hwf.2.1
          have hs1 : s1 = some ⟨B, O, none⟩ := hS.at0 (by omega)
          subst hs1
          have I1 := fun w => ixG B O n c1 j (HN.out ▸ hl1) w
          have hwm := rem4 kd
          have HO : Hid (Once ts) := h.once
          have HT : Hid (0 ≤ now ∧ now ≤ 1099511627776) := h.time
          clear hwf hx hl1 hl2
          by_cases z0 : kd.tmod 4 = 0
          · have g5 : (kd.tmod 4 == 0) = true := by simpa using z0
            clear z0
            go_upto_region 26 with (first | ((with_reducible refine atT (.load 43 (.tmp 61)) rfl ?_); refine wpList_loadG (.tmp 61) rfl rfl _ _ rfl (kd, i, nn) rE ?_) | ((with_reducible refine atT (.alloc 43) rfl ?_); refine wpList_allocR 43 rfl rfl _ tg_zero ?_; intro bx w1 l1 R1 hb1) | ((with_reducible refine atT (.store 43 (.tmp 9) (.tmp 62)) rfl ?_); refine wpList_storeR 43 rfl _ _ rfl bx (by kernel_rfl) (tgc (kd, i, nn)) (by kernel_rfl) _ R1 rfl (tgc_info _) (tgc_one _) ?_; intro w2 R2 t2; replace h := h.addX (t2.below _ _ l1 hb1) R2 l1; clear rE) | ((with_reducible refine atT (.load 3 (.tmp 63)) rfl ?_); refine wpList_loadF R2 _ rfl rfl 0 rfl kd rfl ?_) )
            clear t2 R1 hb1 l1; have hX : (World.heap _)[bx]? = some (.cells (tgc (kd, i, nn)) 43 (0, 0)) := R2; clear R2
            refine wp_region_noPanic ?_
            refine wp_region_held_drew (S := fun W => W.heap[bx]? = some (.cells (tgc (kd, i, nn)) 43 (0, 0))) (by kernel_rfl) hX (fun _ => ?_)
            refine wpAnyH_take (i := 0) (v := .pointer (some ⟨w.heap.size, 0, none⟩)) rfl (by kernel_rfl) (by kernel_rfl) (by kernel_rfl) (fun _ _ _ h => h) (Or.inl ⟨by kernel_rfl, by intro w hS; go_simp⟩) hX ?_
            simp only [Act.put, List.getElem_toArray, List.getElem_cons_succ, List.getElem_cons_zero, List.setIfInBounds_toArray, List.set_cons_zero, List.set_cons_succ]
            refine wpAnyH_take (i := 1) (v := .pointer (some ⟨bx, 1, none⟩)) rfl (by kernel_rfl) (by kernel_rfl) (by kernel_rfl) (fun _ _ _ h => h) (Or.inl ⟨by kernel_rfl, by intro w hS; go_simp⟩) hX ?_
            simp only [Act.put, List.getElem_toArray, List.getElem_cons_succ, List.getElem_cons_zero, List.setIfInBounds_toArray, List.set_cons_zero, List.set_cons_succ]
            refine wpAnyH_take (i := 2) (v := .int .i64 i) rfl (by kernel_rfl) (by kernel_rfl) (by kernel_rfl) (fun _ _ _ h => h) (Or.inl ⟨by kernel_rfl, by intro w hS; have hc := (Row.cell (t := 43) (cs := tgc (kd, i, nn)) hS 1).trans (show (tgc (kd, i, nn))[1]? = some (.int .i64 i) from rfl); go_simp⟩) hX ?_
            simp only [Act.put, List.getElem_toArray, List.getElem_cons_succ, List.getElem_cons_zero, List.setIfInBounds_toArray, List.set_cons_zero, List.set_cons_succ]
            refine wpAnyH_take (i := 3) (v := .pointer (some ⟨bx, 2, none⟩)) rfl (by kernel_rfl) (by kernel_rfl) (by kernel_rfl) (fun _ _ _ h => h) (Or.inl ⟨by kernel_rfl, by intro w hS; go_simp⟩) hX ?_
            simp only [Act.put, List.getElem_toArray, List.getElem_cons_succ, List.getElem_cons_zero, List.setIfInBounds_toArray, List.set_cons_zero, List.set_cons_succ]
            refine wpAnyH_take (i := 4) (v := .int .i64 nn) rfl (by kernel_rfl) (by kernel_rfl) (by kernel_rfl) (fun _ _ _ h => h) (Or.inl ⟨by kernel_rfl, by intro w hS; have hc := (Row.cell (t := 43) (cs := tgc (kd, i, nn)) hS 2).trans (show (tgc (kd, i, nn))[2]? = some (.int .i64 nn) from rfl); go_simp⟩) hX ?_
            simp only [Act.put, List.getElem_toArray, List.getElem_cons_succ, List.getElem_cons_zero, List.setIfInBounds_toArray, List.set_cons_zero, List.set_cons_succ]
            refine wpAnyH_take (i := 6) (v := .pointer (some ⟨w.heap.size + 1, 0, none⟩)) rfl (by kernel_rfl) (by kernel_rfl) (by kernel_rfl) (fun _ _ _ h => h) (Or.inl ⟨by kernel_rfl, by intro w hS; go_simp⟩) hX ?_
            simp only [Act.put, List.getElem_toArray, List.getElem_cons_succ, List.getElem_cons_zero, List.setIfInBounds_toArray, List.set_cons_zero, List.set_cons_succ]
            refine wpAnyH_take (i := 7) (v := .pointer (some ⟨bx, 1, none⟩)) rfl (by kernel_rfl) (by kernel_rfl) (by kernel_rfl) (fun _ _ _ h => h) (Or.inl ⟨by kernel_rfl, by intro w hS; go_simp⟩) hX ?_
            simp only [Act.put, List.getElem_toArray, List.getElem_cons_succ, List.getElem_cons_zero, List.setIfInBounds_toArray, List.set_cons_zero, List.set_cons_succ]
            refine wpAnyH_take (i := 8) (v := .int .i64 i) rfl (by kernel_rfl) (by kernel_rfl) (by kernel_rfl) (fun _ _ _ h => h) (Or.inl ⟨by kernel_rfl, by intro w hS; have hc := (Row.cell (t := 43) (cs := tgc (kd, i, nn)) hS 1).trans (show (tgc (kd, i, nn))[1]? = some (.int .i64 i) from rfl); go_simp⟩) hX ?_
            simp only [Act.put, List.getElem_toArray, List.getElem_cons_succ, List.getElem_cons_zero, List.setIfInBounds_toArray, List.set_cons_zero, List.set_cons_succ]
            refine wpAnyH_take (i := 9) (v := .pointer (some ⟨bx, 2, none⟩)) rfl (by kernel_rfl) (by kernel_rfl) (by kernel_rfl) (fun _ _ _ h => h) (Or.inl ⟨by kernel_rfl, by intro w hS; go_simp⟩) hX ?_
            simp only [Act.put, List.getElem_toArray, List.getElem_cons_succ, List.getElem_cons_zero, List.setIfInBounds_toArray, List.set_cons_zero, List.set_cons_succ]
            refine wpAnyH_take (i := 10) (v := .int .i64 nn) rfl (by kernel_rfl) (by kernel_rfl) (by kernel_rfl) (fun _ _ _ h => h) (Or.inl ⟨by kernel_rfl, by intro w hS; have hc := (Row.cell (t := 43) (cs := tgc (kd, i, nn)) hS 2).trans (show (tgc (kd, i, nn))[2]? = some (.int .i64 nn) from rfl); go_simp⟩) hX ?_
            simp only [Act.put, List.getElem_toArray, List.getElem_cons_succ, List.getElem_cons_zero, List.setIfInBounds_toArray, List.set_cons_zero, List.set_cons_succ]
            refine wpAnyH_ready (rs := [5]) (by kernel_rfl) (by simp) ?_
            refine AllReadyH.cons rfl (fun K hK => ?_) ?_
            · go_simp
              go_at_call 9; (first | refine (armW_pl h.drew i nn HI.out).mono ?_ | refine (armW_pl h i nn HI.out).mono ?_); rintro e w9 ⟨rfl, h9⟩; clear h; have h := h9; clear h9; replace hX : (World.heap _)[bx]? = some (.cells (tgc (kd, i, nn)) 43 (0, 0)) := h.block (List.mem_singleton.2 rfl)
              go_wp2_with fail
              refine hK.out _ _ hX (fun _ => ?_)
              clear hK K
              try simp only [Act.put, List.getElem_toArray, List.getElem_cons_succ, List.getElem_cons_zero, List.setIfInBounds_toArray, List.set_cons_zero, List.set_cons_succ]
              refine wpAnyH_ready (rs := [11]) (by kernel_rfl) (by simp) ?_
              refine AllReadyH.cons rfl (fun K hK => ?_) ?_
              · go_simp
                go_at_call 14; (first | refine (armR_pl h.drew i nn).mono ?_ | refine (armR_pl h i nn).mono ?_); rintro e w9 ⟨rfl, h9⟩; clear h; have h := h9; clear h9; replace hX : (World.heap _)[bx]? = some (.cells (tgc (kd, i, nn)) 43 (0, 0)) := h.block (List.mem_singleton.2 rfl)
                go_wp2_with fail
                refine hK.out _ _ hX (fun _ => ?_)
                clear hK K
                try simp only [Act.put, List.getElem_toArray, List.getElem_cons_succ, List.getElem_cons_zero, List.setIfInBounds_toArray, List.set_cons_zero, List.set_cons_succ]
                refine wpAnyH_take (i := 12) (v := .bool false) rfl (by kernel_rfl) (by kernel_rfl) (by kernel_rfl) (fun _ _ _ h => h) (yields_neE (.tmp 133) (.tmp 139) rfl (by kernel_rfl) (armE (lk ts) ts.length i nn) (by kernel_rfl) (by kernel_rfl)) hX ?_
                simp only [Act.put, List.getElem_toArray, List.getElem_cons_succ, List.getElem_cons_zero, List.setIfInBounds_toArray, List.set_cons_zero, List.set_cons_succ]
                refine wpAnyH_done (by kernel_rfl) ?_ _
                refine NoPanic.normal ?_
                obtain ⟨u1, u2, u3⟩ := arm_two HO.out now i nn
                rw [← u1, ← u2] at h
                obtain ⟨ts2, hts2⟩ : ∃ t, t = armT now ts i nn := ⟨_, rfl⟩
                rw [← hts2] at h
                obtain ⟨n2, hn2⟩ : ∃ n, n = ts2.length := ⟨_, rfl⟩
                rw [← hn2] at h
                have H2 : Hid (n2 = ts2.length) := hn2
                obtain ⟨now2, hnow2⟩ : ∃ n, n = now := ⟨_, rfl⟩
                rw [← hnow2] at h
                obtain ⟨us2, hus2⟩ : ∃ u : List (Value × List Int), u = [] := ⟨_, rfl⟩
                rw [← hus2] at h
                clear u1 u2 u3 hts2 hn2 hnow2 hus2
                have RX : Row 43 _ bx (tgc (kd, i, nn)) := h.block (y := (bx, _)) (List.mem_singleton.2 rfl)
                obtain ⟨dv, hdv⟩ : ∃ d, (lk ts2 i).getD 0 = d := ⟨_, rfl⟩
                obtain ⟨ds, hds⟩ : ∃ d, (lk ts2 i).isSome = d := ⟨_, rfl⟩
                have CW := fun {W} h => dueW_pl (w := w) (W := W) (b := w.heap.size) (p := w.heap.size + 1) (X := [(bx, .cells (tgc (kd, i, nn)) 43 (0, 0))]) (us := us2) (now := now2) (nowR := now2) (du := lk ts2) (cnt := n2) (ts := ts2) h i HI.out
                have CR := fun {W} h => dueR_pl (w := w) (W := W) (b := w.heap.size) (p := w.heap.size + 1) (X := [(bx, .cells (tgc (kd, i, nn)) 43 (0, 0))]) (us := us2) (now := now2) (nowR := now2) (du := lk ts2) (cnt := n2) (ts := ts2) h i
                rw [hdv, hds] at CW CR
                have q1 : (dv != dv) = false := by simp
                have q2 : (ds != ds) = false := by simp
                have q3 : (now2 != now2) = false := by simp
                have q4 : ((n2 : Int) != (n2 : Int)) = false := by simp
                clear hdv hds
                go_upto_region 33 with (first
                  | (go_at_call 18; refine (CW h).mono ?_; rintro e w' ⟨rfl, hw⟩; rw [hw]; clear hw w')
                  | (go_at_call 19; refine (CR h).mono ?_; rintro e w9 ⟨rfl, h9⟩; clear h RX; have h := h9; clear h9)
                  | ((with_reducible refine atT (.load 3 (.tmp 154)) rfl ?_); refine wpList_loadF RX _ rfl rfl 1 rfl i rfl ?_)
                  | ((with_reducible refine atT (.load 3 (.tmp 161)) rfl ?_); refine wpList_loadF RX _ rfl rfl 1 rfl i rfl ?_))
                clear CW CR
                obtain ⟨a4, m4, c4, k0, k1, hm4⟩ := h.cells
                obtain rfl : m4 = n2 := by rw [hm4]; exact H2.out.symm
                clear hm4
                go_quiet ((first | (go_at_call 12; exact Calls.quiet_of_same (nowW_pl (h.drewN _))) | (go_at_call 11; exact Calls.quiet_of_same (manyW_pl (h.drewN _)))))
                clear k0 k1 q1 q2 q3 q4
                go_wp2
                go_roundw
                case rel => first | exact ⟨j + 1, castT j, hidT (Nat.succ_le_of_lt HJ.out), now2, ts2, H2.out ▸ (h.bare.drewN _)⟩ | exact ⟨j + 1, castTW hjw, hidT (Nat.succ_le_of_lt HJ.out), now2, ts2, H2.out ▸ (h.bare.drewN _)⟩
                case measure => (first | rw [hjw] | skip); exact measT (HN.out ▸ HJ.out)
              exact AllReadyH.nil
            exact AllReadyH.nil
          · have g5 : (kd.tmod 4 == 0) = false := by simpa using z0
            by_cases z1 : kd.tmod 4 = 1
            · have g6 : (kd.tmod 4 == 1) = true := by simpa using z1
              clear z0 z1
              go_upto_region 29 with (first | ((with_reducible refine atT (.load 43 (.tmp 61)) rfl ?_); refine wpList_loadG (.tmp 61) rfl rfl _ _ rfl (kd, i, nn) rE ?_) | ((with_reducible refine atT (.alloc 43) rfl ?_); refine wpList_allocR 43 rfl rfl _ tg_zero ?_; intro bx w1 l1 R1 hb1) | ((with_reducible refine atT (.store 43 (.tmp 9) (.tmp 62)) rfl ?_); refine wpList_storeR 43 rfl _ _ rfl bx (by kernel_rfl) (tgc (kd, i, nn)) (by kernel_rfl) _ R1 rfl (tgc_info _) (tgc_one _) ?_; intro w2 R2 t2; replace h := h.addX (t2.below _ _ l1 hb1) R2 l1; clear rE) | ((with_reducible refine atT (.load 3 (.tmp 63)) rfl ?_); refine wpList_loadF R2 _ rfl rfl 0 rfl kd rfl ?_) )
              clear t2 R1 hb1 l1; have hX : (World.heap _)[bx]? = some (.cells (tgc (kd, i, nn)) 43 (0, 0)) := R2; clear R2
              refine wp_region_noPanic ?_
              refine wp_region_held_drew (S := fun W => W.heap[bx]? = some (.cells (tgc (kd, i, nn)) 43 (0, 0))) (by kernel_rfl) hX (fun _ => ?_)
              refine wpAnyH_take (i := 0) (v := .pointer (some ⟨w.heap.size, 0, none⟩)) rfl (by kernel_rfl) (by kernel_rfl) (by kernel_rfl) (fun _ _ _ h => h) (Or.inl ⟨by kernel_rfl, by intro w hS; go_simp⟩) hX ?_
              simp only [Act.put, List.getElem_toArray, List.getElem_cons_succ, List.getElem_cons_zero, List.setIfInBounds_toArray, List.set_cons_zero, List.set_cons_succ]
              refine wpAnyH_take (i := 1) (v := .pointer (some ⟨bx, 1, none⟩)) rfl (by kernel_rfl) (by kernel_rfl) (by kernel_rfl) (fun _ _ _ h => h) (Or.inl ⟨by kernel_rfl, by intro w hS; go_simp⟩) hX ?_
              simp only [Act.put, List.getElem_toArray, List.getElem_cons_succ, List.getElem_cons_zero, List.setIfInBounds_toArray, List.set_cons_zero, List.set_cons_succ]
              refine wpAnyH_take (i := 2) (v := .int .i64 i) rfl (by kernel_rfl) (by kernel_rfl) (by kernel_rfl) (fun _ _ _ h => h) (Or.inl ⟨by kernel_rfl, by intro w hS; have hc := (Row.cell (t := 43) (cs := tgc (kd, i, nn)) hS 1).trans (show (tgc (kd, i, nn))[1]? = some (.int .i64 i) from rfl); go_simp⟩) hX ?_
              simp only [Act.put, List.getElem_toArray, List.getElem_cons_succ, List.getElem_cons_zero, List.setIfInBounds_toArray, List.set_cons_zero, List.set_cons_succ]
              refine wpAnyH_take (i := 4) (v := .pointer (some ⟨w.heap.size + 1, 0, none⟩)) rfl (by kernel_rfl) (by kernel_rfl) (by kernel_rfl) (fun _ _ _ h => h) (Or.inl ⟨by kernel_rfl, by intro w hS; go_simp⟩) hX ?_
              simp only [Act.put, List.getElem_toArray, List.getElem_cons_succ, List.getElem_cons_zero, List.setIfInBounds_toArray, List.set_cons_zero, List.set_cons_succ]
              refine wpAnyH_take (i := 5) (v := .pointer (some ⟨bx, 1, none⟩)) rfl (by kernel_rfl) (by kernel_rfl) (by kernel_rfl) (fun _ _ _ h => h) (Or.inl ⟨by kernel_rfl, by intro w hS; go_simp⟩) hX ?_
              simp only [Act.put, List.getElem_toArray, List.getElem_cons_succ, List.getElem_cons_zero, List.setIfInBounds_toArray, List.set_cons_zero, List.set_cons_succ]
              refine wpAnyH_take (i := 6) (v := .int .i64 i) rfl (by kernel_rfl) (by kernel_rfl) (by kernel_rfl) (fun _ _ _ h => h) (Or.inl ⟨by kernel_rfl, by intro w hS; have hc := (Row.cell (t := 43) (cs := tgc (kd, i, nn)) hS 1).trans (show (tgc (kd, i, nn))[1]? = some (.int .i64 i) from rfl); go_simp⟩) hX ?_
              simp only [Act.put, List.getElem_toArray, List.getElem_cons_succ, List.getElem_cons_zero, List.setIfInBounds_toArray, List.set_cons_zero, List.set_cons_succ]
              refine wpAnyH_ready (rs := [3]) (by kernel_rfl) (by simp) ?_
              refine AllReadyH.cons rfl (fun K hK => ?_) ?_
              · go_simp
                go_at_call 15; (first | refine (canW_pl h.drew i HI.out).mono ?_ | refine (canW_pl h i HI.out).mono ?_); rintro e w9 ⟨rfl, h9⟩; clear h; have h := h9; clear h9; replace hX : (World.heap _)[bx]? = some (.cells (tgc (kd, i, nn)) 43 (0, 0)) := h.block (List.mem_singleton.2 rfl)
                go_wp2_with fail
                refine hK.out _ _ hX (fun _ => ?_)
                clear hK K
                try simp only [Act.put, List.getElem_toArray, List.getElem_cons_succ, List.getElem_cons_zero, List.setIfInBounds_toArray, List.set_cons_zero, List.set_cons_succ]
                refine wpAnyH_ready (rs := [7]) (by kernel_rfl) (by simp) ?_
                refine AllReadyH.cons rfl (fun K hK => ?_) ?_
                · go_simp
                  go_at_call 16; (first | refine (canR_pl h.drew i).mono ?_ | refine (canR_pl h i).mono ?_); rintro e w9 ⟨rfl, h9⟩; clear h; have h := h9; clear h9; replace hX : (World.heap _)[bx]? = some (.cells (tgc (kd, i, nn)) 43 (0, 0)) := h.block (List.mem_singleton.2 rfl)
                  go_wp2_with fail
                  refine hK.out _ _ hX (fun _ => ?_)
                  clear hK K
                  try simp only [Act.put, List.getElem_toArray, List.getElem_cons_succ, List.getElem_cons_zero, List.setIfInBounds_toArray, List.set_cons_zero, List.set_cons_succ]
                  refine wpAnyH_take (i := 8) (v := .bool false) rfl (by kernel_rfl) (by kernel_rfl) (by kernel_rfl) (fun _ _ _ h => h) (yields_neE (.tmp 146) (.tmp 150) rfl (by kernel_rfl) (canD (lk ts) i) (by kernel_rfl) (by kernel_rfl)) hX ?_
                  simp only [Act.put, List.getElem_toArray, List.getElem_cons_succ, List.getElem_cons_zero, List.setIfInBounds_toArray, List.set_cons_zero, List.set_cons_succ]
                  refine wpAnyH_done (by kernel_rfl) ?_ _
                  refine NoPanic.normal ?_
                  obtain ⟨u1, u2, u3⟩ := can_two HO.out i
                  rw [← u1, ← u2] at h
                  obtain ⟨ts2, hts2⟩ : ∃ t, t = outT ts i := ⟨_, rfl⟩
                  rw [← hts2] at h
                  obtain ⟨n2, hn2⟩ : ∃ n, n = ts2.length := ⟨_, rfl⟩
                  rw [← hn2] at h
                  have H2 : Hid (n2 = ts2.length) := hn2
                  obtain ⟨now2, hnow2⟩ : ∃ n, n = now := ⟨_, rfl⟩
                  rw [← hnow2] at h
                  obtain ⟨us2, hus2⟩ : ∃ u : List (Value × List Int), u = [] := ⟨_, rfl⟩
                  rw [← hus2] at h
                  clear u1 u2 u3 hts2 hn2 hnow2 hus2
                  have RX : Row 43 _ bx (tgc (kd, i, nn)) := h.block (y := (bx, _)) (List.mem_singleton.2 rfl)
                  obtain ⟨dv, hdv⟩ : ∃ d, (lk ts2 i).getD 0 = d := ⟨_, rfl⟩
                  obtain ⟨ds, hds⟩ : ∃ d, (lk ts2 i).isSome = d := ⟨_, rfl⟩
                  have CW := fun {W} h => dueW_pl (w := w) (W := W) (b := w.heap.size) (p := w.heap.size + 1) (X := [(bx, .cells (tgc (kd, i, nn)) 43 (0, 0))]) (us := us2) (now := now2) (nowR := now2) (du := lk ts2) (cnt := n2) (ts := ts2) h i HI.out
                  have CR := fun {W} h => dueR_pl (w := w) (W := W) (b := w.heap.size) (p := w.heap.size + 1) (X := [(bx, .cells (tgc (kd, i, nn)) 43 (0, 0))]) (us := us2) (now := now2) (nowR := now2) (du := lk ts2) (cnt := n2) (ts := ts2) h i
                  rw [hdv, hds] at CW CR
                  have q1 : (dv != dv) = false := by simp
                  have q2 : (ds != ds) = false := by simp
                  have q3 : (now2 != now2) = false := by simp
                  have q4 : ((n2 : Int) != (n2 : Int)) = false := by simp
                  clear hdv hds
                  go_upto_region 33 with (first
                    | (go_at_call 18; refine (CW h).mono ?_; rintro e w' ⟨rfl, hw⟩; rw [hw]; clear hw w')
                    | (go_at_call 19; refine (CR h).mono ?_; rintro e w9 ⟨rfl, h9⟩; clear h RX; have h := h9; clear h9)
                    | ((with_reducible refine atT (.load 3 (.tmp 154)) rfl ?_); refine wpList_loadF RX _ rfl rfl 1 rfl i rfl ?_)
                    | ((with_reducible refine atT (.load 3 (.tmp 161)) rfl ?_); refine wpList_loadF RX _ rfl rfl 1 rfl i rfl ?_))
                  clear CW CR
                  obtain ⟨a4, m4, c4, k0, k1, hm4⟩ := h.cells
                  obtain rfl : m4 = n2 := by rw [hm4]; exact H2.out.symm
                  clear hm4
                  go_quiet ((first | (go_at_call 12; exact Calls.quiet_of_same (nowW_pl (h.drewN _))) | (go_at_call 11; exact Calls.quiet_of_same (manyW_pl (h.drewN _)))))
                  clear k0 k1 q1 q2 q3 q4
                  go_wp2
                  go_roundw
                  case rel => first | exact ⟨j + 1, castT j, hidT (Nat.succ_le_of_lt HJ.out), now2, ts2, H2.out ▸ (h.bare.drewN _)⟩ | exact ⟨j + 1, castTW hjw, hidT (Nat.succ_le_of_lt HJ.out), now2, ts2, H2.out ▸ (h.bare.drewN _)⟩
                  case measure => (first | rw [hjw] | skip); exact measT (HN.out ▸ HJ.out)
                exact AllReadyH.nil
              exact AllReadyH.nil
            · have g6 : (kd.tmod 4 == 1) = false := by simpa using z1
              clear z0 z1
              by_cases z2 : kd.tmod 4 = 2
              · have g7 : (kd.tmod 4 == 2) = true := by simpa using z2
                clear z2
                by_cases zn : 0 ≤ nn
                · have g8 : decide (0 ≤ nn) = true := by simpa using zn
                  by_cases zm : nn ≤ 1099511627776
                  · have g9 : decide (nn ≤ 1099511627776) = true := by simpa using zm
                    have hwa : wrap64 (now + nn) = now + nn := by have := HT.out; unfold wrap64; omega
                    clear zn zm
                    go_upto_region 14 with (first | ((with_reducible refine atT (.load 43 (.tmp 61)) rfl ?_); refine wpList_loadG (.tmp 61) rfl rfl _ _ rfl (kd, i, nn) rE ?_) | ((with_reducible refine atT (.alloc 43) rfl ?_); refine wpList_allocR 43 rfl rfl _ tg_zero ?_; intro bx w1 l1 R1 hb1) | ((with_reducible refine atT (.store 43 (.tmp 9) (.tmp 62)) rfl ?_); refine wpList_storeR 43 rfl _ _ rfl bx (by kernel_rfl) (tgc (kd, i, nn)) (by kernel_rfl) _ R1 rfl (tgc_info _) (tgc_one _) ?_; intro w2 R2 t2; replace h := h.addX (t2.below _ _ l1 hb1) R2 l1; clear rE) | ((with_reducible refine atT (.load 3 (.tmp 63)) rfl ?_); refine wpList_loadF R2 _ rfl rfl 0 rfl kd rfl ?_)  | ((with_reducible refine atT (.load 3 (.tmp 66)) rfl ?_); refine wpList_loadF R2 _ rfl rfl 2 rfl nn rfl ?_) | ((with_reducible refine atT (.load 3 (.tmp 68)) rfl ?_); refine wpList_loadF R2 _ rfl rfl 0 rfl kd rfl ?_) | ((with_reducible refine atT (.load 3 (.tmp 73)) rfl ?_); refine wpList_loadF R2 _ rfl rfl 2 rfl nn rfl ?_) | ((with_reducible refine atT (.load 3 (.tmp 78)) rfl ?_); refine wpList_loadF R2 _ rfl rfl 2 rfl nn rfl ?_))
                    obtain ⟨a4, m4, c4, k0, k4, -⟩ := h.cells
                    clear k4
                    have kx2 : World.cell? _ ⟨bx, 2, none⟩ = some (.int .i64 nn) := R2.cell 2
                    go_quiet (fail)
                    clear k0 kx2
                    clear t2 R1 hb1 l1; clear R2
                    have q5 : (advE now (now + nn) != advE now (now + nn)) = false := by simp
                    go_wp2_with (first | (go_at_call 10; (first | refine (advW_pl h (now + nn)).mono ?_ | refine (advW_pl (h.drewN _) (now + nn)).mono ?_); rintro e w9 ⟨u, rfl, l, c5, o1, o2, h9⟩; clear h; obtain ⟨au, cu, eu⟩ := own_slice (h9.told (List.mem_cons_self)); obtain ⟨n5, hn5⟩ : ∃ n, n = l.length := ⟨_, rfl⟩; rw [← hn5] at eu; subst eu; have H5 : Hid (n5 = l.length) := hn5; have HL5 : Hid (n5 ≤ 1000000) := hidT (by have := HF.out; omega); clear hn5; have q6 : ((n5 : Int) != (n5 : Int)) = false := (by simp); replace o1 := hidT o1; replace o2 := hidT o2) | (go_at_call 17; refine (advR_pl h9 (now + nn)).mono ?_; rintro e w8 ⟨u8, rfl, l8, rs, o3, h8⟩; clear h9; obtain ⟨e1, e2, e3⟩ := adv_two HO.out o1.out o2.out o3; subst e1 e3; rw [e2] at h8; obtain ⟨av, cv, ev⟩ := own_slice (h8.told (List.mem_cons_self)); rw [← H5.out] at ev; subst ev; clear o1 o2 o3 e2; have h := h8; clear h8))
                    clear q5 q6
                    obtain ⟨ts2, hts2⟩ : ∃ t, t = rs := ⟨_, rfl⟩
                    rw [← hts2] at h
                    obtain ⟨n2, hn2⟩ : ∃ n, n = ts2.length := ⟨_, rfl⟩
                    rw [← hn2] at h
                    have H2 : Hid (n2 = ts2.length) := hn2
                    obtain ⟨now2, hnow2⟩ : ∃ n, n = advN now (now + nn) := ⟨_, rfl⟩
                    rw [← hnow2] at h
                    obtain ⟨us2, hus2⟩ : ∃ u : List (Value × List Int), u = [(.slice av n5 cv, l8), (.slice au n5 cu, l8)] := ⟨_, rfl⟩
                    rw [← hus2] at h
                    have HU : Hid (us2 = [(.slice av n5 cv, l8), (.slice au n5 cu, l8)]) := hus2
                    clear hts2 hn2 hnow2 hus2
                    go_loopw [113] (fun k W => ∃ m : Nat, k = .int .i64 (m : Int) ∧ Hid (m ≤ n5) ∧ Pl w W w.heap.size (w.heap.size + 1) [(bx, .cells (tgc (kd, i, nn)) 43 (0, 0))] us2 now2 now2 (lk ts2) n2 ts2) (fun k _ => n5 - (intOf k).toNat)
                    case atStart => exact ⟨0, rfl, Nat.zero_le _, h⟩
                    case round =>
                      clear h
                      obtain ⟨m, rfl, HM, h⟩ := hrel
                      by_cases hm : m < n5
                      · have g6 : (m : Int) < (n5 : Int) := by omega
                        have hmw := wrap_up (p := m) (by have := HL5.out; omega)
                        have HMM : Hid (m < n5) := hm
                        obtain ⟨g1, rfl, r1⟩ := readK (h.told (u := .slice av n5 cv) (l := l8) (by rw [HU.out]; simp)) m (H5.out ▸ hm)
                        obtain ⟨g2, rfl, r2⟩ := readK (h.told (u := .slice au n5 cu) (l := l8) (by rw [HU.out]; simp)) m (H5.out ▸ hm)
                        have J1 := fun w => ixI g1 n5 cv m hm w
                        have J2 := fun w => ixI g2 n5 cu m hm w
                        generalize l8[m]'_ = y at r1 r2
                        have q7 : (y != y) = false := by simp
                        clear hm
                        go_upto_region 22 with (fail)
                        go_quiet (fail)
                        go_wp2
                        go_roundw
                        case rel => first | exact ⟨m + 1, castT m, hidT (Nat.succ_le_of_lt HMM.out), h.drewN _⟩ | exact ⟨m + 1, castTW hmw, hidT (Nat.succ_le_of_lt HMM.out), h.drewN _⟩
                        case measure => (first | rw [hmw] | skip); exact measT HMM.out
                      · have g6 : ¬ (m : Int) < (n5 : Int) := by omega
                        clear hm
                        have RX : Row 43 _ bx (tgc (kd, i, nn)) := h.block (y := (bx, _)) (List.mem_singleton.2 rfl)
                        obtain ⟨dv, hdv⟩ : ∃ d, (lk ts2 i).getD 0 = d := ⟨_, rfl⟩
                        obtain ⟨ds, hds⟩ : ∃ d, (lk ts2 i).isSome = d := ⟨_, rfl⟩
                        have CW := fun {W} h => dueW_pl (w := w) (W := W) (b := w.heap.size) (p := w.heap.size + 1) (X := [(bx, .cells (tgc (kd, i, nn)) 43 (0, 0))]) (us := us2) (now := now2) (nowR := now2) (du := lk ts2) (cnt := n2) (ts := ts2) h i HI.out
                        have CR := fun {W} h => dueR_pl (w := w) (W := W) (b := w.heap.size) (p := w.heap.size + 1) (X := [(bx, .cells (tgc (kd, i, nn)) 43 (0, 0))]) (us := us2) (now := now2) (nowR := now2) (du := lk ts2) (cnt := n2) (ts := ts2) h i
                        rw [hdv, hds] at CW CR
                        have q1 : (dv != dv) = false := by simp
                        have q2 : (ds != ds) = false := by simp
                        have q3 : (now2 != now2) = false := by simp
                        have q4 : ((n2 : Int) != (n2 : Int)) = false := by simp
                        clear hdv hds
                        go_upto_region 33 with (first
                          | (go_at_call 18; refine (CW h).mono ?_; rintro e w' ⟨rfl, hw⟩; rw [hw]; clear hw w')
                          | (go_at_call 19; refine (CR h).mono ?_; rintro e w9 ⟨rfl, h9⟩; clear h RX; have h := h9; clear h9)
                          | ((with_reducible refine atT (.load 3 (.tmp 154)) rfl ?_); refine wpList_loadF RX _ rfl rfl 1 rfl i rfl ?_)
                          | ((with_reducible refine atT (.load 3 (.tmp 161)) rfl ?_); refine wpList_loadF RX _ rfl rfl 1 rfl i rfl ?_))
                        clear CW CR
                        obtain ⟨a4, m4, c4, k0, k1, hm4⟩ := h.cells
                        obtain rfl : m4 = n2 := by rw [hm4]; exact H2.out.symm
                        clear hm4
                        go_quiet ((first | (go_at_call 12; exact Calls.quiet_of_same (nowW_pl (h.drewN _))) | (go_at_call 11; exact Calls.quiet_of_same (manyW_pl (h.drewN _)))))
                        clear k0 k1 q1 q2 q3 q4
                        go_wp2
                        go_roundw
                        case rel => first | exact ⟨j + 1, castT j, hidT (Nat.succ_le_of_lt HJ.out), now2, ts2, H2.out ▸ (h.bare.drewN _)⟩ | exact ⟨j + 1, castTW hjw, hidT (Nat.succ_le_of_lt HJ.out), now2, ts2, H2.out ▸ (h.bare.drewN _)⟩
                        case measure => (first | rw [hjw] | skip); exact measT (HN.out ▸ HJ.out)
                  · have g9 : decide (nn ≤ 1099511627776) = false := by simpa using zm
                    clear zn zm
                    go_upto_region 15 with (first | ((with_reducible refine atT (.load 43 (.tmp 61)) rfl ?_); refine wpList_loadG (.tmp 61) rfl rfl _ _ rfl (kd, i, nn) rE ?_) | ((with_reducible refine atT (.alloc 43) rfl ?_); refine wpList_allocR 43 rfl rfl _ tg_zero ?_; intro bx w1 l1 R1 hb1) | ((with_reducible refine atT (.store 43 (.tmp 9) (.tmp 62)) rfl ?_); refine wpList_storeR 43 rfl _ _ rfl bx (by kernel_rfl) (tgc (kd, i, nn)) (by kernel_rfl) _ R1 rfl (tgc_info _) (tgc_one _) ?_; intro w2 R2 t2; replace h := h.addX (t2.below _ _ l1 hb1) R2 l1; clear rE) | ((with_reducible refine atT (.load 3 (.tmp 63)) rfl ?_); refine wpList_loadF R2 _ rfl rfl 0 rfl kd rfl ?_)  | ((with_reducible refine atT (.load 3 (.tmp 66)) rfl ?_); refine wpList_loadF R2 _ rfl rfl 2 rfl nn rfl ?_) | ((with_reducible refine atT (.load 3 (.tmp 68)) rfl ?_); refine wpList_loadF R2 _ rfl rfl 0 rfl kd rfl ?_) | ((with_reducible refine atT (.load 3 (.tmp 73)) rfl ?_); refine wpList_loadF R2 _ rfl rfl 2 rfl nn rfl ?_) | ((with_reducible refine atT (.load 3 (.tmp 78)) rfl ?_); refine wpList_loadF R2 _ rfl rfl 2 rfl nn rfl ?_))
                    clear t2 R1 hb1 l1; clear R2
                    have q5 : (advE now nn != advE now nn) = false := by simp
                    go_wp2_with (first | (go_at_call 10; (first | refine (advW_pl h nn).mono ?_ | refine (advW_pl (h.drewN _) nn).mono ?_); rintro e w9 ⟨u, rfl, l, c5, o1, o2, h9⟩; clear h; obtain ⟨au, cu, eu⟩ := own_slice (h9.told (List.mem_cons_self)); obtain ⟨n5, hn5⟩ : ∃ n, n = l.length := ⟨_, rfl⟩; rw [← hn5] at eu; subst eu; have H5 : Hid (n5 = l.length) := hn5; have HL5 : Hid (n5 ≤ 1000000) := hidT (by have := HF.out; omega); clear hn5; have q6 : ((n5 : Int) != (n5 : Int)) = false := (by simp); replace o1 := hidT o1; replace o2 := hidT o2) | (go_at_call 17; refine (advR_pl h9 nn).mono ?_; rintro e w8 ⟨u8, rfl, l8, rs, o3, h8⟩; clear h9; obtain ⟨e1, e2, e3⟩ := adv_two HO.out o1.out o2.out o3; subst e1 e3; rw [e2] at h8; obtain ⟨av, cv, ev⟩ := own_slice (h8.told (List.mem_cons_self)); rw [← H5.out] at ev; subst ev; clear o1 o2 o3 e2; have h := h8; clear h8))
                    clear q5 q6
                    obtain ⟨ts2, hts2⟩ : ∃ t, t = rs := ⟨_, rfl⟩
                    rw [← hts2] at h
                    obtain ⟨n2, hn2⟩ : ∃ n, n = ts2.length := ⟨_, rfl⟩
                    rw [← hn2] at h
                    have H2 : Hid (n2 = ts2.length) := hn2
                    obtain ⟨now2, hnow2⟩ : ∃ n, n = advN now nn := ⟨_, rfl⟩
                    rw [← hnow2] at h
                    obtain ⟨us2, hus2⟩ : ∃ u : List (Value × List Int), u = [(.slice av n5 cv, l8), (.slice au n5 cu, l8)] := ⟨_, rfl⟩
                    rw [← hus2] at h
                    have HU : Hid (us2 = [(.slice av n5 cv, l8), (.slice au n5 cu, l8)]) := hus2
                    clear hts2 hn2 hnow2 hus2
                    go_loopw [113] (fun k W => ∃ m : Nat, k = .int .i64 (m : Int) ∧ Hid (m ≤ n5) ∧ Pl w W w.heap.size (w.heap.size + 1) [(bx, .cells (tgc (kd, i, nn)) 43 (0, 0))] us2 now2 now2 (lk ts2) n2 ts2) (fun k _ => n5 - (intOf k).toNat)
                    case atStart => exact ⟨0, rfl, Nat.zero_le _, h⟩
                    case round =>
                      clear h
                      obtain ⟨m, rfl, HM, h⟩ := hrel
                      by_cases hm : m < n5
                      · have g6 : (m : Int) < (n5 : Int) := by omega
                        have hmw := wrap_up (p := m) (by have := HL5.out; omega)
                        have HMM : Hid (m < n5) := hm
                        obtain ⟨g1, rfl, r1⟩ := readK (h.told (u := .slice av n5 cv) (l := l8) (by rw [HU.out]; simp)) m (H5.out ▸ hm)
                        obtain ⟨g2, rfl, r2⟩ := readK (h.told (u := .slice au n5 cu) (l := l8) (by rw [HU.out]; simp)) m (H5.out ▸ hm)
                        have J1 := fun w => ixI g1 n5 cv m hm w
                        have J2 := fun w => ixI g2 n5 cu m hm w
                        generalize l8[m]'_ = y at r1 r2
                        have q7 : (y != y) = false := by simp
                        clear hm
                        go_upto_region 22 with (fail)
                        go_quiet (fail)
                        go_wp2
                        go_roundw
                        case rel => first | exact ⟨m + 1, castT m, hidT (Nat.succ_le_of_lt HMM.out), h.drewN _⟩ | exact ⟨m + 1, castTW hmw, hidT (Nat.succ_le_of_lt HMM.out), h.drewN _⟩
                        case measure => (first | rw [hmw] | skip); exact measT HMM.out
                      · have g6 : ¬ (m : Int) < (n5 : Int) := by omega
                        clear hm
                        have RX : Row 43 _ bx (tgc (kd, i, nn)) := h.block (y := (bx, _)) (List.mem_singleton.2 rfl)
                        obtain ⟨dv, hdv⟩ : ∃ d, (lk ts2 i).getD 0 = d := ⟨_, rfl⟩
                        obtain ⟨ds, hds⟩ : ∃ d, (lk ts2 i).isSome = d := ⟨_, rfl⟩
                        have CW := fun {W} h => dueW_pl (w := w) (W := W) (b := w.heap.size) (p := w.heap.size + 1) (X := [(bx, .cells (tgc (kd, i, nn)) 43 (0, 0))]) (us := us2) (now := now2) (nowR := now2) (du := lk ts2) (cnt := n2) (ts := ts2) h i HI.out
                        have CR := fun {W} h => dueR_pl (w := w) (W := W) (b := w.heap.size) (p := w.heap.size + 1) (X := [(bx, .cells (tgc (kd, i, nn)) 43 (0, 0))]) (us := us2) (now := now2) (nowR := now2) (du := lk ts2) (cnt := n2) (ts := ts2) h i
                        rw [hdv, hds] at CW CR
                        have q1 : (dv != dv) = false := by simp
                        have q2 : (ds != ds) = false := by simp
                        have q3 : (now2 != now2) = false := by simp
                        have q4 : ((n2 : Int) != (n2 : Int)) = false := by simp
                        clear hdv hds
                        go_upto_region 33 with (first
                          | (go_at_call 18; refine (CW h).mono ?_; rintro e w' ⟨rfl, hw⟩; rw [hw]; clear hw w')
                          | (go_at_call 19; refine (CR h).mono ?_; rintro e w9 ⟨rfl, h9⟩; clear h RX; have h := h9; clear h9)
                          | ((with_reducible refine atT (.load 3 (.tmp 154)) rfl ?_); refine wpList_loadF RX _ rfl rfl 1 rfl i rfl ?_)
                          | ((with_reducible refine atT (.load 3 (.tmp 161)) rfl ?_); refine wpList_loadF RX _ rfl rfl 1 rfl i rfl ?_))
                        clear CW CR
                        obtain ⟨a4, m4, c4, k0, k1, hm4⟩ := h.cells
                        obtain rfl : m4 = n2 := by rw [hm4]; exact H2.out.symm
                        clear hm4
                        go_quiet ((first | (go_at_call 12; exact Calls.quiet_of_same (nowW_pl (h.drewN _))) | (go_at_call 11; exact Calls.quiet_of_same (manyW_pl (h.drewN _)))))
                        clear k0 k1 q1 q2 q3 q4
                        go_wp2
                        go_roundw
                        case rel => first | exact ⟨j + 1, castT j, hidT (Nat.succ_le_of_lt HJ.out), now2, ts2, H2.out ▸ (h.bare.drewN _)⟩ | exact ⟨j + 1, castTW hjw, hidT (Nat.succ_le_of_lt HJ.out), now2, ts2, H2.out ▸ (h.bare.drewN _)⟩
                        case measure => (first | rw [hjw] | skip); exact measT (HN.out ▸ HJ.out)
                · have g8 : decide (0 ≤ nn) = false := by simpa using zn
                  clear zn
                  go_upto_region 15 with (first | ((with_reducible refine atT (.load 43 (.tmp 61)) rfl ?_); refine wpList_loadG (.tmp 61) rfl rfl _ _ rfl (kd, i, nn) rE ?_) | ((with_reducible refine atT (.alloc 43) rfl ?_); refine wpList_allocR 43 rfl rfl _ tg_zero ?_; intro bx w1 l1 R1 hb1) | ((with_reducible refine atT (.store 43 (.tmp 9) (.tmp 62)) rfl ?_); refine wpList_storeR 43 rfl _ _ rfl bx (by kernel_rfl) (tgc (kd, i, nn)) (by kernel_rfl) _ R1 rfl (tgc_info _) (tgc_one _) ?_; intro w2 R2 t2; replace h := h.addX (t2.below _ _ l1 hb1) R2 l1; clear rE) | ((with_reducible refine atT (.load 3 (.tmp 63)) rfl ?_); refine wpList_loadF R2 _ rfl rfl 0 rfl kd rfl ?_)  | ((with_reducible refine atT (.load 3 (.tmp 66)) rfl ?_); refine wpList_loadF R2 _ rfl rfl 2 rfl nn rfl ?_) | ((with_reducible refine atT (.load 3 (.tmp 68)) rfl ?_); refine wpList_loadF R2 _ rfl rfl 0 rfl kd rfl ?_) | ((with_reducible refine atT (.load 3 (.tmp 73)) rfl ?_); refine wpList_loadF R2 _ rfl rfl 2 rfl nn rfl ?_) | ((with_reducible refine atT (.load 3 (.tmp 78)) rfl ?_); refine wpList_loadF R2 _ rfl rfl 2 rfl nn rfl ?_))
                  clear t2 R1 hb1 l1; clear R2
                  have q5 : (advE now nn != advE now nn) = false := by simp
                  go_wp2_with (first | (go_at_call 10; (first | refine (advW_pl h nn).mono ?_ | refine (advW_pl (h.drewN _) nn).mono ?_); rintro e w9 ⟨u, rfl, l, c5, o1, o2, h9⟩; clear h; obtain ⟨au, cu, eu⟩ := own_slice (h9.told (List.mem_cons_self)); obtain ⟨n5, hn5⟩ : ∃ n, n = l.length := ⟨_, rfl⟩; rw [← hn5] at eu; subst eu; have H5 : Hid (n5 = l.length) := hn5; have HL5 : Hid (n5 ≤ 1000000) := hidT (by have := HF.out; omega); clear hn5; have q6 : ((n5 : Int) != (n5 : Int)) = false := (by simp); replace o1 := hidT o1; replace o2 := hidT o2) | (go_at_call 17; refine (advR_pl h9 nn).mono ?_; rintro e w8 ⟨u8, rfl, l8, rs, o3, h8⟩; clear h9; obtain ⟨e1, e2, e3⟩ := adv_two HO.out o1.out o2.out o3; subst e1 e3; rw [e2] at h8; obtain ⟨av, cv, ev⟩ := own_slice (h8.told (List.mem_cons_self)); rw [← H5.out] at ev; subst ev; clear o1 o2 o3 e2; have h := h8; clear h8))
                  clear q5 q6
                  obtain ⟨ts2, hts2⟩ : ∃ t, t = rs := ⟨_, rfl⟩
                  rw [← hts2] at h
                  obtain ⟨n2, hn2⟩ : ∃ n, n = ts2.length := ⟨_, rfl⟩
                  rw [← hn2] at h
                  have H2 : Hid (n2 = ts2.length) := hn2
                  obtain ⟨now2, hnow2⟩ : ∃ n, n = advN now nn := ⟨_, rfl⟩
                  rw [← hnow2] at h
                  obtain ⟨us2, hus2⟩ : ∃ u : List (Value × List Int), u = [(.slice av n5 cv, l8), (.slice au n5 cu, l8)] := ⟨_, rfl⟩
                  rw [← hus2] at h
                  have HU : Hid (us2 = [(.slice av n5 cv, l8), (.slice au n5 cu, l8)]) := hus2
                  clear hts2 hn2 hnow2 hus2
                  go_loopw [113] (fun k W => ∃ m : Nat, k = .int .i64 (m : Int) ∧ Hid (m ≤ n5) ∧ Pl w W w.heap.size (w.heap.size + 1) [(bx, .cells (tgc (kd, i, nn)) 43 (0, 0))] us2 now2 now2 (lk ts2) n2 ts2) (fun k _ => n5 - (intOf k).toNat)
                  case atStart => exact ⟨0, rfl, Nat.zero_le _, h⟩
                  case round =>
                    clear h
                    obtain ⟨m, rfl, HM, h⟩ := hrel
                    by_cases hm : m < n5
                    · have g6 : (m : Int) < (n5 : Int) := by omega
                      have hmw := wrap_up (p := m) (by have := HL5.out; omega)
                      have HMM : Hid (m < n5) := hm
                      obtain ⟨g1, rfl, r1⟩ := readK (h.told (u := .slice av n5 cv) (l := l8) (by rw [HU.out]; simp)) m (H5.out ▸ hm)
                      obtain ⟨g2, rfl, r2⟩ := readK (h.told (u := .slice au n5 cu) (l := l8) (by rw [HU.out]; simp)) m (H5.out ▸ hm)
                      have J1 := fun w => ixI g1 n5 cv m hm w
                      have J2 := fun w => ixI g2 n5 cu m hm w
                      generalize l8[m]'_ = y at r1 r2
                      have q7 : (y != y) = false := by simp
                      clear hm
                      go_upto_region 22 with (fail)
                      go_quiet (fail)
                      go_wp2
                      go_roundw
                      case rel => first | exact ⟨m + 1, castT m, hidT (Nat.succ_le_of_lt HMM.out), h.drewN _⟩ | exact ⟨m + 1, castTW hmw, hidT (Nat.succ_le_of_lt HMM.out), h.drewN _⟩
                      case measure => (first | rw [hmw] | skip); exact measT HMM.out
                    · have g6 : ¬ (m : Int) < (n5 : Int) := by omega
                      clear hm
                      have RX : Row 43 _ bx (tgc (kd, i, nn)) := h.block (y := (bx, _)) (List.mem_singleton.2 rfl)
                      obtain ⟨dv, hdv⟩ : ∃ d, (lk ts2 i).getD 0 = d := ⟨_, rfl⟩
                      obtain ⟨ds, hds⟩ : ∃ d, (lk ts2 i).isSome = d := ⟨_, rfl⟩
                      have CW := fun {W} h => dueW_pl (w := w) (W := W) (b := w.heap.size) (p := w.heap.size + 1) (X := [(bx, .cells (tgc (kd, i, nn)) 43 (0, 0))]) (us := us2) (now := now2) (nowR := now2) (du := lk ts2) (cnt := n2) (ts := ts2) h i HI.out
                      have CR := fun {W} h => dueR_pl (w := w) (W := W) (b := w.heap.size) (p := w.heap.size + 1) (X := [(bx, .cells (tgc (kd, i, nn)) 43 (0, 0))]) (us := us2) (now := now2) (nowR := now2) (du := lk ts2) (cnt := n2) (ts := ts2) h i
                      rw [hdv, hds] at CW CR
                      have q1 : (dv != dv) = false := by simp
                      have q2 : (ds != ds) = false := by simp
                      have q3 : (now2 != now2) = false := by simp
                      have q4 : ((n2 : Int) != (n2 : Int)) = false := by simp
                      clear hdv hds
                      go_upto_region 33 with (first
                        | (go_at_call 18; refine (CW h).mono ?_; rintro e w' ⟨rfl, hw⟩; rw [hw]; clear hw w')
                        | (go_at_call 19; refine (CR h).mono ?_; rintro e w9 ⟨rfl, h9⟩; clear h RX; have h := h9; clear h9)
                        | ((with_reducible refine atT (.load 3 (.tmp 154)) rfl ?_); refine wpList_loadF RX _ rfl rfl 1 rfl i rfl ?_)
                        | ((with_reducible refine atT (.load 3 (.tmp 161)) rfl ?_); refine wpList_loadF RX _ rfl rfl 1 rfl i rfl ?_))
                      clear CW CR
                      obtain ⟨a4, m4, c4, k0, k1, hm4⟩ := h.cells
                      obtain rfl : m4 = n2 := by rw [hm4]; exact H2.out.symm
                      clear hm4
                      go_quiet ((first | (go_at_call 12; exact Calls.quiet_of_same (nowW_pl (h.drewN _))) | (go_at_call 11; exact Calls.quiet_of_same (manyW_pl (h.drewN _)))))
                      clear k0 k1 q1 q2 q3 q4
                      go_wp2
                      go_roundw
                      case rel => first | exact ⟨j + 1, castT j, hidT (Nat.succ_le_of_lt HJ.out), now2, ts2, H2.out ▸ (h.bare.drewN _)⟩ | exact ⟨j + 1, castTW hjw, hidT (Nat.succ_le_of_lt HJ.out), now2, ts2, H2.out ▸ (h.bare.drewN _)⟩
                      case measure => (first | rw [hjw] | skip); exact measT (HN.out ▸ HJ.out)
              · have g7 : (kd.tmod 4 == 2) = false := by simpa using z2
                clear z2
                go_upto_region 15 with (first | ((with_reducible refine atT (.load 43 (.tmp 61)) rfl ?_); refine wpList_loadG (.tmp 61) rfl rfl _ _ rfl (kd, i, nn) rE ?_) | ((with_reducible refine atT (.alloc 43) rfl ?_); refine wpList_allocR 43 rfl rfl _ tg_zero ?_; intro bx w1 l1 R1 hb1) | ((with_reducible refine atT (.store 43 (.tmp 9) (.tmp 62)) rfl ?_); refine wpList_storeR 43 rfl _ _ rfl bx (by kernel_rfl) (tgc (kd, i, nn)) (by kernel_rfl) _ R1 rfl (tgc_info _) (tgc_one _) ?_; intro w2 R2 t2; replace h := h.addX (t2.below _ _ l1 hb1) R2 l1; clear rE) | ((with_reducible refine atT (.load 3 (.tmp 63)) rfl ?_); refine wpList_loadF R2 _ rfl rfl 0 rfl kd rfl ?_)  | ((with_reducible refine atT (.load 3 (.tmp 66)) rfl ?_); refine wpList_loadF R2 _ rfl rfl 2 rfl nn rfl ?_) | ((with_reducible refine atT (.load 3 (.tmp 68)) rfl ?_); refine wpList_loadF R2 _ rfl rfl 0 rfl kd rfl ?_) | ((with_reducible refine atT (.load 3 (.tmp 73)) rfl ?_); refine wpList_loadF R2 _ rfl rfl 2 rfl nn rfl ?_) | ((with_reducible refine atT (.load 3 (.tmp 78)) rfl ?_); refine wpList_loadF R2 _ rfl rfl 2 rfl nn rfl ?_))
                clear t2 R1 hb1 l1; clear R2
                have q5 : (advE now nn != advE now nn) = false := by simp
                go_wp2_with (first | (go_at_call 10; (first | refine (advW_pl h nn).mono ?_ | refine (advW_pl (h.drewN _) nn).mono ?_); rintro e w9 ⟨u, rfl, l, c5, o1, o2, h9⟩; clear h; obtain ⟨au, cu, eu⟩ := own_slice (h9.told (List.mem_cons_self)); obtain ⟨n5, hn5⟩ : ∃ n, n = l.length := ⟨_, rfl⟩; rw [← hn5] at eu; subst eu; have H5 : Hid (n5 = l.length) := hn5; have HL5 : Hid (n5 ≤ 1000000) := hidT (by have := HF.out; omega); clear hn5; have q6 : ((n5 : Int) != (n5 : Int)) = false := (by simp); replace o1 := hidT o1; replace o2 := hidT o2) | (go_at_call 17; refine (advR_pl h9 nn).mono ?_; rintro e w8 ⟨u8, rfl, l8, rs, o3, h8⟩; clear h9; obtain ⟨e1, e2, e3⟩ := adv_two HO.out o1.out o2.out o3; subst e1 e3; rw [e2] at h8; obtain ⟨av, cv, ev⟩ := own_slice (h8.told (List.mem_cons_self)); rw [← H5.out] at ev; subst ev; clear o1 o2 o3 e2; have h := h8; clear h8))
                clear q5 q6
                obtain ⟨ts2, hts2⟩ : ∃ t, t = rs := ⟨_, rfl⟩
                rw [← hts2] at h
                obtain ⟨n2, hn2⟩ : ∃ n, n = ts2.length := ⟨_, rfl⟩
                rw [← hn2] at h
                have H2 : Hid (n2 = ts2.length) := hn2
                obtain ⟨now2, hnow2⟩ : ∃ n, n = advN now nn := ⟨_, rfl⟩
                rw [← hnow2] at h
                obtain ⟨us2, hus2⟩ : ∃ u : List (Value × List Int), u = [(.slice av n5 cv, l8), (.slice au n5 cu, l8)] := ⟨_, rfl⟩
                rw [← hus2] at h
                have HU : Hid (us2 = [(.slice av n5 cv, l8), (.slice au n5 cu, l8)]) := hus2
                clear hts2 hn2 hnow2 hus2
                go_loopw [113] (fun k W => ∃ m : Nat, k = .int .i64 (m : Int) ∧ Hid (m ≤ n5) ∧ Pl w W w.heap.size (w.heap.size + 1) [(bx, .cells (tgc (kd, i, nn)) 43 (0, 0))] us2 now2 now2 (lk ts2) n2 ts2) (fun k _ => n5 - (intOf k).toNat)
                case atStart => exact ⟨0, rfl, Nat.zero_le _, h⟩
                case round =>
                  clear h
                  obtain ⟨m, rfl, HM, h⟩ := hrel
                  by_cases hm : m < n5
                  · have g6 : (m : Int) < (n5 : Int) := by omega
                    have hmw := wrap_up (p := m) (by have := HL5.out; omega)
                    have HMM : Hid (m < n5) := hm
                    obtain ⟨g1, rfl, r1⟩ := readK (h.told (u := .slice av n5 cv) (l := l8) (by rw [HU.out]; simp)) m (H5.out ▸ hm)
                    obtain ⟨g2, rfl, r2⟩ := readK (h.told (u := .slice au n5 cu) (l := l8) (by rw [HU.out]; simp)) m (H5.out ▸ hm)
                    have J1 := fun w => ixI g1 n5 cv m hm w
                    have J2 := fun w => ixI g2 n5 cu m hm w
                    generalize l8[m]'_ = y at r1 r2
                    have q7 : (y != y) = false := by simp
                    clear hm
                    go_upto_region 22 with (fail)
                    go_quiet (fail)
                    go_wp2
                    go_roundw
                    case rel => first | exact ⟨m + 1, castT m, hidT (Nat.succ_le_of_lt HMM.out), h.drewN _⟩ | exact ⟨m + 1, castTW hmw, hidT (Nat.succ_le_of_lt HMM.out), h.drewN _⟩
                    case measure => (first | rw [hmw] | skip); exact measT HMM.out
                  · have g6 : ¬ (m : Int) < (n5 : Int) := by omega
                    clear hm
                    have RX : Row 43 _ bx (tgc (kd, i, nn)) := h.block (y := (bx, _)) (List.mem_singleton.2 rfl)
                    obtain ⟨dv, hdv⟩ : ∃ d, (lk ts2 i).getD 0 = d := ⟨_, rfl⟩
                    obtain ⟨ds, hds⟩ : ∃ d, (lk ts2 i).isSome = d := ⟨_, rfl⟩
                    have CW := fun {W} h => dueW_pl (w := w) (W := W) (b := w.heap.size) (p := w.heap.size + 1) (X := [(bx, .cells (tgc (kd, i, nn)) 43 (0, 0))]) (us := us2) (now := now2) (nowR := now2) (du := lk ts2) (cnt := n2) (ts := ts2) h i HI.out
                    have CR := fun {W} h => dueR_pl (w := w) (W := W) (b := w.heap.size) (p := w.heap.size + 1) (X := [(bx, .cells (tgc (kd, i, nn)) 43 (0, 0))]) (us := us2) (now := now2) (nowR := now2) (du := lk ts2) (cnt := n2) (ts := ts2) h i
                    rw [hdv, hds] at CW CR
                    have q1 : (dv != dv) = false := by simp
                    have q2 : (ds != ds) = false := by simp
                    have q3 : (now2 != now2) = false := by simp
                    have q4 : ((n2 : Int) != (n2 : Int)) = false := by simp
                    clear hdv hds
                    go_upto_region 33 with (first
                      | (go_at_call 18; refine (CW h).mono ?_; rintro e w' ⟨rfl, hw⟩; rw [hw]; clear hw w')
                      | (go_at_call 19; refine (CR h).mono ?_; rintro e w9 ⟨rfl, h9⟩; clear h RX; have h := h9; clear h9)
                      | ((with_reducible refine atT (.load 3 (.tmp 154)) rfl ?_); refine wpList_loadF RX _ rfl rfl 1 rfl i rfl ?_)
                      | ((with_reducible refine atT (.load 3 (.tmp 161)) rfl ?_); refine wpList_loadF RX _ rfl rfl 1 rfl i rfl ?_))
                    clear CW CR
                    obtain ⟨a4, m4, c4, k0, k1, hm4⟩ := h.cells
                    obtain rfl : m4 = n2 := by rw [hm4]; exact H2.out.symm
                    clear hm4
                    go_quiet ((first | (go_at_call 12; exact Calls.quiet_of_same (nowW_pl (h.drewN _))) | (go_at_call 11; exact Calls.quiet_of_same (manyW_pl (h.drewN _)))))
                    clear k0 k1 q1 q2 q3 q4
                    go_wp2
                    go_roundw
                    case rel => first | exact ⟨j + 1, castT j, hidT (Nat.succ_le_of_lt HJ.out), now2, ts2, H2.out ▸ (h.bare.drewN _)⟩ | exact ⟨j + 1, castTW hjw, hidT (Nat.succ_le_of_lt HJ.out), now2, ts2, H2.out ▸ (h.bare.drewN _)⟩
                    case measure => (first | rw [hjw] | skip); exact measT (HN.out ▸ HJ.out)
        · have g4 : ¬ (j : Int) < 120 := by omega
          clear hl1 hl2
          go_wp2_with (go_at_call 13; refine (CT _).mono ?_; rintro e w' ⟨rfl, hb9⟩)
          go_ret
          exact ⟨rfl, h.base.trans (hb9.mono h.base.size)⟩
      · have g3 : ¬ (j : Int) < (n : Int) := by have := HN.out; omega
        clear hl1
        go_wp2_with (go_at_call 13; refine (CT _).mono ?_; rintro e w' ⟨rfl, hb9⟩)
        go_ret
        exact ⟨rfl, h.base.trans (hb9.mono h.base.size)⟩
  · have CN := new_err w a0 hat
    have hB := Below.refl w.heap.size w
    by_cases h0 : a0 < 0
    · have g1 : decide (a0 < 0) = true := by simpa using h0
      go_enter Try.func5, Try.ntmps5
      go_wp2_with (first | (go_at_call 7; refine CN.mono ?_; rintro e w' ⟨rfl, hw⟩; rw [hw]; clear hw w' CN) | (go_at_call 13; refine (CT _).mono ?_; rintro e w' ⟨rfl, hb9⟩))
      go_ret
      exact ⟨rfl, hb9⟩
    · have g1 : decide (a0 < 0) = false := by simpa using h0
      have g2 : decide (1099511627776 < a0) = true := by simp; omega
      go_enter Try.func5, Try.ntmps5
      go_wp2_with (first | (go_at_call 7; refine CN.mono ?_; rintro e w' ⟨rfl, hw⟩; rw [hw]; clear hw w' CN) | (go_at_call 13; refine (CT _).mono ?_; rintro e w' ⟨rfl, hb9⟩))
      go_ret
      exact ⟨rfl, hb9⟩
end Go.Proofs.Ytphijplgnffoiaa
