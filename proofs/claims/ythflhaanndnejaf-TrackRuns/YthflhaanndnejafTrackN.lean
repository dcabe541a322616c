/-
  The walk of TrackRuns.
-/
import Derived.Deep.DeepFit
import Derived.Deep.DeepCutAuto
import Derived.Test.YthflhaanndnejafYieldP
import Derived.Test.YthflhaanndnejafPickW
import Derived.Test.YthflhaanndnejafTrackH
import Derived.Test.YthflhaanndnejafTrackM
namespace Go.Proofs.Ythflhaanndnejaf
open Go.ChangeShapes Go.WideShapes Go.ChangeAt Go.RowKit
set_option linter.unusedSimpArgs false
set_option linter.unusedVariables false

theorem wpList_loadP {ops : Array Oper} {rest : List Oper} {o : Oper} {a : Act} {w : World} {Q : Exit → Act → World → Prop} {t2 : TypeId} {b : Nat} {cs : Array Value} (R : Row t2 w b cs) (t : TypeId) (x : Operand) (ho : o.op = .load t x) (hw : Region.wanted o (yielded ops a.tmps) = true)
    (hx : a.eval x = .pointer (some ⟨b, 0, none⟩)) (l : List Value) (hl : ∀ (j : Nat) (v : Value), l[j]? = some v → cs[j]? = some v) (d : TypeDesc) (hu : Try.prog.underlying t = some d) (hd : d.isRow = true) (hi : (Try.prog.info? t).map (·.size) = some l.length)
    (hr : wpList Try.prog ops Q rest (a.put o.dst (.agg l.toArray)) w) : wpList Try.prog ops Q (o :: rest) a w :=
  wpList_step fun K hK => by
    rw [if_pos hw]
    exact wp_load_mid t x ho b 0 hx l d (R.range (fun j v hv => by rw [Nat.zero_add]; exact hl j v hv)) hu hd hi (hK _ _ hr)
/-- the map of nobody. -/
def m5 : List Value := [.int .i64 6, .int .i64 0, .int .i64 0, .int .i64 0, .int .i64 0]
theorem fk_m5 (st sd du : Int) : ∀ (j : Nat) (v : Value), m5[j]? = some v → (fc (fk st sd du))[j]? = some v := by
  intro j v h
  match j, h with
  | 0, h => exact h
  | 1, h => exact h
  | 2, h => exact h
  | 3, h => exact h
  | 4, h => exact h
  | n + 5, h => simp [m5] at h
theorem m5_info : (Try.prog.info? 29).map (·.size) = some m5.length := by kernel_rfl
theorem eq_m5 (w : World) : (Op.equalIn 10000 29 (.agg m5.toArray) (.agg m5.toArray)).run Try.prog w = .ok true w := by
  rw [show (10000 : Nat) = 9999 + 1 from rfl, run_equalIn_struct w 9999 29 _ _ (by kernel_rfl) (by kernel_rfl)]
  unfold m5
  simp [go_sem, Try.underlying29]
/-- a packet of Tcp of nobody. -/
def pk (x : Int) : Pkt := ⟨6, 0, 0, 0, 0, 0, 0, x, 0, 0, 0, ByteArray.empty⟩
theorem pkt_zero (w : World) : (zeroValue 23).run Try.prog w = .ok (.agg (pcl ⟨0, 0, 0, 0, 0, 0, 0, 0, 0, 0, 0, ByteArray.empty⟩)) w := by kernel_rfl
theorem bits18 (x : Int) (h : has x 18 = true) : (bits .and .i64 x 18 == 18) = true := by
  have h1 : bits .and .i64 x 18 = ((fl x &&& 18 : Nat) : Int) := and_any x 18 (by decide) (by decide)
  rw [h1]; exact (has_int x 18).trans h
theorem bits5 (x : Int) (h : none' x 5 = false) : (bits .and .i64 x 5 == 0) = false := by
  have h1 : bits .and .i64 x 5 = ((fl x &&& 5 : Nat) : Int) := and_any x 5 (by decide) (by decide)
  rw [h1]; exact (none_int x 5).trans h
theorem next_fk (st sd du x now : Int) (i : Bool) (h0 : 0 ≤ now) (h1 : now ≤ 1099511627776) (k' : Fl) (h : nextF (fk st sd du) x i now = k') (w : World) : Calls Try.prog 14 #[.agg (fc (fk st sd du)), .agg (pcl (pk x)), .bool i, .int .i64 now] w fun e w' => e = .returned (.agg (fc k')) ∧ Below w.heap.size w w' := by
  have := next_any (fk st sd du) (pk x) i now h0 h1 w
  rw [show (pk x).flags = x from rfl, h] at this
  exact this
theorem first_six (w : World) : Calls Try.prog 9 #[.agg (pcl ⟨6, 0, 0, 0, 0, 0, 0, 2, 0, 0, 0, ByteArray.empty⟩)] w fun e w' => e = .returned (.int .i64 1) ∧ Below w.heap.size w w' := first_any ⟨6, 0, 0, 0, 0, 0, 0, 2, 0, 0, 0, ByteArray.empty⟩ w
theorem wp_allocR {o : Oper} {a : Act} {w : World} {K : Act → World → Prop} {Q : Exit → Act → World → Prop} (t : TypeId) (ho : o.op = .alloc t) (cs : Array Value) (hz : ∀ w : World, (zeroValue t).run Try.prog w = .ok (.agg cs) w)
    (hr : ∀ b w', w.heap.size ≤ b → Row t w' b cs → Below w.heap.size w w' → K (a.put o.dst (.pointer (some ⟨b, 0, none⟩))) w') : o.wp Try.prog a w K Q := by
  have h' := hr w.heap.size (w.alloc (.cells cs t)) (Nat.le_refl _) (Row.new t w cs) ((Below.refl _ _).alloc (Nat.le_refl _) _)
  unfold Oper.wp execOp
  simp [ho, Instr.alloc, newVar, hz w, Result.andThen, Value.cells]
  simp [go_sem]
  exact h'
theorem cell_below {w w' : World} {b o : Nat} {v : Value} (hb : Below w.heap.size w w') (h : w.cell? ⟨b, o, none⟩ = some v) : w'.cell? ⟨b, o, none⟩ = some v := by
  have hl : b < w.heap.size := by
    unfold World.cell? at h
    rcases hh : w.heap[b]? with _ | x
    · simp [hh] at h
    · exact (Array.getElem?_eq_some_iff.1 hh).1
  unfold World.cell? at *
  rw [hb.block _ hl]
  exact h
theorem cell_turned {w w1 w2 : World} {b c o : Nat} {v : Value} (t : Turned c w1 w2) (hc : w.heap.size ≤ c) (hB : Below w.heap.size w w1) (hb : b < w.heap.size) (h : w1.cell? ⟨b, o, none⟩ = some v) : w2.cell? ⟨b, o, none⟩ = some v := by
  unfold World.cell? at *
  rw [t.other b (by omega)]
  exact h
theorem meas_sixty {j : Nat} (h : j < 60) : 60 - ((j : Int) + 1).toNat < 60 - ((j : Int)).toNat := by omega
set_option maxRecDepth 20000 in
set_option maxHeartbeats 16000000 in
theorem runs_any (a0 : Option Addr) (cap B O : Nat) (ss : List Sn) (w : World) (hS : SeenAt w a0 cap B O ss) : Calls Try.prog 4 #[.slice a0 ss.length cap] w fun e w' => e = .returned (.bool true) ∧ Below w.heap.size w w' := by
  have hB := Below.refl w.heap.size w
  have hlt := hS.lt
  have hlen := hS.2.2
  have hIR := fun j hj w2 => index_run hS j hj w2
  obtain ⟨n, hn⟩ : ∃ n, n = ss.length := ⟨_, rfl⟩
  rw [← hn] at hIR hlen ⊢
  have HN : Hid (n = ss.length) := hn
  clear hn
  go_enter Try.func4, Try.ntmps4
  go_wp2_with (first | (go_at_call 11; go_fit (tracksKeep_any _); rintro e w5 ⟨rfl, hb5⟩; replace hB := hB.trans (hb5.mono hB.size)) | (go_at_call 9; go_fit (first_six _); rintro e w5 ⟨rfl, hb5⟩; replace hB := hB.trans (hb5.mono hB.size)) | (with_reducible refine at_op (.alloc 31) rfl ?_; refine wpList_allocX 3 31 rfl rfl rfl _ flow_zero ?_; intro b3 w2 l3 R3 hb2; replace l3 := Nat.le_trans hB.size l3; replace hB := hB.trans (hb2.mono hB.size)) | (with_reducible refine at_op (.store 31 (.tmp 3) (.tmp 13)) rfl ?_; refine wpList_storeR 31 rfl (.tmp 3) (.tmp 13) rfl b3 rfl (fc (fk 1 0 0)) rfl _ R3 rfl (fc_info _) (fc_one _) ?_; intro w6 R3 t6; replace hB := t6.below _ _ l3 hB) | (with_reducible refine at_op (.load 3 (.tmp 14)) rfl ?_; refine wpList_loadF R3 _ rfl rfl _ rfl _ rfl ?_) | (go_at_call 12; go_fit (life_any 6 1 _); rintro e w' ⟨rfl, hw⟩; rw [hw]; clear hw w') | (with_reducible refine at_op (.store 3 (.tmp 17) (.tmp 16)) rfl ?_; refine wpList_storeF R3 rfl _ _ rfl _ rfl _ rfl _ rfl (fc (fk 1 0 (lifeZ 6 1))) rfl ?_; intro w4 R3 t4; replace hB := t4.below _ _ l3 hB))
  go_loopw [4, 5] (fun t i W => ∃ j : Nat, j ≤ n ∧ j ≤ 60 ∧ i = .int .i64 (j : Int) ∧ ∃ nw st sd du : Int, t = .int .i64 nw ∧ 0 ≤ nw ∧ nw ≤ 9 * (j : Int) ∧ 1 ≤ st ∧ st ≤ 4 ∧ Below w.heap.size w W ∧ Row 31 W b3 (fc (fk st sd du))) (fun _ i _ => 60 - (intOf i).toNat)
  case atStart => exact ⟨0, by omega, by omega, rfl, 0, 1, 0, lifeZ 6 1, rfl, by omega, by omega, by omega, by omega, hB, R3⟩
  case round =>
    clear hB R3
    obtain ⟨j, hjn0, hj600, rfl, nw, st, sd, du, rfl, hw0, hw1, hs1, hs4, hB, R3⟩ := hrel
    by_cases hjn' : j < n
    · have hjn : (j : Int) < (n : Int) := by omega
      by_cases hj60' : j < 60
      · have hj60 : j < 60 := hj60'
        have hj6 : (j : Int) < 60 := by omega
        have hjw : wrap64 ((j : Int) + 1) = (j : Int) + 1 := by unfold wrap64; omega
        have hlj : j < ss.length := by have := HN.out; omega
        have IR := fun w2 => hIR j hjn' w2
        obtain ⟨s, hs⟩ : ∃ s, ss[j] = s := ⟨_, rfl⟩
        obtain ⟨sf, sw, si⟩ := s
        have hBB : B < w.heap.size := hlt (by omega)
        have hSW := hS.keep hB hlt
        have c0 : World.cell? _ ⟨B, O + 3 * j, none⟩ = some (.int .i64 sf) := hSW.2.1 j hlj 0 _ (by rw [hs]; rfl)
        have c1 : World.cell? _ ⟨B, O + 3 * j + 1, none⟩ = some (.int .i64 sw) := hSW.2.1 j hlj 1 _ (by rw [hs]; rfl)
        clear hSW
        have hwn : wrap64 ((nw + sw % 9)) = (nw + sw % 9) := by unfold wrap64; omega
        have hN0 : 0 ≤ (nw + sw % 9) := by omega
        have hN1 : (nw + sw % 9) ≤ 9 * (j : Int) + 9 := by omega
        have CP9 := fun w => pick_any sw 9 w (by decide) (by decide)
        have CP64 := fun w => pick_any sf 64 w (by decide) (by decide)
        obtain ⟨X, hX⟩ : ∃ X, sf % 64 = X := ⟨_, rfl⟩
        rw [hX] at CP64
        obtain ⟨st', sd', du', hnx, q1, q2, q3, q4, q5⟩ := fk_next st sd du X (nw + sw % 9) si hs1 hs4
        have CN := fun w => next_fk st sd du X (nw + sw % 9) si hN0 (by omega) _ hnx w
        have HQ3 : Hid (du' = du ∨ du' = (nw + sw % 9) + lifeZ 6 st') := q3
        have HQ4 : Hid (st = 1 → st' = 2 → si = true ∧ has X 18 = true) := q4
        have HQ5 : Hid (st' ≠ st → st' = 4 → none' X 5 = false) := q5
        clear q3 q4 q5 hnx hX
        go_upto_region 11 with (first | (with_reducible refine at_op (.indexAddr 27 (.tmp 29) (.tmp 30)) rfl ?_; refine wpList_indexS (.tmp 29) (.tmp 30) rfl ?_ _ _ _ rfl rfl (IR _) ?_; · kernel_rfl) | (with_reducible refine at_op (.indexAddr 27 (.tmp 36) (.tmp 37)) rfl ?_; refine wpList_indexS (.tmp 36) (.tmp 37) rfl ?_ _ _ _ rfl rfl (IR _) ?_; · kernel_rfl) | (go_at_call 13; go_fit (CP9 _); rintro e w' ⟨rfl, hw⟩; rw [hw]; clear hw w') | (go_at_call 13; go_fit (CP64 _); rintro e w' ⟨rfl, hw⟩; rw [hw]; clear hw w') | (with_reducible refine at_op (.alloc 23) rfl ?_; refine wpList_allocX 6 23 rfl rfl rfl _ pkt_zero ?_; intro b6 w2 l6 R6 hb2; have n36 := R3.ne l6; clear c0 c1; replace l6 := Nat.le_trans hB.size l6; replace R3 := R3.below hb2; replace hB := hB.trans (hb2.mono hB.size)) | (with_reducible refine at_op (.store 23 (.tmp 6) (.tmp 42)) rfl ?_; refine wpList_storeR 23 rfl (.tmp 6) (.tmp 42) rfl b6 rfl (pcl (pk X)) rfl _ R6 rfl (pcl_info _) (pcl_one _) ?_; intro w6 R6 t6; replace R3 := t6.row R3 n36; replace hB := t6.below _ _ l6 hB))
        (try dsimp only [Act.put]); (try simp only [List.getElem_toArray, List.getElem_cons_succ, List.getElem_cons_zero, List.setIfInBounds_toArray, List.set_cons_zero, List.set_cons_succ])
        have c2 : World.cell? _ ⟨B, O + 3 * j + 2, none⟩ = some (.bool si) := (hS.keep hB hlt).2.1 j hlj 2 _ (by rw [hs]; rfl)
        go_cut [7] (fun s7 wx => ∃ b7, s7 = .pointer (some ⟨b7, 0, none⟩) ∧ Row 31 wx b7 (fc (fk st' sd' du')) ∧ Row 31 wx b3 (fc (fk st sd du)) ∧ Row 23 wx b6 (pcl (pk X)) ∧ Below w.heap.size w wx ∧ b3 ≠ b7)
        case first =>
          refine wp_region_noPanic ?_
          refine wp_region_held_drew (S := fun W => Row 31 W b3 (fc (fk st sd du)) ∧ Row 23 W b6 (pcl (pk X)) ∧ W.cell? ⟨B, O + 3 * j + 2, none⟩ = some (.bool si)) (by kernel_rfl) ⟨R3, R6, c2⟩ (fun _ => ?_)
          refine wpAnyH_take (i := 0) (v := .agg (fc (fk st sd du))) rfl (by kernel_rfl) (by kernel_rfl) (by kernel_rfl) (fun _ _ _ h => h) (yields_loadR 31 (.tmp 3) rfl (by kernel_rfl) b3 (by kernel_rfl) (fc (fk st sd du)) (fun _ h => h.1) _ Try.underlying31 rfl (fc_info _)) ⟨R3, R6, c2⟩ ?_
          simp only [Act.put, List.getElem_toArray, List.getElem_cons_succ, List.getElem_cons_zero, List.setIfInBounds_toArray, List.set_cons_zero, List.set_cons_succ]
          refine wpAnyH_take (i := 1) (v := .agg (pcl (pk X))) rfl (by kernel_rfl) (by kernel_rfl) (by kernel_rfl) (fun _ _ _ h => h) (yields_loadR 23 (.tmp 6) rfl (by kernel_rfl) b6 (by kernel_rfl) (pcl (pk X)) (fun _ h => h.2.1) _ Try.underlying23 rfl (pcl_info _)) ⟨R3, R6, c2⟩ ?_
          simp only [Act.put, List.getElem_toArray, List.getElem_cons_succ, List.getElem_cons_zero, List.setIfInBounds_toArray, List.set_cons_zero, List.set_cons_succ]
          refine wpAnyH_take (i := 2) (v := .slice a0 n cap) rfl (by kernel_rfl) (by kernel_rfl) (by kernel_rfl) (fun _ _ _ h => h) (Or.inl ⟨by kernel_rfl, by intro w hS; go_simp⟩) ⟨R3, R6, c2⟩ ?_
          simp only [Act.put, List.getElem_toArray, List.getElem_cons_succ, List.getElem_cons_zero, List.setIfInBounds_toArray, List.set_cons_zero, List.set_cons_succ]
          refine wpAnyH_take (i := 3) (v := .int .i64 (j : Int)) rfl (by kernel_rfl) (by kernel_rfl) (by kernel_rfl) (fun _ _ _ h => h) (Or.inl ⟨by kernel_rfl, by intro w hS; go_simp⟩) ⟨R3, R6, c2⟩ ?_
          simp only [Act.put, List.getElem_toArray, List.getElem_cons_succ, List.getElem_cons_zero, List.setIfInBounds_toArray, List.set_cons_zero, List.set_cons_succ]
          refine wpAnyH_take (i := 4) (v := .pointer (some ⟨B, O + 3 * j, none⟩)) rfl (by kernel_rfl) (by kernel_rfl) (by kernel_rfl) (fun _ _ _ h => h) (yields_indexS (.tmp 45) (.tmp 46) rfl (by kernel_rfl) _ _ _ (by kernel_rfl) (by kernel_rfl) IR) ⟨R3, R6, c2⟩ ?_
          simp only [Act.put, List.getElem_toArray, List.getElem_cons_succ, List.getElem_cons_zero, List.setIfInBounds_toArray, List.set_cons_zero, List.set_cons_succ]
          refine wpAnyH_take (i := 5) (v := .pointer (some ⟨B, O + 3 * j + 2, none⟩)) rfl (by kernel_rfl) (by kernel_rfl) (by kernel_rfl) (fun _ _ _ h => h) (Or.inl ⟨by kernel_rfl, by intro w hS; go_simp⟩) ⟨R3, R6, c2⟩ ?_
          simp only [Act.put, List.getElem_toArray, List.getElem_cons_succ, List.getElem_cons_zero, List.setIfInBounds_toArray, List.set_cons_zero, List.set_cons_succ]
          refine wpAnyH_take (i := 6) (v := .bool si) rfl (by kernel_rfl) (by kernel_rfl) (by kernel_rfl) (fun _ _ _ h => h) (Or.inl ⟨by kernel_rfl, by intro w hS; have hc := hS.2.2; go_simp⟩) ⟨R3, R6, c2⟩ ?_
          simp only [Act.put, List.getElem_toArray, List.getElem_cons_succ, List.getElem_cons_zero, List.setIfInBounds_toArray, List.set_cons_zero, List.set_cons_succ]
          refine wpAnyH_take (i := 7) (v := .int .i64 (nw + sw % 9)) rfl (by kernel_rfl) (by kernel_rfl) (by kernel_rfl) (fun _ _ _ h => h) (Or.inl ⟨by kernel_rfl, by intro w hS; go_simp⟩) ⟨R3, R6, c2⟩ ?_
          simp only [Act.put, List.getElem_toArray, List.getElem_cons_succ, List.getElem_cons_zero, List.setIfInBounds_toArray, List.set_cons_zero, List.set_cons_succ]
          refine wpAnyH_ready (rs := [8, 9]) (by kernel_rfl) (by simp) ?_
          refine AllReadyH.cons rfl (fun K hK => ?_) ?_
          · go_simp
            go_at_call 14; refine (CN _).mono ?_; rintro e w5 ⟨rfl, hb5⟩; (try replace hb5 := below_undrG hb5); replace c2 := cell_below hb5 c2; replace R3 := R3.below hb5; replace R6 := R6.below hb5; (try replace R7 := R7.below hb5); replace hB := hB.trans (hb5.mono hB.size)
            go_wp2_with fail
            refine hK.out _ _ ⟨R3, R6, c2⟩ (fun _ => ?_)
            clear hK K
            try simp only [Act.put, List.getElem_toArray, List.getElem_cons_succ, List.getElem_cons_zero, List.setIfInBounds_toArray, List.set_cons_zero, List.set_cons_succ]
            refine wpAnyH_ready (rs := [9]) (by kernel_rfl) (by simp) ?_
            refine AllReadyH.cons rfl (fun K hK => ?_) ?_
            · rw [if_pos (by kernel_rfl)]
              refine wp_allocR 31 rfl _ flow_zero ?_; intro b7 w7 l7 R7 hb7; (try replace hb7 := below_undrG hb7); have n37 := R3.ne l7; have n67 := R6.ne l7; replace l7 := Nat.le_trans hB.size l7; replace c2 := cell_below hb7 c2; replace R3 := R3.below hb7; replace R6 := R6.below hb7; replace hB := hB.trans (hb7.mono hB.size)
              refine hK.out _ _ ⟨R3, R6, c2⟩ (fun _ => ?_)
              clear hK K
              try simp only [Act.put, List.getElem_toArray, List.getElem_cons_succ, List.getElem_cons_zero, List.setIfInBounds_toArray, List.set_cons_zero, List.set_cons_succ]
              refine wpAnyH_ready (rs := [10]) (by kernel_rfl) (by simp) ?_
              refine AllReadyH.cons rfl (fun K hK => ?_) ?_
              · rw [if_pos (by kernel_rfl)]
                refine wp_storeR 31 (.tmp 7) (.tmp 51) rfl b7 rfl (fc (fk st' sd' du')) rfl _ R7 rfl (fc_info _) (fc_one _) ?_; intro w17 R7 t7; (try replace t7 := turned_undrG t7); replace c2 := cell_turned t7 l7 hB hBB c2; replace R3 := t7.row R3 n37; replace R6 := t7.row R6 n67; replace hB := t7.below _ _ l7 hB
                refine hK.out _ _ ⟨R3, R6, c2⟩ (fun _ => ?_)
                clear hK K
                try simp only [Act.put, List.getElem_toArray, List.getElem_cons_succ, List.getElem_cons_zero, List.setIfInBounds_toArray, List.set_cons_zero, List.set_cons_succ]
                refine wpAnyH_done (by kernel_rfl) ?_ _
                refine NoPanic.normal ?_
                go_wp2_with fail
                go_meet
                case rel => exact ⟨b7, rfl, R7, R3, R6, hB, n37⟩
              exact AllReadyH.nil
            exact AllReadyH.nil
          refine AllReadyH.cons rfl (fun K hK => ?_) ?_
          · rw [if_pos (by kernel_rfl)]
            refine wp_allocR 31 rfl _ flow_zero ?_; intro b7 w7 l7 R7 hb7; (try replace hb7 := below_undrG hb7); have n37 := R3.ne l7; have n67 := R6.ne l7; replace l7 := Nat.le_trans hB.size l7; replace c2 := cell_below hb7 c2; replace R3 := R3.below hb7; replace R6 := R6.below hb7; replace hB := hB.trans (hb7.mono hB.size)
            refine hK.out _ _ ⟨R3, R6, c2⟩ (fun _ => ?_)
            clear hK K
            try simp only [Act.put, List.getElem_toArray, List.getElem_cons_succ, List.getElem_cons_zero, List.setIfInBounds_toArray, List.set_cons_zero, List.set_cons_succ]
            refine wpAnyH_ready (rs := [8]) (by kernel_rfl) (by simp) ?_
            refine AllReadyH.cons rfl (fun K hK => ?_) ?_
            · go_simp
              go_at_call 14; refine (CN _).mono ?_; rintro e w5 ⟨rfl, hb5⟩; (try replace hb5 := below_undrG hb5); replace c2 := cell_below hb5 c2; replace R3 := R3.below hb5; replace R6 := R6.below hb5; (try replace R7 := R7.below hb5); replace hB := hB.trans (hb5.mono hB.size)
              go_wp2_with fail
              refine hK.out _ _ ⟨R3, R6, c2⟩ (fun _ => ?_)
              clear hK K
              try simp only [Act.put, List.getElem_toArray, List.getElem_cons_succ, List.getElem_cons_zero, List.setIfInBounds_toArray, List.set_cons_zero, List.set_cons_succ]
              refine wpAnyH_ready (rs := [10]) (by kernel_rfl) (by simp) ?_
              refine AllReadyH.cons rfl (fun K hK => ?_) ?_
              · rw [if_pos (by kernel_rfl)]
                refine wp_storeR 31 (.tmp 7) (.tmp 51) rfl b7 rfl (fc (fk st' sd' du')) rfl _ R7 rfl (fc_info _) (fc_one _) ?_; intro w17 R7 t7; (try replace t7 := turned_undrG t7); replace c2 := cell_turned t7 l7 hB hBB c2; replace R3 := t7.row R3 n37; replace R6 := t7.row R6 n67; replace hB := t7.below _ _ l7 hB
                refine hK.out _ _ ⟨R3, R6, c2⟩ (fun _ => ?_)
                clear hK K
                try simp only [Act.put, List.getElem_toArray, List.getElem_cons_succ, List.getElem_cons_zero, List.setIfInBounds_toArray, List.set_cons_zero, List.set_cons_succ]
                refine wpAnyH_done (by kernel_rfl) ?_ _
                refine NoPanic.normal ?_
                go_wp2_with fail
                go_meet
                case rel => exact ⟨b7, rfl, R7, R3, R6, hB, n37⟩
              exact AllReadyH.nil
            exact AllReadyH.nil
          exact AllReadyH.nil
        case rest =>
          clear hB R3 R6 c2
          obtain ⟨b7, rfl, R7, R3, R6, hB, n37⟩ := hcut
          have g1 : ¬ st' < st := by omega
          have g2 : ¬ 4 < st' := by omega
          have k77 : World.cell? _ ⟨b7, 7, none⟩ = some (.int .i64 st') := (R7.cell 7).trans rfl
          have k37 : World.cell? _ ⟨b3, 7, none⟩ = some (.int .i64 st) := (R3.cell 7).trans rfl
          have k75 : World.cell? _ ⟨b7, 5, none⟩ = some (.int .i64 0) := (R7.cell 5).trans rfl
          have k35 : World.cell? _ ⟨b3, 5, none⟩ = some (.int .i64 0) := (R3.cell 5).trans rfl
          have k76 : World.cell? _ ⟨b7, 6, none⟩ = some (.int .i64 0) := (R7.cell 6).trans rfl
          have k36 : World.cell? _ ⟨b3, 6, none⟩ = some (.int .i64 0) := (R3.cell 6).trans rfl
          go_upto_region 14 with (first | (with_reducible refine at_op (.load 29 (.tmp 63)) rfl ?_; refine wpList_loadP R7 29 (.tmp 63) rfl ?_ rfl m5 (fk_m5 _ _ _) _ Try.underlying29 rfl m5_info ?_; · kernel_rfl) | (with_reducible refine at_op (.load 29 (.tmp 65)) rfl ?_; refine wpList_loadP R3 29 (.tmp 65) rfl ?_ rfl m5 (fk_m5 _ _ _) _ Try.underlying29 rfl m5_info ?_; · kernel_rfl) | (with_reducible refine at_op (.binOp .neq 29 (.tmp 64) (.tmp 66) 29) rfl ?_; refine wpList_neS 29 (.tmp 64) (.tmp 66) rfl ?_ m5.toArray m5.toArray rfl rfl Try.eqGuardType29 _ false (eq_m5 _) rfl ?_; · kernel_rfl))
          (try dsimp only [Act.put]); (try simp only [List.getElem_toArray, List.getElem_cons_succ, List.getElem_cons_zero, List.setIfInBounds_toArray, List.set_cons_zero, List.set_cons_succ])
          go_cut [97] (fun s97 wx => s97 = .bool false ∧ Row 31 wx b7 (fc (fk st' sd' du')) ∧ Row 31 wx b3 (fc (fk st sd du)) ∧ Row 23 wx b6 (pcl (pk X)) ∧ Below w.heap.size w wx)
          case first =>
            clear k77 k37 k75 k35 k76 k36
            have hwd : IntKind.i64.wrap ((nw + sw % 9) + lifeZ 6 st') = (nw + sw % 9) + lifeZ 6 st' := by have := life_bd 6 st'; simp [IntKind.wrap, IntKind.bits, IntKind.signed]; omega
            by_cases hd : du' = du
            · have dA : (du' != du) = false := by simp [hd]
              refine wp_region_noPanic ?_
              refine wp_region_held_drew (S := fun W => Row 31 W b3 (fc (fk st sd du)) ∧ Row 31 W b7 (fc (fk st' sd' du'))) (by kernel_rfl) ⟨R3, R7⟩ (fun _ => ?_)
              refine wpAnyH_take (i := 0) (v := .pointer (some ⟨b7, 9, none⟩)) rfl (by kernel_rfl) (by kernel_rfl) (by kernel_rfl) (fun _ _ _ h => h) (Or.inl ⟨by kernel_rfl, by intro w hS; go_simp⟩) ⟨R3, R7⟩ ?_
              simp only [Act.put, List.getElem_toArray, List.getElem_cons_succ, List.getElem_cons_zero, List.setIfInBounds_toArray, List.set_cons_zero, List.set_cons_succ]
              refine wpAnyH_take (i := 1) (v := .int .i64 du') rfl (by kernel_rfl) (by kernel_rfl) (by kernel_rfl) (fun _ _ _ h => h) (Or.inl ⟨by kernel_rfl, by intro w hS; have hc := (hS.2.cell 9).trans (show (fc (fk st' sd' du'))[9]? = some (.int .i64 du') from rfl); go_simp⟩) ⟨R3, R7⟩ ?_
              simp only [Act.put, List.getElem_toArray, List.getElem_cons_succ, List.getElem_cons_zero, List.setIfInBounds_toArray, List.set_cons_zero, List.set_cons_succ]
              refine wpAnyH_take (i := 2) (v := .pointer (some ⟨b3, 9, none⟩)) rfl (by kernel_rfl) (by kernel_rfl) (by kernel_rfl) (fun _ _ _ h => h) (Or.inl ⟨by kernel_rfl, by intro w hS; go_simp⟩) ⟨R3, R7⟩ ?_
              simp only [Act.put, List.getElem_toArray, List.getElem_cons_succ, List.getElem_cons_zero, List.setIfInBounds_toArray, List.set_cons_zero, List.set_cons_succ]
              refine wpAnyH_take (i := 3) (v := .int .i64 du) rfl (by kernel_rfl) (by kernel_rfl) (by kernel_rfl) (fun _ _ _ h => h) (Or.inl ⟨by kernel_rfl, by intro w hS; have hc := (hS.1.cell 9).trans (show (fc (fk st sd du))[9]? = some (.int .i64 du) from rfl); go_simp⟩) ⟨R3, R7⟩ ?_
              simp only [Act.put, List.getElem_toArray, List.getElem_cons_succ, List.getElem_cons_zero, List.setIfInBounds_toArray, List.set_cons_zero, List.set_cons_succ]
              refine wpAnyH_take (i := 4) (v := .bool false) rfl (by kernel_rfl) (by kernel_rfl) (by kernel_rfl) (fun _ _ _ h => h) (yields_nei 3 (.tmp 84) (.tmp 86) du' du false rfl (by kernel_rfl) (by kernel_rfl) (by kernel_rfl) dA) ⟨R3, R7⟩ ?_
              simp only [Act.put, List.getElem_toArray, List.getElem_cons_succ, List.getElem_cons_zero, List.setIfInBounds_toArray, List.set_cons_zero, List.set_cons_succ]
              refine wpAnyH_take (i := 5) (v := .bool false) rfl (by kernel_rfl) (by kernel_rfl) (by kernel_rfl) (fun _ _ _ h => h) (Or.inl ⟨by kernel_rfl, by intro w hS; go_simp⟩) ⟨R3, R7⟩ ?_
              simp only [Act.put, List.getElem_toArray, List.getElem_cons_succ, List.getElem_cons_zero, List.setIfInBounds_toArray, List.set_cons_zero, List.set_cons_succ]
              refine wpAnyH_take (i := 6) (v := undef) rfl (by kernel_rfl) (by kernel_rfl) (by kernel_rfl) (fun _ _ _ h => h) (Or.inr ⟨by kernel_rfl, rfl⟩) ⟨R3, R7⟩ ?_
              simp only [Act.put, List.getElem_toArray, List.getElem_cons_succ, List.getElem_cons_zero, List.setIfInBounds_toArray, List.set_cons_zero, List.set_cons_succ]
              refine wpAnyH_take (i := 7) (v := undef) rfl (by kernel_rfl) (by kernel_rfl) (by kernel_rfl) (fun _ _ _ h => h) (Or.inr ⟨by kernel_rfl, rfl⟩) ⟨R3, R7⟩ ?_
              simp only [Act.put, List.getElem_toArray, List.getElem_cons_succ, List.getElem_cons_zero, List.setIfInBounds_toArray, List.set_cons_zero, List.set_cons_succ]
              refine wpAnyH_take (i := 8) (v := undef) rfl (by kernel_rfl) (by kernel_rfl) (by kernel_rfl) (fun _ _ _ h => h) (Or.inr ⟨by kernel_rfl, rfl⟩) ⟨R3, R7⟩ ?_
              simp only [Act.put, List.getElem_toArray, List.getElem_cons_succ, List.getElem_cons_zero, List.setIfInBounds_toArray, List.set_cons_zero, List.set_cons_succ]
              refine wpAnyH_take (i := 9) (v := undef) rfl (by kernel_rfl) (by kernel_rfl) (by kernel_rfl) (fun _ _ _ h => h) (Or.inr ⟨by kernel_rfl, rfl⟩) ⟨R3, R7⟩ ?_
              simp only [Act.put, List.getElem_toArray, List.getElem_cons_succ, List.getElem_cons_zero, List.setIfInBounds_toArray, List.set_cons_zero, List.set_cons_succ]
              refine wpAnyH_take (i := 10) (v := undef) rfl (by kernel_rfl) (by kernel_rfl) (by kernel_rfl) (fun _ _ _ h => h) (Or.inr ⟨by kernel_rfl, rfl⟩) ⟨R3, R7⟩ ?_
              simp only [Act.put, List.getElem_toArray, List.getElem_cons_succ, List.getElem_cons_zero, List.setIfInBounds_toArray, List.set_cons_zero, List.set_cons_succ]
              refine wpAnyH_ready (rs := [11]) (by kernel_rfl) (by simp) ?_
              refine AllReadyH.cons rfl (fun K hK => ?_) ?_
              · rw [if_neg (ne_true_of_eq_false (by kernel_rfl))]
                refine hK.out _ _ ⟨R3, R7⟩ (fun _ => ?_)
                clear hK K
                try simp only [Act.put, List.getElem_toArray, List.getElem_cons_succ, List.getElem_cons_zero, List.setIfInBounds_toArray, List.set_cons_zero, List.set_cons_succ]
                refine wpAnyH_take (i := 12) (v := undef) rfl (by kernel_rfl) (by kernel_rfl) (by kernel_rfl) (fun _ _ _ h => h) (Or.inr ⟨by kernel_rfl, rfl⟩) ⟨R3, R7⟩ ?_
                simp only [Act.put, List.getElem_toArray, List.getElem_cons_succ, List.getElem_cons_zero, List.setIfInBounds_toArray, List.set_cons_zero, List.set_cons_succ]
                refine wpAnyH_take (i := 13) (v := undef) rfl (by kernel_rfl) (by kernel_rfl) (by kernel_rfl) (fun _ _ _ h => h) (Or.inr ⟨by kernel_rfl, rfl⟩) ⟨R3, R7⟩ ?_
                simp only [Act.put, List.getElem_toArray, List.getElem_cons_succ, List.getElem_cons_zero, List.setIfInBounds_toArray, List.set_cons_zero, List.set_cons_succ]
                refine wpAnyH_take (i := 14) (v := .bool false) rfl (by kernel_rfl) (by kernel_rfl) (by kernel_rfl) (fun _ _ _ h => h) (Or.inl ⟨by kernel_rfl, by intro w hS; go_simp⟩) ⟨R3, R7⟩ ?_
                simp only [Act.put, List.getElem_toArray, List.getElem_cons_succ, List.getElem_cons_zero, List.setIfInBounds_toArray, List.set_cons_zero, List.set_cons_succ]
                refine wpAnyH_done (by kernel_rfl) ?_ _
                refine NoPanic.normal ?_
                go_wp2_with fail
                go_meet
                case rel => exact ⟨rfl, R7, R3, R6, below_drewG hB⟩
              exact AllReadyH.nil
            · have dA : (du' != du) = true := by simp [hd]
              have dD : (du' != (nw + sw % 9) + lifeZ 6 st') = false := HQ3.out.elim (fun h => absurd h hd) (fun h => by simp [h])
              refine wp_region_noPanic ?_
              refine wp_region_held_drew (S := fun W => Row 31 W b3 (fc (fk st sd du)) ∧ Row 31 W b7 (fc (fk st' sd' du'))) (by kernel_rfl) ⟨R3, R7⟩ (fun _ => ?_)
              refine wpAnyH_take (i := 0) (v := .pointer (some ⟨b7, 9, none⟩)) rfl (by kernel_rfl) (by kernel_rfl) (by kernel_rfl) (fun _ _ _ h => h) (Or.inl ⟨by kernel_rfl, by intro w hS; go_simp⟩) ⟨R3, R7⟩ ?_
              simp only [Act.put, List.getElem_toArray, List.getElem_cons_succ, List.getElem_cons_zero, List.setIfInBounds_toArray, List.set_cons_zero, List.set_cons_succ]
              refine wpAnyH_take (i := 1) (v := .int .i64 du') rfl (by kernel_rfl) (by kernel_rfl) (by kernel_rfl) (fun _ _ _ h => h) (Or.inl ⟨by kernel_rfl, by intro w hS; have hc := (hS.2.cell 9).trans (show (fc (fk st' sd' du'))[9]? = some (.int .i64 du') from rfl); go_simp⟩) ⟨R3, R7⟩ ?_
              simp only [Act.put, List.getElem_toArray, List.getElem_cons_succ, List.getElem_cons_zero, List.setIfInBounds_toArray, List.set_cons_zero, List.set_cons_succ]
              refine wpAnyH_take (i := 2) (v := .pointer (some ⟨b3, 9, none⟩)) rfl (by kernel_rfl) (by kernel_rfl) (by kernel_rfl) (fun _ _ _ h => h) (Or.inl ⟨by kernel_rfl, by intro w hS; go_simp⟩) ⟨R3, R7⟩ ?_
              simp only [Act.put, List.getElem_toArray, List.getElem_cons_succ, List.getElem_cons_zero, List.setIfInBounds_toArray, List.set_cons_zero, List.set_cons_succ]
              refine wpAnyH_take (i := 3) (v := .int .i64 du) rfl (by kernel_rfl) (by kernel_rfl) (by kernel_rfl) (fun _ _ _ h => h) (Or.inl ⟨by kernel_rfl, by intro w hS; have hc := (hS.1.cell 9).trans (show (fc (fk st sd du))[9]? = some (.int .i64 du) from rfl); go_simp⟩) ⟨R3, R7⟩ ?_
              simp only [Act.put, List.getElem_toArray, List.getElem_cons_succ, List.getElem_cons_zero, List.setIfInBounds_toArray, List.set_cons_zero, List.set_cons_succ]
              refine wpAnyH_take (i := 4) (v := .bool true) rfl (by kernel_rfl) (by kernel_rfl) (by kernel_rfl) (fun _ _ _ h => h) (yields_nei 3 (.tmp 84) (.tmp 86) du' du true rfl (by kernel_rfl) (by kernel_rfl) (by kernel_rfl) dA) ⟨R3, R7⟩ ?_
              simp only [Act.put, List.getElem_toArray, List.getElem_cons_succ, List.getElem_cons_zero, List.setIfInBounds_toArray, List.set_cons_zero, List.set_cons_succ]
              refine wpAnyH_take (i := 5) (v := .bool true) rfl (by kernel_rfl) (by kernel_rfl) (by kernel_rfl) (fun _ _ _ h => h) (Or.inl ⟨by kernel_rfl, by intro w hS; go_simp⟩) ⟨R3, R7⟩ ?_
              simp only [Act.put, List.getElem_toArray, List.getElem_cons_succ, List.getElem_cons_zero, List.setIfInBounds_toArray, List.set_cons_zero, List.set_cons_succ]
              refine wpAnyH_take (i := 6) (v := .pointer (some ⟨b7, 9, none⟩)) rfl (by kernel_rfl) (by kernel_rfl) (by kernel_rfl) (fun _ _ _ h => h) (Or.inl ⟨by kernel_rfl, by intro w hS; go_simp⟩) ⟨R3, R7⟩ ?_
              simp only [Act.put, List.getElem_toArray, List.getElem_cons_succ, List.getElem_cons_zero, List.setIfInBounds_toArray, List.set_cons_zero, List.set_cons_succ]
              refine wpAnyH_take (i := 7) (v := .int .i64 du') rfl (by kernel_rfl) (by kernel_rfl) (by kernel_rfl) (fun _ _ _ h => h) (Or.inl ⟨by kernel_rfl, by intro w hS; have hc := (hS.2.cell 9).trans (show (fc (fk st' sd' du'))[9]? = some (.int .i64 du') from rfl); go_simp⟩) ⟨R3, R7⟩ ?_
              simp only [Act.put, List.getElem_toArray, List.getElem_cons_succ, List.getElem_cons_zero, List.setIfInBounds_toArray, List.set_cons_zero, List.set_cons_succ]
              refine wpAnyH_take (i := 8) (v := .int .i64 (nw + sw % 9)) rfl (by kernel_rfl) (by kernel_rfl) (by kernel_rfl) (fun _ _ _ h => h) (Or.inl ⟨by kernel_rfl, by intro w hS; go_simp⟩) ⟨R3, R7⟩ ?_
              simp only [Act.put, List.getElem_toArray, List.getElem_cons_succ, List.getElem_cons_zero, List.setIfInBounds_toArray, List.set_cons_zero, List.set_cons_succ]
              refine wpAnyH_take (i := 9) (v := .pointer (some ⟨b7, 7, none⟩)) rfl (by kernel_rfl) (by kernel_rfl) (by kernel_rfl) (fun _ _ _ h => h) (Or.inl ⟨by kernel_rfl, by intro w hS; go_simp⟩) ⟨R3, R7⟩ ?_
              simp only [Act.put, List.getElem_toArray, List.getElem_cons_succ, List.getElem_cons_zero, List.setIfInBounds_toArray, List.set_cons_zero, List.set_cons_succ]
              refine wpAnyH_take (i := 10) (v := .int .i64 st') rfl (by kernel_rfl) (by kernel_rfl) (by kernel_rfl) (fun _ _ _ h => h) (Or.inl ⟨by kernel_rfl, by intro w hS; have hc := (hS.2.cell 7).trans (show (fc (fk st' sd' du'))[7]? = some (.int .i64 st') from rfl); go_simp⟩) ⟨R3, R7⟩ ?_
              simp only [Act.put, List.getElem_toArray, List.getElem_cons_succ, List.getElem_cons_zero, List.setIfInBounds_toArray, List.set_cons_zero, List.set_cons_succ]
              refine wpAnyH_ready (rs := [11]) (by kernel_rfl) (by simp) ?_
              refine AllReadyH.cons rfl (fun K hK => ?_) ?_
              · go_simp
                go_at_call 12; refine (life_any 6 st' _).mono ?_; rintro e w5 ⟨rfl, hw⟩; rw [hw]; clear hw w5
                go_wp2_with fail
                refine hK.out _ _ ⟨R3, R7⟩ (fun _ => ?_)
                clear hK K
                try simp only [Act.put, List.getElem_toArray, List.getElem_cons_succ, List.getElem_cons_zero, List.setIfInBounds_toArray, List.set_cons_zero, List.set_cons_succ]
                refine wpAnyH_take (i := 12) (v := .int .i64 ((nw + sw % 9) + lifeZ 6 st')) rfl (by kernel_rfl) (by kernel_rfl) (by kernel_rfl) (fun _ _ _ h => h) (Or.inl ⟨by kernel_rfl, by intro w hS; go_simp⟩) ⟨R3, R7⟩ ?_
                simp only [Act.put, List.getElem_toArray, List.getElem_cons_succ, List.getElem_cons_zero, List.setIfInBounds_toArray, List.set_cons_zero, List.set_cons_succ]
                refine wpAnyH_take (i := 13) (v := .bool false) rfl (by kernel_rfl) (by kernel_rfl) (by kernel_rfl) (fun _ _ _ h => h) (yields_nei 3 (.tmp 90) (.tmp 95) du' ((nw + sw % 9) + lifeZ 6 st') false rfl (by kernel_rfl) (by kernel_rfl) (by kernel_rfl) dD) ⟨R3, R7⟩ ?_
                simp only [Act.put, List.getElem_toArray, List.getElem_cons_succ, List.getElem_cons_zero, List.setIfInBounds_toArray, List.set_cons_zero, List.set_cons_succ]
                refine wpAnyH_take (i := 14) (v := .bool false) rfl (by kernel_rfl) (by kernel_rfl) (by kernel_rfl) (fun _ _ _ h => h) (Or.inl ⟨by kernel_rfl, by intro w hS; go_simp⟩) ⟨R3, R7⟩ ?_
                simp only [Act.put, List.getElem_toArray, List.getElem_cons_succ, List.getElem_cons_zero, List.setIfInBounds_toArray, List.set_cons_zero, List.set_cons_succ]
                refine wpAnyH_done (by kernel_rfl) ?_ _
                refine NoPanic.normal ?_
                go_wp2_with fail
                go_meet
                case rel => exact ⟨rfl, R7, R3, R6, below_drewG hB⟩
              exact AllReadyH.nil
          case rest =>
            clear hB R3 R6 R7 k77 k37 k75 k35 k76 k36
            obtain ⟨rfl, R7, R3, R6, hB⟩ := hcut
            have k77 : World.cell? _ ⟨b7, 7, none⟩ = some (.int .i64 st') := (R7.cell 7).trans rfl
            have k37 : World.cell? _ ⟨b3, 7, none⟩ = some (.int .i64 st) := (R3.cell 7).trans rfl
            have k67 : World.cell? _ ⟨b6, 7, none⟩ = some (.int .i64 X) := (R6.cell 7).trans rfl
            have c2 : World.cell? _ ⟨B, O + 3 * j + 2, none⟩ = some (.bool si) := (hS.keep hB hlt).2.1 j hlj 2 _ (by rw [hs]; rfl)
            by_cases e : st' = st
            · subst e
              have d3 : (st' != st') = false := by simp
              by_cases e1 : st' = 1
              · have d1 : (st' == 1) = true := by simp [e1]
                have d2 : (st' == 2) = false := by simp [e1]
                clear e1
                go_wp2_with (first | (with_reducible refine at_op (.load 31 (.tmp 7)) rfl ?_; refine wpList_loadR 31 (.tmp 7) rfl rfl b7 rfl (fc (fk st' sd' du')) R7 _ Try.underlying31 rfl (fc_info _) ?_) | (with_reducible refine at_op (.store 31 (.tmp 3) (.tmp 136)) rfl ?_; refine wpList_storeR 31 rfl (.tmp 3) (.tmp 136) rfl b3 rfl (fc (fk st' sd' du')) rfl _ R3 rfl (fc_info _) (fc_one _) ?_; intro w20 R3 t20; replace hB := t20.below _ _ l3 hB) | (with_reducible refine at_op (.indexAddr 27 (.tmp 107) (.tmp 108)) rfl ?_; refine wpList_indexS (.tmp 107) (.tmp 108) rfl ?_ _ _ _ rfl rfl (IR _) ?_; · kernel_rfl))
                go_roundw
                case rel => first | exact ⟨j + 1, by omega, by omega, by go_num, (nw + sw % 9), st', sd', du', rfl, by omega, by omega, by omega, by omega, hB, R3⟩ | ((repeat apply Exists.intro); exact ⟨⟨j + 1, by omega, by omega, by go_num, (nw + sw % 9), st', sd', du', rfl, by omega, by omega, by omega, by omega, hB, R3⟩, rfl⟩)
                case measure => (first | rw [hjw] | skip); exact meas_sixty hj60
              · have d1 : (st' == 1) = false := by simp [e1]
                clear e1
                go_wp2_with (first | (with_reducible refine at_op (.load 31 (.tmp 7)) rfl ?_; refine wpList_loadR 31 (.tmp 7) rfl rfl b7 rfl (fc (fk st' sd' du')) R7 _ Try.underlying31 rfl (fc_info _) ?_) | (with_reducible refine at_op (.store 31 (.tmp 3) (.tmp 136)) rfl ?_; refine wpList_storeR 31 rfl (.tmp 3) (.tmp 136) rfl b3 rfl (fc (fk st' sd' du')) rfl _ R3 rfl (fc_info _) (fc_one _) ?_; intro w20 R3 t20; replace hB := t20.below _ _ l3 hB) | (with_reducible refine at_op (.indexAddr 27 (.tmp 107) (.tmp 108)) rfl ?_; refine wpList_indexS (.tmp 107) (.tmp 108) rfl ?_ _ _ _ rfl rfl (IR _) ?_; · kernel_rfl))
                go_roundw
                case rel => first | exact ⟨j + 1, by omega, by omega, by go_num, (nw + sw % 9), st', sd', du', rfl, by omega, by omega, by omega, by omega, hB, R3⟩ | ((repeat apply Exists.intro); exact ⟨⟨j + 1, by omega, by omega, by go_num, (nw + sw % 9), st', sd', du', rfl, by omega, by omega, by omega, by omega, hB, R3⟩, rfl⟩)
                case measure => (first | rw [hjw] | skip); exact meas_sixty hj60
            · have d3 : (st' != st) = true := by simp [e]
              by_cases e4 : st' = 4
              · have d4 : (st' == 4) = true := by simp [e4]
                have d5 := bits5 X (HQ5.out e e4)
                by_cases e1 : st = 1
                · have d1 : (st == 1) = true := by simp [e1]
                  have d2 : (st' == 2) = false := by simp [e4]
                  clear e1 e4 e
                  go_wp2_with (first | (with_reducible refine at_op (.load 31 (.tmp 7)) rfl ?_; refine wpList_loadR 31 (.tmp 7) rfl rfl b7 rfl (fc (fk st' sd' du')) R7 _ Try.underlying31 rfl (fc_info _) ?_) | (with_reducible refine at_op (.store 31 (.tmp 3) (.tmp 136)) rfl ?_; refine wpList_storeR 31 rfl (.tmp 3) (.tmp 136) rfl b3 rfl (fc (fk st' sd' du')) rfl _ R3 rfl (fc_info _) (fc_one _) ?_; intro w20 R3 t20; replace hB := t20.below _ _ l3 hB) | (with_reducible refine at_op (.indexAddr 27 (.tmp 107) (.tmp 108)) rfl ?_; refine wpList_indexS (.tmp 107) (.tmp 108) rfl ?_ _ _ _ rfl rfl (IR _) ?_; · kernel_rfl))
                  go_roundw
                  case rel => first | exact ⟨j + 1, by omega, by omega, by go_num, (nw + sw % 9), st', sd', du', rfl, by omega, by omega, by omega, by omega, hB, R3⟩ | ((repeat apply Exists.intro); exact ⟨⟨j + 1, by omega, by omega, by go_num, (nw + sw % 9), st', sd', du', rfl, by omega, by omega, by omega, by omega, hB, R3⟩, rfl⟩)
                  case measure => (first | rw [hjw] | skip); exact meas_sixty hj60
                · have d1 : (st == 1) = false := by simp [e1]
                  clear e1 e4 e
                  go_wp2_with (first | (with_reducible refine at_op (.load 31 (.tmp 7)) rfl ?_; refine wpList_loadR 31 (.tmp 7) rfl rfl b7 rfl (fc (fk st' sd' du')) R7 _ Try.underlying31 rfl (fc_info _) ?_) | (with_reducible refine at_op (.store 31 (.tmp 3) (.tmp 136)) rfl ?_; refine wpList_storeR 31 rfl (.tmp 3) (.tmp 136) rfl b3 rfl (fc (fk st' sd' du')) rfl _ R3 rfl (fc_info _) (fc_one _) ?_; intro w20 R3 t20; replace hB := t20.below _ _ l3 hB) | (with_reducible refine at_op (.indexAddr 27 (.tmp 107) (.tmp 108)) rfl ?_; refine wpList_indexS (.tmp 107) (.tmp 108) rfl ?_ _ _ _ rfl rfl (IR _) ?_; · kernel_rfl))
                  go_roundw
                  case rel => first | exact ⟨j + 1, by omega, by omega, by go_num, (nw + sw % 9), st', sd', du', rfl, by omega, by omega, by omega, by omega, hB, R3⟩ | ((repeat apply Exists.intro); exact ⟨⟨j + 1, by omega, by omega, by go_num, (nw + sw % 9), st', sd', du', rfl, by omega, by omega, by omega, by omega, hB, R3⟩, rfl⟩)
                  case measure => (first | rw [hjw] | skip); exact meas_sixty hj60
              · have d4 : (st' == 4) = false := by simp [e4]
                by_cases e1 : st = 1
                · have d1 : (st == 1) = true := by simp [e1]
                  by_cases e2 : st' = 2
                  · have d2 : (st' == 2) = true := by simp [e2]
                    obtain ⟨rfl, h18⟩ := HQ4.out e1 e2
                    have d6 := bits18 X h18
                    clear e1 e2 e4 e h18
                    go_wp2_with (first | (with_reducible refine at_op (.load 31 (.tmp 7)) rfl ?_; refine wpList_loadR 31 (.tmp 7) rfl rfl b7 rfl (fc (fk st' sd' du')) R7 _ Try.underlying31 rfl (fc_info _) ?_) | (with_reducible refine at_op (.store 31 (.tmp 3) (.tmp 136)) rfl ?_; refine wpList_storeR 31 rfl (.tmp 3) (.tmp 136) rfl b3 rfl (fc (fk st' sd' du')) rfl _ R3 rfl (fc_info _) (fc_one _) ?_; intro w20 R3 t20; replace hB := t20.below _ _ l3 hB) | (with_reducible refine at_op (.indexAddr 27 (.tmp 107) (.tmp 108)) rfl ?_; refine wpList_indexS (.tmp 107) (.tmp 108) rfl ?_ _ _ _ rfl rfl (IR _) ?_; · kernel_rfl))
                    go_roundw
                    case rel => first | exact ⟨j + 1, by omega, by omega, by go_num, (nw + sw % 9), st', sd', du', rfl, by omega, by omega, by omega, by omega, hB, R3⟩ | ((repeat apply Exists.intro); exact ⟨⟨j + 1, by omega, by omega, by go_num, (nw + sw % 9), st', sd', du', rfl, by omega, by omega, by omega, by omega, hB, R3⟩, rfl⟩)
                    case measure => (first | rw [hjw] | skip); exact meas_sixty hj60
                  · have d2 : (st' == 2) = false := by simp [e2]
                    clear e1 e2 e4 e
                    go_wp2_with (first | (with_reducible refine at_op (.load 31 (.tmp 7)) rfl ?_; refine wpList_loadR 31 (.tmp 7) rfl rfl b7 rfl (fc (fk st' sd' du')) R7 _ Try.underlying31 rfl (fc_info _) ?_) | (with_reducible refine at_op (.store 31 (.tmp 3) (.tmp 136)) rfl ?_; refine wpList_storeR 31 rfl (.tmp 3) (.tmp 136) rfl b3 rfl (fc (fk st' sd' du')) rfl _ R3 rfl (fc_info _) (fc_one _) ?_; intro w20 R3 t20; replace hB := t20.below _ _ l3 hB) | (with_reducible refine at_op (.indexAddr 27 (.tmp 107) (.tmp 108)) rfl ?_; refine wpList_indexS (.tmp 107) (.tmp 108) rfl ?_ _ _ _ rfl rfl (IR _) ?_; · kernel_rfl))
                    go_roundw
                    case rel => first | exact ⟨j + 1, by omega, by omega, by go_num, (nw + sw % 9), st', sd', du', rfl, by omega, by omega, by omega, by omega, hB, R3⟩ | ((repeat apply Exists.intro); exact ⟨⟨j + 1, by omega, by omega, by go_num, (nw + sw % 9), st', sd', du', rfl, by omega, by omega, by omega, by omega, hB, R3⟩, rfl⟩)
                    case measure => (first | rw [hjw] | skip); exact meas_sixty hj60
                · have d1 : (st == 1) = false := by simp [e1]
                  clear e1 e4 e
                  go_wp2_with (first | (with_reducible refine at_op (.load 31 (.tmp 7)) rfl ?_; refine wpList_loadR 31 (.tmp 7) rfl rfl b7 rfl (fc (fk st' sd' du')) R7 _ Try.underlying31 rfl (fc_info _) ?_) | (with_reducible refine at_op (.store 31 (.tmp 3) (.tmp 136)) rfl ?_; refine wpList_storeR 31 rfl (.tmp 3) (.tmp 136) rfl b3 rfl (fc (fk st' sd' du')) rfl _ R3 rfl (fc_info _) (fc_one _) ?_; intro w20 R3 t20; replace hB := t20.below _ _ l3 hB) | (with_reducible refine at_op (.indexAddr 27 (.tmp 107) (.tmp 108)) rfl ?_; refine wpList_indexS (.tmp 107) (.tmp 108) rfl ?_ _ _ _ rfl rfl (IR _) ?_; · kernel_rfl))
                  go_roundw
                  case rel => first | exact ⟨j + 1, by omega, by omega, by go_num, (nw + sw % 9), st', sd', du', rfl, by omega, by omega, by omega, by omega, hB, R3⟩ | ((repeat apply Exists.intro); exact ⟨⟨j + 1, by omega, by omega, by go_num, (nw + sw % 9), st', sd', du', rfl, by omega, by omega, by omega, by omega, hB, R3⟩, rfl⟩)
                  case measure => (first | rw [hjw] | skip); exact meas_sixty hj60
      · have hj6 : ¬ (j : Int) < 60 := by omega
        clear hj60'
        go_wp2
        go_ret
        exact ⟨rfl, hB⟩
    · have hjn : ¬ (j : Int) < (n : Int) := by omega
      go_wp2
      go_ret
      exact ⟨rfl, hB⟩
end Go.Proofs.Ythflhaanndnejaf
