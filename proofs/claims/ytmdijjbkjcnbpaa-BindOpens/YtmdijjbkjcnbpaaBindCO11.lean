/-
  Of what BindCloses, BindOpens stands on: part 11.
-/
import Derived.Deep.DeepFit
import Derived.Test.YtmdijjbkjcnbpaaBindCO10
namespace Go.Proofs.Ytmdijjbkjcnbpaa
open Go.ChangeShapes Go.WideShapes Go.ChangeAt Go.RowKit
set_option linter.unusedSimpArgs false
set_option linter.unusedVariables false

/-- a map's cells, a table's cells. -/
def mcl (m : Mp) : List Value := [.int .i64 m.1, .int .i64 m.2.1, .int .i64 m.2.2.1, .int .i64 m.2.2.2.1, .int .i64 m.2.2.2.2]
def mc (m : Mp) : Array Value := #[.int .i64 m.1, .int .i64 m.2.1, .int .i64 m.2.2.1, .int .i64 m.2.2.2.1, .int .i64 m.2.2.2.2]
def hcl (h : Nat → Int) : List Value := [.int .i64 (h 0), .int .i64 (h 1), .int .i64 (h 2), .int .i64 (h 3), .int .i64 (h 4), .int .i64 (h 5), .int .i64 (h 6), .int .i64 (h 7)]
def tc (f : Nat → Int) (g : Nat → Bool) (h : Nat → Int) (sl : Value) : Array Value := pc f g ++ (hcl h).toArray ++ #[sl]
theorem tc_size (f : Nat → Int) (g : Nat → Bool) (h : Nat → Int) (sl : Value) : (tc f g h sl).size = 30 := rfl
theorem tc_own (f : Nat → Int) (g : Nat → Bool) (h : Nat → Int) (sl : Value) (k : Nat) (hk : k < 18) : (tc f g h sl)[k]? = some (.int .i64 (f k)) := by
  unfold tc; rw [Array.getElem?_append_left (by simp [pc_size, hcl]; omega), Array.getElem?_append_left (by rw [pc_size]; omega)]; exact pc_own f g k hk
theorem tc_home (f : Nat → Int) (g : Nat → Bool) (h : Nat → Int) (sl : Value) (k : Nat) (hk : k < 8) : (tc f g h sl)[21 + k]? = some (.int .i64 (h k)) := by
  rcases (show k = 0 ∨ k = 1 ∨ k = 2 ∨ k = 3 ∨ k = 4 ∨ k = 5 ∨ k = 6 ∨ k = 7 by omega) with rfl | rfl | rfl | rfl | rfl | rfl | rfl | rfl <;> rfl
theorem tc_maps (f : Nat → Int) (g : Nat → Bool) (h : Nat → Int) (sl : Value) : (tc f g h sl)[29]? = some sl := rfl
theorem tc_set (f : Nat → Int) (g : Nat → Bool) (h : Nat → Int) (sl : Value) (n : Nat) (x : Int) (hn : n < 18) : (tc f g h sl).setIfInBounds n (.int .i64 x) = tc (upd f n x) g h sl := by
  rcases (show n = 0 ∨ n = 1 ∨ n = 2 ∨ n = 3 ∨ n = 4 ∨ n = 5 ∨ n = 6 ∨ n = 7 ∨ n = 8 ∨ n = 9 ∨ n = 10 ∨ n = 11 ∨ n = 12 ∨ n = 13 ∨ n = 14 ∨ n = 15 ∨ n = 16 ∨ n = 17 by omega) with rfl | rfl | rfl | rfl | rfl | rfl | rfl | rfl | rfl | rfl | rfl | rfl | rfl | rfl | rfl | rfl | rfl | rfl <;> kernel_rfl
theorem tc_setH (f : Nat → Int) (g : Nat → Bool) (h : Nat → Int) (sl : Value) (n : Nat) (x : Int) (hn : n < 8) : (tc f g h sl).setIfInBounds (21 + n) (.int .i64 x) = tc f g (upd h n x) sl := by
  rcases (show n = 0 ∨ n = 1 ∨ n = 2 ∨ n = 3 ∨ n = 4 ∨ n = 5 ∨ n = 6 ∨ n = 7 by omega) with rfl | rfl | rfl | rfl | rfl | rfl | rfl | rfl <;> kernel_rfl
theorem tc_setM (f : Nat → Int) (g : Nat → Bool) (h : Nat → Int) (sl s2 : Value) : (tc f g h sl).setIfInBounds 29 s2 = tc f g h s2 := rfl
theorem tc_info (f : Nat → Int) (g : Nat → Bool) (h : Nat → Int) (sl : Value) : (Try.prog.info? 30).map (·.size) = some (tc f g h sl).size := by kernel_rfl
theorem mc_info (m : Mp) : (Try.prog.info? 32).map (·.size) = some (mc m).size := by kernel_rfl
theorem mcl_info (m : Mp) : (Try.prog.info? 32).map (·.size) = some (mcl m).length := by kernel_rfl
theorem mc_one (m : Mp) : (mc m).all (·.oneCell') = true := by kernel_rfl
theorem tc_one (f : Nat → Int) (g : Nat → Bool) (h : Nat → Int) (a : Option Addr) (n c : Nat) : (tc f g h (.slice a n c)).all (·.oneCell') = true := by kernel_rfl
theorem mcl_mc (m : Mp) : (mcl m).toArray = mc m := rfl
theorem map_zero (w : World) : (zeroValue 32).run Try.prog w = .ok (.agg (mc noM)) w := by kernel_rfl
theorem table_zero (w : World) : (zeroValue 30).run Try.prog w = .ok (.agg (tc (fun _ => 0) (fun _ => false) (fun _ => 0) (.slice none 0 0))) w := by kernel_rfl
/-- where a slice begins. -/
def mb : Value → Nat
  | .slice (some a) _ _ => a.block
  | _ => 0
def mo : Value → Nat
  | .slice (some a) _ _ => a.off
  | _ => 0
/-- a list of maps lies in memory. -/
def MapsAt (w : World) (sl : Value) (ms : List Mp) : Prop :=
  ∃ a cap, sl = .slice a ms.length cap ∧ (0 < ms.length → a = some ⟨mb sl, mo sl, none⟩) ∧ (∀ j (hj : j < ms.length), w.rangeAt (mb sl) (mo sl + 5 * j) (mcl ms[j])) ∧ ms.length ≤ 140737488355328 ∧ ∃ c2, sl = .slice a ms.length c2 ∧ ms.length ≤ c2
theorem MapsAt.nil (w : World) : MapsAt w (.slice none 0 0) [] := ⟨none, 0, rfl, fun h => absurd h (by simp), fun j hj => absurd hj (by simp), by simp, 0, rfl, by simp⟩
theorem MapsAt.keep {w w' : World} {sl : Value} {ms : List Mp} {B : Nat} (h : MapsAt w sl ms) (hb : Below B w w') (hlt : 0 < ms.length → mb sl < B) : MapsAt w' sl ms := by
  obtain ⟨a, cap, e, h1, h2, h3⟩ := h
  refine ⟨a, cap, e, h1, fun j hj i v hv => ?_, h3⟩
  have := h2 j hj i v hv
  unfold World.cell? at *
  rw [hb.block _ (hlt (by omega))]
  exact this
theorem MapsAt.lt {w : World} {sl : Value} {ms : List Mp} (h : MapsAt w sl ms) (hl : 0 < ms.length) : mb sl < w.heap.size := by
  obtain ⟨a, cap, e, h1, h2, h3⟩ := h
  have := h2 0 hl 0 _ rfl
  unfold World.cell? at this
  by_cases hlt : mb sl < w.heap.size
  · exact hlt
  · have h3 : w.heap[mb sl]? = none := Array.getElem?_eq_none (by omega)
    simp [h3] at this
theorem MapsAt.at {w : World} {sl : Value} {ms : List Mp} (h : MapsAt w sl ms) (j : Nat) (hj : j < ms.length) {m : Mp} (hm : ms[j] = m) : w.rangeAt (mb sl) (mo sl + 5 * j) (mcl m) := by
  obtain ⟨a, cap, e, h1, h2, h3⟩ := h
  rw [← hm]; exact h2 j hj
theorem MapsAt.len {w : World} {sl : Value} {ms : List Mp} (h : MapsAt w sl ms) : ms.length ≤ 140737488355328 := by
  obtain ⟨a, cap, e, h1, h2, h3⟩ := h
  exact h3.1
theorem MapsAt.cap {w : World} {a : Option Addr} {n c : Nat} {ms : List Mp} (h : MapsAt w (.slice a n c) ms) : n = ms.length ∧ n ≤ c := by
  obtain ⟨a', cap, e, h1, h2, h3, c2, e2, h4⟩ := h
  injection e2 with e3 e4 e5
  exact ⟨e4, by omega⟩
theorem MapsAt.take {w : World} {a : Option Addr} {n c : Nat} {ms : List Mp} (h : MapsAt w (.slice a n c) ms) (j : Nat) (hj : j ≤ ms.length) : MapsAt w (.slice a j c) (ms.take j) := by
  have hc := h.cap
  obtain ⟨a', cap, e, h1, h2, h3, c2, e2, h4⟩ := h
  injection e with e3 e4 e5
  subst e3
  have hl : (ms.take j).length = j := by rw [List.length_take]; omega
  have hmb : mb (.slice a j c) = mb (.slice a n c) := by cases a <;> rfl
  have hmo : mo (.slice a j c) = mo (.slice a n c) := by cases a <;> rfl
  refine ⟨a, c, by rw [hl], fun hp => ?_, fun i hi => ?_, by rw [hl]; omega, c, by rw [hl], by rw [hl]; omega⟩
  · rw [hmb, hmo]; exact h1 (by omega)
  · rw [hmb, hmo, List.getElem_take]; exact h2 i (by omega)
theorem wrap_next {j n : Nat} (h : j < n) (hn : n ≤ 140737488355328) : wrap64 ((j : Int) + 1) = (j : Int) + 1 := by unfold wrap64; omega
theorem MapsAt.below {w w' : World} {sl : Value} {ms : List Mp} (h : MapsAt w sl ms) (hb : Below w.heap.size w w') : MapsAt w' sl ms := h.keep hb h.lt
theorem wpList_indexM {ops : Array Oper} {rest : List Oper} {o : Oper} {a : Act} {w : World} {Q : Exit → Act → World → Prop} (hgd : o.guard = none) (x y : Operand) (ho : o.op = .indexAddr 28 x y) (sl : Value) (ms : List Mp) (hM : MapsAt w sl ms) (hx : a.eval x = sl) (j : Nat) (hy : a.eval y = .int .i64 (j : Int)) (hj : j < ms.length)
    (hr : wpList Try.prog ops Q rest (a.put o.dst (.pointer (some ⟨mb sl, mo sl + 5 * j, none⟩))) w) : wpList Try.prog ops Q (o :: rest) a w :=
  wpList_plain hgd fun K hK => by
    obtain ⟨a0, cap, e, h1, h2, h3⟩ := hM
    have e1 := h1 (by omega)
    generalize mb sl = B at *
    generalize mo sl = O at *
    subst e1
    subst e
    have hn : ((j : Int)).toNat < ms.length := by simpa using hj
    have hjl : (j : Int) < (ms.length : Int) := by omega
    have hs : (sizeOf 32).run Try.prog w = .ok 5 w := by kernel_rfl
    have hrun : (Instr.indexAt 28 (.slice (some ⟨B, O, none⟩) ms.length cap) (.int .i64 (j : Int))).run Try.prog w = .ok (.pointer (some ⟨B, O + 5 * j, none⟩)) w := by
      simp [go_sem, hj, hn, hjl, Try.underlying28, hs]
    unfold Oper.wp execOp
    simp only [ho, hx, hy, Sem.run_bind, hrun, Result.andThen_ok, Sem.run_pure]
    exact hK _ _ hr
end Go.Proofs.Ytmdijjbkjcnbpaa

namespace Go.Proofs.Ytmdijjbkjcnbpaa
open Go.ChangeShapes Go.WideShapes Go.ChangeAt Go.RowKit
set_option linter.unusedSimpArgs false
set_option linter.unusedVariables false

theorem eq_inner (a b c x y z : Int) (w : World) : (Op.equalIn 10000 58 (.agg #[.int .i64 a, .int .i64 b, .int .i64 c]) (.agg #[.int .i64 x, .int .i64 y, .int .i64 z])).run Try.prog w = .ok (a == x && b == y && c == z) w := by
  rw [show (10000 : Nat) = 9999 + 1 from rfl, run_equalIn_struct w 9999 58 _ _ (by kernel_rfl) (by kernel_rfl)]
  by_cases h1 : a = x <;> by_cases h2 : b = y <;> by_cases h3 : c = z <;> simp [go_sem, h1, h2, h3, Try.underlying58]
theorem eq_outer (a b c x y z : Int) (w : World) : (Op.equalIn 10000 61 (.agg #[.int .i64 a, .int .i64 b, .int .i64 c]) (.agg #[.int .i64 x, .int .i64 y, .int .i64 z])).run Try.prog w = .ok (a == x && b == y && c == z) w := by
  rw [show (10000 : Nat) = 9999 + 1 from rfl, run_equalIn_struct w 9999 61 _ _ (by kernel_rfl) (by kernel_rfl)]
  by_cases h1 : a = x <;> by_cases h2 : b = y <;> by_cases h3 : c = z <;> simp [go_sem, h1, h2, h3, Try.underlying61]
theorem eq_place (a b x y : Int) (w : World) : (Op.equalIn 10000 67 (.agg #[.int .i64 a, .int .i64 b]) (.agg #[.int .i64 x, .int .i64 y])).run Try.prog w = .ok (a == x && b == y) w := by
  rw [show (10000 : Nat) = 9999 + 1 from rfl, run_equalIn_struct w 9999 67 _ _ (by kernel_rfl) (by kernel_rfl)]
  by_cases h1 : a = x <;> by_cases h2 : b = y <;> simp [go_sem, h1, h2, Try.underlying67]
theorem eq_map (m o : Mp) (w : World) : (Op.equalIn 10000 32 (.agg (mc m)) (.agg (mc o))).run Try.prog w = .ok (m == o) w := by
  obtain ⟨a, b, c, d, e⟩ := m
  obtain ⟨x, y, z, u, v⟩ := o
  rw [show (10000 : Nat) = 9999 + 1 from rfl, run_equalIn_struct w 9999 32 _ _ (by kernel_rfl) (by kernel_rfl)]
  have hb : (((a, b, c, d, e) : Mp) == (x, y, z, u, v)) = (a == x && (b == y && (c == z && (d == u && e == v)))) := rfl
  rw [hb]
  unfold mc
  by_cases h1 : a = x <;> by_cases h2 : b = y <;> by_cases h3 : c = z <;> by_cases h4 : d = u <;> by_cases h5 : e = v <;> simp [go_sem, h1, h2, h3, h4, h5, Try.underlying32]
end Go.Proofs.Ytmdijjbkjcnbpaa

namespace Go.Proofs.Ytmdijjbkjcnbpaa
open Go.ChangeShapes Go.WideShapes Go.ChangeAt Go.RowKit
set_option linter.unusedSimpArgs false
set_option linter.unusedVariables false

theorem firstPort_any (k : Int) (h0 : 0 ≤ k) (h1 : k ≤ 6) (w : World) : Calls Try.prog 29 #[.int .i64 k] w fun e w' => e = .returned (.int .i64 (1024 + k * 8)) ∧ w' = w := by
  have e1 : wrap64 (k * 8) = k * 8 := by unfold wrap64; omega
  have e2 : wrap64 (1024 + k * 8) = 1024 + k * 8 := by unfold wrap64; omega
  go_enter Try.func29, Try.ntmps29
  go_wp2
  go_ret
  exact ⟨rfl, rfl⟩
/-- Block: which block, which port of it, whether there is one. -/
def blkS (q : Int) : Value := if 1024 ≤ q ∧ q < 1072 then .tuple #[.int .i64 ((q - 1024) / 8), .int .i64 ((q - 1024) % 8), .bool true] else .tuple #[.int .i64 0, .int .i64 0, .bool false]
set_option maxHeartbeats 1000000 in
theorem block_any (q : Int) (w : World) : Calls Try.prog 12 #[.int .i64 q] w fun e w' => e = .returned (blkS q) ∧ w' = w := by
  have C := fun w => firstPort_any 6 (by omega) (by omega) w
  by_cases h0 : 1024 ≤ q
  · by_cases h1 : q < 1072
    · have HS : Hid (blkS q = _) := if_pos ⟨h0, h1⟩
      have e1 : wrap64 (q - 1024) = q - 1024 := by unfold wrap64; omega
      have e2 : (q - 1024).tdiv 8 = (q - 1024) / 8 := Int.tdiv_eq_ediv_of_nonneg (by omega)
      have e3 : (q - 1024).tmod 8 = (q - 1024) % 8 := Int.tmod_eq_emod_of_nonneg (by omega)
      have e4 : wrap64 ((q - 1024) / 8) = (q - 1024) / 8 := by unfold wrap64; omega
      have h1' : q < 1024 + 6 * 8 := by omega
      go_enter Try.func12, Try.ntmps12
      go_wp2_with (go_at_call 29; go_fit (C _); rintro e w' ⟨rfl, hw⟩; rw [hw]; clear hw w')
      go_ret3
      exact ⟨by rw [HS.out]; rfl, rfl⟩
    · have HS : Hid (blkS q = _) := if_neg (fun h => h1 h.2)
      have h1' : 1024 + 6 * 8 ≤ q := by omega
      go_enter Try.func12, Try.ntmps12
      go_wp2_with (go_at_call 29; go_fit (C _); rintro e w' ⟨rfl, hw⟩; rw [hw]; clear hw w')
      go_ret3
      exact ⟨by rw [HS.out]; rfl, rfl⟩
  · have HS : Hid (blkS q = _) := if_neg (fun h => h0 h.1)
    go_enter Try.func12, Try.ntmps12
    go_wp2
    go_ret3
    exact ⟨by rw [HS.out]; rfl, rfl⟩
theorem isProtocol_any (p : Int) (w : World) : Calls Try.prog 37 #[.int .i64 p] w fun e w' => e = .returned (.bool (isP p)) ∧ w' = w := by
  by_cases h1 : p = 1
  · have HS : Hid (isP p = true) := (isP_iff p).2 (.inl h1)
    have e1 : (p == 1) = true := by simp [h1]
    clear h1
    go_enter Try.func37, Try.ntmps37
    go_wp2
    go_ret
    exact ⟨by rw [HS.out]; rfl, rfl⟩
  · have e1 : (p == 1) = false := by simp [h1]
    by_cases h6 : p = 6
    · have HS : Hid (isP p = true) := (isP_iff p).2 (.inr (.inl h6))
      have e6 : (p == 6) = true := by simp [h6]
      clear h1 h6
      go_enter Try.func37, Try.ntmps37
      go_wp2
      go_ret
      exact ⟨by rw [HS.out]; rfl, rfl⟩
    · have e6 : (p == 6) = false := by simp [h6]
      by_cases h17 : p = 17
      · have HS : Hid (isP p = true) := (isP_iff p).2 (.inr (.inr h17))
        have e17 : (p == 17) = true := by simp [h17]
        clear h1 h6 h17
        go_enter Try.func37, Try.ntmps37
        go_wp2
        go_ret
        exact ⟨by rw [HS.out]; rfl, rfl⟩
      · have HS : Hid (isP p = false) := by
          show _ = _
          rw [Bool.eq_false_iff]; intro h; rcases (isP_iff p).1 h with h | h | h <;> contradiction
        have e17 : (p == 17) = false := by simp [h17]
        clear h1 h6 h17
        go_enter Try.func37, Try.ntmps37
        go_wp2
        go_ret
        exact ⟨by rw [HS.out]; rfl, rfl⟩
theorem isSub_any (s : Int) (w : World) : Calls Try.prog 38 #[.int .i64 s] w fun e w' => e = .returned (.bool (decide (0 ≤ s) && decide (s < 8))) ∧ w' = w := by
  go_enter Try.func38, Try.ntmps38
  by_cases h0 : 0 ≤ s
  · by_cases h1 : s < 8
    · go_wp2
      go_ret
      exact ⟨by simp [h0, h1], rfl⟩
    · go_wp2
      go_ret
      exact ⟨by simp [h0, h1], rfl⟩
  · go_wp2
    go_ret
    exact ⟨by rw [decide_eq_false (show ¬ 0 ≤ s by omega)]; rfl, rfl⟩
theorem isWord_any (s : Int) (w : World) : Calls Try.prog 39 #[.int .i64 s] w fun e w' => e = .returned (.bool (decide (0 ≤ s) && decide (s ≤ 65535))) ∧ w' = w := by
  go_enter Try.func39, Try.ntmps39
  by_cases h0 : 0 ≤ s
  · by_cases h1 : s ≤ 65535
    · go_wp2
      go_ret
      exact ⟨by simp [h0, h1], rfl⟩
    · go_wp2
      go_ret
      exact ⟨by simp [h0, h1], rfl⟩
  · go_wp2
    go_ret
    exact ⟨by rw [decide_eq_false (show ¬ 0 ≤ s by omega)]; rfl, rfl⟩
section
variable {w : World} {b : Nat} {m : Mp}
theorem m0 (h : Row 32 w b (mc m)) : w.cell? ⟨b, 0, none⟩ = some (.int .i64 m.1) := h.cell 0
theorem m1 (h : Row 32 w b (mc m)) : w.cell? ⟨b, 1, none⟩ = some (.int .i64 m.2.1) := h.cell 1
theorem m2 (h : Row 32 w b (mc m)) : w.cell? ⟨b, 2, none⟩ = some (.int .i64 m.2.2.1) := h.cell 2
theorem m3 (h : Row 32 w b (mc m)) : w.cell? ⟨b, 3, none⟩ = some (.int .i64 m.2.2.2.1) := h.cell 3
theorem m4 (h : Row 32 w b (mc m)) : w.cell? ⟨b, 4, none⟩ = some (.int .i64 m.2.2.2.2) := h.cell 4
end
def ic3 (a b c : Int) : Array Value := #[.int .i64 a, .int .i64 b, .int .i64 c]
def ic2 (a b : Int) : Array Value := #[.int .i64 a, .int .i64 b]
theorem inner_zero (w : World) : (zeroValue 58).run Try.prog w = .ok (.agg (ic3 0 0 0)) w := by kernel_rfl
theorem outer_zero (w : World) : (zeroValue 61).run Try.prog w = .ok (.agg (ic3 0 0 0)) w := by kernel_rfl
theorem place_zero (w : World) : (zeroValue 67).run Try.prog w = .ok (.agg (ic2 0 0)) w := by kernel_rfl
set_option maxHeartbeats 1000000 in
theorem innerOf_any (m : Mp) (w : World) : Calls Try.prog 27 #[.agg (mc m)] w fun e w' => e = .returned (.agg (ic3 m.1 m.2.1 m.2.2.1)) ∧ Below w.heap.size w w' := by
  have hB := Below.refl w.heap.size w
  go_enter Try.func27, Try.ntmps27
  go_wp2_with (first
    | (refine wpList_boxR 32 rfl _ rfl _ rfl ?_; intro b1 w1 l1 R1 hb1; replace l1 := Nat.le_trans hB.size l1; have c0 := m0 R1; have c1 := m1 R1; have c2 := m2 R1; replace hB := hB.trans (hb1.mono hB.size))
    | (refine wpList_allocR 58 rfl rfl _ inner_zero ?_; intro b2 w2 l2 R2 hb2; replace l2 := Nat.le_trans hB.size l2; replace R1 := R1.below hb2; replace c0 := m0 R1; replace c1 := m1 R1; replace c2 := m2 R1; replace hB := hB.trans (hb2.mono hB.size))
    | (refine wpList_storeR 58 rfl _ _ rfl _ rfl (ic3 m.1 m.2.1 m.2.2.1) rfl _ R2 rfl (by kernel_rfl) (by kernel_rfl) ?_; intro w3 R3 t3; replace hB := t3.below _ _ l2 hB))
  (try simp only [Exit.inBlock, Exit.then])
  refine bodyPost_ret (results_row1 rfl _ _ _ _ rfl R3 _ Try.underlying58 rfl (by kernel_rfl)) rfl ⟨rfl, hB⟩
set_option maxHeartbeats 1000000 in
theorem outerOf_any (m : Mp) (w : World) : Calls Try.prog 28 #[.agg (mc m)] w fun e w' => e = .returned (.agg (ic3 m.1 m.2.2.2.1 m.2.2.2.2)) ∧ Below w.heap.size w w' := by
  have hB := Below.refl w.heap.size w
  go_enter Try.func28, Try.ntmps28
  go_wp2_with (first
    | (refine wpList_boxR 32 rfl _ rfl _ rfl ?_; intro b1 w1 l1 R1 hb1; replace l1 := Nat.le_trans hB.size l1; have c0 := m0 R1; have c3 := m3 R1; have c4 := m4 R1; replace hB := hB.trans (hb1.mono hB.size))
    | (refine wpList_allocR 61 rfl rfl _ outer_zero ?_; intro b2 w2 l2 R2 hb2; replace l2 := Nat.le_trans hB.size l2; replace R1 := R1.below hb2; replace c0 := m0 R1; replace c3 := m3 R1; replace c4 := m4 R1; replace hB := hB.trans (hb2.mono hB.size))
    | (refine wpList_storeR 61 rfl _ _ rfl _ rfl (ic3 m.1 m.2.2.2.1 m.2.2.2.2) rfl _ R2 rfl (by kernel_rfl) (by kernel_rfl) ?_; intro w3 R3 t3; replace hB := t3.below _ _ l2 hB))
  (try simp only [Exit.inBlock, Exit.then])
  refine bodyPost_ret (results_row1 rfl _ _ _ _ rfl R3 _ Try.underlying61 rfl (by kernel_rfl)) rfl ⟨rfl, hB⟩
/-- placeOf: the block that a map's port lies in, if there is one. -/
def inP (m : Mp) : Bool := decide ((1024 ≤ m.2.2.2.2 ∧ m.2.2.2.2 < 1072) ∧ 0 ≤ m.2.2.2.1 ∧ m.2.2.2.1 < 3)
def plA (m : Mp) : Int := if inP m = true then m.2.2.2.1 else 0
def plB (m : Mp) : Int := if inP m = true then (m.2.2.2.2 - 1024) / 8 else 0
set_option maxHeartbeats 2000000 in
theorem placeOf_any (m : Mp) (w : World) : Calls Try.prog 33 #[.agg (mc m)] w fun e w' => e = .returned (.tuple #[.agg (ic2 (plA m) (plB m)), .bool (inP m)]) ∧ Below w.heap.size w w' := by
  have hB := Below.refl w.heap.size w
  have C := fun w => block_any m.2.2.2.2 w
  by_cases hq : 1024 ≤ m.2.2.2.2 ∧ m.2.2.2.2 < 1072
  · have HS : blkS m.2.2.2.2 = _ := if_pos hq
    rw [HS] at C
    by_cases ha : 0 ≤ m.2.2.2.1
    · by_cases hb : m.2.2.2.1 < 3
      · have hI : Hid (inP m = true) := decide_eq_true ⟨hq, ha, hb⟩
        have hA : Hid (plA m = m.2.2.2.1) := if_pos hI.out
        have hQ : Hid (plB m = (m.2.2.2.2 - 1024) / 8) := if_pos hI.out
        go_enter Try.func33, Try.ntmps33
        go_wp2_with (first
          | (refine wpList_boxR 32 rfl _ rfl _ rfl ?_; intro b1 w1 l1 R1 hb1; replace l1 := Nat.le_trans hB.size l1; have c3 := m3 R1; have c4 := m4 R1; replace hB := hB.trans (hb1.mono hB.size))
          | (refine wpList_allocR 67 rfl rfl _ place_zero ?_; intro b2 w2 l2 R2 hb2; replace l2 := Nat.le_trans hB.size l2; replace R1 := R1.below hb2; replace c3 := m3 R1; replace c4 := m4 R1; replace hB := hB.trans (hb2.mono hB.size))
          | (go_at_call 12; go_fit (C _); rintro e w' ⟨rfl, hw⟩; rw [hw]; clear hw w')
          | (refine wpList_storeR 67 rfl _ _ rfl _ rfl (ic2 m.2.2.2.1 ((m.2.2.2.2 - 1024) / 8)) rfl _ R2 rfl (by kernel_rfl) (by kernel_rfl) ?_; intro w3 R3 t3; replace hB := t3.below _ _ l2 hB))
        (try simp only [Exit.inBlock, Exit.then])
        refine bodyPost_ret (results_row2 rfl _ _ _ _ rfl R3 _ Try.underlying67 rfl (by kernel_rfl)) rfl ⟨?_, hB⟩
        rw [hI.out, hA.out, hQ.out]; rfl
      · have hI : Hid (inP m = false) := decide_eq_false (fun h => hb h.2.2)
        have hA : Hid (plA m = 0) := if_neg (by rw [hI.out]; simp)
        have hQ : Hid (plB m = 0) := if_neg (by rw [hI.out]; simp)
        go_enter Try.func33, Try.ntmps33
        go_wp2_with (first
          | (refine wpList_boxR 32 rfl _ rfl _ rfl ?_; intro b1 w1 l1 R1 hb1; replace l1 := Nat.le_trans hB.size l1; have c3 := m3 R1; have c4 := m4 R1; replace hB := hB.trans (hb1.mono hB.size))
          | (refine wpList_allocR 67 rfl rfl _ place_zero ?_; intro b2 w2 l2 R2 hb2; replace l2 := Nat.le_trans hB.size l2; replace R1 := R1.below hb2; replace c3 := m3 R1; replace c4 := m4 R1; replace hB := hB.trans (hb2.mono hB.size))
          | (go_at_call 12; go_fit (C _); rintro e w' ⟨rfl, hw⟩; rw [hw]; clear hw w')
          | (refine wpList_storeR 67 rfl _ _ rfl _ rfl (ic2 0 0) rfl _ R2 rfl (by kernel_rfl) (by kernel_rfl) ?_; intro w3 R3 t3; replace hB := t3.below _ _ l2 hB))
        (try simp only [Exit.inBlock, Exit.then])
        refine bodyPost_ret (results_row2 rfl _ _ _ _ rfl R3 _ Try.underlying67 rfl (by kernel_rfl)) rfl ⟨?_, hB⟩
        rw [hI.out, hA.out, hQ.out]; rfl
    · have hI : Hid (inP m = false) := decide_eq_false (fun h => ha h.2.1)
      have hA : Hid (plA m = 0) := if_neg (by rw [hI.out]; simp)
      have hQ : Hid (plB m = 0) := if_neg (by rw [hI.out]; simp)
      go_enter Try.func33, Try.ntmps33
      go_wp2_with (first
        | (refine wpList_boxR 32 rfl _ rfl _ rfl ?_; intro b1 w1 l1 R1 hb1; replace l1 := Nat.le_trans hB.size l1; have c3 := m3 R1; have c4 := m4 R1; replace hB := hB.trans (hb1.mono hB.size))
          | (refine wpList_allocR 67 rfl rfl _ place_zero ?_; intro b2 w2 l2 R2 hb2; replace l2 := Nat.le_trans hB.size l2; replace R1 := R1.below hb2; replace c3 := m3 R1; replace c4 := m4 R1; replace hB := hB.trans (hb2.mono hB.size))
          | (go_at_call 12; go_fit (C _); rintro e w' ⟨rfl, hw⟩; rw [hw]; clear hw w')
        | (refine wpList_storeR 67 rfl _ _ rfl _ rfl (ic2 0 0) rfl _ R2 rfl (by kernel_rfl) (by kernel_rfl) ?_; intro w3 R3 t3; replace hB := t3.below _ _ l2 hB))
      (try simp only [Exit.inBlock, Exit.then])
      refine bodyPost_ret (results_row2 rfl _ _ _ _ rfl R3 _ Try.underlying67 rfl (by kernel_rfl)) rfl ⟨?_, hB⟩
      rw [hI.out, hA.out, hQ.out]; rfl
  · have HS : blkS m.2.2.2.2 = _ := if_neg hq
    rw [HS] at C
    have hI : Hid (inP m = false) := decide_eq_false (fun h => hq h.1)
    have hA : Hid (plA m = 0) := if_neg (by rw [hI.out]; simp)
    have hQ : Hid (plB m = 0) := if_neg (by rw [hI.out]; simp)
    go_enter Try.func33, Try.ntmps33
    go_wp2_with (first
      | (refine wpList_boxR 32 rfl _ rfl _ rfl ?_; intro b1 w1 l1 R1 hb1; replace l1 := Nat.le_trans hB.size l1; have c3 := m3 R1; have c4 := m4 R1; replace hB := hB.trans (hb1.mono hB.size))
          | (refine wpList_allocR 67 rfl rfl _ place_zero ?_; intro b2 w2 l2 R2 hb2; replace l2 := Nat.le_trans hB.size l2; replace R1 := R1.below hb2; replace c3 := m3 R1; replace c4 := m4 R1; replace hB := hB.trans (hb2.mono hB.size))
          | (go_at_call 12; go_fit (C _); rintro e w' ⟨rfl, hw⟩; rw [hw]; clear hw w')
      | (refine wpList_storeR 67 rfl _ _ rfl _ rfl (ic2 0 0) rfl _ R2 rfl (by kernel_rfl) (by kernel_rfl) ?_; intro w3 R3 t3; replace hB := t3.below _ _ l2 hB))
    (try simp only [Exit.inBlock, Exit.then])
    refine bodyPost_ret (results_row2 rfl _ _ _ _ rfl R3 _ Try.underlying67 rfl (by kernel_rfl)) rfl ⟨?_, hB⟩
    rw [hI.out, hA.out, hQ.out]; rfl
end Go.Proofs.Ytmdijjbkjcnbpaa
