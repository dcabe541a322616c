/-
  The walks of the pool: the blocks that nobody has, and the one that a draw has.
-/
import Derived.Test.YtmdijjbkjcnbpaaPoolG
namespace Go.Proofs.Ytmdijjbkjcnbpaa
open Go.ChangeShapes Go.WideShapes Go.ChangeAt Go.RowKit
set_option linter.unusedSimpArgs false
set_option linter.unusedVariables false

/-- a number from 0 to below n. -/
def inR (a n : Int) : Bool := decide (0 ≤ a ∧ a < n)
theorem inR_true {a n : Int} (h0 : 0 ≤ a) (h1 : a < n) : inR a n = true := by unfold inR; exact decide_eq_true ⟨h0, h1⟩
theorem inR_false {a n : Int} (h : a < 0 ∨ n ≤ a) : inR a n = false := by unfold inR; exact decide_eq_false (by omega)
set_option maxRecDepth 10000 in
set_option maxHeartbeats 1000000 in
theorem free_any (h : Nat → Int) (w : World) :
    Calls Try.prog 59 #[.agg #[.int .i64 (h 0), .int .i64 (h 1), .int .i64 (h 2), .int .i64 (h 3), .int .i64 (h 4), .int .i64 (h 5)]] w fun e w' => ∃ v, e = .returned v ∧ (∃ a c, v = .slice a (freeL h).length c) ∧ Ints w' w.heap.size v (freeL h) ∧ Below w.heap.size w w' := by
  obtain ⟨i0, hi, hz0, hz1, hz2⟩ := info_parts info_int
  have hB0 : Below w.heap.size w (w.alloc (.cells #[.int .i64 (h 0), .int .i64 (h 1), .int .i64 (h 2), .int .i64 (h 3), .int .i64 (h 4), .int .i64 (h 5)] 22)) := (Below.refl _ _).alloc (Nat.le_refl _) _
  go_enter Try.func59, Try.ntmps59
  go_wp2
  go_loopw [3, 7] (fun v i wr => ∃ (k : Nat) (ao : Option Addr) (cv : Nat), k ≤ 6 ∧ i = .int .i64 k ∧ v = .slice ao (freeTo h k).length cv ∧ Ints wr w.heap.size v (freeTo h k) ∧ Below w.heap.size w wr) (fun _ i _ => 6 - (intOf i).toNat)
  case atStart => exact ⟨0, none, 0, by omega, rfl, rfl, Ints.nil _ _, hB0⟩
  case round =>
    clear hB0
    obtain ⟨k, ao, cv, hk, rfl, rfl, hown, hB⟩ := hrel
    have hsize := hB.size
    have hfl := freeTo_len h k
    by_cases hlt : k < 6
    · have ik := index6 h k hlt
      by_cases hz : h k = 0
      · have dz : (h k == 0) = true := by simpa using hz
        have HS : Hid (freeTo h (k + 1) = freeTo h k ++ [k]) := by show _ = _; rw [freeTo_step, if_pos dz]
        clear hz
        go_wp2_with (at_builtin; refine wpList_append_own _ rfl _ _ 96 rfl w.heap.size 3 i0 (.int .i64 0) 1 8 Try.underlying96 hi hz0 hz1 hz2 rfl (by decide) _ _ _ rfl (hown.alloc _) ⟨wr.heap.size, 0, none⟩ 1 1 [.int .i64 (k : Int)] rfl rfl (one_new _ _ _) (fun x hx => by simp at hx; subst hx; rfl) (by unfold maxLen; omega) (by omega) (by simp; omega) ?_; intro v' w3 hown' hgrow3 hnil3)
        go_roundw
        case rel =>
          have hi' : Ints w3 w.heap.size v' (freeTo h (k + 1)) := by
            unfold Ints ic at *
            rw [HS.out, List.length_append, List.map_append]
            exact hown'
          obtain ⟨a3, c3, e3⟩ := hi'.len
          have hb3 : Below w.heap.size w w3 := Ints.grown (l := freeTo h k) (hown.alloc _) (hB.alloc hB.size _) (by simp; omega) hgrow3
          first
            | exact ⟨k + 1, a3, c3, by omega, by go_num, e3, hi', hb3⟩
            | ((repeat apply Exists.intro); exact ⟨⟨k + 1, a3, c3, by omega, by go_num, e3, hi', hb3⟩, rfl⟩)
            | ((repeat apply Exists.intro); exact ⟨⟨k + 1, a3, c3, by omega, by go_num, e3, hi', hb3⟩, rfl, rfl⟩)
        case measure => simp [intOf]; omega
      · have dz : (h k == 0) = false := by simpa using hz
        have HS : Hid (freeTo h (k + 1) = freeTo h k) := by show _ = _; rw [freeTo_step, if_neg (by simp [dz])]; simp
        clear hz
        go_wp2
        go_roundw
        case rel =>
          first
            | exact ⟨k + 1, ao, cv, by omega, by go_num, by rw [HS.out], by rw [HS.out]; exact hown, hB⟩
            | ((repeat apply Exists.intro); exact ⟨⟨k + 1, ao, cv, by omega, by go_num, by rw [HS.out], by rw [HS.out]; exact hown, hB⟩, rfl⟩)
            | ((repeat apply Exists.intro); exact ⟨⟨k + 1, ao, cv, by omega, by go_num, by rw [HS.out], by rw [HS.out]; exact hown, hB⟩, rfl, rfl⟩)
        case measure => simp [intOf]; omega
    · have e : k = 6 := by omega
      subst e
      go_wp2
      go_ret
      exact ⟨_, rfl, ⟨_, _, rfl⟩, hown, hB⟩

theorem isAddress_any (a : Int) (w : World) : Calls Try.prog 55 #[.int .i64 a] w fun e w' => e = .returned (.bool (inR a 3)) ∧ w' = w := by
  by_cases h0 : 0 ≤ a
  · by_cases h1 : a < 3
    · have H : Hid (inR a 3 = true) := inR_true h0 h1
      go_enter Try.func55, Try.ntmps55
      go_wp2
      go_ret
      exact ⟨by rw [H.out]; rfl, rfl⟩
    · have H : Hid (inR a 3 = false) := inR_false (by omega)
      have h1' : 3 ≤ a := by omega
      clear h1
      go_enter Try.func55, Try.ntmps55
      go_wp2
      go_ret
      exact ⟨by rw [H.out]; simp <;> omega, rfl⟩
  · have H : Hid (inR a 3 = false) := inR_false (by omega)
    have h0' : a < 0 := by omega
    clear h0
    go_enter Try.func55, Try.ntmps55
    go_wp2
    go_ret
    exact ⟨by rw [H.out]; rfl, rfl⟩
theorem isSubscriber_any (a : Int) (w : World) : Calls Try.prog 57 #[.int .i64 a] w fun e w' => e = .returned (.bool (inR a 8)) ∧ w' = w := by
  by_cases h0 : 0 ≤ a
  · by_cases h1 : a < 8
    · have H : Hid (inR a 8 = true) := inR_true h0 h1
      go_enter Try.func57, Try.ntmps57
      go_wp2
      go_ret
      exact ⟨by rw [H.out]; rfl, rfl⟩
    · have H : Hid (inR a 8 = false) := inR_false (by omega)
      have h1' : 8 ≤ a := by omega
      clear h1
      go_enter Try.func57, Try.ntmps57
      go_wp2
      go_ret
      exact ⟨by rw [H.out]; simp <;> omega, rfl⟩
  · have H : Hid (inR a 8 = false) := inR_false (by omega)
    have h0' : a < 0 := by omega
    clear h0
    go_enter Try.func57, Try.ntmps57
    go_wp2
    go_ret
    exact ⟨by rw [H.out]; rfl, rfl⟩
theorem isBlock_any (a : Int) (w : World) : Calls Try.prog 56 #[.int .i64 a] w fun e w' => e = .returned (.bool (inR a 6)) ∧ w' = w := by
  by_cases h0 : 0 ≤ a
  · by_cases h1 : a < 6
    · have H : Hid (inR a 6 = true) := inR_true h0 h1
      go_enter Try.func56, Try.ntmps56
      go_wp2
      go_ret
      exact ⟨by rw [H.out]; rfl, rfl⟩
    · have H : Hid (inR a 6 = false) := inR_false (by omega)
      have h1' : 6 ≤ a := by omega
      clear h1
      go_enter Try.func56, Try.ntmps56
      go_wp2
      go_ret
      exact ⟨by rw [H.out]; simp <;> omega, rfl⟩
  · have H : Hid (inR a 6 = false) := inR_false (by omega)
    have h0' : a < 0 := by omega
    clear h0
    go_enter Try.func56, Try.ntmps56
    go_wp2
    go_ret
    exact ⟨by rw [H.out]; rfl, rfl⟩

theorem at_bd (d : Int) (n : Nat) (hn : 0 < n) : 0 ≤ d % (n : Int) ∧ d % (n : Int) < n := ⟨Int.emod_nonneg d (by omega), Int.emod_lt_of_pos d (by omega)⟩
/-- the one of a list that a draw has. -/
def drawnL (l : List Nat) (d : Int) : Nat := l.getD (d % (l.length : Int)).toNat 0
theorem drawnL_mem (l : List Nat) (d : Int) (h : 0 < l.length) : drawnL l d ∈ l := by
  have := at_bd d l.length h
  unfold drawnL
  rw [List.getD_eq_getElem?_getD, List.getElem?_eq_getElem (by omega)]
  exact List.getElem_mem _
set_option maxHeartbeats 1000000 in
theorem drawn_any (base : Nat) (v : Value) (l : List Nat) (d : Int) (w : World) (hi : Ints w base v l) (hl : 0 < l.length) (hd : (Lit.int .i64 d).wf = true) (hm : l.length ≤ 6) :
    Calls Try.prog 60 #[v, .int .i64 d] w fun e w' => e = .returned (.int .i64 ((drawnL l d : Nat) : Int)) ∧ w' = w := by
  obtain ⟨b, cap, rfl, hc⟩ := hi.at hl
  have hr := rem_at d l.length (by omega)
  obtain ⟨a0, a1⟩ := at_bd d l.length hl
  have hq : (d % (l.length : Int)).toNat < l.length := by omega
  have hcell := hc _ hq
  have HD : Hid (drawnL l d = l[(d % (l.length : Int)).toNat]) := by
    show _ = _
    unfold drawnL
    rw [List.getD_eq_getElem?_getD, List.getElem?_eq_getElem hq]; rfl
  generalize hx : l[(d % (l.length : Int)).toNat] = x at *
  clear hx hc hi
  generalize hN : (l.length : Int) = N at *
  have hn0 : 0 < N := by omega
  have hn6 : N ≤ 6 := by omega
  by_cases ht : d.tmod N < 0
  · rw [if_pos ht] at hr
    go_enter Try.func60, Try.ntmps60
    go_wp2
    go_ret
    exact ⟨by rw [HD.out]; rfl, rfl⟩
  · rw [if_neg ht] at hr
    have ht' : 0 ≤ d.tmod N := by omega
    clear ht
    go_enter Try.func60, Try.ntmps60
    go_wp2
    go_ret
    exact ⟨by rw [HD.out]; rfl, rfl⟩
set_option maxHeartbeats 1000000 in
theorem chosen_any (d : Int) (n : Nat) (w : World) (hn : 0 < n) (hm : n ≤ 6) :
    Calls Try.prog 54 #[.int .i64 d, .int .i64 (n : Int)] w fun e w' => e = .returned (.int .i64 (d % (n : Int))) ∧ w' = w := by
  have hr := rem_at d n (by omega)
  obtain ⟨a0, a1⟩ := at_bd d n hn
  have t1 := Int.tmod_lt_of_pos d (show (0 : Int) < n by omega)
  have t2 : -(n : Int) ≤ d.tmod n := by split at hr <;> omega
  have n6 : (n : Int) ≤ 6 := by omega
  have n0 : 0 < (n : Int) := by omega
  have HD : Hid ((d.tmod n + n) % n = d % n) := by
    show _ = _
    split at hr
    · rw [hr]; exact Int.emod_emod _ _
    · rw [hr, Int.add_emod_right]; exact Int.emod_emod _ _
  generalize (n : Int) = N at *
  clear hr
  have hN0 : N ≠ 0 := by omega
  have hw : wrap64 (d.tmod N + N) = d.tmod N + N := by unfold wrap64; omega
  go_enter Try.func54, Try.ntmps54
  go_wp2
  go_ret
  refine ⟨?_, rfl⟩
  rw [← HD.out]; rfl
end Go.Proofs.Ytmdijjbkjcnbpaa
