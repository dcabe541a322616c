/-
  Of what BindCloses, BindOpens stands on: part 2.
-/
import Derived.Deep.DeepFit
import Derived.Deep.DeepCutAuto
import Derived.Deep.MidRow
import Derived.Laws.CopyOwn
import Derived.Test.YtmdijjbkjcnbpaaBindCO1
namespace Go.Proofs.Ytmdijjbkjcnbpaa
open Go.ChangeShapes Go.WideShapes Go.ChangeAt Go.RowKit
set_option linter.unusedSimpArgs false
set_option linter.unusedVariables false

/-- the owners of an address. -/
def rowF (f : Nat → Int) (a : Nat) : Nat → Int := fun k => f (6 * a + k)
/-- how many blocks of an address nobody has. -/
def leftP (f : Nat → Int) (a : Int) : Int := if inR a 3 = true then ((freeL (rowF f a.toNat)).length : Int) else 0
theorem leftP_in (f : Nat → Int) (a : Nat) (h : a < 3) : leftP f (a : Int) = ((freeL (rowF f a)).length : Int) := by
  unfold leftP; rw [if_pos (inR_true (by omega) (by omega)), Int.toNat_natCast]
theorem leftP_out (f : Nat → Int) (a : Int) (h : a < 0 ∨ 3 ≤ a) : leftP f a = 0 := by
  unfold leftP; rw [if_neg (by simp [inR_false h])]

set_option maxRecDepth 10000 in
set_option maxHeartbeats 1000000 in
theorem left_any (f : Nat → Int) (g : Nat → Bool) (a : Int) (w : World) :
    Calls Try.prog 62 #[plv f g, .int .i64 a] w fun e w' => e = .returned (.int .i64 (leftP f a)) ∧ Below w.heap.size w w' := by
  have hB : Below w.heap.size w (w.alloc (.cells #[.int .i64 (f 0), .int .i64 (f 1), .int .i64 (f 2), .int .i64 (f 3), .int .i64 (f 4), .int .i64 (f 5), .int .i64 (f 6), .int .i64 (f 7), .int .i64 (f 8), .int .i64 (f 9), .int .i64 (f 10), .int .i64 (f 11), .int .i64 (f 12), .int .i64 (f 13), .int .i64 (f 14), .int .i64 (f 15), .int .i64 (f 16), .int .i64 (f 17), .bool (g 0), .bool (g 1), .bool (g 2)] 26)) := (Below.refl _ _).alloc (Nat.le_refl _) _

  unfold plv pc
  by_cases hin : 0 ≤ a ∧ a < 3
  · obtain ⟨k, rfl⟩ : ∃ k : Nat, a = k := ⟨a.toNat, by omega⟩
    have hi : inR (k : Int) 3 = true := inR_true hin.1 hin.2
    have HL : Hid (leftP f (k : Int) = _) := leftP_in f k (by omega)
    rcases (show k = 0 ∨ k = 1 ∨ k = 2 by omega) with rfl | rfl | rfl
    · have C0 : ∀ w, Calls Try.prog 59 #[.agg #[.int .i64 (f 0), .int .i64 (f 1), .int .i64 (f 2), .int .i64 (f 3), .int .i64 (f 4), .int .i64 (f 5)]] w fun e w' => ∃ v, e = .returned v ∧ (∃ a c, v = .slice a (freeL (rowF f 0)).length c) ∧ Ints w' w.heap.size v (freeL (rowF f 0)) ∧ Below w.heap.size w w' := fun w => free_any (rowF f 0) w
      go_enter Try.func62, Try.ntmps62
      go_wp2_with (first
        | (go_at_call 55; refine (isAddress_any _ _).mono ?_; rintro e w' ⟨rfl, rfl⟩; (try rw [show inR ((0 : Nat) : Int) 3 = true from hi]))
        | (go_at_call 59; go_fit (C0 _); rintro e w' ⟨v, rfl, ⟨a1, c1, rfl⟩, hI, hb⟩; replace hB := hB.trans (hb.mono hB.size)))
      go_ret
      exact ⟨by rw [HL.out]; rfl, hB⟩
    · have C1 : ∀ w, Calls Try.prog 59 #[.agg #[.int .i64 (f 6), .int .i64 (f 7), .int .i64 (f 8), .int .i64 (f 9), .int .i64 (f 10), .int .i64 (f 11)]] w fun e w' => ∃ v, e = .returned v ∧ (∃ a c, v = .slice a (freeL (rowF f 1)).length c) ∧ Ints w' w.heap.size v (freeL (rowF f 1)) ∧ Below w.heap.size w w' := fun w => free_any (rowF f 1) w
      go_enter Try.func62, Try.ntmps62
      go_wp2_with (first
        | (go_at_call 55; refine (isAddress_any _ _).mono ?_; rintro e w' ⟨rfl, rfl⟩; (try rw [show inR ((1 : Nat) : Int) 3 = true from hi]))
        | (go_at_call 59; go_fit (C1 _); rintro e w' ⟨v, rfl, ⟨a1, c1, rfl⟩, hI, hb⟩; replace hB := hB.trans (hb.mono hB.size)))
      go_ret
      exact ⟨by rw [HL.out]; rfl, hB⟩
    · have C2 : ∀ w, Calls Try.prog 59 #[.agg #[.int .i64 (f 12), .int .i64 (f 13), .int .i64 (f 14), .int .i64 (f 15), .int .i64 (f 16), .int .i64 (f 17)]] w fun e w' => ∃ v, e = .returned v ∧ (∃ a c, v = .slice a (freeL (rowF f 2)).length c) ∧ Ints w' w.heap.size v (freeL (rowF f 2)) ∧ Below w.heap.size w w' := fun w => free_any (rowF f 2) w
      go_enter Try.func62, Try.ntmps62
      go_wp2_with (first
        | (go_at_call 55; refine (isAddress_any _ _).mono ?_; rintro e w' ⟨rfl, rfl⟩; (try rw [show inR ((2 : Nat) : Int) 3 = true from hi]))
        | (go_at_call 59; go_fit (C2 _); rintro e w' ⟨v, rfl, ⟨a1, c1, rfl⟩, hI, hb⟩; replace hB := hB.trans (hb.mono hB.size)))
      go_ret
      exact ⟨by rw [HL.out]; rfl, hB⟩
  · have hi : inR a 3 = false := inR_false (by omega)
    have HL : Hid (leftP f a = 0) := leftP_out f a (by omega)
    go_enter Try.func62, Try.ntmps62
    go_wp2_with (go_at_call 55; refine (isAddress_any _ _).mono ?_; rintro e w' ⟨rfl, rfl⟩)
    go_ret
    exact ⟨by rw [HL.out]; rfl, hB⟩
end Go.Proofs.Ytmdijjbkjcnbpaa

namespace Go.Proofs.Ytmdijjbkjcnbpaa
open Go.ChangeShapes Go.WideShapes Go.ChangeAt Go.RowKit
set_option linter.unusedSimpArgs false
set_option linter.unusedVariables false

set_option maxRecDepth 10000 in
set_option maxHeartbeats 2000000 in
theorem freer_any (f : Nat → Int) (g : Nat → Bool) (a : Nat) (ha : a < 3) (w : World) :
    Calls Try.prog 53 #[plv f g, .int .i64 (a : Int)] w fun e w' => ∃ v, e = .returned v ∧ (∃ a1 c1, v = .slice a1 (freeL (rowF f a)).length c1) ∧ Ints w' w.heap.size v (freeL (rowF f a)) ∧ Below w.heap.size w w' := by
  obtain ⟨i0, hi, hz0, hz1, hz2⟩ := info_parts info_int
  have hB0 : Below w.heap.size w (w.alloc (.cells #[.int .i64 (f 0), .int .i64 (f 1), .int .i64 (f 2), .int .i64 (f 3), .int .i64 (f 4), .int .i64 (f 5), .int .i64 (f 6), .int .i64 (f 7), .int .i64 (f 8), .int .i64 (f 9), .int .i64 (f 10), .int .i64 (f 11), .int .i64 (f 12), .int .i64 (f 13), .int .i64 (f 14), .int .i64 (f 15), .int .i64 (f 16), .int .i64 (f 17), .bool (g 0), .bool (g 1), .bool (g 2)] 26)) := (Below.refl _ _).alloc (Nat.le_refl _) _

  unfold plv pc
  rcases (show a = 0 ∨ a = 1 ∨ a = 2 by omega) with rfl | rfl | rfl
  · go_enter Try.func53, Try.ntmps53
    go_wp2
    go_loopw [5, 18] (fun v i wr => ∃ (k : Nat) (ao : Option Addr) (cv : Nat), k ≤ 6 ∧ i = .int .i64 k ∧ v = .slice ao (freeTo (rowF f 0) k).length cv ∧ Ints wr w.heap.size v (freeTo (rowF f 0) k) ∧ Below w.heap.size w wr) (fun _ i _ => 6 - (intOf i).toNat)
    case atStart => exact ⟨0, none, 0, by omega, rfl, rfl, Ints.nil _ _, hB0⟩
    case round =>
      clear hB0
      obtain ⟨k, ao, cv, hk, rfl, rfl, hown, hB⟩ := hrel
      have hsize := hB.size
      have hfl := freeTo_len (rowF f 0) k
      by_cases hlt : k < 6
      · have ik : ∀ w, (Instr.index 22 (.agg #[.int .i64 (f 0), .int .i64 (f 1), .int .i64 (f 2), .int .i64 (f 3), .int .i64 (f 4), .int .i64 (f 5)]) (.int .i64 (k : Int))).run Try.prog w = .ok (.int .i64 (rowF f 0 k)) w := fun w => index6 (rowF f 0) k hlt w
        by_cases hz : rowF f 0 k = 0
        · have dz : (rowF f 0 k == 0) = true := by simpa using hz
          have HS : Hid (freeTo (rowF f 0) (k + 1) = freeTo (rowF f 0) k ++ [k]) := by show _ = _; rw [freeTo_step, if_pos dz]
          clear hz
          go_wp2_with (at_builtin; refine wpList_append_own _ rfl _ _ 96 rfl w.heap.size 3 i0 (.int .i64 0) 1 8 Try.underlying96 hi hz0 hz1 hz2 rfl (by decide) _ _ _ rfl (hown.alloc _) ⟨wr.heap.size, 0, none⟩ 1 1 [.int .i64 (k : Int)] rfl rfl (one_new _ _ _) (fun x hx => by simp at hx; subst hx; rfl) (by unfold maxLen; omega) (by omega) (by simp; omega) ?_; intro v' w3 hown' hgrow3 hnil3)
          go_roundw
          case rel =>
            have hi' : Ints w3 w.heap.size v' (freeTo (rowF f 0) (k + 1)) := by
              unfold Ints ic at *
              rw [HS.out, List.length_append, List.map_append]
              exact hown'
            obtain ⟨a3, c3, e3⟩ := hi'.len
            have hb3 : Below w.heap.size w w3 := Ints.grown (l := freeTo (rowF f 0) k) (hown.alloc _) (hB.alloc hB.size _) (by simp; omega) hgrow3
            first
              | exact ⟨k + 1, a3, c3, by omega, by go_num, e3, hi', hb3⟩
              | ((repeat apply Exists.intro); exact ⟨⟨k + 1, a3, c3, by omega, by go_num, e3, hi', hb3⟩, rfl⟩)
              | ((repeat apply Exists.intro); exact ⟨⟨k + 1, a3, c3, by omega, by go_num, e3, hi', hb3⟩, rfl, rfl⟩)
          case measure => simp [intOf]; omega
        · have dz : (rowF f 0 k == 0) = false := by simpa using hz
          have HS : Hid (freeTo (rowF f 0) (k + 1) = freeTo (rowF f 0) k) := by show _ = _; rw [freeTo_step, if_neg (by simp [dz])]; simp
          clear hz
          go_wp2
          go_roundw
          case rel =>
            first
              | exact ⟨k + 1, ao, cv, by omega, by go_num, by rw [HS.out], by rw [HS.out]; exact hown, hB⟩
              | ((repeat apply Exists.intro); exact ⟨⟨k + 1, ao, cv, by omega, by go_num, by rw [HS.out], by rw [HS.out]; exact hown, hB⟩, rfl⟩)
              | ((repeat apply Exists.intro); exact ⟨⟨k + 1, ao, cv, by omega, by go_num, by rw [HS.out], by rw [HS.out]; exact hown, hB⟩, rfl, rfl⟩)
          case measure => simp [intOf]; omega
      · have e : k = 6 := by omega
        subst e
        go_wp2
        go_ret
        exact ⟨_, rfl, ⟨_, _, rfl⟩, hown, hB⟩
  · go_enter Try.func53, Try.ntmps53
    go_wp2
    go_loopw [5, 18] (fun v i wr => ∃ (k : Nat) (ao : Option Addr) (cv : Nat), k ≤ 6 ∧ i = .int .i64 k ∧ v = .slice ao (freeTo (rowF f 1) k).length cv ∧ Ints wr w.heap.size v (freeTo (rowF f 1) k) ∧ Below w.heap.size w wr) (fun _ i _ => 6 - (intOf i).toNat)
    case atStart => exact ⟨0, none, 0, by omega, rfl, rfl, Ints.nil _ _, hB0⟩
    case round =>
      clear hB0
      obtain ⟨k, ao, cv, hk, rfl, rfl, hown, hB⟩ := hrel
      have hsize := hB.size
      have hfl := freeTo_len (rowF f 1) k
      by_cases hlt : k < 6
      · have ik : ∀ w, (Instr.index 22 (.agg #[.int .i64 (f 6), .int .i64 (f 7), .int .i64 (f 8), .int .i64 (f 9), .int .i64 (f 10), .int .i64 (f 11)]) (.int .i64 (k : Int))).run Try.prog w = .ok (.int .i64 (rowF f 1 k)) w := fun w => index6 (rowF f 1) k hlt w
        by_cases hz : rowF f 1 k = 0
        · have dz : (rowF f 1 k == 0) = true := by simpa using hz
          have HS : Hid (freeTo (rowF f 1) (k + 1) = freeTo (rowF f 1) k ++ [k]) := by show _ = _; rw [freeTo_step, if_pos dz]
          clear hz
          go_wp2_with (at_builtin; refine wpList_append_own _ rfl _ _ 96 rfl w.heap.size 3 i0 (.int .i64 0) 1 8 Try.underlying96 hi hz0 hz1 hz2 rfl (by decide) _ _ _ rfl (hown.alloc _) ⟨wr.heap.size, 0, none⟩ 1 1 [.int .i64 (k : Int)] rfl rfl (one_new _ _ _) (fun x hx => by simp at hx; subst hx; rfl) (by unfold maxLen; omega) (by omega) (by simp; omega) ?_; intro v' w3 hown' hgrow3 hnil3)
          go_roundw
          case rel =>
            have hi' : Ints w3 w.heap.size v' (freeTo (rowF f 1) (k + 1)) := by
              unfold Ints ic at *
              rw [HS.out, List.length_append, List.map_append]
              exact hown'
            obtain ⟨a3, c3, e3⟩ := hi'.len
            have hb3 : Below w.heap.size w w3 := Ints.grown (l := freeTo (rowF f 1) k) (hown.alloc _) (hB.alloc hB.size _) (by simp; omega) hgrow3
            first
              | exact ⟨k + 1, a3, c3, by omega, by go_num, e3, hi', hb3⟩
              | ((repeat apply Exists.intro); exact ⟨⟨k + 1, a3, c3, by omega, by go_num, e3, hi', hb3⟩, rfl⟩)
              | ((repeat apply Exists.intro); exact ⟨⟨k + 1, a3, c3, by omega, by go_num, e3, hi', hb3⟩, rfl, rfl⟩)
          case measure => simp [intOf]; omega
        · have dz : (rowF f 1 k == 0) = false := by simpa using hz
          have HS : Hid (freeTo (rowF f 1) (k + 1) = freeTo (rowF f 1) k) := by show _ = _; rw [freeTo_step, if_neg (by simp [dz])]; simp
          clear hz
          go_wp2
          go_roundw
          case rel =>
            first
              | exact ⟨k + 1, ao, cv, by omega, by go_num, by rw [HS.out], by rw [HS.out]; exact hown, hB⟩
              | ((repeat apply Exists.intro); exact ⟨⟨k + 1, ao, cv, by omega, by go_num, by rw [HS.out], by rw [HS.out]; exact hown, hB⟩, rfl⟩)
              | ((repeat apply Exists.intro); exact ⟨⟨k + 1, ao, cv, by omega, by go_num, by rw [HS.out], by rw [HS.out]; exact hown, hB⟩, rfl, rfl⟩)
          case measure => simp [intOf]; omega
      · have e : k = 6 := by omega
        subst e
        go_wp2
        go_ret
        exact ⟨_, rfl, ⟨_, _, rfl⟩, hown, hB⟩
  · go_enter Try.func53, Try.ntmps53
    go_wp2
    go_loopw [5, 18] (fun v i wr => ∃ (k : Nat) (ao : Option Addr) (cv : Nat), k ≤ 6 ∧ i = .int .i64 k ∧ v = .slice ao (freeTo (rowF f 2) k).length cv ∧ Ints wr w.heap.size v (freeTo (rowF f 2) k) ∧ Below w.heap.size w wr) (fun _ i _ => 6 - (intOf i).toNat)
    case atStart => exact ⟨0, none, 0, by omega, rfl, rfl, Ints.nil _ _, hB0⟩
    case round =>
      clear hB0
      obtain ⟨k, ao, cv, hk, rfl, rfl, hown, hB⟩ := hrel
      have hsize := hB.size
      have hfl := freeTo_len (rowF f 2) k
      by_cases hlt : k < 6
      · have ik : ∀ w, (Instr.index 22 (.agg #[.int .i64 (f 12), .int .i64 (f 13), .int .i64 (f 14), .int .i64 (f 15), .int .i64 (f 16), .int .i64 (f 17)]) (.int .i64 (k : Int))).run Try.prog w = .ok (.int .i64 (rowF f 2 k)) w := fun w => index6 (rowF f 2) k hlt w
        by_cases hz : rowF f 2 k = 0
        · have dz : (rowF f 2 k == 0) = true := by simpa using hz
          have HS : Hid (freeTo (rowF f 2) (k + 1) = freeTo (rowF f 2) k ++ [k]) := by show _ = _; rw [freeTo_step, if_pos dz]
          clear hz
          go_wp2_with (at_builtin; refine wpList_append_own _ rfl _ _ 96 rfl w.heap.size 3 i0 (.int .i64 0) 1 8 Try.underlying96 hi hz0 hz1 hz2 rfl (by decide) _ _ _ rfl (hown.alloc _) ⟨wr.heap.size, 0, none⟩ 1 1 [.int .i64 (k : Int)] rfl rfl (one_new _ _ _) (fun x hx => by simp at hx; subst hx; rfl) (by unfold maxLen; omega) (by omega) (by simp; omega) ?_; intro v' w3 hown' hgrow3 hnil3)
          go_roundw
          case rel =>
            have hi' : Ints w3 w.heap.size v' (freeTo (rowF f 2) (k + 1)) := by
              unfold Ints ic at *
              rw [HS.out, List.length_append, List.map_append]
              exact hown'
            obtain ⟨a3, c3, e3⟩ := hi'.len
            have hb3 : Below w.heap.size w w3 := Ints.grown (l := freeTo (rowF f 2) k) (hown.alloc _) (hB.alloc hB.size _) (by simp; omega) hgrow3
            first
              | exact ⟨k + 1, a3, c3, by omega, by go_num, e3, hi', hb3⟩
              | ((repeat apply Exists.intro); exact ⟨⟨k + 1, a3, c3, by omega, by go_num, e3, hi', hb3⟩, rfl⟩)
              | ((repeat apply Exists.intro); exact ⟨⟨k + 1, a3, c3, by omega, by go_num, e3, hi', hb3⟩, rfl, rfl⟩)
          case measure => simp [intOf]; omega
        · have dz : (rowF f 2 k == 0) = false := by simpa using hz
          have HS : Hid (freeTo (rowF f 2) (k + 1) = freeTo (rowF f 2) k) := by show _ = _; rw [freeTo_step, if_neg (by simp [dz])]; simp
          clear hz
          go_wp2
          go_roundw
          case rel =>
            first
              | exact ⟨k + 1, ao, cv, by omega, by go_num, by rw [HS.out], by rw [HS.out]; exact hown, hB⟩
              | ((repeat apply Exists.intro); exact ⟨⟨k + 1, ao, cv, by omega, by go_num, by rw [HS.out], by rw [HS.out]; exact hown, hB⟩, rfl⟩)
              | ((repeat apply Exists.intro); exact ⟨⟨k + 1, ao, cv, by omega, by go_num, by rw [HS.out], by rw [HS.out]; exact hown, hB⟩, rfl, rfl⟩)
          case measure => simp [intOf]; omega
      · have e : k = 6 := by omega
        subst e
        go_wp2
        go_ret
        exact ⟨_, rfl, ⟨_, _, rfl⟩, hown, hB⟩

end Go.Proofs.Ytmdijjbkjcnbpaa

namespace Go.Proofs.Ytmdijjbkjcnbpaa
open Go.ChangeShapes Go.WideShapes Go.ChangeAt Go.RowKit
set_option linter.unusedSimpArgs false
set_option linter.unusedVariables false

theorem pc_info (f : Nat → Int) (g : Nat → Bool) : (Try.prog.info? 26).map (·.size) = some (pc f g).size := by kernel_rfl
theorem pc_one (f : Nat → Int) (g : Nat → Bool) : (pc f g).all (·.oneCell') = true := by kernel_rfl
theorem pc_size (f : Nat → Int) (g : Nat → Bool) : (pc f g).size = 21 := rfl
theorem pc_own (f : Nat → Int) (g : Nat → Bool) (k : Nat) (h : k < 18) : (pc f g)[k]? = some (.int .i64 (f k)) := by
  rcases (show k = 0 ∨ k = 1 ∨ k = 2 ∨ k = 3 ∨ k = 4 ∨ k = 5 ∨ k = 6 ∨ k = 7 ∨ k = 8 ∨ k = 9 ∨ k = 10 ∨ k = 11 ∨ k = 12 ∨ k = 13 ∨ k = 14 ∨ k = 15 ∨ k = 16 ∨ k = 17 by omega) with rfl | rfl | rfl | rfl | rfl | rfl | rfl | rfl | rfl | rfl | rfl | rfl | rfl | rfl | rfl | rfl | rfl | rfl <;> rfl
theorem pc_dr (f : Nat → Int) (g : Nat → Bool) (a : Nat) (h : a < 3) : (pc f g)[18 + a]? = some (.bool (g a)) := by
  rcases (show a = 0 ∨ a = 1 ∨ a = 2 by omega) with rfl | rfl | rfl <;> rfl
/-- a function changed at one place. -/
def upd (f : Nat → Int) (n : Nat) (x : Int) : Nat → Int := fun i => if i = n then x else f i
theorem pc_set (f : Nat → Int) (g : Nat → Bool) (n : Nat) (x : Int) (h : n < 18) : (pc f g).setIfInBounds n (.int .i64 x) = pc (upd f n x) g := by
  rcases (show n = 0 ∨ n = 1 ∨ n = 2 ∨ n = 3 ∨ n = 4 ∨ n = 5 ∨ n = 6 ∨ n = 7 ∨ n = 8 ∨ n = 9 ∨ n = 10 ∨ n = 11 ∨ n = 12 ∨ n = 13 ∨ n = 14 ∨ n = 15 ∨ n = 16 ∨ n = 17 by omega) with rfl | rfl | rfl | rfl | rfl | rfl | rfl | rfl | rfl | rfl | rfl | rfl | rfl | rfl | rfl | rfl | rfl | rfl <;> simp [pc, upd]
end Go.Proofs.Ytmdijjbkjcnbpaa

namespace Go.Proofs.Ytmdijjbkjcnbpaa
open Go.ChangeShapes Go.WideShapes Go.ChangeAt Go.RowKit
set_option linter.unusedSimpArgs false
set_option linter.unusedVariables false

/-- a block of the cells of a pool. -/
def PRow (w : World) (b : Nat) (cs : Array Value) : Prop := w.heap[b]? = some (.cells cs 26 (0, 0))
theorem PRow.cell {w : World} {b : Nat} {cs : Array Value} (h : PRow w b cs) : ∀ o, w.cell? ⟨b, o, none⟩ = cs[o]? := by
  intro o; unfold PRow at h; simp [World.cell?, h]
theorem PRow.free {w : World} {b : Nat} {cs : Array Value} (h : PRow w b cs) : ∀ o, w.frozen? ⟨b, o, none⟩ = false := by
  intro o; unfold PRow at h; simp [World.frozen?, h]
theorem PRow.own {w : World} {b : Nat} {f : Nat → Int} {g : Nat → Bool} (h : PRow w b (pc f g)) (k : Nat) (hk : k < 18) : w.cell? ⟨b, k, none⟩ = some (.int .i64 (f k)) := (h.cell k).trans (pc_own f g k hk)
theorem PRow.dr {w : World} {b : Nat} {f : Nat → Int} {g : Nat → Bool} (h : PRow w b (pc f g)) (a : Nat) (ha : a < 3) : w.cell? ⟨b, 18 + a, none⟩ = some (.bool (g a)) := (h.cell (18 + a)).trans (pc_dr f g a ha)
theorem PRow.lt {w : World} {b : Nat} {cs : Array Value} (h : PRow w b cs) : b < w.heap.size := (Array.getElem?_eq_some_iff.1 h).1
theorem PRow.below {w w' : World} {b : Nat} {cs : Array Value} (h : PRow w b cs) (hb : Below w.heap.size w w') : PRow w' b cs := (hb.block b h.lt).trans h
theorem PRow.keep {w w' : World} {b B : Nat} {cs : Array Value} (h : PRow w b cs) (hb : Below B w w') (hlt : b < B) : PRow w' b cs := (hb.block b hlt).trans h
theorem PRow.new (w : World) (cs : Array Value) : PRow (w.alloc (.cells cs 26)) w.heap.size cs := heap_alloc_new w _
theorem PRow.alloc {w : World} {b : Nat} {cs : Array Value} (h : PRow w b cs) (o : Obj) : PRow (w.alloc o) b cs := (Below.heap_alloc _ _ _ h.lt).trans h
theorem PRow.other {w : World} {b r o : Nat} {cs : Array Value} {v : Value} (h : PRow w r cs) (hne : r ≠ b) : PRow (w.setCell ⟨b, o, none⟩ v) r cs := (Below.heap_setCell _ _ _ _ hne).trans h
theorem PRow.upd {w : World} {b : Nat} {f : Nat → Int} {g : Nat → Bool} (h : PRow w b (pc f g)) (n : Nat) (x : Int) (hn : n < 18) : PRow (w.setCell ⟨b, n, none⟩ (.int .i64 x)) b (pc (upd f n x) g) := by
  rw [← pc_set f g n x hn]; exact heap_setCell_same w b n _ 26 _ h
theorem below_undr' {W w' : World} (h : Below W.drew.heap.size W.drew w') : Below W.heap.size W w' := ⟨h.os, h.tape, h.output, h.size, h.block⟩
/-- a pool is read whole. -/
theorem wpList_load_pool {ops : Array Oper} {rest : List Oper} {o : Oper} {a : Act} {w : World} {Q : Exit → Act → World → Prop} (x : Operand) (ho : o.op = .load 26 x) (hw : Region.wanted o (yielded ops a.tmps) = true)
    (b : Nat) (hx : a.eval x = .pointer (some ⟨b, 0, none⟩)) (f : Nat → Int) (g : Nat → Bool) (h : PRow w b (pc f g))
    (hr : wpList Try.prog ops Q rest (a.put o.dst (.agg (pc f g))) w) : wpList Try.prog ops Q (o :: rest) a w :=
  wpList_step fun K hK => by
    rw [if_pos hw]
    exact wp_load_row 26 x ho b hx 26 (pc f g) (0, 0) _ h Try.underlying26 rfl (pc_info f g) (hK _ _ hr)
/-- a pool is written whole. -/
theorem wpList_store_pool {ops : Array Oper} {rest : List Oper} {o : Oper} {a : Act} {w : World} {Q : Exit → Act → World → Prop} (hgd : o.guard = none) (x y : Operand) (ho : o.op = .store 26 x y)
    (b : Nat) (hx : a.eval x = .pointer (some ⟨b, 0, none⟩)) (f : Nat → Int) (g : Nat → Bool) (hy : a.eval y = .agg (pc f g)) (old : Array Value) (h : PRow w b old) (hs : old.size = 21)
    (hr : ∀ w', PRow w' b (pc f g) → w'.heap.size = w.heap.size → (∀ r cs, r ≠ b → PRow w r cs → PRow w' r cs) → (∀ B w0, B ≤ b → Below B w0 w → Below B w0 w') → wpList Try.prog ops Q rest (a.put o.dst undef) w') : wpList Try.prog ops Q (o :: rest) a w :=
  wpList_plain hgd fun K hK => by
    have hst := run_storeVar_row (P := Try.prog) w b 26 26 old (pc f g) h (pc_info f g) (by rw [hs, pc_size]) (pc_one f g)
    unfold Oper.wp execOp
    simp only [ho, hx, hy, Instr.storeAt, Instr.sureAddr, Sem.run_bind, Sem.run_pure, Result.andThen_ok, hst]
    exact hK _ _ (hr _ (setRow_heap w b old _ _ _ h) (by simp) (fun r cs hne hr' => (setRow_other w b r _ hne).trans hr') (fun B w0 hB hb => below_setRow hb hB _))
/-- what a call hands back whose first result is a pool. -/
theorem results_pool2 {fn : Func} {p t : Tmp} (hf : fn.results = #[.cell p 26, .tmp t]) (tmps : Array Value) (w : World) (b : Nat) (f : Nat → Int) (g : Nat → Bool) (hp : tmps.getD p undef = .pointer (some ⟨b, 0, none⟩)) (h : PRow w b (pc f g)) :
    (results fn tmps).run Try.prog w = .ok (.tuple #[plv f g, tmps.getD t undef]) w := by
  have hp' : tmps[p]?.getD undef = .pointer (some ⟨b, 0, none⟩) := by simpa using hp
  have hl := run_loadVar_row (P := Try.prog) w b 26 26 (pc f g) (0, 0) _ h Try.underlying26 rfl (pc_info f g)
  simp [results, hf, hp', asAddr, hl, plv]
theorem results_pool3 {fn : Func} {p t u : Tmp} (hf : fn.results = #[.cell p 26, .tmp t, .tmp u]) (tmps : Array Value) (w : World) (b : Nat) (f : Nat → Int) (g : Nat → Bool) (hp : tmps.getD p undef = .pointer (some ⟨b, 0, none⟩)) (h : PRow w b (pc f g)) :
    (results fn tmps).run Try.prog w = .ok (.tuple #[plv f g, tmps.getD t undef, tmps.getD u undef]) w := by
  have hp' : tmps[p]?.getD undef = .pointer (some ⟨b, 0, none⟩) := by simpa using hp
  have hl := run_loadVar_row (P := Try.prog) w b 26 26 (pc f g) (0, 0) _ h Try.underlying26 rfl (pc_info f g)
  simp [results, hf, hp', asAddr, hl, plv]
end Go.Proofs.Ytmdijjbkjcnbpaa
