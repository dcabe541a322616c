/-
  The walks of the pool: how many blocks of an address nobody has.
-/
import Derived.Deep.DeepFit
import Derived.Deep.DeepCutAuto
import Derived.Test.YtmdijjbkjcnbpaaPoolF
namespace Go.Proofs.Ytmdijjbkjcnbpaa
open Go.ChangeShapes Go.WideShapes Go.ChangeAt Go.RowKit
set_option linter.unusedSimpArgs false
set_option linter.unusedVariables false

/-- the owners of an address. -/
def rowF (f : Nat → Int) (a : Nat) : Nat → Int := fun k => f (6 * a + k)
/-- how many blocks of an address nobody has. -/
def leftP (f : Nat → Int) (a : Int) : Int := if inR a 3 = true then ((freeL (rowF f a.toNat)).length : Int) else 0
theorem leftP_in (f : Nat → Int) (a : Nat) (h : a < 3) : leftP f (a : Int) = ((freeL (rowF f a)).length : Int) := by
  unfold leftP; rw [if_pos (inR_true (by omega) (by omega)), Int.toNat_natCast]
theorem leftP_out (f : Nat → Int) (a : Int) (h : a < 0 ∨ 3 ≤ a) : leftP f a = 0 := by
  unfold leftP; rw [if_neg (by simp [inR_false h])]

set_option maxRecDepth 10000 in
set_option maxHeartbeats 1000000 in
theorem left_any (f : Nat → Int) (g : Nat → Bool) (a : Int) (w : World) :
    Calls Try.prog 62 #[plv f g, .int .i64 a] w fun e w' => e = .returned (.int .i64 (leftP f a)) ∧ Below w.heap.size w w' := by
  have hB : Below w.heap.size w (w.alloc (.cells #[.int .i64 (f 0), .int .i64 (f 1), .int .i64 (f 2), .int .i64 (f 3), .int .i64 (f 4), .int .i64 (f 5), .int .i64 (f 6), .int .i64 (f 7), .int .i64 (f 8), .int .i64 (f 9), .int .i64 (f 10), .int .i64 (f 11), .int .i64 (f 12), .int .i64 (f 13), .int .i64 (f 14), .int .i64 (f 15), .int .i64 (f 16), .int .i64 (f 17), .bool (g 0), .bool (g 1), .bool (g 2)] 26)) := (Below.refl _ _).alloc (Nat.le_refl _) _

  unfold plv pc
  by_cases hin : 0 ≤ a ∧ a < 3
  · obtain ⟨k, rfl⟩ : ∃ k : Nat, a = k := ⟨a.toNat, by omega⟩
    have hi : inR (k : Int) 3 = true := inR_true hin.1 hin.2
    have HL : Hid (leftP f (k : Int) = _) := leftP_in f k (by omega)
    rcases (show k = 0 ∨ k = 1 ∨ k = 2 by omega) with rfl | rfl | rfl
    · have C0 : ∀ w, Calls Try.prog 59 #[.agg #[.int .i64 (f 0), .int .i64 (f 1), .int .i64 (f 2), .int .i64 (f 3), .int .i64 (f 4), .int .i64 (f 5)]] w fun e w' => ∃ v, e = .returned v ∧ (∃ a c, v = .slice a (freeL (rowF f 0)).length c) ∧ Ints w' w.heap.size v (freeL (rowF f 0)) ∧ Below w.heap.size w w' := fun w => free_any (rowF f 0) w
      go_enter Try.func62, Try.ntmps62
      go_wp2_with (first
        | (go_at_call 55; refine (isAddress_any _ _).mono ?_; rintro e w' ⟨rfl, rfl⟩; (try rw [show inR ((0 : Nat) : Int) 3 = true from hi]))
        | (go_at_call 59; go_fit (C0 _); rintro e w' ⟨v, rfl, ⟨a1, c1, rfl⟩, hI, hb⟩; replace hB := hB.trans (hb.mono hB.size)))
      go_ret
      exact ⟨by rw [HL.out]; rfl, hB⟩
    · have C1 : ∀ w, Calls Try.prog 59 #[.agg #[.int .i64 (f 6), .int .i64 (f 7), .int .i64 (f 8), .int .i64 (f 9), .int .i64 (f 10), .int .i64 (f 11)]] w fun e w' => ∃ v, e = .returned v ∧ (∃ a c, v = .slice a (freeL (rowF f 1)).length c) ∧ Ints w' w.heap.size v (freeL (rowF f 1)) ∧ Below w.heap.size w w' := fun w => free_any (rowF f 1) w
      go_enter Try.func62, Try.ntmps62
      go_wp2_with (first
        | (go_at_call 55; refine (isAddress_any _ _).mono ?_; rintro e w' ⟨rfl, rfl⟩; (try rw [show inR ((1 : Nat) : Int) 3 = true from hi]))
        | (go_at_call 59; go_fit (C1 _); rintro e w' ⟨v, rfl, ⟨a1, c1, rfl⟩, hI, hb⟩; replace hB := hB.trans (hb.mono hB.size)))
      go_ret
      exact ⟨by rw [HL.out]; rfl, hB⟩
    · have C2 : ∀ w, Calls Try.prog 59 #[.agg #[.int .i64 (f 12), .int .i64 (f 13), .int .i64 (f 14), .int .i64 (f 15), .int .i64 (f 16), .int .i64 (f 17)]] w fun e w' => ∃ v, e = .returned v ∧ (∃ a c, v = .slice a (freeL (rowF f 2)).length c) ∧ Ints w' w.heap.size v (freeL (rowF f 2)) ∧ Below w.heap.size w w' := fun w => free_any (rowF f 2) w
      go_enter Try.func62, Try.ntmps62
      go_wp2_with (first
        | (go_at_call 55; refine (isAddress_any _ _).mono ?_; rintro e w' ⟨rfl, rfl⟩; (try rw [show inR ((2 : Nat) : Int) 3 = true from hi]))
        | (go_at_call 59; go_fit (C2 _); rintro e w' ⟨v, rfl, ⟨a1, c1, rfl⟩, hI, hb⟩; replace hB := hB.trans (hb.mono hB.size)))
      go_ret
      exact ⟨by rw [HL.out]; rfl, hB⟩
  · have hi : inR a 3 = false := inR_false (by omega)
    have HL : Hid (leftP f a = 0) := leftP_out f a (by omega)
    go_enter Try.func62, Try.ntmps62
    go_wp2_with (go_at_call 55; refine (isAddress_any _ _).mono ?_; rintro e w' ⟨rfl, rfl⟩)
    go_ret
    exact ⟨by rw [HL.out]; rfl, hB⟩
end Go.Proofs.Ytmdijjbkjcnbpaa
