/-
  Where timers wait: a time's digits, and the highest one in which two times part.
-/
import Derived.Lib.BitFns
import Derived.Lib.ItoaNum
namespace Go.Proofs.Ytphijplgnffoiaa
set_option linter.unusedSimpArgs false
set_option linter.unusedVariables false

/-- the highest digit (six bits each) in which two times part. -/
def lv (a b : Nat) : Nat := (Lib.bitLen (a ^^^ b) - 1) / 6
def dg (t l : Nat) : Nat := t / 64 ^ l % 64
/-- the list of a time. -/
def pk (now d : Nat) : Nat := 64 * lv d now + dg d (lv d now)
theorem dg_lt (t l : Nat) : dg t l < 64 := Nat.mod_lt _ (by decide)
theorem pow64 (l : Nat) : 64 ^ l = 2 ^ (6 * l) := by rw [show (64 : Nat) = 2 ^ 6 from rfl, ← Nat.pow_mul]
theorem xor_zero' (a b : Nat) : a ^^^ b = 0 ↔ a = b := by
  refine ⟨fun h => ?_, fun h => by rw [h, Nat.xor_self]⟩
  have e : (a ^^^ b) ^^^ b = b := by rw [h, Nat.zero_xor]
  rwa [Nat.xor_assoc, Nat.xor_self, Nat.xor_zero] at e
theorem xor_div (a b n : Nat) : (a ^^^ b) / 2 ^ n = 0 ↔ a / 2 ^ n = b / 2 ^ n := by
  rw [← Nat.shiftRight_eq_div_pow, ← Nat.shiftRight_eq_div_pow, ← Nat.shiftRight_eq_div_pow, Nat.shiftRight_xor_distrib]
  exact xor_zero' _ _
theorem bl_zero : Lib.bitLen 0 = 0 := by decide
theorem bl_bounds (x : Nat) (h : x < 2 ^ 64) (h0 : x ≠ 0) : 1 ≤ Lib.bitLen x ∧ 2 ^ (Lib.bitLen x - 1) ≤ x ∧ x < 2 ^ Lib.bitLen x := Lib.bitLenAux_bounds 64 x h h0
theorem lv_hi (a b : Nat) (ha : a < 2 ^ 64) (hb : b < 2 ^ 64) : a / 64 ^ (lv a b + 1) = b / 64 ^ (lv a b + 1) := by
  rw [pow64, ← xor_div]
  by_cases h0 : a ^^^ b = 0
  · rw [h0]; simp
  · have hx : a ^^^ b < 2 ^ 64 := Nat.xor_lt_two_pow ha hb
    obtain ⟨h1, h2, h3⟩ := bl_bounds _ hx h0
    apply Nat.div_eq_of_lt
    refine Nat.lt_of_lt_of_le h3 (Nat.pow_le_pow_right (by decide) ?_)
    unfold lv; omega
theorem lv_lo (a b : Nat) (ha : a < 2 ^ 64) (hb : b < 2 ^ 64) (h : lv a b ≠ 0) : a / 64 ^ lv a b ≠ b / 64 ^ lv a b := by
  rw [pow64]
  intro he
  rw [← xor_div] at he
  have h0 : a ^^^ b ≠ 0 := by
    intro e; unfold lv at h; rw [e, bl_zero] at h; exact h rfl
  have hx : a ^^^ b < 2 ^ 64 := Nat.xor_lt_two_pow ha hb
  obtain ⟨h1, h2, h3⟩ := bl_bounds _ hx h0
  have h4 : 2 ^ (6 * lv a b) ≤ a ^^^ b := Nat.le_trans (Nat.pow_le_pow_right (by decide) (by unfold lv; omega)) h2
  have := Nat.div_pos h4 (Nat.pow_pos (by decide))
  omega
theorem div_up (a b l m : Nat) (h : a / 64 ^ l = b / 64 ^ l) (hm : l ≤ m) : a / 64 ^ m = b / 64 ^ m := by
  obtain ⟨k, rfl⟩ := Nat.exists_eq_add_of_le hm
  rw [Nat.pow_add, ← Nat.div_div_eq_div_mul, ← Nat.div_div_eq_div_mul, h]
theorem lv_eq (a b l : Nat) (ha : a < 2 ^ 64) (hb : b < 2 ^ 64) (h1 : a / 64 ^ (l + 1) = b / 64 ^ (l + 1)) (h2 : l = 0 ∨ a / 64 ^ l ≠ b / 64 ^ l) : lv a b = l := by
  have k1 := lv_hi a b ha hb
  have k2 := lv_lo a b ha hb
  rcases Nat.lt_trichotomy (lv a b) l with h | h | h
  · rcases h2 with h2 | h2
    · omega
    · exact absurd (div_up a b _ _ k1 (by omega)) h2
  · exact h
  · exact absurd (div_up a b _ _ h1 (by omega)) (k2 (by omega))
theorem lv_comm (a b : Nat) : lv a b = lv b a := by unfold lv; rw [Nat.xor_comm]
theorem lv_self (a : Nat) : lv a a = 0 := by unfold lv; rw [Nat.xor_self, bl_zero]
theorem lv_le (a b : Nat) (ha : a ≤ 1099511627776) (hb : b ≤ 1099511627776) : lv a b ≤ 6 := by
  have hx : a ^^^ b < 2 ^ 41 := Nat.xor_lt_two_pow (by omega) (by omega)
  have := Lib.bitLen_le (a ^^^ b) 41 (by decide) hx
  unfold lv; omega
theorem pk_lt (a b : Nat) (ha : a ≤ 1099511627776) (hb : b ≤ 1099511627776) : pk a b < 448 := by
  have := lv_le b a hb ha
  have := dg_lt b (lv b a)
  unfold pk; omega
/-- digits: a quotient is the next one and its digit. -/
theorem div_dg (t l : Nat) : t / 64 ^ l = 64 * (t / 64 ^ (l + 1)) + dg t l := by
  unfold dg
  rw [Nat.pow_succ, ← Nat.div_div_eq_div_mul]
  omega
theorem div_lt (a b l : Nat) (h : a / 64 ^ l < b / 64 ^ l) : a < b := by
  apply Nat.lt_of_not_le
  intro hc
  have := Nat.div_le_div_right (c := 64 ^ l) hc
  omega
/-- a later time: its digit is greater at the level where they part, or it is the same time. -/
theorem later_dg (a d : Nat) (ha : a < 2 ^ 64) (hd : d < 2 ^ 64) (h : a ≤ d) : dg a (lv d a) ≤ dg d (lv d a) ∧ (dg a (lv d a) = dg d (lv d a) → lv d a = 0 ∧ a = d) := by
  have k1 := lv_hi d a hd ha
  have k2 := lv_lo d a hd ha
  have e1 := div_dg a (lv d a)
  have e2 := div_dg d (lv d a)
  have e3 := Nat.div_le_div_right (c := 64 ^ lv d a) h
  refine ⟨by omega, fun e => ?_⟩
  have hz : lv d a = 0 := by
    by_cases hz : lv d a = 0
    · exact hz
    · exact absurd (by omega) (k2 hz)
  refine ⟨hz, ?_⟩
  rw [hz] at e1 e2 e k1
  simp at e1 e2 k1
  omega
/-- it parts from the old time below where the two times part: it is before the new one. -/
theorem below_top (a t d : Nat) (ha : a < 2 ^ 64) (ht : t < 2 ^ 64) (hd : d < 2 ^ 64) (hat : a ≤ t) (h : lv d a < lv t a) : d < t := by
  have k1 := lv_hi d a hd ha
  have k2 := lv_lo t a ht ha (by omega)
  have k3 := div_up d a _ _ k1 h
  have e3 := Nat.div_le_div_right (c := 64 ^ lv t a) hat
  exact div_lt d t (lv t a) (by omega)
theorem at_top_lt (a t d : Nat) (ha : a < 2 ^ 64) (ht : t < 2 ^ 64) (hd : d < 2 ^ 64) (h : lv d a = lv t a) (hl : dg d (lv t a) < dg t (lv t a)) : d < t := by
  have k1 := lv_hi d a hd ha
  have k2 := lv_hi t a ht ha
  have e1 := div_dg d (lv t a)
  have e2 := div_dg t (lv t a)
  rw [h] at k1
  exact div_lt d t (lv t a) (by omega)
theorem at_top_eq (a t d : Nat) (ha : a < 2 ^ 64) (ht : t < 2 ^ 64) (hd : d < 2 ^ 64) (h : lv d a = lv t a) (hl : dg d (lv t a) = dg t (lv t a)) (hgt : t < d) : lv d t < lv t a := by
  have k1 := lv_hi d a hd ha
  have k2 := lv_hi t a ht ha
  have e1 := div_dg d (lv t a)
  have e2 := div_dg t (lv t a)
  rw [h] at k1
  have e3 : d / 64 ^ lv t a = t / 64 ^ lv t a := by omega
  apply Nat.lt_of_not_le
  intro hc
  by_cases hz : lv d t = 0
  · have : lv t a = 0 := by omega
    rw [this] at e3
    simp at e3
    omega
  · exact lv_lo d t hd ht hz (div_up d t _ _ e3 hc)
theorem at_top_gt (a t d : Nat) (ha : a < 2 ^ 64) (ht : t < 2 ^ 64) (hd : d < 2 ^ 64) (h : lv d a = lv t a) (hl : dg t (lv t a) < dg d (lv t a)) : t < d ∧ lv d t = lv t a := by
  have k1 := lv_hi d a hd ha
  have k2 := lv_hi t a ht ha
  have e1 := div_dg d (lv t a)
  have e2 := div_dg t (lv t a)
  rw [h] at k1
  exact ⟨div_lt t d (lv t a) (by omega), lv_eq d t _ hd ht (by omega) (.inr (by omega))⟩
theorem above_top (a t d : Nat) (ha : a < 2 ^ 64) (ht : t < 2 ^ 64) (hd : d < 2 ^ 64) (had : a ≤ d) (h : lv t a < lv d a) : t < d ∧ lv d t = lv d a := by
  have k1 := lv_hi d a hd ha
  have k2 := lv_lo d a hd ha (by omega)
  have k3 := div_up t a _ _ (lv_hi t a ht ha) h
  have k4 := div_up t a _ _ (lv_hi t a ht ha) (show lv t a + 1 ≤ lv d a + 1 by omega)
  have e3 := Nat.div_le_div_right (c := 64 ^ lv d a) had
  exact ⟨div_lt t d (lv d a) (by omega), lv_eq d t _ hd ht (by omega) (.inr (by omega))⟩
theorem pk_inj {l a m b : Nat} (ha : a < 64) (hb : b < 64) : 64 * l + a = 64 * m + b ↔ l = m ∧ a = b := by omega
end Go.Proofs.Ytphijplgnffoiaa
