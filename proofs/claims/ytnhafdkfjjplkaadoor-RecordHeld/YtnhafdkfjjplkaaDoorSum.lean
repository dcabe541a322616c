/-
  The plain mathematics of sums of words whose carries are put back: no Go in sight.
-/
namespace Go.Proofs.YtnhafdkfjjplkaaDoor
/-- a number with its carries put back. -/
def bk (n : Int) : Int := if n = 0 then 0 else (n - 1) % 65535 + 1
/-- the sum of all words of two bytes, a nought behind an odd last one, as one number. -/
def tot : List UInt8 → Int
  | [] => 0
  | [a] => (a.toNat : Int) * 256
  | a :: b :: r => (a.toNat : Int) * 256 + (b.toNat : Int) + tot r

theorem bk_bd (n : Int) : 0 ≤ bk n ∧ bk n ≤ 65535 := by
  unfold bk; split <;> omega
theorem bk_pos (n : Int) (h : n ≠ 0) : 1 ≤ bk n := by
  unfold bk; rw [if_neg h]; omega
theorem bk_word (n : Int) (h0 : 0 ≤ n) (h1 : n ≤ 65535) : bk n = n := by
  unfold bk; split <;> omega
/-- two words: the carry put back once. -/
theorem bk_two (a b : Int) (a0 : 0 ≤ a) (a1 : a ≤ 65535) (b0 : 0 ≤ b) (b1 : b ≤ 65535) : ((a + b) % 65536 + (a + b) / 65536) % 65536 = bk (a + b) := by
  unfold bk
  by_cases h : a + b < 65536
  · have e1 : (a + b) % 65536 = a + b := by omega
    have e2 : (a + b) / 65536 = 0 := by omega
    rw [e1, e2]; split <;> omega
  · have e1 : (a + b) % 65536 = a + b - 65536 := by omega
    have e2 : (a + b) / 65536 = 1 := by omega
    have e3 : (a + b - 1) % 65535 = a + b - 65536 := by omega
    rw [e1, e2, e3]; split <;> omega
/-- what a number leaves by 65535. -/
theorem bk_mod (n : Int) : bk n % 65535 = n % 65535 := by
  unfold bk; split <;> omega
theorem bk_zero (n : Int) : bk n = 0 ↔ n = 0 := by
  unfold bk; split <;> omega
/-- two numbers have one sum where they leave the same, and are noughts together. -/
theorem bk_eq (x y : Int) (h : x % 65535 = y % 65535) (h0 : x = 0 ↔ y = 0) : bk x = bk y := by
  unfold bk; split <;> split <;> omega
theorem bk_add (x y : Int) (hx : 0 ≤ x) (hy : 0 ≤ y) : bk (bk x + y) = bk (x + y) := by
  have h1 := bk_mod x; have h2 := bk_bd x; have h3 := bk_zero x
  refine bk_eq _ _ ?_ ?_ <;> omega
theorem bk_add2 (x y : Int) (hx : 0 ≤ x) (hy : 0 ≤ y) : bk (bk x + bk y) = bk (x + y) := by
  rw [bk_add x _ hx (bk_bd y).1, Int.add_comm, bk_add y x hy hx, Int.add_comm]
/-- a number with what is wanting to 65535 behind it. -/
theorem bk_full (x : Int) (hx : 0 ≤ x) : bk (x + (65535 - bk x)) = 65535 := by
  have h1 := bk_mod x; have h2 := bk_bd x; have h3 := bk_zero x
  have h : (x + (65535 - bk x)) % 65535 = 0 := by omega
  have h4 : x + (65535 - bk x) ≠ 0 := by omega
  generalize x + (65535 - bk x) = z at *
  unfold bk; rw [if_neg h4]; omega

/-- the lowest 16 bits, as the document's own text reckons them. -/
theorem low_eq (a : Int) : ((a.tmod 65536 + 65536 + 9223372036854775808) % 18446744073709551616 - 9223372036854775808).tmod 65536 = a % 65536 := by
  have h : a.tmod 65536 % 65536 = a % 65536 ∧ -65536 < a.tmod 65536 ∧ a.tmod 65536 < 65536 := by
    have := Int.tmod_eq_emod (a := a) (b := 65536)
    split at this <;> simp at this <;> omega
  obtain ⟨h1, h2, h3⟩ := h
  generalize a.tmod 65536 = t at *
  rw [Int.tmod_eq_emod_of_nonneg (by omega)]; omega

theorem byte_bd (c : UInt8) : 0 ≤ (c.toNat : Int) ∧ (c.toNat : Int) ≤ 255 := by
  have := c.toNat_lt; omega
theorem tot_nonneg : (l : List UInt8) → 0 ≤ tot l
  | [] => by simp [tot]
  | [a] => by simp [tot]; omega
  | a :: b :: r => by have := tot_nonneg r; simp [tot]; omega
theorem tot_le : (l : List UInt8) → tot l ≤ 65535 * ((l.length : Int) + 1)
  | [] => by simp [tot]
  | [a] => by have := byte_bd a; simp [tot]; omega
  | a :: b :: r => by have := tot_le r; have := byte_bd a; have := byte_bd b; simp [tot]; omega
/-- closer: half a word a byte. -/
theorem tot_half : (l : List UInt8) → 2 * tot l ≤ 65535 * ((l.length : Int) + 1)
  | [] => by simp [tot]
  | [a] => by have := byte_bd a; simp [tot]; omega
  | a :: b :: r => by have := tot_half r; have := byte_bd a; have := byte_bd b; simp [tot]; omega
theorem tot_snoc (c : UInt8) : (l : List UInt8) → tot (l ++ [c]) = tot l + if l.length % 2 = 0 then (c.toNat : Int) * 256 else (c.toNat : Int)
  | [] => by simp [tot]
  | [a] => by simp [tot]
  | a :: b :: r => by
    have := tot_snoc c r
    have e : (a :: b :: r).length % 2 = r.length % 2 := by simp; omega
    rw [e]; simp only [List.cons_append, tot]; rw [this]; omega
theorem tot_append (m : List UInt8) : (l : List UInt8) → l.length % 2 = 0 → tot (l ++ m) = tot l + tot m
  | [], _ => by simp [tot]
  | [a], h => by simp at h
  | a :: b :: r, h => by
    have e : r.length % 2 = 0 := by simp at h; omega
    have := tot_append m r e
    simp only [List.cons_append, tot]; rw [this]; omega

theorem take_snoc (s : ByteArray) (k : Nat) (h : k < s.size) : s.data.toList.take (k + 1) = s.data.toList.take k ++ [s[k]] := by
  rw [List.take_succ_eq_append_getElem (by simpa using h)]; rfl
theorem take_len (s : ByteArray) (k : Nat) (h : k ≤ s.size) : (s.data.toList.take k).length = k := by
  rw [List.length_take]; have : s.data.toList.length = s.size := by simp
  omega
/-- one byte more. -/
theorem tot_step (s : ByteArray) (k : Nat) (h : k < s.size) : tot (s.data.toList.take (k + 1)) = tot (s.data.toList.take k) + if k % 2 = 0 then (s[k].toNat : Int) * 256 else (s[k].toNat : Int) := by
  rw [take_snoc s k h, tot_snoc, take_len s k (by omega)]
/-- a whole word more. -/
theorem tot_word (s : ByteArray) (k : Nat) (hk : k % 2 = 0) (h : k + 1 < s.size) : tot (s.data.toList.take (k + 2)) = tot (s.data.toList.take k) + ((s[k].toNat : Int) * 256 + (s[k + 1].toNat : Int)) := by
  rw [show k + 2 = (k + 1) + 1 from rfl, tot_step s (k + 1) h, tot_step s k (by omega), if_pos hk, if_neg (by omega)]; omega
/-- the odd last byte. -/
theorem tot_last (s : ByteArray) (k : Nat) (hk : k % 2 = 0) (h : k < s.size) (h1 : ¬ k + 1 < s.size) : tot (s.data.toList.take (k + 2)) = tot (s.data.toList.take k) + (s[k].toNat : Int) * 256 := by
  have e : s.data.toList.take (k + 2) = s.data.toList.take (k + 1) := by
    have hl : s.data.toList.length = s.size := by simp
    rw [List.take_of_length_le (by omega), List.take_of_length_le (by omega)]
  rw [e, tot_step s k h, if_pos hk]
theorem tot_all (s : ByteArray) (k : Nat) (h : s.size ≤ k) : tot (s.data.toList.take k) = tot s.data.toList := by
  rw [List.take_of_length_le (by simpa using h)]
end Go.Proofs.YtnhafdkfjjplkaaDoor
