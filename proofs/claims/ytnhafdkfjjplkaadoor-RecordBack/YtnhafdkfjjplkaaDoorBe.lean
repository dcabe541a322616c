/-
  Numbers as bytes, the highest first, and back.
-/
import Derived.Test.YtnhafdkfjjplkaaDoorBytes
namespace Go.Proofs.YtnhafdkfjjplkaaDoor
/-- a number as n bytes, the highest first. -/
def be (v : Int) : Nat → List UInt8
  | 0 => []
  | n + 1 => be (v / 256) n ++ [b8 v]
theorem be_one (v : Int) : be v 1 = [b8 v] := rfl
theorem be_two (v : Int) : be v 2 = w16 v := rfl
theorem be_four (v : Int) : be v 4 = l32 v := by
  have e : v / 256 / 256 = v / 65536 := by omega
  unfold be be be be be l32 w16
  rw [e]; rfl
theorem be_len (v : Int) (n : Nat) : (be v n).length = n := by
  induction n generalizing v with
  | zero => rfl
  | succ n ih => simp [be, ih]
/-- what is left of a number behind k bytes of it. -/
def hi (v : Int) : Nat → Int
  | 0 => v
  | k + 1 => hi v k / 256
theorem hi_bd (v : Int) (h0 : 0 ≤ v) (h1 : v ≤ 9223372036854775807) (k : Nat) : 0 ≤ hi v k ∧ hi v k ≤ 9223372036854775807 := by
  induction k with
  | zero => exact ⟨h0, h1⟩
  | succ k ih => unfold hi; omega
theorem hi_down (v : Int) (j : Nat) : hi (v / 256) j = hi v (j + 1) := by
  induction j with
  | zero => rfl
  | succ j ij => unfold hi; rw [ij]
theorem be_next (v : Int) (j : Nat) : be v (j + 1) = [b8 (hi v j)] ++ be v j := by
  induction j generalizing v with
  | zero => rfl
  | succ j ihj =>
    show be (v / 256) (j + 1) ++ [b8 v] = _
    rw [ihj (v / 256), hi_down]; simp [be]
theorem be_split (v : Int) (n k : Nat) (h : k ≤ n) : be v n = be (hi v k) (n - k) ++ be v k := by
  induction k generalizing n with
  | zero => simp [be, hi]
  | succ k ih =>
    rw [ih n (by omega)]
    obtain ⟨m, hm⟩ : ∃ m, n - k = m + 1 := ⟨n - k - 1, by omega⟩
    have hm' : n - (k + 1) = m := by omega
    rw [hm, hm']
    rw [be_next v k]
    simp [be, hi]
theorem txt_cons (c : UInt8) (l : List UInt8) : txt ([c] ++ l) = ⟨#[c]⟩ ++ txt l := by
  rw [← txt_of ((⟨#[c]⟩ : ByteArray) ++ txt l)]
  congr 1
/-- a text as a number, the highest byte first. -/
def num (l : List UInt8) : Int := l.foldl (fun n c => 256 * n + (c.toNat : Int)) 0
theorem num_snoc (l : List UInt8) (c : UInt8) : num (l ++ [c]) = 256 * num l + (c.toNat : Int) := by simp [num]
theorem txt_app (a b : List UInt8) : txt a ++ txt b = txt (a ++ b) := by
  rw [← txt_of (txt a ++ txt b)]
  congr 1
end Go.Proofs.YtnhafdkfjjplkaaDoor
