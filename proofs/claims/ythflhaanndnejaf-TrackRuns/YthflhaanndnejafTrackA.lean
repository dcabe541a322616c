/-
  The plain mathematics of flows: bits of flags, how long a flow lasts, what comes behind a packet.
-/
import Derived.Test.YthflhaanndnejafRows
import Derived.WalkKit
import Derived.ProofKit
import Derived.OpenShut
import Derived.Laws.BitsAllLaws
namespace Go.Proofs.Ythflhaanndnejaf
open Go.ChangeShapes Go.WideShapes Go.ChangeAt Go.RowKit
set_option linter.unusedSimpArgs false
set_option linter.unusedVariables false

/-- the six flags of a number. -/
def fl (x : Int) : Nat := (x % 64).toNat
theorem fl_lt (x : Int) : fl x < 64 := by unfold fl; omega
theorem and_low (n b : Nat) (hb : 63 &&& b = b) : n &&& b = (n % 64) &&& b := by
  have h : n &&& 63 = n % 64 := Nat.and_two_pow_sub_one_eq_mod n 6
  rw [← h, Nat.and_assoc, hb]
theorem and_any (x : Int) (b : Nat) (hb : 63 &&& b = b) (hl : b < 64) : bits .and .i64 x (b : Int) = ((fl x &&& b : Nat) : Int) := by
  have e1 : (BitVec.ofInt 64 x).toNat % 64 = fl x := by
    rw [BitVec.toNat_ofInt]
    unfold fl
    omega
  have e2 : (BitVec.ofInt 64 (b : Int)).toNat = b := by
    rw [BitVec.toNat_ofInt]
    omega
  have e3 : (BitVec.ofInt 64 x &&& BitVec.ofInt 64 (b : Int)).toNat = fl x &&& b := by
    rw [BitVec.toNat_and, e2, and_low _ _ hb, e1]
  have hle : fl x &&& b ≤ b := Nat.and_le_right
  unfold bits
  show IntKind.i64.wrap ((BitVec.ofInt 64 x &&& BitVec.ofInt 64 (b : Int)).toNat : Int) = _
  rw [e3]
  simp [IntKind.wrap, IntKind.bits, IntKind.signed]
  omega
/-- all of some flags; none of them. -/
def has (x : Int) (b : Nat) : Bool := (fl x &&& b) == b
def none' (x : Int) (b : Nat) : Bool := (fl x &&& b) == 0
theorem has_int (x : Int) (b : Nat) : (((fl x &&& b : Nat) : Int) == (b : Int)) = has x b := by
  unfold has
  rw [Bool.eq_iff_iff]; simp only [beq_iff_eq]; omega
theorem none_int (x : Int) (b : Nat) : (((fl x &&& b : Nat) : Int) == (0 : Int)) = none' x b := by
  unfold none'
  rw [Bool.eq_iff_iff]; simp only [beq_iff_eq]; omega
theorem has_two (x : Int) : has x 18 = (has x 2 && has x 16) := by
  have h := fl_lt x
  unfold has
  generalize fl x = n at h
  revert n; decide
theorem begins_bits (x : Int) (h0 : 0 ≤ x) (h1 : x ≤ 63) : (has x 2 && none' x 21) = (decide (x.tdiv 2 % 2 = 1) && !decide (x.tdiv 1 % 2 = 1) && !decide (x.tdiv 4 % 2 = 1) && !decide (x.tdiv 16 % 2 = 1)) := by
  obtain ⟨n, rfl⟩ : ∃ n : Nat, x = n := ⟨x.toNat, by omega⟩
  have h : n < 64 := by omega
  clear h0 h1
  revert n; decide
/-- how long a flow lasts. -/
def lifeZ (p s : Int) : Int := if p = 1 then 8 else if p = 17 then 20 else if s = 2 then 60 else if s = 1 then 4 else 6
theorem life_bd (p s : Int) : 0 ≤ lifeZ p s ∧ lifeZ p s ≤ 60 := by unfold lifeZ; split <;> (try split) <;> (try split) <;> (try split) <;> omega
/-- a flow. -/
structure Fl where
  pr : Int
  s : Int
  i : Int
  a : Int
  port : Int
  rem : Int
  rp : Int
  st : Int
  sd : Int
  du : Int
/-- its cells. -/
def fc (k : Fl) : Array Value := #[.int .i64 k.pr, .int .i64 k.s, .int .i64 k.i, .int .i64 k.a, .int .i64 k.port, .int .i64 k.rem, .int .i64 k.rp, .int .i64 k.st, .int .i64 k.sd, .int .i64 k.du]
def sideZ (b : Bool) : Int := if b then 1 else 0
/-- a flow of Tcp in its next state, and whether its time begins anew. -/
def stepT (k : Fl) (x : Int) (inw : Bool) : Fl × Bool :=
  if has x 4 then ({ k with st := 4 }, k.st != 4)
  else if k.st = 1 ∧ inw = true ∧ has x 18 = true then ({ k with st := 2 }, true)
  else if k.st = 2 ∧ has x 1 = true then ({ k with st := 3, sd := sideZ inw }, true)
  else if k.st = 3 ∧ has x 1 = true ∧ sideZ inw ≠ k.sd then ({ k with st := 4 }, true)
  else if k.st = 1 then (k, !inw && has x 2)
  else (k, k.st == 2)
def stepF (k : Fl) (x : Int) (inw : Bool) : Fl × Bool := if k.pr = 6 then stepT k x inw else if k.pr = 17 then (k, !inw) else (k, true)
/-- a flow behind a packet. -/
def nextF (k : Fl) (x : Int) (inw : Bool) (now : Int) : Fl := if (stepF k x inw).2 then { (stepF k x inw).1 with du := now + lifeZ (stepF k x inw).1.pr (stepF k x inw).1.st } else (stepF k x inw).1
end Go.Proofs.Ythflhaanndnejaf
