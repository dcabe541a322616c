/-
  The plain mathematics of words and longs as bytes.
-/
import Derived.Test.YtnhafdkfjjplkaaDoorSum
import Derived.WalkKit
import Derived.Laws.BitsAllLaws
namespace Go.Proofs.YtnhafdkfjjplkaaDoor
/-- the lowest byte of a number. -/
def b8 (n : Int) : UInt8 := UInt8.ofNat (n % 256).toNat
theorem b8_nat (n : Int) : ((b8 n).toNat : Int) = n % 256 := by
  unfold b8
  rw [UInt8.toNat_ofNat']; omega
theorem wrap_u8 (n : Int) : IntKind.u8.wrap n = n % 256 := by
  simp [IntKind.wrap, IntKind.bits, IntKind.signed]
theorem wrap_i64 (n : Int) (h0 : -9223372036854775808 ≤ n) (h1 : n ≤ 9223372036854775807) : IntKind.i64.wrap n = n := by
  simp [IntKind.wrap, IntKind.bits, IntKind.signed]; omega
/-- a word, a long. -/
def w16 (n : Int) : List UInt8 := [b8 (n / 256), b8 n]
def l32 (n : Int) : List UInt8 := w16 (n / 65536) ++ w16 n
@[simp] theorem w16_len (n : Int) : (w16 n).length = 2 := rfl
@[simp] theorem l32_len (n : Int) : (l32 n).length = 4 := rfl
theorem w16_tot (n : Int) : tot (w16 n) = n % 65536 := by
  simp [w16, tot, b8_nat]; omega
theorem l32_tot (n : Int) : tot (l32 n) = n / 65536 % 65536 + n % 65536 := by
  unfold l32
  rw [tot_append _ _ (by simp [w16]), w16_tot, w16_tot]
theorem b8_of (c : UInt8) : b8 (c.toNat : Int) = c := by
  apply UInt8.toNat_inj.1
  have := b8_nat (c.toNat : Int); have := c.toNat_lt; omega
theorem b8_eq (m n : Int) (h : m % 256 = n % 256) : b8 m = b8 n := by unfold b8; rw [h]
theorem w16_eq (m n : Int) (h : m % 65536 = n % 65536) : w16 m = w16 n := by
  unfold w16; rw [b8_eq (m / 256) (n / 256) (by omega), b8_eq m n (by omega)]
theorem w16_of (a b : UInt8) : w16 ((a.toNat : Int) * 256 + (b.toNat : Int)) = [a, b] := by
  have ha := a.toNat_lt; have hb := b.toNat_lt
  have e1 : b8 (((a.toNat : Int) * 256 + (b.toNat : Int)) / 256) = a := by rw [b8_eq _ (a.toNat : Int) (by omega), b8_of]
  have e2 : b8 ((a.toNat : Int) * 256 + (b.toNat : Int)) = b := by rw [b8_eq _ (b.toNat : Int) (by omega), b8_of]
  unfold w16; rw [e1, e2]
theorem i64_or_nat (a b : Nat) (ha : a < 4611686018427387904) (hb : b < 4611686018427387904) : bits .or .i64 (a : Int) (b : Int) = ((a ||| b : Nat) : Int) := by
  have hx : a ||| b < 2 ^ 62 := Nat.or_lt_two_pow (by omega) (by omega)
  show IntKind.i64.wrap ((BitVec.ofInt 64 (a : Int) ||| BitVec.ofInt 64 (b : Int)).toNat : Int) = _
  rw [BitVec.toNat_or, ofInt_u64 a (by omega), ofInt_u64 b (by omega), wrap_i64 _ (by omega) (by omega)]
theorem i64_and_nat (a b : Nat) (ha : a < 4611686018427387904) (hb : b < 4611686018427387904) : bits .and .i64 (a : Int) (b : Int) = ((a &&& b : Nat) : Int) := by
  have hx : a &&& b < 2 ^ 62 := Nat.and_lt_two_pow _ (by omega)
  show IntKind.i64.wrap ((BitVec.ofInt 64 (a : Int) &&& BitVec.ofInt 64 (b : Int)).toNat : Int) = _
  rw [BitVec.toNat_and, ofInt_u64 a (by omega), ofInt_u64 b (by omega), wrap_i64 _ (by omega) (by omega)]
/-- two bytes joined, two words joined, the lowest word. -/
theorem join8 (x y : Int) (x0 : 0 ≤ x) (x1 : x ≤ 255) (y0 : 0 ≤ y) (y1 : y ≤ 255) : bits .or .i64 (x * 256) y = x * 256 + y := by
  obtain ⟨a, rfl⟩ := Int.eq_ofNat_of_zero_le x0
  obtain ⟨b, rfl⟩ := Int.eq_ofNat_of_zero_le y0
  rw [show (a : Int) * 256 = ((a * 256 : Nat) : Int) by omega, i64_or_nat _ _ (by omega) (by omega), nat_join 8 _ _ (by omega) (by omega)]; omega
theorem join16 (x y : Int) (x0 : 0 ≤ x) (x1 : x ≤ 65535) (y0 : 0 ≤ y) (y1 : y ≤ 65535) : bits .or .i64 (x * 65536) y = x * 65536 + y := by
  obtain ⟨a, rfl⟩ := Int.eq_ofNat_of_zero_le x0
  obtain ⟨b, rfl⟩ := Int.eq_ofNat_of_zero_le y0
  rw [show (a : Int) * 65536 = ((a * 65536 : Nat) : Int) by omega, i64_or_nat _ _ (by omega) (by omega), nat_join 16 _ _ (by omega) (by omega)]; omega
theorem low16 (x : Int) (x0 : 0 ≤ x) (x1 : x ≤ 4294967295) : bits .and .i64 x 65535 = x % 65536 := by
  obtain ⟨a, rfl⟩ := Int.eq_ofNat_of_zero_le x0
  rw [show (65535 : Int) = ((65535 : Nat) : Int) by omega, i64_and_nat _ _ (by omega) (by omega)]
  have := Nat.and_two_pow_sub_one_eq_mod a 16
  rw [show 2 ^ 16 - 1 = 65535 by decide] at this
  rw [this]; omega
/-- a byte of a list as a number. -/
def byt (l : List UInt8) (k : Nat) : Int := ((l.getD k 0).toNat : Int)
theorem byt_bd (l : List UInt8) (k : Nat) : 0 ≤ byt l k ∧ byt l k ≤ 255 := byte_bd _
/-- a word read, a word written. -/
def wAt (l : List UInt8) (k : Nat) : Int := byt l k * 256 + byt l (k + 1)
def setW (l : List UInt8) (k : Nat) (n : Int) : List UInt8 := (l.set k (b8 (n / 256))).set (k + 1) (b8 n)
@[simp] theorem setW_len (l : List UInt8) (k : Nat) (n : Int) : (setW l k n).length = l.length := by simp [setW]
theorem wAt_bd (l : List UInt8) (k : Nat) : 0 ≤ wAt l k ∧ wAt l k ≤ 65535 := by
  unfold wAt
  have := byt_bd l k; have := byt_bd l (k + 1); omega
/-- bytes as a text. -/
def txt (l : List UInt8) : ByteArray := ⟨l.toArray⟩
theorem txt_list (l : List UInt8) : (txt l).data.toList = l := by simp [txt]
theorem txt_size (l : List UInt8) : (txt l).size = l.length := by simp [txt, ByteArray.size]
theorem txt_of (s : ByteArray) : txt s.data.toList = s := by cases s; simp [txt]
end Go.Proofs.YtnhafdkfjjplkaaDoor
