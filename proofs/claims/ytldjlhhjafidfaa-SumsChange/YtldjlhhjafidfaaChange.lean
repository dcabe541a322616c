/-
  What a change of one word does to a check: plain mathematics.
-/
import Derived.Test.YtldjlhhjafidfaaKeep
namespace Go.Proofs.Ytldjlhhjafidfaa
theorem upd_change (T m n : Int) (hT : 1 ≤ T) (m0 : 0 ≤ m) (m1 : m ≤ 65535) (n0 : 0 ≤ n) (n1 : n ≤ 65535) : upd (65535 - bk (T + m)) m n = 65535 - bk (T + n) := by
  have b1 := bk_bd (T + m); have b2 := bk_mod (T + m); have b3 := bk_zero (T + m)
  unfold upd
  rw [show (65535 - bk (T + m)) % 65536 = 65535 - bk (T + m) by omega, show m % 65536 = m by omega, show n % 65536 = n by omega, show 65535 - (65535 - bk (T + m)) + (65535 - m) = bk (T + m) + (65535 - m) by omega]
  generalize bk (T + m) = y at *
  have c1 := bk_bd (y + (65535 - m)); have c2 := bk_mod (y + (65535 - m)); have c3 := bk_zero (y + (65535 - m))
  generalize bk (y + (65535 - m)) = z at *
  rw [bk_eq (z + n) (T + n) (by omega) (by omega)]
/-- something that is there. -/
def there : ByteArray := { data := #[1, 0] }
theorem there_size (a : ByteArray) : (a ++ there).size = a.size + 2 := by rw [cat_size]; rfl
theorem there_pos (a : ByteArray) (h : a.size % 2 = 0) : 1 ≤ tot (a ++ there).data.toList := by
  rw [cat_tot a _ h]
  have := tot_nonneg a.data.toList
  have e : tot there.data.toList = 256 := by decide
  omega
theorem S_at (a b : ByteArray) (m : Int) (h : a.size % 2 = 0) (m0 : 0 ≤ m) (m1 : m ≤ 65535) : S (a ++ wordB m ++ b) = bk (tot a.data.toList + tot b.data.toList + m) := by
  unfold S
  rw [cat_tot _ b (by rw [cat_size, wordB_size]; omega), cat_tot a _ h, wordB_tot m m0 m1, show tot a.data.toList + m + tot b.data.toList = tot a.data.toList + tot b.data.toList + m by omega]
theorem change_says (a b : ByteArray) (m n : Int) (h : a.size % 2 = 0) (hT : 1 ≤ tot a.data.toList) (m0 : 0 ≤ m) (m1 : m ≤ 65535) (n0 : 0 ≤ n) (n1 : n ≤ 65535) :
    (upd (65535 - S (a ++ wordB m ++ b)) m n == 65535 - S (a ++ wordB n ++ b)) = true := by
  have := tot_nonneg b.data.toList
  rw [S_at a b m h m0 m1, S_at a b n h n0 n1, upd_change _ m n (by omega) m0 m1 n0 n1]
  simp
end Go.Proofs.Ytldjlhhjafidfaa
