/-
  The walks of the helpers of the statements that need no answer of the document's: a number brought into a word's range, and a word as two bytes.
-/
import Derived.Test.YtldjlhhjafidfaaMore
import Derived.Laws.IdiomStrings
import Derived.Below
namespace Go.Proofs.Ytldjlhhjafidfaa
open Go.ChangeShapes Go.WideShapes Go.ChangeAt Go.RowKit

theorem pick_neg (k : Int) (h : k.tmod 65536 < 0) : k.tmod 65536 + 65536 = k % 65536 := by
  have := Int.tmod_eq_emod (a := k) (b := 65536)
  split at this <;> simp at this <;> omega
theorem pick_pos (k : Int) (h : ¬ k.tmod 65536 < 0) : k.tmod 65536 = k % 65536 := by
  have := Int.tmod_eq_emod (a := k) (b := 65536)
  split at this <;> simp at this <;> omega
theorem tmod_bd (k : Int) : -65536 < k.tmod 65536 ∧ k.tmod 65536 < 65536 := by
  have := Int.tmod_eq_emod (a := k) (b := 65536)
  split at this <;> simp at this <;> omega
theorem pick_any (k : Int) (w : World) :
    Calls Try.prog 19 #[.int .i64 k, .int .i64 65536] w fun e w' => e = .returned (.int .i64 (k % 65536)) ∧ w' = w := by
  have hb := tmod_bd k
  by_cases h : k.tmod 65536 < 0
  · have E : Hid (k.tmod 65536 + 65536 = k % 65536) := pick_neg k h
    go_enter Try.func19, Try.ntmps19
    go_wp2
    go_ret
    exact ⟨ret_int E.out, rfl⟩
  · have E : Hid (k.tmod 65536 = k % 65536) := pick_pos k h
    go_enter Try.func19, Try.ntmps19
    go_wp2
    go_ret
    exact ⟨ret_int E.out, rfl⟩

/-- a word as two bytes. -/
def wordB (n : Int) : ByteArray := ⟨#[UInt8.ofNat (n / 256).toNat, UInt8.ofNat (n % 256).toNat]⟩
theorem wordB_size (n : Int) : (wordB n).size = 2 := rfl
theorem wordB_tot (n : Int) (h0 : 0 ≤ n) (h1 : n ≤ 65535) : tot (wordB n).data.toList = n := by
  simp [wordB, tot]; omega
theorem word_back (n : Int) (w : World) (h0 : 0 ≤ n) (h1 : n ≤ 65535) :
    (convert 35 9 (.slice (some ⟨w.heap.size, 0, none⟩) 2 2)).run Try.prog (w.alloc (.cells #[.int .u8 (n / 256), .int .u8 (n % 256)] 5)) = .ok (.string (wordB n)) (w.alloc (.cells #[.int .u8 (n / 256), .int .u8 (n % 256)] 5)) := by
  refine run_convert_bytes_back (P := Try.prog) (w.alloc (.cells #[.int .u8 (n / 256), .int .u8 (n % 256)] 5)) 35 9 5 ⟨w.heap.size, 0, none⟩ 2 [UInt8.ofNat (n / 256).toNat, UInt8.ofNat (n % 256).toNat] Try.underlying35 Try.underlying5 Try.underlying9 ?_
  intro j hj
  have e := World.cell?_alloc_mark w #[.int .u8 (n / 256), .int .u8 (n % 256)] 5 (0, 0) j
  have hj' : j = 0 ∨ j = 1 := by simp at hj; omega
  rcases hj' with rfl | rfl
  · refine Eq.trans e ?_
    simp; omega
  · refine Eq.trans e ?_
    simp; omega
theorem word_any (n : Int) (w : World) (h0 : 0 ≤ n) (h1 : n ≤ 65535) :
    Calls Try.prog 17 #[.int .i64 n] w fun e w' => e = .returned (.string (wordB n)) ∧ Below w.heap.size w w' := by
  have hw := word_back n w h0 h1
  go_enter Try.func17, Try.ntmps17
  go_wp2
  go_ret
  exact ⟨rfl, (Below.refl _ _).alloc (Nat.le_refl _) _⟩

/-! two texts, one behind the other -/
theorem cat_list (a b : ByteArray) : (a ++ b).data.toList = a.data.toList ++ b.data.toList := by simp
theorem cat_size (a b : ByteArray) : (a ++ b).size = a.size + b.size := by simp
theorem list_len (a : ByteArray) : a.data.toList.length = a.size := by simp
theorem cat_tot (a b : ByteArray) (h : a.size % 2 = 0) : tot (a ++ b).data.toList = tot a.data.toList + tot b.data.toList := by
  rw [cat_list, tot_append _ _ (by rw [list_len]; exact h)]
/-- the sum of a text. -/
def S (s : ByteArray) : Int := bk (tot s.data.toList)
theorem S_bd (s : ByteArray) : 0 ≤ S s ∧ S s ≤ 65535 := bk_bd _
theorem ofS_any (s : ByteArray) (w : World) (hs : s.size ≤ 562949953421312) :
    Calls Try.prog 8 #[.string s] w fun e w' => e = .returned (.int .i64 (S s)) ∧ w' = w := of_any s w hs
theorem checkS_any (s : ByteArray) (w : World) (hs : s.size ≤ 562949953421312) :
    Calls Try.prog 10 #[.string s] w fun e w' => e = .returned (.int .i64 (65535 - S s)) ∧ w' = w := check_any s w hs
/-- an odd text with a nought behind it. -/
def nought : ByteArray := { data := #[0] }
theorem nought_size (a : ByteArray) : (a ++ nought).size = a.size + 1 := by rw [cat_size]; rfl
/-! what the three statements ask, of texts of whole words -/
theorem whole_sum (a b : ByteArray) (h : a.size % 2 = 0) : (S (a ++ b) == bk (S a % 65536 + S b % 65536)) = true := by
  have ha := S_bd a; have hb := S_bd b
  rw [show S a % 65536 = S a by omega, show S b % 65536 = S b by omega]; unfold S
  rw [cat_tot a b h, bk_add2 _ _ (tot_nonneg _) (tot_nonneg _)]
  simp
theorem whole_full (a : ByteArray) (h : a.size % 2 = 0) : (S (a ++ wordB (65535 - S a)) == 65535) = true := by
  have ha := S_bd a
  unfold S at *
  rw [cat_tot a _ h, wordB_tot _ (by omega) (by omega), bk_full _ (tot_nonneg _)]
  simp
theorem swap_sum (a b c : ByteArray) (ha : a.size % 2 = 0) (hb : b.size % 2 = 0) : (S (a ++ b ++ c) == S (b ++ a ++ c)) = true := by
  unfold S
  rw [cat_tot _ c (by rw [cat_size]; omega), cat_tot _ c (by rw [cat_size]; omega), cat_tot a b ha, cat_tot b a hb, Int.add_comm (tot a.data.toList)]
  simp
end Go.Proofs.Ytldjlhhjafidfaa
