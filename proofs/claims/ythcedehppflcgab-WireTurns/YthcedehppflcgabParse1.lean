/-
  The walks of words and longs read off a text, and of what Parse asks of a head.
-/
import Derived.Test.YthcedehppflcgabParseM
namespace Go.Proofs.Ythcedehppflcgab
open Go.ChangeShapes Go.WideShapes Go.ChangeAt Go.RowKit
theorem below_drewN (n : Nat) (w : World) : Below w.heap.size w (w.drewN n) := by
  refine ⟨?_, ?_, ?_, ?_, ?_⟩ <;> first | rfl | simp
theorem wAtS_any (s : ByteArray) (k m : Nat) (w : World) (hs : s.size ≤ 140737488351232) (hm : k + 1 = m) (h0 : k < s.size) (h : m < s.size) :
    Calls Try.prog 49 #[.string s, .int .i64 k] w fun e w' => e = .returned (.int .i64 (wAt s.data.toList k)) ∧ ∃ q, w' = w.drewN q := by
  have J : Hid (bits .or .i64 ((s[k].toNat : Int) * 256) (s[m].toNat : Int) = wAt s.data.toList k) := by
    show _ = _
    obtain ⟨b1, b2⟩ := byt_bd s.data.toList k
    obtain ⟨b3, b4⟩ := byt_bd s.data.toList m
    rw [byt_get, byt_get, join8 _ _ b1 b2 b3 b4, wAt, hm]
  obtain ⟨c0, c0'⟩ := byte_bd s[k]; obtain ⟨c1, c1'⟩ := byte_bd s[m]
  have i1 : (k : Int) < (s.size : Int) := by omega
  have i2 : (m : Int) < (s.size : Int) := by omega
  have i4 : IntKind.i64.wrap ((k : Int) + 1) = (m : Int) := by rw [wrap_i64 _ (by omega) (by omega)]; omega
  clear hm
  go_enter Try.func49, Try.ntmps49
  go_wp2
  go_quiet (fail)
  go_wp2
  go_ret
  exact ⟨ret_int J.out, nq, rfl⟩
theorem wAtD_any (s : ByteArray) (k : Int) (w : World) (hs : s.size ≤ 140737488351232) (h0 : 0 ≤ k) (h : k + 1 < (s.size : Int)) :
    Calls Try.prog 49 #[.string s, .int .i64 k] w fun e w' => e = .returned (.int .i64 (wAt s.data.toList k.toNat)) ∧ ∃ q, w' = w.drewN q := by
  obtain ⟨n, rfl⟩ := Int.eq_ofNat_of_zero_le h0
  exact wAtS_any s n (n + 1) w hs rfl (by omega) (by omega)
theorem lAtD_any (s : ByteArray) (k : Int) (w : World) (hs : s.size ≤ 140737488351232) (h0 : 0 ≤ k) (h : k + 3 < (s.size : Int)) :
    Calls Try.prog 53 #[.string s, .int .i64 k] w fun e w' => e = .returned (.int .i64 (lAt s.data.toList k.toNat)) ∧ ∃ q, w' = w.drewN q := by
  obtain ⟨b1, b2⟩ := wAt_bd s.data.toList k.toNat
  obtain ⟨b3, b4⟩ := wAt_bd s.data.toList (k + 2).toNat
  have J : Hid (bits .or .i64 (wAt s.data.toList k.toNat * 65536) (wAt s.data.toList (k + 2).toNat) = lAt s.data.toList k.toNat) := by
    show _ = _
    rw [join16 _ _ b1 b2 b3 b4, lAt, show (k + 2).toNat = k.toNat + 2 by omega]
  have i3 : (s.size : Int) ≤ 140737488351232 := by omega
  go_enter Try.func53, Try.ntmps53
  go_wp2_with (go_at_call 49; refine (wAtD_any s _ _ hs (by omega) (by omega)).mono ?_; rintro e w' ⟨rfl, q, rfl⟩)
  go_ret
  exact ⟨ret_int J.out, _, rfl⟩
theorem wAtI_any (s : ByteArray) (k : Int) (w : World) (hs : s.size ≤ 140737488351232) (h0 : 0 ≤ k) (h : k + 1 < (s.size : Int)) :
    Calls Try.prog 49 #[.string s, .int .i64 k] w fun e w' => e = .returned (.int .i64 (wAt s.data.toList k.toNat)) ∧ Below w.heap.size w w' :=
  (wAtD_any s k w hs h0 h).mono fun _ _ ⟨he, q, hw⟩ => ⟨he, by rw [hw]; exact below_drewN q w⟩
theorem lAtI_any (s : ByteArray) (k : Int) (w : World) (hs : s.size ≤ 140737488351232) (h0 : 0 ≤ k) (h : k + 3 < (s.size : Int)) :
    Calls Try.prog 53 #[.string s, .int .i64 k] w fun e w' => e = .returned (.int .i64 (lAt s.data.toList k.toNat)) ∧ Below w.heap.size w w' :=
  (lAtD_any s k w hs h0 h).mono fun _ _ ⟨he, q, hw⟩ => ⟨he, by rw [hw]; exact below_drewN q w⟩
theorem wAtP_any (s : ByteArray) (k : Int) (w : World) (h20 : 20 ≤ s.size) (hs : s.size ≤ 65535) (h0 : 0 ≤ k) (h : k + 1 < (s.size : Int) - 20) :
    Calls Try.prog 49 #[.string (s.extract 20 s.size), .int .i64 k] w fun e w' => e = .returned (.int .i64 (wAt s.data.toList (20 + k.toNat))) ∧ Below w.heap.size w w' := by
  have z2 : (s.extract 20 s.size).size = s.size - 20 := ext_size s 20 s.size (Nat.le_refl _)
  have := wAtI_any (s.extract 20 s.size) k w (by omega) h0 (by omega)
  rw [ext_from, wAt_drop] at this
  exact this
theorem lAtP_any (s : ByteArray) (k : Int) (w : World) (h20 : 20 ≤ s.size) (hs : s.size ≤ 65535) (h0 : 0 ≤ k) (h : k + 3 < (s.size : Int) - 20) :
    Calls Try.prog 53 #[.string (s.extract 20 s.size), .int .i64 k] w fun e w' => e = .returned (.int .i64 (lAt s.data.toList (20 + k.toNat))) ∧ Below w.heap.size w w' := by
  have z2 : (s.extract 20 s.size).size = s.size - 20 := ext_size s 20 s.size (Nat.le_refl _)
  have := lAtI_any (s.extract 20 s.size) k w (by omega) h0 (by omega)
  rw [ext_from, lAt_drop] at this
  exact this

theorem wAtPD_any (s : ByteArray) (k : Int) (w : World) (h20 : 20 ≤ s.size) (hs : s.size ≤ 65535) (h0 : 0 ≤ k) (h : k + 1 < (s.size : Int) - 20) :
    Calls Try.prog 49 #[.string (s.extract 20 s.size), .int .i64 k] w fun e w' => e = .returned (.int .i64 (wAt s.data.toList (20 + k.toNat))) ∧ ∃ q, w' = w.drewN q := by
  have z2 : (s.extract 20 s.size).size = s.size - 20 := ext_size s 20 s.size (Nat.le_refl _)
  have := wAtD_any (s.extract 20 s.size) k w (by omega) h0 (by omega)
  rw [ext_from, wAt_drop] at this
  exact this
theorem lAtPD_any (s : ByteArray) (k : Int) (w : World) (h20 : 20 ≤ s.size) (hs : s.size ≤ 65535) (h0 : 0 ≤ k) (h : k + 3 < (s.size : Int) - 20) :
    Calls Try.prog 53 #[.string (s.extract 20 s.size), .int .i64 k] w fun e w' => e = .returned (.int .i64 (lAt s.data.toList (20 + k.toNat))) ∧ ∃ q, w' = w.drewN q := by
  have z2 : (s.extract 20 s.size).size = s.size - 20 := ext_size s 20 s.size (Nat.le_refl _)
  have := lAtD_any (s.extract 20 s.size) k w (by omega) h0 (by omega)
  rw [ext_from, lAt_drop] at this
  exact this
theorem headWrong_long (s : ByteArray) (w : World) (hs : s.size ≤ 140737488351232) (h20 : 20 ≤ s.size) :
    Calls Try.prog 20 #[.string s] w fun e w' => e = .returned (.int .i64 (headBad s.data.toList)) ∧ Below w.heap.size w w' := by
  have P := part_zero (byt s.data.toList 9)
  have g0 := byt_get s 0 (by omega); have g1 := byt_get s 1 (by omega); have g8 := byt_get s 8 (by omega); have g9 := byt_get s 9 (by omega)
  have hof : ∀ w : World, Calls Try.prog 50 #[.string (s.extract 0 20)] w fun e w' => e = .returned (.int .i64 (bk (tot (s.data.toList.take 20)))) ∧ w' = w := by
    intro w
    have := of_any (s.extract 0 20) w (by rw [ext_size s 0 20 (by omega)]; omega)
    rw [ext_list] at this
    exact this
  obtain ⟨b91, b92⟩ := byt_bd s.data.toList 9
  have hB := Below.refl w.heap.size w
  go_enter Try.func20, Try.ntmps20
  go_wp2_with (first | (go_at_call 49; refine (wAtI_any s _ _ hs (by omega) (by omega)).mono ?_; rintro e w' ⟨rfl, hb⟩; replace hB := hB.trans (hb.mono hB.size); simp only [Int.reduceToNat]) | (go_at_call 50; refine (hof _).mono ?_; rintro e w' ⟨rfl, rfl⟩) | (go_at_call 38; refine (partBytes_any _ _).mono ?_; rintro e w' ⟨rfl, rfl⟩))
  all_goals
    go_ret
    refine ⟨ret_int ?_, hB⟩
    unfold headBad
    rw [len_list]
    simp_all
    try (intro hx; exfalso; omega)
theorem headShort (s : ByteArray) (w : World) (h : s.size < 20) :
    Calls Try.prog 20 #[.string s] w fun e w' => e = .returned (.int .i64 1) ∧ w' = w := by
  go_enter Try.func20, Try.ntmps20
  go_wp2
  go_ret
  exact ⟨rfl, rfl⟩
theorem headWrong_any (s : ByteArray) (w : World) (hs : s.size ≤ 140737488351232) :
    Calls Try.prog 20 #[.string s] w fun e w' => e = .returned (.int .i64 (headBad s.data.toList)) ∧ Below w.heap.size w w' := by
  by_cases h1 : s.size < 20
  · have E : headBad s.data.toList = 1 := by unfold headBad; rw [len_list, if_pos h1]
    rw [E]
    exact (headShort s w h1).mono fun e w' ⟨he, hw⟩ => ⟨he, by rw [hw]; exact Below.refl _ _⟩
  · exact headWrong_long s w hs (by omega)
end Go.Proofs.Ythcedehppflcgab
