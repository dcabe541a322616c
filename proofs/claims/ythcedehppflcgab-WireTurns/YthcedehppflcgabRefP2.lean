/-
  The walk of the document's own Parse: heads that are wrong, behind their length.
-/
import Derived.Test.YthcedehppflcgabRefP1
namespace Go.Proofs.Ythcedehppflcgab
open Go.ChangeShapes Go.WideShapes Go.ChangeAt Go.RowKit
set_option linter.unusedSimpArgs false
set_option linter.unusedVariables false

set_option maxRecDepth 10000 in
set_option maxHeartbeats 4000000 in
theorem pref_head (s : ByteArray) (w : World) (hs : s.size ≤ 140737488351232) (h20 : 20 ≤ s.size) (hbad : ¬ (byt s.data.toList 0 = 69 ∧ wAt s.data.toList 2 = s.data.toList.length ∧ bk (tot (s.data.toList.take 20)) = 65535 ∧ byt s.data.toList 1 = 0 ∧ byt s.data.toList 6 = 0 ∧ byt s.data.toList 7 = 0 ∧ byt s.data.toList 8 ≠ 0)) :
    Calls Try.prog 10 #[.string s] w fun e w' => e = .returned (.tuple #[pv (parsed s.data.toList), .int .i64 (bad s.data.toList)]) ∧ Below w.heap.size w w' := by
  have hll := len_list s

  have T0 : Twelve ((w.alloc (.cells #[.int .i64 0, .int .i64 0, .int .i64 0, .int .i64 0, .int .i64 0, .int .i64 0, .int .i64 0, .int .i64 0, .int .i64 0, .int .i64 0, .int .i64 0, .string ⟨#[]⟩] 23)).alloc (.cells #[.int .i64 0, .int .i64 0, .int .i64 0, .int .i64 0, .int .i64 0, .int .i64 0, .int .i64 0, .int .i64 0, .int .i64 0, .int .i64 0, .int .i64 0, .string ⟨#[]⟩] 23)) w.heap.size #[.int .i64 0, .int .i64 0, .int .i64 0, .int .i64 0, .int .i64 0, .int .i64 0, .int .i64 0, .int .i64 0, .int .i64 0, .int .i64 0, .int .i64 0, .string ⟨#[]⟩] := (Below.heap_alloc _ _ _ (by simp)).trans (heap_alloc_new w _)
  have T4 : Twelve ((w.alloc (.cells #[.int .i64 0, .int .i64 0, .int .i64 0, .int .i64 0, .int .i64 0, .int .i64 0, .int .i64 0, .int .i64 0, .int .i64 0, .int .i64 0, .int .i64 0, .string ⟨#[]⟩] 23)).alloc (.cells #[.int .i64 0, .int .i64 0, .int .i64 0, .int .i64 0, .int .i64 0, .int .i64 0, .int .i64 0, .int .i64 0, .int .i64 0, .int .i64 0, .int .i64 0, .string ⟨#[]⟩] 23)) (w.heap.size + 1) #[.int .i64 0, .int .i64 0, .int .i64 0, .int .i64 0, .int .i64 0, .int .i64 0, .int .i64 0, .int .i64 0, .int .i64 0, .int .i64 0, .int .i64 0, .string ⟨#[]⟩] := by
    have := heap_alloc_new (w.alloc (.cells #[.int .i64 0, .int .i64 0, .int .i64 0, .int .i64 0, .int .i64 0, .int .i64 0, .int .i64 0, .int .i64 0, .int .i64 0, .int .i64 0, .int .i64 0, .string ⟨#[]⟩] 23)) (.cells #[.int .i64 0, .int .i64 0, .int .i64 0, .int .i64 0, .int .i64 0, .int .i64 0, .int .i64 0, .int .i64 0, .int .i64 0, .int .i64 0, .int .i64 0, .string ⟨#[]⟩] 23)
    simpa [Twelve] using this
  have hB : Below w.heap.size w ((w.alloc (.cells #[.int .i64 0, .int .i64 0, .int .i64 0, .int .i64 0, .int .i64 0, .int .i64 0, .int .i64 0, .int .i64 0, .int .i64 0, .int .i64 0, .int .i64 0, .string ⟨#[]⟩] 23)).alloc (.cells #[.int .i64 0, .int .i64 0, .int .i64 0, .int .i64 0, .int .i64 0, .int .i64 0, .int .i64 0, .int .i64 0, .int .i64 0, .int .i64 0, .int .i64 0, .string ⟨#[]⟩] 23)) := ((Below.refl _ _).alloc (Nat.le_refl _) _).alloc (by simp) _
  have c0 := T0.cell; have c4 := T4.cell; have f0 := T0.free

  have N2 := fun w => num2_any s 2 4 w rfl (by omega)
  have SH := fun w => sum20_any s w h20
  have g0 : ∀ h, ((s[0]'h).toNat : Int) = byt s.data.toList 0 := fun h => byt_get s 0 h
  have g1 : ∀ h, ((s[1]'h).toNat : Int) = byt s.data.toList 1 := fun h => byt_get s 1 h
  have g6 : ∀ h, ((s[6]'h).toNat : Int) = byt s.data.toList 6 := fun h => byt_get s 6 h
  have g7 : ∀ h, ((s[7]'h).toNat : Int) = byt s.data.toList 7 := fun h => byt_get s 7 h
  have g8 : ∀ h, ((s[8]'h).toNat : Int) = byt s.data.toList 8 := fun h => byt_get s 8 h
  have B2 := fun a b => hb_2 s.data.toList a b
  have B3 := fun a b c => hb_3 s.data.toList a b c
  have B4 := fun a b c d => hb_4 s.data.toList a b c d
  have B5 := fun a b c d e => hb_5 s.data.toList a b c d e
  have B6 := fun a b c d e f g h => hb_6 s.data.toList a b c d e f g h
  have BO : 20 ≤ s.data.toList.length → byt s.data.toList 0 = 69 → wAt s.data.toList 2 = s.data.toList.length → bk (tot (s.data.toList.take 20)) = 65535 → byt s.data.toList 1 = 0 → byt s.data.toList 6 = 0 → byt s.data.toList 7 = 0 → byt s.data.toList 8 ≠ 0 → False := fun _ b c d e f g h => hbad ⟨b, c, d, e, f, g, h⟩
  clear hbad
  have PB := fun e h he => parsed_bad s.data.toList e h he
  have z20 : (20 : Int) ≤ (s.size : Int) := by omega
  have zz : ∀ k : Int, k < 20 → k < (s.size : Int) := fun k h => by omega
  have z0 := zz 0 (by omega); have z1 := zz 1 (by omega); have z4 : (4 : Int) ≤ (s.size : Int) := by omega
  have z6 := zz 6 (by omega); have z7 := zz 7 (by omega); have z8 := zz 8 (by omega)
  clear zz
  generalize bk (tot (s.data.toList.take 20)) = sh at *
  generalize byt s.data.toList 0 = x0 at *
  generalize byt s.data.toList 1 = x1 at *
  generalize byt s.data.toList 6 = x6 at *
  generalize byt s.data.toList 7 = x7 at *
  generalize byt s.data.toList 8 = x8 at *
  generalize hx2 : wAt s.data.toList 2 = x2 at *
  clear hx2
  rw [hll] at B2 B3 B4 B5 B6 BO
  by_cases e0 : x0 = 69
  rotate_left
  · have d0 : (x0 != 69) = true := by simpa using e0
    rw [PB 1 (B2 h20 (by exact e0)) (by omega), show bad s.data.toList = 1 from B2 h20 (by exact e0)]
    clear BO B2 B3 B4 B5 B6 PB
    go_enter Try.func10, Try.ntmps10
    go_wp2_with (first
    | (go_at_call 24; go_fit (N2 _); rintro e w' ⟨rfl, hb⟩; (try replace hb := below_undr' hb); replace T0 := T0.below hb; replace T4 := T4.below hb; have c0 := T0.cell; have c4 := T4.cell; have f0 := T0.free; replace hB := hB.trans (hb.mono hB.size))
    | (go_at_call 25; go_fit (SH _); rintro e w' ⟨rfl, hb⟩; (try replace hb := below_undr' hb); replace T0 := T0.below hb; replace T4 := T4.below hb; have c0 := T0.cell; have c4 := T4.cell; have f0 := T0.free; replace hB := hB.trans (hb.mono hB.size)))
    refine bodyPost_ret (v := .tuple #[pv p0, .int .i64 1]) (by simp [results, Try.results10, go_sem, pv, p0]; rfl) rfl ⟨rfl, ?_⟩
    exact hB
  have d0 : (x0 != 69) = false := by simpa using e0
  have h0 : Hid (x0 = 69) := e0
  clear e0
  by_cases e1 : x2 = (s.size : Int)
  rotate_left
  · have d1 : (x2 != (s.size : Int)) = true := by simpa using e1
    rw [PB 1 (B3 h20 h0.out (by exact e1)) (by omega), show bad s.data.toList = 1 from B3 h20 h0.out (by exact e1)]
    clear BO B2 B3 B4 B5 B6 PB
    go_enter Try.func10, Try.ntmps10
    go_wp2_with (first
    | (go_at_call 24; go_fit (N2 _); rintro e w' ⟨rfl, hb⟩; (try replace hb := below_undr' hb); replace T0 := T0.below hb; replace T4 := T4.below hb; have c0 := T0.cell; have c4 := T4.cell; have f0 := T0.free; replace hB := hB.trans (hb.mono hB.size))
    | (go_at_call 25; go_fit (SH _); rintro e w' ⟨rfl, hb⟩; (try replace hb := below_undr' hb); replace T0 := T0.below hb; replace T4 := T4.below hb; have c0 := T0.cell; have c4 := T4.cell; have f0 := T0.free; replace hB := hB.trans (hb.mono hB.size)))
    refine bodyPost_ret (v := .tuple #[pv p0, .int .i64 1]) (by simp [results, Try.results10, go_sem, pv, p0, c0]; rfl) rfl ⟨rfl, ?_⟩
    iterate 12 (refine Below.setCell ?_ (by exact Nat.le_refl _) _)
    exact hB
  have d1 : (x2 != (s.size : Int)) = false := by simpa using e1
  have h1 : Hid (x2 = (s.size : Int)) := e1
  clear e1
  by_cases e2 : sh = 65535
  rotate_left
  · have d2 : (sh != 65535) = true := by simpa using e2
    rw [PB 3 (B4 h20 h0.out h1.out (by exact e2)) (by omega), show bad s.data.toList = 3 from B4 h20 h0.out h1.out (by exact e2)]
    clear BO B2 B3 B4 B5 B6 PB
    go_enter Try.func10, Try.ntmps10
    go_wp2_with (first
    | (go_at_call 24; go_fit (N2 _); rintro e w' ⟨rfl, hb⟩; (try replace hb := below_undr' hb); replace T0 := T0.below hb; replace T4 := T4.below hb; have c0 := T0.cell; have c4 := T4.cell; have f0 := T0.free; replace hB := hB.trans (hb.mono hB.size))
    | (go_at_call 25; go_fit (SH _); rintro e w' ⟨rfl, hb⟩; (try replace hb := below_undr' hb); replace T0 := T0.below hb; replace T4 := T4.below hb; have c0 := T0.cell; have c4 := T4.cell; have f0 := T0.free; replace hB := hB.trans (hb.mono hB.size)))
    refine bodyPost_ret (v := .tuple #[pv p0, .int .i64 3]) (by simp [results, Try.results10, go_sem, pv, p0, c0]; rfl) rfl ⟨rfl, ?_⟩
    iterate 12 (refine Below.setCell ?_ (by exact Nat.le_refl _) _)
    exact hB
  have d2 : (sh != 65535) = false := by simpa using e2
  have h2 : Hid (sh = 65535) := e2
  clear e2
  by_cases e3 : x1 = 0
  rotate_left
  · have d3 : (x1 != 0) = true := by simpa using e3
    rw [PB 4 (B5 h20 h0.out h1.out h2.out (.inl (by exact e3))) (by omega), show bad s.data.toList = 4 from B5 h20 h0.out h1.out h2.out (.inl (by exact e3))]
    clear BO B2 B3 B4 B5 B6 PB
    go_enter Try.func10, Try.ntmps10
    go_wp2_with (first
    | (go_at_call 24; go_fit (N2 _); rintro e w' ⟨rfl, hb⟩; (try replace hb := below_undr' hb); replace T0 := T0.below hb; replace T4 := T4.below hb; have c0 := T0.cell; have c4 := T4.cell; have f0 := T0.free; replace hB := hB.trans (hb.mono hB.size))
    | (go_at_call 25; go_fit (SH _); rintro e w' ⟨rfl, hb⟩; (try replace hb := below_undr' hb); replace T0 := T0.below hb; replace T4 := T4.below hb; have c0 := T0.cell; have c4 := T4.cell; have f0 := T0.free; replace hB := hB.trans (hb.mono hB.size)))
    refine bodyPost_ret (v := .tuple #[pv p0, .int .i64 4]) (by simp [results, Try.results10, go_sem, pv, p0, c0]; rfl) rfl ⟨rfl, ?_⟩
    iterate 12 (refine Below.setCell ?_ (by exact Nat.le_refl _) _)
    exact hB
  have d3 : (x1 != 0) = false := by simpa using e3
  have h3 : Hid (x1 = 0) := e3
  clear e3
  by_cases e4 : x6 = 0
  rotate_left
  · have d4 : (x6 != 0) = true := by simpa using e4
    rw [PB 4 (B5 h20 h0.out h1.out h2.out (.inr (.inl (by exact e4)))) (by omega), show bad s.data.toList = 4 from B5 h20 h0.out h1.out h2.out (.inr (.inl (by exact e4)))]
    clear BO B2 B3 B4 B5 B6 PB
    go_enter Try.func10, Try.ntmps10
    go_wp2_with (first
    | (go_at_call 24; go_fit (N2 _); rintro e w' ⟨rfl, hb⟩; (try replace hb := below_undr' hb); replace T0 := T0.below hb; replace T4 := T4.below hb; have c0 := T0.cell; have c4 := T4.cell; have f0 := T0.free; replace hB := hB.trans (hb.mono hB.size))
    | (go_at_call 25; go_fit (SH _); rintro e w' ⟨rfl, hb⟩; (try replace hb := below_undr' hb); replace T0 := T0.below hb; replace T4 := T4.below hb; have c0 := T0.cell; have c4 := T4.cell; have f0 := T0.free; replace hB := hB.trans (hb.mono hB.size)))
    refine bodyPost_ret (v := .tuple #[pv p0, .int .i64 4]) (by simp [results, Try.results10, go_sem, pv, p0, c0]; rfl) rfl ⟨rfl, ?_⟩
    iterate 12 (refine Below.setCell ?_ (by exact Nat.le_refl _) _)
    exact hB
  have d4 : (x6 != 0) = false := by simpa using e4
  have h4 : Hid (x6 = 0) := e4
  clear e4
  by_cases e5 : x7 = 0
  rotate_left
  · have d5 : (x7 != 0) = true := by simpa using e5
    rw [PB 4 (B5 h20 h0.out h1.out h2.out (.inr (.inr (by exact e5)))) (by omega), show bad s.data.toList = 4 from B5 h20 h0.out h1.out h2.out (.inr (.inr (by exact e5)))]
    clear BO B2 B3 B4 B5 B6 PB
    go_enter Try.func10, Try.ntmps10
    go_wp2_with (first
    | (go_at_call 24; go_fit (N2 _); rintro e w' ⟨rfl, hb⟩; (try replace hb := below_undr' hb); replace T0 := T0.below hb; replace T4 := T4.below hb; have c0 := T0.cell; have c4 := T4.cell; have f0 := T0.free; replace hB := hB.trans (hb.mono hB.size))
    | (go_at_call 25; go_fit (SH _); rintro e w' ⟨rfl, hb⟩; (try replace hb := below_undr' hb); replace T0 := T0.below hb; replace T4 := T4.below hb; have c0 := T0.cell; have c4 := T4.cell; have f0 := T0.free; replace hB := hB.trans (hb.mono hB.size)))
    refine bodyPost_ret (v := .tuple #[pv p0, .int .i64 4]) (by simp [results, Try.results10, go_sem, pv, p0, c0]; rfl) rfl ⟨rfl, ?_⟩
    iterate 12 (refine Below.setCell ?_ (by exact Nat.le_refl _) _)
    exact hB
  have d5 : (x7 != 0) = false := by simpa using e5
  have h5 : Hid (x7 = 0) := e5
  clear e5
  by_cases e6 : x8 = 0
  · have d6 : (x8 == 0) = true := by simpa using e6
    have h6 : Hid (x8 = 0) := e6
    clear e6
    rw [PB 12 (B6 h20 h0.out h1.out h2.out h3.out h4.out h5.out h6.out) (by omega), show bad s.data.toList = 12 from B6 h20 h0.out h1.out h2.out h3.out h4.out h5.out h6.out]
    clear BO B2 B3 B4 B5 B6 PB
    go_enter Try.func10, Try.ntmps10
    go_wp2_with (first
    | (go_at_call 24; go_fit (N2 _); rintro e w' ⟨rfl, hb⟩; (try replace hb := below_undr' hb); replace T0 := T0.below hb; replace T4 := T4.below hb; have c0 := T0.cell; have c4 := T4.cell; have f0 := T0.free; replace hB := hB.trans (hb.mono hB.size))
    | (go_at_call 25; go_fit (SH _); rintro e w' ⟨rfl, hb⟩; (try replace hb := below_undr' hb); replace T0 := T0.below hb; replace T4 := T4.below hb; have c0 := T0.cell; have c4 := T4.cell; have f0 := T0.free; replace hB := hB.trans (hb.mono hB.size)))
    refine bodyPost_ret (v := .tuple #[pv p0, .int .i64 12]) (by simp [results, Try.results10, go_sem, pv, p0, c0]; rfl) rfl ⟨rfl, ?_⟩
    iterate 12 (refine Below.setCell ?_ (by exact Nat.le_refl _) _)
    exact hB
  exact (BO h20 h0.out h1.out h2.out h3.out h4.out h5.out e6).elim
end Go.Proofs.Ythcedehppflcgab