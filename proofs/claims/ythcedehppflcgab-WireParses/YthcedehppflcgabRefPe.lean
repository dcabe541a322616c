/-
  The walk of the document's own Parse behind a right head: one kind of packet.
-/
import Derived.Test.YthcedehppflcgabYieldW
namespace Go.Proofs.Ythcedehppflcgab
open Go.ChangeShapes Go.WideShapes Go.ChangeAt Go.RowKit
set_option linter.unusedSimpArgs false
set_option linter.unusedVariables false
set_option maxRecDepth 10000 in
set_option maxHeartbeats 40000000 in
theorem pref_none (s : ByteArray) (w : World) (hs : s.size ≤ 65535) (h20 : 20 ≤ s.size) (H : HeadO s.data.toList) (hk9 : Hid (byt s.data.toList 9 ≠ 1 ∧ byt s.data.toList 9 ≠ 6 ∧ byt s.data.toList 9 ≠ 17)) :
    Calls Try.prog 10 #[.string s] w fun e w' => e = .returned (.tuple #[pv (parsed s.data.toList), .int .i64 (bad s.data.toList)]) ∧ Below w.heap.size w w' := by
  have hll := len_list s
  have T0 : Twelve ((w.alloc (.cells #[.int .i64 0, .int .i64 0, .int .i64 0, .int .i64 0, .int .i64 0, .int .i64 0, .int .i64 0, .int .i64 0, .int .i64 0, .int .i64 0, .int .i64 0, .string ⟨#[]⟩] 23)).alloc (.cells #[.int .i64 0, .int .i64 0, .int .i64 0, .int .i64 0, .int .i64 0, .int .i64 0, .int .i64 0, .int .i64 0, .int .i64 0, .int .i64 0, .int .i64 0, .string ⟨#[]⟩] 23)) w.heap.size #[.int .i64 0, .int .i64 0, .int .i64 0, .int .i64 0, .int .i64 0, .int .i64 0, .int .i64 0, .int .i64 0, .int .i64 0, .int .i64 0, .int .i64 0, .string ⟨#[]⟩] := (Below.heap_alloc _ _ _ (by simp)).trans (heap_alloc_new w _)
  have T4 : Twelve ((w.alloc (.cells #[.int .i64 0, .int .i64 0, .int .i64 0, .int .i64 0, .int .i64 0, .int .i64 0, .int .i64 0, .int .i64 0, .int .i64 0, .int .i64 0, .int .i64 0, .string ⟨#[]⟩] 23)).alloc (.cells #[.int .i64 0, .int .i64 0, .int .i64 0, .int .i64 0, .int .i64 0, .int .i64 0, .int .i64 0, .int .i64 0, .int .i64 0, .int .i64 0, .int .i64 0, .string ⟨#[]⟩] 23)) (w.heap.size + 1) #[.int .i64 0, .int .i64 0, .int .i64 0, .int .i64 0, .int .i64 0, .int .i64 0, .int .i64 0, .int .i64 0, .int .i64 0, .int .i64 0, .int .i64 0, .string ⟨#[]⟩] := by
    have := heap_alloc_new (w.alloc (.cells #[.int .i64 0, .int .i64 0, .int .i64 0, .int .i64 0, .int .i64 0, .int .i64 0, .int .i64 0, .int .i64 0, .int .i64 0, .int .i64 0, .int .i64 0, .string ⟨#[]⟩] 23)) (.cells #[.int .i64 0, .int .i64 0, .int .i64 0, .int .i64 0, .int .i64 0, .int .i64 0, .int .i64 0, .int .i64 0, .int .i64 0, .int .i64 0, .int .i64 0, .string ⟨#[]⟩] 23)
    simpa [Twelve] using this
  have hB : Below w.heap.size w ((w.alloc (.cells #[.int .i64 0, .int .i64 0, .int .i64 0, .int .i64 0, .int .i64 0, .int .i64 0, .int .i64 0, .int .i64 0, .int .i64 0, .int .i64 0, .int .i64 0, .string ⟨#[]⟩] 23)).alloc (.cells #[.int .i64 0, .int .i64 0, .int .i64 0, .int .i64 0, .int .i64 0, .int .i64 0, .int .i64 0, .int .i64 0, .int .i64 0, .int .i64 0, .int .i64 0, .string ⟨#[]⟩] 23)) := ((Below.refl _ _).alloc (Nat.le_refl _) _).alloc (by simp) _
  replace c0 := T0.cell; replace c4 := T4.cell; replace f0 := T0.free

  have N2 := fun w => num2_any s 2 4 w rfl (by omega)
  have N4 := fun w => num2_any s 4 6 w rfl (by omega)
  have N12 := fun w => num4_any s 12 16 w rfl (by omega)
  have N16 := fun w => num4_any s 16 20 w rfl (by omega)
  have SH := fun w => sum20_any s w h20
  have g0 : ∀ h, ((s[0]'h).toNat : Int) = byt s.data.toList 0 := fun h => byt_get s 0 h
  have g1 : ∀ h, ((s[1]'h).toNat : Int) = byt s.data.toList 1 := fun h => byt_get s 1 h
  have g6 : ∀ h, ((s[6]'h).toNat : Int) = byt s.data.toList 6 := fun h => byt_get s 6 h
  have g7 : ∀ h, ((s[7]'h).toNat : Int) = byt s.data.toList 7 := fun h => byt_get s 7 h
  have g8 : ∀ h, ((s[8]'h).toNat : Int) = byt s.data.toList 8 := fun h => byt_get s 8 h
  have g9 : ∀ h, ((s[9]'h).toNat : Int) = byt s.data.toList 9 := fun h => byt_get s 9 h
  have e6 : byt s.data.toList 6 = 0 ∧ byt s.data.toList 7 = 0 := by
    have := H.piece; rw [show wAt s.data.toList 6 = byt s.data.toList 6 * 256 + byt s.data.toList 7 from rfl] at this
    have := byt_bd s.data.toList 6; have := byt_bd s.data.toList 7; omega
  have d0 : (byt s.data.toList 0 != 69) = false := by simpa using H.mark
  have d1 : (wAt s.data.toList 2 != (s.size : Int)) = false := by have := H.size; rw [hll] at this; simpa using this
  have d2 : (bk (tot (s.data.toList.take 20)) != 65535) = false := by simpa using H.sum
  have d3 : (byt s.data.toList 1 != 0) = false := by simpa using H.serv
  have d4 : (byt s.data.toList 6 != 0) = false := by simpa using e6.1
  have d5 : (byt s.data.toList 7 != 0) = false := by simpa using e6.2
  have d6 : (byt s.data.toList 8 == 0) = false := by simpa using H.ttl
  have iw8 : IntKind.i64.wrap (byt s.data.toList 8) = byt s.data.toList 8 := wrap_i64 _ (by have := byt_bd s.data.toList 8; omega) (by have := byt_bd s.data.toList 8; omega)
  have iw9 : IntKind.i64.wrap (byt s.data.toList 9) = byt s.data.toList 9 := wrap_i64 _ (by have := byt_bd s.data.toList 9; omega) (by have := byt_bd s.data.toList 9; omega)
  have z20 : (20 : Int) ≤ (s.size : Int) := by omega
  have zz : ∀ k : Int, k < 20 → k < (s.size : Int) := fun k h => by omega
  have zy : ∀ k : Int, k < 20 → k ≤ (s.size : Int) := fun k h => by omega
  have z0 := zz 0 (by omega); have z1 := zz 1 (by omega); have z4 := zy 4 (by omega)
  have z6 := zz 6 (by omega); have z7 := zz 7 (by omega); have z8 := zz 8 (by omega); have z9 := zz 9 (by omega)
  have y6 := zy 6 (by omega); have y16 := zy 16 (by omega); have y12 := zy 12 (by omega)
  clear zz zy
  have Hnone : Hid (kindB (byt s.data.toList 9) = false → bad s.data.toList = 4) := fun h => hb_7 s.data.toList (by omega) H.mark H.size H.sum H.serv e6.1 e6.2 H.ttl h
  clear e6
  have Hbad : Hid (bad s.data.toList = bad s.data.toList) := rfl
  generalize hsh : bk (tot (s.data.toList.take 20)) = sh at *
  generalize byt s.data.toList 0 = x0 at *
  generalize byt s.data.toList 1 = x1 at *
  generalize byt s.data.toList 6 = x6 at *
  generalize byt s.data.toList 7 = x7 at *
  go_enter Try.func10, Try.ntmps10
  go_upto_region 8 with (first
    | (go_at_call 24; go_fit (N2 _); rintro e w' ⟨rfl, hb⟩; (try replace hb := below_undr' hb); replace T0 := T0.below hb; replace T4 := T4.below hb; replace c0 := T0.cell; replace c4 := T4.cell; replace f0 := T0.free; replace hB := hB.trans (hb.mono hB.size))
    | (go_at_call 25; go_fit (SH _); rintro e w' ⟨rfl, hb⟩; (try replace hb := below_undr' hb); replace T0 := T0.below hb; replace T4 := T4.below hb; replace c0 := T0.cell; replace c4 := T4.cell; replace f0 := T0.free; replace hB := hB.trans (hb.mono hB.size)))
  go_cut [48] (fun s48 wx => s48 = .bool false ∧ Twelve wx w.heap.size #[.int .i64 0, .int .i64 0, .int .i64 0, .int .i64 0, .int .i64 0, .int .i64 0, .int .i64 0, .int .i64 0, .int .i64 0, .int .i64 0, .int .i64 0, .string ⟨#[]⟩] ∧ Twelve wx (w.heap.size + 1) #[.int .i64 0, .int .i64 0, .int .i64 0, .int .i64 0, .int .i64 0, .int .i64 0, .int .i64 0, .int .i64 0, .int .i64 0, .int .i64 0, .int .i64 0, .string ⟨#[]⟩] ∧ Below w.heap.size w wx)
  case first =>
    go_wp2_with fail
    go_meet
    case rel => exact ⟨rfl, T0, T4, hB⟩
  case rest =>
  clear T0 T4 hB c0 c4 f0
  obtain ⟨rfl, T0, T4, hB⟩ := hcut
  replace c0 := T0.cell; replace c4 := T4.cell; replace f0 := T0.free
  go_upto_region 10 with fail
  go_cut [5] (fun s5 wx => ∃ b, s5 = .pointer (some ⟨b, 0, none⟩) ∧ w.heap.size + 1 < b ∧ Twelve wx b #[.int .i64 (byt s.data.toList 9), .int .i64 (lAt s.data.toList 12), .int .i64 0, .int .i64 (lAt s.data.toList 16), .int .i64 0, .int .i64 (byt s.data.toList 8), .int .i64 (wAt s.data.toList 4), .int .i64 0, .int .i64 0, .int .i64 0, .int .i64 0, .string ⟨#[]⟩] ∧ Twelve wx w.heap.size #[.int .i64 0, .int .i64 0, .int .i64 0, .int .i64 0, .int .i64 0, .int .i64 0, .int .i64 0, .int .i64 0, .int .i64 0, .int .i64 0, .int .i64 0, .string ⟨#[]⟩] ∧ Twelve wx (w.heap.size + 1) #[.int .i64 0, .int .i64 0, .int .i64 0, .int .i64 0, .int .i64 0, .int .i64 0, .int .i64 0, .int .i64 0, .int .i64 0, .int .i64 0, .int .i64 0, .string ⟨#[]⟩] ∧ Below w.heap.size w wx)
  case first =>
    refine wp_region_noPanic ?_
    refine wp_region_held_drew (S := fun _ => True) (by kernel_rfl) trivial (fun _ => ?_)
    refine wpAnyH_take (i := 0) (v := .string s) rfl (by kernel_rfl) (by kernel_rfl) (by kernel_rfl) (fun _ _ _ h => h) (yields_move (.tmp 0) (.string s) rfl (by kernel_rfl) (by kernel_rfl)) trivial ?_
    simp only [Act.put, List.getElem_toArray, List.getElem_cons_succ, List.getElem_cons_zero, List.setIfInBounds_toArray, List.set_cons_zero, List.set_cons_succ]
    refine wpAnyH_take (i := 1) (v := .int .u8 (byt s.data.toList 9)) rfl (by kernel_rfl) (by kernel_rfl) (by kernel_rfl) (fun _ _ _ h => h) (yields_index (.tmp 50) s 9 9 _ rfl (by kernel_rfl) (by kernel_rfl) rfl (by omega) g9) trivial ?_
    simp only [Act.put, List.getElem_toArray, List.getElem_cons_succ, List.getElem_cons_zero, List.setIfInBounds_toArray, List.set_cons_zero, List.set_cons_succ]
    refine wpAnyH_take (i := 2) (v := .int .i64 (byt s.data.toList 9)) rfl (by kernel_rfl) (by kernel_rfl) (by kernel_rfl) (fun _ _ _ h => h) (yields_conv (.tmp 51) (byt s.data.toList 9) rfl (by kernel_rfl) (by kernel_rfl) iw9) trivial ?_
    simp only [Act.put, List.getElem_toArray, List.getElem_cons_succ, List.getElem_cons_zero, List.setIfInBounds_toArray, List.set_cons_zero, List.set_cons_succ]
    refine wpAnyH_take (i := 3) (v := .string s) rfl (by kernel_rfl) (by kernel_rfl) (by kernel_rfl) (fun _ _ _ h => h) (yields_move (.tmp 0) (.string s) rfl (by kernel_rfl) (by kernel_rfl)) trivial ?_
    simp only [Act.put, List.getElem_toArray, List.getElem_cons_succ, List.getElem_cons_zero, List.setIfInBounds_toArray, List.set_cons_zero, List.set_cons_succ]
    refine wpAnyH_take (i := 4) (v := .int .u8 (byt s.data.toList 8)) rfl (by kernel_rfl) (by kernel_rfl) (by kernel_rfl) (fun _ _ _ h => h) (yields_index (.tmp 53) s 8 8 _ rfl (by kernel_rfl) (by kernel_rfl) rfl (by omega) g8) trivial ?_
    simp only [Act.put, List.getElem_toArray, List.getElem_cons_succ, List.getElem_cons_zero, List.setIfInBounds_toArray, List.set_cons_zero, List.set_cons_succ]
    refine wpAnyH_take (i := 5) (v := .int .i64 (byt s.data.toList 8)) rfl (by kernel_rfl) (by kernel_rfl) (by kernel_rfl) (fun _ _ _ h => h) (yields_conv (.tmp 54) (byt s.data.toList 8) rfl (by kernel_rfl) (by kernel_rfl) iw8) trivial ?_
    simp only [Act.put, List.getElem_toArray, List.getElem_cons_succ, List.getElem_cons_zero, List.setIfInBounds_toArray, List.set_cons_zero, List.set_cons_succ]
    refine wpAnyH_take (i := 6) (v := .string s) rfl (by kernel_rfl) (by kernel_rfl) (by kernel_rfl) (fun _ _ _ h => h) (yields_move (.tmp 0) (.string s) rfl (by kernel_rfl) (by kernel_rfl)) trivial ?_
    simp only [Act.put, List.getElem_toArray, List.getElem_cons_succ, List.getElem_cons_zero, List.setIfInBounds_toArray, List.set_cons_zero, List.set_cons_succ]
    refine wpAnyH_take (i := 7) (v := .string (s.extract 4 6)) rfl (by kernel_rfl) (by kernel_rfl) (by kernel_rfl) (fun _ _ _ h => h) (yields_slice (.tmp 56) s 4 6 4 6 rfl (by kernel_rfl) (by kernel_rfl) rfl rfl (by omega) (by omega)) trivial ?_
    simp only [Act.put, List.getElem_toArray, List.getElem_cons_succ, List.getElem_cons_zero, List.setIfInBounds_toArray, List.set_cons_zero, List.set_cons_succ]
    refine wpAnyH_take (i := 9) (v := .string s) rfl (by kernel_rfl) (by kernel_rfl) (by kernel_rfl) (fun _ _ _ h => h) (yields_move (.tmp 0) (.string s) rfl (by kernel_rfl) (by kernel_rfl)) trivial ?_
    simp only [Act.put, List.getElem_toArray, List.getElem_cons_succ, List.getElem_cons_zero, List.setIfInBounds_toArray, List.set_cons_zero, List.set_cons_succ]
    refine wpAnyH_take (i := 10) (v := .string (s.extract 12 16)) rfl (by kernel_rfl) (by kernel_rfl) (by kernel_rfl) (fun _ _ _ h => h) (yields_slice (.tmp 59) s 12 16 12 16 rfl (by kernel_rfl) (by kernel_rfl) rfl rfl (by omega) (by omega)) trivial ?_
    simp only [Act.put, List.getElem_toArray, List.getElem_cons_succ, List.getElem_cons_zero, List.setIfInBounds_toArray, List.set_cons_zero, List.set_cons_succ]
    refine wpAnyH_take (i := 12) (v := .string s) rfl (by kernel_rfl) (by kernel_rfl) (by kernel_rfl) (fun _ _ _ h => h) (yields_move (.tmp 0) (.string s) rfl (by kernel_rfl) (by kernel_rfl)) trivial ?_
    simp only [Act.put, List.getElem_toArray, List.getElem_cons_succ, List.getElem_cons_zero, List.setIfInBounds_toArray, List.set_cons_zero, List.set_cons_succ]
    refine wpAnyH_take (i := 13) (v := .string (s.extract 16 20)) rfl (by kernel_rfl) (by kernel_rfl) (by kernel_rfl) (fun _ _ _ h => h) (yields_slice (.tmp 62) s 16 20 16 20 rfl (by kernel_rfl) (by kernel_rfl) rfl rfl (by omega) (by omega)) trivial ?_
    simp only [Act.put, List.getElem_toArray, List.getElem_cons_succ, List.getElem_cons_zero, List.setIfInBounds_toArray, List.set_cons_zero, List.set_cons_succ]
    refine wpAnyH_ready (rs := [8, 16]) (by kernel_rfl) (by simp) ?_
    refine AllReadyH.cons rfl (fun K hK => ?_) ?_
    · rw [if_pos (by kernel_rfl)]
      refine wp_callB 24 #[.string (s.extract 4 6)] (by kernel_rfl) _ (N4 _) ?_; intro w' hb; (try replace hb := below_undr' hb); replace T0 := T0.below hb; replace T4 := T4.below hb; (try replace T5 := T5.below hb); replace hB := hB.trans (hb.mono hB.size)
      refine hK.out _ _ trivial (fun _ => ?_)
      clear hK K
      try simp only [Act.put, List.getElem_toArray, List.getElem_cons_succ, List.getElem_cons_zero, List.setIfInBounds_toArray, List.set_cons_zero, List.set_cons_succ]
      refine wpAnyH_ready (rs := [11, 16]) (by kernel_rfl) (by simp) ?_
      refine AllReadyH.cons rfl (fun K hK => ?_) ?_
      · rw [if_pos (by kernel_rfl)]
        refine wp_callB 24 #[.string (s.extract 12 16)] (by kernel_rfl) _ (N12 _) ?_; intro w' hb; (try replace hb := below_undr' hb); replace T0 := T0.below hb; replace T4 := T4.below hb; (try replace T5 := T5.below hb); replace hB := hB.trans (hb.mono hB.size)
        refine hK.out _ _ trivial (fun _ => ?_)
        clear hK K
        try simp only [Act.put, List.getElem_toArray, List.getElem_cons_succ, List.getElem_cons_zero, List.setIfInBounds_toArray, List.set_cons_zero, List.set_cons_succ]
        refine wpAnyH_ready (rs := [14, 16]) (by kernel_rfl) (by simp) ?_
        refine AllReadyH.cons rfl (fun K hK => ?_) ?_
        · rw [if_pos (by kernel_rfl)]
          refine wp_callB 24 #[.string (s.extract 16 20)] (by kernel_rfl) _ (N16 _) ?_; intro w' hb; (try replace hb := below_undr' hb); replace T0 := T0.below hb; replace T4 := T4.below hb; (try replace T5 := T5.below hb); replace hB := hB.trans (hb.mono hB.size)
          refine hK.out _ _ trivial (fun _ => ?_)
          clear hK K
          try simp only [Act.put, List.getElem_toArray, List.getElem_cons_succ, List.getElem_cons_zero, List.setIfInBounds_toArray, List.set_cons_zero, List.set_cons_succ]
          refine wpAnyH_take (i := 15) (v := .agg #[.int .i64 (byt s.data.toList 9), .int .i64 (lAt s.data.toList 12), .int .i64 0, .int .i64 (lAt s.data.toList 16), .int .i64 0, .int .i64 (byt s.data.toList 8), .int .i64 (wAt s.data.toList 4), .int .i64 0, .int .i64 0, .int .i64 0, .int .i64 0, .string ⟨#[]⟩]) rfl (by kernel_rfl) (by kernel_rfl) (by kernel_rfl) (fun _ _ _ h => h) (Or.inl ⟨by kernel_rfl, by intro w _; kernel_rfl⟩) trivial ?_
          simp only [Act.put, List.getElem_toArray, List.getElem_cons_succ, List.getElem_cons_zero, List.setIfInBounds_toArray, List.set_cons_zero, List.set_cons_succ]
          refine wpAnyH_ready (rs := [16]) (by kernel_rfl) (by simp) ?_
          refine AllReadyH.cons rfl (fun K hK => ?_) ?_
          · rw [if_pos (by kernel_rfl)]
            refine wp_alloc12 rfl ?_; intro b w' eb T5 hk hbb; have lt5 : w.heap.size + 1 < b := (by rw [eb]; exact T4.lt); replace T0 := hk _ _ T0; replace T4 := hk _ _ T4; (first | (replace hB := hbb _ _ hB hB.size) | (replace hB := hbb _ _ (below_drew hB) hB.size)); clear hk hbb eb
            refine hK.out _ _ trivial (fun _ => ?_)
            clear hK K
            try simp only [Act.put, List.getElem_toArray, List.getElem_cons_succ, List.getElem_cons_zero, List.setIfInBounds_toArray, List.set_cons_zero, List.set_cons_succ]
            refine wpAnyH_ready (rs := [17]) (by kernel_rfl) (by simp) ?_
            refine AllReadyH.cons rfl (fun K hK => ?_) ?_
            · rw [if_pos (by kernel_rfl)]
              refine wp_store12 _ _ rfl b rfl #[.int .i64 (byt s.data.toList 9), .int .i64 (lAt s.data.toList 12), .int .i64 0, .int .i64 (lAt s.data.toList 16), .int .i64 0, .int .i64 (byt s.data.toList 8), .int .i64 (wAt s.data.toList 4), .int .i64 0, .int .i64 0, .int .i64 0, .int .i64 0, .string ⟨#[]⟩] rfl _ T5 rfl rfl (by kernel_rfl) ?_; intro w' T5 hk hbb; replace T0 := hk _ _ (by omega) T0; replace T4 := hk _ _ (by omega) T4; (first | (replace hB := hbb _ _ (by omega) hB) | (replace hB := hbb _ _ (by omega) (below_drew hB))); clear hk hbb
              refine hK.out _ _ trivial (fun _ => ?_)
              clear hK K
              try simp only [Act.put, List.getElem_toArray, List.getElem_cons_succ, List.getElem_cons_zero, List.setIfInBounds_toArray, List.set_cons_zero, List.set_cons_succ]
              refine wpAnyH_done (by kernel_rfl) ?_ _
              refine NoPanic.normal ?_
              go_wp2_with fail
              go_meet
              case rel => exact ⟨_, rfl, lt5, T5, T0, T4, hB⟩
            exact AllReadyH.nil
          exact AllReadyH.nil
        refine AllReadyH.cons rfl (fun K hK => ?_) ?_
        · rw [if_pos (by kernel_rfl)]
          refine wp_alloc12 rfl ?_; intro b w' eb T5 hk hbb; have lt5 : w.heap.size + 1 < b := (by rw [eb]; exact T4.lt); replace T0 := hk _ _ T0; replace T4 := hk _ _ T4; (first | (replace hB := hbb _ _ hB hB.size) | (replace hB := hbb _ _ (below_drew hB) hB.size)); clear hk hbb eb
          refine hK.out _ _ trivial (fun _ => ?_)
          clear hK K
          try simp only [Act.put, List.getElem_toArray, List.getElem_cons_succ, List.getElem_cons_zero, List.setIfInBounds_toArray, List.set_cons_zero, List.set_cons_succ]
          refine wpAnyH_ready (rs := [14]) (by kernel_rfl) (by simp) ?_
          refine AllReadyH.cons rfl (fun K hK => ?_) ?_
          · rw [if_pos (by kernel_rfl)]
            refine wp_callB 24 #[.string (s.extract 16 20)] (by kernel_rfl) _ (N16 _) ?_; intro w' hb; (try replace hb := below_undr' hb); replace T0 := T0.below hb; replace T4 := T4.below hb; (try replace T5 := T5.below hb); replace hB := hB.trans (hb.mono hB.size)
            refine hK.out _ _ trivial (fun _ => ?_)
            clear hK K
            try simp only [Act.put, List.getElem_toArray, List.getElem_cons_succ, List.getElem_cons_zero, List.setIfInBounds_toArray, List.set_cons_zero, List.set_cons_succ]
            refine wpAnyH_take (i := 15) (v := .agg #[.int .i64 (byt s.data.toList 9), .int .i64 (lAt s.data.toList 12), .int .i64 0, .int .i64 (lAt s.data.toList 16), .int .i64 0, .int .i64 (byt s.data.toList 8), .int .i64 (wAt s.data.toList 4), .int .i64 0, .int .i64 0, .int .i64 0, .int .i64 0, .string ⟨#[]⟩]) rfl (by kernel_rfl) (by kernel_rfl) (by kernel_rfl) (fun _ _ _ h => h) (Or.inl ⟨by kernel_rfl, by intro w _; kernel_rfl⟩) trivial ?_
            simp only [Act.put, List.getElem_toArray, List.getElem_cons_succ, List.getElem_cons_zero, List.setIfInBounds_toArray, List.set_cons_zero, List.set_cons_succ]
            refine wpAnyH_ready (rs := [17]) (by kernel_rfl) (by simp) ?_
            refine AllReadyH.cons rfl (fun K hK => ?_) ?_
            · rw [if_pos (by kernel_rfl)]
              refine wp_store12 _ _ rfl b rfl #[.int .i64 (byt s.data.toList 9), .int .i64 (lAt s.data.toList 12), .int .i64 0, .int .i64 (lAt s.data.toList 16), .int .i64 0, .int .i64 (byt s.data.toList 8), .int .i64 (wAt s.data.toList 4), .int .i64 0, .int .i64 0, .int .i64 0, .int .i64 0, .string ⟨#[]⟩] rfl _ T5 rfl rfl (by kernel_rfl) ?_; intro w' T5 hk hbb; replace T0 := hk _ _ (by omega) T0; replace T4 := hk _ _ (by omega) T4; (first | (replace hB := hbb _ _ (by omega) hB) | (replace hB := hbb _ _ (by omega) (below_drew hB))); clear hk hbb
              refine hK.out _ _ trivial (fun _ => ?_)
              clear hK K
              try simp only [Act.put, List.getElem_toArray, List.getElem_cons_succ, List.getElem_cons_zero, List.setIfInBounds_toArray, List.set_cons_zero, List.set_cons_succ]
              refine wpAnyH_done (by kernel_rfl) ?_ _
              refine NoPanic.normal ?_
              go_wp2_with fail
              go_meet
              case rel => exact ⟨_, rfl, lt5, T5, T0, T4, hB⟩
            exact AllReadyH.nil
          exact AllReadyH.nil
        exact AllReadyH.nil
      refine AllReadyH.cons rfl (fun K hK => ?_) ?_
      · rw [if_pos (by kernel_rfl)]
        refine wp_alloc12 rfl ?_; intro b w' eb T5 hk hbb; have lt5 : w.heap.size + 1 < b := (by rw [eb]; exact T4.lt); replace T0 := hk _ _ T0; replace T4 := hk _ _ T4; (first | (replace hB := hbb _ _ hB hB.size) | (replace hB := hbb _ _ (below_drew hB) hB.size)); clear hk hbb eb
        refine hK.out _ _ trivial (fun _ => ?_)
        clear hK K
        try simp only [Act.put, List.getElem_toArray, List.getElem_cons_succ, List.getElem_cons_zero, List.setIfInBounds_toArray, List.set_cons_zero, List.set_cons_succ]
        refine wpAnyH_ready (rs := [11]) (by kernel_rfl) (by simp) ?_
        refine AllReadyH.cons rfl (fun K hK => ?_) ?_
        · rw [if_pos (by kernel_rfl)]
          refine wp_callB 24 #[.string (s.extract 12 16)] (by kernel_rfl) _ (N12 _) ?_; intro w' hb; (try replace hb := below_undr' hb); replace T0 := T0.below hb; replace T4 := T4.below hb; (try replace T5 := T5.below hb); replace hB := hB.trans (hb.mono hB.size)
          refine hK.out _ _ trivial (fun _ => ?_)
          clear hK K
          try simp only [Act.put, List.getElem_toArray, List.getElem_cons_succ, List.getElem_cons_zero, List.setIfInBounds_toArray, List.set_cons_zero, List.set_cons_succ]
          refine wpAnyH_ready (rs := [14]) (by kernel_rfl) (by simp) ?_
          refine AllReadyH.cons rfl (fun K hK => ?_) ?_
          · rw [if_pos (by kernel_rfl)]
            refine wp_callB 24 #[.string (s.extract 16 20)] (by kernel_rfl) _ (N16 _) ?_; intro w' hb; (try replace hb := below_undr' hb); replace T0 := T0.below hb; replace T4 := T4.below hb; (try replace T5 := T5.below hb); replace hB := hB.trans (hb.mono hB.size)
            refine hK.out _ _ trivial (fun _ => ?_)
            clear hK K
            try simp only [Act.put, List.getElem_toArray, List.getElem_cons_succ, List.getElem_cons_zero, List.setIfInBounds_toArray, List.set_cons_zero, List.set_cons_succ]
            refine wpAnyH_take (i := 15) (v := .agg #[.int .i64 (byt s.data.toList 9), .int .i64 (lAt s.data.toList 12), .int .i64 0, .int .i64 (lAt s.data.toList 16), .int .i64 0, .int .i64 (byt s.data.toList 8), .int .i64 (wAt s.data.toList 4), .int .i64 0, .int .i64 0, .int .i64 0, .int .i64 0, .string ⟨#[]⟩]) rfl (by kernel_rfl) (by kernel_rfl) (by kernel_rfl) (fun _ _ _ h => h) (Or.inl ⟨by kernel_rfl, by intro w _; kernel_rfl⟩) trivial ?_
            simp only [Act.put, List.getElem_toArray, List.getElem_cons_succ, List.getElem_cons_zero, List.setIfInBounds_toArray, List.set_cons_zero, List.set_cons_succ]
            refine wpAnyH_ready (rs := [17]) (by kernel_rfl) (by simp) ?_
            refine AllReadyH.cons rfl (fun K hK => ?_) ?_
            · rw [if_pos (by kernel_rfl)]
              refine wp_store12 _ _ rfl b rfl #[.int .i64 (byt s.data.toList 9), .int .i64 (lAt s.data.toList 12), .int .i64 0, .int .i64 (lAt s.data.toList 16), .int .i64 0, .int .i64 (byt s.data.toList 8), .int .i64 (wAt s.data.toList 4), .int .i64 0, .int .i64 0, .int .i64 0, .int .i64 0, .string ⟨#[]⟩] rfl _ T5 rfl rfl (by kernel_rfl) ?_; intro w' T5 hk hbb; replace T0 := hk _ _ (by omega) T0; replace T4 := hk _ _ (by omega) T4; (first | (replace hB := hbb _ _ (by omega) hB) | (replace hB := hbb _ _ (by omega) (below_drew hB))); clear hk hbb
              refine hK.out _ _ trivial (fun _ => ?_)
              clear hK K
              try simp only [Act.put, List.getElem_toArray, List.getElem_cons_succ, List.getElem_cons_zero, List.setIfInBounds_toArray, List.set_cons_zero, List.set_cons_succ]
              refine wpAnyH_done (by kernel_rfl) ?_ _
              refine NoPanic.normal ?_
              go_wp2_with fail
              go_meet
              case rel => exact ⟨_, rfl, lt5, T5, T0, T4, hB⟩
            exact AllReadyH.nil
          exact AllReadyH.nil
        exact AllReadyH.nil
      exact AllReadyH.nil
    refine AllReadyH.cons rfl (fun K hK => ?_) ?_
    · rw [if_pos (by kernel_rfl)]
      refine wp_alloc12 rfl ?_; intro b w' eb T5 hk hbb; have lt5 : w.heap.size + 1 < b := (by rw [eb]; exact T4.lt); replace T0 := hk _ _ T0; replace T4 := hk _ _ T4; (first | (replace hB := hbb _ _ hB hB.size) | (replace hB := hbb _ _ (below_drew hB) hB.size)); clear hk hbb eb
      refine hK.out _ _ trivial (fun _ => ?_)
      clear hK K
      try simp only [Act.put, List.getElem_toArray, List.getElem_cons_succ, List.getElem_cons_zero, List.setIfInBounds_toArray, List.set_cons_zero, List.set_cons_succ]
      refine wpAnyH_ready (rs := [8]) (by kernel_rfl) (by simp) ?_
      refine AllReadyH.cons rfl (fun K hK => ?_) ?_
      · rw [if_pos (by kernel_rfl)]
        refine wp_callB 24 #[.string (s.extract 4 6)] (by kernel_rfl) _ (N4 _) ?_; intro w' hb; (try replace hb := below_undr' hb); replace T0 := T0.below hb; replace T4 := T4.below hb; (try replace T5 := T5.below hb); replace hB := hB.trans (hb.mono hB.size)
        refine hK.out _ _ trivial (fun _ => ?_)
        clear hK K
        try simp only [Act.put, List.getElem_toArray, List.getElem_cons_succ, List.getElem_cons_zero, List.setIfInBounds_toArray, List.set_cons_zero, List.set_cons_succ]
        refine wpAnyH_ready (rs := [11]) (by kernel_rfl) (by simp) ?_
        refine AllReadyH.cons rfl (fun K hK => ?_) ?_
        · rw [if_pos (by kernel_rfl)]
          refine wp_callB 24 #[.string (s.extract 12 16)] (by kernel_rfl) _ (N12 _) ?_; intro w' hb; (try replace hb := below_undr' hb); replace T0 := T0.below hb; replace T4 := T4.below hb; (try replace T5 := T5.below hb); replace hB := hB.trans (hb.mono hB.size)
          refine hK.out _ _ trivial (fun _ => ?_)
          clear hK K
          try simp only [Act.put, List.getElem_toArray, List.getElem_cons_succ, List.getElem_cons_zero, List.setIfInBounds_toArray, List.set_cons_zero, List.set_cons_succ]
          refine wpAnyH_ready (rs := [14]) (by kernel_rfl) (by simp) ?_
          refine AllReadyH.cons rfl (fun K hK => ?_) ?_
          · rw [if_pos (by kernel_rfl)]
            refine wp_callB 24 #[.string (s.extract 16 20)] (by kernel_rfl) _ (N16 _) ?_; intro w' hb; (try replace hb := below_undr' hb); replace T0 := T0.below hb; replace T4 := T4.below hb; (try replace T5 := T5.below hb); replace hB := hB.trans (hb.mono hB.size)
            refine hK.out _ _ trivial (fun _ => ?_)
            clear hK K
            try simp only [Act.put, List.getElem_toArray, List.getElem_cons_succ, List.getElem_cons_zero, List.setIfInBounds_toArray, List.set_cons_zero, List.set_cons_succ]
            refine wpAnyH_take (i := 15) (v := .agg #[.int .i64 (byt s.data.toList 9), .int .i64 (lAt s.data.toList 12), .int .i64 0, .int .i64 (lAt s.data.toList 16), .int .i64 0, .int .i64 (byt s.data.toList 8), .int .i64 (wAt s.data.toList 4), .int .i64 0, .int .i64 0, .int .i64 0, .int .i64 0, .string ⟨#[]⟩]) rfl (by kernel_rfl) (by kernel_rfl) (by kernel_rfl) (fun _ _ _ h => h) (Or.inl ⟨by kernel_rfl, by intro w _; kernel_rfl⟩) trivial ?_
            simp only [Act.put, List.getElem_toArray, List.getElem_cons_succ, List.getElem_cons_zero, List.setIfInBounds_toArray, List.set_cons_zero, List.set_cons_succ]
            refine wpAnyH_ready (rs := [17]) (by kernel_rfl) (by simp) ?_
            refine AllReadyH.cons rfl (fun K hK => ?_) ?_
            · rw [if_pos (by kernel_rfl)]
              refine wp_store12 _ _ rfl b rfl #[.int .i64 (byt s.data.toList 9), .int .i64 (lAt s.data.toList 12), .int .i64 0, .int .i64 (lAt s.data.toList 16), .int .i64 0, .int .i64 (byt s.data.toList 8), .int .i64 (wAt s.data.toList 4), .int .i64 0, .int .i64 0, .int .i64 0, .int .i64 0, .string ⟨#[]⟩] rfl _ T5 rfl rfl (by kernel_rfl) ?_; intro w' T5 hk hbb; replace T0 := hk _ _ (by omega) T0; replace T4 := hk _ _ (by omega) T4; (first | (replace hB := hbb _ _ (by omega) hB) | (replace hB := hbb _ _ (by omega) (below_drew hB))); clear hk hbb
              refine hK.out _ _ trivial (fun _ => ?_)
              clear hK K
              try simp only [Act.put, List.getElem_toArray, List.getElem_cons_succ, List.getElem_cons_zero, List.setIfInBounds_toArray, List.set_cons_zero, List.set_cons_succ]
              refine wpAnyH_done (by kernel_rfl) ?_ _
              refine NoPanic.normal ?_
              go_wp2_with fail
              go_meet
              case rel => exact ⟨_, rfl, lt5, T5, T0, T4, hB⟩
            exact AllReadyH.nil
          exact AllReadyH.nil
        exact AllReadyH.nil
      exact AllReadyH.nil
    exact AllReadyH.nil
  case rest =>
    clear T0 T4 hB c0 c4 f0
    obtain ⟨b, rfl, hb1, T5, T0, T4, hB⟩ := hcut
    replace c0 := T0.cell; replace c4 := T4.cell; replace f0 := T0.free; replace c5 := T5.cell; replace f5 := T5.free
    have z2 : (s.extract 20 s.size).size = s.size - 20 := ext_size s 20 s.size (Nat.le_refl _)
    have z3 : ((s.extract 20 s.size).size : Int) = (s.size : Int) - 20 := by omega
    have z4 : ((s.size - 20 : Nat) : Int) = (s.size : Int) - 20 := by omega
    have b9 := byt_bd s.data.toList 9
    have CA := fun w => ahead_any (lAt s.data.toList 12) (lAt s.data.toList 16) (byt s.data.toList 9) ((s.size : Int) - 20) w b9 (lAt_bd _ _) (lAt_bd _ _) (by omega)
    have hps : (txt (ps (lAt s.data.toList 12) (lAt s.data.toList 16) (byt s.data.toList 9) ((s.size : Int) - 20))).size ≤ 12 := by rw [txt_size]; unfold ps; split <;> simp
    have CS : ∀ w, Calls Try.prog 25 #[.string (txt (ps (lAt s.data.toList 12) (lAt s.data.toList 16) (byt s.data.toList 9) ((s.size : Int) - 20)) ++ s.extract 20 s.size)] w fun e w' => e = .returned (.int .i64 (bk (tot (chkd s.data.toList (byt s.data.toList 9))))) ∧ Below w.heap.size w w' := by
      intro w
      have := sumRef_any (txt (ps (lAt s.data.toList 12) (lAt s.data.toList 16) (byt s.data.toList 9) ((s.size : Int) - 20)) ++ s.extract 20 s.size) w (by rw [ByteArray.size_append]; omega)
      rw [ByteArray.data_append, Array.toList_append, txt_list, ext_from, ← hll, ps_chkd _ _ (by omega)] at this
      exact this
    have k1 : byt s.data.toList 9 ≠ 1 := hk9.out.1
    have k6 : byt s.data.toList 9 ≠ 6 := hk9.out.2.1
    have k17 : byt s.data.toList 9 ≠ 17 := hk9.out.2.2
    have e1 : (byt s.data.toList 9 == 1) = false := by simpa using k1
    have e6 : (byt s.data.toList 9 == 6) = false := by simpa using k6
    have e17 : (byt s.data.toList 9 == 17) = false := by simpa using k17
    have hbd : Hid (bad s.data.toList = 4) := Hnone.out (by unfold kindB; simp [k1, k6, k17])
    clear k1 k6 k17
    go_wp2
    refine bodyPost_ret (v := .tuple #[pv p0, .int .i64 4]) (by simp [results, Try.results10, go_sem, pv, p0, c0]; rfl) rfl ⟨by rw [parsed_bad _ 4 hbd.out (by omega), hbd.out], ?_⟩
    iterate 12 (refine Below.setCell ?_ (by exact Nat.le_refl _) _)
    exact hB

set_option maxRecDepth 10000 in
set_option maxHeartbeats 40000000 in
theorem pref_pinge (s : ByteArray) (w : World) (hs : s.size ≤ 65535) (h20 : 20 ≤ s.size) (H : HeadO s.data.toList) (hk9 : Hid (byt s.data.toList 9 = 1)) (hv : Hid (¬ ((8 : Int) ≤ (s.size : Int) - 20 ∧ bk (tot (chkd s.data.toList (byt s.data.toList 9))) = 65535 ∧ (byt s.data.toList 20 = 0 ∨ byt s.data.toList 20 = 8) ∧ byt s.data.toList 21 = 0))) :
    Calls Try.prog 10 #[.string s] w fun e w' => e = .returned (.tuple #[pv (parsed s.data.toList), .int .i64 (bad s.data.toList)]) ∧ Below w.heap.size w w' := by
  have hll := len_list s
  have T0 : Twelve ((w.alloc (.cells #[.int .i64 0, .int .i64 0, .int .i64 0, .int .i64 0, .int .i64 0, .int .i64 0, .int .i64 0, .int .i64 0, .int .i64 0, .int .i64 0, .int .i64 0, .string ⟨#[]⟩] 23)).alloc (.cells #[.int .i64 0, .int .i64 0, .int .i64 0, .int .i64 0, .int .i64 0, .int .i64 0, .int .i64 0, .int .i64 0, .int .i64 0, .int .i64 0, .int .i64 0, .string ⟨#[]⟩] 23)) w.heap.size #[.int .i64 0, .int .i64 0, .int .i64 0, .int .i64 0, .int .i64 0, .int .i64 0, .int .i64 0, .int .i64 0, .int .i64 0, .int .i64 0, .int .i64 0, .string ⟨#[]⟩] := (Below.heap_alloc _ _ _ (by simp)).trans (heap_alloc_new w _)
  have T4 : Twelve ((w.alloc (.cells #[.int .i64 0, .int .i64 0, .int .i64 0, .int .i64 0, .int .i64 0, .int .i64 0, .int .i64 0, .int .i64 0, .int .i64 0, .int .i64 0, .int .i64 0, .string ⟨#[]⟩] 23)).alloc (.cells #[.int .i64 0, .int .i64 0, .int .i64 0, .int .i64 0, .int .i64 0, .int .i64 0, .int .i64 0, .int .i64 0, .int .i64 0, .int .i64 0, .int .i64 0, .string ⟨#[]⟩] 23)) (w.heap.size + 1) #[.int .i64 0, .int .i64 0, .int .i64 0, .int .i64 0, .int .i64 0, .int .i64 0, .int .i64 0, .int .i64 0, .int .i64 0, .int .i64 0, .int .i64 0, .string ⟨#[]⟩] := by
    have := heap_alloc_new (w.alloc (.cells #[.int .i64 0, .int .i64 0, .int .i64 0, .int .i64 0, .int .i64 0, .int .i64 0, .int .i64 0, .int .i64 0, .int .i64 0, .int .i64 0, .int .i64 0, .string ⟨#[]⟩] 23)) (.cells #[.int .i64 0, .int .i64 0, .int .i64 0, .int .i64 0, .int .i64 0, .int .i64 0, .int .i64 0, .int .i64 0, .int .i64 0, .int .i64 0, .int .i64 0, .string ⟨#[]⟩] 23)
    simpa [Twelve] using this
  have hB : Below w.heap.size w ((w.alloc (.cells #[.int .i64 0, .int .i64 0, .int .i64 0, .int .i64 0, .int .i64 0, .int .i64 0, .int .i64 0, .int .i64 0, .int .i64 0, .int .i64 0, .int .i64 0, .string ⟨#[]⟩] 23)).alloc (.cells #[.int .i64 0, .int .i64 0, .int .i64 0, .int .i64 0, .int .i64 0, .int .i64 0, .int .i64 0, .int .i64 0, .int .i64 0, .int .i64 0, .int .i64 0, .string ⟨#[]⟩] 23)) := ((Below.refl _ _).alloc (Nat.le_refl _) _).alloc (by simp) _
  replace c0 := T0.cell; replace c4 := T4.cell; replace f0 := T0.free

  have N2 := fun w => num2_any s 2 4 w rfl (by omega)
  have N4 := fun w => num2_any s 4 6 w rfl (by omega)
  have N12 := fun w => num4_any s 12 16 w rfl (by omega)
  have N16 := fun w => num4_any s 16 20 w rfl (by omega)
  have SH := fun w => sum20_any s w h20
  have g0 : ∀ h, ((s[0]'h).toNat : Int) = byt s.data.toList 0 := fun h => byt_get s 0 h
  have g1 : ∀ h, ((s[1]'h).toNat : Int) = byt s.data.toList 1 := fun h => byt_get s 1 h
  have g6 : ∀ h, ((s[6]'h).toNat : Int) = byt s.data.toList 6 := fun h => byt_get s 6 h
  have g7 : ∀ h, ((s[7]'h).toNat : Int) = byt s.data.toList 7 := fun h => byt_get s 7 h
  have g8 : ∀ h, ((s[8]'h).toNat : Int) = byt s.data.toList 8 := fun h => byt_get s 8 h
  have g9 : ∀ h, ((s[9]'h).toNat : Int) = byt s.data.toList 9 := fun h => byt_get s 9 h
  have e6 : byt s.data.toList 6 = 0 ∧ byt s.data.toList 7 = 0 := by
    have := H.piece; rw [show wAt s.data.toList 6 = byt s.data.toList 6 * 256 + byt s.data.toList 7 from rfl] at this
    have := byt_bd s.data.toList 6; have := byt_bd s.data.toList 7; omega
  have d0 : (byt s.data.toList 0 != 69) = false := by simpa using H.mark
  have d1 : (wAt s.data.toList 2 != (s.size : Int)) = false := by have := H.size; rw [hll] at this; simpa using this
  have d2 : (bk (tot (s.data.toList.take 20)) != 65535) = false := by simpa using H.sum
  have d3 : (byt s.data.toList 1 != 0) = false := by simpa using H.serv
  have d4 : (byt s.data.toList 6 != 0) = false := by simpa using e6.1
  have d5 : (byt s.data.toList 7 != 0) = false := by simpa using e6.2
  have d6 : (byt s.data.toList 8 == 0) = false := by simpa using H.ttl
  have iw8 : IntKind.i64.wrap (byt s.data.toList 8) = byt s.data.toList 8 := wrap_i64 _ (by have := byt_bd s.data.toList 8; omega) (by have := byt_bd s.data.toList 8; omega)
  have iw9 : IntKind.i64.wrap (byt s.data.toList 9) = byt s.data.toList 9 := wrap_i64 _ (by have := byt_bd s.data.toList 9; omega) (by have := byt_bd s.data.toList 9; omega)
  have z20 : (20 : Int) ≤ (s.size : Int) := by omega
  have zz : ∀ k : Int, k < 20 → k < (s.size : Int) := fun k h => by omega
  have zy : ∀ k : Int, k < 20 → k ≤ (s.size : Int) := fun k h => by omega
  have z0 := zz 0 (by omega); have z1 := zz 1 (by omega); have z4 := zy 4 (by omega)
  have z6 := zz 6 (by omega); have z7 := zz 7 (by omega); have z8 := zz 8 (by omega); have z9 := zz 9 (by omega)
  have y6 := zy 6 (by omega); have y16 := zy 16 (by omega); have y12 := zy 12 (by omega)
  clear zz zy
  have Hnone : Hid (kindB (byt s.data.toList 9) = false → bad s.data.toList = 4) := fun h => hb_7 s.data.toList (by omega) H.mark H.size H.sum H.serv e6.1 e6.2 H.ttl h
  clear e6
  have Hbad : Hid (bad s.data.toList = bad s.data.toList) := rfl
  generalize hsh : bk (tot (s.data.toList.take 20)) = sh at *
  generalize byt s.data.toList 0 = x0 at *
  generalize byt s.data.toList 1 = x1 at *
  generalize byt s.data.toList 6 = x6 at *
  generalize byt s.data.toList 7 = x7 at *
  go_enter Try.func10, Try.ntmps10
  go_upto_region 8 with (first
    | (go_at_call 24; go_fit (N2 _); rintro e w' ⟨rfl, hb⟩; (try replace hb := below_undr' hb); replace T0 := T0.below hb; replace T4 := T4.below hb; replace c0 := T0.cell; replace c4 := T4.cell; replace f0 := T0.free; replace hB := hB.trans (hb.mono hB.size))
    | (go_at_call 25; go_fit (SH _); rintro e w' ⟨rfl, hb⟩; (try replace hb := below_undr' hb); replace T0 := T0.below hb; replace T4 := T4.below hb; replace c0 := T0.cell; replace c4 := T4.cell; replace f0 := T0.free; replace hB := hB.trans (hb.mono hB.size)))
  go_cut [48] (fun s48 wx => s48 = .bool false ∧ Twelve wx w.heap.size #[.int .i64 0, .int .i64 0, .int .i64 0, .int .i64 0, .int .i64 0, .int .i64 0, .int .i64 0, .int .i64 0, .int .i64 0, .int .i64 0, .int .i64 0, .string ⟨#[]⟩] ∧ Twelve wx (w.heap.size + 1) #[.int .i64 0, .int .i64 0, .int .i64 0, .int .i64 0, .int .i64 0, .int .i64 0, .int .i64 0, .int .i64 0, .int .i64 0, .int .i64 0, .int .i64 0, .string ⟨#[]⟩] ∧ Below w.heap.size w wx)
  case first =>
    go_wp2_with fail
    go_meet
    case rel => exact ⟨rfl, T0, T4, hB⟩
  case rest =>
  clear T0 T4 hB c0 c4 f0
  obtain ⟨rfl, T0, T4, hB⟩ := hcut
  replace c0 := T0.cell; replace c4 := T4.cell; replace f0 := T0.free
  go_upto_region 10 with fail
  go_cut [5] (fun s5 wx => ∃ b, s5 = .pointer (some ⟨b, 0, none⟩) ∧ w.heap.size + 1 < b ∧ Twelve wx b #[.int .i64 (byt s.data.toList 9), .int .i64 (lAt s.data.toList 12), .int .i64 0, .int .i64 (lAt s.data.toList 16), .int .i64 0, .int .i64 (byt s.data.toList 8), .int .i64 (wAt s.data.toList 4), .int .i64 0, .int .i64 0, .int .i64 0, .int .i64 0, .string ⟨#[]⟩] ∧ Twelve wx w.heap.size #[.int .i64 0, .int .i64 0, .int .i64 0, .int .i64 0, .int .i64 0, .int .i64 0, .int .i64 0, .int .i64 0, .int .i64 0, .int .i64 0, .int .i64 0, .string ⟨#[]⟩] ∧ Twelve wx (w.heap.size + 1) #[.int .i64 0, .int .i64 0, .int .i64 0, .int .i64 0, .int .i64 0, .int .i64 0, .int .i64 0, .int .i64 0, .int .i64 0, .int .i64 0, .int .i64 0, .string ⟨#[]⟩] ∧ Below w.heap.size w wx)
  case first =>
    refine wp_region_noPanic ?_
    refine wp_region_held_drew (S := fun _ => True) (by kernel_rfl) trivial (fun _ => ?_)
    refine wpAnyH_take (i := 0) (v := .string s) rfl (by kernel_rfl) (by kernel_rfl) (by kernel_rfl) (fun _ _ _ h => h) (yields_move (.tmp 0) (.string s) rfl (by kernel_rfl) (by kernel_rfl)) trivial ?_
    simp only [Act.put, List.getElem_toArray, List.getElem_cons_succ, List.getElem_cons_zero, List.setIfInBounds_toArray, List.set_cons_zero, List.set_cons_succ]
    refine wpAnyH_take (i := 1) (v := .int .u8 (byt s.data.toList 9)) rfl (by kernel_rfl) (by kernel_rfl) (by kernel_rfl) (fun _ _ _ h => h) (yields_index (.tmp 50) s 9 9 _ rfl (by kernel_rfl) (by kernel_rfl) rfl (by omega) g9) trivial ?_
    simp only [Act.put, List.getElem_toArray, List.getElem_cons_succ, List.getElem_cons_zero, List.setIfInBounds_toArray, List.set_cons_zero, List.set_cons_succ]
    refine wpAnyH_take (i := 2) (v := .int .i64 (byt s.data.toList 9)) rfl (by kernel_rfl) (by kernel_rfl) (by kernel_rfl) (fun _ _ _ h => h) (yields_conv (.tmp 51) (byt s.data.toList 9) rfl (by kernel_rfl) (by kernel_rfl) iw9) trivial ?_
    simp only [Act.put, List.getElem_toArray, List.getElem_cons_succ, List.getElem_cons_zero, List.setIfInBounds_toArray, List.set_cons_zero, List.set_cons_succ]
    refine wpAnyH_take (i := 3) (v := .string s) rfl (by kernel_rfl) (by kernel_rfl) (by kernel_rfl) (fun _ _ _ h => h) (yields_move (.tmp 0) (.string s) rfl (by kernel_rfl) (by kernel_rfl)) trivial ?_
    simp only [Act.put, List.getElem_toArray, List.getElem_cons_succ, List.getElem_cons_zero, List.setIfInBounds_toArray, List.set_cons_zero, List.set_cons_succ]
    refine wpAnyH_take (i := 4) (v := .int .u8 (byt s.data.toList 8)) rfl (by kernel_rfl) (by kernel_rfl) (by kernel_rfl) (fun _ _ _ h => h) (yields_index (.tmp 53) s 8 8 _ rfl (by kernel_rfl) (by kernel_rfl) rfl (by omega) g8) trivial ?_
    simp only [Act.put, List.getElem_toArray, List.getElem_cons_succ, List.getElem_cons_zero, List.setIfInBounds_toArray, List.set_cons_zero, List.set_cons_succ]
    refine wpAnyH_take (i := 5) (v := .int .i64 (byt s.data.toList 8)) rfl (by kernel_rfl) (by kernel_rfl) (by kernel_rfl) (fun _ _ _ h => h) (yields_conv (.tmp 54) (byt s.data.toList 8) rfl (by kernel_rfl) (by kernel_rfl) iw8) trivial ?_
    simp only [Act.put, List.getElem_toArray, List.getElem_cons_succ, List.getElem_cons_zero, List.setIfInBounds_toArray, List.set_cons_zero, List.set_cons_succ]
    refine wpAnyH_take (i := 6) (v := .string s) rfl (by kernel_rfl) (by kernel_rfl) (by kernel_rfl) (fun _ _ _ h => h) (yields_move (.tmp 0) (.string s) rfl (by kernel_rfl) (by kernel_rfl)) trivial ?_
    simp only [Act.put, List.getElem_toArray, List.getElem_cons_succ, List.getElem_cons_zero, List.setIfInBounds_toArray, List.set_cons_zero, List.set_cons_succ]
    refine wpAnyH_take (i := 7) (v := .string (s.extract 4 6)) rfl (by kernel_rfl) (by kernel_rfl) (by kernel_rfl) (fun _ _ _ h => h) (yields_slice (.tmp 56) s 4 6 4 6 rfl (by kernel_rfl) (by kernel_rfl) rfl rfl (by omega) (by omega)) trivial ?_
    simp only [Act.put, List.getElem_toArray, List.getElem_cons_succ, List.getElem_cons_zero, List.setIfInBounds_toArray, List.set_cons_zero, List.set_cons_succ]
    refine wpAnyH_take (i := 9) (v := .string s) rfl (by kernel_rfl) (by kernel_rfl) (by kernel_rfl) (fun _ _ _ h => h) (yields_move (.tmp 0) (.string s) rfl (by kernel_rfl) (by kernel_rfl)) trivial ?_
    simp only [Act.put, List.getElem_toArray, List.getElem_cons_succ, List.getElem_cons_zero, List.setIfInBounds_toArray, List.set_cons_zero, List.set_cons_succ]
    refine wpAnyH_take (i := 10) (v := .string (s.extract 12 16)) rfl (by kernel_rfl) (by kernel_rfl) (by kernel_rfl) (fun _ _ _ h => h) (yields_slice (.tmp 59) s 12 16 12 16 rfl (by kernel_rfl) (by kernel_rfl) rfl rfl (by omega) (by omega)) trivial ?_
    simp only [Act.put, List.getElem_toArray, List.getElem_cons_succ, List.getElem_cons_zero, List.setIfInBounds_toArray, List.set_cons_zero, List.set_cons_succ]
    refine wpAnyH_take (i := 12) (v := .string s) rfl (by kernel_rfl) (by kernel_rfl) (by kernel_rfl) (fun _ _ _ h => h) (yields_move (.tmp 0) (.string s) rfl (by kernel_rfl) (by kernel_rfl)) trivial ?_
    simp only [Act.put, List.getElem_toArray, List.getElem_cons_succ, List.getElem_cons_zero, List.setIfInBounds_toArray, List.set_cons_zero, List.set_cons_succ]
    refine wpAnyH_take (i := 13) (v := .string (s.extract 16 20)) rfl (by kernel_rfl) (by kernel_rfl) (by kernel_rfl) (fun _ _ _ h => h) (yields_slice (.tmp 62) s 16 20 16 20 rfl (by kernel_rfl) (by kernel_rfl) rfl rfl (by omega) (by omega)) trivial ?_
    simp only [Act.put, List.getElem_toArray, List.getElem_cons_succ, List.getElem_cons_zero, List.setIfInBounds_toArray, List.set_cons_zero, List.set_cons_succ]
    refine wpAnyH_ready (rs := [8, 16]) (by kernel_rfl) (by simp) ?_
    refine AllReadyH.cons rfl (fun K hK => ?_) ?_
    · rw [if_pos (by kernel_rfl)]
      refine wp_callB 24 #[.string (s.extract 4 6)] (by kernel_rfl) _ (N4 _) ?_; intro w' hb; (try replace hb := below_undr' hb); replace T0 := T0.below hb; replace T4 := T4.below hb; (try replace T5 := T5.below hb); replace hB := hB.trans (hb.mono hB.size)
      refine hK.out _ _ trivial (fun _ => ?_)
      clear hK K
      try simp only [Act.put, List.getElem_toArray, List.getElem_cons_succ, List.getElem_cons_zero, List.setIfInBounds_toArray, List.set_cons_zero, List.set_cons_succ]
      refine wpAnyH_ready (rs := [11, 16]) (by kernel_rfl) (by simp) ?_
      refine AllReadyH.cons rfl (fun K hK => ?_) ?_
      · rw [if_pos (by kernel_rfl)]
        refine wp_callB 24 #[.string (s.extract 12 16)] (by kernel_rfl) _ (N12 _) ?_; intro w' hb; (try replace hb := below_undr' hb); replace T0 := T0.below hb; replace T4 := T4.below hb; (try replace T5 := T5.below hb); replace hB := hB.trans (hb.mono hB.size)
        refine hK.out _ _ trivial (fun _ => ?_)
        clear hK K
        try simp only [Act.put, List.getElem_toArray, List.getElem_cons_succ, List.getElem_cons_zero, List.setIfInBounds_toArray, List.set_cons_zero, List.set_cons_succ]
        refine wpAnyH_ready (rs := [14, 16]) (by kernel_rfl) (by simp) ?_
        refine AllReadyH.cons rfl (fun K hK => ?_) ?_
        · rw [if_pos (by kernel_rfl)]
          refine wp_callB 24 #[.string (s.extract 16 20)] (by kernel_rfl) _ (N16 _) ?_; intro w' hb; (try replace hb := below_undr' hb); replace T0 := T0.below hb; replace T4 := T4.below hb; (try replace T5 := T5.below hb); replace hB := hB.trans (hb.mono hB.size)
          refine hK.out _ _ trivial (fun _ => ?_)
          clear hK K
          try simp only [Act.put, List.getElem_toArray, List.getElem_cons_succ, List.getElem_cons_zero, List.setIfInBounds_toArray, List.set_cons_zero, List.set_cons_succ]
          refine wpAnyH_take (i := 15) (v := .agg #[.int .i64 (byt s.data.toList 9), .int .i64 (lAt s.data.toList 12), .int .i64 0, .int .i64 (lAt s.data.toList 16), .int .i64 0, .int .i64 (byt s.data.toList 8), .int .i64 (wAt s.data.toList 4), .int .i64 0, .int .i64 0, .int .i64 0, .int .i64 0, .string ⟨#[]⟩]) rfl (by kernel_rfl) (by kernel_rfl) (by kernel_rfl) (fun _ _ _ h => h) (Or.inl ⟨by kernel_rfl, by intro w _; kernel_rfl⟩) trivial ?_
          simp only [Act.put, List.getElem_toArray, List.getElem_cons_succ, List.getElem_cons_zero, List.setIfInBounds_toArray, List.set_cons_zero, List.set_cons_succ]
          refine wpAnyH_ready (rs := [16]) (by kernel_rfl) (by simp) ?_
          refine AllReadyH.cons rfl (fun K hK => ?_) ?_
          · rw [if_pos (by kernel_rfl)]
            refine wp_alloc12 rfl ?_; intro b w' eb T5 hk hbb; have lt5 : w.heap.size + 1 < b := (by rw [eb]; exact T4.lt); replace T0 := hk _ _ T0; replace T4 := hk _ _ T4; (first | (replace hB := hbb _ _ hB hB.size) | (replace hB := hbb _ _ (below_drew hB) hB.size)); clear hk hbb eb
            refine hK.out _ _ trivial (fun _ => ?_)
            clear hK K
            try simp only [Act.put, List.getElem_toArray, List.getElem_cons_succ, List.getElem_cons_zero, List.setIfInBounds_toArray, List.set_cons_zero, List.set_cons_succ]
            refine wpAnyH_ready (rs := [17]) (by kernel_rfl) (by simp) ?_
            refine AllReadyH.cons rfl (fun K hK => ?_) ?_
            · rw [if_pos (by kernel_rfl)]
              refine wp_store12 _ _ rfl b rfl #[.int .i64 (byt s.data.toList 9), .int .i64 (lAt s.data.toList 12), .int .i64 0, .int .i64 (lAt s.data.toList 16), .int .i64 0, .int .i64 (byt s.data.toList 8), .int .i64 (wAt s.data.toList 4), .int .i64 0, .int .i64 0, .int .i64 0, .int .i64 0, .string ⟨#[]⟩] rfl _ T5 rfl rfl (by kernel_rfl) ?_; intro w' T5 hk hbb; replace T0 := hk _ _ (by omega) T0; replace T4 := hk _ _ (by omega) T4; (first | (replace hB := hbb _ _ (by omega) hB) | (replace hB := hbb _ _ (by omega) (below_drew hB))); clear hk hbb
              refine hK.out _ _ trivial (fun _ => ?_)
              clear hK K
              try simp only [Act.put, List.getElem_toArray, List.getElem_cons_succ, List.getElem_cons_zero, List.setIfInBounds_toArray, List.set_cons_zero, List.set_cons_succ]
              refine wpAnyH_done (by kernel_rfl) ?_ _
              refine NoPanic.normal ?_
              go_wp2_with fail
              go_meet
              case rel => exact ⟨_, rfl, lt5, T5, T0, T4, hB⟩
            exact AllReadyH.nil
          exact AllReadyH.nil
        refine AllReadyH.cons rfl (fun K hK => ?_) ?_
        · rw [if_pos (by kernel_rfl)]
          refine wp_alloc12 rfl ?_; intro b w' eb T5 hk hbb; have lt5 : w.heap.size + 1 < b := (by rw [eb]; exact T4.lt); replace T0 := hk _ _ T0; replace T4 := hk _ _ T4; (first | (replace hB := hbb _ _ hB hB.size) | (replace hB := hbb _ _ (below_drew hB) hB.size)); clear hk hbb eb
          refine hK.out _ _ trivial (fun _ => ?_)
          clear hK K
          try simp only [Act.put, List.getElem_toArray, List.getElem_cons_succ, List.getElem_cons_zero, List.setIfInBounds_toArray, List.set_cons_zero, List.set_cons_succ]
          refine wpAnyH_ready (rs := [14]) (by kernel_rfl) (by simp) ?_
          refine AllReadyH.cons rfl (fun K hK => ?_) ?_
          · rw [if_pos (by kernel_rfl)]
            refine wp_callB 24 #[.string (s.extract 16 20)] (by kernel_rfl) _ (N16 _) ?_; intro w' hb; (try replace hb := below_undr' hb); replace T0 := T0.below hb; replace T4 := T4.below hb; (try replace T5 := T5.below hb); replace hB := hB.trans (hb.mono hB.size)
            refine hK.out _ _ trivial (fun _ => ?_)
            clear hK K
            try simp only [Act.put, List.getElem_toArray, List.getElem_cons_succ, List.getElem_cons_zero, List.setIfInBounds_toArray, List.set_cons_zero, List.set_cons_succ]
            refine wpAnyH_take (i := 15) (v := .agg #[.int .i64 (byt s.data.toList 9), .int .i64 (lAt s.data.toList 12), .int .i64 0, .int .i64 (lAt s.data.toList 16), .int .i64 0, .int .i64 (byt s.data.toList 8), .int .i64 (wAt s.data.toList 4), .int .i64 0, .int .i64 0, .int .i64 0, .int .i64 0, .string ⟨#[]⟩]) rfl (by kernel_rfl) (by kernel_rfl) (by kernel_rfl) (fun _ _ _ h => h) (Or.inl ⟨by kernel_rfl, by intro w _; kernel_rfl⟩) trivial ?_
            simp only [Act.put, List.getElem_toArray, List.getElem_cons_succ, List.getElem_cons_zero, List.setIfInBounds_toArray, List.set_cons_zero, List.set_cons_succ]
            refine wpAnyH_ready (rs := [17]) (by kernel_rfl) (by simp) ?_
            refine AllReadyH.cons rfl (fun K hK => ?_) ?_
            · rw [if_pos (by kernel_rfl)]
              refine wp_store12 _ _ rfl b rfl #[.int .i64 (byt s.data.toList 9), .int .i64 (lAt s.data.toList 12), .int .i64 0, .int .i64 (lAt s.data.toList 16), .int .i64 0, .int .i64 (byt s.data.toList 8), .int .i64 (wAt s.data.toList 4), .int .i64 0, .int .i64 0, .int .i64 0, .int .i64 0, .string ⟨#[]⟩] rfl _ T5 rfl rfl (by kernel_rfl) ?_; intro w' T5 hk hbb; replace T0 := hk _ _ (by omega) T0; replace T4 := hk _ _ (by omega) T4; (first | (replace hB := hbb _ _ (by omega) hB) | (replace hB := hbb _ _ (by omega) (below_drew hB))); clear hk hbb
              refine hK.out _ _ trivial (fun _ => ?_)
              clear hK K
              try simp only [Act.put, List.getElem_toArray, List.getElem_cons_succ, List.getElem_cons_zero, List.setIfInBounds_toArray, List.set_cons_zero, List.set_cons_succ]
              refine wpAnyH_done (by kernel_rfl) ?_ _
              refine NoPanic.normal ?_
              go_wp2_with fail
              go_meet
              case rel => exact ⟨_, rfl, lt5, T5, T0, T4, hB⟩
            exact AllReadyH.nil
          exact AllReadyH.nil
        exact AllReadyH.nil
      refine AllReadyH.cons rfl (fun K hK => ?_) ?_
      · rw [if_pos (by kernel_rfl)]
        refine wp_alloc12 rfl ?_; intro b w' eb T5 hk hbb; have lt5 : w.heap.size + 1 < b := (by rw [eb]; exact T4.lt); replace T0 := hk _ _ T0; replace T4 := hk _ _ T4; (first | (replace hB := hbb _ _ hB hB.size) | (replace hB := hbb _ _ (below_drew hB) hB.size)); clear hk hbb eb
        refine hK.out _ _ trivial (fun _ => ?_)
        clear hK K
        try simp only [Act.put, List.getElem_toArray, List.getElem_cons_succ, List.getElem_cons_zero, List.setIfInBounds_toArray, List.set_cons_zero, List.set_cons_succ]
        refine wpAnyH_ready (rs := [11]) (by kernel_rfl) (by simp) ?_
        refine AllReadyH.cons rfl (fun K hK => ?_) ?_
        · rw [if_pos (by kernel_rfl)]
          refine wp_callB 24 #[.string (s.extract 12 16)] (by kernel_rfl) _ (N12 _) ?_; intro w' hb; (try replace hb := below_undr' hb); replace T0 := T0.below hb; replace T4 := T4.below hb; (try replace T5 := T5.below hb); replace hB := hB.trans (hb.mono hB.size)
          refine hK.out _ _ trivial (fun _ => ?_)
          clear hK K
          try simp only [Act.put, List.getElem_toArray, List.getElem_cons_succ, List.getElem_cons_zero, List.setIfInBounds_toArray, List.set_cons_zero, List.set_cons_succ]
          refine wpAnyH_ready (rs := [14]) (by kernel_rfl) (by simp) ?_
          refine AllReadyH.cons rfl (fun K hK => ?_) ?_
          · rw [if_pos (by kernel_rfl)]
            refine wp_callB 24 #[.string (s.extract 16 20)] (by kernel_rfl) _ (N16 _) ?_; intro w' hb; (try replace hb := below_undr' hb); replace T0 := T0.below hb; replace T4 := T4.below hb; (try replace T5 := T5.below hb); replace hB := hB.trans (hb.mono hB.size)
            refine hK.out _ _ trivial (fun _ => ?_)
            clear hK K
            try simp only [Act.put, List.getElem_toArray, List.getElem_cons_succ, List.getElem_cons_zero, List.setIfInBounds_toArray, List.set_cons_zero, List.set_cons_succ]
            refine wpAnyH_take (i := 15) (v := .agg #[.int .i64 (byt s.data.toList 9), .int .i64 (lAt s.data.toList 12), .int .i64 0, .int .i64 (lAt s.data.toList 16), .int .i64 0, .int .i64 (byt s.data.toList 8), .int .i64 (wAt s.data.toList 4), .int .i64 0, .int .i64 0, .int .i64 0, .int .i64 0, .string ⟨#[]⟩]) rfl (by kernel_rfl) (by kernel_rfl) (by kernel_rfl) (fun _ _ _ h => h) (Or.inl ⟨by kernel_rfl, by intro w _; kernel_rfl⟩) trivial ?_
            simp only [Act.put, List.getElem_toArray, List.getElem_cons_succ, List.getElem_cons_zero, List.setIfInBounds_toArray, List.set_cons_zero, List.set_cons_succ]
            refine wpAnyH_ready (rs := [17]) (by kernel_rfl) (by simp) ?_
            refine AllReadyH.cons rfl (fun K hK => ?_) ?_
            · rw [if_pos (by kernel_rfl)]
              refine wp_store12 _ _ rfl b rfl #[.int .i64 (byt s.data.toList 9), .int .i64 (lAt s.data.toList 12), .int .i64 0, .int .i64 (lAt s.data.toList 16), .int .i64 0, .int .i64 (byt s.data.toList 8), .int .i64 (wAt s.data.toList 4), .int .i64 0, .int .i64 0, .int .i64 0, .int .i64 0, .string ⟨#[]⟩] rfl _ T5 rfl rfl (by kernel_rfl) ?_; intro w' T5 hk hbb; replace T0 := hk _ _ (by omega) T0; replace T4 := hk _ _ (by omega) T4; (first | (replace hB := hbb _ _ (by omega) hB) | (replace hB := hbb _ _ (by omega) (below_drew hB))); clear hk hbb
              refine hK.out _ _ trivial (fun _ => ?_)
              clear hK K
              try simp only [Act.put, List.getElem_toArray, List.getElem_cons_succ, List.getElem_cons_zero, List.setIfInBounds_toArray, List.set_cons_zero, List.set_cons_succ]
              refine wpAnyH_done (by kernel_rfl) ?_ _
              refine NoPanic.normal ?_
              go_wp2_with fail
              go_meet
              case rel => exact ⟨_, rfl, lt5, T5, T0, T4, hB⟩
            exact AllReadyH.nil
          exact AllReadyH.nil
        exact AllReadyH.nil
      exact AllReadyH.nil
    refine AllReadyH.cons rfl (fun K hK => ?_) ?_
    · rw [if_pos (by kernel_rfl)]
      refine wp_alloc12 rfl ?_; intro b w' eb T5 hk hbb; have lt5 : w.heap.size + 1 < b := (by rw [eb]; exact T4.lt); replace T0 := hk _ _ T0; replace T4 := hk _ _ T4; (first | (replace hB := hbb _ _ hB hB.size) | (replace hB := hbb _ _ (below_drew hB) hB.size)); clear hk hbb eb
      refine hK.out _ _ trivial (fun _ => ?_)
      clear hK K
      try simp only [Act.put, List.getElem_toArray, List.getElem_cons_succ, List.getElem_cons_zero, List.setIfInBounds_toArray, List.set_cons_zero, List.set_cons_succ]
      refine wpAnyH_ready (rs := [8]) (by kernel_rfl) (by simp) ?_
      refine AllReadyH.cons rfl (fun K hK => ?_) ?_
      · rw [if_pos (by kernel_rfl)]
        refine wp_callB 24 #[.string (s.extract 4 6)] (by kernel_rfl) _ (N4 _) ?_; intro w' hb; (try replace hb := below_undr' hb); replace T0 := T0.below hb; replace T4 := T4.below hb; (try replace T5 := T5.below hb); replace hB := hB.trans (hb.mono hB.size)
        refine hK.out _ _ trivial (fun _ => ?_)
        clear hK K
        try simp only [Act.put, List.getElem_toArray, List.getElem_cons_succ, List.getElem_cons_zero, List.setIfInBounds_toArray, List.set_cons_zero, List.set_cons_succ]
        refine wpAnyH_ready (rs := [11]) (by kernel_rfl) (by simp) ?_
        refine AllReadyH.cons rfl (fun K hK => ?_) ?_
        · rw [if_pos (by kernel_rfl)]
          refine wp_callB 24 #[.string (s.extract 12 16)] (by kernel_rfl) _ (N12 _) ?_; intro w' hb; (try replace hb := below_undr' hb); replace T0 := T0.below hb; replace T4 := T4.below hb; (try replace T5 := T5.below hb); replace hB := hB.trans (hb.mono hB.size)
          refine hK.out _ _ trivial (fun _ => ?_)
          clear hK K
          try simp only [Act.put, List.getElem_toArray, List.getElem_cons_succ, List.getElem_cons_zero, List.setIfInBounds_toArray, List.set_cons_zero, List.set_cons_succ]
          refine wpAnyH_ready (rs := [14]) (by kernel_rfl) (by simp) ?_
          refine AllReadyH.cons rfl (fun K hK => ?_) ?_
          · rw [if_pos (by kernel_rfl)]
            refine wp_callB 24 #[.string (s.extract 16 20)] (by kernel_rfl) _ (N16 _) ?_; intro w' hb; (try replace hb := below_undr' hb); replace T0 := T0.below hb; replace T4 := T4.below hb; (try replace T5 := T5.below hb); replace hB := hB.trans (hb.mono hB.size)
            refine hK.out _ _ trivial (fun _ => ?_)
            clear hK K
            try simp only [Act.put, List.getElem_toArray, List.getElem_cons_succ, List.getElem_cons_zero, List.setIfInBounds_toArray, List.set_cons_zero, List.set_cons_succ]
            refine wpAnyH_take (i := 15) (v := .agg #[.int .i64 (byt s.data.toList 9), .int .i64 (lAt s.data.toList 12), .int .i64 0, .int .i64 (lAt s.data.toList 16), .int .i64 0, .int .i64 (byt s.data.toList 8), .int .i64 (wAt s.data.toList 4), .int .i64 0, .int .i64 0, .int .i64 0, .int .i64 0, .string ⟨#[]⟩]) rfl (by kernel_rfl) (by kernel_rfl) (by kernel_rfl) (fun _ _ _ h => h) (Or.inl ⟨by kernel_rfl, by intro w _; kernel_rfl⟩) trivial ?_
            simp only [Act.put, List.getElem_toArray, List.getElem_cons_succ, List.getElem_cons_zero, List.setIfInBounds_toArray, List.set_cons_zero, List.set_cons_succ]
            refine wpAnyH_ready (rs := [17]) (by kernel_rfl) (by simp) ?_
            refine AllReadyH.cons rfl (fun K hK => ?_) ?_
            · rw [if_pos (by kernel_rfl)]
              refine wp_store12 _ _ rfl b rfl #[.int .i64 (byt s.data.toList 9), .int .i64 (lAt s.data.toList 12), .int .i64 0, .int .i64 (lAt s.data.toList 16), .int .i64 0, .int .i64 (byt s.data.toList 8), .int .i64 (wAt s.data.toList 4), .int .i64 0, .int .i64 0, .int .i64 0, .int .i64 0, .string ⟨#[]⟩] rfl _ T5 rfl rfl (by kernel_rfl) ?_; intro w' T5 hk hbb; replace T0 := hk _ _ (by omega) T0; replace T4 := hk _ _ (by omega) T4; (first | (replace hB := hbb _ _ (by omega) hB) | (replace hB := hbb _ _ (by omega) (below_drew hB))); clear hk hbb
              refine hK.out _ _ trivial (fun _ => ?_)
              clear hK K
              try simp only [Act.put, List.getElem_toArray, List.getElem_cons_succ, List.getElem_cons_zero, List.setIfInBounds_toArray, List.set_cons_zero, List.set_cons_succ]
              refine wpAnyH_done (by kernel_rfl) ?_ _
              refine NoPanic.normal ?_
              go_wp2_with fail
              go_meet
              case rel => exact ⟨_, rfl, lt5, T5, T0, T4, hB⟩
            exact AllReadyH.nil
          exact AllReadyH.nil
        exact AllReadyH.nil
      exact AllReadyH.nil
    exact AllReadyH.nil
  case rest =>
    clear T0 T4 hB c0 c4 f0
    obtain ⟨b, rfl, hb1, T5, T0, T4, hB⟩ := hcut
    replace c0 := T0.cell; replace c4 := T4.cell; replace f0 := T0.free; replace c5 := T5.cell; replace f5 := T5.free
    have z2 : (s.extract 20 s.size).size = s.size - 20 := ext_size s 20 s.size (Nat.le_refl _)
    have z3 : ((s.extract 20 s.size).size : Int) = (s.size : Int) - 20 := by omega
    have z4 : ((s.size - 20 : Nat) : Int) = (s.size : Int) - 20 := by omega
    have b9 := byt_bd s.data.toList 9
    have CA := fun w => ahead_any (lAt s.data.toList 12) (lAt s.data.toList 16) (byt s.data.toList 9) ((s.size : Int) - 20) w b9 (lAt_bd _ _) (lAt_bd _ _) (by omega)
    have hps : (txt (ps (lAt s.data.toList 12) (lAt s.data.toList 16) (byt s.data.toList 9) ((s.size : Int) - 20))).size ≤ 12 := by rw [txt_size]; unfold ps; split <;> simp
    have CS : ∀ w, Calls Try.prog 25 #[.string (txt (ps (lAt s.data.toList 12) (lAt s.data.toList 16) (byt s.data.toList 9) ((s.size : Int) - 20)) ++ s.extract 20 s.size)] w fun e w' => e = .returned (.int .i64 (bk (tot (chkd s.data.toList (byt s.data.toList 9))))) ∧ Below w.heap.size w w' := by
      intro w
      have := sumRef_any (txt (ps (lAt s.data.toList 12) (lAt s.data.toList 16) (byt s.data.toList 9) ((s.size : Int) - 20)) ++ s.extract 20 s.size) w (by rw [ByteArray.size_append]; omega)
      rw [ByteArray.data_append, Array.toList_append, txt_list, ext_from, ← hll, ps_chkd _ _ (by omega)] at this
      exact this
    have k9 : byt s.data.toList 9 = 1 := hk9.out
    have e1 : (byt s.data.toList 9 == 1) = true := by rw [k9]; rfl
    have e6 : (byt s.data.toList 9 == 6) = false := by rw [k9]; rfl
    have e17 : (byt s.data.toList 9 == 17) = false := by rw [k9]; rfl
    have HPN : Hid (partN (byt s.data.toList 9) = 8) := by show _ = _; rw [k9]; rfl
    have HK : Hid (byt s.data.toList 9 = 1) := k9
    have HH : Hid (HeadOk s.data.toList) := ⟨by omega, H.mark, H.size, H.sum, H.serv, H.piece, H.ttl, by rw [k9]; rfl⟩
    clear k9
    by_cases hsh : (s.size : Int) - 20 < 8
    · have hbd : Hid (bad s.data.toList = 1) := pb_len s.data.toList HH.out (by rw [HPN.out, hll]; exact hsh)
      go_wp2
      refine bodyPost_ret (v := .tuple #[pv p0, .int .i64 1]) (by simp [results, Try.results10, go_sem, pv, p0, c0]; rfl) rfl ⟨by rw [parsed_bad _ 1 hbd.out (by omega), hbd.out], ?_⟩
      iterate 12 (refine Below.setCell ?_ (by exact Nat.le_refl _) _)
      exact hB

    have hn : (8 : Int) ≤ (s.size : Int) - 20 := by omega
    clear hsh
    have HL : Hid (partN (byt s.data.toList 9) ≤ (s.data.toList.length : Int) - 20) := by show _ ≤ _; rw [HPN.out, hll]; exact hn
    by_cases hsum : bk (tot (chkd s.data.toList (byt s.data.toList 9))) = 65535
    rotate_left
    · have hbd : Hid (bad s.data.toList = 3) := pb_sum s.data.toList HH.out HL.out hsum
      have ds : (bk (tot (chkd s.data.toList (byt s.data.toList 9))) != 65535) = true := by simpa using hsum
      clear hsum
      go_wp2_with (first
          | (go_at_call 26; go_fit (CA _); rintro e w' ⟨rfl, hb⟩; (try replace hb := below_undr' hb); replace T0 := T0.below hb; replace T4 := T4.below hb; replace T5 := T5.below hb; replace c0 := T0.cell; replace c4 := T4.cell; replace f0 := T0.free; replace c5 := T5.cell; replace f5 := T5.free; replace hB := hB.trans (hb.mono hB.size))
          | (go_at_call 25; go_fit (CS _); rintro e w' ⟨rfl, hb⟩; (try replace hb := below_undr' hb); replace T0 := T0.below hb; replace T4 := T4.below hb; replace T5 := T5.below hb; replace c0 := T0.cell; replace c4 := T4.cell; replace f0 := T0.free; replace c5 := T5.cell; replace f5 := T5.free; replace hB := hB.trans (hb.mono hB.size)))
      refine bodyPost_ret (v := .tuple #[pv p0, .int .i64 3]) (by simp [results, Try.results10, go_sem, pv, p0, c0]; rfl) rfl ⟨by rw [parsed_bad _ 3 hbd.out (by omega), hbd.out], ?_⟩
      iterate 12 (refine Below.setCell ?_ (by exact Nat.le_refl _) _)
      exact hB

    have HS : Hid (bk (tot (chkd s.data.toList (byt s.data.toList 9))) = 65535) := hsum
    have ds : (bk (tot (chkd s.data.toList (byt s.data.toList 9))) != 65535) = false := by simpa using hsum
    clear hsum
    go_upto_region 23 with (first
          | (go_at_call 26; go_fit (CA _); rintro e w' ⟨rfl, hb⟩; (try replace hb := below_undr' hb); replace T0 := T0.below hb; replace T4 := T4.below hb; replace T5 := T5.below hb; replace c0 := T0.cell; replace c4 := T4.cell; replace f0 := T0.free; replace c5 := T5.cell; replace f5 := T5.free; replace hB := hB.trans (hb.mono hB.size))
          | (go_at_call 25; go_fit (CS _); rintro e w' ⟨rfl, hb⟩; (try replace hb := below_undr' hb); replace T0 := T0.below hb; replace T4 := T4.below hb; replace T5 := T5.below hb; replace c0 := T0.cell; replace c4 := T4.cell; replace f0 := T0.free; replace c5 := T5.cell; replace f5 := T5.free; replace hB := hB.trans (hb.mono hB.size)))
    go_cut [] (fun wx => Twelve wx b #[.int .i64 (byt s.data.toList 9), .int .i64 (lAt s.data.toList 12), .int .i64 0, .int .i64 (lAt s.data.toList 16), .int .i64 0, .int .i64 (byt s.data.toList 8), .int .i64 (wAt s.data.toList 4), .int .i64 0, .int .i64 0, .int .i64 0, .int .i64 0, .string ((s.extract 20 s.size).extract 8 (s.extract 20 s.size).size)] ∧ Twelve wx w.heap.size #[.int .i64 0, .int .i64 0, .int .i64 0, .int .i64 0, .int .i64 0, .int .i64 0, .int .i64 0, .int .i64 0, .int .i64 0, .int .i64 0, .int .i64 0, .string ⟨#[]⟩] ∧ Twelve wx (w.heap.size + 1) #[.int .i64 0, .int .i64 0, .int .i64 0, .int .i64 0, .int .i64 0, .int .i64 0, .int .i64 0, .int .i64 0, .int .i64 0, .int .i64 0, .int .i64 0, .string ⟨#[]⟩] ∧ Below w.heap.size w wx)
    case first =>
      go_wp2_with fail
      go_meet
      case rel => exact ⟨by have := T5.set 11 (.string ((s.extract 20 s.size).extract 8 (s.extract 20 s.size).size)); simpa using this, twelve_other T0 (by omega), twelve_other T4 (by omega), hB.setCell (by show w.heap.size ≤ b; omega) _⟩
    case rest =>
    clear T0 T4 T5 hB c0 c4 c5 f0 f5
    obtain ⟨T5, T0, T4, hB⟩ := hcut
    replace c0 := T0.cell; replace c4 := T4.cell; replace f0 := T0.free; replace c5 := T5.cell; replace f5 := T5.free
    have i0 : (0 : Int) < (s.size : Int) - 20 := by omega
    have i1 : (1 : Int) < (s.size : Int) - 20 := by omega
    have ge0 : ∀ h, (((s.extract 20 s.size)[0]'h).toNat : Int) = byt s.data.toList 20 := fun h => get_ext s 0 h
    have ge1 : ∀ h, (((s.extract 20 s.size)[1]'h).toNat : Int) = byt s.data.toList 21 := fun h => get_ext s 1 h
    by_cases q1 : byt s.data.toList 20 ≠ 0 ∧ byt s.data.toList 20 ≠ 8
    · have hbd : Hid (bad s.data.toList = 4) := pb_ping s.data.toList HH.out HL.out HS.out HK.out (.inl q1)
      have u1 : (byt s.data.toList 20 != 0) = true := by simpa using q1.1
      have u2 : (byt s.data.toList 20 != 8) = true := by simpa using q1.2
      clear q1
      go_wp2
      refine bodyPost_ret (v := .tuple #[pv p0, .int .i64 4]) (by simp [results, Try.results10, go_sem, pv, p0, c0]; rfl) rfl ⟨by rw [parsed_bad _ 4 hbd.out (by omega), hbd.out], ?_⟩
      iterate 12 (refine Below.setCell ?_ (by exact Nat.le_refl _) _)
      exact hB

    have u2 : byt s.data.toList 20 = 8 → (byt s.data.toList 20 != 0) = true ∧ (byt s.data.toList 20 != 8) = false ∧ (byt s.data.toList 20 == 8) = true := fun h => by rw [h]; decide
    have u3 : byt s.data.toList 20 = 0 → (byt s.data.toList 20 != 0) = false ∧ (byt s.data.toList 20 == 8) = false := fun h => by rw [h]; decide
    have Q1 : Hid (byt s.data.toList 20 = 0 ∨ byt s.data.toList 20 = 8) := by show _ ∨ _; omega
    clear q1
    by_cases y1 : byt s.data.toList 21 = 0
    · exact absurd ⟨hn, HS.out, Q1.out, y1⟩ hv.out
    have hbd : Hid (bad s.data.toList = 4) := pb_ping s.data.toList HH.out HL.out HS.out HK.out (.inr y1)
    have v1 : (byt s.data.toList 21 != 0) = true := by simpa using y1
    clear y1
    rcases Q1.out with q | q
    · obtain ⟨w1, w2⟩ := u3 q
      clear q u2 u3
      go_wp2
      refine bodyPost_ret (v := .tuple #[pv p0, .int .i64 4]) (by simp [results, Try.results10, go_sem, pv, p0, c0]; rfl) rfl ⟨by rw [parsed_bad _ 4 hbd.out (by omega), hbd.out], ?_⟩
      iterate 12 (refine Below.setCell ?_ (by exact Nat.le_refl _) _)
      exact hB

    · obtain ⟨w1, w2, w3⟩ := u2 q
      clear q u2 u3
      go_wp2
      refine bodyPost_ret (v := .tuple #[pv p0, .int .i64 4]) (by simp [results, Try.results10, go_sem, pv, p0, c0]; rfl) rfl ⟨by rw [parsed_bad _ 4 hbd.out (by omega), hbd.out], ?_⟩
      iterate 12 (refine Below.setCell ?_ (by exact Nat.le_refl _) _)
      exact hB

set_option maxRecDepth 10000 in
set_option maxHeartbeats 40000000 in
theorem pref_udpe (s : ByteArray) (w : World) (hs : s.size ≤ 65535) (h20 : 20 ≤ s.size) (H : HeadO s.data.toList) (hk9 : Hid (byt s.data.toList 9 = 17)) (hv : Hid (¬ ((8 : Int) ≤ (s.size : Int) - 20 ∧ bk (tot (chkd s.data.toList (byt s.data.toList 9))) = 65535 ∧ ¬ (byt s.data.toList 26 = 0 ∧ byt s.data.toList 27 = 0)))) :
    Calls Try.prog 10 #[.string s] w fun e w' => e = .returned (.tuple #[pv (parsed s.data.toList), .int .i64 (bad s.data.toList)]) ∧ Below w.heap.size w w' := by
  have hll := len_list s
  have T0 : Twelve ((w.alloc (.cells #[.int .i64 0, .int .i64 0, .int .i64 0, .int .i64 0, .int .i64 0, .int .i64 0, .int .i64 0, .int .i64 0, .int .i64 0, .int .i64 0, .int .i64 0, .string ⟨#[]⟩] 23)).alloc (.cells #[.int .i64 0, .int .i64 0, .int .i64 0, .int .i64 0, .int .i64 0, .int .i64 0, .int .i64 0, .int .i64 0, .int .i64 0, .int .i64 0, .int .i64 0, .string ⟨#[]⟩] 23)) w.heap.size #[.int .i64 0, .int .i64 0, .int .i64 0, .int .i64 0, .int .i64 0, .int .i64 0, .int .i64 0, .int .i64 0, .int .i64 0, .int .i64 0, .int .i64 0, .string ⟨#[]⟩] := (Below.heap_alloc _ _ _ (by simp)).trans (heap_alloc_new w _)
  have T4 : Twelve ((w.alloc (.cells #[.int .i64 0, .int .i64 0, .int .i64 0, .int .i64 0, .int .i64 0, .int .i64 0, .int .i64 0, .int .i64 0, .int .i64 0, .int .i64 0, .int .i64 0, .string ⟨#[]⟩] 23)).alloc (.cells #[.int .i64 0, .int .i64 0, .int .i64 0, .int .i64 0, .int .i64 0, .int .i64 0, .int .i64 0, .int .i64 0, .int .i64 0, .int .i64 0, .int .i64 0, .string ⟨#[]⟩] 23)) (w.heap.size + 1) #[.int .i64 0, .int .i64 0, .int .i64 0, .int .i64 0, .int .i64 0, .int .i64 0, .int .i64 0, .int .i64 0, .int .i64 0, .int .i64 0, .int .i64 0, .string ⟨#[]⟩] := by
    have := heap_alloc_new (w.alloc (.cells #[.int .i64 0, .int .i64 0, .int .i64 0, .int .i64 0, .int .i64 0, .int .i64 0, .int .i64 0, .int .i64 0, .int .i64 0, .int .i64 0, .int .i64 0, .string ⟨#[]⟩] 23)) (.cells #[.int .i64 0, .int .i64 0, .int .i64 0, .int .i64 0, .int .i64 0, .int .i64 0, .int .i64 0, .int .i64 0, .int .i64 0, .int .i64 0, .int .i64 0, .string ⟨#[]⟩] 23)
    simpa [Twelve] using this
  have hB : Below w.heap.size w ((w.alloc (.cells #[.int .i64 0, .int .i64 0, .int .i64 0, .int .i64 0, .int .i64 0, .int .i64 0, .int .i64 0, .int .i64 0, .int .i64 0, .int .i64 0, .int .i64 0, .string ⟨#[]⟩] 23)).alloc (.cells #[.int .i64 0, .int .i64 0, .int .i64 0, .int .i64 0, .int .i64 0, .int .i64 0, .int .i64 0, .int .i64 0, .int .i64 0, .int .i64 0, .int .i64 0, .string ⟨#[]⟩] 23)) := ((Below.refl _ _).alloc (Nat.le_refl _) _).alloc (by simp) _
  replace c0 := T0.cell; replace c4 := T4.cell; replace f0 := T0.free

  have N2 := fun w => num2_any s 2 4 w rfl (by omega)
  have N4 := fun w => num2_any s 4 6 w rfl (by omega)
  have N12 := fun w => num4_any s 12 16 w rfl (by omega)
  have N16 := fun w => num4_any s 16 20 w rfl (by omega)
  have SH := fun w => sum20_any s w h20
  have g0 : ∀ h, ((s[0]'h).toNat : Int) = byt s.data.toList 0 := fun h => byt_get s 0 h
  have g1 : ∀ h, ((s[1]'h).toNat : Int) = byt s.data.toList 1 := fun h => byt_get s 1 h
  have g6 : ∀ h, ((s[6]'h).toNat : Int) = byt s.data.toList 6 := fun h => byt_get s 6 h
  have g7 : ∀ h, ((s[7]'h).toNat : Int) = byt s.data.toList 7 := fun h => byt_get s 7 h
  have g8 : ∀ h, ((s[8]'h).toNat : Int) = byt s.data.toList 8 := fun h => byt_get s 8 h
  have g9 : ∀ h, ((s[9]'h).toNat : Int) = byt s.data.toList 9 := fun h => byt_get s 9 h
  have e6 : byt s.data.toList 6 = 0 ∧ byt s.data.toList 7 = 0 := by
    have := H.piece; rw [show wAt s.data.toList 6 = byt s.data.toList 6 * 256 + byt s.data.toList 7 from rfl] at this
    have := byt_bd s.data.toList 6; have := byt_bd s.data.toList 7; omega
  have d0 : (byt s.data.toList 0 != 69) = false := by simpa using H.mark
  have d1 : (wAt s.data.toList 2 != (s.size : Int)) = false := by have := H.size; rw [hll] at this; simpa using this
  have d2 : (bk (tot (s.data.toList.take 20)) != 65535) = false := by simpa using H.sum
  have d3 : (byt s.data.toList 1 != 0) = false := by simpa using H.serv
  have d4 : (byt s.data.toList 6 != 0) = false := by simpa using e6.1
  have d5 : (byt s.data.toList 7 != 0) = false := by simpa using e6.2
  have d6 : (byt s.data.toList 8 == 0) = false := by simpa using H.ttl
  have iw8 : IntKind.i64.wrap (byt s.data.toList 8) = byt s.data.toList 8 := wrap_i64 _ (by have := byt_bd s.data.toList 8; omega) (by have := byt_bd s.data.toList 8; omega)
  have iw9 : IntKind.i64.wrap (byt s.data.toList 9) = byt s.data.toList 9 := wrap_i64 _ (by have := byt_bd s.data.toList 9; omega) (by have := byt_bd s.data.toList 9; omega)
  have z20 : (20 : Int) ≤ (s.size : Int) := by omega
  have zz : ∀ k : Int, k < 20 → k < (s.size : Int) := fun k h => by omega
  have zy : ∀ k : Int, k < 20 → k ≤ (s.size : Int) := fun k h => by omega
  have z0 := zz 0 (by omega); have z1 := zz 1 (by omega); have z4 := zy 4 (by omega)
  have z6 := zz 6 (by omega); have z7 := zz 7 (by omega); have z8 := zz 8 (by omega); have z9 := zz 9 (by omega)
  have y6 := zy 6 (by omega); have y16 := zy 16 (by omega); have y12 := zy 12 (by omega)
  clear zz zy
  have Hnone : Hid (kindB (byt s.data.toList 9) = false → bad s.data.toList = 4) := fun h => hb_7 s.data.toList (by omega) H.mark H.size H.sum H.serv e6.1 e6.2 H.ttl h
  clear e6
  have Hbad : Hid (bad s.data.toList = bad s.data.toList) := rfl
  generalize hsh : bk (tot (s.data.toList.take 20)) = sh at *
  generalize byt s.data.toList 0 = x0 at *
  generalize byt s.data.toList 1 = x1 at *
  generalize byt s.data.toList 6 = x6 at *
  generalize byt s.data.toList 7 = x7 at *
  go_enter Try.func10, Try.ntmps10
  go_upto_region 8 with (first
    | (go_at_call 24; go_fit (N2 _); rintro e w' ⟨rfl, hb⟩; (try replace hb := below_undr' hb); replace T0 := T0.below hb; replace T4 := T4.below hb; replace c0 := T0.cell; replace c4 := T4.cell; replace f0 := T0.free; replace hB := hB.trans (hb.mono hB.size))
    | (go_at_call 25; go_fit (SH _); rintro e w' ⟨rfl, hb⟩; (try replace hb := below_undr' hb); replace T0 := T0.below hb; replace T4 := T4.below hb; replace c0 := T0.cell; replace c4 := T4.cell; replace f0 := T0.free; replace hB := hB.trans (hb.mono hB.size)))
  go_cut [48] (fun s48 wx => s48 = .bool false ∧ Twelve wx w.heap.size #[.int .i64 0, .int .i64 0, .int .i64 0, .int .i64 0, .int .i64 0, .int .i64 0, .int .i64 0, .int .i64 0, .int .i64 0, .int .i64 0, .int .i64 0, .string ⟨#[]⟩] ∧ Twelve wx (w.heap.size + 1) #[.int .i64 0, .int .i64 0, .int .i64 0, .int .i64 0, .int .i64 0, .int .i64 0, .int .i64 0, .int .i64 0, .int .i64 0, .int .i64 0, .int .i64 0, .string ⟨#[]⟩] ∧ Below w.heap.size w wx)
  case first =>
    go_wp2_with fail
    go_meet
    case rel => exact ⟨rfl, T0, T4, hB⟩
  case rest =>
  clear T0 T4 hB c0 c4 f0
  obtain ⟨rfl, T0, T4, hB⟩ := hcut
  replace c0 := T0.cell; replace c4 := T4.cell; replace f0 := T0.free
  go_upto_region 10 with fail
  go_cut [5] (fun s5 wx => ∃ b, s5 = .pointer (some ⟨b, 0, none⟩) ∧ w.heap.size + 1 < b ∧ Twelve wx b #[.int .i64 (byt s.data.toList 9), .int .i64 (lAt s.data.toList 12), .int .i64 0, .int .i64 (lAt s.data.toList 16), .int .i64 0, .int .i64 (byt s.data.toList 8), .int .i64 (wAt s.data.toList 4), .int .i64 0, .int .i64 0, .int .i64 0, .int .i64 0, .string ⟨#[]⟩] ∧ Twelve wx w.heap.size #[.int .i64 0, .int .i64 0, .int .i64 0, .int .i64 0, .int .i64 0, .int .i64 0, .int .i64 0, .int .i64 0, .int .i64 0, .int .i64 0, .int .i64 0, .string ⟨#[]⟩] ∧ Twelve wx (w.heap.size + 1) #[.int .i64 0, .int .i64 0, .int .i64 0, .int .i64 0, .int .i64 0, .int .i64 0, .int .i64 0, .int .i64 0, .int .i64 0, .int .i64 0, .int .i64 0, .string ⟨#[]⟩] ∧ Below w.heap.size w wx)
  case first =>
    refine wp_region_noPanic ?_
    refine wp_region_held_drew (S := fun _ => True) (by kernel_rfl) trivial (fun _ => ?_)
    refine wpAnyH_take (i := 0) (v := .string s) rfl (by kernel_rfl) (by kernel_rfl) (by kernel_rfl) (fun _ _ _ h => h) (yields_move (.tmp 0) (.string s) rfl (by kernel_rfl) (by kernel_rfl)) trivial ?_
    simp only [Act.put, List.getElem_toArray, List.getElem_cons_succ, List.getElem_cons_zero, List.setIfInBounds_toArray, List.set_cons_zero, List.set_cons_succ]
    refine wpAnyH_take (i := 1) (v := .int .u8 (byt s.data.toList 9)) rfl (by kernel_rfl) (by kernel_rfl) (by kernel_rfl) (fun _ _ _ h => h) (yields_index (.tmp 50) s 9 9 _ rfl (by kernel_rfl) (by kernel_rfl) rfl (by omega) g9) trivial ?_
    simp only [Act.put, List.getElem_toArray, List.getElem_cons_succ, List.getElem_cons_zero, List.setIfInBounds_toArray, List.set_cons_zero, List.set_cons_succ]
    refine wpAnyH_take (i := 2) (v := .int .i64 (byt s.data.toList 9)) rfl (by kernel_rfl) (by kernel_rfl) (by kernel_rfl) (fun _ _ _ h => h) (yields_conv (.tmp 51) (byt s.data.toList 9) rfl (by kernel_rfl) (by kernel_rfl) iw9) trivial ?_
    simp only [Act.put, List.getElem_toArray, List.getElem_cons_succ, List.getElem_cons_zero, List.setIfInBounds_toArray, List.set_cons_zero, List.set_cons_succ]
    refine wpAnyH_take (i := 3) (v := .string s) rfl (by kernel_rfl) (by kernel_rfl) (by kernel_rfl) (fun _ _ _ h => h) (yields_move (.tmp 0) (.string s) rfl (by kernel_rfl) (by kernel_rfl)) trivial ?_
    simp only [Act.put, List.getElem_toArray, List.getElem_cons_succ, List.getElem_cons_zero, List.setIfInBounds_toArray, List.set_cons_zero, List.set_cons_succ]
    refine wpAnyH_take (i := 4) (v := .int .u8 (byt s.data.toList 8)) rfl (by kernel_rfl) (by kernel_rfl) (by kernel_rfl) (fun _ _ _ h => h) (yields_index (.tmp 53) s 8 8 _ rfl (by kernel_rfl) (by kernel_rfl) rfl (by omega) g8) trivial ?_
    simp only [Act.put, List.getElem_toArray, List.getElem_cons_succ, List.getElem_cons_zero, List.setIfInBounds_toArray, List.set_cons_zero, List.set_cons_succ]
    refine wpAnyH_take (i := 5) (v := .int .i64 (byt s.data.toList 8)) rfl (by kernel_rfl) (by kernel_rfl) (by kernel_rfl) (fun _ _ _ h => h) (yields_conv (.tmp 54) (byt s.data.toList 8) rfl (by kernel_rfl) (by kernel_rfl) iw8) trivial ?_
    simp only [Act.put, List.getElem_toArray, List.getElem_cons_succ, List.getElem_cons_zero, List.setIfInBounds_toArray, List.set_cons_zero, List.set_cons_succ]
    refine wpAnyH_take (i := 6) (v := .string s) rfl (by kernel_rfl) (by kernel_rfl) (by kernel_rfl) (fun _ _ _ h => h) (yields_move (.tmp 0) (.string s) rfl (by kernel_rfl) (by kernel_rfl)) trivial ?_
    simp only [Act.put, List.getElem_toArray, List.getElem_cons_succ, List.getElem_cons_zero, List.setIfInBounds_toArray, List.set_cons_zero, List.set_cons_succ]
    refine wpAnyH_take (i := 7) (v := .string (s.extract 4 6)) rfl (by kernel_rfl) (by kernel_rfl) (by kernel_rfl) (fun _ _ _ h => h) (yields_slice (.tmp 56) s 4 6 4 6 rfl (by kernel_rfl) (by kernel_rfl) rfl rfl (by omega) (by omega)) trivial ?_
    simp only [Act.put, List.getElem_toArray, List.getElem_cons_succ, List.getElem_cons_zero, List.setIfInBounds_toArray, List.set_cons_zero, List.set_cons_succ]
    refine wpAnyH_take (i := 9) (v := .string s) rfl (by kernel_rfl) (by kernel_rfl) (by kernel_rfl) (fun _ _ _ h => h) (yields_move (.tmp 0) (.string s) rfl (by kernel_rfl) (by kernel_rfl)) trivial ?_
    simp only [Act.put, List.getElem_toArray, List.getElem_cons_succ, List.getElem_cons_zero, List.setIfInBounds_toArray, List.set_cons_zero, List.set_cons_succ]
    refine wpAnyH_take (i := 10) (v := .string (s.extract 12 16)) rfl (by kernel_rfl) (by kernel_rfl) (by kernel_rfl) (fun _ _ _ h => h) (yields_slice (.tmp 59) s 12 16 12 16 rfl (by kernel_rfl) (by kernel_rfl) rfl rfl (by omega) (by omega)) trivial ?_
    simp only [Act.put, List.getElem_toArray, List.getElem_cons_succ, List.getElem_cons_zero, List.setIfInBounds_toArray, List.set_cons_zero, List.set_cons_succ]
    refine wpAnyH_take (i := 12) (v := .string s) rfl (by kernel_rfl) (by kernel_rfl) (by kernel_rfl) (fun _ _ _ h => h) (yields_move (.tmp 0) (.string s) rfl (by kernel_rfl) (by kernel_rfl)) trivial ?_
    simp only [Act.put, List.getElem_toArray, List.getElem_cons_succ, List.getElem_cons_zero, List.setIfInBounds_toArray, List.set_cons_zero, List.set_cons_succ]
    refine wpAnyH_take (i := 13) (v := .string (s.extract 16 20)) rfl (by kernel_rfl) (by kernel_rfl) (by kernel_rfl) (fun _ _ _ h => h) (yields_slice (.tmp 62) s 16 20 16 20 rfl (by kernel_rfl) (by kernel_rfl) rfl rfl (by omega) (by omega)) trivial ?_
    simp only [Act.put, List.getElem_toArray, List.getElem_cons_succ, List.getElem_cons_zero, List.setIfInBounds_toArray, List.set_cons_zero, List.set_cons_succ]
    refine wpAnyH_ready (rs := [8, 16]) (by kernel_rfl) (by simp) ?_
    refine AllReadyH.cons rfl (fun K hK => ?_) ?_
    · rw [if_pos (by kernel_rfl)]
      refine wp_callB 24 #[.string (s.extract 4 6)] (by kernel_rfl) _ (N4 _) ?_; intro w' hb; (try replace hb := below_undr' hb); replace T0 := T0.below hb; replace T4 := T4.below hb; (try replace T5 := T5.below hb); replace hB := hB.trans (hb.mono hB.size)
      refine hK.out _ _ trivial (fun _ => ?_)
      clear hK K
      try simp only [Act.put, List.getElem_toArray, List.getElem_cons_succ, List.getElem_cons_zero, List.setIfInBounds_toArray, List.set_cons_zero, List.set_cons_succ]
      refine wpAnyH_ready (rs := [11, 16]) (by kernel_rfl) (by simp) ?_
      refine AllReadyH.cons rfl (fun K hK => ?_) ?_
      · rw [if_pos (by kernel_rfl)]
        refine wp_callB 24 #[.string (s.extract 12 16)] (by kernel_rfl) _ (N12 _) ?_; intro w' hb; (try replace hb := below_undr' hb); replace T0 := T0.below hb; replace T4 := T4.below hb; (try replace T5 := T5.below hb); replace hB := hB.trans (hb.mono hB.size)
        refine hK.out _ _ trivial (fun _ => ?_)
        clear hK K
        try simp only [Act.put, List.getElem_toArray, List.getElem_cons_succ, List.getElem_cons_zero, List.setIfInBounds_toArray, List.set_cons_zero, List.set_cons_succ]
        refine wpAnyH_ready (rs := [14, 16]) (by kernel_rfl) (by simp) ?_
        refine AllReadyH.cons rfl (fun K hK => ?_) ?_
        · rw [if_pos (by kernel_rfl)]
          refine wp_callB 24 #[.string (s.extract 16 20)] (by kernel_rfl) _ (N16 _) ?_; intro w' hb; (try replace hb := below_undr' hb); replace T0 := T0.below hb; replace T4 := T4.below hb; (try replace T5 := T5.below hb); replace hB := hB.trans (hb.mono hB.size)
          refine hK.out _ _ trivial (fun _ => ?_)
          clear hK K
          try simp only [Act.put, List.getElem_toArray, List.getElem_cons_succ, List.getElem_cons_zero, List.setIfInBounds_toArray, List.set_cons_zero, List.set_cons_succ]
          refine wpAnyH_take (i := 15) (v := .agg #[.int .i64 (byt s.data.toList 9), .int .i64 (lAt s.data.toList 12), .int .i64 0, .int .i64 (lAt s.data.toList 16), .int .i64 0, .int .i64 (byt s.data.toList 8), .int .i64 (wAt s.data.toList 4), .int .i64 0, .int .i64 0, .int .i64 0, .int .i64 0, .string ⟨#[]⟩]) rfl (by kernel_rfl) (by kernel_rfl) (by kernel_rfl) (fun _ _ _ h => h) (Or.inl ⟨by kernel_rfl, by intro w _; kernel_rfl⟩) trivial ?_
          simp only [Act.put, List.getElem_toArray, List.getElem_cons_succ, List.getElem_cons_zero, List.setIfInBounds_toArray, List.set_cons_zero, List.set_cons_succ]
          refine wpAnyH_ready (rs := [16]) (by kernel_rfl) (by simp) ?_
          refine AllReadyH.cons rfl (fun K hK => ?_) ?_
          · rw [if_pos (by kernel_rfl)]
            refine wp_alloc12 rfl ?_; intro b w' eb T5 hk hbb; have lt5 : w.heap.size + 1 < b := (by rw [eb]; exact T4.lt); replace T0 := hk _ _ T0; replace T4 := hk _ _ T4; (first | (replace hB := hbb _ _ hB hB.size) | (replace hB := hbb _ _ (below_drew hB) hB.size)); clear hk hbb eb
            refine hK.out _ _ trivial (fun _ => ?_)
            clear hK K
            try simp only [Act.put, List.getElem_toArray, List.getElem_cons_succ, List.getElem_cons_zero, List.setIfInBounds_toArray, List.set_cons_zero, List.set_cons_succ]
            refine wpAnyH_ready (rs := [17]) (by kernel_rfl) (by simp) ?_
            refine AllReadyH.cons rfl (fun K hK => ?_) ?_
            · rw [if_pos (by kernel_rfl)]
              refine wp_store12 _ _ rfl b rfl #[.int .i64 (byt s.data.toList 9), .int .i64 (lAt s.data.toList 12), .int .i64 0, .int .i64 (lAt s.data.toList 16), .int .i64 0, .int .i64 (byt s.data.toList 8), .int .i64 (wAt s.data.toList 4), .int .i64 0, .int .i64 0, .int .i64 0, .int .i64 0, .string ⟨#[]⟩] rfl _ T5 rfl rfl (by kernel_rfl) ?_; intro w' T5 hk hbb; replace T0 := hk _ _ (by omega) T0; replace T4 := hk _ _ (by omega) T4; (first | (replace hB := hbb _ _ (by omega) hB) | (replace hB := hbb _ _ (by omega) (below_drew hB))); clear hk hbb
              refine hK.out _ _ trivial (fun _ => ?_)
              clear hK K
              try simp only [Act.put, List.getElem_toArray, List.getElem_cons_succ, List.getElem_cons_zero, List.setIfInBounds_toArray, List.set_cons_zero, List.set_cons_succ]
              refine wpAnyH_done (by kernel_rfl) ?_ _
              refine NoPanic.normal ?_
              go_wp2_with fail
              go_meet
              case rel => exact ⟨_, rfl, lt5, T5, T0, T4, hB⟩
            exact AllReadyH.nil
          exact AllReadyH.nil
        refine AllReadyH.cons rfl (fun K hK => ?_) ?_
        · rw [if_pos (by kernel_rfl)]
          refine wp_alloc12 rfl ?_; intro b w' eb T5 hk hbb; have lt5 : w.heap.size + 1 < b := (by rw [eb]; exact T4.lt); replace T0 := hk _ _ T0; replace T4 := hk _ _ T4; (first | (replace hB := hbb _ _ hB hB.size) | (replace hB := hbb _ _ (below_drew hB) hB.size)); clear hk hbb eb
          refine hK.out _ _ trivial (fun _ => ?_)
          clear hK K
          try simp only [Act.put, List.getElem_toArray, List.getElem_cons_succ, List.getElem_cons_zero, List.setIfInBounds_toArray, List.set_cons_zero, List.set_cons_succ]
          refine wpAnyH_ready (rs := [14]) (by kernel_rfl) (by simp) ?_
          refine AllReadyH.cons rfl (fun K hK => ?_) ?_
          · rw [if_pos (by kernel_rfl)]
            refine wp_callB 24 #[.string (s.extract 16 20)] (by kernel_rfl) _ (N16 _) ?_; intro w' hb; (try replace hb := below_undr' hb); replace T0 := T0.below hb; replace T4 := T4.below hb; (try replace T5 := T5.below hb); replace hB := hB.trans (hb.mono hB.size)
            refine hK.out _ _ trivial (fun _ => ?_)
            clear hK K
            try simp only [Act.put, List.getElem_toArray, List.getElem_cons_succ, List.getElem_cons_zero, List.setIfInBounds_toArray, List.set_cons_zero, List.set_cons_succ]
            refine wpAnyH_take (i := 15) (v := .agg #[.int .i64 (byt s.data.toList 9), .int .i64 (lAt s.data.toList 12), .int .i64 0, .int .i64 (lAt s.data.toList 16), .int .i64 0, .int .i64 (byt s.data.toList 8), .int .i64 (wAt s.data.toList 4), .int .i64 0, .int .i64 0, .int .i64 0, .int .i64 0, .string ⟨#[]⟩]) rfl (by kernel_rfl) (by kernel_rfl) (by kernel_rfl) (fun _ _ _ h => h) (Or.inl ⟨by kernel_rfl, by intro w _; kernel_rfl⟩) trivial ?_
            simp only [Act.put, List.getElem_toArray, List.getElem_cons_succ, List.getElem_cons_zero, List.setIfInBounds_toArray, List.set_cons_zero, List.set_cons_succ]
            refine wpAnyH_ready (rs := [17]) (by kernel_rfl) (by simp) ?_
            refine AllReadyH.cons rfl (fun K hK => ?_) ?_
            · rw [if_pos (by kernel_rfl)]
              refine wp_store12 _ _ rfl b rfl #[.int .i64 (byt s.data.toList 9), .int .i64 (lAt s.data.toList 12), .int .i64 0, .int .i64 (lAt s.data.toList 16), .int .i64 0, .int .i64 (byt s.data.toList 8), .int .i64 (wAt s.data.toList 4), .int .i64 0, .int .i64 0, .int .i64 0, .int .i64 0, .string ⟨#[]⟩] rfl _ T5 rfl rfl (by kernel_rfl) ?_; intro w' T5 hk hbb; replace T0 := hk _ _ (by omega) T0; replace T4 := hk _ _ (by omega) T4; (first | (replace hB := hbb _ _ (by omega) hB) | (replace hB := hbb _ _ (by omega) (below_drew hB))); clear hk hbb
              refine hK.out _ _ trivial (fun _ => ?_)
              clear hK K
              try simp only [Act.put, List.getElem_toArray, List.getElem_cons_succ, List.getElem_cons_zero, List.setIfInBounds_toArray, List.set_cons_zero, List.set_cons_succ]
              refine wpAnyH_done (by kernel_rfl) ?_ _
              refine NoPanic.normal ?_
              go_wp2_with fail
              go_meet
              case rel => exact ⟨_, rfl, lt5, T5, T0, T4, hB⟩
            exact AllReadyH.nil
          exact AllReadyH.nil
        exact AllReadyH.nil
      refine AllReadyH.cons rfl (fun K hK => ?_) ?_
      · rw [if_pos (by kernel_rfl)]
        refine wp_alloc12 rfl ?_; intro b w' eb T5 hk hbb; have lt5 : w.heap.size + 1 < b := (by rw [eb]; exact T4.lt); replace T0 := hk _ _ T0; replace T4 := hk _ _ T4; (first | (replace hB := hbb _ _ hB hB.size) | (replace hB := hbb _ _ (below_drew hB) hB.size)); clear hk hbb eb
        refine hK.out _ _ trivial (fun _ => ?_)
        clear hK K
        try simp only [Act.put, List.getElem_toArray, List.getElem_cons_succ, List.getElem_cons_zero, List.setIfInBounds_toArray, List.set_cons_zero, List.set_cons_succ]
        refine wpAnyH_ready (rs := [11]) (by kernel_rfl) (by simp) ?_
        refine AllReadyH.cons rfl (fun K hK => ?_) ?_
        · rw [if_pos (by kernel_rfl)]
          refine wp_callB 24 #[.string (s.extract 12 16)] (by kernel_rfl) _ (N12 _) ?_; intro w' hb; (try replace hb := below_undr' hb); replace T0 := T0.below hb; replace T4 := T4.below hb; (try replace T5 := T5.below hb); replace hB := hB.trans (hb.mono hB.size)
          refine hK.out _ _ trivial (fun _ => ?_)
          clear hK K
          try simp only [Act.put, List.getElem_toArray, List.getElem_cons_succ, List.getElem_cons_zero, List.setIfInBounds_toArray, List.set_cons_zero, List.set_cons_succ]
          refine wpAnyH_ready (rs := [14]) (by kernel_rfl) (by simp) ?_
          refine AllReadyH.cons rfl (fun K hK => ?_) ?_
          · rw [if_pos (by kernel_rfl)]
            refine wp_callB 24 #[.string (s.extract 16 20)] (by kernel_rfl) _ (N16 _) ?_; intro w' hb; (try replace hb := below_undr' hb); replace T0 := T0.below hb; replace T4 := T4.below hb; (try replace T5 := T5.below hb); replace hB := hB.trans (hb.mono hB.size)
            refine hK.out _ _ trivial (fun _ => ?_)
            clear hK K
            try simp only [Act.put, List.getElem_toArray, List.getElem_cons_succ, List.getElem_cons_zero, List.setIfInBounds_toArray, List.set_cons_zero, List.set_cons_succ]
            refine wpAnyH_take (i := 15) (v := .agg #[.int .i64 (byt s.data.toList 9), .int .i64 (lAt s.data.toList 12), .int .i64 0, .int .i64 (lAt s.data.toList 16), .int .i64 0, .int .i64 (byt s.data.toList 8), .int .i64 (wAt s.data.toList 4), .int .i64 0, .int .i64 0, .int .i64 0, .int .i64 0, .string ⟨#[]⟩]) rfl (by kernel_rfl) (by kernel_rfl) (by kernel_rfl) (fun _ _ _ h => h) (Or.inl ⟨by kernel_rfl, by intro w _; kernel_rfl⟩) trivial ?_
            simp only [Act.put, List.getElem_toArray, List.getElem_cons_succ, List.getElem_cons_zero, List.setIfInBounds_toArray, List.set_cons_zero, List.set_cons_succ]
            refine wpAnyH_ready (rs := [17]) (by kernel_rfl) (by simp) ?_
            refine AllReadyH.cons rfl (fun K hK => ?_) ?_
            · rw [if_pos (by kernel_rfl)]
              refine wp_store12 _ _ rfl b rfl #[.int .i64 (byt s.data.toList 9), .int .i64 (lAt s.data.toList 12), .int .i64 0, .int .i64 (lAt s.data.toList 16), .int .i64 0, .int .i64 (byt s.data.toList 8), .int .i64 (wAt s.data.toList 4), .int .i64 0, .int .i64 0, .int .i64 0, .int .i64 0, .string ⟨#[]⟩] rfl _ T5 rfl rfl (by kernel_rfl) ?_; intro w' T5 hk hbb; replace T0 := hk _ _ (by omega) T0; replace T4 := hk _ _ (by omega) T4; (first | (replace hB := hbb _ _ (by omega) hB) | (replace hB := hbb _ _ (by omega) (below_drew hB))); clear hk hbb
              refine hK.out _ _ trivial (fun _ => ?_)
              clear hK K
              try simp only [Act.put, List.getElem_toArray, List.getElem_cons_succ, List.getElem_cons_zero, List.setIfInBounds_toArray, List.set_cons_zero, List.set_cons_succ]
              refine wpAnyH_done (by kernel_rfl) ?_ _
              refine NoPanic.normal ?_
              go_wp2_with fail
              go_meet
              case rel => exact ⟨_, rfl, lt5, T5, T0, T4, hB⟩
            exact AllReadyH.nil
          exact AllReadyH.nil
        exact AllReadyH.nil
      exact AllReadyH.nil
    refine AllReadyH.cons rfl (fun K hK => ?_) ?_
    · rw [if_pos (by kernel_rfl)]
      refine wp_alloc12 rfl ?_; intro b w' eb T5 hk hbb; have lt5 : w.heap.size + 1 < b := (by rw [eb]; exact T4.lt); replace T0 := hk _ _ T0; replace T4 := hk _ _ T4; (first | (replace hB := hbb _ _ hB hB.size) | (replace hB := hbb _ _ (below_drew hB) hB.size)); clear hk hbb eb
      refine hK.out _ _ trivial (fun _ => ?_)
      clear hK K
      try simp only [Act.put, List.getElem_toArray, List.getElem_cons_succ, List.getElem_cons_zero, List.setIfInBounds_toArray, List.set_cons_zero, List.set_cons_succ]
      refine wpAnyH_ready (rs := [8]) (by kernel_rfl) (by simp) ?_
      refine AllReadyH.cons rfl (fun K hK => ?_) ?_
      · rw [if_pos (by kernel_rfl)]
        refine wp_callB 24 #[.string (s.extract 4 6)] (by kernel_rfl) _ (N4 _) ?_; intro w' hb; (try replace hb := below_undr' hb); replace T0 := T0.below hb; replace T4 := T4.below hb; (try replace T5 := T5.below hb); replace hB := hB.trans (hb.mono hB.size)
        refine hK.out _ _ trivial (fun _ => ?_)
        clear hK K
        try simp only [Act.put, List.getElem_toArray, List.getElem_cons_succ, List.getElem_cons_zero, List.setIfInBounds_toArray, List.set_cons_zero, List.set_cons_succ]
        refine wpAnyH_ready (rs := [11]) (by kernel_rfl) (by simp) ?_
        refine AllReadyH.cons rfl (fun K hK => ?_) ?_
        · rw [if_pos (by kernel_rfl)]
          refine wp_callB 24 #[.string (s.extract 12 16)] (by kernel_rfl) _ (N12 _) ?_; intro w' hb; (try replace hb := below_undr' hb); replace T0 := T0.below hb; replace T4 := T4.below hb; (try replace T5 := T5.below hb); replace hB := hB.trans (hb.mono hB.size)
          refine hK.out _ _ trivial (fun _ => ?_)
          clear hK K
          try simp only [Act.put, List.getElem_toArray, List.getElem_cons_succ, List.getElem_cons_zero, List.setIfInBounds_toArray, List.set_cons_zero, List.set_cons_succ]
          refine wpAnyH_ready (rs := [14]) (by kernel_rfl) (by simp) ?_
          refine AllReadyH.cons rfl (fun K hK => ?_) ?_
          · rw [if_pos (by kernel_rfl)]
            refine wp_callB 24 #[.string (s.extract 16 20)] (by kernel_rfl) _ (N16 _) ?_; intro w' hb; (try replace hb := below_undr' hb); replace T0 := T0.below hb; replace T4 := T4.below hb; (try replace T5 := T5.below hb); replace hB := hB.trans (hb.mono hB.size)
            refine hK.out _ _ trivial (fun _ => ?_)
            clear hK K
            try simp only [Act.put, List.getElem_toArray, List.getElem_cons_succ, List.getElem_cons_zero, List.setIfInBounds_toArray, List.set_cons_zero, List.set_cons_succ]
            refine wpAnyH_take (i := 15) (v := .agg #[.int .i64 (byt s.data.toList 9), .int .i64 (lAt s.data.toList 12), .int .i64 0, .int .i64 (lAt s.data.toList 16), .int .i64 0, .int .i64 (byt s.data.toList 8), .int .i64 (wAt s.data.toList 4), .int .i64 0, .int .i64 0, .int .i64 0, .int .i64 0, .string ⟨#[]⟩]) rfl (by kernel_rfl) (by kernel_rfl) (by kernel_rfl) (fun _ _ _ h => h) (Or.inl ⟨by kernel_rfl, by intro w _; kernel_rfl⟩) trivial ?_
            simp only [Act.put, List.getElem_toArray, List.getElem_cons_succ, List.getElem_cons_zero, List.setIfInBounds_toArray, List.set_cons_zero, List.set_cons_succ]
            refine wpAnyH_ready (rs := [17]) (by kernel_rfl) (by simp) ?_
            refine AllReadyH.cons rfl (fun K hK => ?_) ?_
            · rw [if_pos (by kernel_rfl)]
              refine wp_store12 _ _ rfl b rfl #[.int .i64 (byt s.data.toList 9), .int .i64 (lAt s.data.toList 12), .int .i64 0, .int .i64 (lAt s.data.toList 16), .int .i64 0, .int .i64 (byt s.data.toList 8), .int .i64 (wAt s.data.toList 4), .int .i64 0, .int .i64 0, .int .i64 0, .int .i64 0, .string ⟨#[]⟩] rfl _ T5 rfl rfl (by kernel_rfl) ?_; intro w' T5 hk hbb; replace T0 := hk _ _ (by omega) T0; replace T4 := hk _ _ (by omega) T4; (first | (replace hB := hbb _ _ (by omega) hB) | (replace hB := hbb _ _ (by omega) (below_drew hB))); clear hk hbb
              refine hK.out _ _ trivial (fun _ => ?_)
              clear hK K
              try simp only [Act.put, List.getElem_toArray, List.getElem_cons_succ, List.getElem_cons_zero, List.setIfInBounds_toArray, List.set_cons_zero, List.set_cons_succ]
              refine wpAnyH_done (by kernel_rfl) ?_ _
              refine NoPanic.normal ?_
              go_wp2_with fail
              go_meet
              case rel => exact ⟨_, rfl, lt5, T5, T0, T4, hB⟩
            exact AllReadyH.nil
          exact AllReadyH.nil
        exact AllReadyH.nil
      exact AllReadyH.nil
    exact AllReadyH.nil
  case rest =>
    clear T0 T4 hB c0 c4 f0
    obtain ⟨b, rfl, hb1, T5, T0, T4, hB⟩ := hcut
    replace c0 := T0.cell; replace c4 := T4.cell; replace f0 := T0.free; replace c5 := T5.cell; replace f5 := T5.free
    have z2 : (s.extract 20 s.size).size = s.size - 20 := ext_size s 20 s.size (Nat.le_refl _)
    have z3 : ((s.extract 20 s.size).size : Int) = (s.size : Int) - 20 := by omega
    have z4 : ((s.size - 20 : Nat) : Int) = (s.size : Int) - 20 := by omega
    have b9 := byt_bd s.data.toList 9
    have CA := fun w => ahead_any (lAt s.data.toList 12) (lAt s.data.toList 16) (byt s.data.toList 9) ((s.size : Int) - 20) w b9 (lAt_bd _ _) (lAt_bd _ _) (by omega)
    have hps : (txt (ps (lAt s.data.toList 12) (lAt s.data.toList 16) (byt s.data.toList 9) ((s.size : Int) - 20))).size ≤ 12 := by rw [txt_size]; unfold ps; split <;> simp
    have CS : ∀ w, Calls Try.prog 25 #[.string (txt (ps (lAt s.data.toList 12) (lAt s.data.toList 16) (byt s.data.toList 9) ((s.size : Int) - 20)) ++ s.extract 20 s.size)] w fun e w' => e = .returned (.int .i64 (bk (tot (chkd s.data.toList (byt s.data.toList 9))))) ∧ Below w.heap.size w w' := by
      intro w
      have := sumRef_any (txt (ps (lAt s.data.toList 12) (lAt s.data.toList 16) (byt s.data.toList 9) ((s.size : Int) - 20)) ++ s.extract 20 s.size) w (by rw [ByteArray.size_append]; omega)
      rw [ByteArray.data_append, Array.toList_append, txt_list, ext_from, ← hll, ps_chkd _ _ (by omega)] at this
      exact this
    have k9 : byt s.data.toList 9 = 17 := hk9.out
    have e1 : (byt s.data.toList 9 == 1) = false := by rw [k9]; rfl
    have e6 : (byt s.data.toList 9 == 6) = false := by rw [k9]; rfl
    have e17 : (byt s.data.toList 9 == 17) = true := by rw [k9]; rfl
    have HPN : Hid (partN (byt s.data.toList 9) = 8) := by show _ = _; rw [k9]; rfl
    have HK : Hid (byt s.data.toList 9 = 17) := k9
    have HH : Hid (HeadOk s.data.toList) := ⟨by omega, H.mark, H.size, H.sum, H.serv, H.piece, H.ttl, by rw [k9]; rfl⟩
    clear k9
    by_cases hsh : (s.size : Int) - 20 < 8
    · have hbd : Hid (bad s.data.toList = 1) := pb_len s.data.toList HH.out (by rw [HPN.out, hll]; exact hsh)
      go_wp2
      refine bodyPost_ret (v := .tuple #[pv p0, .int .i64 1]) (by simp [results, Try.results10, go_sem, pv, p0, c0]; rfl) rfl ⟨by rw [parsed_bad _ 1 hbd.out (by omega), hbd.out], ?_⟩
      iterate 12 (refine Below.setCell ?_ (by exact Nat.le_refl _) _)
      exact hB

    have hn : (8 : Int) ≤ (s.size : Int) - 20 := by omega
    clear hsh
    have HL : Hid (partN (byt s.data.toList 9) ≤ (s.data.toList.length : Int) - 20) := by show _ ≤ _; rw [HPN.out, hll]; exact hn
    by_cases hsum : bk (tot (chkd s.data.toList (byt s.data.toList 9))) = 65535
    rotate_left
    · have hbd : Hid (bad s.data.toList = 3) := pb_sum s.data.toList HH.out HL.out hsum
      have ds : (bk (tot (chkd s.data.toList (byt s.data.toList 9))) != 65535) = true := by simpa using hsum
      clear hsum
      go_wp2_with (first
          | (go_at_call 26; go_fit (CA _); rintro e w' ⟨rfl, hb⟩; (try replace hb := below_undr' hb); replace T0 := T0.below hb; replace T4 := T4.below hb; replace T5 := T5.below hb; replace c0 := T0.cell; replace c4 := T4.cell; replace f0 := T0.free; replace c5 := T5.cell; replace f5 := T5.free; replace hB := hB.trans (hb.mono hB.size))
          | (go_at_call 25; go_fit (CS _); rintro e w' ⟨rfl, hb⟩; (try replace hb := below_undr' hb); replace T0 := T0.below hb; replace T4 := T4.below hb; replace T5 := T5.below hb; replace c0 := T0.cell; replace c4 := T4.cell; replace f0 := T0.free; replace c5 := T5.cell; replace f5 := T5.free; replace hB := hB.trans (hb.mono hB.size)))
      refine bodyPost_ret (v := .tuple #[pv p0, .int .i64 3]) (by simp [results, Try.results10, go_sem, pv, p0, c0]; rfl) rfl ⟨by rw [parsed_bad _ 3 hbd.out (by omega), hbd.out], ?_⟩
      iterate 12 (refine Below.setCell ?_ (by exact Nat.le_refl _) _)
      exact hB

    have HS : Hid (bk (tot (chkd s.data.toList (byt s.data.toList 9))) = 65535) := hsum
    have ds : (bk (tot (chkd s.data.toList (byt s.data.toList 9))) != 65535) = false := by simpa using hsum
    clear hsum
    have i6' : (6 : Int) < (s.size : Int) - 20 := by omega
    have i7' : (7 : Int) < (s.size : Int) - 20 := by omega
    have ge6 : ∀ h, (((s.extract 20 s.size)[6]'h).toNat : Int) = byt s.data.toList 26 := fun h => get_ext s 6 h
    have ge7 : ∀ h, (((s.extract 20 s.size)[7]'h).toNat : Int) = byt s.data.toList 27 := fun h => get_ext s 7 h
    by_cases q6 : byt s.data.toList 26 = 0 ∧ byt s.data.toList 27 = 0
    · have p6 : (byt s.data.toList 26 == 0) = true := by simpa using q6.1
      have p7 : (byt s.data.toList 27 == 0) = true := by simpa using q6.2
      have hbd : Hid (bad s.data.toList = 3) := pb_usum s.data.toList HH.out HL.out HS.out HK.out q6.1 q6.2
      clear q6
      go_wp2_with (first
          | (go_at_call 26; go_fit (CA _); rintro e w' ⟨rfl, hb⟩; (try replace hb := below_undr' hb); replace T0 := T0.below hb; replace T4 := T4.below hb; replace T5 := T5.below hb; replace c0 := T0.cell; replace c4 := T4.cell; replace f0 := T0.free; replace c5 := T5.cell; replace f5 := T5.free; replace hB := hB.trans (hb.mono hB.size))
          | (go_at_call 25; go_fit (CS _); rintro e w' ⟨rfl, hb⟩; (try replace hb := below_undr' hb); replace T0 := T0.below hb; replace T4 := T4.below hb; replace T5 := T5.below hb; replace c0 := T0.cell; replace c4 := T4.cell; replace f0 := T0.free; replace c5 := T5.cell; replace f5 := T5.free; replace hB := hB.trans (hb.mono hB.size)))
      refine bodyPost_ret (v := .tuple #[pv p0, .int .i64 3]) (by simp [results, Try.results10, go_sem, pv, p0, c0]; rfl) rfl ⟨by rw [parsed_bad _ 3 hbd.out (by omega), hbd.out], ?_⟩
      iterate 12 (refine Below.setCell ?_ (by exact Nat.le_refl _) _)
      exact hB

    exact absurd ⟨hn, HS.out, q6⟩ hv.out

set_option maxRecDepth 10000 in
set_option maxHeartbeats 40000000 in
theorem pref_tcpe (s : ByteArray) (w : World) (hs : s.size ≤ 65535) (h20 : 20 ≤ s.size) (H : HeadO s.data.toList) (hk9 : Hid (byt s.data.toList 9 = 6)) (hv : Hid (¬ ((20 : Int) ≤ (s.size : Int) - 20 ∧ bk (tot (chkd s.data.toList (byt s.data.toList 9))) = 65535 ∧ byt s.data.toList 32 = 80 ∧ byt s.data.toList 33 ≤ 63 ∧ byt s.data.toList 38 = 0 ∧ byt s.data.toList 39 = 0))) :
    Calls Try.prog 10 #[.string s] w fun e w' => e = .returned (.tuple #[pv (parsed s.data.toList), .int .i64 (bad s.data.toList)]) ∧ Below w.heap.size w w' := by
  have hll := len_list s
  have T0 : Twelve ((w.alloc (.cells #[.int .i64 0, .int .i64 0, .int .i64 0, .int .i64 0, .int .i64 0, .int .i64 0, .int .i64 0, .int .i64 0, .int .i64 0, .int .i64 0, .int .i64 0, .string ⟨#[]⟩] 23)).alloc (.cells #[.int .i64 0, .int .i64 0, .int .i64 0, .int .i64 0, .int .i64 0, .int .i64 0, .int .i64 0, .int .i64 0, .int .i64 0, .int .i64 0, .int .i64 0, .string ⟨#[]⟩] 23)) w.heap.size #[.int .i64 0, .int .i64 0, .int .i64 0, .int .i64 0, .int .i64 0, .int .i64 0, .int .i64 0, .int .i64 0, .int .i64 0, .int .i64 0, .int .i64 0, .string ⟨#[]⟩] := (Below.heap_alloc _ _ _ (by simp)).trans (heap_alloc_new w _)
  have T4 : Twelve ((w.alloc (.cells #[.int .i64 0, .int .i64 0, .int .i64 0, .int .i64 0, .int .i64 0, .int .i64 0, .int .i64 0, .int .i64 0, .int .i64 0, .int .i64 0, .int .i64 0, .string ⟨#[]⟩] 23)).alloc (.cells #[.int .i64 0, .int .i64 0, .int .i64 0, .int .i64 0, .int .i64 0, .int .i64 0, .int .i64 0, .int .i64 0, .int .i64 0, .int .i64 0, .int .i64 0, .string ⟨#[]⟩] 23)) (w.heap.size + 1) #[.int .i64 0, .int .i64 0, .int .i64 0, .int .i64 0, .int .i64 0, .int .i64 0, .int .i64 0, .int .i64 0, .int .i64 0, .int .i64 0, .int .i64 0, .string ⟨#[]⟩] := by
    have := heap_alloc_new (w.alloc (.cells #[.int .i64 0, .int .i64 0, .int .i64 0, .int .i64 0, .int .i64 0, .int .i64 0, .int .i64 0, .int .i64 0, .int .i64 0, .int .i64 0, .int .i64 0, .string ⟨#[]⟩] 23)) (.cells #[.int .i64 0, .int .i64 0, .int .i64 0, .int .i64 0, .int .i64 0, .int .i64 0, .int .i64 0, .int .i64 0, .int .i64 0, .int .i64 0, .int .i64 0, .string ⟨#[]⟩] 23)
    simpa [Twelve] using this
  have hB : Below w.heap.size w ((w.alloc (.cells #[.int .i64 0, .int .i64 0, .int .i64 0, .int .i64 0, .int .i64 0, .int .i64 0, .int .i64 0, .int .i64 0, .int .i64 0, .int .i64 0, .int .i64 0, .string ⟨#[]⟩] 23)).alloc (.cells #[.int .i64 0, .int .i64 0, .int .i64 0, .int .i64 0, .int .i64 0, .int .i64 0, .int .i64 0, .int .i64 0, .int .i64 0, .int .i64 0, .int .i64 0, .string ⟨#[]⟩] 23)) := ((Below.refl _ _).alloc (Nat.le_refl _) _).alloc (by simp) _
  replace c0 := T0.cell; replace c4 := T4.cell; replace f0 := T0.free

  have N2 := fun w => num2_any s 2 4 w rfl (by omega)
  have N4 := fun w => num2_any s 4 6 w rfl (by omega)
  have N12 := fun w => num4_any s 12 16 w rfl (by omega)
  have N16 := fun w => num4_any s 16 20 w rfl (by omega)
  have SH := fun w => sum20_any s w h20
  have g0 : ∀ h, ((s[0]'h).toNat : Int) = byt s.data.toList 0 := fun h => byt_get s 0 h
  have g1 : ∀ h, ((s[1]'h).toNat : Int) = byt s.data.toList 1 := fun h => byt_get s 1 h
  have g6 : ∀ h, ((s[6]'h).toNat : Int) = byt s.data.toList 6 := fun h => byt_get s 6 h
  have g7 : ∀ h, ((s[7]'h).toNat : Int) = byt s.data.toList 7 := fun h => byt_get s 7 h
  have g8 : ∀ h, ((s[8]'h).toNat : Int) = byt s.data.toList 8 := fun h => byt_get s 8 h
  have g9 : ∀ h, ((s[9]'h).toNat : Int) = byt s.data.toList 9 := fun h => byt_get s 9 h
  have e6 : byt s.data.toList 6 = 0 ∧ byt s.data.toList 7 = 0 := by
    have := H.piece; rw [show wAt s.data.toList 6 = byt s.data.toList 6 * 256 + byt s.data.toList 7 from rfl] at this
    have := byt_bd s.data.toList 6; have := byt_bd s.data.toList 7; omega
  have d0 : (byt s.data.toList 0 != 69) = false := by simpa using H.mark
  have d1 : (wAt s.data.toList 2 != (s.size : Int)) = false := by have := H.size; rw [hll] at this; simpa using this
  have d2 : (bk (tot (s.data.toList.take 20)) != 65535) = false := by simpa using H.sum
  have d3 : (byt s.data.toList 1 != 0) = false := by simpa using H.serv
  have d4 : (byt s.data.toList 6 != 0) = false := by simpa using e6.1
  have d5 : (byt s.data.toList 7 != 0) = false := by simpa using e6.2
  have d6 : (byt s.data.toList 8 == 0) = false := by simpa using H.ttl
  have iw8 : IntKind.i64.wrap (byt s.data.toList 8) = byt s.data.toList 8 := wrap_i64 _ (by have := byt_bd s.data.toList 8; omega) (by have := byt_bd s.data.toList 8; omega)
  have iw9 : IntKind.i64.wrap (byt s.data.toList 9) = byt s.data.toList 9 := wrap_i64 _ (by have := byt_bd s.data.toList 9; omega) (by have := byt_bd s.data.toList 9; omega)
  have z20 : (20 : Int) ≤ (s.size : Int) := by omega
  have zz : ∀ k : Int, k < 20 → k < (s.size : Int) := fun k h => by omega
  have zy : ∀ k : Int, k < 20 → k ≤ (s.size : Int) := fun k h => by omega
  have z0 := zz 0 (by omega); have z1 := zz 1 (by omega); have z4 := zy 4 (by omega)
  have z6 := zz 6 (by omega); have z7 := zz 7 (by omega); have z8 := zz 8 (by omega); have z9 := zz 9 (by omega)
  have y6 := zy 6 (by omega); have y16 := zy 16 (by omega); have y12 := zy 12 (by omega)
  clear zz zy
  have Hnone : Hid (kindB (byt s.data.toList 9) = false → bad s.data.toList = 4) := fun h => hb_7 s.data.toList (by omega) H.mark H.size H.sum H.serv e6.1 e6.2 H.ttl h
  clear e6
  have Hbad : Hid (bad s.data.toList = bad s.data.toList) := rfl
  generalize hsh : bk (tot (s.data.toList.take 20)) = sh at *
  generalize byt s.data.toList 0 = x0 at *
  generalize byt s.data.toList 1 = x1 at *
  generalize byt s.data.toList 6 = x6 at *
  generalize byt s.data.toList 7 = x7 at *
  go_enter Try.func10, Try.ntmps10
  go_upto_region 8 with (first
    | (go_at_call 24; go_fit (N2 _); rintro e w' ⟨rfl, hb⟩; (try replace hb := below_undr' hb); replace T0 := T0.below hb; replace T4 := T4.below hb; replace c0 := T0.cell; replace c4 := T4.cell; replace f0 := T0.free; replace hB := hB.trans (hb.mono hB.size))
    | (go_at_call 25; go_fit (SH _); rintro e w' ⟨rfl, hb⟩; (try replace hb := below_undr' hb); replace T0 := T0.below hb; replace T4 := T4.below hb; replace c0 := T0.cell; replace c4 := T4.cell; replace f0 := T0.free; replace hB := hB.trans (hb.mono hB.size)))
  go_cut [48] (fun s48 wx => s48 = .bool false ∧ Twelve wx w.heap.size #[.int .i64 0, .int .i64 0, .int .i64 0, .int .i64 0, .int .i64 0, .int .i64 0, .int .i64 0, .int .i64 0, .int .i64 0, .int .i64 0, .int .i64 0, .string ⟨#[]⟩] ∧ Twelve wx (w.heap.size + 1) #[.int .i64 0, .int .i64 0, .int .i64 0, .int .i64 0, .int .i64 0, .int .i64 0, .int .i64 0, .int .i64 0, .int .i64 0, .int .i64 0, .int .i64 0, .string ⟨#[]⟩] ∧ Below w.heap.size w wx)
  case first =>
    go_wp2_with fail
    go_meet
    case rel => exact ⟨rfl, T0, T4, hB⟩
  case rest =>
  clear T0 T4 hB c0 c4 f0
  obtain ⟨rfl, T0, T4, hB⟩ := hcut
  replace c0 := T0.cell; replace c4 := T4.cell; replace f0 := T0.free
  go_upto_region 10 with fail
  go_cut [5] (fun s5 wx => ∃ b, s5 = .pointer (some ⟨b, 0, none⟩) ∧ w.heap.size + 1 < b ∧ Twelve wx b #[.int .i64 (byt s.data.toList 9), .int .i64 (lAt s.data.toList 12), .int .i64 0, .int .i64 (lAt s.data.toList 16), .int .i64 0, .int .i64 (byt s.data.toList 8), .int .i64 (wAt s.data.toList 4), .int .i64 0, .int .i64 0, .int .i64 0, .int .i64 0, .string ⟨#[]⟩] ∧ Twelve wx w.heap.size #[.int .i64 0, .int .i64 0, .int .i64 0, .int .i64 0, .int .i64 0, .int .i64 0, .int .i64 0, .int .i64 0, .int .i64 0, .int .i64 0, .int .i64 0, .string ⟨#[]⟩] ∧ Twelve wx (w.heap.size + 1) #[.int .i64 0, .int .i64 0, .int .i64 0, .int .i64 0, .int .i64 0, .int .i64 0, .int .i64 0, .int .i64 0, .int .i64 0, .int .i64 0, .int .i64 0, .string ⟨#[]⟩] ∧ Below w.heap.size w wx)
  case first =>
    refine wp_region_noPanic ?_
    refine wp_region_held_drew (S := fun _ => True) (by kernel_rfl) trivial (fun _ => ?_)
    refine wpAnyH_take (i := 0) (v := .string s) rfl (by kernel_rfl) (by kernel_rfl) (by kernel_rfl) (fun _ _ _ h => h) (yields_move (.tmp 0) (.string s) rfl (by kernel_rfl) (by kernel_rfl)) trivial ?_
    simp only [Act.put, List.getElem_toArray, List.getElem_cons_succ, List.getElem_cons_zero, List.setIfInBounds_toArray, List.set_cons_zero, List.set_cons_succ]
    refine wpAnyH_take (i := 1) (v := .int .u8 (byt s.data.toList 9)) rfl (by kernel_rfl) (by kernel_rfl) (by kernel_rfl) (fun _ _ _ h => h) (yields_index (.tmp 50) s 9 9 _ rfl (by kernel_rfl) (by kernel_rfl) rfl (by omega) g9) trivial ?_
    simp only [Act.put, List.getElem_toArray, List.getElem_cons_succ, List.getElem_cons_zero, List.setIfInBounds_toArray, List.set_cons_zero, List.set_cons_succ]
    refine wpAnyH_take (i := 2) (v := .int .i64 (byt s.data.toList 9)) rfl (by kernel_rfl) (by kernel_rfl) (by kernel_rfl) (fun _ _ _ h => h) (yields_conv (.tmp 51) (byt s.data.toList 9) rfl (by kernel_rfl) (by kernel_rfl) iw9) trivial ?_
    simp only [Act.put, List.getElem_toArray, List.getElem_cons_succ, List.getElem_cons_zero, List.setIfInBounds_toArray, List.set_cons_zero, List.set_cons_succ]
    refine wpAnyH_take (i := 3) (v := .string s) rfl (by kernel_rfl) (by kernel_rfl) (by kernel_rfl) (fun _ _ _ h => h) (yields_move (.tmp 0) (.string s) rfl (by kernel_rfl) (by kernel_rfl)) trivial ?_
    simp only [Act.put, List.getElem_toArray, List.getElem_cons_succ, List.getElem_cons_zero, List.setIfInBounds_toArray, List.set_cons_zero, List.set_cons_succ]
    refine wpAnyH_take (i := 4) (v := .int .u8 (byt s.data.toList 8)) rfl (by kernel_rfl) (by kernel_rfl) (by kernel_rfl) (fun _ _ _ h => h) (yields_index (.tmp 53) s 8 8 _ rfl (by kernel_rfl) (by kernel_rfl) rfl (by omega) g8) trivial ?_
    simp only [Act.put, List.getElem_toArray, List.getElem_cons_succ, List.getElem_cons_zero, List.setIfInBounds_toArray, List.set_cons_zero, List.set_cons_succ]
    refine wpAnyH_take (i := 5) (v := .int .i64 (byt s.data.toList 8)) rfl (by kernel_rfl) (by kernel_rfl) (by kernel_rfl) (fun _ _ _ h => h) (yields_conv (.tmp 54) (byt s.data.toList 8) rfl (by kernel_rfl) (by kernel_rfl) iw8) trivial ?_
    simp only [Act.put, List.getElem_toArray, List.getElem_cons_succ, List.getElem_cons_zero, List.setIfInBounds_toArray, List.set_cons_zero, List.set_cons_succ]
    refine wpAnyH_take (i := 6) (v := .string s) rfl (by kernel_rfl) (by kernel_rfl) (by kernel_rfl) (fun _ _ _ h => h) (yields_move (.tmp 0) (.string s) rfl (by kernel_rfl) (by kernel_rfl)) trivial ?_
    simp only [Act.put, List.getElem_toArray, List.getElem_cons_succ, List.getElem_cons_zero, List.setIfInBounds_toArray, List.set_cons_zero, List.set_cons_succ]
    refine wpAnyH_take (i := 7) (v := .string (s.extract 4 6)) rfl (by kernel_rfl) (by kernel_rfl) (by kernel_rfl) (fun _ _ _ h => h) (yields_slice (.tmp 56) s 4 6 4 6 rfl (by kernel_rfl) (by kernel_rfl) rfl rfl (by omega) (by omega)) trivial ?_
    simp only [Act.put, List.getElem_toArray, List.getElem_cons_succ, List.getElem_cons_zero, List.setIfInBounds_toArray, List.set_cons_zero, List.set_cons_succ]
    refine wpAnyH_take (i := 9) (v := .string s) rfl (by kernel_rfl) (by kernel_rfl) (by kernel_rfl) (fun _ _ _ h => h) (yields_move (.tmp 0) (.string s) rfl (by kernel_rfl) (by kernel_rfl)) trivial ?_
    simp only [Act.put, List.getElem_toArray, List.getElem_cons_succ, List.getElem_cons_zero, List.setIfInBounds_toArray, List.set_cons_zero, List.set_cons_succ]
    refine wpAnyH_take (i := 10) (v := .string (s.extract 12 16)) rfl (by kernel_rfl) (by kernel_rfl) (by kernel_rfl) (fun _ _ _ h => h) (yields_slice (.tmp 59) s 12 16 12 16 rfl (by kernel_rfl) (by kernel_rfl) rfl rfl (by omega) (by omega)) trivial ?_
    simp only [Act.put, List.getElem_toArray, List.getElem_cons_succ, List.getElem_cons_zero, List.setIfInBounds_toArray, List.set_cons_zero, List.set_cons_succ]
    refine wpAnyH_take (i := 12) (v := .string s) rfl (by kernel_rfl) (by kernel_rfl) (by kernel_rfl) (fun _ _ _ h => h) (yields_move (.tmp 0) (.string s) rfl (by kernel_rfl) (by kernel_rfl)) trivial ?_
    simp only [Act.put, List.getElem_toArray, List.getElem_cons_succ, List.getElem_cons_zero, List.setIfInBounds_toArray, List.set_cons_zero, List.set_cons_succ]
    refine wpAnyH_take (i := 13) (v := .string (s.extract 16 20)) rfl (by kernel_rfl) (by kernel_rfl) (by kernel_rfl) (fun _ _ _ h => h) (yields_slice (.tmp 62) s 16 20 16 20 rfl (by kernel_rfl) (by kernel_rfl) rfl rfl (by omega) (by omega)) trivial ?_
    simp only [Act.put, List.getElem_toArray, List.getElem_cons_succ, List.getElem_cons_zero, List.setIfInBounds_toArray, List.set_cons_zero, List.set_cons_succ]
    refine wpAnyH_ready (rs := [8, 16]) (by kernel_rfl) (by simp) ?_
    refine AllReadyH.cons rfl (fun K hK => ?_) ?_
    · rw [if_pos (by kernel_rfl)]
      refine wp_callB 24 #[.string (s.extract 4 6)] (by kernel_rfl) _ (N4 _) ?_; intro w' hb; (try replace hb := below_undr' hb); replace T0 := T0.below hb; replace T4 := T4.below hb; (try replace T5 := T5.below hb); replace hB := hB.trans (hb.mono hB.size)
      refine hK.out _ _ trivial (fun _ => ?_)
      clear hK K
      try simp only [Act.put, List.getElem_toArray, List.getElem_cons_succ, List.getElem_cons_zero, List.setIfInBounds_toArray, List.set_cons_zero, List.set_cons_succ]
      refine wpAnyH_ready (rs := [11, 16]) (by kernel_rfl) (by simp) ?_
      refine AllReadyH.cons rfl (fun K hK => ?_) ?_
      · rw [if_pos (by kernel_rfl)]
        refine wp_callB 24 #[.string (s.extract 12 16)] (by kernel_rfl) _ (N12 _) ?_; intro w' hb; (try replace hb := below_undr' hb); replace T0 := T0.below hb; replace T4 := T4.below hb; (try replace T5 := T5.below hb); replace hB := hB.trans (hb.mono hB.size)
        refine hK.out _ _ trivial (fun _ => ?_)
        clear hK K
        try simp only [Act.put, List.getElem_toArray, List.getElem_cons_succ, List.getElem_cons_zero, List.setIfInBounds_toArray, List.set_cons_zero, List.set_cons_succ]
        refine wpAnyH_ready (rs := [14, 16]) (by kernel_rfl) (by simp) ?_
        refine AllReadyH.cons rfl (fun K hK => ?_) ?_
        · rw [if_pos (by kernel_rfl)]
          refine wp_callB 24 #[.string (s.extract 16 20)] (by kernel_rfl) _ (N16 _) ?_; intro w' hb; (try replace hb := below_undr' hb); replace T0 := T0.below hb; replace T4 := T4.below hb; (try replace T5 := T5.below hb); replace hB := hB.trans (hb.mono hB.size)
          refine hK.out _ _ trivial (fun _ => ?_)
          clear hK K
          try simp only [Act.put, List.getElem_toArray, List.getElem_cons_succ, List.getElem_cons_zero, List.setIfInBounds_toArray, List.set_cons_zero, List.set_cons_succ]
          refine wpAnyH_take (i := 15) (v := .agg #[.int .i64 (byt s.data.toList 9), .int .i64 (lAt s.data.toList 12), .int .i64 0, .int .i64 (lAt s.data.toList 16), .int .i64 0, .int .i64 (byt s.data.toList 8), .int .i64 (wAt s.data.toList 4), .int .i64 0, .int .i64 0, .int .i64 0, .int .i64 0, .string ⟨#[]⟩]) rfl (by kernel_rfl) (by kernel_rfl) (by kernel_rfl) (fun _ _ _ h => h) (Or.inl ⟨by kernel_rfl, by intro w _; kernel_rfl⟩) trivial ?_
          simp only [Act.put, List.getElem_toArray, List.getElem_cons_succ, List.getElem_cons_zero, List.setIfInBounds_toArray, List.set_cons_zero, List.set_cons_succ]
          refine wpAnyH_ready (rs := [16]) (by kernel_rfl) (by simp) ?_
          refine AllReadyH.cons rfl (fun K hK => ?_) ?_
          · rw [if_pos (by kernel_rfl)]
            refine wp_alloc12 rfl ?_; intro b w' eb T5 hk hbb; have lt5 : w.heap.size + 1 < b := (by rw [eb]; exact T4.lt); replace T0 := hk _ _ T0; replace T4 := hk _ _ T4; (first | (replace hB := hbb _ _ hB hB.size) | (replace hB := hbb _ _ (below_drew hB) hB.size)); clear hk hbb eb
            refine hK.out _ _ trivial (fun _ => ?_)
            clear hK K
            try simp only [Act.put, List.getElem_toArray, List.getElem_cons_succ, List.getElem_cons_zero, List.setIfInBounds_toArray, List.set_cons_zero, List.set_cons_succ]
            refine wpAnyH_ready (rs := [17]) (by kernel_rfl) (by simp) ?_
            refine AllReadyH.cons rfl (fun K hK => ?_) ?_
            · rw [if_pos (by kernel_rfl)]
              refine wp_store12 _ _ rfl b rfl #[.int .i64 (byt s.data.toList 9), .int .i64 (lAt s.data.toList 12), .int .i64 0, .int .i64 (lAt s.data.toList 16), .int .i64 0, .int .i64 (byt s.data.toList 8), .int .i64 (wAt s.data.toList 4), .int .i64 0, .int .i64 0, .int .i64 0, .int .i64 0, .string ⟨#[]⟩] rfl _ T5 rfl rfl (by kernel_rfl) ?_; intro w' T5 hk hbb; replace T0 := hk _ _ (by omega) T0; replace T4 := hk _ _ (by omega) T4; (first | (replace hB := hbb _ _ (by omega) hB) | (replace hB := hbb _ _ (by omega) (below_drew hB))); clear hk hbb
              refine hK.out _ _ trivial (fun _ => ?_)
              clear hK K
              try simp only [Act.put, List.getElem_toArray, List.getElem_cons_succ, List.getElem_cons_zero, List.setIfInBounds_toArray, List.set_cons_zero, List.set_cons_succ]
              refine wpAnyH_done (by kernel_rfl) ?_ _
              refine NoPanic.normal ?_
              go_wp2_with fail
              go_meet
              case rel => exact ⟨_, rfl, lt5, T5, T0, T4, hB⟩
            exact AllReadyH.nil
          exact AllReadyH.nil
        refine AllReadyH.cons rfl (fun K hK => ?_) ?_
        · rw [if_pos (by kernel_rfl)]
          refine wp_alloc12 rfl ?_; intro b w' eb T5 hk hbb; have lt5 : w.heap.size + 1 < b := (by rw [eb]; exact T4.lt); replace T0 := hk _ _ T0; replace T4 := hk _ _ T4; (first | (replace hB := hbb _ _ hB hB.size) | (replace hB := hbb _ _ (below_drew hB) hB.size)); clear hk hbb eb
          refine hK.out _ _ trivial (fun _ => ?_)
          clear hK K
          try simp only [Act.put, List.getElem_toArray, List.getElem_cons_succ, List.getElem_cons_zero, List.setIfInBounds_toArray, List.set_cons_zero, List.set_cons_succ]
          refine wpAnyH_ready (rs := [14]) (by kernel_rfl) (by simp) ?_
          refine AllReadyH.cons rfl (fun K hK => ?_) ?_
          · rw [if_pos (by kernel_rfl)]
            refine wp_callB 24 #[.string (s.extract 16 20)] (by kernel_rfl) _ (N16 _) ?_; intro w' hb; (try replace hb := below_undr' hb); replace T0 := T0.below hb; replace T4 := T4.below hb; (try replace T5 := T5.below hb); replace hB := hB.trans (hb.mono hB.size)
            refine hK.out _ _ trivial (fun _ => ?_)
            clear hK K
            try simp only [Act.put, List.getElem_toArray, List.getElem_cons_succ, List.getElem_cons_zero, List.setIfInBounds_toArray, List.set_cons_zero, List.set_cons_succ]
            refine wpAnyH_take (i := 15) (v := .agg #[.int .i64 (byt s.data.toList 9), .int .i64 (lAt s.data.toList 12), .int .i64 0, .int .i64 (lAt s.data.toList 16), .int .i64 0, .int .i64 (byt s.data.toList 8), .int .i64 (wAt s.data.toList 4), .int .i64 0, .int .i64 0, .int .i64 0, .int .i64 0, .string ⟨#[]⟩]) rfl (by kernel_rfl) (by kernel_rfl) (by kernel_rfl) (fun _ _ _ h => h) (Or.inl ⟨by kernel_rfl, by intro w _; kernel_rfl⟩) trivial ?_
            simp only [Act.put, List.getElem_toArray, List.getElem_cons_succ, List.getElem_cons_zero, List.setIfInBounds_toArray, List.set_cons_zero, List.set_cons_succ]
            refine wpAnyH_ready (rs := [17]) (by kernel_rfl) (by simp) ?_
            refine AllReadyH.cons rfl (fun K hK => ?_) ?_
            · rw [if_pos (by kernel_rfl)]
              refine wp_store12 _ _ rfl b rfl #[.int .i64 (byt s.data.toList 9), .int .i64 (lAt s.data.toList 12), .int .i64 0, .int .i64 (lAt s.data.toList 16), .int .i64 0, .int .i64 (byt s.data.toList 8), .int .i64 (wAt s.data.toList 4), .int .i64 0, .int .i64 0, .int .i64 0, .int .i64 0, .string ⟨#[]⟩] rfl _ T5 rfl rfl (by kernel_rfl) ?_; intro w' T5 hk hbb; replace T0 := hk _ _ (by omega) T0; replace T4 := hk _ _ (by omega) T4; (first | (replace hB := hbb _ _ (by omega) hB) | (replace hB := hbb _ _ (by omega) (below_drew hB))); clear hk hbb
              refine hK.out _ _ trivial (fun _ => ?_)
              clear hK K
              try simp only [Act.put, List.getElem_toArray, List.getElem_cons_succ, List.getElem_cons_zero, List.setIfInBounds_toArray, List.set_cons_zero, List.set_cons_succ]
              refine wpAnyH_done (by kernel_rfl) ?_ _
              refine NoPanic.normal ?_
              go_wp2_with fail
              go_meet
              case rel => exact ⟨_, rfl, lt5, T5, T0, T4, hB⟩
            exact AllReadyH.nil
          exact AllReadyH.nil
        exact AllReadyH.nil
      refine AllReadyH.cons rfl (fun K hK => ?_) ?_
      · rw [if_pos (by kernel_rfl)]
        refine wp_alloc12 rfl ?_; intro b w' eb T5 hk hbb; have lt5 : w.heap.size + 1 < b := (by rw [eb]; exact T4.lt); replace T0 := hk _ _ T0; replace T4 := hk _ _ T4; (first | (replace hB := hbb _ _ hB hB.size) | (replace hB := hbb _ _ (below_drew hB) hB.size)); clear hk hbb eb
        refine hK.out _ _ trivial (fun _ => ?_)
        clear hK K
        try simp only [Act.put, List.getElem_toArray, List.getElem_cons_succ, List.getElem_cons_zero, List.setIfInBounds_toArray, List.set_cons_zero, List.set_cons_succ]
        refine wpAnyH_ready (rs := [11]) (by kernel_rfl) (by simp) ?_
        refine AllReadyH.cons rfl (fun K hK => ?_) ?_
        · rw [if_pos (by kernel_rfl)]
          refine wp_callB 24 #[.string (s.extract 12 16)] (by kernel_rfl) _ (N12 _) ?_; intro w' hb; (try replace hb := below_undr' hb); replace T0 := T0.below hb; replace T4 := T4.below hb; (try replace T5 := T5.below hb); replace hB := hB.trans (hb.mono hB.size)
          refine hK.out _ _ trivial (fun _ => ?_)
          clear hK K
          try simp only [Act.put, List.getElem_toArray, List.getElem_cons_succ, List.getElem_cons_zero, List.setIfInBounds_toArray, List.set_cons_zero, List.set_cons_succ]
          refine wpAnyH_ready (rs := [14]) (by kernel_rfl) (by simp) ?_
          refine AllReadyH.cons rfl (fun K hK => ?_) ?_
          · rw [if_pos (by kernel_rfl)]
            refine wp_callB 24 #[.string (s.extract 16 20)] (by kernel_rfl) _ (N16 _) ?_; intro w' hb; (try replace hb := below_undr' hb); replace T0 := T0.below hb; replace T4 := T4.below hb; (try replace T5 := T5.below hb); replace hB := hB.trans (hb.mono hB.size)
            refine hK.out _ _ trivial (fun _ => ?_)
            clear hK K
            try simp only [Act.put, List.getElem_toArray, List.getElem_cons_succ, List.getElem_cons_zero, List.setIfInBounds_toArray, List.set_cons_zero, List.set_cons_succ]
            refine wpAnyH_take (i := 15) (v := .agg #[.int .i64 (byt s.data.toList 9), .int .i64 (lAt s.data.toList 12), .int .i64 0, .int .i64 (lAt s.data.toList 16), .int .i64 0, .int .i64 (byt s.data.toList 8), .int .i64 (wAt s.data.toList 4), .int .i64 0, .int .i64 0, .int .i64 0, .int .i64 0, .string ⟨#[]⟩]) rfl (by kernel_rfl) (by kernel_rfl) (by kernel_rfl) (fun _ _ _ h => h) (Or.inl ⟨by kernel_rfl, by intro w _; kernel_rfl⟩) trivial ?_
            simp only [Act.put, List.getElem_toArray, List.getElem_cons_succ, List.getElem_cons_zero, List.setIfInBounds_toArray, List.set_cons_zero, List.set_cons_succ]
            refine wpAnyH_ready (rs := [17]) (by kernel_rfl) (by simp) ?_
            refine AllReadyH.cons rfl (fun K hK => ?_) ?_
            · rw [if_pos (by kernel_rfl)]
              refine wp_store12 _ _ rfl b rfl #[.int .i64 (byt s.data.toList 9), .int .i64 (lAt s.data.toList 12), .int .i64 0, .int .i64 (lAt s.data.toList 16), .int .i64 0, .int .i64 (byt s.data.toList 8), .int .i64 (wAt s.data.toList 4), .int .i64 0, .int .i64 0, .int .i64 0, .int .i64 0, .string ⟨#[]⟩] rfl _ T5 rfl rfl (by kernel_rfl) ?_; intro w' T5 hk hbb; replace T0 := hk _ _ (by omega) T0; replace T4 := hk _ _ (by omega) T4; (first | (replace hB := hbb _ _ (by omega) hB) | (replace hB := hbb _ _ (by omega) (below_drew hB))); clear hk hbb
              refine hK.out _ _ trivial (fun _ => ?_)
              clear hK K
              try simp only [Act.put, List.getElem_toArray, List.getElem_cons_succ, List.getElem_cons_zero, List.setIfInBounds_toArray, List.set_cons_zero, List.set_cons_succ]
              refine wpAnyH_done (by kernel_rfl) ?_ _
              refine NoPanic.normal ?_
              go_wp2_with fail
              go_meet
              case rel => exact ⟨_, rfl, lt5, T5, T0, T4, hB⟩
            exact AllReadyH.nil
          exact AllReadyH.nil
        exact AllReadyH.nil
      exact AllReadyH.nil
    refine AllReadyH.cons rfl (fun K hK => ?_) ?_
    · rw [if_pos (by kernel_rfl)]
      refine wp_alloc12 rfl ?_; intro b w' eb T5 hk hbb; have lt5 : w.heap.size + 1 < b := (by rw [eb]; exact T4.lt); replace T0 := hk _ _ T0; replace T4 := hk _ _ T4; (first | (replace hB := hbb _ _ hB hB.size) | (replace hB := hbb _ _ (below_drew hB) hB.size)); clear hk hbb eb
      refine hK.out _ _ trivial (fun _ => ?_)
      clear hK K
      try simp only [Act.put, List.getElem_toArray, List.getElem_cons_succ, List.getElem_cons_zero, List.setIfInBounds_toArray, List.set_cons_zero, List.set_cons_succ]
      refine wpAnyH_ready (rs := [8]) (by kernel_rfl) (by simp) ?_
      refine AllReadyH.cons rfl (fun K hK => ?_) ?_
      · rw [if_pos (by kernel_rfl)]
        refine wp_callB 24 #[.string (s.extract 4 6)] (by kernel_rfl) _ (N4 _) ?_; intro w' hb; (try replace hb := below_undr' hb); replace T0 := T0.below hb; replace T4 := T4.below hb; (try replace T5 := T5.below hb); replace hB := hB.trans (hb.mono hB.size)
        refine hK.out _ _ trivial (fun _ => ?_)
        clear hK K
        try simp only [Act.put, List.getElem_toArray, List.getElem_cons_succ, List.getElem_cons_zero, List.setIfInBounds_toArray, List.set_cons_zero, List.set_cons_succ]
        refine wpAnyH_ready (rs := [11]) (by kernel_rfl) (by simp) ?_
        refine AllReadyH.cons rfl (fun K hK => ?_) ?_
        · rw [if_pos (by kernel_rfl)]
          refine wp_callB 24 #[.string (s.extract 12 16)] (by kernel_rfl) _ (N12 _) ?_; intro w' hb; (try replace hb := below_undr' hb); replace T0 := T0.below hb; replace T4 := T4.below hb; (try replace T5 := T5.below hb); replace hB := hB.trans (hb.mono hB.size)
          refine hK.out _ _ trivial (fun _ => ?_)
          clear hK K
          try simp only [Act.put, List.getElem_toArray, List.getElem_cons_succ, List.getElem_cons_zero, List.setIfInBounds_toArray, List.set_cons_zero, List.set_cons_succ]
          refine wpAnyH_ready (rs := [14]) (by kernel_rfl) (by simp) ?_
          refine AllReadyH.cons rfl (fun K hK => ?_) ?_
          · rw [if_pos (by kernel_rfl)]
            refine wp_callB 24 #[.string (s.extract 16 20)] (by kernel_rfl) _ (N16 _) ?_; intro w' hb; (try replace hb := below_undr' hb); replace T0 := T0.below hb; replace T4 := T4.below hb; (try replace T5 := T5.below hb); replace hB := hB.trans (hb.mono hB.size)
            refine hK.out _ _ trivial (fun _ => ?_)
            clear hK K
            try simp only [Act.put, List.getElem_toArray, List.getElem_cons_succ, List.getElem_cons_zero, List.setIfInBounds_toArray, List.set_cons_zero, List.set_cons_succ]
            refine wpAnyH_take (i := 15) (v := .agg #[.int .i64 (byt s.data.toList 9), .int .i64 (lAt s.data.toList 12), .int .i64 0, .int .i64 (lAt s.data.toList 16), .int .i64 0, .int .i64 (byt s.data.toList 8), .int .i64 (wAt s.data.toList 4), .int .i64 0, .int .i64 0, .int .i64 0, .int .i64 0, .string ⟨#[]⟩]) rfl (by kernel_rfl) (by kernel_rfl) (by kernel_rfl) (fun _ _ _ h => h) (Or.inl ⟨by kernel_rfl, by intro w _; kernel_rfl⟩) trivial ?_
            simp only [Act.put, List.getElem_toArray, List.getElem_cons_succ, List.getElem_cons_zero, List.setIfInBounds_toArray, List.set_cons_zero, List.set_cons_succ]
            refine wpAnyH_ready (rs := [17]) (by kernel_rfl) (by simp) ?_
            refine AllReadyH.cons rfl (fun K hK => ?_) ?_
            · rw [if_pos (by kernel_rfl)]
              refine wp_store12 _ _ rfl b rfl #[.int .i64 (byt s.data.toList 9), .int .i64 (lAt s.data.toList 12), .int .i64 0, .int .i64 (lAt s.data.toList 16), .int .i64 0, .int .i64 (byt s.data.toList 8), .int .i64 (wAt s.data.toList 4), .int .i64 0, .int .i64 0, .int .i64 0, .int .i64 0, .string ⟨#[]⟩] rfl _ T5 rfl rfl (by kernel_rfl) ?_; intro w' T5 hk hbb; replace T0 := hk _ _ (by omega) T0; replace T4 := hk _ _ (by omega) T4; (first | (replace hB := hbb _ _ (by omega) hB) | (replace hB := hbb _ _ (by omega) (below_drew hB))); clear hk hbb
              refine hK.out _ _ trivial (fun _ => ?_)
              clear hK K
              try simp only [Act.put, List.getElem_toArray, List.getElem_cons_succ, List.getElem_cons_zero, List.setIfInBounds_toArray, List.set_cons_zero, List.set_cons_succ]
              refine wpAnyH_done (by kernel_rfl) ?_ _
              refine NoPanic.normal ?_
              go_wp2_with fail
              go_meet
              case rel => exact ⟨_, rfl, lt5, T5, T0, T4, hB⟩
            exact AllReadyH.nil
          exact AllReadyH.nil
        exact AllReadyH.nil
      exact AllReadyH.nil
    exact AllReadyH.nil
  case rest =>
    clear T0 T4 hB c0 c4 f0
    obtain ⟨b, rfl, hb1, T5, T0, T4, hB⟩ := hcut
    replace c0 := T0.cell; replace c4 := T4.cell; replace f0 := T0.free; replace c5 := T5.cell; replace f5 := T5.free
    have z2 : (s.extract 20 s.size).size = s.size - 20 := ext_size s 20 s.size (Nat.le_refl _)
    have z3 : ((s.extract 20 s.size).size : Int) = (s.size : Int) - 20 := by omega
    have z4 : ((s.size - 20 : Nat) : Int) = (s.size : Int) - 20 := by omega
    have b9 := byt_bd s.data.toList 9
    have CA := fun w => ahead_any (lAt s.data.toList 12) (lAt s.data.toList 16) (byt s.data.toList 9) ((s.size : Int) - 20) w b9 (lAt_bd _ _) (lAt_bd _ _) (by omega)
    have hps : (txt (ps (lAt s.data.toList 12) (lAt s.data.toList 16) (byt s.data.toList 9) ((s.size : Int) - 20))).size ≤ 12 := by rw [txt_size]; unfold ps; split <;> simp
    have CS : ∀ w, Calls Try.prog 25 #[.string (txt (ps (lAt s.data.toList 12) (lAt s.data.toList 16) (byt s.data.toList 9) ((s.size : Int) - 20)) ++ s.extract 20 s.size)] w fun e w' => e = .returned (.int .i64 (bk (tot (chkd s.data.toList (byt s.data.toList 9))))) ∧ Below w.heap.size w w' := by
      intro w
      have := sumRef_any (txt (ps (lAt s.data.toList 12) (lAt s.data.toList 16) (byt s.data.toList 9) ((s.size : Int) - 20)) ++ s.extract 20 s.size) w (by rw [ByteArray.size_append]; omega)
      rw [ByteArray.data_append, Array.toList_append, txt_list, ext_from, ← hll, ps_chkd _ _ (by omega)] at this
      exact this
    have k9 : byt s.data.toList 9 = 6 := hk9.out
    have e1 : (byt s.data.toList 9 == 1) = false := by rw [k9]; rfl
    have e6 : (byt s.data.toList 9 == 6) = true := by rw [k9]; rfl
    have e17 : (byt s.data.toList 9 == 17) = false := by rw [k9]; rfl
    have HPN : Hid (partN (byt s.data.toList 9) = 20) := by show _ = _; rw [k9]; rfl
    have HK : Hid (byt s.data.toList 9 = 6) := k9
    have HH : Hid (HeadOk s.data.toList) := ⟨by omega, H.mark, H.size, H.sum, H.serv, H.piece, H.ttl, by rw [k9]; rfl⟩
    clear k9
    by_cases hsh : (s.size : Int) - 20 < 20
    · have hbd : Hid (bad s.data.toList = 1) := pb_len s.data.toList HH.out (by rw [HPN.out, hll]; exact hsh)
      go_wp2
      refine bodyPost_ret (v := .tuple #[pv p0, .int .i64 1]) (by simp [results, Try.results10, go_sem, pv, p0, c0]; rfl) rfl ⟨by rw [parsed_bad _ 1 hbd.out (by omega), hbd.out], ?_⟩
      iterate 12 (refine Below.setCell ?_ (by exact Nat.le_refl _) _)
      exact hB

    have hn : (20 : Int) ≤ (s.size : Int) - 20 := by omega
    clear hsh
    have HL : Hid (partN (byt s.data.toList 9) ≤ (s.data.toList.length : Int) - 20) := by show _ ≤ _; rw [HPN.out, hll]; exact hn
    by_cases hsum : bk (tot (chkd s.data.toList (byt s.data.toList 9))) = 65535
    rotate_left
    · have hbd : Hid (bad s.data.toList = 3) := pb_sum s.data.toList HH.out HL.out hsum
      have ds : (bk (tot (chkd s.data.toList (byt s.data.toList 9))) != 65535) = true := by simpa using hsum
      clear hsum
      go_wp2_with (first
          | (go_at_call 26; go_fit (CA _); rintro e w' ⟨rfl, hb⟩; (try replace hb := below_undr' hb); replace T0 := T0.below hb; replace T4 := T4.below hb; replace T5 := T5.below hb; replace c0 := T0.cell; replace c4 := T4.cell; replace f0 := T0.free; replace c5 := T5.cell; replace f5 := T5.free; replace hB := hB.trans (hb.mono hB.size))
          | (go_at_call 25; go_fit (CS _); rintro e w' ⟨rfl, hb⟩; (try replace hb := below_undr' hb); replace T0 := T0.below hb; replace T4 := T4.below hb; replace T5 := T5.below hb; replace c0 := T0.cell; replace c4 := T4.cell; replace f0 := T0.free; replace c5 := T5.cell; replace f5 := T5.free; replace hB := hB.trans (hb.mono hB.size)))
      refine bodyPost_ret (v := .tuple #[pv p0, .int .i64 3]) (by simp [results, Try.results10, go_sem, pv, p0, c0]; rfl) rfl ⟨by rw [parsed_bad _ 3 hbd.out (by omega), hbd.out], ?_⟩
      iterate 12 (refine Below.setCell ?_ (by exact Nat.le_refl _) _)
      exact hB

    have HS : Hid (bk (tot (chkd s.data.toList (byt s.data.toList 9))) = 65535) := hsum
    have ds : (bk (tot (chkd s.data.toList (byt s.data.toList 9))) != 65535) = false := by simpa using hsum
    clear hsum
    go_upto_region 23 with (first
          | (go_at_call 26; go_fit (CA _); rintro e w' ⟨rfl, hb⟩; (try replace hb := below_undr' hb); replace T0 := T0.below hb; replace T4 := T4.below hb; replace T5 := T5.below hb; replace c0 := T0.cell; replace c4 := T4.cell; replace f0 := T0.free; replace c5 := T5.cell; replace f5 := T5.free; replace hB := hB.trans (hb.mono hB.size))
          | (go_at_call 25; go_fit (CS _); rintro e w' ⟨rfl, hb⟩; (try replace hb := below_undr' hb); replace T0 := T0.below hb; replace T4 := T4.below hb; replace T5 := T5.below hb; replace c0 := T0.cell; replace c4 := T4.cell; replace f0 := T0.free; replace c5 := T5.cell; replace f5 := T5.free; replace hB := hB.trans (hb.mono hB.size)))
    go_cut [] (fun wx => Twelve wx b #[.int .i64 (byt s.data.toList 9), .int .i64 (lAt s.data.toList 12), .int .i64 0, .int .i64 (lAt s.data.toList 16), .int .i64 0, .int .i64 (byt s.data.toList 8), .int .i64 (wAt s.data.toList 4), .int .i64 0, .int .i64 0, .int .i64 0, .int .i64 0, .string ((s.extract 20 s.size).extract 20 (s.extract 20 s.size).size)] ∧ Twelve wx w.heap.size #[.int .i64 0, .int .i64 0, .int .i64 0, .int .i64 0, .int .i64 0, .int .i64 0, .int .i64 0, .int .i64 0, .int .i64 0, .int .i64 0, .int .i64 0, .string ⟨#[]⟩] ∧ Twelve wx (w.heap.size + 1) #[.int .i64 0, .int .i64 0, .int .i64 0, .int .i64 0, .int .i64 0, .int .i64 0, .int .i64 0, .int .i64 0, .int .i64 0, .int .i64 0, .int .i64 0, .string ⟨#[]⟩] ∧ Below w.heap.size w wx)
    case first =>
      go_wp2_with fail
      go_meet
      case rel => exact ⟨by have := T5.set 11 (.string ((s.extract 20 s.size).extract 20 (s.extract 20 s.size).size)); simpa using this, twelve_other T0 (by omega), twelve_other T4 (by omega), hB.setCell (by show w.heap.size ≤ b; omega) _⟩
    case rest =>
    clear T0 T4 T5 hB c0 c4 c5 f0 f5
    obtain ⟨T5, T0, T4, hB⟩ := hcut
    replace c0 := T0.cell; replace c4 := T4.cell; replace f0 := T0.free; replace c5 := T5.cell; replace f5 := T5.free
    have j12 : (12 : Int) < (s.size : Int) - 20 := by omega
    have ge12 : ∀ h, (((s.extract 20 s.size)[12]'h).toNat : Int) = byt s.data.toList 32 := fun h => get_ext s 12 h
    have j13 : (13 : Int) < (s.size : Int) - 20 := by omega
    have ge13 : ∀ h, (((s.extract 20 s.size)[13]'h).toNat : Int) = byt s.data.toList 33 := fun h => get_ext s 13 h
    have j18 : (18 : Int) < (s.size : Int) - 20 := by omega
    have ge18 : ∀ h, (((s.extract 20 s.size)[18]'h).toNat : Int) = byt s.data.toList 38 := fun h => get_ext s 18 h
    have j19 : (19 : Int) < (s.size : Int) - 20 := by omega
    have ge19 : ∀ h, (((s.extract 20 s.size)[19]'h).toNat : Int) = byt s.data.toList 39 := fun h => get_ext s 19 h
    by_cases q0 : byt s.data.toList 32 = 80
    rotate_left
    · have hbd : Hid (bad s.data.toList = 4) := pb_tcp s.data.toList HH.out HL.out HS.out HK.out (.inl q0)
      have v0 : (byt s.data.toList 32 != 80) = true := by simpa using q0
      clear q0
      go_wp2
      refine bodyPost_ret (v := .tuple #[pv p0, .int .i64 4]) (by simp [results, Try.results10, go_sem, pv, p0, c0]; rfl) rfl ⟨by rw [parsed_bad _ 4 hbd.out (by omega), hbd.out], ?_⟩
      iterate 12 (refine Below.setCell ?_ (by exact Nat.le_refl _) _)
      exact hB

    have HQ0 : Hid (byt s.data.toList 32 = 80) := q0
    have v0 : (byt s.data.toList 32 != 80) = false := by simpa using q0
    clear q0
    by_cases q1 : 63 < byt s.data.toList 33
    · have hbd : Hid (bad s.data.toList = 4) := pb_tcp s.data.toList HH.out HL.out HS.out HK.out (.inr (.inl q1))
      go_wp2
      refine bodyPost_ret (v := .tuple #[pv p0, .int .i64 4]) (by simp [results, Try.results10, go_sem, pv, p0, c0]; rfl) rfl ⟨by rw [parsed_bad _ 4 hbd.out (by omega), hbd.out], ?_⟩
      iterate 12 (refine Below.setCell ?_ (by exact Nat.le_refl _) _)
      exact hB

    have v1 : byt s.data.toList 33 ≤ 63 := by omega
    clear q1
    by_cases q2 : byt s.data.toList 38 = 0
    rotate_left
    · have hbd : Hid (bad s.data.toList = 4) := pb_tcp s.data.toList HH.out HL.out HS.out HK.out (.inr (.inr (.inl q2)))
      have v2 : (byt s.data.toList 38 != 0) = true := by simpa using q2
      clear q2
      go_wp2
      refine bodyPost_ret (v := .tuple #[pv p0, .int .i64 4]) (by simp [results, Try.results10, go_sem, pv, p0, c0]; rfl) rfl ⟨by rw [parsed_bad _ 4 hbd.out (by omega), hbd.out], ?_⟩
      iterate 12 (refine Below.setCell ?_ (by exact Nat.le_refl _) _)
      exact hB

    have HQ2 : Hid (byt s.data.toList 38 = 0) := q2
    have v2 : (byt s.data.toList 38 != 0) = false := by simpa using q2
    clear q2
    by_cases q3 : byt s.data.toList 39 = 0
    rotate_left
    · have hbd : Hid (bad s.data.toList = 4) := pb_tcp s.data.toList HH.out HL.out HS.out HK.out (.inr (.inr (.inr q3)))
      have v3 : (byt s.data.toList 39 != 0) = true := by simpa using q3
      clear q3
      go_wp2
      refine bodyPost_ret (v := .tuple #[pv p0, .int .i64 4]) (by simp [results, Try.results10, go_sem, pv, p0, c0]; rfl) rfl ⟨by rw [parsed_bad _ 4 hbd.out (by omega), hbd.out], ?_⟩
      iterate 12 (refine Below.setCell ?_ (by exact Nat.le_refl _) _)
      exact hB

    have HQ3 : Hid (byt s.data.toList 39 = 0) := q3
    have v3 : (byt s.data.toList 39 != 0) = false := by simpa using q3
    clear q3
    exact absurd ⟨hn, HS.out, HQ0.out, v1, HQ2.out, HQ3.out⟩ hv.out

end Go.Proofs.Ythcedehppflcgab
