/-
  The walk of the document's own Parse behind a right head: one kind of packet.
-/
import Derived.Test.YthcedehppflcgabYieldW
namespace Go.Proofs.Ythcedehppflcgab
open Go.ChangeShapes Go.WideShapes Go.ChangeAt Go.RowKit
set_option linter.unusedSimpArgs false
set_option linter.unusedVariables false
set_option maxRecDepth 10000 in
set_option maxHeartbeats 40000000 in
theorem pref_ping0g (s : ByteArray) (w : World) (hs : s.size ≤ 65535) (h20 : 20 ≤ s.size) (H : HeadO s.data.toList) (hk9 : Hid (byt s.data.toList 9 = 1)) (hv : Hid ((8 : Int) ≤ (s.size : Int) - 20 ∧ bk (tot (chkd s.data.toList (byt s.data.toList 9))) = 65535 ∧ byt s.data.toList 20 = 0 ∧ byt s.data.toList 21 = 0)) (hg : Hid (good (pktOf s.data.toList) = 0)) :
    Calls Try.prog 10 #[.string s] w fun e w' => e = .returned (.tuple #[pv (parsed s.data.toList), .int .i64 (bad s.data.toList)]) ∧ Below w.heap.size w w' := by
  have hll := len_list s
  have T0 : Twelve ((w.alloc (.cells #[.int .i64 0, .int .i64 0, .int .i64 0, .int .i64 0, .int .i64 0, .int .i64 0, .int .i64 0, .int .i64 0, .int .i64 0, .int .i64 0, .int .i64 0, .string ⟨#[]⟩] 23)).alloc (.cells #[.int .i64 0, .int .i64 0, .int .i64 0, .int .i64 0, .int .i64 0, .int .i64 0, .int .i64 0, .int .i64 0, .int .i64 0, .int .i64 0, .int .i64 0, .string ⟨#[]⟩] 23)) w.heap.size #[.int .i64 0, .int .i64 0, .int .i64 0, .int .i64 0, .int .i64 0, .int .i64 0, .int .i64 0, .int .i64 0, .int .i64 0, .int .i64 0, .int .i64 0, .string ⟨#[]⟩] := (Below.heap_alloc _ _ _ (by simp)).trans (heap_alloc_new w _)
  have T4 : Twelve ((w.alloc (.cells #[.int .i64 0, .int .i64 0, .int .i64 0, .int .i64 0, .int .i64 0, .int .i64 0, .int .i64 0, .int .i64 0, .int .i64 0, .int .i64 0, .int .i64 0, .string ⟨#[]⟩] 23)).alloc (.cells #[.int .i64 0, .int .i64 0, .int .i64 0, .int .i64 0, .int .i64 0, .int .i64 0, .int .i64 0, .int .i64 0, .int .i64 0, .int .i64 0, .int .i64 0, .string ⟨#[]⟩] 23)) (w.heap.size + 1) #[.int .i64 0, .int .i64 0, .int .i64 0, .int .i64 0, .int .i64 0, .int .i64 0, .int .i64 0, .int .i64 0, .int .i64 0, .int .i64 0, .int .i64 0, .string ⟨#[]⟩] := by
    have := heap_alloc_new (w.alloc (.cells #[.int .i64 0, .int .i64 0, .int .i64 0, .int .i64 0, .int .i64 0, .int .i64 0, .int .i64 0, .int .i64 0, .int .i64 0, .int .i64 0, .int .i64 0, .string ⟨#[]⟩] 23)) (.cells #[.int .i64 0, .int .i64 0, .int .i64 0, .int .i64 0, .int .i64 0, .int .i64 0, .int .i64 0, .int .i64 0, .int .i64 0, .int .i64 0, .int .i64 0, .string ⟨#[]⟩] 23)
    simpa [Twelve] using this
  have hB : Below w.heap.size w ((w.alloc (.cells #[.int .i64 0, .int .i64 0, .int .i64 0, .int .i64 0, .int .i64 0, .int .i64 0, .int .i64 0, .int .i64 0, .int .i64 0, .int .i64 0, .int .i64 0, .string ⟨#[]⟩] 23)).alloc (.cells #[.int .i64 0, .int .i64 0, .int .i64 0, .int .i64 0, .int .i64 0, .int .i64 0, .int .i64 0, .int .i64 0, .int .i64 0, .int .i64 0, .int .i64 0, .string ⟨#[]⟩] 23)) := ((Below.refl _ _).alloc (Nat.le_refl _) _).alloc (by simp) _
  replace c0 := T0.cell; replace c4 := T4.cell; replace f0 := T0.free

  have N2 := fun w => num2_any s 2 4 w rfl (by omega)
  have N4 := fun w => num2_any s 4 6 w rfl (by omega)
  have N12 := fun w => num4_any s 12 16 w rfl (by omega)
  have N16 := fun w => num4_any s 16 20 w rfl (by omega)
  have SH := fun w => sum20_any s w h20
  have g0 : ∀ h, ((s[0]'h).toNat : Int) = byt s.data.toList 0 := fun h => byt_get s 0 h
  have g1 : ∀ h, ((s[1]'h).toNat : Int) = byt s.data.toList 1 := fun h => byt_get s 1 h
  have g6 : ∀ h, ((s[6]'h).toNat : Int) = byt s.data.toList 6 := fun h => byt_get s 6 h
  have g7 : ∀ h, ((s[7]'h).toNat : Int) = byt s.data.toList 7 := fun h => byt_get s 7 h
  have g8 : ∀ h, ((s[8]'h).toNat : Int) = byt s.data.toList 8 := fun h => byt_get s 8 h
  have g9 : ∀ h, ((s[9]'h).toNat : Int) = byt s.data.toList 9 := fun h => byt_get s 9 h
  have e6 : byt s.data.toList 6 = 0 ∧ byt s.data.toList 7 = 0 := by
    have := H.piece; rw [show wAt s.data.toList 6 = byt s.data.toList 6 * 256 + byt s.data.toList 7 from rfl] at this
    have := byt_bd s.data.toList 6; have := byt_bd s.data.toList 7; omega
  have d0 : (byt s.data.toList 0 != 69) = false := by simpa using H.mark
  have d1 : (wAt s.data.toList 2 != (s.size : Int)) = false := by have := H.size; rw [hll] at this; simpa using this
  have d2 : (bk (tot (s.data.toList.take 20)) != 65535) = false := by simpa using H.sum
  have d3 : (byt s.data.toList 1 != 0) = false := by simpa using H.serv
  have d4 : (byt s.data.toList 6 != 0) = false := by simpa using e6.1
  have d5 : (byt s.data.toList 7 != 0) = false := by simpa using e6.2
  have d6 : (byt s.data.toList 8 == 0) = false := by simpa using H.ttl
  have iw8 : IntKind.i64.wrap (byt s.data.toList 8) = byt s.data.toList 8 := wrap_i64 _ (by have := byt_bd s.data.toList 8; omega) (by have := byt_bd s.data.toList 8; omega)
  have iw9 : IntKind.i64.wrap (byt s.data.toList 9) = byt s.data.toList 9 := wrap_i64 _ (by have := byt_bd s.data.toList 9; omega) (by have := byt_bd s.data.toList 9; omega)
  have z20 : (20 : Int) ≤ (s.size : Int) := by omega
  have zz : ∀ k : Int, k < 20 → k < (s.size : Int) := fun k h => by omega
  have zy : ∀ k : Int, k < 20 → k ≤ (s.size : Int) := fun k h => by omega
  have z0 := zz 0 (by omega); have z1 := zz 1 (by omega); have z4 := zy 4 (by omega)
  have z6 := zz 6 (by omega); have z7 := zz 7 (by omega); have z8 := zz 8 (by omega); have z9 := zz 9 (by omega)
  have y6 := zy 6 (by omega); have y16 := zy 16 (by omega); have y12 := zy 12 (by omega)
  clear zz zy
  have Hnone : Hid (kindB (byt s.data.toList 9) = false → bad s.data.toList = 4) := fun h => hb_7 s.data.toList (by omega) H.mark H.size H.sum H.serv e6.1 e6.2 H.ttl h
  clear e6
  have Hbad : Hid (bad s.data.toList = bad s.data.toList) := rfl
  generalize hsh : bk (tot (s.data.toList.take 20)) = sh at *
  generalize byt s.data.toList 0 = x0 at *
  generalize byt s.data.toList 1 = x1 at *
  generalize byt s.data.toList 6 = x6 at *
  generalize byt s.data.toList 7 = x7 at *
  go_enter Try.func10, Try.ntmps10
  go_upto_region 8 with (first
    | (go_at_call 24; go_fit (N2 _); rintro e w' ⟨rfl, hb⟩; (try replace hb := below_undr' hb); replace T0 := T0.below hb; replace T4 := T4.below hb; replace c0 := T0.cell; replace c4 := T4.cell; replace f0 := T0.free; replace hB := hB.trans (hb.mono hB.size))
    | (go_at_call 25; go_fit (SH _); rintro e w' ⟨rfl, hb⟩; (try replace hb := below_undr' hb); replace T0 := T0.below hb; replace T4 := T4.below hb; replace c0 := T0.cell; replace c4 := T4.cell; replace f0 := T0.free; replace hB := hB.trans (hb.mono hB.size)))
  go_cut [48] (fun s48 wx => s48 = .bool false ∧ Twelve wx w.heap.size #[.int .i64 0, .int .i64 0, .int .i64 0, .int .i64 0, .int .i64 0, .int .i64 0, .int .i64 0, .int .i64 0, .int .i64 0, .int .i64 0, .int .i64 0, .string ⟨#[]⟩] ∧ Twelve wx (w.heap.size + 1) #[.int .i64 0, .int .i64 0, .int .i64 0, .int .i64 0, .int .i64 0, .int .i64 0, .int .i64 0, .int .i64 0, .int .i64 0, .int .i64 0, .int .i64 0, .string ⟨#[]⟩] ∧ Below w.heap.size w wx)
  case first =>
    go_wp2_with fail
    go_meet
    case rel => exact ⟨rfl, T0, T4, hB⟩
  case rest =>
  clear T0 T4 hB c0 c4 f0
  obtain ⟨rfl, T0, T4, hB⟩ := hcut
  replace c0 := T0.cell; replace c4 := T4.cell; replace f0 := T0.free
  go_upto_region 10 with fail
  go_cut [5] (fun s5 wx => ∃ b, s5 = .pointer (some ⟨b, 0, none⟩) ∧ w.heap.size + 1 < b ∧ Twelve wx b #[.int .i64 (byt s.data.toList 9), .int .i64 (lAt s.data.toList 12), .int .i64 0, .int .i64 (lAt s.data.toList 16), .int .i64 0, .int .i64 (byt s.data.toList 8), .int .i64 (wAt s.data.toList 4), .int .i64 0, .int .i64 0, .int .i64 0, .int .i64 0, .string ⟨#[]⟩] ∧ Twelve wx w.heap.size #[.int .i64 0, .int .i64 0, .int .i64 0, .int .i64 0, .int .i64 0, .int .i64 0, .int .i64 0, .int .i64 0, .int .i64 0, .int .i64 0, .int .i64 0, .string ⟨#[]⟩] ∧ Twelve wx (w.heap.size + 1) #[.int .i64 0, .int .i64 0, .int .i64 0, .int .i64 0, .int .i64 0, .int .i64 0, .int .i64 0, .int .i64 0, .int .i64 0, .int .i64 0, .int .i64 0, .string ⟨#[]⟩] ∧ Below w.heap.size w wx)
  case first =>
    refine wp_region_noPanic ?_
    refine wp_region_held_drew (S := fun _ => True) (by kernel_rfl) trivial (fun _ => ?_)
    refine wpAnyH_take (i := 0) (v := .string s) rfl (by kernel_rfl) (by kernel_rfl) (by kernel_rfl) (fun _ _ _ h => h) (yields_move (.tmp 0) (.string s) rfl (by kernel_rfl) (by kernel_rfl)) trivial ?_
    simp only [Act.put, List.getElem_toArray, List.getElem_cons_succ, List.getElem_cons_zero, List.setIfInBounds_toArray, List.set_cons_zero, List.set_cons_succ]
    refine wpAnyH_take (i := 1) (v := .int .u8 (byt s.data.toList 9)) rfl (by kernel_rfl) (by kernel_rfl) (by kernel_rfl) (fun _ _ _ h => h) (yields_index (.tmp 50) s 9 9 _ rfl (by kernel_rfl) (by kernel_rfl) rfl (by omega) g9) trivial ?_
    simp only [Act.put, List.getElem_toArray, List.getElem_cons_succ, List.getElem_cons_zero, List.setIfInBounds_toArray, List.set_cons_zero, List.set_cons_succ]
    refine wpAnyH_take (i := 2) (v := .int .i64 (byt s.data.toList 9)) rfl (by kernel_rfl) (by kernel_rfl) (by kernel_rfl) (fun _ _ _ h => h) (yields_conv (.tmp 51) (byt s.data.toList 9) rfl (by kernel_rfl) (by kernel_rfl) iw9) trivial ?_
    simp only [Act.put, List.getElem_toArray, List.getElem_cons_succ, List.getElem_cons_zero, List.setIfInBounds_toArray, List.set_cons_zero, List.set_cons_succ]
    refine wpAnyH_take (i := 3) (v := .string s) rfl (by kernel_rfl) (by kernel_rfl) (by kernel_rfl) (fun _ _ _ h => h) (yields_move (.tmp 0) (.string s) rfl (by kernel_rfl) (by kernel_rfl)) trivial ?_
    simp only [Act.put, List.getElem_toArray, List.getElem_cons_succ, List.getElem_cons_zero, List.setIfInBounds_toArray, List.set_cons_zero, List.set_cons_succ]
    refine wpAnyH_take (i := 4) (v := .int .u8 (byt s.data.toList 8)) rfl (by kernel_rfl) (by kernel_rfl) (by kernel_rfl) (fun _ _ _ h => h) (yields_index (.tmp 53) s 8 8 _ rfl (by kernel_rfl) (by kernel_rfl) rfl (by omega) g8) trivial ?_
    simp only [Act.put, List.getElem_toArray, List.getElem_cons_succ, List.getElem_cons_zero, List.setIfInBounds_toArray, List.set_cons_zero, List.set_cons_succ]
    refine wpAnyH_take (i := 5) (v := .int .i64 (byt s.data.toList 8)) rfl (by kernel_rfl) (by kernel_rfl) (by kernel_rfl) (fun _ _ _ h => h) (yields_conv (.tmp 54) (byt s.data.toList 8) rfl (by kernel_rfl) (by kernel_rfl) iw8) trivial ?_
    simp only [Act.put, List.getElem_toArray, List.getElem_cons_succ, List.getElem_cons_zero, List.setIfInBounds_toArray, List.set_cons_zero, List.set_cons_succ]
    refine wpAnyH_take (i := 6) (v := .string s) rfl (by kernel_rfl) (by kernel_rfl) (by kernel_rfl) (fun _ _ _ h => h) (yields_move (.tmp 0) (.string s) rfl (by kernel_rfl) (by kernel_rfl)) trivial ?_
    simp only [Act.put, List.getElem_toArray, List.getElem_cons_succ, List.getElem_cons_zero, List.setIfInBounds_toArray, List.set_cons_zero, List.set_cons_succ]
    refine wpAnyH_take (i := 7) (v := .string (s.extract 4 6)) rfl (by kernel_rfl) (by kernel_rfl) (by kernel_rfl) (fun _ _ _ h => h) (yields_slice (.tmp 56) s 4 6 4 6 rfl (by kernel_rfl) (by kernel_rfl) rfl rfl (by omega) (by omega)) trivial ?_
    simp only [Act.put, List.getElem_toArray, List.getElem_cons_succ, List.getElem_cons_zero, List.setIfInBounds_toArray, List.set_cons_zero, List.set_cons_succ]
    refine wpAnyH_take (i := 9) (v := .string s) rfl (by kernel_rfl) (by kernel_rfl) (by kernel_rfl) (fun _ _ _ h => h) (yields_move (.tmp 0) (.string s) rfl (by kernel_rfl) (by kernel_rfl)) trivial ?_
    simp only [Act.put, List.getElem_toArray, List.getElem_cons_succ, List.getElem_cons_zero, List.setIfInBounds_toArray, List.set_cons_zero, List.set_cons_succ]
    refine wpAnyH_take (i := 10) (v := .string (s.extract 12 16)) rfl (by kernel_rfl) (by kernel_rfl) (by kernel_rfl) (fun _ _ _ h => h) (yields_slice (.tmp 59) s 12 16 12 16 rfl (by kernel_rfl) (by kernel_rfl) rfl rfl (by omega) (by omega)) trivial ?_
    simp only [Act.put, List.getElem_toArray, List.getElem_cons_succ, List.getElem_cons_zero, List.setIfInBounds_toArray, List.set_cons_zero, List.set_cons_succ]
    refine wpAnyH_take (i := 12) (v := .string s) rfl (by kernel_rfl) (by kernel_rfl) (by kernel_rfl) (fun _ _ _ h => h) (yields_move (.tmp 0) (.string s) rfl (by kernel_rfl) (by kernel_rfl)) trivial ?_
    simp only [Act.put, List.getElem_toArray, List.getElem_cons_succ, List.getElem_cons_zero, List.setIfInBounds_toArray, List.set_cons_zero, List.set_cons_succ]
    refine wpAnyH_take (i := 13) (v := .string (s.extract 16 20)) rfl (by kernel_rfl) (by kernel_rfl) (by kernel_rfl) (fun _ _ _ h => h) (yields_slice (.tmp 62) s 16 20 16 20 rfl (by kernel_rfl) (by kernel_rfl) rfl rfl (by omega) (by omega)) trivial ?_
    simp only [Act.put, List.getElem_toArray, List.getElem_cons_succ, List.getElem_cons_zero, List.setIfInBounds_toArray, List.set_cons_zero, List.set_cons_succ]
    refine wpAnyH_ready (rs := [8, 16]) (by kernel_rfl) (by simp) ?_
    refine AllReadyH.cons rfl (fun K hK => ?_) ?_
    · rw [if_pos (by kernel_rfl)]
      refine wp_callB 24 #[.string (s.extract 4 6)] (by kernel_rfl) _ (N4 _) ?_; intro w' hb; (try replace hb := below_undr' hb); replace T0 := T0.below hb; replace T4 := T4.below hb; (try replace T5 := T5.below hb); replace hB := hB.trans (hb.mono hB.size)
      refine hK.out _ _ trivial (fun _ => ?_)
      clear hK K
      try simp only [Act.put, List.getElem_toArray, List.getElem_cons_succ, List.getElem_cons_zero, List.setIfInBounds_toArray, List.set_cons_zero, List.set_cons_succ]
      refine wpAnyH_ready (rs := [11, 16]) (by kernel_rfl) (by simp) ?_
      refine AllReadyH.cons rfl (fun K hK => ?_) ?_
      · rw [if_pos (by kernel_rfl)]
        refine wp_callB 24 #[.string (s.extract 12 16)] (by kernel_rfl) _ (N12 _) ?_; intro w' hb; (try replace hb := below_undr' hb); replace T0 := T0.below hb; replace T4 := T4.below hb; (try replace T5 := T5.below hb); replace hB := hB.trans (hb.mono hB.size)
        refine hK.out _ _ trivial (fun _ => ?_)
        clear hK K
        try simp only [Act.put, List.getElem_toArray, List.getElem_cons_succ, List.getElem_cons_zero, List.setIfInBounds_toArray, List.set_cons_zero, List.set_cons_succ]
        refine wpAnyH_ready (rs := [14, 16]) (by kernel_rfl) (by simp) ?_
        refine AllReadyH.cons rfl (fun K hK => ?_) ?_
        · rw [if_pos (by kernel_rfl)]
          refine wp_callB 24 #[.string (s.extract 16 20)] (by kernel_rfl) _ (N16 _) ?_; intro w' hb; (try replace hb := below_undr' hb); replace T0 := T0.below hb; replace T4 := T4.below hb; (try replace T5 := T5.below hb); replace hB := hB.trans (hb.mono hB.size)
          refine hK.out _ _ trivial (fun _ => ?_)
          clear hK K
          try simp only [Act.put, List.getElem_toArray, List.getElem_cons_succ, List.getElem_cons_zero, List.setIfInBounds_toArray, List.set_cons_zero, List.set_cons_succ]
          refine wpAnyH_take (i := 15) (v := .agg #[.int .i64 (byt s.data.toList 9), .int .i64 (lAt s.data.toList 12), .int .i64 0, .int .i64 (lAt s.data.toList 16), .int .i64 0, .int .i64 (byt s.data.toList 8), .int .i64 (wAt s.data.toList 4), .int .i64 0, .int .i64 0, .int .i64 0, .int .i64 0, .string ⟨#[]⟩]) rfl (by kernel_rfl) (by kernel_rfl) (by kernel_rfl) (fun _ _ _ h => h) (Or.inl ⟨by kernel_rfl, by intro w _; kernel_rfl⟩) trivial ?_
          simp only [Act.put, List.getElem_toArray, List.getElem_cons_succ, List.getElem_cons_zero, List.setIfInBounds_toArray, List.set_cons_zero, List.set_cons_succ]
          refine wpAnyH_ready (rs := [16]) (by kernel_rfl) (by simp) ?_
          refine AllReadyH.cons rfl (fun K hK => ?_) ?_
          · rw [if_pos (by kernel_rfl)]
            refine wp_alloc12 rfl ?_; intro b w' eb T5 hk hbb; have lt5 : w.heap.size + 1 < b := (by rw [eb]; exact T4.lt); replace T0 := hk _ _ T0; replace T4 := hk _ _ T4; (first | (replace hB := hbb _ _ hB hB.size) | (replace hB := hbb _ _ (below_drew hB) hB.size)); clear hk hbb eb
            refine hK.out _ _ trivial (fun _ => ?_)
            clear hK K
            try simp only [Act.put, List.getElem_toArray, List.getElem_cons_succ, List.getElem_cons_zero, List.setIfInBounds_toArray, List.set_cons_zero, List.set_cons_succ]
            refine wpAnyH_ready (rs := [17]) (by kernel_rfl) (by simp) ?_
            refine AllReadyH.cons rfl (fun K hK => ?_) ?_
            · rw [if_pos (by kernel_rfl)]
              refine wp_store12 _ _ rfl b rfl #[.int .i64 (byt s.data.toList 9), .int .i64 (lAt s.data.toList 12), .int .i64 0, .int .i64 (lAt s.data.toList 16), .int .i64 0, .int .i64 (byt s.data.toList 8), .int .i64 (wAt s.data.toList 4), .int .i64 0, .int .i64 0, .int .i64 0, .int .i64 0, .string ⟨#[]⟩] rfl _ T5 rfl rfl (by kernel_rfl) ?_; intro w' T5 hk hbb; replace T0 := hk _ _ (by omega) T0; replace T4 := hk _ _ (by omega) T4; (first | (replace hB := hbb _ _ (by omega) hB) | (replace hB := hbb _ _ (by omega) (below_drew hB))); clear hk hbb
              refine hK.out _ _ trivial (fun _ => ?_)
              clear hK K
              try simp only [Act.put, List.getElem_toArray, List.getElem_cons_succ, List.getElem_cons_zero, List.setIfInBounds_toArray, List.set_cons_zero, List.set_cons_succ]
              refine wpAnyH_done (by kernel_rfl) ?_ _
              refine NoPanic.normal ?_
              go_wp2_with fail
              go_meet
              case rel => exact ⟨_, rfl, lt5, T5, T0, T4, hB⟩
            exact AllReadyH.nil
          exact AllReadyH.nil
        refine AllReadyH.cons rfl (fun K hK => ?_) ?_
        · rw [if_pos (by kernel_rfl)]
          refine wp_alloc12 rfl ?_; intro b w' eb T5 hk hbb; have lt5 : w.heap.size + 1 < b := (by rw [eb]; exact T4.lt); replace T0 := hk _ _ T0; replace T4 := hk _ _ T4; (first | (replace hB := hbb _ _ hB hB.size) | (replace hB := hbb _ _ (below_drew hB) hB.size)); clear hk hbb eb
          refine hK.out _ _ trivial (fun _ => ?_)
          clear hK K
          try simp only [Act.put, List.getElem_toArray, List.getElem_cons_succ, List.getElem_cons_zero, List.setIfInBounds_toArray, List.set_cons_zero, List.set_cons_succ]
          refine wpAnyH_ready (rs := [14]) (by kernel_rfl) (by simp) ?_
          refine AllReadyH.cons rfl (fun K hK => ?_) ?_
          · rw [if_pos (by kernel_rfl)]
            refine wp_callB 24 #[.string (s.extract 16 20)] (by kernel_rfl) _ (N16 _) ?_; intro w' hb; (try replace hb := below_undr' hb); replace T0 := T0.below hb; replace T4 := T4.below hb; (try replace T5 := T5.below hb); replace hB := hB.trans (hb.mono hB.size)
            refine hK.out _ _ trivial (fun _ => ?_)
            clear hK K
            try simp only [Act.put, List.getElem_toArray, List.getElem_cons_succ, List.getElem_cons_zero, List.setIfInBounds_toArray, List.set_cons_zero, List.set_cons_succ]
            refine wpAnyH_take (i := 15) (v := .agg #[.int .i64 (byt s.data.toList 9), .int .i64 (lAt s.data.toList 12), .int .i64 0, .int .i64 (lAt s.data.toList 16), .int .i64 0, .int .i64 (byt s.data.toList 8), .int .i64 (wAt s.data.toList 4), .int .i64 0, .int .i64 0, .int .i64 0, .int .i64 0, .string ⟨#[]⟩]) rfl (by kernel_rfl) (by kernel_rfl) (by kernel_rfl) (fun _ _ _ h => h) (Or.inl ⟨by kernel_rfl, by intro w _; kernel_rfl⟩) trivial ?_
            simp only [Act.put, List.getElem_toArray, List.getElem_cons_succ, List.getElem_cons_zero, List.setIfInBounds_toArray, List.set_cons_zero, List.set_cons_succ]
            refine wpAnyH_ready (rs := [17]) (by kernel_rfl) (by simp) ?_
            refine AllReadyH.cons rfl (fun K hK => ?_) ?_
            · rw [if_pos (by kernel_rfl)]
              refine wp_store12 _ _ rfl b rfl #[.int .i64 (byt s.data.toList 9), .int .i64 (lAt s.data.toList 12), .int .i64 0, .int .i64 (lAt s.data.toList 16), .int .i64 0, .int .i64 (byt s.data.toList 8), .int .i64 (wAt s.data.toList 4), .int .i64 0, .int .i64 0, .int .i64 0, .int .i64 0, .string ⟨#[]⟩] rfl _ T5 rfl rfl (by kernel_rfl) ?_; intro w' T5 hk hbb; replace T0 := hk _ _ (by omega) T0; replace T4 := hk _ _ (by omega) T4; (first | (replace hB := hbb _ _ (by omega) hB) | (replace hB := hbb _ _ (by omega) (below_drew hB))); clear hk hbb
              refine hK.out _ _ trivial (fun _ => ?_)
              clear hK K
              try simp only [Act.put, List.getElem_toArray, List.getElem_cons_succ, List.getElem_cons_zero, List.setIfInBounds_toArray, List.set_cons_zero, List.set_cons_succ]
              refine wpAnyH_done (by kernel_rfl) ?_ _
              refine NoPanic.normal ?_
              go_wp2_with fail
              go_meet
              case rel => exact ⟨_, rfl, lt5, T5, T0, T4, hB⟩
            exact AllReadyH.nil
          exact AllReadyH.nil
        exact AllReadyH.nil
      refine AllReadyH.cons rfl (fun K hK => ?_) ?_
      · rw [if_pos (by kernel_rfl)]
        refine wp_alloc12 rfl ?_; intro b w' eb T5 hk hbb; have lt5 : w.heap.size + 1 < b := (by rw [eb]; exact T4.lt); replace T0 := hk _ _ T0; replace T4 := hk _ _ T4; (first | (replace hB := hbb _ _ hB hB.size) | (replace hB := hbb _ _ (below_drew hB) hB.size)); clear hk hbb eb
        refine hK.out _ _ trivial (fun _ => ?_)
        clear hK K
        try simp only [Act.put, List.getElem_toArray, List.getElem_cons_succ, List.getElem_cons_zero, List.setIfInBounds_toArray, List.set_cons_zero, List.set_cons_succ]
        refine wpAnyH_ready (rs := [11]) (by kernel_rfl) (by simp) ?_
        refine AllReadyH.cons rfl (fun K hK => ?_) ?_
        · rw [if_pos (by kernel_rfl)]
          refine wp_callB 24 #[.string (s.extract 12 16)] (by kernel_rfl) _ (N12 _) ?_; intro w' hb; (try replace hb := below_undr' hb); replace T0 := T0.below hb; replace T4 := T4.below hb; (try replace T5 := T5.below hb); replace hB := hB.trans (hb.mono hB.size)
          refine hK.out _ _ trivial (fun _ => ?_)
          clear hK K
          try simp only [Act.put, List.getElem_toArray, List.getElem_cons_succ, List.getElem_cons_zero, List.setIfInBounds_toArray, List.set_cons_zero, List.set_cons_succ]
          refine wpAnyH_ready (rs := [14]) (by kernel_rfl) (by simp) ?_
          refine AllReadyH.cons rfl (fun K hK => ?_) ?_
          · rw [if_pos (by kernel_rfl)]
            refine wp_callB 24 #[.string (s.extract 16 20)] (by kernel_rfl) _ (N16 _) ?_; intro w' hb; (try replace hb := below_undr' hb); replace T0 := T0.below hb; replace T4 := T4.below hb; (try replace T5 := T5.below hb); replace hB := hB.trans (hb.mono hB.size)
            refine hK.out _ _ trivial (fun _ => ?_)
            clear hK K
            try simp only [Act.put, List.getElem_toArray, List.getElem_cons_succ, List.getElem_cons_zero, List.setIfInBounds_toArray, List.set_cons_zero, List.set_cons_succ]
            refine wpAnyH_take (i := 15) (v := .agg #[.int .i64 (byt s.data.toList 9), .int .i64 (lAt s.data.toList 12), .int .i64 0, .int .i64 (lAt s.data.toList 16), .int .i64 0, .int .i64 (byt s.data.toList 8), .int .i64 (wAt s.data.toList 4), .int .i64 0, .int .i64 0, .int .i64 0, .int .i64 0, .string ⟨#[]⟩]) rfl (by kernel_rfl) (by kernel_rfl) (by kernel_rfl) (fun _ _ _ h => h) (Or.inl ⟨by kernel_rfl, by intro w _; kernel_rfl⟩) trivial ?_
            simp only [Act.put, List.getElem_toArray, List.getElem_cons_succ, List.getElem_cons_zero, List.setIfInBounds_toArray, List.set_cons_zero, List.set_cons_succ]
            refine wpAnyH_ready (rs := [17]) (by kernel_rfl) (by simp) ?_
            refine AllReadyH.cons rfl (fun K hK => ?_) ?_
            · rw [if_pos (by kernel_rfl)]
              refine wp_store12 _ _ rfl b rfl #[.int .i64 (byt s.data.toList 9), .int .i64 (lAt s.data.toList 12), .int .i64 0, .int .i64 (lAt s.data.toList 16), .int .i64 0, .int .i64 (byt s.data.toList 8), .int .i64 (wAt s.data.toList 4), .int .i64 0, .int .i64 0, .int .i64 0, .int .i64 0, .string ⟨#[]⟩] rfl _ T5 rfl rfl (by kernel_rfl) ?_; intro w' T5 hk hbb; replace T0 := hk _ _ (by omega) T0; replace T4 := hk _ _ (by omega) T4; (first | (replace hB := hbb _ _ (by omega) hB) | (replace hB := hbb _ _ (by omega) (below_drew hB))); clear hk hbb
              refine hK.out _ _ trivial (fun _ => ?_)
              clear hK K
              try simp only [Act.put, List.getElem_toArray, List.getElem_cons_succ, List.getElem_cons_zero, List.setIfInBounds_toArray, List.set_cons_zero, List.set_cons_succ]
              refine wpAnyH_done (by kernel_rfl) ?_ _
              refine NoPanic.normal ?_
              go_wp2_with fail
              go_meet
              case rel => exact ⟨_, rfl, lt5, T5, T0, T4, hB⟩
            exact AllReadyH.nil
          exact AllReadyH.nil
        exact AllReadyH.nil
      exact AllReadyH.nil
    refine AllReadyH.cons rfl (fun K hK => ?_) ?_
    · rw [if_pos (by kernel_rfl)]
      refine wp_alloc12 rfl ?_; intro b w' eb T5 hk hbb; have lt5 : w.heap.size + 1 < b := (by rw [eb]; exact T4.lt); replace T0 := hk _ _ T0; replace T4 := hk _ _ T4; (first | (replace hB := hbb _ _ hB hB.size) | (replace hB := hbb _ _ (below_drew hB) hB.size)); clear hk hbb eb
      refine hK.out _ _ trivial (fun _ => ?_)
      clear hK K
      try simp only [Act.put, List.getElem_toArray, List.getElem_cons_succ, List.getElem_cons_zero, List.setIfInBounds_toArray, List.set_cons_zero, List.set_cons_succ]
      refine wpAnyH_ready (rs := [8]) (by kernel_rfl) (by simp) ?_
      refine AllReadyH.cons rfl (fun K hK => ?_) ?_
      · rw [if_pos (by kernel_rfl)]
        refine wp_callB 24 #[.string (s.extract 4 6)] (by kernel_rfl) _ (N4 _) ?_; intro w' hb; (try replace hb := below_undr' hb); replace T0 := T0.below hb; replace T4 := T4.below hb; (try replace T5 := T5.below hb); replace hB := hB.trans (hb.mono hB.size)
        refine hK.out _ _ trivial (fun _ => ?_)
        clear hK K
        try simp only [Act.put, List.getElem_toArray, List.getElem_cons_succ, List.getElem_cons_zero, List.setIfInBounds_toArray, List.set_cons_zero, List.set_cons_succ]
        refine wpAnyH_ready (rs := [11]) (by kernel_rfl) (by simp) ?_
        refine AllReadyH.cons rfl (fun K hK => ?_) ?_
        · rw [if_pos (by kernel_rfl)]
          refine wp_callB 24 #[.string (s.extract 12 16)] (by kernel_rfl) _ (N12 _) ?_; intro w' hb; (try replace hb := below_undr' hb); replace T0 := T0.below hb; replace T4 := T4.below hb; (try replace T5 := T5.below hb); replace hB := hB.trans (hb.mono hB.size)
          refine hK.out _ _ trivial (fun _ => ?_)
          clear hK K
          try simp only [Act.put, List.getElem_toArray, List.getElem_cons_succ, List.getElem_cons_zero, List.setIfInBounds_toArray, List.set_cons_zero, List.set_cons_succ]
          refine wpAnyH_ready (rs := [14]) (by kernel_rfl) (by simp) ?_
          refine AllReadyH.cons rfl (fun K hK => ?_) ?_
          · rw [if_pos (by kernel_rfl)]
            refine wp_callB 24 #[.string (s.extract 16 20)] (by kernel_rfl) _ (N16 _) ?_; intro w' hb; (try replace hb := below_undr' hb); replace T0 := T0.below hb; replace T4 := T4.below hb; (try replace T5 := T5.below hb); replace hB := hB.trans (hb.mono hB.size)
            refine hK.out _ _ trivial (fun _ => ?_)
            clear hK K
            try simp only [Act.put, List.getElem_toArray, List.getElem_cons_succ, List.getElem_cons_zero, List.setIfInBounds_toArray, List.set_cons_zero, List.set_cons_succ]
            refine wpAnyH_take (i := 15) (v := .agg #[.int .i64 (byt s.data.toList 9), .int .i64 (lAt s.data.toList 12), .int .i64 0, .int .i64 (lAt s.data.toList 16), .int .i64 0, .int .i64 (byt s.data.toList 8), .int .i64 (wAt s.data.toList 4), .int .i64 0, .int .i64 0, .int .i64 0, .int .i64 0, .string ⟨#[]⟩]) rfl (by kernel_rfl) (by kernel_rfl) (by kernel_rfl) (fun _ _ _ h => h) (Or.inl ⟨by kernel_rfl, by intro w _; kernel_rfl⟩) trivial ?_
            simp only [Act.put, List.getElem_toArray, List.getElem_cons_succ, List.getElem_cons_zero, List.setIfInBounds_toArray, List.set_cons_zero, List.set_cons_succ]
            refine wpAnyH_ready (rs := [17]) (by kernel_rfl) (by simp) ?_
            refine AllReadyH.cons rfl (fun K hK => ?_) ?_
            · rw [if_pos (by kernel_rfl)]
              refine wp_store12 _ _ rfl b rfl #[.int .i64 (byt s.data.toList 9), .int .i64 (lAt s.data.toList 12), .int .i64 0, .int .i64 (lAt s.data.toList 16), .int .i64 0, .int .i64 (byt s.data.toList 8), .int .i64 (wAt s.data.toList 4), .int .i64 0, .int .i64 0, .int .i64 0, .int .i64 0, .string ⟨#[]⟩] rfl _ T5 rfl rfl (by kernel_rfl) ?_; intro w' T5 hk hbb; replace T0 := hk _ _ (by omega) T0; replace T4 := hk _ _ (by omega) T4; (first | (replace hB := hbb _ _ (by omega) hB) | (replace hB := hbb _ _ (by omega) (below_drew hB))); clear hk hbb
              refine hK.out _ _ trivial (fun _ => ?_)
              clear hK K
              try simp only [Act.put, List.getElem_toArray, List.getElem_cons_succ, List.getElem_cons_zero, List.setIfInBounds_toArray, List.set_cons_zero, List.set_cons_succ]
              refine wpAnyH_done (by kernel_rfl) ?_ _
              refine NoPanic.normal ?_
              go_wp2_with fail
              go_meet
              case rel => exact ⟨_, rfl, lt5, T5, T0, T4, hB⟩
            exact AllReadyH.nil
          exact AllReadyH.nil
        exact AllReadyH.nil
      exact AllReadyH.nil
    exact AllReadyH.nil
  case rest =>
    clear T0 T4 hB c0 c4 f0
    obtain ⟨b, rfl, hb1, T5, T0, T4, hB⟩ := hcut
    replace c0 := T0.cell; replace c4 := T4.cell; replace f0 := T0.free; replace c5 := T5.cell; replace f5 := T5.free
    have z2 : (s.extract 20 s.size).size = s.size - 20 := ext_size s 20 s.size (Nat.le_refl _)
    have z3 : ((s.extract 20 s.size).size : Int) = (s.size : Int) - 20 := by omega
    have z4 : ((s.size - 20 : Nat) : Int) = (s.size : Int) - 20 := by omega
    have b9 := byt_bd s.data.toList 9
    have CA := fun w => ahead_any (lAt s.data.toList 12) (lAt s.data.toList 16) (byt s.data.toList 9) ((s.size : Int) - 20) w b9 (lAt_bd _ _) (lAt_bd _ _) (by omega)
    have hps : (txt (ps (lAt s.data.toList 12) (lAt s.data.toList 16) (byt s.data.toList 9) ((s.size : Int) - 20))).size ≤ 12 := by rw [txt_size]; unfold ps; split <;> simp
    have CS : ∀ w, Calls Try.prog 25 #[.string (txt (ps (lAt s.data.toList 12) (lAt s.data.toList 16) (byt s.data.toList 9) ((s.size : Int) - 20)) ++ s.extract 20 s.size)] w fun e w' => e = .returned (.int .i64 (bk (tot (chkd s.data.toList (byt s.data.toList 9))))) ∧ Below w.heap.size w w' := by
      intro w
      have := sumRef_any (txt (ps (lAt s.data.toList 12) (lAt s.data.toList 16) (byt s.data.toList 9) ((s.size : Int) - 20)) ++ s.extract 20 s.size) w (by rw [ByteArray.size_append]; omega)
      rw [ByteArray.data_append, Array.toList_append, txt_list, ext_from, ← hll, ps_chkd _ _ (by omega)] at this
      exact this
    have k9 : byt s.data.toList 9 = 1 := hk9.out
    have e1 : (byt s.data.toList 9 == 1) = true := by rw [k9]; rfl
    have e6 : (byt s.data.toList 9 == 6) = false := by rw [k9]; rfl
    have e17 : (byt s.data.toList 9 == 17) = false := by rw [k9]; rfl
    have HPN : Hid (partN (byt s.data.toList 9) = 8) := by show _ = _; rw [k9]; rfl
    have HK : Hid (byt s.data.toList 9 = 1) := k9
    have HH : Hid (HeadOk s.data.toList) := ⟨by omega, H.mark, H.size, H.sum, H.serv, H.piece, H.ttl, by rw [k9]; rfl⟩
    clear k9
    have hn : (8 : Int) ≤ (s.size : Int) - 20 := hv.out.1
    have HL : Hid (partN (byt s.data.toList 9) ≤ (s.data.toList.length : Int) - 20) := by show _ ≤ _; rw [HPN.out, hll]; exact hn
    have hsum : bk (tot (chkd s.data.toList (byt s.data.toList 9))) = 65535 := hv.out.2.1
    have HS : Hid (bk (tot (chkd s.data.toList (byt s.data.toList 9))) = 65535) := hsum
    have ds : (bk (tot (chkd s.data.toList (byt s.data.toList 9))) != 65535) = false := by simpa using hsum
    clear hsum
    go_upto_region 23 with (first
          | (go_at_call 26; go_fit (CA _); rintro e w' ⟨rfl, hb⟩; (try replace hb := below_undr' hb); replace T0 := T0.below hb; replace T4 := T4.below hb; replace T5 := T5.below hb; replace c0 := T0.cell; replace c4 := T4.cell; replace f0 := T0.free; replace c5 := T5.cell; replace f5 := T5.free; replace hB := hB.trans (hb.mono hB.size))
          | (go_at_call 25; go_fit (CS _); rintro e w' ⟨rfl, hb⟩; (try replace hb := below_undr' hb); replace T0 := T0.below hb; replace T4 := T4.below hb; replace T5 := T5.below hb; replace c0 := T0.cell; replace c4 := T4.cell; replace f0 := T0.free; replace c5 := T5.cell; replace f5 := T5.free; replace hB := hB.trans (hb.mono hB.size)))
    go_cut [] (fun wx => Twelve wx b #[.int .i64 (byt s.data.toList 9), .int .i64 (lAt s.data.toList 12), .int .i64 0, .int .i64 (lAt s.data.toList 16), .int .i64 0, .int .i64 (byt s.data.toList 8), .int .i64 (wAt s.data.toList 4), .int .i64 0, .int .i64 0, .int .i64 0, .int .i64 0, .string ((s.extract 20 s.size).extract 8 (s.extract 20 s.size).size)] ∧ Twelve wx w.heap.size #[.int .i64 0, .int .i64 0, .int .i64 0, .int .i64 0, .int .i64 0, .int .i64 0, .int .i64 0, .int .i64 0, .int .i64 0, .int .i64 0, .int .i64 0, .string ⟨#[]⟩] ∧ Twelve wx (w.heap.size + 1) #[.int .i64 0, .int .i64 0, .int .i64 0, .int .i64 0, .int .i64 0, .int .i64 0, .int .i64 0, .int .i64 0, .int .i64 0, .int .i64 0, .int .i64 0, .string ⟨#[]⟩] ∧ Below w.heap.size w wx)
    case first =>
      go_wp2_with fail
      go_meet
      case rel => exact ⟨by have := T5.set 11 (.string ((s.extract 20 s.size).extract 8 (s.extract 20 s.size).size)); simpa using this, twelve_other T0 (by omega), twelve_other T4 (by omega), hB.setCell (by show w.heap.size ≤ b; omega) _⟩
    case rest =>
    clear T0 T4 T5 hB c0 c4 c5 f0 f5
    obtain ⟨T5, T0, T4, hB⟩ := hcut
    replace c0 := T0.cell; replace c4 := T4.cell; replace f0 := T0.free; replace c5 := T5.cell; replace f5 := T5.free
    have i0 : (0 : Int) < (s.size : Int) - 20 := by omega
    have i1 : (1 : Int) < (s.size : Int) - 20 := by omega
    have ge0 : ∀ h, (((s.extract 20 s.size)[0]'h).toNat : Int) = byt s.data.toList 20 := fun h => get_ext s 0 h
    have ge1 : ∀ h, (((s.extract 20 s.size)[1]'h).toNat : Int) = byt s.data.toList 21 := fun h => get_ext s 1 h
    have i6 : (6 : Int) ≤ (s.size : Int) - 20 := by omega
    have i8 : (8 : Int) ≤ (s.size : Int) - 20 := by omega
    have bb := byt_bd s.data.toList 20
    have iw20 : IntKind.i64.wrap (byt s.data.toList 20) = byt s.data.toList 20 := wrap_i64 _ (by omega) (by omega)
    have N26 : ∀ w, Calls Try.prog 24 #[.string ((s.extract 20 s.size).extract 6 8)] w fun e w' => e = .returned (.int .i64 (wAt s.data.toList 26)) ∧ Below w.heap.size w w' := fun w => by
      have := num2_any (s.extract 20 s.size) 6 8 w rfl (by omega)
      rw [ext_from, wAt_drop] at this; exact this
    have N24 : ∀ w, Calls Try.prog 24 #[.string ((s.extract 20 s.size).extract 4 6)] w fun e w' => e = .returned (.int .i64 (wAt s.data.toList 24)) ∧ Below w.heap.size w w' := fun w => by
      have := num2_any (s.extract 20 s.size) 4 6 w rfl (by omega)
      rw [ext_from, wAt_drop] at this; exact this
    have HQ : Hid (byt s.data.toList 20 = 0) := hv.out.2.2.1
    have HB : Hid (bad s.data.toList = good (pktOf s.data.toList)) := pb_pok s.data.toList HH.out HL.out HS.out HK.out (.inl HQ.out) hv.out.2.2.2
    have v1 : (byt s.data.toList 21 != 0) = false := by simpa using hv.out.2.2.2
    have hbody : (pktOf s.data.toList).body.size ≤ 140737488351232 := by have := pkt_body s.data.toList; omega
    have htt : -9223372036854775808 ≤ (pktOf s.data.toList).ttl ∧ (pktOf s.data.toList).ttl ≤ 9223372036854775807 := by
      have e : (pktOf s.data.toList).ttl = byt s.data.toList 8 := by unfold pktOf; rw [if_pos HK.out]
      rw [e]; have := byt_bd s.data.toList 8; omega
    have HGo : Hid (parsed s.data.toList = if good (pktOf s.data.toList) = 0 then pktOf s.data.toList else p0) := by show _ = _; unfold parsed; rw [HB.out]
    have HE : Hid (pv (pktOf s.data.toList) = .agg #[.int .i64 (byt s.data.toList 9), .int .i64 (lAt s.data.toList 12), .int .i64 0, .int .i64 (lAt s.data.toList 16), .int .i64 (wAt s.data.toList 24), .int .i64 (byt s.data.toList 8), .int .i64 (wAt s.data.toList 4), .int .i64 (byt s.data.toList 20), .int .i64 (wAt s.data.toList 26), .int .i64 0, .int .i64 0, .string ((s.extract 20 s.size).extract 8 (s.extract 20 s.size).size)]) := by
      show _ = _
      unfold pktOf pv
      rw [if_pos HK.out, HK.out, if_neg (by rw [HQ.out]; decide), if_neg (by rw [HQ.out]; decide), ext_twice]
    have CG : ∀ w, Calls Try.prog 27 #[.agg #[.int .i64 (byt s.data.toList 9), .int .i64 (lAt s.data.toList 12), .int .i64 0, .int .i64 (lAt s.data.toList 16), .int .i64 (wAt s.data.toList 24), .int .i64 (byt s.data.toList 8), .int .i64 (wAt s.data.toList 4), .int .i64 (byt s.data.toList 20), .int .i64 (wAt s.data.toList 26), .int .i64 0, .int .i64 0, .string ((s.extract 20 s.size).extract 8 (s.size - 20))]] w fun e w' => e = .returned (.int .i64 (good (pktOf s.data.toList))) ∧ Below w.heap.size w w' := fun w => by
      have := gref_any (pktOf s.data.toList) w hbody htt
      rw [HE.out, z2] at this; exact this
    have u3 : (byt s.data.toList 20 != 0) = false ∧ (byt s.data.toList 20 == 8) = false := by rw [HQ.out]; decide
    obtain ⟨w1, w2⟩ := u3
    have dg : (good (pktOf s.data.toList) != 0) = false := by simpa using hg.out
    have HZ : Hid (good (pktOf s.data.toList) = 0) := hg
    clear hg
    go_upto_region 31 with fail
    go_region_held3 (fun _ => True) (trivial) (first
        | (go_at_call 24; go_fit (N26 _); rintro e w' ⟨rfl, hb⟩; (try replace hb := below_undr' hb); replace T0 := T0.below hb; replace T4 := T4.below hb; replace T5 := T5.below hb; replace c0 := T0.cell; replace c4 := T4.cell; replace f0 := T0.free; replace c5 := T5.cell; replace f5 := T5.free; replace hB := hB.trans (hb.mono hB.size)))
    all_goals
      go_wp2_with (first | (go_at_call 24; go_fit (N24 _); rintro e w' ⟨rfl, hb⟩; (first | (replace T5 := Twelve.below (((T5).set 7 (.int .i64 (byt s.data.toList 20))).set 8 (.int .i64 (wAt s.data.toList 26))) hb) | (replace T5 := Twelve.below (((T5).set 8 (.int .i64 (wAt s.data.toList 26))).set 7 (.int .i64 (byt s.data.toList 20))) hb)); replace T0 := Twelve.below (twelve_other (twelve_other (T0) (show w.heap.size ≠ b by omega)) (show w.heap.size ≠ b by omega)) hb; replace T4 := Twelve.below (twelve_other (twelve_other (T4) (show w.heap.size + 1 ≠ b by omega)) (show w.heap.size + 1 ≠ b by omega)) hb; replace c0 := T0.cell; replace c4 := T4.cell; replace f0 := T0.free; replace c5 := T5.cell; replace f5 := T5.free; replace hB := Below.trans (((hB).setCell (by show w.heap.size ≤ b; omega) _).setCell (by show w.heap.size ≤ b; omega) _) (hb.mono (by have := hB.size; simpa [World.setCell] using this))) | (go_at_call 27; go_fit (CG _); rintro e w' ⟨rfl, hb⟩; replace T0 := (twelve_other T0 (show w.heap.size ≠ b by omega)).below hb; replace T4 := (twelve_other T4 (show w.heap.size + 1 ≠ b by omega)).below hb; replace T5 := (T5.set 4 (.int .i64 (wAt s.data.toList 24))).below hb; replace c0 := T0.cell; replace c4 := T4.cell; replace f0 := T0.free; replace c5 := T5.cell; replace f5 := T5.free; replace hB := (hB.setCell (show w.heap.size ≤ b by omega) _).trans (hb.mono (by have := hB.size; simpa [World.setCell] using this))))
      refine bodyPost_ret (v := .tuple #[.agg #[.int .i64 (byt s.data.toList 9), .int .i64 (lAt s.data.toList 12), .int .i64 0, .int .i64 (lAt s.data.toList 16), .int .i64 (wAt s.data.toList 24), .int .i64 (byt s.data.toList 8), .int .i64 (wAt s.data.toList 4), .int .i64 (byt s.data.toList 20), .int .i64 (wAt s.data.toList 26), .int .i64 0, .int .i64 0, .string ((s.extract 20 s.size).extract 8 (s.size - 20))], .int .i64 0]) (by simp [results, Try.results10, go_sem, c0]) rfl ⟨by rw [HGo.out, if_pos HZ.out, HE.out, HB.out, HZ.out, z2], ?_⟩
      iterate 12 (refine Below.setCell ?_ (by exact Nat.le_refl _) _)
      exact hB

set_option maxRecDepth 10000 in
set_option maxHeartbeats 40000000 in
theorem pref_ping0n (s : ByteArray) (w : World) (hs : s.size ≤ 65535) (h20 : 20 ≤ s.size) (H : HeadO s.data.toList) (hk9 : Hid (byt s.data.toList 9 = 1)) (hv : Hid ((8 : Int) ≤ (s.size : Int) - 20 ∧ bk (tot (chkd s.data.toList (byt s.data.toList 9))) = 65535 ∧ byt s.data.toList 20 = 0 ∧ byt s.data.toList 21 = 0)) (hg : Hid (¬ good (pktOf s.data.toList) = 0)) :
    Calls Try.prog 10 #[.string s] w fun e w' => e = .returned (.tuple #[pv (parsed s.data.toList), .int .i64 (bad s.data.toList)]) ∧ Below w.heap.size w w' := by
  have hll := len_list s
  have T0 : Twelve ((w.alloc (.cells #[.int .i64 0, .int .i64 0, .int .i64 0, .int .i64 0, .int .i64 0, .int .i64 0, .int .i64 0, .int .i64 0, .int .i64 0, .int .i64 0, .int .i64 0, .string ⟨#[]⟩] 23)).alloc (.cells #[.int .i64 0, .int .i64 0, .int .i64 0, .int .i64 0, .int .i64 0, .int .i64 0, .int .i64 0, .int .i64 0, .int .i64 0, .int .i64 0, .int .i64 0, .string ⟨#[]⟩] 23)) w.heap.size #[.int .i64 0, .int .i64 0, .int .i64 0, .int .i64 0, .int .i64 0, .int .i64 0, .int .i64 0, .int .i64 0, .int .i64 0, .int .i64 0, .int .i64 0, .string ⟨#[]⟩] := (Below.heap_alloc _ _ _ (by simp)).trans (heap_alloc_new w _)
  have T4 : Twelve ((w.alloc (.cells #[.int .i64 0, .int .i64 0, .int .i64 0, .int .i64 0, .int .i64 0, .int .i64 0, .int .i64 0, .int .i64 0, .int .i64 0, .int .i64 0, .int .i64 0, .string ⟨#[]⟩] 23)).alloc (.cells #[.int .i64 0, .int .i64 0, .int .i64 0, .int .i64 0, .int .i64 0, .int .i64 0, .int .i64 0, .int .i64 0, .int .i64 0, .int .i64 0, .int .i64 0, .string ⟨#[]⟩] 23)) (w.heap.size + 1) #[.int .i64 0, .int .i64 0, .int .i64 0, .int .i64 0, .int .i64 0, .int .i64 0, .int .i64 0, .int .i64 0, .int .i64 0, .int .i64 0, .int .i64 0, .string ⟨#[]⟩] := by
    have := heap_alloc_new (w.alloc (.cells #[.int .i64 0, .int .i64 0, .int .i64 0, .int .i64 0, .int .i64 0, .int .i64 0, .int .i64 0, .int .i64 0, .int .i64 0, .int .i64 0, .int .i64 0, .string ⟨#[]⟩] 23)) (.cells #[.int .i64 0, .int .i64 0, .int .i64 0, .int .i64 0, .int .i64 0, .int .i64 0, .int .i64 0, .int .i64 0, .int .i64 0, .int .i64 0, .int .i64 0, .string ⟨#[]⟩] 23)
    simpa [Twelve] using this
  have hB : Below w.heap.size w ((w.alloc (.cells #[.int .i64 0, .int .i64 0, .int .i64 0, .int .i64 0, .int .i64 0, .int .i64 0, .int .i64 0, .int .i64 0, .int .i64 0, .int .i64 0, .int .i64 0, .string ⟨#[]⟩] 23)).alloc (.cells #[.int .i64 0, .int .i64 0, .int .i64 0, .int .i64 0, .int .i64 0, .int .i64 0, .int .i64 0, .int .i64 0, .int .i64 0, .int .i64 0, .int .i64 0, .string ⟨#[]⟩] 23)) := ((Below.refl _ _).alloc (Nat.le_refl _) _).alloc (by simp) _
  replace c0 := T0.cell; replace c4 := T4.cell; replace f0 := T0.free

  have N2 := fun w => num2_any s 2 4 w rfl (by omega)
  have N4 := fun w => num2_any s 4 6 w rfl (by omega)
  have N12 := fun w => num4_any s 12 16 w rfl (by omega)
  have N16 := fun w => num4_any s 16 20 w rfl (by omega)
  have SH := fun w => sum20_any s w h20
  have g0 : ∀ h, ((s[0]'h).toNat : Int) = byt s.data.toList 0 := fun h => byt_get s 0 h
  have g1 : ∀ h, ((s[1]'h).toNat : Int) = byt s.data.toList 1 := fun h => byt_get s 1 h
  have g6 : ∀ h, ((s[6]'h).toNat : Int) = byt s.data.toList 6 := fun h => byt_get s 6 h
  have g7 : ∀ h, ((s[7]'h).toNat : Int) = byt s.data.toList 7 := fun h => byt_get s 7 h
  have g8 : ∀ h, ((s[8]'h).toNat : Int) = byt s.data.toList 8 := fun h => byt_get s 8 h
  have g9 : ∀ h, ((s[9]'h).toNat : Int) = byt s.data.toList 9 := fun h => byt_get s 9 h
  have e6 : byt s.data.toList 6 = 0 ∧ byt s.data.toList 7 = 0 := by
    have := H.piece; rw [show wAt s.data.toList 6 = byt s.data.toList 6 * 256 + byt s.data.toList 7 from rfl] at this
    have := byt_bd s.data.toList 6; have := byt_bd s.data.toList 7; omega
  have d0 : (byt s.data.toList 0 != 69) = false := by simpa using H.mark
  have d1 : (wAt s.data.toList 2 != (s.size : Int)) = false := by have := H.size; rw [hll] at this; simpa using this
  have d2 : (bk (tot (s.data.toList.take 20)) != 65535) = false := by simpa using H.sum
  have d3 : (byt s.data.toList 1 != 0) = false := by simpa using H.serv
  have d4 : (byt s.data.toList 6 != 0) = false := by simpa using e6.1
  have d5 : (byt s.data.toList 7 != 0) = false := by simpa using e6.2
  have d6 : (byt s.data.toList 8 == 0) = false := by simpa using H.ttl
  have iw8 : IntKind.i64.wrap (byt s.data.toList 8) = byt s.data.toList 8 := wrap_i64 _ (by have := byt_bd s.data.toList 8; omega) (by have := byt_bd s.data.toList 8; omega)
  have iw9 : IntKind.i64.wrap (byt s.data.toList 9) = byt s.data.toList 9 := wrap_i64 _ (by have := byt_bd s.data.toList 9; omega) (by have := byt_bd s.data.toList 9; omega)
  have z20 : (20 : Int) ≤ (s.size : Int) := by omega
  have zz : ∀ k : Int, k < 20 → k < (s.size : Int) := fun k h => by omega
  have zy : ∀ k : Int, k < 20 → k ≤ (s.size : Int) := fun k h => by omega
  have z0 := zz 0 (by omega); have z1 := zz 1 (by omega); have z4 := zy 4 (by omega)
  have z6 := zz 6 (by omega); have z7 := zz 7 (by omega); have z8 := zz 8 (by omega); have z9 := zz 9 (by omega)
  have y6 := zy 6 (by omega); have y16 := zy 16 (by omega); have y12 := zy 12 (by omega)
  clear zz zy
  have Hnone : Hid (kindB (byt s.data.toList 9) = false → bad s.data.toList = 4) := fun h => hb_7 s.data.toList (by omega) H.mark H.size H.sum H.serv e6.1 e6.2 H.ttl h
  clear e6
  have Hbad : Hid (bad s.data.toList = bad s.data.toList) := rfl
  generalize hsh : bk (tot (s.data.toList.take 20)) = sh at *
  generalize byt s.data.toList 0 = x0 at *
  generalize byt s.data.toList 1 = x1 at *
  generalize byt s.data.toList 6 = x6 at *
  generalize byt s.data.toList 7 = x7 at *
  go_enter Try.func10, Try.ntmps10
  go_upto_region 8 with (first
    | (go_at_call 24; go_fit (N2 _); rintro e w' ⟨rfl, hb⟩; (try replace hb := below_undr' hb); replace T0 := T0.below hb; replace T4 := T4.below hb; replace c0 := T0.cell; replace c4 := T4.cell; replace f0 := T0.free; replace hB := hB.trans (hb.mono hB.size))
    | (go_at_call 25; go_fit (SH _); rintro e w' ⟨rfl, hb⟩; (try replace hb := below_undr' hb); replace T0 := T0.below hb; replace T4 := T4.below hb; replace c0 := T0.cell; replace c4 := T4.cell; replace f0 := T0.free; replace hB := hB.trans (hb.mono hB.size)))
  go_cut [48] (fun s48 wx => s48 = .bool false ∧ Twelve wx w.heap.size #[.int .i64 0, .int .i64 0, .int .i64 0, .int .i64 0, .int .i64 0, .int .i64 0, .int .i64 0, .int .i64 0, .int .i64 0, .int .i64 0, .int .i64 0, .string ⟨#[]⟩] ∧ Twelve wx (w.heap.size + 1) #[.int .i64 0, .int .i64 0, .int .i64 0, .int .i64 0, .int .i64 0, .int .i64 0, .int .i64 0, .int .i64 0, .int .i64 0, .int .i64 0, .int .i64 0, .string ⟨#[]⟩] ∧ Below w.heap.size w wx)
  case first =>
    go_wp2_with fail
    go_meet
    case rel => exact ⟨rfl, T0, T4, hB⟩
  case rest =>
  clear T0 T4 hB c0 c4 f0
  obtain ⟨rfl, T0, T4, hB⟩ := hcut
  replace c0 := T0.cell; replace c4 := T4.cell; replace f0 := T0.free
  go_upto_region 10 with fail
  go_cut [5] (fun s5 wx => ∃ b, s5 = .pointer (some ⟨b, 0, none⟩) ∧ w.heap.size + 1 < b ∧ Twelve wx b #[.int .i64 (byt s.data.toList 9), .int .i64 (lAt s.data.toList 12), .int .i64 0, .int .i64 (lAt s.data.toList 16), .int .i64 0, .int .i64 (byt s.data.toList 8), .int .i64 (wAt s.data.toList 4), .int .i64 0, .int .i64 0, .int .i64 0, .int .i64 0, .string ⟨#[]⟩] ∧ Twelve wx w.heap.size #[.int .i64 0, .int .i64 0, .int .i64 0, .int .i64 0, .int .i64 0, .int .i64 0, .int .i64 0, .int .i64 0, .int .i64 0, .int .i64 0, .int .i64 0, .string ⟨#[]⟩] ∧ Twelve wx (w.heap.size + 1) #[.int .i64 0, .int .i64 0, .int .i64 0, .int .i64 0, .int .i64 0, .int .i64 0, .int .i64 0, .int .i64 0, .int .i64 0, .int .i64 0, .int .i64 0, .string ⟨#[]⟩] ∧ Below w.heap.size w wx)
  case first =>
    refine wp_region_noPanic ?_
    refine wp_region_held_drew (S := fun _ => True) (by kernel_rfl) trivial (fun _ => ?_)
    refine wpAnyH_take (i := 0) (v := .string s) rfl (by kernel_rfl) (by kernel_rfl) (by kernel_rfl) (fun _ _ _ h => h) (yields_move (.tmp 0) (.string s) rfl (by kernel_rfl) (by kernel_rfl)) trivial ?_
    simp only [Act.put, List.getElem_toArray, List.getElem_cons_succ, List.getElem_cons_zero, List.setIfInBounds_toArray, List.set_cons_zero, List.set_cons_succ]
    refine wpAnyH_take (i := 1) (v := .int .u8 (byt s.data.toList 9)) rfl (by kernel_rfl) (by kernel_rfl) (by kernel_rfl) (fun _ _ _ h => h) (yields_index (.tmp 50) s 9 9 _ rfl (by kernel_rfl) (by kernel_rfl) rfl (by omega) g9) trivial ?_
    simp only [Act.put, List.getElem_toArray, List.getElem_cons_succ, List.getElem_cons_zero, List.setIfInBounds_toArray, List.set_cons_zero, List.set_cons_succ]
    refine wpAnyH_take (i := 2) (v := .int .i64 (byt s.data.toList 9)) rfl (by kernel_rfl) (by kernel_rfl) (by kernel_rfl) (fun _ _ _ h => h) (yields_conv (.tmp 51) (byt s.data.toList 9) rfl (by kernel_rfl) (by kernel_rfl) iw9) trivial ?_
    simp only [Act.put, List.getElem_toArray, List.getElem_cons_succ, List.getElem_cons_zero, List.setIfInBounds_toArray, List.set_cons_zero, List.set_cons_succ]
    refine wpAnyH_take (i := 3) (v := .string s) rfl (by kernel_rfl) (by kernel_rfl) (by kernel_rfl) (fun _ _ _ h => h) (yields_move (.tmp 0) (.string s) rfl (by kernel_rfl) (by kernel_rfl)) trivial ?_
    simp only [Act.put, List.getElem_toArray, List.getElem_cons_succ, List.getElem_cons_zero, List.setIfInBounds_toArray, List.set_cons_zero, List.set_cons_succ]
    refine wpAnyH_take (i := 4) (v := .int .u8 (byt s.data.toList 8)) rfl (by kernel_rfl) (by kernel_rfl) (by kernel_rfl) (fun _ _ _ h => h) (yields_index (.tmp 53) s 8 8 _ rfl (by kernel_rfl) (by kernel_rfl) rfl (by omega) g8) trivial ?_
    simp only [Act.put, List.getElem_toArray, List.getElem_cons_succ, List.getElem_cons_zero, List.setIfInBounds_toArray, List.set_cons_zero, List.set_cons_succ]
    refine wpAnyH_take (i := 5) (v := .int .i64 (byt s.data.toList 8)) rfl (by kernel_rfl) (by kernel_rfl) (by kernel_rfl) (fun _ _ _ h => h) (yields_conv (.tmp 54) (byt s.data.toList 8) rfl (by kernel_rfl) (by kernel_rfl) iw8) trivial ?_
    simp only [Act.put, List.getElem_toArray, List.getElem_cons_succ, List.getElem_cons_zero, List.setIfInBounds_toArray, List.set_cons_zero, List.set_cons_succ]
    refine wpAnyH_take (i := 6) (v := .string s) rfl (by kernel_rfl) (by kernel_rfl) (by kernel_rfl) (fun _ _ _ h => h) (yields_move (.tmp 0) (.string s) rfl (by kernel_rfl) (by kernel_rfl)) trivial ?_
    simp only [Act.put, List.getElem_toArray, List.getElem_cons_succ, List.getElem_cons_zero, List.setIfInBounds_toArray, List.set_cons_zero, List.set_cons_succ]
    refine wpAnyH_take (i := 7) (v := .string (s.extract 4 6)) rfl (by kernel_rfl) (by kernel_rfl) (by kernel_rfl) (fun _ _ _ h => h) (yields_slice (.tmp 56) s 4 6 4 6 rfl (by kernel_rfl) (by kernel_rfl) rfl rfl (by omega) (by omega)) trivial ?_
    simp only [Act.put, List.getElem_toArray, List.getElem_cons_succ, List.getElem_cons_zero, List.setIfInBounds_toArray, List.set_cons_zero, List.set_cons_succ]
    refine wpAnyH_take (i := 9) (v := .string s) rfl (by kernel_rfl) (by kernel_rfl) (by kernel_rfl) (fun _ _ _ h => h) (yields_move (.tmp 0) (.string s) rfl (by kernel_rfl) (by kernel_rfl)) trivial ?_
    simp only [Act.put, List.getElem_toArray, List.getElem_cons_succ, List.getElem_cons_zero, List.setIfInBounds_toArray, List.set_cons_zero, List.set_cons_succ]
    refine wpAnyH_take (i := 10) (v := .string (s.extract 12 16)) rfl (by kernel_rfl) (by kernel_rfl) (by kernel_rfl) (fun _ _ _ h => h) (yields_slice (.tmp 59) s 12 16 12 16 rfl (by kernel_rfl) (by kernel_rfl) rfl rfl (by omega) (by omega)) trivial ?_
    simp only [Act.put, List.getElem_toArray, List.getElem_cons_succ, List.getElem_cons_zero, List.setIfInBounds_toArray, List.set_cons_zero, List.set_cons_succ]
    refine wpAnyH_take (i := 12) (v := .string s) rfl (by kernel_rfl) (by kernel_rfl) (by kernel_rfl) (fun _ _ _ h => h) (yields_move (.tmp 0) (.string s) rfl (by kernel_rfl) (by kernel_rfl)) trivial ?_
    simp only [Act.put, List.getElem_toArray, List.getElem_cons_succ, List.getElem_cons_zero, List.setIfInBounds_toArray, List.set_cons_zero, List.set_cons_succ]
    refine wpAnyH_take (i := 13) (v := .string (s.extract 16 20)) rfl (by kernel_rfl) (by kernel_rfl) (by kernel_rfl) (fun _ _ _ h => h) (yields_slice (.tmp 62) s 16 20 16 20 rfl (by kernel_rfl) (by kernel_rfl) rfl rfl (by omega) (by omega)) trivial ?_
    simp only [Act.put, List.getElem_toArray, List.getElem_cons_succ, List.getElem_cons_zero, List.setIfInBounds_toArray, List.set_cons_zero, List.set_cons_succ]
    refine wpAnyH_ready (rs := [8, 16]) (by kernel_rfl) (by simp) ?_
    refine AllReadyH.cons rfl (fun K hK => ?_) ?_
    · rw [if_pos (by kernel_rfl)]
      refine wp_callB 24 #[.string (s.extract 4 6)] (by kernel_rfl) _ (N4 _) ?_; intro w' hb; (try replace hb := below_undr' hb); replace T0 := T0.below hb; replace T4 := T4.below hb; (try replace T5 := T5.below hb); replace hB := hB.trans (hb.mono hB.size)
      refine hK.out _ _ trivial (fun _ => ?_)
      clear hK K
      try simp only [Act.put, List.getElem_toArray, List.getElem_cons_succ, List.getElem_cons_zero, List.setIfInBounds_toArray, List.set_cons_zero, List.set_cons_succ]
      refine wpAnyH_ready (rs := [11, 16]) (by kernel_rfl) (by simp) ?_
      refine AllReadyH.cons rfl (fun K hK => ?_) ?_
      · rw [if_pos (by kernel_rfl)]
        refine wp_callB 24 #[.string (s.extract 12 16)] (by kernel_rfl) _ (N12 _) ?_; intro w' hb; (try replace hb := below_undr' hb); replace T0 := T0.below hb; replace T4 := T4.below hb; (try replace T5 := T5.below hb); replace hB := hB.trans (hb.mono hB.size)
        refine hK.out _ _ trivial (fun _ => ?_)
        clear hK K
        try simp only [Act.put, List.getElem_toArray, List.getElem_cons_succ, List.getElem_cons_zero, List.setIfInBounds_toArray, List.set_cons_zero, List.set_cons_succ]
        refine wpAnyH_ready (rs := [14, 16]) (by kernel_rfl) (by simp) ?_
        refine AllReadyH.cons rfl (fun K hK => ?_) ?_
        · rw [if_pos (by kernel_rfl)]
          refine wp_callB 24 #[.string (s.extract 16 20)] (by kernel_rfl) _ (N16 _) ?_; intro w' hb; (try replace hb := below_undr' hb); replace T0 := T0.below hb; replace T4 := T4.below hb; (try replace T5 := T5.below hb); replace hB := hB.trans (hb.mono hB.size)
          refine hK.out _ _ trivial (fun _ => ?_)
          clear hK K
          try simp only [Act.put, List.getElem_toArray, List.getElem_cons_succ, List.getElem_cons_zero, List.setIfInBounds_toArray, List.set_cons_zero, List.set_cons_succ]
          refine wpAnyH_take (i := 15) (v := .agg #[.int .i64 (byt s.data.toList 9), .int .i64 (lAt s.data.toList 12), .int .i64 0, .int .i64 (lAt s.data.toList 16), .int .i64 0, .int .i64 (byt s.data.toList 8), .int .i64 (wAt s.data.toList 4), .int .i64 0, .int .i64 0, .int .i64 0, .int .i64 0, .string ⟨#[]⟩]) rfl (by kernel_rfl) (by kernel_rfl) (by kernel_rfl) (fun _ _ _ h => h) (Or.inl ⟨by kernel_rfl, by intro w _; kernel_rfl⟩) trivial ?_
          simp only [Act.put, List.getElem_toArray, List.getElem_cons_succ, List.getElem_cons_zero, List.setIfInBounds_toArray, List.set_cons_zero, List.set_cons_succ]
          refine wpAnyH_ready (rs := [16]) (by kernel_rfl) (by simp) ?_
          refine AllReadyH.cons rfl (fun K hK => ?_) ?_
          · rw [if_pos (by kernel_rfl)]
            refine wp_alloc12 rfl ?_; intro b w' eb T5 hk hbb; have lt5 : w.heap.size + 1 < b := (by rw [eb]; exact T4.lt); replace T0 := hk _ _ T0; replace T4 := hk _ _ T4; (first | (replace hB := hbb _ _ hB hB.size) | (replace hB := hbb _ _ (below_drew hB) hB.size)); clear hk hbb eb
            refine hK.out _ _ trivial (fun _ => ?_)
            clear hK K
            try simp only [Act.put, List.getElem_toArray, List.getElem_cons_succ, List.getElem_cons_zero, List.setIfInBounds_toArray, List.set_cons_zero, List.set_cons_succ]
            refine wpAnyH_ready (rs := [17]) (by kernel_rfl) (by simp) ?_
            refine AllReadyH.cons rfl (fun K hK => ?_) ?_
            · rw [if_pos (by kernel_rfl)]
              refine wp_store12 _ _ rfl b rfl #[.int .i64 (byt s.data.toList 9), .int .i64 (lAt s.data.toList 12), .int .i64 0, .int .i64 (lAt s.data.toList 16), .int .i64 0, .int .i64 (byt s.data.toList 8), .int .i64 (wAt s.data.toList 4), .int .i64 0, .int .i64 0, .int .i64 0, .int .i64 0, .string ⟨#[]⟩] rfl _ T5 rfl rfl (by kernel_rfl) ?_; intro w' T5 hk hbb; replace T0 := hk _ _ (by omega) T0; replace T4 := hk _ _ (by omega) T4; (first | (replace hB := hbb _ _ (by omega) hB) | (replace hB := hbb _ _ (by omega) (below_drew hB))); clear hk hbb
              refine hK.out _ _ trivial (fun _ => ?_)
              clear hK K
              try simp only [Act.put, List.getElem_toArray, List.getElem_cons_succ, List.getElem_cons_zero, List.setIfInBounds_toArray, List.set_cons_zero, List.set_cons_succ]
              refine wpAnyH_done (by kernel_rfl) ?_ _
              refine NoPanic.normal ?_
              go_wp2_with fail
              go_meet
              case rel => exact ⟨_, rfl, lt5, T5, T0, T4, hB⟩
            exact AllReadyH.nil
          exact AllReadyH.nil
        refine AllReadyH.cons rfl (fun K hK => ?_) ?_
        · rw [if_pos (by kernel_rfl)]
          refine wp_alloc12 rfl ?_; intro b w' eb T5 hk hbb; have lt5 : w.heap.size + 1 < b := (by rw [eb]; exact T4.lt); replace T0 := hk _ _ T0; replace T4 := hk _ _ T4; (first | (replace hB := hbb _ _ hB hB.size) | (replace hB := hbb _ _ (below_drew hB) hB.size)); clear hk hbb eb
          refine hK.out _ _ trivial (fun _ => ?_)
          clear hK K
          try simp only [Act.put, List.getElem_toArray, List.getElem_cons_succ, List.getElem_cons_zero, List.setIfInBounds_toArray, List.set_cons_zero, List.set_cons_succ]
          refine wpAnyH_ready (rs := [14]) (by kernel_rfl) (by simp) ?_
          refine AllReadyH.cons rfl (fun K hK => ?_) ?_
          · rw [if_pos (by kernel_rfl)]
            refine wp_callB 24 #[.string (s.extract 16 20)] (by kernel_rfl) _ (N16 _) ?_; intro w' hb; (try replace hb := below_undr' hb); replace T0 := T0.below hb; replace T4 := T4.below hb; (try replace T5 := T5.below hb); replace hB := hB.trans (hb.mono hB.size)
            refine hK.out _ _ trivial (fun _ => ?_)
            clear hK K
            try simp only [Act.put, List.getElem_toArray, List.getElem_cons_succ, List.getElem_cons_zero, List.setIfInBounds_toArray, List.set_cons_zero, List.set_cons_succ]
            refine wpAnyH_take (i := 15) (v := .agg #[.int .i64 (byt s.data.toList 9), .int .i64 (lAt s.data.toList 12), .int .i64 0, .int .i64 (lAt s.data.toList 16), .int .i64 0, .int .i64 (byt s.data.toList 8), .int .i64 (wAt s.data.toList 4), .int .i64 0, .int .i64 0, .int .i64 0, .int .i64 0, .string ⟨#[]⟩]) rfl (by kernel_rfl) (by kernel_rfl) (by kernel_rfl) (fun _ _ _ h => h) (Or.inl ⟨by kernel_rfl, by intro w _; kernel_rfl⟩) trivial ?_
            simp only [Act.put, List.getElem_toArray, List.getElem_cons_succ, List.getElem_cons_zero, List.setIfInBounds_toArray, List.set_cons_zero, List.set_cons_succ]
            refine wpAnyH_ready (rs := [17]) (by kernel_rfl) (by simp) ?_
            refine AllReadyH.cons rfl (fun K hK => ?_) ?_
            · rw [if_pos (by kernel_rfl)]
              refine wp_store12 _ _ rfl b rfl #[.int .i64 (byt s.data.toList 9), .int .i64 (lAt s.data.toList 12), .int .i64 0, .int .i64 (lAt s.data.toList 16), .int .i64 0, .int .i64 (byt s.data.toList 8), .int .i64 (wAt s.data.toList 4), .int .i64 0, .int .i64 0, .int .i64 0, .int .i64 0, .string ⟨#[]⟩] rfl _ T5 rfl rfl (by kernel_rfl) ?_; intro w' T5 hk hbb; replace T0 := hk _ _ (by omega) T0; replace T4 := hk _ _ (by omega) T4; (first | (replace hB := hbb _ _ (by omega) hB) | (replace hB := hbb _ _ (by omega) (below_drew hB))); clear hk hbb
              refine hK.out _ _ trivial (fun _ => ?_)
              clear hK K
              try simp only [Act.put, List.getElem_toArray, List.getElem_cons_succ, List.getElem_cons_zero, List.setIfInBounds_toArray, List.set_cons_zero, List.set_cons_succ]
              refine wpAnyH_done (by kernel_rfl) ?_ _
              refine NoPanic.normal ?_
              go_wp2_with fail
              go_meet
              case rel => exact ⟨_, rfl, lt5, T5, T0, T4, hB⟩
            exact AllReadyH.nil
          exact AllReadyH.nil
        exact AllReadyH.nil
      refine AllReadyH.cons rfl (fun K hK => ?_) ?_
      · rw [if_pos (by kernel_rfl)]
        refine wp_alloc12 rfl ?_; intro b w' eb T5 hk hbb; have lt5 : w.heap.size + 1 < b := (by rw [eb]; exact T4.lt); replace T0 := hk _ _ T0; replace T4 := hk _ _ T4; (first | (replace hB := hbb _ _ hB hB.size) | (replace hB := hbb _ _ (below_drew hB) hB.size)); clear hk hbb eb
        refine hK.out _ _ trivial (fun _ => ?_)
        clear hK K
        try simp only [Act.put, List.getElem_toArray, List.getElem_cons_succ, List.getElem_cons_zero, List.setIfInBounds_toArray, List.set_cons_zero, List.set_cons_succ]
        refine wpAnyH_ready (rs := [11]) (by kernel_rfl) (by simp) ?_
        refine AllReadyH.cons rfl (fun K hK => ?_) ?_
        · rw [if_pos (by kernel_rfl)]
          refine wp_callB 24 #[.string (s.extract 12 16)] (by kernel_rfl) _ (N12 _) ?_; intro w' hb; (try replace hb := below_undr' hb); replace T0 := T0.below hb; replace T4 := T4.below hb; (try replace T5 := T5.below hb); replace hB := hB.trans (hb.mono hB.size)
          refine hK.out _ _ trivial (fun _ => ?_)
          clear hK K
          try simp only [Act.put, List.getElem_toArray, List.getElem_cons_succ, List.getElem_cons_zero, List.setIfInBounds_toArray, List.set_cons_zero, List.set_cons_succ]
          refine wpAnyH_ready (rs := [14]) (by kernel_rfl) (by simp) ?_
          refine AllReadyH.cons rfl (fun K hK => ?_) ?_
          · rw [if_pos (by kernel_rfl)]
            refine wp_callB 24 #[.string (s.extract 16 20)] (by kernel_rfl) _ (N16 _) ?_; intro w' hb; (try replace hb := below_undr' hb); replace T0 := T0.below hb; replace T4 := T4.below hb; (try replace T5 := T5.below hb); replace hB := hB.trans (hb.mono hB.size)
            refine hK.out _ _ trivial (fun _ => ?_)
            clear hK K
            try simp only [Act.put, List.getElem_toArray, List.getElem_cons_succ, List.getElem_cons_zero, List.setIfInBounds_toArray, List.set_cons_zero, List.set_cons_succ]
            refine wpAnyH_take (i := 15) (v := .agg #[.int .i64 (byt s.data.toList 9), .int .i64 (lAt s.data.toList 12), .int .i64 0, .int .i64 (lAt s.data.toList 16), .int .i64 0, .int .i64 (byt s.data.toList 8), .int .i64 (wAt s.data.toList 4), .int .i64 0, .int .i64 0, .int .i64 0, .int .i64 0, .string ⟨#[]⟩]) rfl (by kernel_rfl) (by kernel_rfl) (by kernel_rfl) (fun _ _ _ h => h) (Or.inl ⟨by kernel_rfl, by intro w _; kernel_rfl⟩) trivial ?_
            simp only [Act.put, List.getElem_toArray, List.getElem_cons_succ, List.getElem_cons_zero, List.setIfInBounds_toArray, List.set_cons_zero, List.set_cons_succ]
            refine wpAnyH_ready (rs := [17]) (by kernel_rfl) (by simp) ?_
            refine AllReadyH.cons rfl (fun K hK => ?_) ?_
            · rw [if_pos (by kernel_rfl)]
              refine wp_store12 _ _ rfl b rfl #[.int .i64 (byt s.data.toList 9), .int .i64 (lAt s.data.toList 12), .int .i64 0, .int .i64 (lAt s.data.toList 16), .int .i64 0, .int .i64 (byt s.data.toList 8), .int .i64 (wAt s.data.toList 4), .int .i64 0, .int .i64 0, .int .i64 0, .int .i64 0, .string ⟨#[]⟩] rfl _ T5 rfl rfl (by kernel_rfl) ?_; intro w' T5 hk hbb; replace T0 := hk _ _ (by omega) T0; replace T4 := hk _ _ (by omega) T4; (first | (replace hB := hbb _ _ (by omega) hB) | (replace hB := hbb _ _ (by omega) (below_drew hB))); clear hk hbb
              refine hK.out _ _ trivial (fun _ => ?_)
              clear hK K
              try simp only [Act.put, List.getElem_toArray, List.getElem_cons_succ, List.getElem_cons_zero, List.setIfInBounds_toArray, List.set_cons_zero, List.set_cons_succ]
              refine wpAnyH_done (by kernel_rfl) ?_ _
              refine NoPanic.normal ?_
              go_wp2_with fail
              go_meet
              case rel => exact ⟨_, rfl, lt5, T5, T0, T4, hB⟩
            exact AllReadyH.nil
          exact AllReadyH.nil
        exact AllReadyH.nil
      exact AllReadyH.nil
    refine AllReadyH.cons rfl (fun K hK => ?_) ?_
    · rw [if_pos (by kernel_rfl)]
      refine wp_alloc12 rfl ?_; intro b w' eb T5 hk hbb; have lt5 : w.heap.size + 1 < b := (by rw [eb]; exact T4.lt); replace T0 := hk _ _ T0; replace T4 := hk _ _ T4; (first | (replace hB := hbb _ _ hB hB.size) | (replace hB := hbb _ _ (below_drew hB) hB.size)); clear hk hbb eb
      refine hK.out _ _ trivial (fun _ => ?_)
      clear hK K
      try simp only [Act.put, List.getElem_toArray, List.getElem_cons_succ, List.getElem_cons_zero, List.setIfInBounds_toArray, List.set_cons_zero, List.set_cons_succ]
      refine wpAnyH_ready (rs := [8]) (by kernel_rfl) (by simp) ?_
      refine AllReadyH.cons rfl (fun K hK => ?_) ?_
      · rw [if_pos (by kernel_rfl)]
        refine wp_callB 24 #[.string (s.extract 4 6)] (by kernel_rfl) _ (N4 _) ?_; intro w' hb; (try replace hb := below_undr' hb); replace T0 := T0.below hb; replace T4 := T4.below hb; (try replace T5 := T5.below hb); replace hB := hB.trans (hb.mono hB.size)
        refine hK.out _ _ trivial (fun _ => ?_)
        clear hK K
        try simp only [Act.put, List.getElem_toArray, List.getElem_cons_succ, List.getElem_cons_zero, List.setIfInBounds_toArray, List.set_cons_zero, List.set_cons_succ]
        refine wpAnyH_ready (rs := [11]) (by kernel_rfl) (by simp) ?_
        refine AllReadyH.cons rfl (fun K hK => ?_) ?_
        · rw [if_pos (by kernel_rfl)]
          refine wp_callB 24 #[.string (s.extract 12 16)] (by kernel_rfl) _ (N12 _) ?_; intro w' hb; (try replace hb := below_undr' hb); replace T0 := T0.below hb; replace T4 := T4.below hb; (try replace T5 := T5.below hb); replace hB := hB.trans (hb.mono hB.size)
          refine hK.out _ _ trivial (fun _ => ?_)
          clear hK K
          try simp only [Act.put, List.getElem_toArray, List.getElem_cons_succ, List.getElem_cons_zero, List.setIfInBounds_toArray, List.set_cons_zero, List.set_cons_succ]
          refine wpAnyH_ready (rs := [14]) (by kernel_rfl) (by simp) ?_
          refine AllReadyH.cons rfl (fun K hK => ?_) ?_
          · rw [if_pos (by kernel_rfl)]
            refine wp_callB 24 #[.string (s.extract 16 20)] (by kernel_rfl) _ (N16 _) ?_; intro w' hb; (try replace hb := below_undr' hb); replace T0 := T0.below hb; replace T4 := T4.below hb; (try replace T5 := T5.below hb); replace hB := hB.trans (hb.mono hB.size)
            refine hK.out _ _ trivial (fun _ => ?_)
            clear hK K
            try simp only [Act.put, List.getElem_toArray, List.getElem_cons_succ, List.getElem_cons_zero, List.setIfInBounds_toArray, List.set_cons_zero, List.set_cons_succ]
            refine wpAnyH_take (i := 15) (v := .agg #[.int .i64 (byt s.data.toList 9), .int .i64 (lAt s.data.toList 12), .int .i64 0, .int .i64 (lAt s.data.toList 16), .int .i64 0, .int .i64 (byt s.data.toList 8), .int .i64 (wAt s.data.toList 4), .int .i64 0, .int .i64 0, .int .i64 0, .int .i64 0, .string ⟨#[]⟩]) rfl (by kernel_rfl) (by kernel_rfl) (by kernel_rfl) (fun _ _ _ h => h) (Or.inl ⟨by kernel_rfl, by intro w _; kernel_rfl⟩) trivial ?_
            simp only [Act.put, List.getElem_toArray, List.getElem_cons_succ, List.getElem_cons_zero, List.setIfInBounds_toArray, List.set_cons_zero, List.set_cons_succ]
            refine wpAnyH_ready (rs := [17]) (by kernel_rfl) (by simp) ?_
            refine AllReadyH.cons rfl (fun K hK => ?_) ?_
            · rw [if_pos (by kernel_rfl)]
              refine wp_store12 _ _ rfl b rfl #[.int .i64 (byt s.data.toList 9), .int .i64 (lAt s.data.toList 12), .int .i64 0, .int .i64 (lAt s.data.toList 16), .int .i64 0, .int .i64 (byt s.data.toList 8), .int .i64 (wAt s.data.toList 4), .int .i64 0, .int .i64 0, .int .i64 0, .int .i64 0, .string ⟨#[]⟩] rfl _ T5 rfl rfl (by kernel_rfl) ?_; intro w' T5 hk hbb; replace T0 := hk _ _ (by omega) T0; replace T4 := hk _ _ (by omega) T4; (first | (replace hB := hbb _ _ (by omega) hB) | (replace hB := hbb _ _ (by omega) (below_drew hB))); clear hk hbb
              refine hK.out _ _ trivial (fun _ => ?_)
              clear hK K
              try simp only [Act.put, List.getElem_toArray, List.getElem_cons_succ, List.getElem_cons_zero, List.setIfInBounds_toArray, List.set_cons_zero, List.set_cons_succ]
              refine wpAnyH_done (by kernel_rfl) ?_ _
              refine NoPanic.normal ?_
              go_wp2_with fail
              go_meet
              case rel => exact ⟨_, rfl, lt5, T5, T0, T4, hB⟩
            exact AllReadyH.nil
          exact AllReadyH.nil
        exact AllReadyH.nil
      exact AllReadyH.nil
    exact AllReadyH.nil
  case rest =>
    clear T0 T4 hB c0 c4 f0
    obtain ⟨b, rfl, hb1, T5, T0, T4, hB⟩ := hcut
    replace c0 := T0.cell; replace c4 := T4.cell; replace f0 := T0.free; replace c5 := T5.cell; replace f5 := T5.free
    have z2 : (s.extract 20 s.size).size = s.size - 20 := ext_size s 20 s.size (Nat.le_refl _)
    have z3 : ((s.extract 20 s.size).size : Int) = (s.size : Int) - 20 := by omega
    have z4 : ((s.size - 20 : Nat) : Int) = (s.size : Int) - 20 := by omega
    have b9 := byt_bd s.data.toList 9
    have CA := fun w => ahead_any (lAt s.data.toList 12) (lAt s.data.toList 16) (byt s.data.toList 9) ((s.size : Int) - 20) w b9 (lAt_bd _ _) (lAt_bd _ _) (by omega)
    have hps : (txt (ps (lAt s.data.toList 12) (lAt s.data.toList 16) (byt s.data.toList 9) ((s.size : Int) - 20))).size ≤ 12 := by rw [txt_size]; unfold ps; split <;> simp
    have CS : ∀ w, Calls Try.prog 25 #[.string (txt (ps (lAt s.data.toList 12) (lAt s.data.toList 16) (byt s.data.toList 9) ((s.size : Int) - 20)) ++ s.extract 20 s.size)] w fun e w' => e = .returned (.int .i64 (bk (tot (chkd s.data.toList (byt s.data.toList 9))))) ∧ Below w.heap.size w w' := by
      intro w
      have := sumRef_any (txt (ps (lAt s.data.toList 12) (lAt s.data.toList 16) (byt s.data.toList 9) ((s.size : Int) - 20)) ++ s.extract 20 s.size) w (by rw [ByteArray.size_append]; omega)
      rw [ByteArray.data_append, Array.toList_append, txt_list, ext_from, ← hll, ps_chkd _ _ (by omega)] at this
      exact this
    have k9 : byt s.data.toList 9 = 1 := hk9.out
    have e1 : (byt s.data.toList 9 == 1) = true := by rw [k9]; rfl
    have e6 : (byt s.data.toList 9 == 6) = false := by rw [k9]; rfl
    have e17 : (byt s.data.toList 9 == 17) = false := by rw [k9]; rfl
    have HPN : Hid (partN (byt s.data.toList 9) = 8) := by show _ = _; rw [k9]; rfl
    have HK : Hid (byt s.data.toList 9 = 1) := k9
    have HH : Hid (HeadOk s.data.toList) := ⟨by omega, H.mark, H.size, H.sum, H.serv, H.piece, H.ttl, by rw [k9]; rfl⟩
    clear k9
    have hn : (8 : Int) ≤ (s.size : Int) - 20 := hv.out.1
    have HL : Hid (partN (byt s.data.toList 9) ≤ (s.data.toList.length : Int) - 20) := by show _ ≤ _; rw [HPN.out, hll]; exact hn
    have hsum : bk (tot (chkd s.data.toList (byt s.data.toList 9))) = 65535 := hv.out.2.1
    have HS : Hid (bk (tot (chkd s.data.toList (byt s.data.toList 9))) = 65535) := hsum
    have ds : (bk (tot (chkd s.data.toList (byt s.data.toList 9))) != 65535) = false := by simpa using hsum
    clear hsum
    go_upto_region 23 with (first
          | (go_at_call 26; go_fit (CA _); rintro e w' ⟨rfl, hb⟩; (try replace hb := below_undr' hb); replace T0 := T0.below hb; replace T4 := T4.below hb; replace T5 := T5.below hb; replace c0 := T0.cell; replace c4 := T4.cell; replace f0 := T0.free; replace c5 := T5.cell; replace f5 := T5.free; replace hB := hB.trans (hb.mono hB.size))
          | (go_at_call 25; go_fit (CS _); rintro e w' ⟨rfl, hb⟩; (try replace hb := below_undr' hb); replace T0 := T0.below hb; replace T4 := T4.below hb; replace T5 := T5.below hb; replace c0 := T0.cell; replace c4 := T4.cell; replace f0 := T0.free; replace c5 := T5.cell; replace f5 := T5.free; replace hB := hB.trans (hb.mono hB.size)))
    go_cut [] (fun wx => Twelve wx b #[.int .i64 (byt s.data.toList 9), .int .i64 (lAt s.data.toList 12), .int .i64 0, .int .i64 (lAt s.data.toList 16), .int .i64 0, .int .i64 (byt s.data.toList 8), .int .i64 (wAt s.data.toList 4), .int .i64 0, .int .i64 0, .int .i64 0, .int .i64 0, .string ((s.extract 20 s.size).extract 8 (s.extract 20 s.size).size)] ∧ Twelve wx w.heap.size #[.int .i64 0, .int .i64 0, .int .i64 0, .int .i64 0, .int .i64 0, .int .i64 0, .int .i64 0, .int .i64 0, .int .i64 0, .int .i64 0, .int .i64 0, .string ⟨#[]⟩] ∧ Twelve wx (w.heap.size + 1) #[.int .i64 0, .int .i64 0, .int .i64 0, .int .i64 0, .int .i64 0, .int .i64 0, .int .i64 0, .int .i64 0, .int .i64 0, .int .i64 0, .int .i64 0, .string ⟨#[]⟩] ∧ Below w.heap.size w wx)
    case first =>
      go_wp2_with fail
      go_meet
      case rel => exact ⟨by have := T5.set 11 (.string ((s.extract 20 s.size).extract 8 (s.extract 20 s.size).size)); simpa using this, twelve_other T0 (by omega), twelve_other T4 (by omega), hB.setCell (by show w.heap.size ≤ b; omega) _⟩
    case rest =>
    clear T0 T4 T5 hB c0 c4 c5 f0 f5
    obtain ⟨T5, T0, T4, hB⟩ := hcut
    replace c0 := T0.cell; replace c4 := T4.cell; replace f0 := T0.free; replace c5 := T5.cell; replace f5 := T5.free
    have i0 : (0 : Int) < (s.size : Int) - 20 := by omega
    have i1 : (1 : Int) < (s.size : Int) - 20 := by omega
    have ge0 : ∀ h, (((s.extract 20 s.size)[0]'h).toNat : Int) = byt s.data.toList 20 := fun h => get_ext s 0 h
    have ge1 : ∀ h, (((s.extract 20 s.size)[1]'h).toNat : Int) = byt s.data.toList 21 := fun h => get_ext s 1 h
    have i6 : (6 : Int) ≤ (s.size : Int) - 20 := by omega
    have i8 : (8 : Int) ≤ (s.size : Int) - 20 := by omega
    have bb := byt_bd s.data.toList 20
    have iw20 : IntKind.i64.wrap (byt s.data.toList 20) = byt s.data.toList 20 := wrap_i64 _ (by omega) (by omega)
    have N26 : ∀ w, Calls Try.prog 24 #[.string ((s.extract 20 s.size).extract 6 8)] w fun e w' => e = .returned (.int .i64 (wAt s.data.toList 26)) ∧ Below w.heap.size w w' := fun w => by
      have := num2_any (s.extract 20 s.size) 6 8 w rfl (by omega)
      rw [ext_from, wAt_drop] at this; exact this
    have N24 : ∀ w, Calls Try.prog 24 #[.string ((s.extract 20 s.size).extract 4 6)] w fun e w' => e = .returned (.int .i64 (wAt s.data.toList 24)) ∧ Below w.heap.size w w' := fun w => by
      have := num2_any (s.extract 20 s.size) 4 6 w rfl (by omega)
      rw [ext_from, wAt_drop] at this; exact this
    have HQ : Hid (byt s.data.toList 20 = 0) := hv.out.2.2.1
    have HB : Hid (bad s.data.toList = good (pktOf s.data.toList)) := pb_pok s.data.toList HH.out HL.out HS.out HK.out (.inl HQ.out) hv.out.2.2.2
    have v1 : (byt s.data.toList 21 != 0) = false := by simpa using hv.out.2.2.2
    have hbody : (pktOf s.data.toList).body.size ≤ 140737488351232 := by have := pkt_body s.data.toList; omega
    have htt : -9223372036854775808 ≤ (pktOf s.data.toList).ttl ∧ (pktOf s.data.toList).ttl ≤ 9223372036854775807 := by
      have e : (pktOf s.data.toList).ttl = byt s.data.toList 8 := by unfold pktOf; rw [if_pos HK.out]
      rw [e]; have := byt_bd s.data.toList 8; omega
    have HGo : Hid (parsed s.data.toList = if good (pktOf s.data.toList) = 0 then pktOf s.data.toList else p0) := by show _ = _; unfold parsed; rw [HB.out]
    have HE : Hid (pv (pktOf s.data.toList) = .agg #[.int .i64 (byt s.data.toList 9), .int .i64 (lAt s.data.toList 12), .int .i64 0, .int .i64 (lAt s.data.toList 16), .int .i64 (wAt s.data.toList 24), .int .i64 (byt s.data.toList 8), .int .i64 (wAt s.data.toList 4), .int .i64 (byt s.data.toList 20), .int .i64 (wAt s.data.toList 26), .int .i64 0, .int .i64 0, .string ((s.extract 20 s.size).extract 8 (s.extract 20 s.size).size)]) := by
      show _ = _
      unfold pktOf pv
      rw [if_pos HK.out, HK.out, if_neg (by rw [HQ.out]; decide), if_neg (by rw [HQ.out]; decide), ext_twice]
    have CG : ∀ w, Calls Try.prog 27 #[.agg #[.int .i64 (byt s.data.toList 9), .int .i64 (lAt s.data.toList 12), .int .i64 0, .int .i64 (lAt s.data.toList 16), .int .i64 (wAt s.data.toList 24), .int .i64 (byt s.data.toList 8), .int .i64 (wAt s.data.toList 4), .int .i64 (byt s.data.toList 20), .int .i64 (wAt s.data.toList 26), .int .i64 0, .int .i64 0, .string ((s.extract 20 s.size).extract 8 (s.size - 20))]] w fun e w' => e = .returned (.int .i64 (good (pktOf s.data.toList))) ∧ Below w.heap.size w w' := fun w => by
      have := gref_any (pktOf s.data.toList) w hbody htt
      rw [HE.out, z2] at this; exact this
    have u3 : (byt s.data.toList 20 != 0) = false ∧ (byt s.data.toList 20 == 8) = false := by rw [HQ.out]; decide
    obtain ⟨w1, w2⟩ := u3
    have dg : (good (pktOf s.data.toList) != 0) = true := by simpa using hg.out
    have HZ : Hid (¬ good (pktOf s.data.toList) = 0) := hg
    clear hg
    go_upto_region 31 with fail
    go_region_held3 (fun _ => True) (trivial) (first
        | (go_at_call 24; go_fit (N26 _); rintro e w' ⟨rfl, hb⟩; (try replace hb := below_undr' hb); replace T0 := T0.below hb; replace T4 := T4.below hb; replace T5 := T5.below hb; replace c0 := T0.cell; replace c4 := T4.cell; replace f0 := T0.free; replace c5 := T5.cell; replace f5 := T5.free; replace hB := hB.trans (hb.mono hB.size)))
    all_goals
      go_wp2_with (first | (go_at_call 24; go_fit (N24 _); rintro e w' ⟨rfl, hb⟩; (first | (replace T5 := Twelve.below (((T5).set 7 (.int .i64 (byt s.data.toList 20))).set 8 (.int .i64 (wAt s.data.toList 26))) hb) | (replace T5 := Twelve.below (((T5).set 8 (.int .i64 (wAt s.data.toList 26))).set 7 (.int .i64 (byt s.data.toList 20))) hb)); replace T0 := Twelve.below (twelve_other (twelve_other (T0) (show w.heap.size ≠ b by omega)) (show w.heap.size ≠ b by omega)) hb; replace T4 := Twelve.below (twelve_other (twelve_other (T4) (show w.heap.size + 1 ≠ b by omega)) (show w.heap.size + 1 ≠ b by omega)) hb; replace c0 := T0.cell; replace c4 := T4.cell; replace f0 := T0.free; replace c5 := T5.cell; replace f5 := T5.free; replace hB := Below.trans (((hB).setCell (by show w.heap.size ≤ b; omega) _).setCell (by show w.heap.size ≤ b; omega) _) (hb.mono (by have := hB.size; simpa [World.setCell] using this))) | (go_at_call 27; go_fit (CG _); rintro e w' ⟨rfl, hb⟩; replace T0 := (twelve_other T0 (show w.heap.size ≠ b by omega)).below hb; replace T4 := (twelve_other T4 (show w.heap.size + 1 ≠ b by omega)).below hb; replace T5 := (T5.set 4 (.int .i64 (wAt s.data.toList 24))).below hb; replace c0 := T0.cell; replace c4 := T4.cell; replace f0 := T0.free; replace c5 := T5.cell; replace f5 := T5.free; replace hB := (hB.setCell (show w.heap.size ≤ b by omega) _).trans (hb.mono (by have := hB.size; simpa [World.setCell] using this))))
      refine bodyPost_ret (v := .tuple #[pv p0, .int .i64 (good (pktOf s.data.toList))]) (by simp [results, Try.results10, go_sem, pv, p0, c0]; rfl) rfl ⟨by rw [HGo.out, if_neg HZ.out, HB.out], ?_⟩
      iterate 12 (refine Below.setCell ?_ (by exact Nat.le_refl _) _)
      exact hB

end Go.Proofs.Ythcedehppflcgab
