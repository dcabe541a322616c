/-
  The walk of a packet read off a frame.
-/
import Derived.Test.YthcedehppflcgabReadPing
import Derived.Deep.DeepCutAuto
namespace Go.Proofs.Ythcedehppflcgab
open Go.ChangeShapes Go.WideShapes Go.ChangeAt Go.RowKit

theorem ext_twice (s : ByteArray) (a : Nat) : (s.extract 20 s.size).extract a (s.extract 20 s.size).size = txt (s.data.toList.drop (20 + a)) := by
  rw [← txt_of ((s.extract 20 s.size).extract a _), ext_from, ext_from, List.drop_drop]
theorem twelve_new (w : World) (cs : Array Value) (q n : Nat) (hn : w.heap.size = n) : Twelve ((w.alloc (.cells cs 23)).drewN q) n cs := by
  subst hn
  exact heap_alloc_new w _
theorem twelve_old (w : World) (cs : Array Value) (o : Obj) (q : Nat) : Twelve (((w.alloc (.cells cs 23)).alloc o).drewN q) w.heap.size cs := by
  show ((w.alloc (.cells cs 23)).alloc o).heap[w.heap.size]? = _
  rw [Below.heap_alloc _ _ _ (by simp)]
  exact heap_alloc_new w _
theorem Twelve.step {w w' : World} {b r : Nat} {cs : Array Value} (h : Twelve w r cs) (st : Step b none none w w') (hne : r ≠ b) : Twelve w' r cs :=
  (st.block r (Array.getElem?_eq_some_iff.1 h).1 hne (by simp)).trans h
theorem below_two (w : World) (o o' : Obj) (q : Nat) : Below w.heap.size w (((w.alloc o).alloc o').drewN q) :=
  (((Below.refl _ _).alloc (Nat.le_refl _) o).alloc (by simp) o').trans ((below_drewN q _).mono (by simp; omega))
set_option linter.unusedSimpArgs false in
set_option maxHeartbeats 4000000 in
theorem packetOf_any (s : ByteArray) (w : World) (h20 : 28 ≤ s.size) (hs : s.size ≤ 65535) (hk : kindB (byt s.data.toList 9) = true) (hf : byt s.data.toList 9 = 1 → byt s.data.toList 20 = 8 ∨ byt s.data.toList 20 = 0) (ht : byt s.data.toList 9 = 6 → 40 ≤ s.size) :
    Calls Try.prog 23 #[.string s] w fun e w' => e = .returned (pv (pktOf s.data.toList)) ∧ Below w.heap.size w w' := by
  have g8 := byt_get s 8 (by omega); have g9 := byt_get s 9 (by omega)
  obtain ⟨b1, b2⟩ := byt_bd s.data.toList 8
  obtain ⟨b3, b4⟩ := byt_bd s.data.toList 9
  have k8 : (8 : Int) < (s.size : Int) := by omega
  have k9 : (9 : Int) < (s.size : Int) := by omega
  have iw8 : IntKind.i64.wrap (byt s.data.toList 8) = byt s.data.toList 8 := wrap_i64 _ (by omega) (by omega)
  have iw9 : IntKind.i64.wrap (byt s.data.toList 9) = byt s.data.toList 9 := wrap_i64 _ (by omega) (by omega)
  have sd : ∀ (w : World) (n : Nat) (a : Addr) (v : Value), (w.drewN n).setCell a v = (w.setCell a v).drewN n := fun _ _ _ _ => rfl
  have ad : ∀ (w : World) (n : Nat) (o : Obj), (w.drewN n).alloc o = (w.alloc o).drewN n := fun _ _ _ => rfl
  have z2 : (s.extract 20 s.size).size = s.size - 20 := ext_size s 20 s.size (Nat.le_refl _)
  have z3 : ((s.size - 20 : Nat) : Int) = (s.size : Int) - 20 := by omega
  have z4 : ((s.extract 20 s.size).size : Int) = (s.size : Int) - 20 := by omega
  go_enter Try.func23, Try.ntmps23
  go_wp2
  go_cut [3] (fun t3 wx => t3 = .pointer (some ⟨w.heap.size + 1, 0, none⟩) ∧ ∃ q, wx = ((w.alloc (.cells #[.int .i64 0, .int .i64 0, .int .i64 0, .int .i64 0, .int .i64 0, .int .i64 0, .int .i64 0, .int .i64 0, .int .i64 0, .int .i64 0, .int .i64 0, .string ⟨#[]⟩] 23)).alloc (.cells #[.int .i64 (byt s.data.toList 9), .int .i64 (lAt s.data.toList 12), .int .i64 0, .int .i64 (lAt s.data.toList 16), .int .i64 0, .int .i64 (byt s.data.toList 8), .int .i64 (wAt s.data.toList 4), .int .i64 0, .int .i64 0, .int .i64 0, .int .i64 0, .string ⟨#[]⟩] 23)).drewN q)
  case first =>
    refine wp_region_noPanic ?_
    refine wp_region_held_drew (S := fun _ => True) (by kernel_rfl) trivial (fun _ => ?_)
    refine wpAnyH_take (i := 0) (v := .string s) rfl (by kernel_rfl) (by kernel_rfl) (by kernel_rfl) (fun _ _ _ h => h) (Or.inl ⟨by rfl, by intro w _; go_simp⟩) trivial ?_
    simp only [Act.put, List.setIfInBounds_toArray, List.set_cons_zero, List.set_cons_succ]
    refine wpAnyH_take (i := 1) (v := .int .u8 (byt s.data.toList 9)) rfl (by kernel_rfl) (by kernel_rfl) (by kernel_rfl) (fun _ _ _ h => h) (Or.inl ⟨by rfl, by intro w _; go_simp⟩) trivial ?_
    simp only [Act.put, List.setIfInBounds_toArray, List.set_cons_zero, List.set_cons_succ]
    refine wpAnyH_take (i := 2) (v := .int .i64 (byt s.data.toList 9)) rfl (by kernel_rfl) (by kernel_rfl) (by kernel_rfl) (fun _ _ _ h => h) (Or.inl ⟨by rfl, by intro w _; go_simp⟩) trivial ?_
    simp only [Act.put, List.setIfInBounds_toArray, List.set_cons_zero, List.set_cons_succ]
    refine wpAnyH_take (i := 3) (v := .string s) rfl (by kernel_rfl) (by kernel_rfl) (by kernel_rfl) (fun _ _ _ h => h) (Or.inl ⟨by rfl, by intro w _; go_simp⟩) trivial ?_
    simp only [Act.put, List.setIfInBounds_toArray, List.set_cons_zero, List.set_cons_succ]
    refine wpAnyH_take (i := 5) (v := .string s) rfl (by kernel_rfl) (by kernel_rfl) (by kernel_rfl) (fun _ _ _ h => h) (Or.inl ⟨by rfl, by intro w _; go_simp⟩) trivial ?_
    simp only [Act.put, List.setIfInBounds_toArray, List.set_cons_zero, List.set_cons_succ]
    refine wpAnyH_take (i := 7) (v := .string s) rfl (by kernel_rfl) (by kernel_rfl) (by kernel_rfl) (fun _ _ _ h => h) (Or.inl ⟨by rfl, by intro w _; go_simp⟩) trivial ?_
    simp only [Act.put, List.setIfInBounds_toArray, List.set_cons_zero, List.set_cons_succ]
    refine wpAnyH_take (i := 8) (v := .int .u8 (byt s.data.toList 8)) rfl (by kernel_rfl) (by kernel_rfl) (by kernel_rfl) (fun _ _ _ h => h) (Or.inl ⟨by rfl, by intro w _; go_simp⟩) trivial ?_
    simp only [Act.put, List.setIfInBounds_toArray, List.set_cons_zero, List.set_cons_succ]
    refine wpAnyH_take (i := 9) (v := .int .i64 (byt s.data.toList 8)) rfl (by kernel_rfl) (by kernel_rfl) (by kernel_rfl) (fun _ _ _ h => h) (Or.inl ⟨by rfl, by intro w _; go_simp⟩) trivial ?_
    simp only [Act.put, List.setIfInBounds_toArray, List.set_cons_zero, List.set_cons_succ]
    refine wpAnyH_take (i := 10) (v := .string s) rfl (by kernel_rfl) (by kernel_rfl) (by kernel_rfl) (fun _ _ _ h => h) (Or.inl ⟨by rfl, by intro w _; go_simp⟩) trivial ?_
    simp only [Act.put, List.setIfInBounds_toArray, List.set_cons_zero, List.set_cons_succ]
    refine wpAnyH_ready (rs := [4, 13]) (by kernel_rfl) (by simp) ?_
    refine AllReadyH.cons rfl (fun K hK => ?_) ?_
    · go_simp
      refine (lAtD_any s _ _ (by omega) (by omega) (by omega)).mono ?_; rintro e w' ⟨rfl, q, rfl⟩; simp only [Int.reduceToNat]
      go_wp2_with fail
      refine hK.out _ _ trivial (fun _ => ?_)
      clear hK K
      try simp only [Act.put, List.setIfInBounds_toArray, List.set_cons_zero, List.set_cons_succ]
      refine wpAnyH_ready (rs := [6, 13]) (by kernel_rfl) (by simp) ?_
      refine AllReadyH.cons rfl (fun K hK => ?_) ?_
      · go_simp
        refine (lAtD_any s _ _ (by omega) (by omega) (by omega)).mono ?_; rintro e w' ⟨rfl, q, rfl⟩; simp only [Int.reduceToNat]
        go_wp2_with fail
        refine hK.out _ _ trivial (fun _ => ?_)
        clear hK K
        try simp only [Act.put, List.setIfInBounds_toArray, List.set_cons_zero, List.set_cons_succ]
        refine wpAnyH_ready (rs := [11, 13]) (by kernel_rfl) (by simp) ?_
        refine AllReadyH.cons rfl (fun K hK => ?_) ?_
        · go_simp
          refine (wAtD_any s _ _ (by omega) (by omega) (by omega)).mono ?_; rintro e w' ⟨rfl, q, rfl⟩; simp only [Int.reduceToNat]
          go_wp2_with fail
          refine hK.out _ _ trivial (fun _ => ?_)
          clear hK K
          try simp only [Act.put, List.setIfInBounds_toArray, List.set_cons_zero, List.set_cons_succ]
          refine wpAnyH_take (i := 12) (v := .agg #[.int .i64 (byt s.data.toList 9), .int .i64 (lAt s.data.toList 12), .int .i64 0, .int .i64 (lAt s.data.toList 16), .int .i64 0, .int .i64 (byt s.data.toList 8), .int .i64 (wAt s.data.toList 4), .int .i64 0, .int .i64 0, .int .i64 0, .int .i64 0, .string ⟨#[]⟩]) rfl (by kernel_rfl) (by kernel_rfl) (by kernel_rfl) (fun _ _ _ h => h) (Or.inl ⟨by rfl, by intro w _; go_simp⟩) trivial ?_
          simp only [Act.put, List.setIfInBounds_toArray, List.set_cons_zero, List.set_cons_succ]
          refine wpAnyH_ready (rs := [13]) (by kernel_rfl) (by simp) ?_
          refine AllReadyH.cons rfl (fun K hK => ?_) ?_
          · go_simp
            refine hK.out _ _ trivial (fun _ => ?_)
            clear hK K
            try simp only [Act.put, List.setIfInBounds_toArray, List.set_cons_zero, List.set_cons_succ]
            refine wpAnyH_ready (rs := [14]) (by kernel_rfl) (by simp) ?_
            refine AllReadyH.cons rfl (fun K hK => ?_) ?_
            · go_simp
              refine hK.out _ _ trivial (fun _ => ?_)
              clear hK K
              try simp only [Act.put, List.setIfInBounds_toArray, List.set_cons_zero, List.set_cons_succ]
              refine wpAnyH_done (by kernel_rfl) ?_ _
              refine NoPanic.normal ?_
              go_wp2_with fail
              go_meet
              case rel => exact ⟨rfl, _, rfl⟩
            exact AllReadyH.nil
          exact AllReadyH.nil
        refine AllReadyH.cons rfl (fun K hK => ?_) ?_
        · go_simp
          refine hK.out _ _ trivial (fun _ => ?_)
          clear hK K
          try simp only [Act.put, List.setIfInBounds_toArray, List.set_cons_zero, List.set_cons_succ]
          refine wpAnyH_ready (rs := [11]) (by kernel_rfl) (by simp) ?_
          refine AllReadyH.cons rfl (fun K hK => ?_) ?_
          · go_simp
            refine (wAtD_any s _ _ (by omega) (by omega) (by omega)).mono ?_; rintro e w' ⟨rfl, q, rfl⟩; simp only [Int.reduceToNat]
            go_wp2_with fail
            refine hK.out _ _ trivial (fun _ => ?_)
            clear hK K
            try simp only [Act.put, List.setIfInBounds_toArray, List.set_cons_zero, List.set_cons_succ]
            refine wpAnyH_take (i := 12) (v := .agg #[.int .i64 (byt s.data.toList 9), .int .i64 (lAt s.data.toList 12), .int .i64 0, .int .i64 (lAt s.data.toList 16), .int .i64 0, .int .i64 (byt s.data.toList 8), .int .i64 (wAt s.data.toList 4), .int .i64 0, .int .i64 0, .int .i64 0, .int .i64 0, .string ⟨#[]⟩]) rfl (by kernel_rfl) (by kernel_rfl) (by kernel_rfl) (fun _ _ _ h => h) (Or.inl ⟨by rfl, by intro w _; go_simp⟩) trivial ?_
            simp only [Act.put, List.setIfInBounds_toArray, List.set_cons_zero, List.set_cons_succ]
            refine wpAnyH_ready (rs := [14]) (by kernel_rfl) (by simp) ?_
            refine AllReadyH.cons rfl (fun K hK => ?_) ?_
            · go_simp
              refine hK.out _ _ trivial (fun _ => ?_)
              clear hK K
              try simp only [Act.put, List.setIfInBounds_toArray, List.set_cons_zero, List.set_cons_succ]
              refine wpAnyH_done (by kernel_rfl) ?_ _
              refine NoPanic.normal ?_
              go_wp2_with fail
              go_meet
              case rel => exact ⟨rfl, _, rfl⟩
            exact AllReadyH.nil
          exact AllReadyH.nil
        exact AllReadyH.nil
      refine AllReadyH.cons rfl (fun K hK => ?_) ?_
      · go_simp
        refine hK.out _ _ trivial (fun _ => ?_)
        clear hK K
        try simp only [Act.put, List.setIfInBounds_toArray, List.set_cons_zero, List.set_cons_succ]
        refine wpAnyH_ready (rs := [6]) (by kernel_rfl) (by simp) ?_
        refine AllReadyH.cons rfl (fun K hK => ?_) ?_
        · go_simp
          refine (lAtD_any s _ _ (by omega) (by omega) (by omega)).mono ?_; rintro e w' ⟨rfl, q, rfl⟩; simp only [Int.reduceToNat]
          go_wp2_with fail
          refine hK.out _ _ trivial (fun _ => ?_)
          clear hK K
          try simp only [Act.put, List.setIfInBounds_toArray, List.set_cons_zero, List.set_cons_succ]
          refine wpAnyH_ready (rs := [11]) (by kernel_rfl) (by simp) ?_
          refine AllReadyH.cons rfl (fun K hK => ?_) ?_
          · go_simp
            refine (wAtD_any s _ _ (by omega) (by omega) (by omega)).mono ?_; rintro e w' ⟨rfl, q, rfl⟩; simp only [Int.reduceToNat]
            go_wp2_with fail
            refine hK.out _ _ trivial (fun _ => ?_)
            clear hK K
            try simp only [Act.put, List.setIfInBounds_toArray, List.set_cons_zero, List.set_cons_succ]
            refine wpAnyH_take (i := 12) (v := .agg #[.int .i64 (byt s.data.toList 9), .int .i64 (lAt s.data.toList 12), .int .i64 0, .int .i64 (lAt s.data.toList 16), .int .i64 0, .int .i64 (byt s.data.toList 8), .int .i64 (wAt s.data.toList 4), .int .i64 0, .int .i64 0, .int .i64 0, .int .i64 0, .string ⟨#[]⟩]) rfl (by kernel_rfl) (by kernel_rfl) (by kernel_rfl) (fun _ _ _ h => h) (Or.inl ⟨by rfl, by intro w _; go_simp⟩) trivial ?_
            simp only [Act.put, List.setIfInBounds_toArray, List.set_cons_zero, List.set_cons_succ]
            refine wpAnyH_ready (rs := [14]) (by kernel_rfl) (by simp) ?_
            refine AllReadyH.cons rfl (fun K hK => ?_) ?_
            · go_simp
              refine hK.out _ _ trivial (fun _ => ?_)
              clear hK K
              try simp only [Act.put, List.setIfInBounds_toArray, List.set_cons_zero, List.set_cons_succ]
              refine wpAnyH_done (by kernel_rfl) ?_ _
              refine NoPanic.normal ?_
              go_wp2_with fail
              go_meet
              case rel => exact ⟨rfl, _, rfl⟩
            exact AllReadyH.nil
          exact AllReadyH.nil
        exact AllReadyH.nil
      exact AllReadyH.nil
    refine AllReadyH.cons rfl (fun K hK => ?_) ?_
    · go_simp
      refine hK.out _ _ trivial (fun _ => ?_)
      clear hK K
      try simp only [Act.put, List.setIfInBounds_toArray, List.set_cons_zero, List.set_cons_succ]
      refine wpAnyH_ready (rs := [4]) (by kernel_rfl) (by simp) ?_
      refine AllReadyH.cons rfl (fun K hK => ?_) ?_
      · go_simp
        refine (lAtD_any s _ _ (by omega) (by omega) (by omega)).mono ?_; rintro e w' ⟨rfl, q, rfl⟩; simp only [Int.reduceToNat]
        go_wp2_with fail
        refine hK.out _ _ trivial (fun _ => ?_)
        clear hK K
        try simp only [Act.put, List.setIfInBounds_toArray, List.set_cons_zero, List.set_cons_succ]
        refine wpAnyH_ready (rs := [6]) (by kernel_rfl) (by simp) ?_
        refine AllReadyH.cons rfl (fun K hK => ?_) ?_
        · go_simp
          refine (lAtD_any s _ _ (by omega) (by omega) (by omega)).mono ?_; rintro e w' ⟨rfl, q, rfl⟩; simp only [Int.reduceToNat]
          go_wp2_with fail
          refine hK.out _ _ trivial (fun _ => ?_)
          clear hK K
          try simp only [Act.put, List.setIfInBounds_toArray, List.set_cons_zero, List.set_cons_succ]
          refine wpAnyH_ready (rs := [11]) (by kernel_rfl) (by simp) ?_
          refine AllReadyH.cons rfl (fun K hK => ?_) ?_
          · go_simp
            refine (wAtD_any s _ _ (by omega) (by omega) (by omega)).mono ?_; rintro e w' ⟨rfl, q, rfl⟩; simp only [Int.reduceToNat]
            go_wp2_with fail
            refine hK.out _ _ trivial (fun _ => ?_)
            clear hK K
            try simp only [Act.put, List.setIfInBounds_toArray, List.set_cons_zero, List.set_cons_succ]
            refine wpAnyH_take (i := 12) (v := .agg #[.int .i64 (byt s.data.toList 9), .int .i64 (lAt s.data.toList 12), .int .i64 0, .int .i64 (lAt s.data.toList 16), .int .i64 0, .int .i64 (byt s.data.toList 8), .int .i64 (wAt s.data.toList 4), .int .i64 0, .int .i64 0, .int .i64 0, .int .i64 0, .string ⟨#[]⟩]) rfl (by kernel_rfl) (by kernel_rfl) (by kernel_rfl) (fun _ _ _ h => h) (Or.inl ⟨by rfl, by intro w _; go_simp⟩) trivial ?_
            simp only [Act.put, List.setIfInBounds_toArray, List.set_cons_zero, List.set_cons_succ]
            refine wpAnyH_ready (rs := [14]) (by kernel_rfl) (by simp) ?_
            refine AllReadyH.cons rfl (fun K hK => ?_) ?_
            · go_simp
              refine hK.out _ _ trivial (fun _ => ?_)
              clear hK K
              try simp only [Act.put, List.setIfInBounds_toArray, List.set_cons_zero, List.set_cons_succ]
              refine wpAnyH_done (by kernel_rfl) ?_ _
              refine NoPanic.normal ?_
              go_wp2_with fail
              go_meet
              case rel => exact ⟨rfl, _, rfl⟩
            exact AllReadyH.nil
          exact AllReadyH.nil
        exact AllReadyH.nil
      exact AllReadyH.nil
    exact AllReadyH.nil
  case rest =>
    obtain ⟨rfl, q, rfl⟩ := hcut
    clear g8 g9 iw8 iw9
    rcases (kind_iff _).1 hk with h1 | h1 | h1
    · have pn : partN 1 = 8 := rfl
      rcases hf h1 with h8 | h8
      · have E : Hid (pv (pktOf s.data.toList) = .agg #[.int .i64 1, .int .i64 (lAt s.data.toList 12), .int .i64 (wAt s.data.toList 24), .int .i64 (lAt s.data.toList 16), .int .i64 0, .int .i64 (byt s.data.toList 8), .int .i64 (wAt s.data.toList 4), .int .i64 8, .int .i64 (wAt s.data.toList 26), .int .i64 0, .int .i64 0, .string ((s.extract 20 s.size).extract 8 (s.size - 20))]) := by
          show _ = _
          unfold pktOf pv
          rw [if_pos h1, ← z2, ext_twice, h8, if_pos rfl, if_pos rfl]
        rw [h1]
        go_wp2_with (first
          | (go_at_call 38; refine (partBytes_any _ _).mono ?_; rintro e w' ⟨rfl, rfl⟩)
          | (go_at_call 54; refine (readPing_asks _ s _ _ _ _ _ _ _ _ _ h20 hs (twelve_new _ _ _ _ (by simp)) h8).mono ?_; rintro e w' ⟨rfl, tw, hst⟩; have t0 := (twelve_old _ _ _ _).step hst (by omega); have c0 := t0.cell; have f0 := t0.free; have c1 := tw.cell; have f1 := tw.free; have hB := (below_two _ _ _ _).trans (hst.below (B := w.heap.size) (by simp; omega) (by omega) (fun k e => by cases e)); clear tw t0 hst))
        refine bodyPost_ret (v := .agg #[.int .i64 1, .int .i64 (lAt s.data.toList 12), .int .i64 (wAt s.data.toList 24), .int .i64 (lAt s.data.toList 16), .int .i64 0, .int .i64 (byt s.data.toList 8), .int .i64 (wAt s.data.toList 4), .int .i64 8, .int .i64 (wAt s.data.toList 26), .int .i64 0, .int .i64 0, .string ((s.extract 20 s.size).extract 8 (s.size - 20))]) (by simp [results, Try.results23, go_sem, c0]) rfl ⟨by rw [E.out], ?_⟩
        iterate 12 (refine Below.setCell ?_ (by exact Nat.le_refl _) _)
        exact hB
      · have E : Hid (pv (pktOf s.data.toList) = .agg #[.int .i64 1, .int .i64 (lAt s.data.toList 12), .int .i64 0, .int .i64 (lAt s.data.toList 16), .int .i64 (wAt s.data.toList 24), .int .i64 (byt s.data.toList 8), .int .i64 (wAt s.data.toList 4), .int .i64 0, .int .i64 (wAt s.data.toList 26), .int .i64 0, .int .i64 0, .string ((s.extract 20 s.size).extract 8 (s.size - 20))]) := by
          show _ = _
          unfold pktOf pv
          rw [if_pos h1, ← z2, ext_twice, h8, if_neg (by omega), if_neg (by omega)]
        rw [h1]
        go_wp2_with (first
          | (go_at_call 38; refine (partBytes_any _ _).mono ?_; rintro e w' ⟨rfl, rfl⟩)
          | (go_at_call 54; refine (readPing_answers _ s _ _ _ _ _ _ _ _ _ h20 hs (twelve_new _ _ _ _ (by simp)) h8).mono ?_; rintro e w' ⟨rfl, tw, hst⟩; have t0 := (twelve_old _ _ _ _).step hst (by omega); have c0 := t0.cell; have f0 := t0.free; have c1 := tw.cell; have f1 := tw.free; have hB := (below_two _ _ _ _).trans (hst.below (B := w.heap.size) (by simp; omega) (by omega) (fun k e => by cases e)); clear tw t0 hst))
        refine bodyPost_ret (v := .agg #[.int .i64 1, .int .i64 (lAt s.data.toList 12), .int .i64 0, .int .i64 (lAt s.data.toList 16), .int .i64 (wAt s.data.toList 24), .int .i64 (byt s.data.toList 8), .int .i64 (wAt s.data.toList 4), .int .i64 0, .int .i64 (wAt s.data.toList 26), .int .i64 0, .int .i64 0, .string ((s.extract 20 s.size).extract 8 (s.size - 20))]) (by simp [results, Try.results23, go_sem, c0]) rfl ⟨by rw [E.out], ?_⟩
        iterate 12 (refine Below.setCell ?_ (by exact Nat.le_refl _) _)
        exact hB
    · have pn : partN 6 = 20 := rfl
      have h40 := ht h1
      have E : Hid (pv (pktOf s.data.toList) = .agg #[.int .i64 6, .int .i64 (lAt s.data.toList 12), .int .i64 (wAt s.data.toList 20), .int .i64 (lAt s.data.toList 16), .int .i64 (wAt s.data.toList 22), .int .i64 (byt s.data.toList 8), .int .i64 (wAt s.data.toList 4), .int .i64 (byt s.data.toList 33), .int .i64 (lAt s.data.toList 24), .int .i64 (lAt s.data.toList 28), .int .i64 (wAt s.data.toList 34), .string ((s.extract 20 s.size).extract 20 (s.size - 20))]) := by
        show _ = _
        unfold pktOf pv
        rw [if_neg (by omega), if_pos h1, ← z2, ext_twice]
      obtain ⟨b5, b6⟩ := byt_bd s.data.toList 33
      have ge13 : ∀ h, (((s.extract 20 s.size)[13]'h).toNat : Int) = byt s.data.toList 33 := fun h => get_ext s 13 h
      have iw33 : IntKind.i64.wrap (byt s.data.toList 33) = byt s.data.toList 33 := wrap_i64 _ (by omega) (by omega)
      have z6 : (13 : Int) < (s.size : Int) - 20 := by omega
      rw [h1]
      go_wp2_with (first
        | (go_at_call 38; refine (partBytes_any _ _).mono ?_; rintro e w' ⟨rfl, rfl⟩)
        | (go_at_call 49; refine (wAtPD_any s _ _ (by omega) hs (by omega) (by omega)).mono ?_; rintro e w' ⟨rfl, q, rfl⟩; simp only [Int.reduceToNat, Nat.reduceAdd])
        | (go_at_call 53; refine (lAtPD_any s _ _ (by omega) hs (by omega) (by omega)).mono ?_; rintro e w' ⟨rfl, q, rfl⟩; simp only [Int.reduceToNat, Nat.reduceAdd]))
      go_region_held3 (fun _ => True) (trivial) (first
        | (go_at_call 49; refine (wAtPD_any s _ _ (by omega) hs (by omega) (by omega)).mono ?_; rintro e w' ⟨rfl, q, rfl⟩; simp only [Int.reduceToNat, Nat.reduceAdd]))
      all_goals
        go_wp2_with fail
        exact bodyPost_ret (v := .agg #[.int .i64 6, .int .i64 (lAt s.data.toList 12), .int .i64 (wAt s.data.toList 20), .int .i64 (lAt s.data.toList 16), .int .i64 (wAt s.data.toList 22), .int .i64 (byt s.data.toList 8), .int .i64 (wAt s.data.toList 4), .int .i64 (byt s.data.toList 33), .int .i64 (lAt s.data.toList 24), .int .i64 (lAt s.data.toList 28), .int .i64 (wAt s.data.toList 34), .string ((s.extract 20 s.size).extract 20 (s.size - 20))]) (by simp [results, Try.results23, go_sem]) rfl ⟨by rw [E.out], below_two _ _ _ _⟩
    · have pn : partN 17 = 8 := rfl
      have E : Hid (pv (pktOf s.data.toList) = .agg #[.int .i64 17, .int .i64 (lAt s.data.toList 12), .int .i64 (wAt s.data.toList 20), .int .i64 (lAt s.data.toList 16), .int .i64 (wAt s.data.toList 22), .int .i64 (byt s.data.toList 8), .int .i64 (wAt s.data.toList 4), .int .i64 0, .int .i64 0, .int .i64 0, .int .i64 0, .string ((s.extract 20 s.size).extract 8 (s.size - 20))]) := by
        show _ = _
        unfold pktOf pv
        rw [if_neg (by omega), if_neg (by omega), ← z2, ext_twice, h1]
      rw [h1]
      go_wp2_with (first
        | (go_at_call 38; refine (partBytes_any _ _).mono ?_; rintro e w' ⟨rfl, rfl⟩)
        | (go_at_call 49; refine (wAtPD_any s _ _ (by omega) hs (by omega) (by omega)).mono ?_; rintro e w' ⟨rfl, q, rfl⟩; simp only [Int.reduceToNat, Nat.reduceAdd])
        | (go_at_call 53; refine (lAtPD_any s _ _ (by omega) hs (by omega) (by omega)).mono ?_; rintro e w' ⟨rfl, q, rfl⟩; simp only [Int.reduceToNat, Nat.reduceAdd]))
      exact bodyPost_ret (v := .agg #[.int .i64 17, .int .i64 (lAt s.data.toList 12), .int .i64 (wAt s.data.toList 20), .int .i64 (lAt s.data.toList 16), .int .i64 (wAt s.data.toList 22), .int .i64 (byt s.data.toList 8), .int .i64 (wAt s.data.toList 4), .int .i64 0, .int .i64 0, .int .i64 0, .int .i64 0, .string ((s.extract 20 s.size).extract 8 (s.size - 20))]) (by simp [results, Try.results23, go_sem]) rfl ⟨by rw [E.out], below_two _ _ _ _⟩

end Go.Proofs.Ythcedehppflcgab
