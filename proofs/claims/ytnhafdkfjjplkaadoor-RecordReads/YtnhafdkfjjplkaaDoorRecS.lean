/-
  The walk of RecordReads.
-/
import Derived.Test.YtnhafdkfjjplkaaDoorRecS0
import Derived.Test.YtnhafdkfjjplkaaDoorRecH5
import Derived.Test.YtnhafdkfjjplkaaDoorRecB3
import Derived.Test.YtnhafdkfjjplkaaDoorRecL
namespace Go.Proofs.YtnhafdkfjjplkaaDoor
open Go.ChangeShapes Go.WideShapes Go.ChangeAt Go.RowKit
set_option linter.unusedSimpArgs false
set_option linter.unusedVariables false

theorem EvAt.drew {w : World} {sl : Value} {es : List Ev} (h : EvAt w sl es) : EvAt w.drew sl es := h
theorem tab_drewS {w : World} (h : Tab w) : Tab w.drew := h
set_option maxRecDepth 10000 in
set_option maxHeartbeats 8000000 in
theorem recordReads_walk (s : ByteArray) (w : World) (hs : s.size ≤ 140737488351232) (hT : Tab w) : Calls Tryd.prog 4 #[.string s] w fun x w' => x = .returned (.bool true) ∧ Below w.heap.size w w' := by
  have hB := Below.refl w.heap.size w
  obtain ⟨l, rfl⟩ : ∃ l, s = txt l := ⟨s.data.toList, (txt_of s).symm⟩
  have hl : l.length ≤ 140737488351232 := by rw [← txt_size]; exact hs
  have C1 := fun (w : World) (hT : Tab w) => read_any l w hT hl
  have C2 := fun (w : World) => readLog_any l w hl
  unfold Reads at C1
  generalize (runM l.length l false []).1 = E at C1 C2
  generalize (runM l.length l false []).2 = es at C1 C2
  clear hs
  go_enter Tryd.func4, Tryd.ntmps4
  go_upto_region 3 with (first
    | (go_at_call 15; refine (C1 _ hT).mono ?_; rintro x w5 ⟨⟨v1, rfl, h1⟩, hb5⟩; replace hT := hT.below hb5; replace hB := hB.trans (hb5.mono hB.size))
    | (go_at_call 16; refine (C2 _).mono ?_; rintro x w5 ⟨⟨v2, rfl, h2⟩, hb5⟩; replace h1 := h1.below hb5; replace hT := hT.below hb5; replace hB := hB.trans (hb5.mono hB.size)))
  obtain ⟨n, hn⟩ : ∃ n, n = es.length := ⟨_, rfl⟩
  have HN : Hid (n = es.length) := hn
  obtain ⟨a1, c1, e1⟩ := h1.slice
  obtain ⟨a2, c2, e2⟩ := h2.slice
  rw [← hn] at e1 e2
  subst e1
  subst e2
  clear hn
  go_wp2
  go_loopw [30] (fun i W => ∃ j : Nat, j ≤ es.length ∧ i = .int .i64 (j : Int) ∧ EvAt W (.slice a1 n c1) es ∧ EvAt W (.slice a2 n c2) es ∧ Tab W ∧ Below w.heap.size w W) (fun i _ => n - (intOf i).toNat)
  case atStart => exact ⟨0, by omega, rfl, h1, h2, hT, hB⟩
  case round =>
    clear h1 h2 hT hB
    obtain ⟨j, hj, rfl, h1, h2, hT, hB⟩ := hrel
    by_cases hlj : j < es.length
    · have hjn : (j : Int) < (n : Int) := by have := HN.out; omega
      have hjw := ev_next hlj h1.len
      obtain ⟨e, he⟩ : ∃ e, es[j] = e := ⟨_, rfl⟩
      have I1 := fun w2 => h1.index j hlj w2
      have I2 := fun w2 => h2.index j hlj w2
      go_upto_region 8 with fail
      refine wp_region_noPanic ?_
      refine wp_region_held_drew (S := fun W => EvAt W (.slice a1 n c1) es ∧ EvAt W (.slice a2 n c2) es) (by kernel_rfl) ⟨h1, h2⟩ (fun _ => ?_)
      refine wpAnyH_take (i := 0) (v := .slice a1 n c1) rfl (by kernel_rfl) (by kernel_rfl) (by kernel_rfl) (fun _ _ _ h => h) (Or.inl ⟨by kernel_rfl, by intro w hS; go_simp⟩) ⟨h1, h2⟩ ?_
      simp only [Act.put, List.getElem_toArray, List.getElem_cons_succ, List.getElem_cons_zero, List.setIfInBounds_toArray, List.set_cons_zero, List.set_cons_succ]
      refine wpAnyH_take (i := 1) (v := .int .i64 (j : Int)) rfl (by kernel_rfl) (by kernel_rfl) (by kernel_rfl) (fun _ _ _ h => h) (Or.inl ⟨by kernel_rfl, by intro w hS; go_simp⟩) ⟨h1, h2⟩ ?_
      simp only [Act.put, List.getElem_toArray, List.getElem_cons_succ, List.getElem_cons_zero, List.setIfInBounds_toArray, List.set_cons_zero, List.set_cons_succ]
      refine wpAnyH_take (i := 2) (v := .pointer (some ⟨eb (.slice a1 n c1), eo (.slice a1 n c1) + 5 * j, none⟩)) rfl (by kernel_rfl) (by kernel_rfl) (by kernel_rfl) (fun _ _ _ h => h) (yields_indexG 22 (.tmp 33) (.tmp 34) rfl (by kernel_rfl) _ _ _ (by kernel_rfl) (by kernel_rfl) I1) ⟨h1, h2⟩ ?_
      simp only [Act.put, List.getElem_toArray, List.getElem_cons_succ, List.getElem_cons_zero, List.setIfInBounds_toArray, List.set_cons_zero, List.set_cons_succ]
      refine wpAnyH_take (i := 3) (v := .agg (ec e)) rfl (by kernel_rfl) (by kernel_rfl) (by kernel_rfl) (fun _ _ _ h => h) (yields_loadE (.tmp 35) rfl (by kernel_rfl) _ _ (by kernel_rfl) e (fun w h => h.1.at j hlj he)) ⟨h1, h2⟩ ?_
      simp only [Act.put, List.getElem_toArray, List.getElem_cons_succ, List.getElem_cons_zero, List.setIfInBounds_toArray, List.set_cons_zero, List.set_cons_succ]
      refine wpAnyH_take (i := 4) (v := .slice a2 n c2) rfl (by kernel_rfl) (by kernel_rfl) (by kernel_rfl) (fun _ _ _ h => h) (Or.inl ⟨by kernel_rfl, by intro w hS; go_simp⟩) ⟨h1, h2⟩ ?_
      simp only [Act.put, List.getElem_toArray, List.getElem_cons_succ, List.getElem_cons_zero, List.setIfInBounds_toArray, List.set_cons_zero, List.set_cons_succ]
      refine wpAnyH_take (i := 5) (v := .int .i64 (j : Int)) rfl (by kernel_rfl) (by kernel_rfl) (by kernel_rfl) (fun _ _ _ h => h) (Or.inl ⟨by kernel_rfl, by intro w hS; go_simp⟩) ⟨h1, h2⟩ ?_
      simp only [Act.put, List.getElem_toArray, List.getElem_cons_succ, List.getElem_cons_zero, List.setIfInBounds_toArray, List.set_cons_zero, List.set_cons_succ]
      refine wpAnyH_take (i := 6) (v := .pointer (some ⟨eb (.slice a2 n c2), eo (.slice a2 n c2) + 5 * j, none⟩)) rfl (by kernel_rfl) (by kernel_rfl) (by kernel_rfl) (fun _ _ _ h => h) (yields_indexG 22 (.tmp 37) (.tmp 38) rfl (by kernel_rfl) _ _ _ (by kernel_rfl) (by kernel_rfl) I2) ⟨h1, h2⟩ ?_
      simp only [Act.put, List.getElem_toArray, List.getElem_cons_succ, List.getElem_cons_zero, List.setIfInBounds_toArray, List.set_cons_zero, List.set_cons_succ]
      refine wpAnyH_take (i := 7) (v := .agg (ec e)) rfl (by kernel_rfl) (by kernel_rfl) (by kernel_rfl) (fun _ _ _ h => h) (yields_loadE (.tmp 39) rfl (by kernel_rfl) _ _ (by kernel_rfl) e (fun w h => h.2.at j hlj he)) ⟨h1, h2⟩ ?_
      simp only [Act.put, List.getElem_toArray, List.getElem_cons_succ, List.getElem_cons_zero, List.setIfInBounds_toArray, List.set_cons_zero, List.set_cons_succ]
      refine wpAnyH_take (i := 8) (v := .bool false) rfl (by kernel_rfl) (by kernel_rfl) (by kernel_rfl) (fun _ _ _ h => h) (yields_neE (.tmp 36) (.tmp 40) rfl (by kernel_rfl) e (by kernel_rfl) (by kernel_rfl)) ⟨h1, h2⟩ ?_
      simp only [Act.put, List.getElem_toArray, List.getElem_cons_succ, List.getElem_cons_zero, List.setIfInBounds_toArray, List.set_cons_zero, List.set_cons_succ]
      refine wpAnyH_done (by kernel_rfl) ?_ _
      refine NoPanic.normal ?_
      go_wp2
      go_roundw
      case rel => first | exact ⟨j + 1, by omega, by go_num, h1.drew, h2.drew, tab_drewS hT, below_drewE hB⟩ | ((repeat apply Exists.intro); exact ⟨⟨j + 1, by omega, by go_num, h1.drew, h2.drew, tab_drewS hT, below_drewE hB⟩, rfl⟩)
      case measure => (first | rw [hjw] | skip); exact ev_meas (HN.out.symm ▸ hlj)
    · have hjn : ¬ (j : Int) < (n : Int) := by have := HN.out; omega
      go_wp2_with (go_at_call 14; refine (tells_any _ hT).mono ?_; rintro x w5 ⟨rfl, hb5⟩; replace hB := hB.trans (hb5.mono hB.size))
      go_ret
      exact ⟨rfl, hB⟩
end Go.Proofs.YtnhafdkfjjplkaaDoor
