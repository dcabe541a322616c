/-
  How many maps a subscriber has.
-/
import Derived.Test.YtmdijjbkjcnbpaaBindF
namespace Go.Proofs.Ytmdijjbkjcnbpaa
open Go.ChangeShapes Go.WideShapes Go.ChangeAt Go.RowKit
set_option linter.unusedSimpArgs false
set_option linter.unusedVariables false

theorem wrap_next2 {j n : Nat} (h : j ≤ n) (hn : n ≤ 140737488355328) : wrap64 ((j : Int) + 1) = (j : Int) + 1 := by unfold wrap64; omega
theorem cntM_step {ms : List Mp} {j : Nat} {m : Mp} {s : Int} (hlj : j < ms.length) (hm : ms[j] = m) : cntM (ms.take (j + 1)) s = cntM (ms.take j) s + if m.2.1 = s then 1 else 0 := by
  unfold cntM; rw [take_next hlj hm, List.filter_append, List.length_append]
  by_cases e : m.2.1 = s
  · simp [e]
  · simp [e]
theorem cntM_le (ms : List Mp) (s : Int) (j : Nat) : cntM (ms.take j) s ≤ ms.length := by
  unfold cntM; exact Nat.le_trans (List.length_filter_le _ _) (by rw [List.length_take]; omega)
set_option maxRecDepth 10000 in
set_option maxHeartbeats 4000000 in
theorem countMaps_any (f : Nat → Int) (g : Nat → Bool) (h : Nat → Int) (sl : Value) (ms : List Mp) (s : Int) (w : World) (hM : MapsAt w sl ms) :
    Calls Try.prog 40 #[.agg (tc f g h sl), .int .i64 s] w fun e w' => e = .returned (.int .i64 ((cntM ms s : Nat) : Int)) ∧ Below w.heap.size w w' := by
  have hB := Below.refl w.heap.size w
  have hM0 := hM
  obtain ⟨a0, cap, hsl, -⟩ := hM0
  obtain ⟨n, hn⟩ : ∃ n, n = ms.length := ⟨_, rfl⟩
  rw [← hn] at hsl
  subst hsl
  have HN : Hid (n = ms.length) := hn
  clear hn
  have hlt := hM.lt
  have hml := hM.len
  go_enter Try.func40, Try.ntmps40
  go_wp2_with (refine wpList_boxR 30 rfl _ rfl _ rfl ?_; intro bT w1 lT RT hb1; replace lT := Nat.le_trans hB.size lT; replace hB := hB.trans (hb1.mono hB.size); have cM : w1.cell? ⟨bT, 29, none⟩ = some (.slice a0 n cap) := RT.cell 29)
  clear hml
  go_loopw [5, 11] (fun c i W => ∃ j : Nat, j ≤ ms.length ∧ i = .int .i64 j ∧ c = .int .i64 ((cntM (ms.take j) s : Nat) : Int) ∧ Below w.heap.size w W) (fun _ i _ => n - (intOf i).toNat)
  case atStart => exact ⟨0, by omega, rfl, by simp [cntM], hB⟩
  case round =>
    clear hB cM RT hb1
    obtain ⟨j, hj, rfl, rfl, hB⟩ := hrel
    by_cases hlj : j < ms.length
    · have hjn : (j : Int) < (n : Int) := by have := HN.out; omega
      have hjw := wrap_next hlj hM.len
      obtain ⟨m, hm⟩ : ∃ m, ms[j] = m := ⟨_, rfl⟩
      have hMW := hM.keep hB hlt
      have hrg := hMW.at j hlj hm
      have hcs := cntM_step (s := s) hlj hm
      have hcw : wrap64 (((cntM (ms.take j) s : Nat) : Int) + 1) = ((cntM (ms.take j) s : Nat) : Int) + 1 := wrap_next2 (cntM_le ms s j) hM.len
      by_cases hs : m.2.1 = s
      · rw [if_pos hs] at hcs
        have HC : Hid (cntM (ms.take (j + 1)) s = cntM (ms.take j) s + 1) := hcs
        have dz : (m.2.1 == s) = true := by simpa using hs
        clear hcs hs
        generalize cntM (ms.take j) s = c at *
        go_wp2_with (first
          | (refine wpList_indexM rfl (.tmp 9) (.tmp 11) rfl (.slice a0 n cap) ms hMW rfl j rfl hlj ?_)
          | (refine wpList_load_mid rfl 32 _ rfl _ _ rfl (mcl m) _ hrg Try.underlying32 rfl (mcl_info m) ?_; rw [mcl_mc])
          | (refine wpList_allocR 32 rfl rfl _ map_zero ?_; intro b7 w3 l7 R7 hb3; replace l7 := Nat.le_trans hB.size l7; replace hB := hB.trans (hb3.mono hB.size))
          | (refine wpList_storeR 32 rfl _ _ rfl b7 rfl (mc m) rfl _ R7 rfl (mc_info m) (mc_one m) ?_; intro w4 R7 t4; have c1 := m1 R7; replace hB := t4.below _ _ l7 hB))
        go_roundw
        case rel =>
          first
            | exact ⟨j + 1, by omega, by go_num, by rw [HC.out]; go_num, hB⟩
            | ((repeat apply Exists.intro); exact ⟨⟨j + 1, by omega, by go_num, by rw [HC.out]; go_num, hB⟩, rfl⟩)
        case measure => rw [hjw]; exact meas_next (HN.out.symm ▸ hlj)
      · rw [if_neg hs] at hcs
        have HC : Hid (cntM (ms.take (j + 1)) s = cntM (ms.take j) s) := hcs
        have dz : (m.2.1 == s) = false := by simpa using hs
        clear hcs hs
        generalize cntM (ms.take j) s = c at *
        go_wp2_with (first
          | (refine wpList_indexM rfl (.tmp 9) (.tmp 11) rfl (.slice a0 n cap) ms hMW rfl j rfl hlj ?_)
          | (refine wpList_load_mid rfl 32 _ rfl _ _ rfl (mcl m) _ hrg Try.underlying32 rfl (mcl_info m) ?_; rw [mcl_mc])
          | (refine wpList_allocR 32 rfl rfl _ map_zero ?_; intro b7 w3 l7 R7 hb3; replace l7 := Nat.le_trans hB.size l7; replace hB := hB.trans (hb3.mono hB.size))
          | (refine wpList_storeR 32 rfl _ _ rfl b7 rfl (mc m) rfl _ R7 rfl (mc_info m) (mc_one m) ?_; intro w4 R7 t4; have c1 := m1 R7; replace hB := t4.below _ _ l7 hB))
        go_roundw
        case rel =>
          first
            | exact ⟨j + 1, by omega, by go_num, by rw [HC.out], hB⟩
            | ((repeat apply Exists.intro); exact ⟨⟨j + 1, by omega, by go_num, by rw [HC.out], hB⟩, rfl⟩)
        case measure => rw [hjw]; exact meas_next (HN.out.symm ▸ hlj)
    · have e : j = ms.length := by omega
      have hjn : (n : Int) ≤ (j : Int) := by have := HN.out; omega
      have HC : Hid (cntM (ms.take j) s = cntM ms s) := by show _ = _; rw [e, List.take_length]
      clear e hj hlj
      generalize cntM (ms.take j) s = c at *
      go_wp2
      go_ret
      exact ⟨by rw [← HC.out]; rfl, hB⟩
end Go.Proofs.Ytmdijjbkjcnbpaa
