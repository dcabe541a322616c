/-
  Of what BindCloses, BindOpens stands on: part 19.
-/
import Derived.Test.YtmdijjbkjcnbpaaBindCO12
namespace Go.Proofs.Ytmdijjbkjcnbpaa
open Go.ChangeShapes Go.WideShapes Go.ChangeAt Go.RowKit
set_option linter.unusedSimpArgs false
set_option linter.unusedVariables false

theorem wrap_next2 {j n : Nat} (h : j ≤ n) (hn : n ≤ 140737488355328) : wrap64 ((j : Int) + 1) = (j : Int) + 1 := by unfold wrap64; omega
theorem cntM_step {ms : List Mp} {j : Nat} {m : Mp} {s : Int} (hlj : j < ms.length) (hm : ms[j] = m) : cntM (ms.take (j + 1)) s = cntM (ms.take j) s + if m.2.1 = s then 1 else 0 := by
  unfold cntM; rw [take_next hlj hm, List.filter_append, List.length_append]
  by_cases e : m.2.1 = s
  · simp [e]
  · simp [e]
theorem cntM_le (ms : List Mp) (s : Int) (j : Nat) : cntM (ms.take j) s ≤ ms.length := by
  unfold cntM; exact Nat.le_trans (List.length_filter_le _ _) (by rw [List.length_take]; omega)
set_option maxRecDepth 10000 in
set_option maxHeartbeats 4000000 in
theorem countMaps_any (f : Nat → Int) (g : Nat → Bool) (h : Nat → Int) (sl : Value) (ms : List Mp) (s : Int) (w : World) (hM : MapsAt w sl ms) :
    Calls Try.prog 40 #[.agg (tc f g h sl), .int .i64 s] w fun e w' => e = .returned (.int .i64 ((cntM ms s : Nat) : Int)) ∧ Below w.heap.size w w' := by
  have hB := Below.refl w.heap.size w
  have hM0 := hM
  obtain ⟨a0, cap, hsl, -⟩ := hM0
  obtain ⟨n, hn⟩ : ∃ n, n = ms.length := ⟨_, rfl⟩
  rw [← hn] at hsl
  subst hsl
  have HN : Hid (n = ms.length) := hn
  clear hn
  have hlt := hM.lt
  have hml := hM.len
  go_enter Try.func40, Try.ntmps40
  go_wp2_with (refine wpList_boxR 30 rfl _ rfl _ rfl ?_; intro bT w1 lT RT hb1; replace lT := Nat.le_trans hB.size lT; replace hB := hB.trans (hb1.mono hB.size); have cM : w1.cell? ⟨bT, 29, none⟩ = some (.slice a0 n cap) := RT.cell 29)
  clear hml
  go_loopw [5, 11] (fun c i W => ∃ j : Nat, j ≤ ms.length ∧ i = .int .i64 j ∧ c = .int .i64 ((cntM (ms.take j) s : Nat) : Int) ∧ Below w.heap.size w W) (fun _ i _ => n - (intOf i).toNat)
  case atStart => exact ⟨0, by omega, rfl, by simp [cntM], hB⟩
  case round =>
    clear hB cM RT hb1
    obtain ⟨j, hj, rfl, rfl, hB⟩ := hrel
    by_cases hlj : j < ms.length
    · have hjn : (j : Int) < (n : Int) := by have := HN.out; omega
      have hjw := wrap_next hlj hM.len
      obtain ⟨m, hm⟩ : ∃ m, ms[j] = m := ⟨_, rfl⟩
      have hMW := hM.keep hB hlt
      have hrg := hMW.at j hlj hm
      have hcs := cntM_step (s := s) hlj hm
      have hcw : wrap64 (((cntM (ms.take j) s : Nat) : Int) + 1) = ((cntM (ms.take j) s : Nat) : Int) + 1 := wrap_next2 (cntM_le ms s j) hM.len
      by_cases hs : m.2.1 = s
      · rw [if_pos hs] at hcs
        have HC : Hid (cntM (ms.take (j + 1)) s = cntM (ms.take j) s + 1) := hcs
        have dz : (m.2.1 == s) = true := by simpa using hs
        clear hcs hs
        generalize cntM (ms.take j) s = c at *
        go_wp2_with (first
          | (refine wpList_indexM rfl (.tmp 9) (.tmp 11) rfl (.slice a0 n cap) ms hMW rfl j rfl hlj ?_)
          | (refine wpList_load_mid rfl 32 _ rfl _ _ rfl (mcl m) _ hrg Try.underlying32 rfl (mcl_info m) ?_; rw [mcl_mc])
          | (refine wpList_allocR 32 rfl rfl _ map_zero ?_; intro b7 w3 l7 R7 hb3; replace l7 := Nat.le_trans hB.size l7; replace hB := hB.trans (hb3.mono hB.size))
          | (refine wpList_storeR 32 rfl _ _ rfl b7 rfl (mc m) rfl _ R7 rfl (mc_info m) (mc_one m) ?_; intro w4 R7 t4; have c1 := m1 R7; replace hB := t4.below _ _ l7 hB))
        go_roundw
        case rel =>
          first
            | exact ⟨j + 1, by omega, by go_num, by rw [HC.out]; go_num, hB⟩
            | ((repeat apply Exists.intro); exact ⟨⟨j + 1, by omega, by go_num, by rw [HC.out]; go_num, hB⟩, rfl⟩)
        case measure => rw [hjw]; exact meas_next (HN.out.symm ▸ hlj)
      · rw [if_neg hs] at hcs
        have HC : Hid (cntM (ms.take (j + 1)) s = cntM (ms.take j) s) := hcs
        have dz : (m.2.1 == s) = false := by simpa using hs
        clear hcs hs
        generalize cntM (ms.take j) s = c at *
        go_wp2_with (first
          | (refine wpList_indexM rfl (.tmp 9) (.tmp 11) rfl (.slice a0 n cap) ms hMW rfl j rfl hlj ?_)
          | (refine wpList_load_mid rfl 32 _ rfl _ _ rfl (mcl m) _ hrg Try.underlying32 rfl (mcl_info m) ?_; rw [mcl_mc])
          | (refine wpList_allocR 32 rfl rfl _ map_zero ?_; intro b7 w3 l7 R7 hb3; replace l7 := Nat.le_trans hB.size l7; replace hB := hB.trans (hb3.mono hB.size))
          | (refine wpList_storeR 32 rfl _ _ rfl b7 rfl (mc m) rfl _ R7 rfl (mc_info m) (mc_one m) ?_; intro w4 R7 t4; have c1 := m1 R7; replace hB := t4.below _ _ l7 hB))
        go_roundw
        case rel =>
          first
            | exact ⟨j + 1, by omega, by go_num, by rw [HC.out], hB⟩
            | ((repeat apply Exists.intro); exact ⟨⟨j + 1, by omega, by go_num, by rw [HC.out], hB⟩, rfl⟩)
        case measure => rw [hjw]; exact meas_next (HN.out.symm ▸ hlj)
    · have e : j = ms.length := by omega
      have hjn : (n : Int) ≤ (j : Int) := by have := HN.out; omega
      have HC : Hid (cntM (ms.take j) s = cntM ms s) := by show _ = _; rw [e, List.take_length]
      clear e hj hlj
      generalize cntM (ms.take j) s = c at *
      go_wp2
      go_ret
      exact ⟨by rw [← HC.out]; rfl, hB⟩
end Go.Proofs.Ytmdijjbkjcnbpaa

namespace Go.Proofs.Ytmdijjbkjcnbpaa
open Go.ChangeShapes Go.WideShapes Go.ChangeAt Go.RowKit
set_option linter.unusedSimpArgs false
set_option linter.unusedVariables false

/-- no subscriber among the first N has more than it may. -/
def fewTo (f : Nat → Int) (ms : List Mp) (N : Nat) : Prop := ∀ s : Nat, s < N → (blocksL f s).length ≤ 2 ∧ cntM ms s ≤ 12
theorem fewTo_step {f : Nat → Int} {ms : List Mp} {N : Nat} (h : fewTo f ms N) (h1 : (blocksL f N).length ≤ 2) (h2 : cntM ms N ≤ 12) : fewTo f ms (N + 1) := fun s hs => by
  by_cases e : s = N
  · subst e; exact ⟨h1, h2⟩
  · exact h s (by omega)
set_option maxRecDepth 10000 in
set_option maxHeartbeats 4000000 in
theorem within_any (f : Nat → Int) (g : Nat → Bool) (h : Nat → Int) (sl : Value) (ms : List Mp) (w : World) (hM : MapsAt w sl ms) :
    Calls Try.prog 34 #[.agg (tc f g h sl)] w fun e w' => ∃ r : Bool, (r = true ↔ fewTo f ms 8) ∧ e = .returned (.bool r) ∧ Below w.heap.size w w' := by
  have hB := Below.refl w.heap.size w
  have hM0 := hM
  obtain ⟨a0, cap, hsl, -⟩ := hM0
  obtain ⟨n, hn⟩ : ∃ n, n = ms.length := ⟨_, rfl⟩
  rw [← hn] at hsl
  subst hsl
  have HN : Hid (n = ms.length) := hn
  clear hn
  have hlt := hM.lt
  have C2 := fun s w hM => countMaps_any f g h (.slice a0 n cap) ms s w hM
  go_enter Try.func34, Try.ntmps34
  go_wp2_with (refine wpList_boxR 30 rfl _ rfl _ rfl ?_; intro bT w1 lT RT hb1; replace lT := Nat.le_trans hB.size lT; replace hB := hB.trans (hb1.mono hB.size))
  go_loopw [4] (fun i W => ∃ j : Nat, j ≤ 8 ∧ i = .int .i64 j ∧ fewTo f ms j ∧ Below w.heap.size w W ∧ Row 30 W bT (tc f g h (.slice a0 n cap))) (fun i _ => 8 - (intOf i).toNat)
  case atStart => exact ⟨0, by omega, rfl, fun s hs => absurd hs (by omega), hB, RT⟩
  case round =>
    clear hB RT hb1
    obtain ⟨j, hj, rfl, hfew, hB, RT⟩ := hrel
    by_cases hlj : j < 8
    · have C1 := fun w => blocksOf_any f g h (.slice a0 n cap) (j : Int) (by omega) (by omega) w
      obtain ⟨l, hl⟩ : ∃ l, l = (blocksL f (j : Int)).length := ⟨_, rfl⟩
      obtain ⟨c, hc⟩ : ∃ c, c = cntM ms (j : Int) := ⟨_, rfl⟩
      rw [← hl] at C1
      have C2j := C2 (j : Int)
      rw [← hc] at C2j
      by_cases h2 : l ≤ 2
      · have h2' : decide ((2 : Int) < (l : Int)) = false := decide_eq_false (by omega)
        by_cases h12 : c ≤ 12
        · have h12' : decide ((12 : Int) < (c : Int)) = false := decide_eq_false (by omega)
          have HF : Hid (fewTo f ms (j + 1)) := fewTo_step hfew (hl ▸ h2) (hc ▸ h12)
          clear hl hc h2 h12
          go_wp2_with (first
            | (refine wpList_loadR 30 _ rfl ?_ _ rfl (tc f g h (.slice a0 n cap)) RT _ Try.underlying30 rfl (tc_info _ _ _ _) ?_; · rfl)
            | (go_at_call 48; go_fit (C1 _); rintro e w5 ⟨v, rfl, ⟨a1, c1, rfl⟩, hP, hb5⟩; clear hP; replace RT := RT.below hb5; replace hB := hB.trans (hb5.mono hB.size))
            | (go_at_call 40; refine (C2j _ (hM.keep hB hlt)).mono ?_; rintro e w5 ⟨rfl, hb5⟩; replace RT := RT.below hb5; replace hB := hB.trans (hb5.mono hB.size)))
          go_roundw
          case rel => exact ⟨j + 1, by omega, by go_num, HF.out, hB, RT⟩
          case measure => simp [intOf]; omega
        · have h12' : (12 : Int) < (c : Int) := by omega
          have HF : Hid ((false = true) ↔ fewTo f ms 8) := by
            show _ ↔ _
            exact ⟨fun h => by simp at h, fun h => by have := (h j hlj).2; omega⟩
          clear hl hc h2 h12
          go_wp2_with (first
            | (refine wpList_loadR 30 _ rfl ?_ _ rfl (tc f g h (.slice a0 n cap)) RT _ Try.underlying30 rfl (tc_info _ _ _ _) ?_; · rfl)
            | (go_at_call 48; go_fit (C1 _); rintro e w5 ⟨v, rfl, ⟨a1, c1, rfl⟩, hP, hb5⟩; clear hP; replace RT := RT.below hb5; replace hB := hB.trans (hb5.mono hB.size))
            | (go_at_call 40; refine (C2j _ (hM.keep hB hlt)).mono ?_; rintro e w5 ⟨rfl, hb5⟩; replace RT := RT.below hb5; replace hB := hB.trans (hb5.mono hB.size)))
          go_ret
          first | exact ⟨_, by first | exact HF.out | simpa using HF.out, rfl, hB⟩ | exact Or.inr ⟨by simpa using HF.out, rfl, hB⟩ | exact Or.inl ⟨by simpa using HF.out, rfl, hB⟩
      · have h2' : (2 : Int) < (l : Int) := by omega
        have HF : Hid ((false = true) ↔ fewTo f ms 8) := by
          show _ ↔ _
          exact ⟨fun h => by simp at h, fun h => by have := (h j hlj).1; omega⟩
        clear hl hc h2
        go_wp2_with (first
          | (refine wpList_loadR 30 _ rfl ?_ _ rfl (tc f g h (.slice a0 n cap)) RT _ Try.underlying30 rfl (tc_info _ _ _ _) ?_; · rfl)
          | (go_at_call 48; go_fit (C1 _); rintro e w5 ⟨v, rfl, ⟨a1, c1, rfl⟩, hP, hb5⟩; clear hP; replace RT := RT.below hb5; replace hB := hB.trans (hb5.mono hB.size)))
        go_ret
        first | exact ⟨_, by first | exact HF.out | simpa using HF.out, rfl, hB⟩ | exact Or.inr ⟨by simpa using HF.out, rfl, hB⟩ | exact Or.inl ⟨by simpa using HF.out, rfl, hB⟩
    · have e : j = 8 := by omega
      subst e
      have HF : Hid ((true = true) ↔ fewTo f ms 8) := by
        show _ ↔ _
        exact ⟨fun _ => hfew, fun _ => rfl⟩
      clear hj hlj hfew
      go_wp2
      go_ret
      first | exact ⟨_, by first | exact HF.out | simpa using HF.out, rfl, hB⟩ | exact Or.inr ⟨by simpa using HF.out, rfl, hB⟩ | exact Or.inl ⟨by simpa using HF.out, rfl, hB⟩
end Go.Proofs.Ytmdijjbkjcnbpaa
