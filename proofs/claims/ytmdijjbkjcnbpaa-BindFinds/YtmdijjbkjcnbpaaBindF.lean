/-
  Find and Back.
-/
import Derived.Test.YtmdijjbkjcnbpaaBindW
namespace Go.Proofs.Ytmdijjbkjcnbpaa
open Go.ChangeShapes Go.WideShapes Go.ChangeAt Go.RowKit
set_option linter.unusedSimpArgs false
set_option linter.unusedVariables false

/-- what Find and Back hand back. -/
def foundS : Option Mp → Value
  | some m => .tuple #[.agg (mc m), .bool true]
  | none => .tuple #[.agg (mc noM), .bool false]
theorem meas_next {n j : Nat} (h : j < n) : n - ((j : Int) + 1).toNat < n - ((j : Int)).toNat := by omega
theorem take_next {ms : List Mp} {j : Nat} {m : Mp} (hlj : j < ms.length) (hm : ms[j] = m) : ms.take (j + 1) = ms.take j ++ [m] := by
  rw [List.take_succ_eq_append_getElem hlj, hm]
theorem find_step {q : Mp → Bool} {ms : List Mp} {j : Nat} {m : Mp} (hno : (ms.take j).find? q = none) (hlj : j < ms.length) (hm : ms[j] = m) (hq : q m = false) : (ms.take (j + 1)).find? q = none := by
  rw [take_next hlj hm, List.find?_append, hno]; simp [List.find?, hq]
theorem find_at {q : Mp → Bool} {ms : List Mp} {j : Nat} {m : Mp} (hno : (ms.take j).find? q = none) (hlj : j < ms.length) (hm : ms[j] = m) (hq : q m = true) : ms.find? q = some m := by
  have e : ms = ms.take j ++ m :: ms.drop (j + 1) := by rw [← hm, List.getElem_cons_drop, List.take_append_drop]
  rw [e, List.find?_append, hno]; simp [List.find?, hq]
set_option maxRecDepth 10000 in
set_option maxHeartbeats 4000000 in
theorem find_any (f : Nat → Int) (g : Nat → Bool) (h : Nat → Int) (sl : Value) (ms : List Mp) (x y z : Int) (w : World) (hM : MapsAt w sl ms) :
    Calls Try.prog 7 #[.agg (tc f g h sl), .int .i64 x, .int .i64 y, .int .i64 z] w fun e w' => e = .returned (foundS (ms.find? (inS x y z))) ∧ Below w.heap.size w w' := by
  have hB := Below.refl w.heap.size w
  have hM0 := hM
  obtain ⟨a0, cap, hsl, -⟩ := hM0
  obtain ⟨n, hn⟩ : ∃ n, n = ms.length := ⟨_, rfl⟩
  rw [← hn] at hsl
  subst hsl
  have HN : Hid (n = ms.length) := hn
  clear hn
  have hlt := hM.lt
  go_enter Try.func7, Try.ntmps7
  go_wp2_with (first
    | (refine wpList_boxR 30 rfl _ rfl _ rfl ?_; intro bT w1 lT RT hb1; replace lT := Nat.le_trans hB.size lT; replace hB := hB.trans (hb1.mono hB.size))
    | (refine wpList_allocR 32 rfl rfl _ map_zero ?_; intro b8 w2 l8 R8 hb2; replace l8 := Nat.le_trans hB.size l8; replace RT := RT.below hb2; have n8 := RT.ne (Nat.le_refl _); clear n8; replace hB := hB.trans (hb2.mono hB.size); have cM : w2.cell? ⟨bT, 29, none⟩ = some (.slice a0 n cap) := RT.cell 29))
  go_loopw [15] (fun i W => ∃ j : Nat, j ≤ ms.length ∧ i = .int .i64 j ∧ (ms.take j).find? (inS x y z) = none ∧ Below w.heap.size w W ∧ Row 32 W b8 (mc noM)) (fun i _ => n - (intOf i).toNat)
  case atStart => exact ⟨0, by omega, rfl, by simp, hB, R8⟩
  case round =>
    clear hB R8 cM RT hb1
    obtain ⟨j, hj, rfl, hno, hB, R8⟩ := hrel
    by_cases hlj : j < ms.length
    · have hjn : (j : Int) < (n : Int) := by have := HN.out; omega
      have hjw := wrap_next hlj hM.len
      obtain ⟨m, hm⟩ : ∃ m, ms[j] = m := ⟨_, rfl⟩
      have hMW := hM.keep hB hlt
      have hrg := hMW.at j hlj hm
      have C := fun w => innerOf_any m w
      by_cases hin : inS x y z m = true
      · have HF : Hid (ms.find? (inS x y z) = some m) := find_at hno hlj hm hin
        go_wp2_with (first
          | (refine wpList_indexM rfl (.tmp 13) (.tmp 15) rfl (.slice a0 n cap) ms hMW rfl j rfl hlj ?_)
          | (refine wpList_load_mid rfl 32 _ rfl _ _ rfl (mcl m) _ hrg Try.underlying32 rfl (mcl_info m) ?_; rw [mcl_mc])
          | (refine wpList_allocR 32 rfl rfl _ map_zero ?_; intro b11 w3 l11 R11 hb3; have n8 := R8.ne l11; replace l11 := Nat.le_trans hB.size l11; replace R8 := R8.below hb3; replace hB := hB.trans (hb3.mono hB.size))
          | (refine wpList_storeR 32 rfl _ _ rfl b11 rfl (mc m) rfl _ R11 rfl (mc_info m) (mc_one m) ?_; intro w4 R11 t4; replace R8 := t4.row R8 n8; replace hB := t4.below _ _ l11 hB)
          | (refine wpList_storeR 32 rfl _ _ rfl b8 rfl (mc m) rfl _ R8 rfl (mc_info m) (mc_one m) ?_; intro w6 R8 t6; replace hB := t6.below _ _ l8 hB)
          | (refine wpList_loadR 32 _ rfl rfl _ rfl (mc m) R11 _ Try.underlying32 rfl (mc_info m) ?_)
          | (go_at_call 27; go_fit (C _); rintro e w5 ⟨rfl, hb5⟩; replace R8 := R8.below hb5; replace R11 := R11.below hb5; replace hB := hB.trans (hb5.mono hB.size))
          | (refine wpList_eqS 58 _ _ rfl rfl (ic3 m.1 m.2.1 m.2.2.1) (ic3 x y z) rfl rfl Try.eqGuardType58 _ _ (eq_inner _ _ _ _ _ _ _) hin ?_))
        ((try simp only [Exit.inBlock, Exit.then]); refine bodyPost_ret (results_row2 rfl _ _ _ _ rfl R8 _ Try.underlying32 rfl (mc_info _)) rfl ⟨?_, hB⟩)
        rw [HF.out]; rfl
      · have hin' : inS x y z m = false := by simpa using hin
        have HF : Hid ((ms.take (j + 1)).find? (inS x y z) = none) := find_step hno hlj hm hin'
        clear hin
        go_wp2_with (first
          | (refine wpList_indexM rfl (.tmp 13) (.tmp 15) rfl (.slice a0 n cap) ms hMW rfl j rfl hlj ?_)
          | (refine wpList_load_mid rfl 32 _ rfl _ _ rfl (mcl m) _ hrg Try.underlying32 rfl (mcl_info m) ?_; rw [mcl_mc])
          | (refine wpList_allocR 32 rfl rfl _ map_zero ?_; intro b11 w3 l11 R11 hb3; have n8 := R8.ne l11; replace l11 := Nat.le_trans hB.size l11; replace R8 := R8.below hb3; replace hB := hB.trans (hb3.mono hB.size))
          | (refine wpList_storeR 32 rfl _ _ rfl b11 rfl (mc m) rfl _ R11 rfl (mc_info m) (mc_one m) ?_; intro w4 R11 t4; replace R8 := t4.row R8 n8; replace hB := t4.below _ _ l11 hB)
          | (refine wpList_loadR 32 _ rfl rfl _ rfl (mc m) R11 _ Try.underlying32 rfl (mc_info m) ?_)
          | (go_at_call 27; go_fit (C _); rintro e w5 ⟨rfl, hb5⟩; replace R8 := R8.below hb5; replace R11 := R11.below hb5; replace hB := hB.trans (hb5.mono hB.size))
          | (refine wpList_eqS 58 _ _ rfl rfl (ic3 m.1 m.2.1 m.2.2.1) (ic3 x y z) rfl rfl Try.eqGuardType58 _ _ (eq_inner _ _ _ _ _ _ _) hin' ?_))
        go_roundw
        case rel => exact ⟨j + 1, by omega, by go_num, HF.out, hB, R8⟩
        case measure => rw [hjw]; exact meas_next (HN.out.symm ▸ hlj)
    · have e : j = ms.length := by omega
      have HF : Hid (ms.find? (inS x y z) = none) := by
        show _ = _
        rw [e, List.take_length] at hno; exact hno
      have hjn : (n : Int) ≤ (j : Int) := by have := HN.out; omega
      clear e hno hj hlj
      go_wp2_with (first
        | (refine wpList_storeR 32 rfl _ _ rfl b8 rfl (mc noM) rfl _ R8 rfl (mc_info noM) (mc_one noM) ?_; intro w6 R8 t6; replace hB := t6.below _ _ l8 hB))
      ((try simp only [Exit.inBlock, Exit.then]); refine bodyPost_ret (results_row2 rfl _ _ _ _ rfl R8 _ Try.underlying32 rfl (mc_info _)) rfl ⟨?_, hB⟩)
      rw [HF.out]; rfl
set_option maxRecDepth 10000 in
set_option maxHeartbeats 4000000 in
theorem back_any (f : Nat → Int) (g : Nat → Bool) (h : Nat → Int) (sl : Value) (ms : List Mp) (x y z : Int) (w : World) (hM : MapsAt w sl ms) :
    Calls Try.prog 10 #[.agg (tc f g h sl), .int .i64 x, .int .i64 y, .int .i64 z] w fun e w' => e = .returned (foundS (ms.find? (outS x y z))) ∧ Below w.heap.size w w' := by
  have hB := Below.refl w.heap.size w
  have hM0 := hM
  obtain ⟨a0, cap, hsl, -⟩ := hM0
  obtain ⟨n, hn⟩ : ∃ n, n = ms.length := ⟨_, rfl⟩
  rw [← hn] at hsl
  subst hsl
  have HN : Hid (n = ms.length) := hn
  clear hn
  have hlt := hM.lt
  go_enter Try.func10, Try.ntmps10
  go_wp2_with (first
    | (refine wpList_boxR 30 rfl _ rfl _ rfl ?_; intro bT w1 lT RT hb1; replace lT := Nat.le_trans hB.size lT; replace hB := hB.trans (hb1.mono hB.size))
    | (refine wpList_allocR 32 rfl rfl _ map_zero ?_; intro b8 w2 l8 R8 hb2; replace l8 := Nat.le_trans hB.size l8; replace RT := RT.below hb2; have n8 := RT.ne (Nat.le_refl _); clear n8; replace hB := hB.trans (hb2.mono hB.size); have cM : w2.cell? ⟨bT, 29, none⟩ = some (.slice a0 n cap) := RT.cell 29))
  go_loopw [15] (fun i W => ∃ j : Nat, j ≤ ms.length ∧ i = .int .i64 j ∧ (ms.take j).find? (outS x y z) = none ∧ Below w.heap.size w W ∧ Row 32 W b8 (mc noM)) (fun i _ => n - (intOf i).toNat)
  case atStart => exact ⟨0, by omega, rfl, by simp, hB, R8⟩
  case round =>
    clear hB R8 cM RT hb1
    obtain ⟨j, hj, rfl, hno, hB, R8⟩ := hrel
    by_cases hlj : j < ms.length
    · have hjn : (j : Int) < (n : Int) := by have := HN.out; omega
      have hjw := wrap_next hlj hM.len
      obtain ⟨m, hm⟩ : ∃ m, ms[j] = m := ⟨_, rfl⟩
      have hMW := hM.keep hB hlt
      have hrg := hMW.at j hlj hm
      have C := fun w => outerOf_any m w
      by_cases hin : outS x y z m = true
      · have HF : Hid (ms.find? (outS x y z) = some m) := find_at hno hlj hm hin
        go_wp2_with (first
          | (refine wpList_indexM rfl (.tmp 13) (.tmp 15) rfl (.slice a0 n cap) ms hMW rfl j rfl hlj ?_)
          | (refine wpList_load_mid rfl 32 _ rfl _ _ rfl (mcl m) _ hrg Try.underlying32 rfl (mcl_info m) ?_; rw [mcl_mc])
          | (refine wpList_allocR 32 rfl rfl _ map_zero ?_; intro b11 w3 l11 R11 hb3; have n8 := R8.ne l11; replace l11 := Nat.le_trans hB.size l11; replace R8 := R8.below hb3; replace hB := hB.trans (hb3.mono hB.size))
          | (refine wpList_storeR 32 rfl _ _ rfl b11 rfl (mc m) rfl _ R11 rfl (mc_info m) (mc_one m) ?_; intro w4 R11 t4; replace R8 := t4.row R8 n8; replace hB := t4.below _ _ l11 hB)
          | (refine wpList_storeR 32 rfl _ _ rfl b8 rfl (mc m) rfl _ R8 rfl (mc_info m) (mc_one m) ?_; intro w6 R8 t6; replace hB := t6.below _ _ l8 hB)
          | (refine wpList_loadR 32 _ rfl rfl _ rfl (mc m) R11 _ Try.underlying32 rfl (mc_info m) ?_)
          | (go_at_call 28; go_fit (C _); rintro e w5 ⟨rfl, hb5⟩; replace R8 := R8.below hb5; replace R11 := R11.below hb5; replace hB := hB.trans (hb5.mono hB.size))
          | (refine wpList_eqS 61 _ _ rfl rfl (ic3 m.1 m.2.2.2.1 m.2.2.2.2) (ic3 x y z) rfl rfl Try.eqGuardType61 _ _ (eq_outer _ _ _ _ _ _ _) hin ?_))
        ((try simp only [Exit.inBlock, Exit.then]); refine bodyPost_ret (results_row2 rfl _ _ _ _ rfl R8 _ Try.underlying32 rfl (mc_info _)) rfl ⟨?_, hB⟩)
        rw [HF.out]; rfl
      · have hin' : outS x y z m = false := by simpa using hin
        have HF : Hid ((ms.take (j + 1)).find? (outS x y z) = none) := find_step hno hlj hm hin'
        clear hin
        go_wp2_with (first
          | (refine wpList_indexM rfl (.tmp 13) (.tmp 15) rfl (.slice a0 n cap) ms hMW rfl j rfl hlj ?_)
          | (refine wpList_load_mid rfl 32 _ rfl _ _ rfl (mcl m) _ hrg Try.underlying32 rfl (mcl_info m) ?_; rw [mcl_mc])
          | (refine wpList_allocR 32 rfl rfl _ map_zero ?_; intro b11 w3 l11 R11 hb3; have n8 := R8.ne l11; replace l11 := Nat.le_trans hB.size l11; replace R8 := R8.below hb3; replace hB := hB.trans (hb3.mono hB.size))
          | (refine wpList_storeR 32 rfl _ _ rfl b11 rfl (mc m) rfl _ R11 rfl (mc_info m) (mc_one m) ?_; intro w4 R11 t4; replace R8 := t4.row R8 n8; replace hB := t4.below _ _ l11 hB)
          | (refine wpList_loadR 32 _ rfl rfl _ rfl (mc m) R11 _ Try.underlying32 rfl (mc_info m) ?_)
          | (go_at_call 28; go_fit (C _); rintro e w5 ⟨rfl, hb5⟩; replace R8 := R8.below hb5; replace R11 := R11.below hb5; replace hB := hB.trans (hb5.mono hB.size))
          | (refine wpList_eqS 61 _ _ rfl rfl (ic3 m.1 m.2.2.2.1 m.2.2.2.2) (ic3 x y z) rfl rfl Try.eqGuardType61 _ _ (eq_outer _ _ _ _ _ _ _) hin' ?_))
        go_roundw
        case rel => exact ⟨j + 1, by omega, by go_num, HF.out, hB, R8⟩
        case measure => rw [hjw]; exact meas_next (HN.out.symm ▸ hlj)
    · have e : j = ms.length := by omega
      have HF : Hid (ms.find? (outS x y z) = none) := by
        show _ = _
        rw [e, List.take_length] at hno; exact hno
      have hjn : (n : Int) ≤ (j : Int) := by have := HN.out; omega
      clear e hno hj hlj
      go_wp2_with (first
        | (refine wpList_storeR 32 rfl _ _ rfl b8 rfl (mc noM) rfl _ R8 rfl (mc_info noM) (mc_one noM) ?_; intro w6 R8 t6; replace hB := t6.below _ _ l8 hB))
      ((try simp only [Exit.inBlock, Exit.then]); refine bodyPost_ret (results_row2 rfl _ _ _ _ rfl R8 _ Try.underlying32 rfl (mc_info _)) rfl ⟨?_, hB⟩)
      rw [HF.out]; rfl
end Go.Proofs.Ytmdijjbkjcnbpaa
