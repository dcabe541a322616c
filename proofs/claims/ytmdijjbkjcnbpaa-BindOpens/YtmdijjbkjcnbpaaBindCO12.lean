/-
  Of what BindCloses, BindOpens stands on: part 12.
-/
import Derived.Test.YtmdijjbkjcnbpaaBindCO11
namespace Go.Proofs.Ytmdijjbkjcnbpaa
open Go.ChangeShapes Go.WideShapes Go.ChangeAt Go.RowKit
set_option linter.unusedSimpArgs false
set_option linter.unusedVariables false

/-- what Find and Back hand back. -/
def foundS : Option Mp → Value
  | some m => .tuple #[.agg (mc m), .bool true]
  | none => .tuple #[.agg (mc noM), .bool false]
theorem meas_next {n j : Nat} (h : j < n) : n - ((j : Int) + 1).toNat < n - ((j : Int)).toNat := by omega
theorem take_next {ms : List Mp} {j : Nat} {m : Mp} (hlj : j < ms.length) (hm : ms[j] = m) : ms.take (j + 1) = ms.take j ++ [m] := by
  rw [List.take_succ_eq_append_getElem hlj, hm]
theorem find_step {q : Mp → Bool} {ms : List Mp} {j : Nat} {m : Mp} (hno : (ms.take j).find? q = none) (hlj : j < ms.length) (hm : ms[j] = m) (hq : q m = false) : (ms.take (j + 1)).find? q = none := by
  rw [take_next hlj hm, List.find?_append, hno]; simp [List.find?, hq]
theorem find_at {q : Mp → Bool} {ms : List Mp} {j : Nat} {m : Mp} (hno : (ms.take j).find? q = none) (hlj : j < ms.length) (hm : ms[j] = m) (hq : q m = true) : ms.find? q = some m := by
  have e : ms = ms.take j ++ m :: ms.drop (j + 1) := by rw [← hm, List.getElem_cons_drop, List.take_append_drop]
  rw [e, List.find?_append, hno]; simp [List.find?, hq]
set_option maxRecDepth 10000 in
set_option maxHeartbeats 4000000 in
theorem find_any (f : Nat → Int) (g : Nat → Bool) (h : Nat → Int) (sl : Value) (ms : List Mp) (x y z : Int) (w : World) (hM : MapsAt w sl ms) :
    Calls Try.prog 7 #[.agg (tc f g h sl), .int .i64 x, .int .i64 y, .int .i64 z] w fun e w' => e = .returned (foundS (ms.find? (inS x y z))) ∧ Below w.heap.size w w' := by
  have hB := Below.refl w.heap.size w
  have hM0 := hM
  obtain ⟨a0, cap, hsl, -⟩ := hM0
  obtain ⟨n, hn⟩ : ∃ n, n = ms.length := ⟨_, rfl⟩
  rw [← hn] at hsl
  subst hsl
  have HN : Hid (n = ms.length) := hn
  clear hn
  have hlt := hM.lt
  go_enter Try.func7, Try.ntmps7
  go_wp2_with (first
    | (refine wpList_boxR 30 rfl _ rfl _ rfl ?_; intro bT w1 lT RT hb1; replace lT := Nat.le_trans hB.size lT; replace hB := hB.trans (hb1.mono hB.size))
    | (refine wpList_allocR 32 rfl rfl _ map_zero ?_; intro b8 w2 l8 R8 hb2; replace l8 := Nat.le_trans hB.size l8; replace RT := RT.below hb2; have n8 := RT.ne (Nat.le_refl _); clear n8; replace hB := hB.trans (hb2.mono hB.size); have cM : w2.cell? ⟨bT, 29, none⟩ = some (.slice a0 n cap) := RT.cell 29))
  go_loopw [15] (fun i W => ∃ j : Nat, j ≤ ms.length ∧ i = .int .i64 j ∧ (ms.take j).find? (inS x y z) = none ∧ Below w.heap.size w W ∧ Row 32 W b8 (mc noM)) (fun i _ => n - (intOf i).toNat)
  case atStart => exact ⟨0, by omega, rfl, by simp, hB, R8⟩
  case round =>
    clear hB R8 cM RT hb1
    obtain ⟨j, hj, rfl, hno, hB, R8⟩ := hrel
    by_cases hlj : j < ms.length
    · have hjn : (j : Int) < (n : Int) := by have := HN.out; omega
      have hjw := wrap_next hlj hM.len
      obtain ⟨m, hm⟩ : ∃ m, ms[j] = m := ⟨_, rfl⟩
      have hMW := hM.keep hB hlt
      have hrg := hMW.at j hlj hm
      have C := fun w => innerOf_any m w
      by_cases hin : inS x y z m = true
      · have HF : Hid (ms.find? (inS x y z) = some m) := find_at hno hlj hm hin
        go_wp2_with (first
          | (refine wpList_indexM rfl (.tmp 13) (.tmp 15) rfl (.slice a0 n cap) ms hMW rfl j rfl hlj ?_)
          | (refine wpList_load_mid rfl 32 _ rfl _ _ rfl (mcl m) _ hrg Try.underlying32 rfl (mcl_info m) ?_; rw [mcl_mc])
          | (refine wpList_allocR 32 rfl rfl _ map_zero ?_; intro b11 w3 l11 R11 hb3; have n8 := R8.ne l11; replace l11 := Nat.le_trans hB.size l11; replace R8 := R8.below hb3; replace hB := hB.trans (hb3.mono hB.size))
          | (refine wpList_storeR 32 rfl _ _ rfl b11 rfl (mc m) rfl _ R11 rfl (mc_info m) (mc_one m) ?_; intro w4 R11 t4; replace R8 := t4.row R8 n8; replace hB := t4.below _ _ l11 hB)
          | (refine wpList_storeR 32 rfl _ _ rfl b8 rfl (mc m) rfl _ R8 rfl (mc_info m) (mc_one m) ?_; intro w6 R8 t6; replace hB := t6.below _ _ l8 hB)
          | (refine wpList_loadR 32 _ rfl rfl _ rfl (mc m) R11 _ Try.underlying32 rfl (mc_info m) ?_)
          | (go_at_call 27; go_fit (C _); rintro e w5 ⟨rfl, hb5⟩; replace R8 := R8.below hb5; replace R11 := R11.below hb5; replace hB := hB.trans (hb5.mono hB.size))
          | (refine wpList_eqS 58 _ _ rfl rfl (ic3 m.1 m.2.1 m.2.2.1) (ic3 x y z) rfl rfl Try.eqGuardType58 _ _ (eq_inner _ _ _ _ _ _ _) hin ?_))
        ((try simp only [Exit.inBlock, Exit.then]); refine bodyPost_ret (results_row2 rfl _ _ _ _ rfl R8 _ Try.underlying32 rfl (mc_info _)) rfl ⟨?_, hB⟩)
        rw [HF.out]; rfl
      · have hin' : inS x y z m = false := by simpa using hin
        have HF : Hid ((ms.take (j + 1)).find? (inS x y z) = none) := find_step hno hlj hm hin'
        clear hin
        go_wp2_with (first
          | (refine wpList_indexM rfl (.tmp 13) (.tmp 15) rfl (.slice a0 n cap) ms hMW rfl j rfl hlj ?_)
          | (refine wpList_load_mid rfl 32 _ rfl _ _ rfl (mcl m) _ hrg Try.underlying32 rfl (mcl_info m) ?_; rw [mcl_mc])
          | (refine wpList_allocR 32 rfl rfl _ map_zero ?_; intro b11 w3 l11 R11 hb3; have n8 := R8.ne l11; replace l11 := Nat.le_trans hB.size l11; replace R8 := R8.below hb3; replace hB := hB.trans (hb3.mono hB.size))
          | (refine wpList_storeR 32 rfl _ _ rfl b11 rfl (mc m) rfl _ R11 rfl (mc_info m) (mc_one m) ?_; intro w4 R11 t4; replace R8 := t4.row R8 n8; replace hB := t4.below _ _ l11 hB)
          | (refine wpList_loadR 32 _ rfl rfl _ rfl (mc m) R11 _ Try.underlying32 rfl (mc_info m) ?_)
          | (go_at_call 27; go_fit (C _); rintro e w5 ⟨rfl, hb5⟩; replace R8 := R8.below hb5; replace R11 := R11.below hb5; replace hB := hB.trans (hb5.mono hB.size))
          | (refine wpList_eqS 58 _ _ rfl rfl (ic3 m.1 m.2.1 m.2.2.1) (ic3 x y z) rfl rfl Try.eqGuardType58 _ _ (eq_inner _ _ _ _ _ _ _) hin' ?_))
        go_roundw
        case rel => exact ⟨j + 1, by omega, by go_num, HF.out, hB, R8⟩
        case measure => rw [hjw]; exact meas_next (HN.out.symm ▸ hlj)
    · have e : j = ms.length := by omega
      have HF : Hid (ms.find? (inS x y z) = none) := by
        show _ = _
        rw [e, List.take_length] at hno; exact hno
      have hjn : (n : Int) ≤ (j : Int) := by have := HN.out; omega
      clear e hno hj hlj
      go_wp2_with (first
        | (refine wpList_storeR 32 rfl _ _ rfl b8 rfl (mc noM) rfl _ R8 rfl (mc_info noM) (mc_one noM) ?_; intro w6 R8 t6; replace hB := t6.below _ _ l8 hB))
      ((try simp only [Exit.inBlock, Exit.then]); refine bodyPost_ret (results_row2 rfl _ _ _ _ rfl R8 _ Try.underlying32 rfl (mc_info _)) rfl ⟨?_, hB⟩)
      rw [HF.out]; rfl
set_option maxRecDepth 10000 in
set_option maxHeartbeats 4000000 in
theorem back_any (f : Nat → Int) (g : Nat → Bool) (h : Nat → Int) (sl : Value) (ms : List Mp) (x y z : Int) (w : World) (hM : MapsAt w sl ms) :
    Calls Try.prog 10 #[.agg (tc f g h sl), .int .i64 x, .int .i64 y, .int .i64 z] w fun e w' => e = .returned (foundS (ms.find? (outS x y z))) ∧ Below w.heap.size w w' := by
  have hB := Below.refl w.heap.size w
  have hM0 := hM
  obtain ⟨a0, cap, hsl, -⟩ := hM0
  obtain ⟨n, hn⟩ : ∃ n, n = ms.length := ⟨_, rfl⟩
  rw [← hn] at hsl
  subst hsl
  have HN : Hid (n = ms.length) := hn
  clear hn
  have hlt := hM.lt
  go_enter Try.func10, Try.ntmps10
  go_wp2_with (first
    | (refine wpList_boxR 30 rfl _ rfl _ rfl ?_; intro bT w1 lT RT hb1; replace lT := Nat.le_trans hB.size lT; replace hB := hB.trans (hb1.mono hB.size))
    | (refine wpList_allocR 32 rfl rfl _ map_zero ?_; intro b8 w2 l8 R8 hb2; replace l8 := Nat.le_trans hB.size l8; replace RT := RT.below hb2; have n8 := RT.ne (Nat.le_refl _); clear n8; replace hB := hB.trans (hb2.mono hB.size); have cM : w2.cell? ⟨bT, 29, none⟩ = some (.slice a0 n cap) := RT.cell 29))
  go_loopw [15] (fun i W => ∃ j : Nat, j ≤ ms.length ∧ i = .int .i64 j ∧ (ms.take j).find? (outS x y z) = none ∧ Below w.heap.size w W ∧ Row 32 W b8 (mc noM)) (fun i _ => n - (intOf i).toNat)
  case atStart => exact ⟨0, by omega, rfl, by simp, hB, R8⟩
  case round =>
    clear hB R8 cM RT hb1
    obtain ⟨j, hj, rfl, hno, hB, R8⟩ := hrel
    by_cases hlj : j < ms.length
    · have hjn : (j : Int) < (n : Int) := by have := HN.out; omega
      have hjw := wrap_next hlj hM.len
      obtain ⟨m, hm⟩ : ∃ m, ms[j] = m := ⟨_, rfl⟩
      have hMW := hM.keep hB hlt
      have hrg := hMW.at j hlj hm
      have C := fun w => outerOf_any m w
      by_cases hin : outS x y z m = true
      · have HF : Hid (ms.find? (outS x y z) = some m) := find_at hno hlj hm hin
        go_wp2_with (first
          | (refine wpList_indexM rfl (.tmp 13) (.tmp 15) rfl (.slice a0 n cap) ms hMW rfl j rfl hlj ?_)
          | (refine wpList_load_mid rfl 32 _ rfl _ _ rfl (mcl m) _ hrg Try.underlying32 rfl (mcl_info m) ?_; rw [mcl_mc])
          | (refine wpList_allocR 32 rfl rfl _ map_zero ?_; intro b11 w3 l11 R11 hb3; have n8 := R8.ne l11; replace l11 := Nat.le_trans hB.size l11; replace R8 := R8.below hb3; replace hB := hB.trans (hb3.mono hB.size))
          | (refine wpList_storeR 32 rfl _ _ rfl b11 rfl (mc m) rfl _ R11 rfl (mc_info m) (mc_one m) ?_; intro w4 R11 t4; replace R8 := t4.row R8 n8; replace hB := t4.below _ _ l11 hB)
          | (refine wpList_storeR 32 rfl _ _ rfl b8 rfl (mc m) rfl _ R8 rfl (mc_info m) (mc_one m) ?_; intro w6 R8 t6; replace hB := t6.below _ _ l8 hB)
          | (refine wpList_loadR 32 _ rfl rfl _ rfl (mc m) R11 _ Try.underlying32 rfl (mc_info m) ?_)
          | (go_at_call 28; go_fit (C _); rintro e w5 ⟨rfl, hb5⟩; replace R8 := R8.below hb5; replace R11 := R11.below hb5; replace hB := hB.trans (hb5.mono hB.size))
          | (refine wpList_eqS 61 _ _ rfl rfl (ic3 m.1 m.2.2.2.1 m.2.2.2.2) (ic3 x y z) rfl rfl Try.eqGuardType61 _ _ (eq_outer _ _ _ _ _ _ _) hin ?_))
        ((try simp only [Exit.inBlock, Exit.then]); refine bodyPost_ret (results_row2 rfl _ _ _ _ rfl R8 _ Try.underlying32 rfl (mc_info _)) rfl ⟨?_, hB⟩)
        rw [HF.out]; rfl
      · have hin' : outS x y z m = false := by simpa using hin
        have HF : Hid ((ms.take (j + 1)).find? (outS x y z) = none) := find_step hno hlj hm hin'
        clear hin
        go_wp2_with (first
          | (refine wpList_indexM rfl (.tmp 13) (.tmp 15) rfl (.slice a0 n cap) ms hMW rfl j rfl hlj ?_)
          | (refine wpList_load_mid rfl 32 _ rfl _ _ rfl (mcl m) _ hrg Try.underlying32 rfl (mcl_info m) ?_; rw [mcl_mc])
          | (refine wpList_allocR 32 rfl rfl _ map_zero ?_; intro b11 w3 l11 R11 hb3; have n8 := R8.ne l11; replace l11 := Nat.le_trans hB.size l11; replace R8 := R8.below hb3; replace hB := hB.trans (hb3.mono hB.size))
          | (refine wpList_storeR 32 rfl _ _ rfl b11 rfl (mc m) rfl _ R11 rfl (mc_info m) (mc_one m) ?_; intro w4 R11 t4; replace R8 := t4.row R8 n8; replace hB := t4.below _ _ l11 hB)
          | (refine wpList_loadR 32 _ rfl rfl _ rfl (mc m) R11 _ Try.underlying32 rfl (mc_info m) ?_)
          | (go_at_call 28; go_fit (C _); rintro e w5 ⟨rfl, hb5⟩; replace R8 := R8.below hb5; replace R11 := R11.below hb5; replace hB := hB.trans (hb5.mono hB.size))
          | (refine wpList_eqS 61 _ _ rfl rfl (ic3 m.1 m.2.2.2.1 m.2.2.2.2) (ic3 x y z) rfl rfl Try.eqGuardType61 _ _ (eq_outer _ _ _ _ _ _ _) hin' ?_))
        go_roundw
        case rel => exact ⟨j + 1, by omega, by go_num, HF.out, hB, R8⟩
        case measure => rw [hjw]; exact meas_next (HN.out.symm ▸ hlj)
    · have e : j = ms.length := by omega
      have HF : Hid (ms.find? (outS x y z) = none) := by
        show _ = _
        rw [e, List.take_length] at hno; exact hno
      have hjn : (n : Int) ≤ (j : Int) := by have := HN.out; omega
      clear e hno hj hlj
      go_wp2_with (first
        | (refine wpList_storeR 32 rfl _ _ rfl b8 rfl (mc noM) rfl _ R8 rfl (mc_info noM) (mc_one noM) ?_; intro w6 R8 t6; replace hB := t6.below _ _ l8 hB))
      ((try simp only [Exit.inBlock, Exit.then]); refine bodyPost_ret (results_row2 rfl _ _ _ _ rfl R8 _ Try.underlying32 rfl (mc_info _)) rfl ⟨?_, hB⟩)
      rw [HF.out]; rfl
end Go.Proofs.Ytmdijjbkjcnbpaa

namespace Go.Proofs.Ytmdijjbkjcnbpaa
open Go.ChangeShapes Go.WideShapes Go.ChangeAt Go.RowKit
set_option linter.unusedSimpArgs false
set_option linter.unusedVariables false

/-- the owners of a table; those of an address. -/
def ocl (f : Nat → Int) : List Value := [.int .i64 (f 0), .int .i64 (f 1), .int .i64 (f 2), .int .i64 (f 3), .int .i64 (f 4), .int .i64 (f 5), .int .i64 (f 6), .int .i64 (f 7), .int .i64 (f 8), .int .i64 (f 9), .int .i64 (f 10), .int .i64 (f 11), .int .i64 (f 12), .int .i64 (f 13), .int .i64 (f 14), .int .i64 (f 15), .int .i64 (f 16), .int .i64 (f 17)]
def oc (f : Nat → Int) : Array Value := #[.int .i64 (f 0), .int .i64 (f 1), .int .i64 (f 2), .int .i64 (f 3), .int .i64 (f 4), .int .i64 (f 5), .int .i64 (f 6), .int .i64 (f 7), .int .i64 (f 8), .int .i64 (f 9), .int .i64 (f 10), .int .i64 (f 11), .int .i64 (f 12), .int .i64 (f 13), .int .i64 (f 14), .int .i64 (f 15), .int .i64 (f 16), .int .i64 (f 17)]
def r6 (h : Nat → Int) : Array Value := #[.int .i64 (h 0), .int .i64 (h 1), .int .i64 (h 2), .int .i64 (h 3), .int .i64 (h 4), .int .i64 (h 5)]
theorem ocl_oc (f : Nat → Int) : (ocl f).toArray = oc f := rfl
theorem oc_info (f : Nat → Int) : (Try.prog.info? 23).map (·.size) = some (ocl f).length := by kernel_rfl
theorem r6_info (h : Nat → Int) : (Try.prog.info? 22).map (·.size) = some (r6 h).size := by kernel_rfl
theorem r6_one (h : Nat → Int) : (r6 h).all (·.oneCell') = true := by kernel_rfl
theorem r6_zero (w : World) : (zeroValue 22).run Try.prog w = .ok (.agg (r6 (fun _ => 0))) w := by kernel_rfl
theorem index_r6 (h : Nat → Int) (k : Nat) (hk : k < 6) (w : World) : (Instr.index 22 (.agg (r6 h)) (.int .i64 (k : Int))).run Try.prog w = .ok (.int .i64 (h k)) w := index6 h k hk w
theorem index_oc (f : Nat → Int) (a : Nat) (ha : a < 3) (w : World) : (Instr.index 23 (.agg (oc f)) (.int .i64 (a : Int))).run Try.prog w = .ok (.agg (r6 (rowF f a))) w := by
  rcases (show a = 0 ∨ a = 1 ∨ a = 2 by omega) with rfl | rfl | rfl <;> kernel_rfl
theorem ocl_at (f : Nat → Int) (j : Nat) (v : Value) (h : (ocl f)[j]? = some v) : j < 18 ∧ v = .int .i64 (f j) := by
  have hj : j < 18 := (List.getElem?_eq_some_iff.1 h).1
  refine ⟨hj, ?_⟩
  rcases (show j = 0 ∨ j = 1 ∨ j = 2 ∨ j = 3 ∨ j = 4 ∨ j = 5 ∨ j = 6 ∨ j = 7 ∨ j = 8 ∨ j = 9 ∨ j = 10 ∨ j = 11 ∨ j = 12 ∨ j = 13 ∨ j = 14 ∨ j = 15 ∨ j = 16 ∨ j = 17 by omega) with rfl | rfl | rfl | rfl | rfl | rfl | rfl | rfl | rfl | rfl | rfl | rfl | rfl | rfl | rfl | rfl | rfl | rfl <;> exact (Option.some.inj h).symm
theorem Row.owners {w : World} {b : Nat} {f : Nat → Int} {g : Nat → Bool} {h : Nat → Int} {sl : Value} (R : Row 30 w b (tc f g h sl)) : w.rangeAt b 0 (ocl f) := R.range (fun j v hv => by
  obtain ⟨hj, rfl⟩ := ocl_at f j v hv
  rw [Nat.zero_add]; exact tc_own f g h sl j hj)
/-- a list of places of the call's own. -/
def plc (l : List Nat) : List Value := l.flatMap fun n => [.int .i64 ((n / 6 : Nat) : Int), .int .i64 ((n % 6 : Nat) : Int)]
def Plc (w : World) (base : Nat) (v : Value) (l : List Nat) : Prop := w.ownsRow base 67 2 v l.length (plc l)
theorem Plc.nil (w : World) (base : Nat) : Plc w base (.slice none 0 0) [] := by unfold Plc; exact World.ownsRow_nil w base 67 2
theorem Plc.slice {w : World} {base : Nat} {v : Value} {l : List Nat} (h : Plc w base v l) : ∃ a c, v = .slice a l.length c := by
  rcases h.2 with ⟨e, n0⟩ | ⟨b, cap, cur, hv, _⟩
  · exact ⟨none, 0, by rw [e, n0]⟩
  · exact ⟨_, _, hv⟩
theorem grown_below {w w0 w' : World} {base : Nat} {e : TypeId} {size n : Nat} {xs : List Value} {v : Value} (h : w.ownsRow base e size v n xs) (B : Below base w0 w) (hle : base ≤ w.heap.size) (hg : w.grownBy w' v.ownBlock) : Below base w0 w' := by
  refine ⟨hg.os.trans B.os, hg.tape.trans B.tape, hg.output.trans B.output, Nat.le_trans B.size hg.size, fun k hk => ?_⟩
  refine (hg.block k (by omega) ?_).trans (B.block k hk)
  intro e
  have := h.lt k e.symm
  omega
theorem info_place : (Try.prog.info? 67).map (fun i => (i.zero, i.size, i.bytes)) = some (some (.agg #[.int .i64 0, .int .i64 0]), 2, 16) := by kernel_rfl
/-- the first N of the blocks that a subscriber has. -/
def blocksTo (f : Nat → Int) (s : Int) (N : Nat) : List Nat := (List.range N).filter fun n => f n == s + 1
theorem blocksTo_step (f : Nat → Int) (s : Int) (N : Nat) : blocksTo f s (N + 1) = blocksTo f s N ++ if (f N == s + 1) = true then [N] else [] := by
  unfold blocksTo; rw [List.range_succ, List.filter_append]; simp only [List.filter]; split <;> simp_all
theorem blocksTo_len (f : Nat → Int) (s : Int) (N : Nat) : (blocksTo f s N).length ≤ N := by
  have := List.length_filter_le (fun n => f n == s + 1) (List.range N); simpa [blocksTo] using this
theorem two_new (w : World) (x y : Value) (t : TypeId) : ∀ j u, [x, y][j]? = some u → (w.alloc (.cells #[x, y] t)).cell? ((⟨w.heap.size, 0, none⟩ : Addr).add j) = some u := by
  intro j u hu
  match j, hu with
  | 0, hu =>
    have e : x = u := by simpa using hu
    subst e
    rw [Addr.add_lit, Nat.zero_add]
    exact World.cell?_alloc_mark w #[x, y] t (0, 0) 0
  | 1, hu =>
    have e : y = u := by simpa using hu
    subst e
    rw [Addr.add_lit, Nat.zero_add]
    exact World.cell?_alloc_mark w #[x, y] t (0, 0) 1
theorem own_below {w w' : World} {base : Nat} {v : Value} {l : List Nat} (h : Plc w base v l) (hb : Below w.heap.size w w') : Plc w' base v l := by
  refine ⟨h.1, ?_⟩
  rcases h.2 with e | ⟨b, cap, cur, hv, hbb, hh, r⟩
  · exact .inl e
  · exact .inr ⟨b, cap, cur, hv, hbb, (hb.block b (Array.getElem?_eq_some_iff.1 hh).1).trans hh, r⟩
theorem own_turned {w w' : World} {base b7 : Nat} {v : Value} {l : List Nat} (h : Plc w base v l) (t : Turned b7 w w') (hn : v.ownBlock ≠ some b7) : Plc w' base v l := by
  refine ⟨h.1, ?_⟩
  rcases h.2 with e | ⟨b, cap, cur, hv, hbb, hh, r⟩
  · exact .inl e
  · exact .inr ⟨b, cap, cur, hv, hbb, (t.other b (fun e => hn (by rw [hv, e]; rfl))).trans hh, r⟩
theorem own_ne7 {w : World} {base b7 : Nat} {v : Value} {l : List Nat} {cs : Array Value} (h : Plc w base v l) (R : Row 22 w b7 cs) : v.ownBlock ≠ some b7 := by
  rcases h.2 with ⟨e, _⟩ | ⟨b, cap, cur, hv, hbb, hh, r⟩
  · rw [e]; simp [Value.ownBlock]
  · rw [hv]
    intro e
    have e' : b = b7 := Option.some.inj e
    subst e'
    unfold Row at R
    rw [hh] at R
    simp at R
set_option maxRecDepth 10000 in
set_option maxHeartbeats 4000000 in
theorem blocksOf_any (f : Nat → Int) (g : Nat → Bool) (h : Nat → Int) (sl : Value) (s : Int) (hs : 0 ≤ s) (hs8 : s < 8) (w : World) :
    Calls Try.prog 48 #[.agg (tc f g h sl), .int .i64 s] w fun e w' => ∃ v, e = .returned v ∧ (∃ a c, v = .slice a (blocksL f s).length c) ∧ Plc w' w.heap.size v (blocksL f s) ∧ Below w.heap.size w w' := by
  obtain ⟨i0, hi, hz0, hz1, hz2⟩ := info_parts info_place
  have hB := Below.refl w.heap.size w
  have hsw : wrap64 (s + 1) = s + 1 := by unfold wrap64; omega
  go_enter Try.func48, Try.ntmps48
  go_wp2_with (first
    | (refine wpList_boxR 30 rfl _ rfl _ rfl ?_; intro bT w1 lT RT hb1; replace lT := Nat.le_trans hB.size lT; replace hB := hB.trans (hb1.mono hB.size); have hrg := RT.owners)
    | (refine wpList_load_mid rfl 23 _ rfl _ _ rfl (ocl f) _ hrg Try.underlying23 rfl (oc_info f) ?_; rw [ocl_oc]))
  go_loopw [5, 13] (fun v i W => ∃ (a : Nat) (ao : Option Addr) (cv : Nat), a ≤ 3 ∧ i = .int .i64 a ∧ v = .slice ao (blocksTo f s (6 * a)).length cv ∧ Plc W w.heap.size v (blocksTo f s (6 * a)) ∧ Below w.heap.size w W) (fun _ i _ => 3 - (intOf i).toNat)
  case atStart => exact ⟨0, none, 0, by omega, rfl, rfl, Plc.nil _ _, hB⟩
  case round =>
    clear hB RT hrg hb1
    obtain ⟨a, ao, cv, ha, rfl, rfl, hown, hB⟩ := hrel
    by_cases hlt : a < 3
    · have ia := index_oc f a hlt
      have hsize0 := hB.size
      go_wp2_with (first
        | (refine wpList_allocR 22 rfl rfl _ r6_zero ?_; intro b7 w3 l7 R7 hb3; replace l7 := Nat.le_trans hB.size l7; replace hown : Plc w3 _ _ _ := own_below hown hb3; replace hB := hB.trans (hb3.mono hB.size); have n7 := own_ne7 hown R7)
        | (refine wpList_storeR 22 rfl _ _ rfl b7 rfl (r6 (rowF f a)) rfl _ R7 rfl (r6_info _) (r6_one _) ?_; intro w4 R7 t4; replace hown : Plc w4 _ _ _ := own_turned hown t4 n7; replace hB := t4.below _ _ l7 hB)
        | (refine wpList_loadR 22 _ rfl rfl _ rfl (r6 (rowF f a)) R7 _ Try.underlying22 rfl (r6_info _) ?_))
      go_loopw [5, 18] (fun v i W => ∃ (k : Nat) (ao : Option Addr) (cv : Nat), k ≤ 6 ∧ i = .int .i64 k ∧ v = .slice ao (blocksTo f s (6 * a + k)).length cv ∧ Plc W w.heap.size v (blocksTo f s (6 * a + k)) ∧ Below w.heap.size w W) (fun _ i _ => 6 - (intOf i).toNat)
      case atStart => exact ⟨0, ao, cv, by omega, rfl, rfl, hown, hB⟩
      case round =>
        clear hB hown R7 n7
        obtain ⟨k, ao, cv, hk, rfl, rfl, hown, hB⟩ := hrel
        have hsize := hB.size
        have hfl := blocksTo_len f s (6 * a + k)
        by_cases hlk : k < 6
        · have ik := index_r6 (rowF f a) k hlk
          by_cases hz : f (6 * a + k) = s + 1
          · have dz : (rowF f a k == s + 1) = true := by simpa [rowF] using hz
            have HS : Hid (blocksTo f s (6 * a + (k + 1)) = blocksTo f s (6 * a + k) ++ [6 * a + k]) := by show _ = _; rw [show 6 * a + (k + 1) = 6 * a + k + 1 from rfl, blocksTo_step, if_pos (by simpa using hz)]
            clear hz
            go_wp2_with (at_builtin; refine wpList_append_own _ rfl _ _ 90 rfl w.heap.size 67 i0 (.agg #[.int .i64 0, .int .i64 0]) 2 16 Try.underlying90 hi hz0 hz1 hz2 rfl (by decide) _ _ _ rfl (hown.alloc _) ⟨wr.heap.size, 0, none⟩ 1 1 [.int .i64 (a : Int), .int .i64 (k : Int)] rfl rfl (two_new _ _ _ _) (fun x hx => by simp at hx; rcases hx with rfl | rfl <;> rfl) (by unfold maxLen; omega) (by omega) (by simp; omega) ?_; intro v' w3 hown' hgrow3 hnil3)
            go_roundw
            case rel =>
              have hi' : Plc w3 w.heap.size v' (blocksTo f s (6 * a + (k + 1))) := by
                unfold Plc plc at *
                rw [HS.out, List.length_append, List.flatMap_append]
                have e1 : (6 * a + k) / 6 = a := by omega
                have e2 : (6 * a + k) % 6 = k := by omega
                simp only [List.flatMap_cons, List.flatMap_nil, e1, e2, List.append_nil]
                exact hown'
              obtain ⟨a3, c3, e3⟩ := hi'.slice
              have hb3 : Below w.heap.size w w3 := grown_below (hown.alloc _) (hB.alloc hB.size _) (by simp; omega) hgrow3
              first
                | exact ⟨k + 1, a3, c3, by omega, by go_num, e3, hi', hb3⟩
                | ((repeat apply Exists.intro); exact ⟨⟨k + 1, a3, c3, by omega, by go_num, e3, hi', hb3⟩, rfl⟩)
                | ((repeat apply Exists.intro); exact ⟨⟨k + 1, a3, c3, by omega, by go_num, e3, hi', hb3⟩, rfl, rfl⟩)
            case measure => simp [intOf]; omega
          · have dz : (rowF f a k == s + 1) = false := by simpa [rowF] using hz
            have HS : Hid (blocksTo f s (6 * a + (k + 1)) = blocksTo f s (6 * a + k)) := by show _ = _; rw [show 6 * a + (k + 1) = 6 * a + k + 1 from rfl, blocksTo_step, if_neg (by simpa using hz)]; simp
            clear hz
            go_wp2
            go_roundw
            case rel =>
              first
                | exact ⟨k + 1, ao, cv, by omega, by go_num, by rw [HS.out], by rw [HS.out]; exact hown, hB⟩
                | ((repeat apply Exists.intro); exact ⟨⟨k + 1, ao, cv, by omega, by go_num, by rw [HS.out], by rw [HS.out]; exact hown, hB⟩, rfl⟩)
                | ((repeat apply Exists.intro); exact ⟨⟨k + 1, ao, cv, by omega, by go_num, by rw [HS.out], by rw [HS.out]; exact hown, hB⟩, rfl, rfl⟩)
            case measure => simp [intOf]; omega
        · have e : k = 6 := by omega
          subst e
          go_wp2
          go_roundw
          case rel =>
            first
              | exact ⟨a + 1, ao, cv, by omega, by go_num, rfl, hown, hB⟩
              | ((repeat apply Exists.intro); exact ⟨⟨a + 1, ao, cv, by omega, by go_num, rfl, hown, hB⟩, rfl⟩)
          case measure => simp [intOf]; omega
    · have e : a = 3 := by omega
      subst e
      go_wp2
      go_ret
      exact ⟨_, rfl, ⟨_, _, rfl⟩, hown, hB⟩
end Go.Proofs.Ytmdijjbkjcnbpaa
