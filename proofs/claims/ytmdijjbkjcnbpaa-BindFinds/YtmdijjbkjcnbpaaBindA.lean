/-
  An address for one more block.
-/
import Derived.Test.YtmdijjbkjcnbpaaBindH
namespace Go.Proofs.Ytmdijjbkjcnbpaa
open Go.ChangeShapes Go.WideShapes Go.ChangeAt Go.RowKit
set_option linter.unusedSimpArgs false
set_option linter.unusedVariables false

set_option maxHeartbeats 4000000 in
theorem address_any (f : Nat → Int) (g : Nat → Bool) (h : Nat → Int) (sl : Value) (s d : Int) (hs0 : 0 ≤ s) (hs8 : s < 8) (hh0 : 0 ≤ h s.toNat) (hh3 : h s.toNat ≤ 3) (hd : (Lit.int .i64 d).wf = true) (w : World) :
    Calls Try.prog 51 #[.agg (tc f g h sl), .int .i64 s, .int .i64 d] w fun e w' => e = .returned (.tuple #[.int .i64 (addrA f g h s d), .int .i64 (addrE f g h s)]) ∧ Below w.heap.size w w' := by
  have hB := Below.refl w.heap.size w
  have C := fun w => pick_any f g d hd w
  unfold plv at C
  by_cases hz : h s.toNat = 0
  · have HA : Hid (addrA f g h s d = pickK f g d) := if_pos hz
    have HE : Hid (addrE f g h s = pickE f g) := if_pos hz
    have dz : (h s.toNat != 0) = false := by simp [hz]
    clear hz
    go_enter Try.func51, Try.ntmps51
    go_wp2_with (first
      | (refine wpList_boxR 30 rfl _ rfl _ rfl ?_; intro b3 w1 l3 R3 hb1; replace hB := hB.trans (hb1.mono hB.size); have cH : w1.cell? ⟨b3, 21 + s.toNat, none⟩ = some (.int .i64 (h s.toNat)) := (R3.cell _).trans (tc_home f g h sl s.toNat (by omega)); have hrp := R3.pool)
      | (refine wpList_load_mid rfl 26 _ rfl _ _ rfl _ _ hrp Try.underlying26 rfl (pcl_infoB f g) ?_; rw [Array.toArray_toList])
      | (go_at_call 58; go_fit (C _); rintro e w5 ⟨rfl, hb5⟩; replace hB := hB.trans (hb5.mono hB.size)))
    go_ret2
    exact ⟨by rw [HA.out, HE.out]; rfl, hB⟩
  · have HA : Hid (addrA f g h s d = h s.toNat - 1) := if_neg hz
    have HE : Hid (addrE f g h s = 0) := if_neg hz
    have dz : (h s.toNat != 0) = true := by simp [hz]
    have hw1 : wrap64 (h s.toNat - 1) = h s.toNat - 1 := by unfold wrap64; omega
    clear hz
    go_enter Try.func51, Try.ntmps51
    go_wp2_with (refine wpList_boxR 30 rfl _ rfl _ rfl ?_; intro b3 w1 l3 R3 hb1; replace hB := hB.trans (hb1.mono hB.size); have cH : w1.cell? ⟨b3, 21 + s.toNat, none⟩ = some (.int .i64 (h s.toNat)) := (R3.cell _).trans (tc_home f g h sl s.toNat (by omega)))
    go_ret2
    exact ⟨by rw [HA.out, HE.out]; rfl, hB⟩
end Go.Proofs.Ytmdijjbkjcnbpaa
