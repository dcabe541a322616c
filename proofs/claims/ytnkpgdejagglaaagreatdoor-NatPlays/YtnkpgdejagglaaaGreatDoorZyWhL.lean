/-
  How many bits a number has.
-/
import Derived.Test.YtnkpgdejagglaaaGreatDoorProg
import Derived.Lib.Strings
import Derived.Lib.Slices
import Derived.Lib.Small
import Derived.Lib.Walk
import Derived.Lib.BitFns
namespace Go.Proofs.YtnkpgdejagglaaaGreatDoor
set_option linter.unusedSimpArgs false
set_option linter.unusedVariables false
/-- the byte that is left behind k bits says the rest. -/
theorem GI (k : Nat) (x y : Int) (h0 : 0 ≤ x) (hx : x.toNat < 2 ^ 64) (P2 : 0 ≤ y) (hy : y.toNat = x.toNat / 2 ^ k) (h1 : 2 ^ k ≤ x.toNat ∨ k = 0) (h2 : y ≤ 255) : Lib.len8 (y % 256) + k = (Lib.bitLen x.toNat : Int) ∧ Lib.len8 (y % 256) ≤ 8 ∧ 0 ≤ Lib.len8 (y % 256) := by
  have e : y % 256 = y := by omega
  have l := Lib.bitLen_le8' y P2 h2
  have b := Lib.len8_of y P2 h2
  rw [e, b]
  refine ⟨?_, by omega, by omega⟩
  rcases h1 with h1 | rfl
  · rw [Lib.bitLen_shift k x.toNat h1 hx, ← hy]; omega
  grind
set_option maxRecDepth 100000 in
set_option maxHeartbeats 4000000 in
theorem q3v (x : Int) (w : World) (h0 : 0 ≤ x) (h1 : x ≤ 18446744073709551615) : Calls Tryz.prog 203 #[.int .u64 x] w fun e w' => e = .returned (.int .i64 (Lib.bitLen x.toNat : Int)) ∧ w' = w := by
  go_enter Tryz.func203, Tryz.ntmps203
  go_wp2
  all_goals (go_ret; refine ⟨congrArg Ending.returned (congrArg (Value.int IntKind.i64) ?_), rfl⟩)
  all_goals first
    | (have hb := GI 56 x (x / 4294967296 / 65536 / 256) h0 (by omega) (by omega) (by omega) (by omega) (by omega); omega)
    | (have hb := GI 48 x (x / 4294967296 / 65536) h0 (by omega) (by omega) (by omega) (by omega) (by omega); omega)
    | (have hb := GI 40 x (x / 4294967296 / 256) h0 (by omega) (by omega) (by omega) (by omega) (by omega); omega)
    | (have hb := GI 32 x (x / 4294967296) h0 (by omega) (by omega) (by omega) (by omega) (by omega); omega)
    | (have hb := GI 24 x (x / 65536 / 256) h0 (by omega) (by omega) (by omega) (by omega) (by omega); omega)
    | (have hb := GI 16 x (x / 65536) h0 (by omega) (by omega) (by omega) (by omega) (by omega); omega)
    | (have hb := GI 8 x (x / 256) h0 (by omega) (by omega) (by omega) (by omega) (by omega); omega)
    | (have hb := GI 0 x (x) h0 (by omega) (by omega) (by omega) (by omega) (by omega); omega)
end Go.Proofs.YtnkpgdejagglaaaGreatDoor
