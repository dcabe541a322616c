/-
  How many bits a number has.
-/
import Derived.Test.YtonnjgmognbnbaaGreatDoorProg
import Derived.Lib.Strings
import Derived.Lib.Slices
import Derived.Lib.Small
import Derived.Lib.Walk
import Derived.Lib.BitFns
namespace Go.Proofs.YtonnjgmognbnbaaGreatDoor
set_option linter.unusedSimpArgs false
set_option linter.unusedVariables false
/-- the byte that is left behind k bits says the rest. -/
theorem qlx (k : Nat) (x y : Int) (h0 : 0 ≤ x) (hx : x.toNat < 2 ^ 64) (hy0 : 0 ≤ y) (hy : y.toNat = x.toNat / 2 ^ k) (h1 : 2 ^ k ≤ x.toNat ∨ k = 0) (h2 : y ≤ 255) : Lib.len8 (y % 256) + k = (Lib.bitLen x.toNat : Int) ∧ Lib.len8 (y % 256) ≤ 8 ∧ 0 ≤ Lib.len8 (y % 256) := by
  have e : y % 256 = y := by omega
  have l := Lib.bitLen_le8' y hy0 h2
  have b := Lib.len8_of y hy0 h2
  rw [e, b]
  refine ⟨?_, by omega, by omega⟩
  rcases h1 with h1 | rfl
  · rw [Lib.bitLen_shift k x.toNat h1 hx, ← hy]; omega
  · have : y.toNat = x.toNat := by simpa using hy
    rw [this]; simp
set_option maxRecDepth 100000 in
set_option maxHeartbeats 4000000 in
theorem q3v (x : Int) (w : World) (h0 : 0 ≤ x) (h1 : x ≤ 18446744073709551615) : Calls Tryz.prog 200 #[.int .u64 x] w fun e w' => e = .returned (.int .i64 (Lib.bitLen x.toNat : Int)) ∧ w' = w := by
  go_enter Tryz.func200, Tryz.ntmps200
  go_wp2
  all_goals (go_ret; refine ⟨congrArg Ending.returned (congrArg (Value.int IntKind.i64) ?_), rfl⟩)
  all_goals first
    | (have hb := qlx 56 x (x / 4294967296 / 65536 / 256) h0 (by omega) (by omega) (by omega) (by omega) (by omega); omega)
    | (have hb := qlx 48 x (x / 4294967296 / 65536) h0 (by omega) (by omega) (by omega) (by omega) (by omega); omega)
    | (have hb := qlx 40 x (x / 4294967296 / 256) h0 (by omega) (by omega) (by omega) (by omega) (by omega); omega)
    | (have hb := qlx 32 x (x / 4294967296) h0 (by omega) (by omega) (by omega) (by omega) (by omega); omega)
    | (have hb := qlx 24 x (x / 65536 / 256) h0 (by omega) (by omega) (by omega) (by omega) (by omega); omega)
    | (have hb := qlx 16 x (x / 65536) h0 (by omega) (by omega) (by omega) (by omega) (by omega); omega)
    | (have hb := qlx 8 x (x / 256) h0 (by omega) (by omega) (by omega) (by omega) (by omega); omega)
    | (have hb := qlx 0 x (x) h0 (by omega) (by omega) (by omega) (by omega) (by omega); omega)
end Go.Proofs.YtonnjgmognbnbaaGreatDoor
