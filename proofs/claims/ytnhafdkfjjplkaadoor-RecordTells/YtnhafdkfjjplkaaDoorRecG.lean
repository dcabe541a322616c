/-
  The program's Good.
-/
import Derived.Test.YtnhafdkfjjplkaaDoorRecA
namespace Go.Proofs.YtnhafdkfjjplkaaDoor
open Go.ChangeShapes Go.WideShapes Go.ChangeAt Go.RowKit
set_option linter.unusedSimpArgs false
set_option linter.unusedVariables false

def inZ (x hi : Int) : Bool := decide (0 ≤ x) && decide (x < hi)
theorem inZ_yes {x hi : Int} (h0 : 0 ≤ x) (h1 : x < hi) : inZ x hi = true := by simp [inZ, h0, h1]
theorem inZ_low {x hi : Int} (h0 : x < 0) : inZ x hi = false := by simp [inZ]; omega
theorem inZ_high {x hi : Int} (h1 : hi ≤ x) : inZ x hi = false := by simp [inZ]; omega
set_option maxRecDepth 10000 in
set_option maxHeartbeats 4000000 in
theorem goodEv_any (e : Ev) (w : World) : Calls Tryd.prog 12 #[.agg (ec e)] w fun x w' => x = .returned (.int .i64 (goodE e)) ∧ Below w.heap.size w w' := by
  have hB := Below.refl w.heap.size w
  go_enter Tryd.func12, Tryd.ntmps12
  go_upto_region 1 with (first
    | ((with_reducible refine atOp (.box 29 (.tmp 0)) rfl ?_); refine wpList_boxR 29 rfl _ rfl (ec e) rfl ?_; intro b1 w2 l1 R1 hb2; replace hB := hB.trans (hb2.mono hB.size)))
  go_cut [3] (fun s3 wx => s3 = .bool (inZ e.t 1099511627777) ∧ Row 29 wx b1 (ec e) ∧ Below w.heap.size w wx)
  case first =>
    by_cases h0 : 0 ≤ e.t
    · by_cases h1 : e.t ≤ 1099511627776
      · have HI : Hid (inZ e.t 1099511627777 = true) := inZ_yes h0 (by omega)
        have g0 : decide (0 ≤ e.t) = true := by simpa using h0
        have g1 : decide (e.t ≤ 1099511627776) = true := by simpa using h1
        clear h0 h1
        go_wp2_with (first
      | ((with_reducible refine atOp (.load 3 (.tmp 7)) rfl ?_); refine wpList_loadF R1 _ rfl ?_ 0 rfl _ rfl ?_; · rfl)
      | ((with_reducible refine atOp (.load 3 (.tmp 11)) rfl ?_); refine wpList_loadF R1 _ rfl ?_ 0 rfl _ rfl ?_; · rfl))
        go_meet
        case rel => exact ⟨by rw [HI.out], R1, hB⟩
      · have HI : Hid (inZ e.t 1099511627777 = false) := inZ_high (by omega)
        have g0 : decide (0 ≤ e.t) = true := by simpa using h0
        have g1 : decide (e.t ≤ 1099511627776) = false := by simpa using h1
        clear h0 h1
        go_wp2_with (first
      | ((with_reducible refine atOp (.load 3 (.tmp 7)) rfl ?_); refine wpList_loadF R1 _ rfl ?_ 0 rfl _ rfl ?_; · rfl)
      | ((with_reducible refine atOp (.load 3 (.tmp 11)) rfl ?_); refine wpList_loadF R1 _ rfl ?_ 0 rfl _ rfl ?_; · rfl))
        go_meet
        case rel => exact ⟨by rw [HI.out], R1, hB⟩
    · have HI : Hid (inZ e.t 1099511627777 = false) := inZ_low (by omega)
      have g0 : decide (0 ≤ e.t) = false := by simpa using h0
      clear h0
      go_wp2_with (first
      | ((with_reducible refine atOp (.load 3 (.tmp 7)) rfl ?_); refine wpList_loadF R1 _ rfl ?_ 0 rfl _ rfl ?_; · rfl)
      | ((with_reducible refine atOp (.load 3 (.tmp 11)) rfl ?_); refine wpList_loadF R1 _ rfl ?_ 0 rfl _ rfl ?_; · rfl))
      go_meet
      case rel => exact ⟨by rw [HI.out], R1, hB⟩
  case rest =>
    clear R1 hB
    obtain ⟨rfl, R1, hB⟩ := hcut
    go_upto_region 2 with fail
    go_cut [4] (fun s4 wx => s4 = .bool (inZ e.s 8) ∧ Row 29 wx b1 (ec e) ∧ Below w.heap.size w wx)
    case first =>
      by_cases h0 : 0 ≤ e.s
      · by_cases h1 : e.s < 8
        · have HI : Hid (inZ e.s 8 = true) := inZ_yes h0 (by omega)
          have g0 : decide (0 ≤ e.s) = true := by simpa using h0
          have g1 : decide (e.s < 8) = true := by simpa using h1
          clear h0 h1
          go_wp2_with (first
      | ((with_reducible refine atOp (.load 3 (.tmp 15)) rfl ?_); refine wpList_loadF R1 _ rfl ?_ 1 rfl _ rfl ?_; · rfl)
      | ((with_reducible refine atOp (.load 3 (.tmp 19)) rfl ?_); refine wpList_loadF R1 _ rfl ?_ 1 rfl _ rfl ?_; · rfl))
          go_meet
          case rel => exact ⟨by rw [HI.out], R1, hB⟩
        · have HI : Hid (inZ e.s 8 = false) := inZ_high (by omega)
          have g0 : decide (0 ≤ e.s) = true := by simpa using h0
          have g1 : decide (e.s < 8) = false := by simpa using h1
          clear h0 h1
          go_wp2_with (first
      | ((with_reducible refine atOp (.load 3 (.tmp 15)) rfl ?_); refine wpList_loadF R1 _ rfl ?_ 1 rfl _ rfl ?_; · rfl)
      | ((with_reducible refine atOp (.load 3 (.tmp 19)) rfl ?_); refine wpList_loadF R1 _ rfl ?_ 1 rfl _ rfl ?_; · rfl))
          go_meet
          case rel => exact ⟨by rw [HI.out], R1, hB⟩
      · have HI : Hid (inZ e.s 8 = false) := inZ_low (by omega)
        have g0 : decide (0 ≤ e.s) = false := by simpa using h0
        clear h0
        go_wp2_with (first
      | ((with_reducible refine atOp (.load 3 (.tmp 15)) rfl ?_); refine wpList_loadF R1 _ rfl ?_ 1 rfl _ rfl ?_; · rfl)
      | ((with_reducible refine atOp (.load 3 (.tmp 19)) rfl ?_); refine wpList_loadF R1 _ rfl ?_ 1 rfl _ rfl ?_; · rfl))
        go_meet
        case rel => exact ⟨by rw [HI.out], R1, hB⟩
    case rest =>
      clear R1 hB
      obtain ⟨rfl, R1, hB⟩ := hcut
      go_upto_region 3 with fail
      go_cut [5] (fun s5 wx => s5 = .bool (inZ e.a 3) ∧ Row 29 wx b1 (ec e) ∧ Below w.heap.size w wx)
      case first =>
        by_cases h0 : 0 ≤ e.a
        · by_cases h1 : e.a < 3
          · have HI : Hid (inZ e.a 3 = true) := inZ_yes h0 (by omega)
            have g0 : decide (0 ≤ e.a) = true := by simpa using h0
            have g1 : decide (e.a < 3) = true := by simpa using h1
            clear h0 h1
            go_wp2_with (first
      | ((with_reducible refine atOp (.load 3 (.tmp 23)) rfl ?_); refine wpList_loadF R1 _ rfl ?_ 2 rfl _ rfl ?_; · rfl)
      | ((with_reducible refine atOp (.load 3 (.tmp 27)) rfl ?_); refine wpList_loadF R1 _ rfl ?_ 2 rfl _ rfl ?_; · rfl))
            go_meet
            case rel => exact ⟨by rw [HI.out], R1, hB⟩
          · have HI : Hid (inZ e.a 3 = false) := inZ_high (by omega)
            have g0 : decide (0 ≤ e.a) = true := by simpa using h0
            have g1 : decide (e.a < 3) = false := by simpa using h1
            clear h0 h1
            go_wp2_with (first
      | ((with_reducible refine atOp (.load 3 (.tmp 23)) rfl ?_); refine wpList_loadF R1 _ rfl ?_ 2 rfl _ rfl ?_; · rfl)
      | ((with_reducible refine atOp (.load 3 (.tmp 27)) rfl ?_); refine wpList_loadF R1 _ rfl ?_ 2 rfl _ rfl ?_; · rfl))
            go_meet
            case rel => exact ⟨by rw [HI.out], R1, hB⟩
        · have HI : Hid (inZ e.a 3 = false) := inZ_low (by omega)
          have g0 : decide (0 ≤ e.a) = false := by simpa using h0
          clear h0
          go_wp2_with (first
      | ((with_reducible refine atOp (.load 3 (.tmp 23)) rfl ?_); refine wpList_loadF R1 _ rfl ?_ 2 rfl _ rfl ?_; · rfl)
      | ((with_reducible refine atOp (.load 3 (.tmp 27)) rfl ?_); refine wpList_loadF R1 _ rfl ?_ 2 rfl _ rfl ?_; · rfl))
          go_meet
          case rel => exact ⟨by rw [HI.out], R1, hB⟩
      case rest =>
        clear R1 hB
        obtain ⟨rfl, R1, hB⟩ := hcut
        go_upto_region 4 with fail
        go_cut [6] (fun s6 wx => s6 = .bool (inZ e.b 6) ∧ Row 29 wx b1 (ec e) ∧ Below w.heap.size w wx)
        case first =>
          by_cases h0 : 0 ≤ e.b
          · by_cases h1 : e.b < 6
            · have HI : Hid (inZ e.b 6 = true) := inZ_yes h0 (by omega)
              have g0 : decide (0 ≤ e.b) = true := by simpa using h0
              have g1 : decide (e.b < 6) = true := by simpa using h1
              clear h0 h1
              go_wp2_with (first
      | ((with_reducible refine atOp (.load 3 (.tmp 31)) rfl ?_); refine wpList_loadF R1 _ rfl ?_ 3 rfl _ rfl ?_; · rfl)
      | ((with_reducible refine atOp (.load 3 (.tmp 35)) rfl ?_); refine wpList_loadF R1 _ rfl ?_ 3 rfl _ rfl ?_; · rfl))
              go_meet
              case rel => exact ⟨by rw [HI.out], R1, hB⟩
            · have HI : Hid (inZ e.b 6 = false) := inZ_high (by omega)
              have g0 : decide (0 ≤ e.b) = true := by simpa using h0
              have g1 : decide (e.b < 6) = false := by simpa using h1
              clear h0 h1
              go_wp2_with (first
      | ((with_reducible refine atOp (.load 3 (.tmp 31)) rfl ?_); refine wpList_loadF R1 _ rfl ?_ 3 rfl _ rfl ?_; · rfl)
      | ((with_reducible refine atOp (.load 3 (.tmp 35)) rfl ?_); refine wpList_loadF R1 _ rfl ?_ 3 rfl _ rfl ?_; · rfl))
              go_meet
              case rel => exact ⟨by rw [HI.out], R1, hB⟩
          · have HI : Hid (inZ e.b 6 = false) := inZ_low (by omega)
            have g0 : decide (0 ≤ e.b) = false := by simpa using h0
            clear h0
            go_wp2_with (first
      | ((with_reducible refine atOp (.load 3 (.tmp 31)) rfl ?_); refine wpList_loadF R1 _ rfl ?_ 3 rfl _ rfl ?_; · rfl)
      | ((with_reducible refine atOp (.load 3 (.tmp 35)) rfl ?_); refine wpList_loadF R1 _ rfl ?_ 3 rfl _ rfl ?_; · rfl))
            go_meet
            case rel => exact ⟨by rw [HI.out], R1, hB⟩
        case rest =>
          clear R1 hB
          obtain ⟨rfl, R1, hB⟩ := hcut
          rcases hb0 : inZ e.t 1099511627777 with _ | _
          · have HG : Hid (goodE e = 2) := goodE_no (fun h => by have := h.1; rw [inZ_yes this.1 (by omega)] at hb0; simp at hb0)
            go_wp2
            go_ret
            exact ⟨by rw [HG.out]; rfl, hB⟩
          rcases hb1 : inZ e.s 8 with _ | _
          · have HG : Hid (goodE e = 2) := goodE_no (fun h => by have := h.2.1; rw [inZ_yes this.1 (by omega)] at hb1; simp at hb1)
            go_wp2
            go_ret
            exact ⟨by rw [HG.out]; rfl, hB⟩
          rcases hb2 : inZ e.a 3 with _ | _
          · have HG : Hid (goodE e = 2) := goodE_no (fun h => by have := h.2.2.1; rw [inZ_yes this.1 (by omega)] at hb2; simp at hb2)
            go_wp2
            go_ret
            exact ⟨by rw [HG.out]; rfl, hB⟩
          rcases hb3 : inZ e.b 6 with _ | _
          · have HG : Hid (goodE e = 2) := goodE_no (fun h => by have := h.2.2.2; rw [inZ_yes this.1 (by omega)] at hb3; simp at hb3)
            go_wp2
            go_ret
            exact ⟨by rw [HG.out]; rfl, hB⟩
          have HG : Hid (goodE e = 0) := goodE_yes (by simp [inZ] at hb0 hb1 hb2 hb3; unfold okE; omega)
          go_wp2
          go_ret
          exact ⟨by rw [HG.out]; rfl, hB⟩
def mkE (e : Ev) : Int := if e.fr then 2 else 1
theorem mkE_bd (e : Ev) : 1 ≤ mkE e ∧ mkE e ≤ 2 := by unfold mkE; split <;> omega
theorem mark_any (e : Ev) (w : World) : Calls Tryd.prog 31 #[.agg (ec e)] w fun x w' => x = .returned (.int .i64 (mkE e)) ∧ Below w.heap.size w w' := by
  have hB := Below.refl w.heap.size w
  obtain ⟨t, s, a, b, fr⟩ := e
  cases fr
  all_goals
    go_enter Tryd.func31, Tryd.ntmps31
    go_wp2_with (first
      | ((with_reducible refine atOp (.box 29 (.tmp 0)) rfl ?_); refine wpList_boxR 29 rfl _ rfl (ec ⟨t, s, a, b, _⟩) rfl ?_; intro b1 w2 l1 R1 hb2; replace hB := hB.trans (hb2.mono hB.size))
      | ((with_reducible refine atOp (.load 4 (.tmp 3)) rfl ?_); refine wpList_loadB R1 _ rfl rfl 4 rfl _ rfl ?_))
    go_ret
    exact ⟨rfl, hB⟩
theorem low32 (t : Int) (h0 : 0 ≤ t) (h1 : t ≤ 1099511627776) : bits .and .i64 t 4294967295 = t % 4294967296 := by
  obtain ⟨n, rfl⟩ : ∃ n : Nat, t = n := ⟨t.toNat, by omega⟩
  have h3 := Nat.and_two_pow_sub_one_eq_mod n 32
  have e1 : (BitVec.ofInt 64 (n : Int)).toNat = n := by rw [BitVec.toNat_ofInt]; omega
  have e2 : (BitVec.ofInt 64 (4294967295 : Int)).toNat = 4294967295 := by decide
  have e3 : (4294967295 : Nat) = 2 ^ 32 - 1 := by decide
  have e4 : n &&& 4294967295 = n % 4294967296 := by rw [e3]; exact h3
  have e5 : (BitVec.ofInt 64 (n : Int) &&& BitVec.ofInt 64 (4294967295 : Int)).toNat = n % 4294967296 := by rw [BitVec.toNat_and, e1, e2, e4]
  unfold bits
  show IntKind.i64.wrap ((BitVec.ofInt 64 (n : Int) &&& BitVec.ofInt 64 (4294967295 : Int)).toNat : Int) = _
  rw [e5]
  simp [IntKind.wrap, IntKind.bits, IntKind.signed]
  omega
theorem lowest_any (t : Int) (w : World) (h0 : 0 ≤ t) (h1 : t ≤ 1099511627776) : Calls Tryd.prog 32 #[.int .i64 t] w fun x w' => x = .returned (.int .i64 (t % 4294967296)) ∧ w' = w := by
  have hl := low32 t h0 h1
  go_enter Tryd.func32, Tryd.ntmps32
  go_wp2
  go_ret
  exact ⟨rfl, rfl⟩
end Go.Proofs.YtnhafdkfjjplkaaDoor
