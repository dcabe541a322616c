/-
  Numbers read off what is left.
-/
import Derived.Test.YtnhafdkfjjplkaaDoorRecJ
import Derived.Test.YtnhafdkfjjplkaaDoorBeW
namespace Go.Proofs.YtnhafdkfjjplkaaDoor
open Go.ChangeShapes Go.WideShapes Go.ChangeAt Go.RowKit
set_option linter.unusedSimpArgs false
set_option linter.unusedVariables false

theorem txt_getE (l : List UInt8) (j : Nat) (h : j < l.length) (h2 : j < (txt l).size) : (txt l)[j]'h2 = l[j] := rfl
theorem txt_takeE (l : List UInt8) (k j : Nat) (hj : j < k) (h : j < l.length) (h2 : j < (txt (l.take k)).size) : (txt (l.take k))[j]'h2 = l[j] := (show (l.take k)[j]'(by rw [List.length_take]; omega) = l[j] from List.getElem_take)
theorem num_take_step (l : List UInt8) (j : Nat) (h : j < l.length) : num (l.take (j + 1)) = 256 * num (l.take j) + (l[j].toNat : Int) := by
  rw [List.take_succ_eq_append_getElem h, num_snoc]
theorem or_low (q b : Nat) (hb : b < 256) : 256 * q ||| b = 256 * q + b := by
  have h := Nat.shiftLeft_add_eq_or_of_lt (i := 8) (b := b) (by omega) q
  rw [Nat.shiftLeft_eq] at h
  rw [show 256 * q = q * 2 ^ 8 by omega]
  exact h.symm
theorem or_step (x : Int) (c : Int) (h0 : 0 ≤ c) (h1 : c ≤ 255) : bits .or .i64 (wrap64 (wrap64 x * 256)) c = wrap64 (256 * x + c) := by
  obtain ⟨b, rfl⟩ : ∃ b : Nat, c = b := ⟨c.toNat, by omega⟩
  have hb : b < 256 := by omega
  have hw : wrap64 (wrap64 x * 256) = wrap64 (256 * x) := by unfold wrap64; omega
  rw [hw]
  have e1 : (BitVec.ofInt 64 (wrap64 (256 * x))).toNat = 256 * (x % 72057594037927936).toNat := by
    rw [BitVec.toNat_ofInt]; unfold wrap64; omega
  have e2 : (BitVec.ofInt 64 (b : Int)).toNat = b := by rw [BitVec.toNat_ofInt]; omega
  have e5 : (BitVec.ofInt 64 (wrap64 (256 * x)) ||| BitVec.ofInt 64 (b : Int)).toNat = 256 * (x % 72057594037927936).toNat + b := by
    rw [BitVec.toNat_or, e1, e2, or_low _ _ hb]
  unfold bits
  show IntKind.i64.wrap ((BitVec.ofInt 64 (wrap64 (256 * x)) ||| BitVec.ofInt 64 (b : Int)).toNat : Int) = _
  rw [e5]
  simp [IntKind.wrap, IntKind.bits, IntKind.signed]
  unfold wrap64
  omega
set_option maxRecDepth 10000 in
theorem number_any (p : Nat) (l : List UInt8) (d : Bool) (v : Value) (k : Nat) (w : World) (R : Rdr w p l d v) (hk : k ≤ l.length) (hl : l.length ≤ 140737488351232) (hk8 : k ≤ 8) :
    Calls Tryd.prog 36 #[.pointer (some ⟨p, 0, none⟩), .int .i64 (k : Int)] w fun x w' => x = .returned (.int .i64 (wrap64 (num (l.take k)))) ∧ Rdr w' p (l.drop k) d v ∧ Moved p w w' := by
  have hlen : (l.take k).length = k := by rw [List.length_take]; omega
  go_enter Tryd.func36, Tryd.ntmps36
  go_wp2_with (go_at_call 37; refine (take_any p l d v k _ R hk hl).mono ?_; rintro x w5 ⟨rfl, R5, hM⟩; obtain ⟨C, cap, hconv, hcell⟩ := bytes_new (txt (l.take k)) w5; have hsz : (txt (l.take k)).size = k := (by rw [txt_size, hlen]); rw [hsz] at hconv)
  have R6 := R5.alloc (.cells C 5 (C.size, C.size + 1))
  replace hM := hM.trans (Moved.ofBelow ((Below.refl _ _).alloc (Nat.le_refl _) (.cells C 5 (C.size, C.size + 1))))
  go_loop [5, 13] (fun t i => ∃ j : Nat, j ≤ k ∧ i = .int .i64 (j : Int) ∧ t = .int .i64 (wrap64 (num (l.take j)))) (fun _ i => k - (intOf i).toNat)
  case atStart => exact ⟨0, by omega, rfl, by simp [num, wrap64]⟩
  case round =>
    obtain ⟨j, hj, rfl, rfl⟩ := hrel
    by_cases hlt : j < k
    · have hjl : j < l.length := by omega
      have HS : Hid (num (l.take (j + 1)) = 256 * num (l.take j) + (l[j].toNat : Int)) := num_take_step l j hjl
      have c0 := byte_bd l[j]
      have hc : World.cell? (w5.alloc (.cells C 5 (C.size, C.size + 1))) ⟨w5.heap.size, j, none⟩ = some (.int .u8 (l[j].toNat : Int)) := by
        have h5 := hcell j (by rw [hsz]; exact hlt)
        rw [txt_takeE l k j hlt hjl (by rw [hsz]; exact hlt)] at h5
        exact h5
      have HO : Hid (_ = wrap64 (256 * num (l.take j) + (l[j].toNat : Int))) := or_step (num (l.take j)) _ c0.1 c0.2
      clear hcell
      go_wp2
      go_round
      case rel => exact ⟨j + 1, by omega, by go_num, by rw [HO.out, HS.out]⟩
      case measure => simp [intOf]; omega
    · obtain rfl : j = k := by omega
      go_wp2
      go_ret
      exact ⟨rfl, R6, hM.drew⟩
end Go.Proofs.YtnhafdkfjjplkaaDoor
