/-
  The walk of what Parse asks of what stands behind a head.
-/
import Derived.Test.YthcedehppflcgabParse1
namespace Go.Proofs.Ythcedehppflcgab
open Go.ChangeShapes Go.WideShapes Go.ChangeAt Go.RowKit

theorem partShort (s : ByteArray) (proto : Int) (w : World) (h20 : 20 ≤ s.size) (hs : s.size ≤ 65535) (h : (s.size : Int) - 20 < partN proto) :
    Calls Try.prog 22 #[.string s, .int .i64 proto] w fun e w' => e = .returned (.int .i64 1) ∧ w' = w := by
  have z2 : (s.extract 20 s.size).size = s.size - 20 := ext_size s 20 s.size (Nat.le_refl _)
  have z3 : ((s.size - 20 : Nat) : Int) = (s.size : Int) - 20 := by omega
  go_enter Try.func22, Try.ntmps22
  go_wp2_with (go_at_call 38; refine (partBytes_any _ _).mono ?_; rintro e w' ⟨rfl, rfl⟩)
  go_ret
  exact ⟨rfl, rfl⟩
/-- the sum of what the check is of. -/
def sumP (l : List UInt8) (proto : Int) : Int := bk (tot (chkd l proto))
theorem ofP_any (l : List UInt8) (proto : Int) (w : World) (h : l.length ≤ 500000) :
    Calls Try.prog 50 #[.string (txt (chkd l proto))] w fun e w' => e = .returned (.int .i64 (sumP l proto)) ∧ w' = w := by
  have := chkd_len l proto
  exact ofT_any (chkd l proto) w (by omega)
set_option maxHeartbeats 1000000 in
theorem partPing (s : ByteArray) (w : World) (hl : 28 ≤ s.size) (hs : s.size ≤ 65535) :
    Calls Try.prog 22 #[.string s, .int .i64 1] w fun e w' => e = .returned (.int .i64 (partBad s.data.toList 1)) ∧ Below w.heap.size w w' := by
  have z2 : (s.extract 20 s.size).size = s.size - 20 := ext_size s 20 s.size (Nat.le_refl _)
  have z3 : ((s.size - 20 : Nat) : Int) = (s.size : Int) - 20 := by omega
  have z4 : ((s.extract 20 s.size).size : Int) = (s.size : Int) - 20 := by omega
  have pn : partN 1 = 8 := rfl
  have ge0 : ∀ h, (((s.extract 20 s.size)[0]'h).toNat : Int) = byt s.data.toList 20 := fun h => get_ext s 0 h
  have ge1 : ∀ h, (((s.extract 20 s.size)[1]'h).toNat : Int) = byt s.data.toList 21 := fun h => get_ext s 1 h
  have hB := Below.refl w.heap.size w
  go_enter Try.func22, Try.ntmps22
  go_wp2_with (first
    | (go_at_call 38; refine (partBytes_any _ _).mono ?_; rintro e w' ⟨rfl, rfl⟩)
    | (go_at_call 51; refine (checked_any _ _ _ (by omega) (by omega)).mono ?_; rintro e w' ⟨rfl, hb⟩; replace hB := hB.trans (hb.mono hB.size))
    | (go_at_call 50; refine (ofP_any _ _ _ (by rw [len_list]; omega)).mono ?_; rintro e w' ⟨rfl, rfl⟩))
  all_goals
    go_ret
    refine ⟨ret_int ?_, hB⟩
    unfold partBad
    rw [len_list]
    unfold sumP at *
    simp_all
  all_goals omega
end Go.Proofs.Ythcedehppflcgab
