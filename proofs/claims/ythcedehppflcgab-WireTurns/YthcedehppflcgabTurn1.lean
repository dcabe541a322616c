/-
  The walks that change words of a frame and what that makes of its checks.
-/
import Derived.Test.YthcedehppflcgabSeal
namespace Go.Proofs.Ythcedehppflcgab
open Go.ChangeShapes Go.WideShapes Go.ChangeAt Go.RowKit

/-- one check brought along; all of them; then the word itself. -/
def chk1 (pos : Nat) (n : Int) (l : List UInt8) (c : Nat) : List UInt8 := setW l c (upd (wAt l c) (wAt l pos) n)
def chks (pos : Nat) (n : Int) (l : List UInt8) (cs : List Nat) : List UInt8 := cs.foldl (chk1 pos n) l
@[simp] theorem chk1_len (pos : Nat) (n : Int) (l : List UInt8) (c : Nat) : (chk1 pos n l c).length = l.length := by simp [chk1]
@[simp] theorem chks_len (pos : Nat) (n : Int) (l : List UInt8) (cs : List Nat) : (chks pos n l cs).length = l.length := by
  unfold chks
  induction cs generalizing l with
  | nil => rfl
  | cons c r ih => simp [List.foldl_cons, ih]
theorem chks_step (pos : Nat) (n : Int) (l : List UInt8) (cs : List Nat) (k : Nat) (h : k < cs.length) : chks pos n l (cs.take (k + 1)) = chk1 pos n (chks pos n l (cs.take k)) cs[k] := by
  unfold chks
  rw [List.take_succ_eq_append_getElem h, List.foldl_append]; rfl

set_option maxHeartbeats 1000000 in
theorem change_any (p g : Nat) (l : List UInt8) (w : World) (h : Rd w p g l) (pos : Nat) (n : Int) (cs : List Nat) (sb cap : Nat)
    (hsb : sb < w.heap.size) (hsp : sb ≠ p) (hsg : sb ≠ g) (hcell : ∀ j (hj : j < cs.length), w.cell? ⟨sb, j, none⟩ = some (.int .i64 ((cs[j] : Nat) : Int)))
    (hpos : pos + 1 < l.length) (hcs : ∀ c ∈ cs, c + 1 < l.length) (hln : cs.length ≤ 100) :
    Calls Try.prog 57 #[.pointer (some ⟨p, 0, none⟩), .int .i64 pos, .int .i64 n, .slice (some ⟨sb, 0, none⟩) cs.length cap] w fun e w' => e = .returned (.tuple #[]) ∧ Rd w' p g (setW (chks pos n l cs) pos n) ∧ Step p (some g) (some g) w w' := by
  go_enter Try.func57, Try.ntmps57
  go_wp2
  go_loopw [12] (fun i wr => ∃ k : Nat, k ≤ cs.length ∧ i = .int .i64 k ∧ Rd wr p g (chks pos n l (cs.take k)) ∧ Step p (some g) (some g) w wr) (fun i _ => cs.length - (intOf i).toNat)
  case atStart => exact ⟨0, by omega, rfl, h, Step.refl _ _ _⟩
  case round =>
    obtain ⟨k, hk, rfl, hr, hS⟩ := hrel
    by_cases hlt : k < cs.length
    · have hc := hcs cs[k] (List.getElem_mem hlt)
      have hck : wr.cell? ⟨sb, k, none⟩ = some (.int .i64 ((cs[k] : Nat) : Int)) := (hS.cell hsb hsp (by simpa using hsg) k).trans (hcell k hlt)
      have C1 : ∀ (w : World), Rd w p g (chks pos n l (cs.take k)) → Calls Try.prog 58 #[.pointer (some ⟨p, 0, none⟩), .int .i64 ((cs[k] : Nat) : Int)] w fun e w' => e = .returned (.int .i64 (wAt (chks pos n l (cs.take k)) cs[k])) ∧ Rd w' p g (chks pos n l (cs.take k)) ∧ Step p (some g) (some g) w w' := fun w hw => word_any p g _ w hw cs[k] (by simpa using hc)
      generalize hcv : cs[k] = c at *
      have HS : Hid (chks pos n l (cs.take (k + 1)) = chk1 pos n (chks pos n l (cs.take k)) c) := by show _ = _; rw [chks_step _ _ _ _ _ hlt, hcv]
      clear hcv
      go_wp2_with (first
        | (go_at_call 58; refine (word_any p g _ _ hr _ (by simp; omega)).mono ?_; rintro e w' ⟨rfl, hr, hst⟩; replace hS := hS.trans hst; clear hst)
        | (go_at_call 67; refine (upd_any _ _ _ _).mono ?_; rintro e w' ⟨rfl, rfl⟩)
        | (go_at_call 63; refine (setWord_any p g _ _ hr c _ (by simp; omega)).mono ?_; rintro e w' ⟨rfl, hr, hst⟩; replace hS := hS.trans hst; clear hst))
      go_roundw
      case rel => exact ⟨k + 1, by omega, by go_num, by rw [HS.out]; exact hr, hS⟩
      case measure => simp [intOf]; omega
    · have hk' : cs.take k = cs := List.take_of_length_le (by omega)
      rw [hk'] at hr
      go_wp2_with (go_at_call 63; refine (setWord_any p g _ _ hr pos _ (by simp; omega)).mono ?_; rintro e w' ⟨rfl, hr, hst⟩; replace hS := hS.trans hst; clear hst)
      go_end0
      exact ⟨rfl, hr, hS⟩
end Go.Proofs.Ythcedehppflcgab
