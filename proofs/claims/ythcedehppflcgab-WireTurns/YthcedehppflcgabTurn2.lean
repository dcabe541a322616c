/-
  The walks of a frame that ages, is readdressed and is settled.
-/
import Derived.Test.YthcedehppflcgabTurn1
namespace Go.Proofs.Ythcedehppflcgab
open Go.ChangeShapes Go.WideShapes Go.ChangeAt Go.RowKit

theorem twofold_any (n : Int) (w : World) : Calls Try.prog 60 #[.int .i64 n] w fun e w' => e = .returned (.bool (n == 0 || n == 65535)) ∧ w' = w := by
  go_enter Try.func60, Try.ntmps60
  go_wp2
  all_goals
    go_ret
    exact ⟨by simp_all, rfl⟩
def portPos (proto side : Int) : Nat := if proto = 1 then 24 else if side = 0 then 20 else 22
theorem portAt_any (proto side : Int) (w : World) (h : side = 0 ∨ side = 1) : Calls Try.prog 59 #[.int .i64 proto, .int .i64 side] w fun e w' => e = .returned (.int .i64 ((portPos proto side : Nat) : Int)) ∧ w' = w := by
  unfold portPos
  by_cases h1 : proto = 1
  · subst h1
    go_enter Try.func59, Try.ntmps59
    go_wp2
    go_ret
    exact ⟨rfl, rfl⟩
  · rcases h with rfl | rfl
    · go_enter Try.func59, Try.ntmps59
      go_wp2
      go_ret
      exact ⟨rfl, rfl⟩
    · go_enter Try.func59, Try.ntmps59
      go_wp2
      go_ret
      exact ⟨rfl, rfl⟩

/-- one less to live. -/
def aged (l : List UInt8) : List UInt8 := setW (chks 8 (wAt l 8 - 256) l [10]) 8 (wAt l 8 - 256)
@[simp] theorem aged_len (l : List UInt8) : (aged l).length = l.length := by simp [aged]
theorem int_cells1 (w : World) (g : Nat) (hg : w.heap.size = g) (a : Nat) (x : Int) (hx : x = (a : Int)) : ∀ j (hj : j < [a].length), (w.alloc (.cells #[.int .i64 x] 3)).cell? ⟨g, j, none⟩ = some (.int .i64 (([a][j] : Nat) : Int)) := by
  intro j hj
  subst hx hg
  rw [box_cell]
  match j, hj with
  | 0, _ => rfl
theorem age_any (p g : Nat) (l : List UInt8) (w : World) (h : Rd w p g l) (hl : 20 ≤ l.length) :
    Calls Try.prog 32 #[.pointer (some ⟨p, 0, none⟩)] w fun e w' => e = .returned (.tuple #[]) ∧ Rd w' p g (aged l) ∧ Step p (some g) (some g) w w' := by
  have hw := wAt_bd l 8
  have hS := Step.refl p (some g) w
  go_enter Try.func32, Try.ntmps32
  go_wp2_with (first
    | (go_at_call 58; refine (word_any p g _ _ h 8 (by omega)).mono ?_; rintro e w' ⟨rfl, h, hst⟩; replace hS := hS.trans hst; clear hst)
    | (go_at_call 57; refine (change_any p g _ _ (h.alloc _) 8 _ [10] _ 1 (by simp) (by have := h.lt; omega) (by have := h.lt; omega) (int_cells1 _ _ (by simp) 10 _ rfl) (by omega) (by intro c hc; simp at hc; omega) (by simp)).mono ?_; rintro e w' ⟨rfl, h, hst⟩; replace hst := step_new hst; replace hS := hS.trans hst; clear hst))
  go_end0
  exact ⟨rfl, h, hS⟩
end Go.Proofs.Ythcedehppflcgab
