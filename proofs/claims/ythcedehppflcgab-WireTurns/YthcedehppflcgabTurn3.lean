/-
  The walk of a frame that is readdressed, and of one that is settled.
-/
import Derived.Test.YthcedehppflcgabTurn2
import Derived.Deep.DeepFit
namespace Go.Proofs.Ythcedehppflcgab
open Go.ChangeShapes Go.WideShapes Go.ChangeAt Go.RowKit

def addrPos (side : Int) : Nat := if side = 0 then 12 else 16
def withChecks (proto : Int) : List Nat := if proto = 1 then [10] else [10, chkAt proto]
/-- another address and port. -/
def moved (l : List UInt8) (pos : Nat) (n : Int) (cs : List Nat) : List UInt8 := setW (chks pos n l cs) pos n
@[simp] theorem moved_len (l : List UInt8) (pos : Nat) (n : Int) (cs : List Nat) : (moved l pos n cs).length = l.length := by simp [moved]
def readd (l : List UInt8) (proto side addr port : Int) : List UInt8 :=
  moved (moved (moved l (addrPos side) (addr / 65536) (withChecks proto)) (addrPos side + 2) (addr % 65536) (withChecks proto)) (portPos proto side) port [chkAt proto]
theorem info_int : (Try.prog.info? 3).map (fun i => (i.zero, i.size, i.bytes)) = some (some (.int .i64 0), 1, 8) := by kernel_rfl
theorem own_int1 (w : World) (v : Value) : (w.alloc (.cells #[v] 3)).ownsRow w.heap.size 3 1 (.slice (some ⟨w.heap.size, 0, none⟩) 1 1) 1 [v] :=
  ⟨rfl, .inr ⟨w.heap.size, 1, #[v], rfl, Nat.le_refl _, heap_alloc_new w _, Nat.le_refl _, by unfold maxLen; omega, rfl, rfl⟩⟩
theorem int_cell1 (w : World) (g : Nat) (hg : w.heap.size = g) (v : Value) : ∀ j u, [v][j]? = some u → (w.alloc (.cells #[v] 3)).cell? ((⟨g, 0, none⟩ : Addr).add j) = some u := by
  intro j u hu
  subst hg
  rw [Addr.add_lit, Nat.zero_add, box_cell]
  match j, hu with
  | 0, hu => simpa using hu
  | n + 1, hu => simp at hu
theorem own_two {w : World} {base : Nat} {v : Value} {a b : Value} (h : w.ownsRow base 3 1 v (1 + 1) ([a] ++ [b])) : ∃ g cap, v = .slice (some ⟨g, 0, none⟩) 2 cap ∧ base ≤ g ∧ g < w.heap.size ∧ w.cell? ⟨g, 0, none⟩ = some a ∧ w.cell? ⟨g, 1, none⟩ = some b := by
  have hlt := h.lt
  obtain ⟨g, cap, rfl, hbg⟩ : ∃ g cap, v = .slice (some ⟨g, 0, none⟩) 2 cap ∧ base ≤ g := by
    rcases h.2 with ⟨_, h0⟩ | ⟨g, cap, cur, e, hbg, hg, _⟩
    · omega
    · exact ⟨g, cap, e, hbg⟩
  · refine ⟨g, cap, rfl, hbg, (hlt g rfl).2, ?_, ?_⟩
    · have := h.cells (g := g) rfl 0 a rfl; rwa [Addr.add_lit] at this
    · have := h.cells (g := g) rfl 1 b rfl; rwa [Addr.add_lit] at this
theorem Rd.grown {w w' : World} {p g : Nat} {l : List UInt8} {row : Option Nat} (h : Rd w p g l) (hg : w.grownBy w' row) (h1 : some p ≠ row) (h2 : some g ≠ row) : Rd w' p g l := by
  have hlt := h.lt
  obtain ⟨cap, cur, mk, a, b, c, r⟩ := h
  exact ⟨cap, cur, mk, (hg.block p hlt.1 h1).trans a, b, (hg.block g hlt.2.1 h2).trans c, r⟩

set_option maxHeartbeats 1000000 in
set_option maxRecDepth 10000 in
theorem readd_ping (p g : Nat) (l : List UInt8) (w : World) (h : Rd w p g l) (side addr port : Int) (hs : side = 0 ∨ side = 1) (a0 : 0 ≤ addr) (a1 : addr ≤ 4294967295) (hl : 28 ≤ l.length) :
    Calls Try.prog 33 #[.pointer (some ⟨p, 0, none⟩), .int .i64 1, .int .i64 side, .int .i64 addr, .int .i64 port] w fun e w' => e = .returned (.tuple #[]) ∧ Rd w' p g (readd l 1 side addr port) ∧ Step p (some g) (some g) w w' := by
  have hlow := low16 addr a0 a1
  have hlt := h.lt
  have hI : ∀ o, (w.alloc (.cells #[.int .i64 10] 3)).cell? ⟨w.heap.size, o, none⟩ = #[Value.int .i64 10][o]? := box_cell w _ _
  have hS : Step p (some g) (some g) w (w.alloc (.cells #[.int .i64 10] 3)) := (Step.refl _ _ _).alloc _
  have hz : w.heap.size < (w.alloc (.cells #[.int .i64 10] 3)).heap.size := by simp
  replace h := h.alloc (.cells #[.int .i64 10] 3)
  have hc1 : ∀ (W : World), (∀ o, W.cell? ⟨w.heap.size, o, none⟩ = #[Value.int .i64 10][o]?) → ∀ j (hj : j < [10].length), W.cell? ⟨w.heap.size, j, none⟩ = some (.int .i64 (([10][j] : Nat) : Int)) := by
    intro W hW j hj
    rw [hW]
    match j, hj with
    | 0, _ => rfl
  have hp0 : portPos 1 0 + 1 < l.length := by show 24 + 1 < _; omega
  have hp1 : portPos 1 1 + 1 < l.length := by show 24 + 1 < _; omega
  have hq : chkAt 1 + 1 < l.length := by show 22 + 1 < _; omega
  rcases hs with rfl | rfl
  · go_enter Try.func33, Try.ntmps33
    go_wp2_with (first
      | (go_at_call 59; refine (portAt_any _ _ _ (by omega)).mono ?_; rintro e w' ⟨rfl, rfl⟩)
      | (go_at_call 52; refine (checkAt_any _ _).mono ?_; rintro e w' ⟨rfl, rfl⟩)
      | (go_at_call 57; go_fit (change_any p g _ _ h 12 _ [10] w.heap.size 1 hz (by omega) (by omega) (hc1 _ hI) (by (try simp) <;> omega) (by intro c hc; simp at hc; (try simp) <;> omega) (by simp)); rintro e w' ⟨rfl, h, hst⟩; replace hI := fun o => (hst.cell hz (by omega) (by simp <;> omega) o).trans (hI o); replace hz := Nat.lt_of_lt_of_le hz hst.size; replace hS := hS.trans hst; clear hst)
      | (go_at_call 57; go_fit (change_any p g _ _ h 14 _ [10] w.heap.size 1 hz (by omega) (by omega) (hc1 _ hI) (by (try simp) <;> omega) (by intro c hc; simp at hc; (try simp) <;> omega) (by simp)); rintro e w' ⟨rfl, h, hst⟩; replace hI := fun o => (hst.cell hz (by omega) (by simp <;> omega) o).trans (hI o); replace hz := Nat.lt_of_lt_of_le hz hst.size; replace hS := hS.trans hst; clear hst)
      | (go_at_call 57; go_fit (change_any p g _ _ (h.alloc _) (portPos 1 0) _ [(chkAt 1)] _ 1 (by simp) (by have := h.lt; omega) (by have := h.lt; omega) (int_cells1 _ _ (by simp) (chkAt 1) _ rfl) (by simp <;> omega) (by intro c hc; simp at hc; simp <;> omega) (by simp)); rintro e w' ⟨rfl, h, hst⟩; replace hst := step_new hst; replace hS := hS.trans hst; clear hst))
    go_end0
    exact ⟨rfl, h, hS⟩
  · go_enter Try.func33, Try.ntmps33
    go_wp2_with (first
      | (go_at_call 59; refine (portAt_any _ _ _ (by omega)).mono ?_; rintro e w' ⟨rfl, rfl⟩)
      | (go_at_call 52; refine (checkAt_any _ _).mono ?_; rintro e w' ⟨rfl, rfl⟩)
      | (go_at_call 57; go_fit (change_any p g _ _ h 16 _ [10] w.heap.size 1 hz (by omega) (by omega) (hc1 _ hI) (by (try simp) <;> omega) (by intro c hc; simp at hc; (try simp) <;> omega) (by simp)); rintro e w' ⟨rfl, h, hst⟩; replace hI := fun o => (hst.cell hz (by omega) (by simp <;> omega) o).trans (hI o); replace hz := Nat.lt_of_lt_of_le hz hst.size; replace hS := hS.trans hst; clear hst)
      | (go_at_call 57; go_fit (change_any p g _ _ h 18 _ [10] w.heap.size 1 hz (by omega) (by omega) (hc1 _ hI) (by (try simp) <;> omega) (by intro c hc; simp at hc; (try simp) <;> omega) (by simp)); rintro e w' ⟨rfl, h, hst⟩; replace hI := fun o => (hst.cell hz (by omega) (by simp <;> omega) o).trans (hI o); replace hz := Nat.lt_of_lt_of_le hz hst.size; replace hS := hS.trans hst; clear hst)
      | (go_at_call 57; go_fit (change_any p g _ _ (h.alloc _) (portPos 1 1) _ [(chkAt 1)] _ 1 (by simp) (by have := h.lt; omega) (by have := h.lt; omega) (int_cells1 _ _ (by simp) (chkAt 1) _ rfl) (by simp <;> omega) (by intro c hc; simp at hc; simp <;> omega) (by simp)); rintro e w' ⟨rfl, h, hst⟩; replace hst := step_new hst; replace hS := hS.trans hst; clear hst))
    go_end0
    exact ⟨rfl, h, hS⟩
set_option maxHeartbeats 2000000 in
set_option maxRecDepth 10000 in
theorem readd_other (p g : Nat) (l : List UInt8) (w : World) (h : Rd w p g l) (proto side addr port : Int) (hs : side = 0 ∨ side = 1) (a0 : 0 ≤ addr) (a1 : addr ≤ 4294967295) (hl : 28 ≤ l.length) (hp : proto ≠ 1) (hq : chkAt proto + 1 < l.length) :
    Calls Try.prog 33 #[.pointer (some ⟨p, 0, none⟩), .int .i64 proto, .int .i64 side, .int .i64 addr, .int .i64 port] w fun e w' => e = .returned (.tuple #[]) ∧ Rd w' p g (readd l proto side addr port) ∧ Step p (some g) (some g) w w' := by
  have hlow := low16 addr a0 a1
  have hlt := h.lt
  have hp' : (proto == 1) = false := by simpa using hp
  have W : Hid (withChecks proto = [10, chkAt proto]) := by show _ = _; unfold withChecks; rw [if_neg hp]
  have hS : Step p (some g) (some g) w (w.alloc (.cells #[.int .i64 10] 3)) := (Step.refl _ _ _).alloc _
  obtain ⟨i0, hi, hz0, hz1, hz2⟩ := info_parts info_int
  have hown := (own_int1 w (.int .i64 10)).alloc (.cells #[.int .i64 ((chkAt proto : Nat) : Int)] 3)
  have hp0 : portPos proto 0 + 1 < l.length := by unfold portPos; rw [if_neg hp, if_pos rfl]; omega
  have hp1 : portPos proto 1 + 1 < l.length := by unfold portPos; rw [if_neg hp, if_neg (by omega)]; omega
  rcases hs with rfl | rfl
  · go_enter Try.func33, Try.ntmps33
    go_wp2_with (first
      | (at_builtin; refine wpList_append_own _ rfl (.tmp 15) (.tmp 18) 68 rfl w.heap.size 3 i0 (.int .i64 0) 1 8 Try.underlying68 hi hz0 hz1 hz2 rfl (by decide) _ 1 [.int .i64 10] rfl hown ⟨w.heap.size + 1, 0, none⟩ 1 1 [.int .i64 ((chkAt proto : Nat) : Int)] rfl rfl (int_cell1 _ _ (by simp) _) (by simp; rfl) (by unfold maxLen; omega) (by omega) (by simp; omega) ?_)
      | (go_at_call 52; refine (checkAt_any _ _).mono ?_; rintro e w' ⟨rfl, rfl⟩))
    intro v' w1 hown1 hgrow _
    obtain ⟨q, cap, rfl, hq0, hq1, hqa, hqb⟩ := own_two hown1
    have hI : ∀ j (hj : j < [10, chkAt proto].length), w1.cell? ⟨q, j, none⟩ = some (.int .i64 (([10, chkAt proto][j] : Nat) : Int)) := by
      intro j hj
      match j, hj with
      | 0, _ => exact hqa
      | 1, _ => exact hqb
    have hz := hq1
    have hrow : (Value.slice (some ⟨w.heap.size, 0, none⟩) 1 1).ownBlock = some w.heap.size := rfl
    rw [hrow] at hgrow
    have hB : Below w.heap.size w w1 := Below.grown (((Below.refl _ _).alloc (Nat.le_refl _) _).alloc (by simp) _) hgrow (by simp; omega) (fun k e => by cases e; exact Nat.le_refl _)
    have hS : Step p (some g) (some g) w w1 := Step.ofBelow hB
    replace h := Rd.below h hB
    clear hown hown1 hgrow hB hqa hqb hq1
    go_wp2_with (first
      | (go_at_call 59; refine (portAt_any _ _ _ (by omega)).mono ?_; rintro e w' ⟨rfl, rfl⟩)
      | (go_at_call 52; refine (checkAt_any _ _).mono ?_; rintro e w' ⟨rfl, rfl⟩)
      | (go_at_call 57; go_fit (change_any p g _ _ h 12 _ [10, chkAt proto] q cap hz (by omega) (by omega) hI (by (try simp) <;> omega) (by intro c hc; simp at hc; (try simp) <;> omega) (by simp)); rintro e w' ⟨rfl, h, hst⟩; replace hI := fun j hj => (hst.cell hz (by omega) (by simp <;> omega) j).trans (hI j hj); replace hz := Nat.lt_of_lt_of_le hz hst.size; replace hS := hS.trans hst; clear hst)
      | (go_at_call 57; go_fit (change_any p g _ _ h 14 _ [10, chkAt proto] q cap hz (by omega) (by omega) hI (by (try simp) <;> omega) (by intro c hc; simp at hc; (try simp) <;> omega) (by simp)); rintro e w' ⟨rfl, h, hst⟩; replace hI := fun j hj => (hst.cell hz (by omega) (by simp <;> omega) j).trans (hI j hj); replace hz := Nat.lt_of_lt_of_le hz hst.size; replace hS := hS.trans hst; clear hst)
      | (go_at_call 57; go_fit (change_any p g _ _ (h.alloc _) (portPos proto 0) _ [(chkAt proto)] _ 1 (by simp) (by have := h.lt; omega) (by have := h.lt; omega) (int_cells1 _ _ (by simp) (chkAt proto) _ rfl) (by simp <;> omega) (by intro c hc; simp at hc; simp <;> omega) (by simp)); rintro e w' ⟨rfl, h, hst⟩; replace hst := step_new hst; replace hS := hS.trans hst; clear hst))
    go_end0
    exact ⟨rfl, by unfold readd; rw [W.out]; exact h, hS⟩
  · go_enter Try.func33, Try.ntmps33
    go_wp2_with (first
      | (at_builtin; refine wpList_append_own _ rfl (.tmp 15) (.tmp 18) 68 rfl w.heap.size 3 i0 (.int .i64 0) 1 8 Try.underlying68 hi hz0 hz1 hz2 rfl (by decide) _ 1 [.int .i64 10] rfl hown ⟨w.heap.size + 1, 0, none⟩ 1 1 [.int .i64 ((chkAt proto : Nat) : Int)] rfl rfl (int_cell1 _ _ (by simp) _) (by simp; rfl) (by unfold maxLen; omega) (by omega) (by simp; omega) ?_)
      | (go_at_call 52; refine (checkAt_any _ _).mono ?_; rintro e w' ⟨rfl, rfl⟩))
    intro v' w1 hown1 hgrow _
    obtain ⟨q, cap, rfl, hq0, hq1, hqa, hqb⟩ := own_two hown1
    have hI : ∀ j (hj : j < [10, chkAt proto].length), w1.cell? ⟨q, j, none⟩ = some (.int .i64 (([10, chkAt proto][j] : Nat) : Int)) := by
      intro j hj
      match j, hj with
      | 0, _ => exact hqa
      | 1, _ => exact hqb
    have hz := hq1
    have hrow : (Value.slice (some ⟨w.heap.size, 0, none⟩) 1 1).ownBlock = some w.heap.size := rfl
    rw [hrow] at hgrow
    have hB : Below w.heap.size w w1 := Below.grown (((Below.refl _ _).alloc (Nat.le_refl _) _).alloc (by simp) _) hgrow (by simp; omega) (fun k e => by cases e; exact Nat.le_refl _)
    have hS : Step p (some g) (some g) w w1 := Step.ofBelow hB
    replace h := Rd.below h hB
    clear hown hown1 hgrow hB hqa hqb hq1
    go_wp2_with (first
      | (go_at_call 59; refine (portAt_any _ _ _ (by omega)).mono ?_; rintro e w' ⟨rfl, rfl⟩)
      | (go_at_call 52; refine (checkAt_any _ _).mono ?_; rintro e w' ⟨rfl, rfl⟩)
      | (go_at_call 57; go_fit (change_any p g _ _ h 16 _ [10, chkAt proto] q cap hz (by omega) (by omega) hI (by (try simp) <;> omega) (by intro c hc; simp at hc; (try simp) <;> omega) (by simp)); rintro e w' ⟨rfl, h, hst⟩; replace hI := fun j hj => (hst.cell hz (by omega) (by simp <;> omega) j).trans (hI j hj); replace hz := Nat.lt_of_lt_of_le hz hst.size; replace hS := hS.trans hst; clear hst)
      | (go_at_call 57; go_fit (change_any p g _ _ h 18 _ [10, chkAt proto] q cap hz (by omega) (by omega) hI (by (try simp) <;> omega) (by intro c hc; simp at hc; (try simp) <;> omega) (by simp)); rintro e w' ⟨rfl, h, hst⟩; replace hI := fun j hj => (hst.cell hz (by omega) (by simp <;> omega) j).trans (hI j hj); replace hz := Nat.lt_of_lt_of_le hz hst.size; replace hS := hS.trans hst; clear hst)
      | (go_at_call 57; go_fit (change_any p g _ _ (h.alloc _) (portPos proto 1) _ [(chkAt proto)] _ 1 (by simp) (by have := h.lt; omega) (by have := h.lt; omega) (int_cells1 _ _ (by simp) (chkAt proto) _ rfl) (by simp <;> omega) (by intro c hc; simp at hc; simp <;> omega) (by simp)); rintro e w' ⟨rfl, h, hst⟩; replace hst := step_new hst; replace hS := hS.trans hst; clear hst))
    go_end0
    exact ⟨rfl, by unfold readd; rw [W.out]; exact h, hS⟩
end Go.Proofs.Ythcedehppflcgab
