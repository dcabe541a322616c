/-
  Pieces of a list of timers, one behind the other.
-/
import Derived.Test.YtphijplgnffoiaaWpF
namespace Go.Proofs.Ytphijplgnffoiaa
open Go.ChangeShapes Go.WideShapes Go.ChangeAt Go.RowKit
set_option linter.unusedSimpArgs false
set_option linter.unusedVariables false

theorem run_headT (b n c k : Nat) (hk : k ≤ n) (hn : n ≤ c) (w : World) : (Instr.slice 39 (.slice (some ⟨b, 0, none⟩) n c) none (some (.int .i64 (k : Int))) none).run Try.prog w = .ok (.slice (some ⟨b, 0, none⟩) k c) w := by
  have hs : (sizeOf 57).run Try.prog w = .ok 2 w := by kernel_rfl
  have h1 : (k : Int) ≤ (c : Int) := by omega
  have h2 : ¬ (c : Int) < (k : Int) := by omega
  simp [go_sem, Try.underlying39, hs, h1, h2]
/-- where a list's end begins. -/
def tlo (c k : Nat) : Nat := if c = k then 0 else 2 * k
theorem run_tailT (b n c k : Nat) (hk : k ≤ n) (hn : n ≤ c) (w : World) : (Instr.slice 39 (.slice (some ⟨b, 0, none⟩) n c) (some (.int .i64 (k : Int))) none none).run Try.prog w = .ok (.slice (some ⟨b, tlo c k, none⟩) (n - k) (c - k)) w := by
  have hs : (sizeOf 57).run Try.prog w = .ok 2 w := by kernel_rfl
  have h1 : (k : Int) ≤ (n : Int) := by omega
  have h2 : ¬ (n : Int) < (k : Int) := by omega
  simp [go_sem, Try.underlying39, hs, h1, h2]
  unfold tlo
  by_cases hc : c = k
  · rw [if_pos hc, if_pos hc]
  · rw [if_neg hc, if_neg hc, Nat.mul_comm]
theorem TmO.own {w : World} {v : Value} {ts : List Tm} (h : TmO w v ts) (h0 : 0 < ts.length) : ∃ b c, v = .slice (some ⟨b, 0, none⟩) ts.length c ∧ ts.length ≤ c ∧ ∀ j u, (ts.flatMap tml)[j]? = some u → w.cell? ⟨b, j, none⟩ = some u := by
  rcases h.2 with ⟨e, n0⟩ | ⟨b, cap, cur, hv, hbb, hh, hnc, hcm, hcs, ht⟩
  · omega
  · refine ⟨b, cap, hv, hnc, fun j u hu => ?_⟩
    have hj : j < ts.length * 2 := by have := (List.getElem?_eq_some_iff.1 hu).1; rw [tm_flat_len] at this; exact this
    rw [← ht, List.getElem?_take_of_lt (by omega)] at hu
    simp only [World.cell?, hh]
    simpa using hu
theorem flat_takeT (ts : List Tm) (k : Nat) : (ts.take k).flatMap tml = (ts.flatMap tml).take (2 * k) := by
  induction ts generalizing k with
  | nil => simp
  | cons x r ih =>
    cases k with
    | zero => simp
    | succ k => rw [List.take_succ_cons, List.flatMap_cons, List.flatMap_cons, ih, show 2 * (k + 1) = (tml x).length + 2 * k by simp [tml]; omega, List.take_length_add_append]
theorem flat_dropT (ts : List Tm) (k : Nat) : (ts.drop k).flatMap tml = (ts.flatMap tml).drop (2 * k) := by
  induction ts generalizing k with
  | nil => simp
  | cons x r ih =>
    cases k with
    | zero => simp
    | succ k => rw [List.drop_succ_cons, List.flatMap_cons, ih, show 2 * (k + 1) = (tml x).length + 2 * k by simp [tml]; omega, List.drop_length_add_append]
/-- a piece behind a list. -/
theorem run_appT {w : World} {v : Value} {us ps : List Tm} (a : Addr) (m c : Nat) (h : TmO w v us) (hm : m = ps.length) (hc : ∀ j u, (ps.flatMap tml)[j]? = some u → w.cell? (a.add j) = some u) (hl : us.length ≤ 100000) (hp : ps.length ≤ 100000) (ty : TypeId) :
    ∃ v' w', (Builtin.append_ #[39, 39] ty #[v, .slice (some a) m c]).run Try.prog w = .ok v' w' ∧ TmO w' v' (us ++ ps) ∧ w.grownBy w' v.ownBlock ∧ (v'.ownBlock = v.ownBlock ∨ v'.ownBlock = some w.heap.size) := by
  subst hm
  obtain ⟨i0, hi, hz0, hz1, hz2⟩ := infoT_parts
  obtain ⟨v', w', h1, h2, h3, _, h5⟩ := run_append_own_at (P := Try.prog) w 0 39 ty 57 i0 (.agg (tmc (0, 0))) 2 16 Try.underlying39 hi hz0 hz1 hz2 rfl (by decide) v us.length (us.flatMap tml) h a ps.length c (ps.flatMap tml) (tm_flat_len ps) hc (tm_flat_one ps) (by unfold maxLen; omega) (by omega) (Nat.zero_le _)
  refine ⟨v', w', h1, ?_, h3, h5⟩
  unfold TmO; rw [List.flatMap_append, List.length_append]; exact h2
theorem wp_appT {o : Oper} {a : Act} {w : World} {K : Act → World → Prop} {Q : Exit → Act → World → Prop} (s x : Operand) (ho : o.op = .call { callee := .builtin .append, args := #[s, x], argTypes := #[39, 39] })
    {v : Value} {us ps : List Tm} (ad : Addr) (m c : Nat) (h : TmO w v us) (hm : m = ps.length) (hc : ∀ j u, (ps.flatMap tml)[j]? = some u → w.cell? (ad.add j) = some u) (hs : a.eval s = v) (hx : a.eval x = .slice (some ad) m c) (hl : us.length ≤ 100000) (hp : ps.length ≤ 100000)
    (hr : ∀ v' w', TmO w' v' (us ++ ps) → w.grownBy w' v.ownBlock → (v'.ownBlock = v.ownBlock ∨ v'.ownBlock = some w.heap.size) → K (a.put o.dst v') w') : o.wp Try.prog a w K Q := by
  obtain ⟨v', w', h1, h2, h3, h4⟩ := run_appT ad m c h hm hc hl hp o.type
  unfold Oper.wp execOp
  simp only [ho, resolve, invoke, builtin, Sem.run_bind, Sem.run_pure, Result.andThen_ok, List.map_toArray, List.map_cons, List.map_nil, hs, hx, h1]
  exact hr v' w' h2 h3 h4
/-- the cells of a list's two pieces. -/
theorem head_cells {w : World} {b k : Nat} {ts : List Tm} (hc : ∀ j u, (ts.flatMap tml)[j]? = some u → w.cell? ⟨b, j, none⟩ = some u) : ∀ j u, ((ts.take k).flatMap tml)[j]? = some u → w.cell? ((⟨b, 0, none⟩ : Addr).add j) = some u := by
  intro j u hu
  rw [Addr.add_lit, Nat.zero_add]
  rw [flat_takeT] at hu
  have hj := (List.getElem?_eq_some_iff.1 hu).1
  rw [List.length_take] at hj
  rw [List.getElem?_take_of_lt (by omega)] at hu
  exact hc j u hu
theorem tail_cells {w : World} {b k c : Nat} {ts : List Tm} (hc : ∀ j u, (ts.flatMap tml)[j]? = some u → w.cell? ⟨b, j, none⟩ = some u) (hl : ts.length ≤ c) : ∀ j u, ((ts.drop k).flatMap tml)[j]? = some u → w.cell? ((⟨b, tlo c k, none⟩ : Addr).add j) = some u := by
  intro j u hu
  rw [Addr.add_lit]
  have hj := (List.getElem?_eq_some_iff.1 hu).1
  rw [tm_flat_len, List.length_drop] at hj
  rw [flat_dropT, List.getElem?_drop] at hu
  unfold tlo
  rw [if_neg (by omega)]
  exact hc _ u hu
end Go.Proofs.Ytphijplgnffoiaa
