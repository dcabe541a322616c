/-
  Rows of small structs and of a table, read and written whole; a list of maps in memory.
-/
import Derived.Deep.DeepFit
import Derived.Test.YtmdijjbkjcnbpaaBindO
import Derived.Test.YtmdijjbkjcnbpaaRowG
namespace Go.Proofs.Ytmdijjbkjcnbpaa
open Go.ChangeShapes Go.WideShapes Go.ChangeAt Go.RowKit
set_option linter.unusedSimpArgs false
set_option linter.unusedVariables false

/-- a map's cells, a table's cells. -/
def mcl (m : Mp) : List Value := [.int .i64 m.1, .int .i64 m.2.1, .int .i64 m.2.2.1, .int .i64 m.2.2.2.1, .int .i64 m.2.2.2.2]
def mc (m : Mp) : Array Value := #[.int .i64 m.1, .int .i64 m.2.1, .int .i64 m.2.2.1, .int .i64 m.2.2.2.1, .int .i64 m.2.2.2.2]
def hcl (h : Nat → Int) : List Value := [.int .i64 (h 0), .int .i64 (h 1), .int .i64 (h 2), .int .i64 (h 3), .int .i64 (h 4), .int .i64 (h 5), .int .i64 (h 6), .int .i64 (h 7)]
def tc (f : Nat → Int) (g : Nat → Bool) (h : Nat → Int) (sl : Value) : Array Value := pc f g ++ (hcl h).toArray ++ #[sl]
theorem tc_size (f : Nat → Int) (g : Nat → Bool) (h : Nat → Int) (sl : Value) : (tc f g h sl).size = 30 := rfl
theorem tc_own (f : Nat → Int) (g : Nat → Bool) (h : Nat → Int) (sl : Value) (k : Nat) (hk : k < 18) : (tc f g h sl)[k]? = some (.int .i64 (f k)) := by
  unfold tc; rw [Array.getElem?_append_left (by simp [pc_size, hcl]; omega), Array.getElem?_append_left (by rw [pc_size]; omega)]; exact pc_own f g k hk
theorem tc_dr (f : Nat → Int) (g : Nat → Bool) (h : Nat → Int) (sl : Value) (k : Nat) (hk : k < 3) : (tc f g h sl)[18 + k]? = some (.bool (g k)) := by
  unfold tc; rw [Array.getElem?_append_left (by simp [pc_size, hcl]; omega), Array.getElem?_append_left (by rw [pc_size]; omega)]; exact pc_dr f g k hk
theorem tc_home (f : Nat → Int) (g : Nat → Bool) (h : Nat → Int) (sl : Value) (k : Nat) (hk : k < 8) : (tc f g h sl)[21 + k]? = some (.int .i64 (h k)) := by
  rcases (show k = 0 ∨ k = 1 ∨ k = 2 ∨ k = 3 ∨ k = 4 ∨ k = 5 ∨ k = 6 ∨ k = 7 by omega) with rfl | rfl | rfl | rfl | rfl | rfl | rfl | rfl <;> rfl
theorem tc_maps (f : Nat → Int) (g : Nat → Bool) (h : Nat → Int) (sl : Value) : (tc f g h sl)[29]? = some sl := rfl
theorem tc_set (f : Nat → Int) (g : Nat → Bool) (h : Nat → Int) (sl : Value) (n : Nat) (x : Int) (hn : n < 18) : (tc f g h sl).setIfInBounds n (.int .i64 x) = tc (upd f n x) g h sl := by
  rcases (show n = 0 ∨ n = 1 ∨ n = 2 ∨ n = 3 ∨ n = 4 ∨ n = 5 ∨ n = 6 ∨ n = 7 ∨ n = 8 ∨ n = 9 ∨ n = 10 ∨ n = 11 ∨ n = 12 ∨ n = 13 ∨ n = 14 ∨ n = 15 ∨ n = 16 ∨ n = 17 by omega) with rfl | rfl | rfl | rfl | rfl | rfl | rfl | rfl | rfl | rfl | rfl | rfl | rfl | rfl | rfl | rfl | rfl | rfl <;> kernel_rfl
theorem tc_setH (f : Nat → Int) (g : Nat → Bool) (h : Nat → Int) (sl : Value) (n : Nat) (x : Int) (hn : n < 8) : (tc f g h sl).setIfInBounds (21 + n) (.int .i64 x) = tc f g (upd h n x) sl := by
  rcases (show n = 0 ∨ n = 1 ∨ n = 2 ∨ n = 3 ∨ n = 4 ∨ n = 5 ∨ n = 6 ∨ n = 7 by omega) with rfl | rfl | rfl | rfl | rfl | rfl | rfl | rfl <;> kernel_rfl
theorem tc_setM (f : Nat → Int) (g : Nat → Bool) (h : Nat → Int) (sl s2 : Value) : (tc f g h sl).setIfInBounds 29 s2 = tc f g h s2 := rfl
theorem tc_info (f : Nat → Int) (g : Nat → Bool) (h : Nat → Int) (sl : Value) : (Try.prog.info? 30).map (·.size) = some (tc f g h sl).size := by kernel_rfl
theorem mc_info (m : Mp) : (Try.prog.info? 32).map (·.size) = some (mc m).size := by kernel_rfl
theorem mcl_info (m : Mp) : (Try.prog.info? 32).map (·.size) = some (mcl m).length := by kernel_rfl
theorem mc_one (m : Mp) : (mc m).all (·.oneCell') = true := by kernel_rfl
theorem tc_one (f : Nat → Int) (g : Nat → Bool) (h : Nat → Int) (a : Option Addr) (n c : Nat) : (tc f g h (.slice a n c)).all (·.oneCell') = true := by kernel_rfl
theorem mcl_mc (m : Mp) : (mcl m).toArray = mc m := rfl
theorem map_zero (w : World) : (zeroValue 32).run Try.prog w = .ok (.agg (mc noM)) w := by kernel_rfl
theorem table_zero (w : World) : (zeroValue 30).run Try.prog w = .ok (.agg (tc (fun _ => 0) (fun _ => false) (fun _ => 0) (.slice none 0 0))) w := by kernel_rfl
/-- where a slice begins. -/
def mb : Value → Nat
  | .slice (some a) _ _ => a.block
  | _ => 0
def mo : Value → Nat
  | .slice (some a) _ _ => a.off
  | _ => 0
/-- a list of maps lies in memory. -/
def MapsAt (w : World) (sl : Value) (ms : List Mp) : Prop :=
  ∃ a cap, sl = .slice a ms.length cap ∧ (0 < ms.length → a = some ⟨mb sl, mo sl, none⟩) ∧ (∀ j (hj : j < ms.length), w.rangeAt (mb sl) (mo sl + 5 * j) (mcl ms[j])) ∧ ms.length ≤ 140737488355328 ∧ ∃ c2, sl = .slice a ms.length c2 ∧ ms.length ≤ c2
theorem MapsAt.nil (w : World) : MapsAt w (.slice none 0 0) [] := ⟨none, 0, rfl, fun h => absurd h (by simp), fun j hj => absurd hj (by simp), by simp, 0, rfl, by simp⟩
theorem MapsAt.keep {w w' : World} {sl : Value} {ms : List Mp} {B : Nat} (h : MapsAt w sl ms) (hb : Below B w w') (hlt : 0 < ms.length → mb sl < B) : MapsAt w' sl ms := by
  obtain ⟨a, cap, e, h1, h2, h3⟩ := h
  refine ⟨a, cap, e, h1, fun j hj i v hv => ?_, h3⟩
  have := h2 j hj i v hv
  unfold World.cell? at *
  rw [hb.block _ (hlt (by omega))]
  exact this
theorem MapsAt.lt {w : World} {sl : Value} {ms : List Mp} (h : MapsAt w sl ms) (hl : 0 < ms.length) : mb sl < w.heap.size := by
  obtain ⟨a, cap, e, h1, h2, h3⟩ := h
  have := h2 0 hl 0 _ rfl
  unfold World.cell? at this
  by_cases hlt : mb sl < w.heap.size
  · exact hlt
  · have h3 : w.heap[mb sl]? = none := Array.getElem?_eq_none (by omega)
    simp [h3] at this
theorem MapsAt.at {w : World} {sl : Value} {ms : List Mp} (h : MapsAt w sl ms) (j : Nat) (hj : j < ms.length) {m : Mp} (hm : ms[j] = m) : w.rangeAt (mb sl) (mo sl + 5 * j) (mcl m) := by
  obtain ⟨a, cap, e, h1, h2, h3⟩ := h
  rw [← hm]; exact h2 j hj
theorem MapsAt.len {w : World} {sl : Value} {ms : List Mp} (h : MapsAt w sl ms) : ms.length ≤ 140737488355328 := by
  obtain ⟨a, cap, e, h1, h2, h3⟩ := h
  exact h3.1
theorem MapsAt.cap {w : World} {a : Option Addr} {n c : Nat} {ms : List Mp} (h : MapsAt w (.slice a n c) ms) : n = ms.length ∧ n ≤ c := by
  obtain ⟨a', cap, e, h1, h2, h3, c2, e2, h4⟩ := h
  injection e2 with e3 e4 e5
  exact ⟨e4, by omega⟩
theorem MapsAt.take {w : World} {a : Option Addr} {n c : Nat} {ms : List Mp} (h : MapsAt w (.slice a n c) ms) (j : Nat) (hj : j ≤ ms.length) : MapsAt w (.slice a j c) (ms.take j) := by
  have hc := h.cap
  obtain ⟨a', cap, e, h1, h2, h3, c2, e2, h4⟩ := h
  injection e with e3 e4 e5
  subst e3
  have hl : (ms.take j).length = j := by rw [List.length_take]; omega
  have hmb : mb (.slice a j c) = mb (.slice a n c) := by cases a <;> rfl
  have hmo : mo (.slice a j c) = mo (.slice a n c) := by cases a <;> rfl
  refine ⟨a, c, by rw [hl], fun hp => ?_, fun i hi => ?_, by rw [hl]; omega, c, by rw [hl], by rw [hl]; omega⟩
  · rw [hmb, hmo]; exact h1 (by omega)
  · rw [hmb, hmo, List.getElem_take]; exact h2 i (by omega)
theorem wrap_next {j n : Nat} (h : j < n) (hn : n ≤ 140737488355328) : wrap64 ((j : Int) + 1) = (j : Int) + 1 := by unfold wrap64; omega
theorem MapsAt.below {w w' : World} {sl : Value} {ms : List Mp} (h : MapsAt w sl ms) (hb : Below w.heap.size w w') : MapsAt w' sl ms := h.keep hb h.lt
theorem wpList_indexM {ops : Array Oper} {rest : List Oper} {o : Oper} {a : Act} {w : World} {Q : Exit → Act → World → Prop} (hgd : o.guard = none) (x y : Operand) (ho : o.op = .indexAddr 28 x y) (sl : Value) (ms : List Mp) (hM : MapsAt w sl ms) (hx : a.eval x = sl) (j : Nat) (hy : a.eval y = .int .i64 (j : Int)) (hj : j < ms.length)
    (hr : wpList Try.prog ops Q rest (a.put o.dst (.pointer (some ⟨mb sl, mo sl + 5 * j, none⟩))) w) : wpList Try.prog ops Q (o :: rest) a w :=
  wpList_plain hgd fun K hK => by
    obtain ⟨a0, cap, e, h1, h2, h3⟩ := hM
    have e1 := h1 (by omega)
    generalize mb sl = B at *
    generalize mo sl = O at *
    subst e1
    subst e
    have hn : ((j : Int)).toNat < ms.length := by simpa using hj
    have hjl : (j : Int) < (ms.length : Int) := by omega
    have hs : (sizeOf 32).run Try.prog w = .ok 5 w := by kernel_rfl
    have hrun : (Instr.indexAt 28 (.slice (some ⟨B, O, none⟩) ms.length cap) (.int .i64 (j : Int))).run Try.prog w = .ok (.pointer (some ⟨B, O + 5 * j, none⟩)) w := by
      simp [go_sem, hj, hn, hjl, Try.underlying28, hs]
    unfold Oper.wp execOp
    simp only [ho, hx, hy, Sem.run_bind, hrun, Result.andThen_ok, Sem.run_pure]
    exact hK _ _ hr
end Go.Proofs.Ytmdijjbkjcnbpaa
