/-
  Close of a map that is there, as one: the table that is left is good.
-/
import Derived.Test.YtmdijjbkjcnbpaaBindY
import Derived.Test.YtmdijjbkjcnbpaaBindJ
namespace Go.Proofs.Ytmdijjbkjcnbpaa
open Go.ChangeShapes Go.WideShapes Go.ChangeAt Go.RowKit
set_option linter.unusedSimpArgs false
set_option linter.unusedVariables false

attribute [local irreducible] tc pc
/-- for every good table and one of its maps, Close hands back a good table without it, and no error. -/
theorem close_play (f : Nat → Int) (g : Nat → Bool) (h : Nat → Int) (sl : Value) (ms : List Mp) (m : Mp) (hwH : wfH h) (G : GoodT f h ms) (hm : m ∈ ms) :
    ∃ (f' h' : Nat → Int) (took : Bool), GoodT f' h' (dropM ms m) ∧ ∀ w : World, MapsAt w sl ms → Calls Try.prog 20 #[.agg (tc f g h sl), .agg (mc m)] w fun e w' => ∃ v, e = .returned (.tuple #[.agg (tc f' g h' v), .bool took, .int .i64 0]) ∧ MapsAt w' v (dropM ms m) ∧ NilOk v ∧ (0 < (dropM ms m).length → w.heap.size ≤ mb v) ∧ Below w.heap.size w w' := by
  cases ha : (dropM ms m).any (fun o => placeM o == placeM m) with
  | true => exact ⟨f, h, false, good_drop G hm ha, fun w hM => close_in f g h sl ms m hwH w hM G hm ha⟩
  | false =>
    have G2 := good_give G hm ha
    by_cases hz : (blocksL (closeF f m) m.2.1).length = 0
    · rw [if_pos (show (blocksL (upd f (placeM m) 0) m.2.1).length = 0 from hz)] at G2
      exact ⟨closeF f m, upd h m.2.1.toNat 0, true, G2, fun w hM => close_zero f g h sl ms m hwH w hM G hm ha hz⟩
    · rw [if_neg (show ¬ (blocksL (upd f (placeM m) 0) m.2.1).length = 0 from hz)] at G2
      exact ⟨closeF f m, h, true, G2, fun w hM => close_more f g h sl ms m hwH w hM G hm ha hz⟩
/-- a map that is closed is found no more. -/
theorem find_gone {f h : Nat → Int} {ms : List Mp} {m : Mp} (G : GoodT f h ms) (hm : m ∈ ms) : (dropM ms m).find? (inS m.1 m.2.1 m.2.2.1) = none := by
  rw [List.find?_eq_none]
  intro o ho h1
  obtain ⟨ho1, ho2⟩ := List.mem_filter.1 ho
  have hne : o ≠ m := by simpa using ho2
  have hin := (inS_iff _ _ _ _).1 h1
  have key : ∀ x y : Mp, x ∈ ms → y ∈ ms → x.1 = y.1 → x.2.1 = y.2.1 → x.2.2.1 = y.2.2.1 → x = y := by
    intro x y hx hy e1 e2 e3
    have fx := find_self G.maps.2 hx
    have fy := find_self G.maps.2 hy
    rw [e1, e2, e3, fy] at fx
    exact (Option.some.inj fx).symm
  exact hne (key o m ho1 hm hin.1 hin.2.1 hin.2.2)
end Go.Proofs.Ytmdijjbkjcnbpaa
