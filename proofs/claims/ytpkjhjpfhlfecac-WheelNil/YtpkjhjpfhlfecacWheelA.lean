/-
  The wheel's cells; its small walks.
-/
import Derived.Test.YtpkjhjpfhlfecacRows
import Derived.WalkKit
import Derived.ProofKit
import Derived.OpenShut
import Derived.Below
import Derived.Laws.AppendOwn
import Derived.Laws.CopyOwn
import Derived.Deep.MidRow
import Derived.Deep.RegionHeld3
import Derived.Maps.OwnSet
namespace Go.Proofs.Ytpkjhjpfhlfecac
open Go.ChangeShapes Go.WideShapes Go.ChangeAt Go.RowKit
set_option linter.unusedSimpArgs false
set_option linter.unusedVariables false

/-- the cells of a wheel: its time, its map of times, 7 times 64 lists. -/
def wcs (now : Int) (due : Value) (ls : Nat → Value) : Array Value := #[.int .i64 now, due] ++ ((List.range 448).map ls).toArray
def updV (ls : Nat → Value) (n : Nat) (v : Value) : Nat → Value := fun i => if i = n then v else ls i
theorem wcs_size (now : Int) (due : Value) (ls : Nat → Value) : (wcs now due ls).size = 450 := by simp [wcs]
theorem wcs_now (now : Int) (due : Value) (ls : Nat → Value) : (wcs now due ls)[0]? = some (.int .i64 now) := by simp [wcs]
theorem wcs_due (now : Int) (due : Value) (ls : Nat → Value) : (wcs now due ls)[1]? = some due := by simp [wcs]
theorem wcs_list (now : Int) (due : Value) (ls : Nat → Value) (k : Nat) (h : k < 448) : (wcs now due ls)[2 + k]? = some (ls k) := by
  unfold wcs
  rw [Array.getElem?_append_right (by simp)]
  simp [h]
theorem wcs_setDue (now : Int) (due v : Value) (ls : Nat → Value) : (wcs now due ls).setIfInBounds 1 v = wcs now v ls := by
  apply Array.ext_getElem?
  intro i
  rw [Array.getElem?_setIfInBounds]
  by_cases e : 1 = i
  · subst e; simp [wcs]
  · rw [if_neg e]
    unfold wcs
    match i with
    | 0 => simp
    | 1 => exact absurd rfl e
    | i + 2 => rw [Array.getElem?_append_right (by simp), Array.getElem?_append_right (by simp)]; rfl
theorem wcs_setNow (now m : Int) (due : Value) (ls : Nat → Value) : (wcs now due ls).setIfInBounds 0 (.int .i64 m) = wcs m due ls := by
  apply Array.ext_getElem?
  intro i
  rw [Array.getElem?_setIfInBounds]
  by_cases e : 0 = i
  · subst e; simp [wcs]
  · rw [if_neg e]
    unfold wcs
    match i with
    | 0 => exact absurd rfl e
    | 1 => simp
    | i + 2 => rw [Array.getElem?_append_right (by simp), Array.getElem?_append_right (by simp)]; rfl
theorem wcs_setList (now : Int) (due v : Value) (ls : Nat → Value) (k : Nat) (h : k < 448) : (wcs now due ls).setIfInBounds (2 + k) v = wcs now due (updV ls k v) := by
  apply Array.ext_getElem?
  intro i
  rw [Array.getElem?_setIfInBounds]
  by_cases e : 2 + k = i
  · subst e; rw [if_pos rfl, if_pos (by rw [wcs_size]; omega), wcs_list _ _ _ _ h]; simp [updV]
  · rw [if_neg e]
    unfold wcs
    match i with
    | 0 => simp
    | 1 => simp
    | i + 2 =>
      rw [Array.getElem?_append_right (by simp), Array.getElem?_append_right (by simp)]
      by_cases hi : i < 448
      · have : i ≠ k := by omega
        simp [hi, updV, this]
      · simp [hi]
/-- a block of the cells of a wheel. -/
def WRow (w : World) (b : Nat) (cs : Array Value) : Prop := w.heap[b]? = some (.cells cs 76 (0, 0))
theorem WRow.cell {w : World} {b : Nat} {cs : Array Value} (h : WRow w b cs) : ∀ o, w.cell? ⟨b, o, none⟩ = cs[o]? := by
  intro o; unfold WRow at h; simp [World.cell?, h]
theorem WRow.free {w : World} {b : Nat} {cs : Array Value} (h : WRow w b cs) : ∀ o, w.frozen? ⟨b, o, none⟩ = false := by
  intro o; unfold WRow at h; simp [World.frozen?, h]
theorem WRow.lt {w : World} {b : Nat} {cs : Array Value} (h : WRow w b cs) : b < w.heap.size := (Array.getElem?_eq_some_iff.1 h).1
theorem WRow.new (w : World) (cs : Array Value) : WRow (w.alloc (.cells cs 76)) w.heap.size cs := heap_alloc_new w _
theorem WRow.keep {w w' : World} {b B : Nat} {cs : Array Value} (h : WRow w b cs) (hb : Below B w w') (hlt : b < B) : WRow w' b cs := (hb.block b hlt).trans h
theorem WRow.below {w w' : World} {b : Nat} {cs : Array Value} (h : WRow w b cs) (hb : Below w.heap.size w w') : WRow w' b cs := (hb.block b h.lt).trans h
theorem WRow.alloc {w : World} {b : Nat} {cs : Array Value} (h : WRow w b cs) (o : Obj) : WRow (w.alloc o) b cs := (Below.heap_alloc _ _ _ h.lt).trans h
theorem WRow.other {w : World} {b r o : Nat} {cs : Array Value} {v : Value} (h : WRow w r cs) (hne : r ≠ b) : WRow (w.setCell ⟨b, o, none⟩ v) r cs := (Below.heap_setCell _ _ _ _ hne).trans h
theorem WRow.set {w : World} {b o : Nat} {cs : Array Value} {v : Value} (h : WRow w b cs) : WRow (w.setCell ⟨b, o, none⟩ v) b (cs.setIfInBounds o v) := heap_setCell_same w b o _ 76 _ h
def nilL : Nat → Value := fun _ => .slice none 0 0
theorem wheel_built (n : Int) : Try.prog.built 76 [(0, .int .i64 n)] = some (wcs n (.map none) nilL) := by kernel_rfl
theorem isTime_any (n : Int) (w : World) : Calls Try.prog 46 #[.int .i64 n] w fun e w' => e = .returned (.bool (decide (0 ≤ n) && decide (n ≤ 1099511627776))) ∧ w' = w := by
  go_enter Try.func46, Try.ntmps46
  by_cases h0 : 0 ≤ n
  · by_cases h1 : n ≤ 1099511627776
    · go_wp2
      go_ret
      exact ⟨by simp [h0, h1], rfl⟩
    · go_wp2
      go_ret
      exact ⟨by simp [h0, h1], rfl⟩
  · go_wp2
    go_ret
    exact ⟨by rw [decide_eq_false (show ¬ 0 ≤ n by omega)]; rfl, rfl⟩
theorem now_nil (w : World) : Calls Try.prog 19 #[.pointer none] w fun e w' => e = .returned (.int .i64 0) ∧ w' = w := by
  go_enter Try.func19, Try.ntmps19
  go_wp2
  go_ret
  exact ⟨rfl, rfl⟩
theorem many_nil (w : World) : Calls Try.prog 20 #[.pointer none] w fun e w' => e = .returned (.int .i64 0) ∧ w' = w := by
  go_enter Try.func20, Try.ntmps20
  go_wp2
  go_ret
  exact ⟨rfl, rfl⟩
theorem due_nil (i : Int) (w : World) : Calls Try.prog 16 #[.pointer none, .int .i64 i] w fun e w' => e = .returned (.tuple #[.int .i64 0, .bool false]) ∧ w' = w := by
  go_enter Try.func16, Try.ntmps16
  go_wp2
  go_ret2
  exact ⟨rfl, rfl⟩
theorem arm_nil (i n : Int) (w : World) : Calls Try.prog 17 #[.pointer none, .int .i64 i, .int .i64 n] w fun e w' => e = .returned (.int .i64 7) ∧ w' = w := by
  go_enter Try.func17, Try.ntmps17
  go_wp2
  go_ret
  exact ⟨rfl, rfl⟩
theorem cancel_nil (i : Int) (w : World) : Calls Try.prog 18 #[.pointer none, .int .i64 i] w fun e w' => e = .returned (.int .i64 7) ∧ w' = w := by
  go_enter Try.func18, Try.ntmps18
  go_wp2
  go_ret
  exact ⟨rfl, rfl⟩
theorem advance_nil (n : Int) (w : World) : Calls Try.prog 15 #[.pointer none, .int .i64 n] w fun e w' => e = .returned (.tuple #[.slice none 0 0, .int .i64 7]) ∧ Below w.heap.size w w' := by
  have hB := (Below.refl w.heap.size w).alloc (Nat.le_refl _) (.cells #[.pointer none] 35)
  go_enter Try.func15, Try.ntmps15
  go_wp2
  go_ret2
  exact ⟨rfl, hB⟩
set_option maxRecDepth 10000 in
theorem len64_10 (w : World) : Calls Try.prog 87 #[.int .u64 10] w fun e w' => e = .returned (.int .i64 4) ∧ w' = w := by
  go_enter Try.func87, Try.ntmps87
  go_wp2
  go_ret
  exact ⟨by kernel_rfl, rfl⟩
theorem digit_9 (w : World) : Calls Try.prog 70 #[.int .i64 9, .int .i64 0] w fun e w' => e = .returned (.int .i64 9) ∧ w' = w := by
  go_enter Try.func70, Try.ntmps70
  go_wp2
  go_ret
  exact ⟨rfl, rfl⟩
end Go.Proofs.Ytpkjhjpfhlfecac
