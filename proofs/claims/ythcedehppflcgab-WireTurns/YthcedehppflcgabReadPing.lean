/-
  The walk of what is a Ping's own in a packet read off a frame.
-/
import Derived.Test.YthcedehppflcgabParse1
namespace Go.Proofs.Ythcedehppflcgab
open Go.ChangeShapes Go.WideShapes Go.ChangeAt Go.RowKit

/-- a block of twelve cells. -/
def Twelve (w : World) (b : Nat) (cs : Array Value) : Prop := w.heap[b]? = some (.cells cs 23 (0, 0))
theorem Twelve.cell {w : World} {b : Nat} {cs : Array Value} (h : Twelve w b cs) : ∀ o, w.cell? ⟨b, o, none⟩ = cs[o]? := by
  intro o
  unfold Twelve at h
  simp [World.cell?, h]
theorem Twelve.free {w : World} {b : Nat} {cs : Array Value} (h : Twelve w b cs) : ∀ o, w.frozen? ⟨b, o, none⟩ = false := by
  intro o
  unfold Twelve at h
  simp [World.frozen?, h]
theorem Twelve.set {w : World} {b : Nat} {cs : Array Value} (h : Twelve w b cs) (o : Nat) (v : Value) : Twelve (w.setCell ⟨b, o, none⟩ v) b (cs.setIfInBounds o v) := setCell_row h
theorem Twelve.drewN {w : World} {b : Nat} {cs : Array Value} (h : Twelve w b cs) (q : Nat) : Twelve (w.drewN q) b cs := h
theorem step_set0 {w : World} {b o : Nat} {v : Value} : Step b none none w (w.setCell ⟨b, o, none⟩ v) :=
  ⟨rfl, rfl, rfl, by simp [World.setCell], fun i _ hi _ => Below.heap_setCell _ _ _ _ hi, .inl rfl⟩
theorem step_drewN0 (p q : Nat) (w : World) : Step p none none w (w.drewN q) := by
  refine ⟨?_, ?_, ?_, ?_, ?_, .inl rfl⟩ <;> first | rfl | simp

set_option maxHeartbeats 1000000 in
theorem readPing_asks (b : Nat) (s : ByteArray) (w : World) (v0 v1 v3 v5 v6 v9 v10 v11 : Value) (h28 : 28 ≤ s.size) (hs : s.size ≤ 65535)
    (hb : Twelve w b #[v0, v1, .int .i64 0, v3, .int .i64 0, v5, v6, .int .i64 0, .int .i64 0, v9, v10, v11]) (hf : byt s.data.toList 20 = 8) :
    Calls Try.prog 54 #[.pointer (some ⟨b, 0, none⟩), .string (s.extract 20 s.size)] w fun e w' => e = .returned (.tuple #[]) ∧
      Twelve w' b #[v0, v1, .int .i64 (wAt s.data.toList 24), v3, .int .i64 0, v5, v6, .int .i64 8, .int .i64 (wAt s.data.toList 26), v9, v10, v11] ∧ Step b none none w w' := by
  have hc := hb.cell
  have hz := hb.free
  have z2 : (s.extract 20 s.size).size = s.size - 20 := ext_size s 20 s.size (Nat.le_refl _)
  have z4 : ((s.extract 20 s.size).size : Int) = (s.size : Int) - 20 := by omega
  have z5 : (0 : Int) < (s.size : Int) - 20 := by omega
  have ge0 : ∀ h, (((s.extract 20 s.size)[0]'h).toNat : Int) = 8 := fun h => by rw [get_ext s 0 h, hf]
  have sd : ∀ (w : World) (n : Nat) (a : Addr) (v : Value), (w.drewN n).setCell a v = (w.setCell a v).drewN n := fun _ _ _ _ => rfl
  go_enter Try.func54, Try.ntmps54
  go_wp2
  go_region_held3 (fun _ => True) (trivial) (first
    | (go_at_call 49; refine (wAtPD_any s _ _ (by omega) hs (by omega) (by omega)).mono ?_; rintro e w' ⟨rfl, q, rfl⟩; simp only [Int.reduceToNat, Nat.reduceAdd]))
  all_goals
    go_wp2_with (go_at_call 49; refine (wAtPD_any s _ _ (by omega) hs (by omega) (by omega)).mono ?_; rintro e w' ⟨rfl, q, rfl⟩; simp only [Int.reduceToNat, Nat.reduceAdd])
  all_goals
    go_end0
    exact ⟨rfl, (((hb.set 7 _).set 8 _).set 2 _).drewN _, ((step_set0.trans step_set0).trans step_set0).trans (step_drewN0 _ _ _)⟩
set_option maxHeartbeats 1000000 in
theorem readPing_answers (b : Nat) (s : ByteArray) (w : World) (v0 v1 v3 v5 v6 v9 v10 v11 : Value) (h28 : 28 ≤ s.size) (hs : s.size ≤ 65535)
    (hb : Twelve w b #[v0, v1, .int .i64 0, v3, .int .i64 0, v5, v6, .int .i64 0, .int .i64 0, v9, v10, v11]) (hf : byt s.data.toList 20 = 0) :
    Calls Try.prog 54 #[.pointer (some ⟨b, 0, none⟩), .string (s.extract 20 s.size)] w fun e w' => e = .returned (.tuple #[]) ∧
      Twelve w' b #[v0, v1, .int .i64 0, v3, .int .i64 (wAt s.data.toList 24), v5, v6, .int .i64 0, .int .i64 (wAt s.data.toList 26), v9, v10, v11] ∧ Step b none none w w' := by
  have hc := hb.cell
  have hz := hb.free
  have z2 : (s.extract 20 s.size).size = s.size - 20 := ext_size s 20 s.size (Nat.le_refl _)
  have z4 : ((s.extract 20 s.size).size : Int) = (s.size : Int) - 20 := by omega
  have z5 : (0 : Int) < (s.size : Int) - 20 := by omega
  have ge0 : ∀ h, (((s.extract 20 s.size)[0]'h).toNat : Int) = 0 := fun h => by rw [get_ext s 0 h, hf]
  have sd : ∀ (w : World) (n : Nat) (a : Addr) (v : Value), (w.drewN n).setCell a v = (w.setCell a v).drewN n := fun _ _ _ _ => rfl
  go_enter Try.func54, Try.ntmps54
  go_wp2
  go_region_held3 (fun _ => True) (trivial) (first
    | (go_at_call 49; refine (wAtPD_any s _ _ (by omega) hs (by omega) (by omega)).mono ?_; rintro e w' ⟨rfl, q, rfl⟩; simp only [Int.reduceToNat, Nat.reduceAdd]))
  all_goals
    go_wp2_with (go_at_call 49; refine (wAtPD_any s _ _ (by omega) hs (by omega) (by omega)).mono ?_; rintro e w' ⟨rfl, q, rfl⟩; simp only [Int.reduceToNat, Nat.reduceAdd])
  all_goals
    go_end0
    exact ⟨rfl, (((hb.set 7 _).set 8 _).set 4 _).drewN _, ((step_set0.trans step_set0).trans step_set0).trans (step_drewN0 _ _ _)⟩
end Go.Proofs.Ythcedehppflcgab
