/-
  The walks of the helpers of the exact statements on wire.
-/
import Derived.Test.YthcedehppflcgabKeepW
import Derived.Deep.RegionHeld3
namespace Go.Proofs.Ythcedehppflcgab
open Go.ChangeShapes Go.WideShapes Go.ChangeAt Go.RowKit

theorem below_undr {W w' : World} (h : Below W.drew.heap.size W.drew w') : Below W.heap.size W w' := ⟨h.os, h.tape, h.output, h.size, h.block⟩
theorem ping_any (w : World) : Calls Try.prog 28 #[] w fun e w' => e = .returned (pv ping0) ∧ Below w.heap.size w w' := by
  go_enter Try.func28, Try.ntmps28
  go_wp2
  exact bodyPost_ret (v := pv ping0) (by simp [results, Try.results28, go_sem, pv, ping0]; rfl) rfl ⟨rfl, (Below.refl _ _).alloc (Nat.le_refl _) _⟩
set_option maxHeartbeats 1000000 in
theorem buildsLaw_any (w : World) : Calls Try.prog 11 #[] w fun e w' => e = .returned (.bool true) ∧ Below w.heap.size w w' := by
  have h1 := built_ok ping0 ping0_good
  have h2 := frame_size ping0 ping0_good
  have h3 : flen ping0 = 28 := by decide
  have hbk := frame_back ping0 ping0_good
  have C : ∀ w, Calls Try.prog 16 #[pv ping0] w fun e w' => e = .returned (.tuple #[.string (txt (frame ping0)), .int .i64 0]) ∧ Below w.heap.size w w' := by
    intro w
    have := build_any ping0 w (by decide)
    rw [h1, ping0_good] at this; exact this
  have D : ∀ w, Calls Try.prog 9 #[.string (txt (frame ping0))] w fun e w' => e = .returned (.tuple #[pv ping0, .int .i64 0]) ∧ Below w.heap.size w w' := by
    intro w
    have := parse_any (txt (frame ping0)) w (by omega)
    rw [txt_list, hbk.1, hbk.2] at this; exact this
  have h4 : (txt (frame ping0)).size = 28 := by omega
  clear h1 h2 h3 hbk
  generalize txt (frame ping0) = t0 at *
  have hB := Below.refl w.heap.size w
  unfold ping0 pv at C D
  go_enter Try.func11, Try.ntmps11
  go_wp2_with (first
    | (go_at_call 28; refine (ping_any _).mono ?_; rintro e w' ⟨rfl, hb⟩; replace hB := hB.trans (hb.mono hB.size); unfold ping0 pv)
    | (go_at_call 16; go_fit (C _); rintro e w' ⟨rfl, hb⟩; replace hB := hB.trans (hb.mono hB.size))
    | (go_at_call 9; go_fit (D _); rintro e w2 ⟨rfl, hb⟩; replace hB := hB.trans (hb.mono hB.size)))
  have T0 : Twelve (w2.alloc (.cells #[.int .i64 1, .int .i64 1, .int .i64 7, .int .i64 2, .int .i64 0, .int .i64 9, .int .i64 0, .int .i64 8, .int .i64 0, .int .i64 0, .int .i64 0, .string ByteArray.empty] 23)) w2.heap.size #[.int .i64 1, .int .i64 1, .int .i64 7, .int .i64 2, .int .i64 0, .int .i64 9, .int .i64 0, .int .i64 8, .int .i64 0, .int .i64 0, .int .i64 0, .string ByteArray.empty] := heap_alloc_new w2 _
  replace hB := hB.alloc hB.size (.cells #[.int .i64 1, .int .i64 1, .int .i64 7, .int .i64 2, .int .i64 0, .int .i64 9, .int .i64 0, .int .i64 8, .int .i64 0, .int .i64 0, .int .i64 0, .string ByteArray.empty] 23)
  have c0 := T0.cell
  go_region_held3 (fun w' => w'.cell? ⟨w2.heap.size, 0, none⟩ = some (.int .i64 1) ∧ w'.cell? ⟨w2.heap.size, 1, none⟩ = some (.int .i64 1) ∧ w'.cell? ⟨w2.heap.size, 2, none⟩ = some (.int .i64 7) ∧ w'.cell? ⟨w2.heap.size, 3, none⟩ = some (.int .i64 2) ∧ w'.cell? ⟨w2.heap.size, 4, none⟩ = some (.int .i64 0) ∧ w'.cell? ⟨w2.heap.size, 5, none⟩ = some (.int .i64 9) ∧ w'.cell? ⟨w2.heap.size, 6, none⟩ = some (.int .i64 0) ∧ w'.cell? ⟨w2.heap.size, 7, none⟩ = some (.int .i64 8) ∧ w'.cell? ⟨w2.heap.size, 8, none⟩ = some (.int .i64 0) ∧ w'.cell? ⟨w2.heap.size, 9, none⟩ = some (.int .i64 0) ∧ w'.cell? ⟨w2.heap.size, 10, none⟩ = some (.int .i64 0) ∧ w'.cell? ⟨w2.heap.size, 11, none⟩ = some (.string ByteArray.empty))
    (first | exact ⟨T0.cell 0, T0.cell 1, T0.cell 2, T0.cell 3, T0.cell 4, T0.cell 5, T0.cell 6, T0.cell 7, T0.cell 8, T0.cell 9, T0.cell 10, T0.cell 11⟩ | go_keep)
    (first | (go_at_call 28; refine (ping_any _).mono ?_; rintro e w' ⟨rfl, hb⟩; replace hb := below_undr hb; replace T0 := T0.below hb; replace hB := hB.trans (hb.mono hB.size); unfold ping0 pv))
  all_goals
    go_wp2
    go_ret
    exact ⟨rfl, hB⟩
end Go.Proofs.Ythcedehppflcgab
