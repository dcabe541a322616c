/-
  That the program answers at all.
-/
import Derived.Test.YtnhafdkfjjplkaaDoorRecT
import Derived.Test.YtnhafdkfjjplkaaDoorRecO
namespace Go.Proofs.YtnhafdkfjjplkaaDoor
open Go.ChangeShapes Go.WideShapes Go.ChangeAt Go.RowKit
set_option linter.unusedSimpArgs false
set_option linter.unusedVariables false

theorem longB_zero : longBR 0 = true := rfl
theorem okE_zero : okE noE := by unfold okE noE; decide
theorem ev_build (w : World) : (Instr.build 29 #[]).run Tryd.prog w = .ok (.agg (ec noE)) w := by kernel_rfl
theorem tells_any (w : World) (hT : Tab w) : Calls Tryd.prog 14 #[] w fun x w' => x = .returned (.bool true) ∧ Below w.heap.size w w' := by
  have hB := Below.refl w.heap.size w
  have CT : ∀ w, Tab w → Calls Tryd.prog 10 #[.int .i64 0] w fun x w' => x = .returned (.tuple #[.string (txt (msgB 0 0 2 (tplB 6))), .int .i64 0]) ∧ Below w.heap.size w w' := fun w hT => by have := template_any 0 w hT; rw [msgS_yes _ _ _ _ longB_zero] at this; exact this
  have CG : ∀ w, Calls Tryd.prog 12 #[.agg (ec noE)] w fun x w' => x = .returned (.int .i64 0) ∧ Below w.heap.size w w' := fun w => by have := goodEv_any noE w; rw [goodE_yes okE_zero] at this; exact this
  have hsz : (txt (msgB 0 0 2 (tplB 6))).size = 48 := by rw [txt_size, msgB_len, tplB_six]
  go_enter Tryd.func14, Tryd.ntmps14
  go_wp2_with (first
    | (go_at_call 10; go_fit (CT _ hT); rintro x w5 ⟨rfl, hb5⟩; replace hB := hB.trans (hb5.mono hB.size))
    | ((with_reducible refine atOp (.build 29 #[]) rfl ?_); refine wpList_buildZ 29 rfl ?_ _ ev_build ?_; · rfl)
    | (go_at_call 12; go_fit (CG _); rintro x w5 ⟨rfl, hb5⟩; replace hB := hB.trans (hb5.mono hB.size)))
  go_ret
  exact ⟨rfl, hB⟩
theorem tellsKeep_any (w : World) (hT : Tab w) : Calls Tryd.prog 19 #[] w fun x w' => x = .returned (.bool true) ∧ Below w.heap.size w w' := by
  have hB := Below.refl w.heap.size w
  have CT : ∀ w, Tab w → Calls Tryd.prog 10 #[.int .i64 0] w fun x w' => x = .returned (.tuple #[.string (txt (msgB 0 0 2 (tplB 6))), .int .i64 0]) ∧ Below w.heap.size w w' := fun w hT => by have := template_any 0 w hT; rw [msgS_yes _ _ _ _ longB_zero] at this; exact this
  have CG : ∀ w, Calls Tryd.prog 12 #[.agg (ec noE)] w fun x w' => x = .returned (.int .i64 0) ∧ Below w.heap.size w w' := fun w => by have := goodEv_any noE w; rw [goodE_yes okE_zero] at this; exact this
  have hsz : (txt (msgB 0 0 2 (tplB 6))).size = 48 := by rw [txt_size, msgB_len, tplB_six]
  go_enter Tryd.func19, Tryd.ntmps19
  go_wp2_with (first
    | (go_at_call 10; go_fit (CT _ hT); rintro x w5 ⟨rfl, hb5⟩; replace hB := hB.trans (hb5.mono hB.size))
    | ((with_reducible refine atOp (.build 29 #[]) rfl ?_); refine wpList_buildZ 29 rfl ?_ _ ev_build ?_; · rfl)
    | (go_at_call 12; go_fit (CG _); rintro x w5 ⟨rfl, hb5⟩; replace hB := hB.trans (hb5.mono hB.size)))
  go_ret
  exact ⟨rfl, hB⟩
end Go.Proofs.YtnhafdkfjjplkaaDoor
