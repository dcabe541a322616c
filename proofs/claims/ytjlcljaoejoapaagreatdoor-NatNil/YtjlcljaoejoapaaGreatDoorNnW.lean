/-
  NatNil's walk.
-/
import Derived.Test.YtjlcljaoejoapaaGreatDoorNnA
import Derived.Test.YtjlcljaoejoapaaGreatDoorRecD
namespace Go.Proofs.YtjlcljaoejoapaaGreatDoor
open Go.ChangeShapes Go.WideShapes Go.ChangeAt Go.RowKit
set_option linter.unusedSimpArgs false
set_option linter.unusedVariables false

attribute [local irreducible] tz
set_option maxHeartbeats 2000000 in
theorem natNil_walk (a : Ac) (w : World) (ha : a.ok) (hT : Tab w) : Calls Tryz.prog 3 #[.agg (ac a)] w fun e w' => e = .returned (.bool true) ∧ Below w.heap.size w w' := by
  have hB := Below.refl w.heap.size w
  have CD := fun w => do_nil a w
  have CN := fun w => natNow_nil w
  have CT := fun w => table_nil w
  have CF := fun w => flows_nil w
  have CS := fun w => same_nil w
  clear ha hT
  go_enter Tryz.func3, Tryz.ntmps3
  go_wp2_with (first
    | ((with_reducible refine at_opB (.box 23 (.tmp 0)) rfl ?_); refine wpList_boxR 23 rfl (.tmp 0) rfl (ac a) rfl ?_; intro b1 w1 l1 R1 hb1; replace hB := hB.trans (hb1.mono hB.size))
    | ((with_reducible refine at_opB (.load 23 (.tmp 1)) rfl ?_); refine wpList_loadR 23 (.tmp 1) rfl rfl b1 (by kernel_rfl) (ac a) R1 _ Tryz.underlying23 rfl (by kernel_rfl) ?_)
    | (go_at_call 20; go_fit (CD _); rintro e w5 ⟨rfl, hb5⟩; replace hB := hB.trans (hb5.mono hB.size))
    | ((with_reducible refine at_opB (.build 27 #[(0, .const (.int .i64 7))]) rfl ?_); refine wpList_build1 27 (.const (.int .i64 7)) rfl rfl (.int .i64 7) (.agg (rc0 7)) (by kernel_rfl) (reply_built 7) ?_)
    | ((with_reducible refine at_opB (.binOp .eql 27 (.tmp 6) (.tmp 7) 27) rfl ?_); refine wpList_eqS 27 (.tmp 6) (.tmp 7) rfl rfl (rc0 7) (rc0 7) (by kernel_rfl) (by kernel_rfl) Tryz.eqGuardType27 _ true (eq_reply 7 _) rfl ?_)
    | (go_at_call 21; go_fit (CN _); rintro e w5 ⟨rfl, hw⟩; rw [hw]; clear hw w5)
    | (go_at_call 23; go_fit (CT _); rintro e w5 ⟨rfl, hb5⟩; replace hB := hB.trans (hb5.mono hB.size))
    | ((with_reducible refine at_opB (.build 39 #[]) rfl ?_); refine wpList_build0 39 rfl ?_ (.agg tz) table_built0 ?_; · kernel_rfl)
    | (go_at_call 22; go_fit (CS _); rintro e w5 ⟨rfl, hb5⟩; replace hB := hB.trans (hb5.mono hB.size))
    | (go_at_call 24; go_fit (CF _); rintro e w5 ⟨rfl, hw⟩; rw [hw]; clear hw w5))
  go_ret
  exact ⟨rfl, hB⟩
end Go.Proofs.YtjlcljaoejoapaaGreatDoor
