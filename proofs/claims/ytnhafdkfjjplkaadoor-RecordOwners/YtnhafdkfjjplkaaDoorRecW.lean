/-
  The walk of RecordOwners.
-/
import Derived.Test.YtnhafdkfjjplkaaDoorRecC
import Derived.Test.YtnhafdkfjjplkaaDoorRecL
import Derived.Test.YtnhafdkfjjplkaaDoorRecQ
import Derived.Test.YtnhafdkfjjplkaaDoorRecR
import Derived.Test.YtnhafdkfjjplkaaDoorPoolQ
import Derived.Test.YtnhafdkfjjplkaaDoorRecW0
namespace Go.Proofs.YtnhafdkfjjplkaaDoor
open Go.ChangeShapes Go.WideShapes Go.ChangeAt Go.RowKit
set_option linter.unusedSimpArgs false
set_option linter.unusedVariables false

set_option maxRecDepth 10000 in
set_option maxHeartbeats 8000000 in
theorem recordOwners_walk (sl : Value) (es : List Ev) (w : World) (hM : EvAt w sl es) (hT : Tab w) : Calls Tryd.prog 5 #[sl] w fun x w' => x = .returned (.bool true) ∧ Below w.heap.size w w' := by
  have hB := Below.refl w.heap.size w
  have hwf := walkO_wf es
  have C1 := fun (sl : Value) (w : World) (h : EvAt w sl es) => owners_any sl es w h
  have C2 := fun (sl : Value) (w : World) (h : EvAt w sl es) => ownersRef_any sl es w h
  unfold ownS at C1 C2
  generalize (walkO z0 es).1 = E at C1 C2
  generalize (walkO z0 es).2 = F at C1 C2 hwf
  obtain ⟨a0, cap, hsl⟩ := hM.slice
  subst hsl
  generalize es.length = n at *
  go_enter Tryd.func5, Tryd.ntmps5
  go_wp2_with (first
    | (at_builtin; refine wpList_copyE rfl (.const (.slice none 0 0)) (.tmp 8) rfl _ es hM rfl rfl ?_; intro v2 w2 hM2 hb2; replace hB := hB.trans (hb2.mono hB.size))
    | (go_at_call 17; refine (C1 _ _ hM2).mono ?_; rintro x w5 ⟨rfl, hb5⟩; replace hB := hB.trans (hb5.mono hB.size))
    | ((with_reducible refine atOp (.alloc 39) rfl ?_); refine wpList_allocX 3 39 rfl rfl rfl _ pool_zero ?_; intro b3 w3 l3 R3 hb3; replace l3 := Nat.le_trans hB.size l3; replace hB := hB.trans (hb3.mono hB.size))
    | ((with_reducible refine atOp (.store 39 (.tmp 3) (.tmp 11)) rfl ?_); refine wpList_storeR 39 rfl (.tmp 3) (.tmp 11) rfl b3 rfl (pc F g0') rfl _ R3 rfl (pc_info _ _) (pc_one _ _) ?_; intro w6 R3 t6; replace hB := t6.below _ _ l3 hB)
    | (go_at_call 18; refine (C2 _ _ (hM.keep hB hM.lt)).mono ?_; rintro x w5 ⟨rfl, hb5⟩; replace R3 := R3.below hb5; replace hB := hB.trans (hb5.mono hB.size))
    | ((with_reducible refine atOp (.alloc 39) rfl ?_); refine wpList_allocX 5 39 rfl rfl rfl _ pool_zero ?_; intro b5 w3 l5 R5 hb3; have n35 := R3.ne l5; replace l5 := Nat.le_trans hB.size l5; replace R3 := R3.below hb3; replace hB := hB.trans (hb3.mono hB.size))
    | ((with_reducible refine atOp (.store 39 (.tmp 5) (.tmp 16)) rfl ?_); refine wpList_storeR 39 rfl (.tmp 5) (.tmp 16) rfl b5 rfl (pc F g0') rfl _ R5 rfl (pc_info _ _) (pc_one _ _) ?_; intro w6 R5 t6; replace R3 := t6.row R3 n35; replace hB := t6.below _ _ l5 hB)
    | ((with_reducible refine atOp (.load 39 (.tmp 3)) rfl ?_); refine wpList_loadR 39 (.tmp 3) rfl rfl b3 rfl (pc F g0') R3 _ Tryd.underlying39 rfl (pc_info _ _) ?_)
    | ((with_reducible refine atOp (.load 39 (.tmp 5)) rfl ?_); refine wpList_loadR 39 (.tmp 5) rfl rfl b5 rfl (pc F g0') R5 _ Tryd.underlying39 rfl (pc_info _ _) ?_)
    | ((with_reducible refine atOp (.binOp .eql 39 (.tmp 18) (.tmp 19) 39) rfl ?_); refine wpList_eqS 39 (.tmp 18) (.tmp 19) rfl rfl (pc F g0') (pc F g0') rfl rfl Tryd.eqGuardType39 _ true (run_eqp F g0' hwf _) rfl ?_)
    | (go_at_call 14; refine (tells_any _ (hT.keep hB hT.lt)).mono ?_; rintro x w5 ⟨rfl, hb5⟩; replace hB := hB.trans (hb5.mono hB.size)))
  go_ret
  exact ⟨rfl, hB⟩
end Go.Proofs.YtnhafdkfjjplkaaDoor
