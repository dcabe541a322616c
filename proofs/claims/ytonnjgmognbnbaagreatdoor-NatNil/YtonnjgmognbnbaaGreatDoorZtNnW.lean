/-
  Of what a law stands on.
-/
import Derived.Test.YtonnjgmognbnbaaGreatDoorZtn1
set_option linter.unusedSimpArgs false
set_option linter.unusedVariables false
namespace Go.Proofs.YtonnjgmognbnbaaGreatDoor
open Go.Value renaming int → I,pointer → V
open Go.IntKind renaming i64 → Z
open _root_.Go.Proofs.Tryz Go.ChangeShapes Go.WideShapes Go.ChangeAt Go.RowKit
set_option maxHeartbeats 16000000
set_option maxRecDepth 100000
theorem natNil_walk(a:Ac)(w:World)(ha:a.ok)(hT:Tab w):Calls prog 3 #[.agg (ac a)] w fun e w'=>e=.returned (.bool true)/\Below w.heap.size w w':=by
 refine m2a ?_;intro hB;(have CD:=fun w=>qyab a w);(have CN:=fun w=>qx5b w);(have CT:=fun w=>qx7b w);(have CF:=fun w=>qx6b w);(have CS:=fun w=>qx8b w);clear ha hT
 go_enter func3,ntmps3
 go_wp2_with (first|((with_reducible refine gB 23 0 ?_);refine bx 23 (.tmp 0) (ac a) ?_;intro b1 w1 l1 R1 hb1;refine m5a ?_;clear hB;intro hB)|((with_reducible refine gL 23 1 ?_);refine lx 23 (.tmp 1) (ac a) R1 ?_)|(go_at_call 18;go_fit (CD _);rintro e w5 ⟨rfl,hb5⟩;refine m2s ?_;clear hB;intro hB)|((with_reducible refine qaa (.build 27 #[(0,.const (I Z 7))]) rfl ?_);refine qt8 27 (.const (I Z 7)) rfl rfl (I Z 7) (.agg (rc0 7)) kr (qp0 7) ?_)|((with_reducible refine qaa (.binOp .eql 27 (.tmp 6) (.tmp 7) 27) rfl ?_);refine qb1 27 (.tmp 6) (.tmp 7) rfl rfl (rc0 7) (rc0 7) kr kr eqGuardType27 _ true (qx9b 7 _) rfl ?_)|(go_at_call 19;go_fit (CN _);refine m0h ?_)|(go_at_call 21;go_fit (CT _);rintro e w5 ⟨rfl,hb5⟩;refine m2s ?_;clear hB;intro hB)|((with_reducible refine qaa (.build 39 #[]) rfl ?_);refine qx2b 39 rfl ?_ (.agg tz) qx3b ?_;· kernel_rfl)|(go_at_call 20;go_fit (CS _);rintro e w5 ⟨rfl,hb5⟩;refine m2s ?_;clear hB;intro hB)|(go_at_call 22;go_fit (CF _);refine m0h ?_))
 go_ret
 exact⟨rfl,hB⟩
end Go.Proofs.YtonnjgmognbnbaaGreatDoor
