/-
  The walk of the document's own bytes of a number.
-/
import Derived.Test.YtcmccdeknhefhaaDoorBe
import Derived.Test.YtcmccdeknhefhaaDoorRows
import Derived.WalkKit
import Derived.ProofKit
import Derived.OpenShut
import Derived.Laws.IdiomStrings
import Derived.Below
import Derived.Deep.DeepFit
namespace Go.Proofs.YtcmccdeknhefhaaDoor
open Go.ChangeShapes Go.WideShapes Go.ChangeAt Go.RowKit

theorem byte_text (w : World) (c : UInt8) (x : Int) (hx : x = (c.toNat : Int)) : (convert 38 9 (.slice (some ⟨w.heap.size, 0, none⟩) 1 1)).run Tryd.prog (w.alloc (.cells #[.int .u8 x] 5)) = .ok (.string ⟨#[c]⟩) (w.alloc (.cells #[.int .u8 x] 5)) := by
  subst hx
  refine run_convert_bytes_back (P := Tryd.prog) (w.alloc (.cells #[.int .u8 (c.toNat : Int)] 5)) 38 9 5 ⟨w.heap.size, 0, none⟩ 1 [c] Tryd.underlying38 Tryd.underlying5 Tryd.underlying9 ?_
  intro j hj
  have hj' : j = 0 := by simp at hj; omega
  subst hj'
  exact World.cell?_alloc_mark w #[.int .u8 (c.toNat : Int)] 5 (0, 0) 0
/-- a text as bytes: a new block whose first cells are its bytes. -/
theorem bytes_new (s : ByteArray) (w : World) : ∃ (C : Array Value) (cap : Nat),
    (convert 9 38 (.string s)).run Tryd.prog w = .ok (.slice (some ⟨w.heap.size, 0, none⟩) s.size cap) (w.drew.alloc (.cells C 5 (C.size, C.size + 1))) ∧
    ∀ (j : Nat) (h : j < s.size), (w.alloc (.cells C 5 (C.size, C.size + 1))).cell? ⟨w.heap.size, j, none⟩ = some (.int .u8 (s[j].toNat : Int)) := by
  refine ⟨_, _, run_bytes_of_string w 9 38 5 s Tryd.underlying9 Tryd.underlying38 Tryd.underlying5, fun j h => ?_⟩
  exact (World.cell?_alloc_mark w _ 5 _ j).trans (bytesRow_at s _ j (by simpa using h))
end Go.Proofs.YtcmccdeknhefhaaDoor
