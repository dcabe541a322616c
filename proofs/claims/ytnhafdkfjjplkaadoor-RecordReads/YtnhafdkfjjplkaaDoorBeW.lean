/-
  The walk of the document's own bytes of a number.
-/
import Derived.Test.YtnhafdkfjjplkaaDoorBe
import Derived.Test.YtnhafdkfjjplkaaDoorRows
import Derived.WalkKit
import Derived.ProofKit
import Derived.OpenShut
import Derived.Laws.IdiomStrings
import Derived.Below
import Derived.Deep.DeepFit
namespace Go.Proofs.YtnhafdkfjjplkaaDoor
open Go.ChangeShapes Go.WideShapes Go.ChangeAt Go.RowKit

theorem byte_text (w : World) (c : UInt8) (x : Int) (hx : x = (c.toNat : Int)) : (convert 48 9 (.slice (some ⟨w.heap.size, 0, none⟩) 1 1)).run Tryd.prog (w.alloc (.cells #[.int .u8 x] 5)) = .ok (.string ⟨#[c]⟩) (w.alloc (.cells #[.int .u8 x] 5)) := by
  subst hx
  refine run_convert_bytes_back (P := Tryd.prog) (w.alloc (.cells #[.int .u8 (c.toNat : Int)] 5)) 48 9 5 ⟨w.heap.size, 0, none⟩ 1 [c] Tryd.underlying48 Tryd.underlying5 Tryd.underlying9 ?_
  intro j hj
  have hj' : j = 0 := by simp at hj; omega
  subst hj'
  exact World.cell?_alloc_mark w #[.int .u8 (c.toNat : Int)] 5 (0, 0) 0
set_option maxHeartbeats 1000000 in
theorem bytesOf_any (v : Int) (n : Nat) (w : World) (h0 : 0 ≤ v) (h1 : v ≤ 9223372036854775807) (hn : n ≤ 8) :
    Calls Tryd.prog 26 #[.int .i64 v, .int .i64 (n : Int)] w fun e w' => e = .returned (.string (txt (be v n))) ∧ Below w.heap.size w w' := by
  go_enter Tryd.func26, Tryd.ntmps26
  go_wp2
  go_loopw [0, 1, 5] (fun x m s W => ∃ k : Nat, k ≤ n ∧ x = .int .i64 (hi v k) ∧ m = .int .i64 ((n - k : Nat) : Int) ∧ s = .string (txt (be v k)) ∧ Below w.heap.size w W) (fun _ m _ _ => (intOf m).toNat)
  case atStart => exact ⟨0, by omega, rfl, by simp, rfl, Below.refl _ _⟩
  case round =>
    obtain ⟨k, hk, rfl, rfl, rfl, hB⟩ := hrel
    obtain ⟨b0, b1⟩ := hi_bd v h0 h1 k
    by_cases hlt : k < n
    · have HB : Hid (be v (k + 1) = [b8 (hi v k)] ++ be v k) := be_next v k
      have hx : IntKind.u8.wrap (hi v k % 256) = ((b8 (hi v k)).toNat : Int) := by rw [wrap_u8, b8_nat]; omega
      have hc := fun W => byte_text W (b8 (hi v k)) _ rfl
      have hsz : (txt (be v k)).size = k := by rw [txt_size, be_len]
      have hs : ((n - k : Nat) : Int) - 1 = ((n - (k + 1) : Nat) : Int) := by omega
      have hp : (0 : Int) < ((n - k : Nat) : Int) := by omega
      go_wp2
      go_roundw
      case rel => exact ⟨k + 1, by omega, rfl, rfl, by rw [HB.out, txt_cons], hB.alloc hB.size _⟩
      case measure => simp [intOf]; omega
    · have e : k = n := by omega
      subst e
      go_wp2
      go_ret
      exact ⟨rfl, hB⟩
/-- a text as bytes: a new block whose first cells are its bytes. -/
theorem bytes_new (s : ByteArray) (w : World) : ∃ (C : Array Value) (cap : Nat),
    (convert 9 48 (.string s)).run Tryd.prog w = .ok (.slice (some ⟨w.heap.size, 0, none⟩) s.size cap) (w.drew.alloc (.cells C 5 (C.size, C.size + 1))) ∧
    ∀ (j : Nat) (h : j < s.size), (w.alloc (.cells C 5 (C.size, C.size + 1))).cell? ⟨w.heap.size, j, none⟩ = some (.int .u8 (s[j].toNat : Int)) := by
  refine ⟨_, _, run_bytes_of_string w 9 48 5 s Tryd.underlying9 Tryd.underlying48 Tryd.underlying5, fun j h => ?_⟩
  exact (World.cell?_alloc_mark w _ 5 _ j).trans (bytesRow_at s _ j (by simpa using h))
end Go.Proofs.YtnhafdkfjjplkaaDoor
