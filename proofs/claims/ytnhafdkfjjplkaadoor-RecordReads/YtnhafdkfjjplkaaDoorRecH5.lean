/-
  Messages, read one behind the other.
-/
import Derived.Test.YtnhafdkfjjplkaaDoorRecH4
namespace Go.Proofs.YtnhafdkfjjplkaaDoor
open Go.ChangeShapes Go.WideShapes Go.ChangeAt Go.RowKit
set_option linter.unusedSimpArgs false
set_option linter.unusedVariables false

def leftN (w : World) (p : Nat) : Nat := match w.cell? ⟨p, 0, none⟩ with
  | some (.string s) => s.size
  | _ => 0
theorem leftN_of {w : World} {p : Nat} {l : List UInt8} {d : Bool} {v : Value} (R : Rdr w p l d v) : leftN w p = l.length := by
  unfold leftN
  rw [Row.cell R 0]
  simp [rc, txt_size]
theorem reader_build (s : ByteArray) (w : World) : (Instr.build 61 #[(0, .string s)]).run Tryd.prog w = .ok (.agg #[.string s, .bool false, .slice none 0 0]) w := by kernel_rfl
/-- what Read answers. -/
def Reads (base : Nat) (l : List UInt8) (x : Ending) (w' : World) : Prop := ∃ v, x = .returned (.tuple #[v, .int .i64 (runM l.length l false []).1]) ∧ EvAt w' v (runM l.length l false []).2
set_option maxRecDepth 10000 in
set_option maxHeartbeats 8000000 in
theorem read_any (l : List UInt8) (w : World) (hT : Tab w) (hl : l.length ≤ 140737488351232) :
    Calls Tryd.prog 15 #[.string (txt l)] w fun x w' => Reads w.heap.size l x w' ∧ Below w.heap.size w w' := by
  have hB := Below.refl w.heap.size w
  have hw0 := hT.lt
  go_enter Tryd.func15, Tryd.ntmps15
  go_wp2_with (first
    | ((with_reducible refine atOp (.box 61 (.tmp 7)) rfl ?_); refine wpList_boxR 61 rfl _ rfl (rc l false (.slice none 0 0)) rfl ?_; intro p w2 gp R hb2; have hE := EvO.nil w2 (p + 1); replace hB := hB.trans (hb2.mono hB.size)))
  have hp : p ≠ 0 := by omega
  go_loopw [5] (fun _ W => ∃ n m d v es, m.length ≤ n ∧ m.length ≤ l.length ∧ Hid (runM l.length l false [] = runM n m d es) ∧ Rdr W p m d v ∧ EvO W (p + 1) v es ∧ es.length ≤ 4294970500 ∧ Below w.heap.size w W) (fun _ W => leftN W p)
  case atStart => exact ⟨l.length, l, false, _, [], Nat.le_refl _, Nat.le_refl _, rfl, R, hE, by simp, hB⟩
  case round =>
    clear hB R hE
    obtain ⟨n, m, d, v, es, hmn, hml, HR, R, hE, hes, hB⟩ := hrel
    have hsz : (txt m).size = m.length := txt_size m
    have hTW := hT.keep hB hw0
    by_cases h0 : 0 < m.length
    · obtain ⟨n', rfl⟩ : ∃ n', n = n' + 1 := ⟨n - 1, by omega⟩
      have h0' : (0 : Int) < (m.length : Int) := by omega
      have CM := messageM_any p m d v es _ R hE hTW hp (by omega) hes
      by_cases hs : (stepM m d es).1 = 0
      · have CO : Calls Tryd.prog 27 #[.pointer (some ⟨p, 0, none⟩)] _ fun x w' => x = .returned (.int .i64 0) ∧ (∃ l' d' v' es', stepM m d es = (0, l', d', es') ∧ Rdr w' p l' d' v' ∧ EvO w' (p + 1) v' es' ∧ l'.length < m.length ∧ es'.length ≤ 4294970500) ∧ Below p _ w' := CM.mono (by
          rintro x w' ⟨hb, ⟨_, h⟩ | ⟨h, r⟩⟩
          · exact absurd hs h
          · exact ⟨h, r, hb⟩)
        clear CM hs
        have HM : Hid (leftN _ p = m.length) := leftN_of R
        go_wp2_with (first
          | ((with_reducible refine atOp (.load 9 (.tmp 11)) rfl ?_); refine wpList_loadS R _ rfl rfl 0 rfl (txt m) rfl ?_)
          | (go_at_call 27; refine CO.mono ?_; rintro x w5 ⟨rfl, ⟨l', d', v', es', hst, R', hE', hlt', hes'⟩, hb5⟩; replace hB := hB.trans (hb5.mono gp)))
        go_roundw
        case rel => first | exact ⟨n', l', d', v', es', by omega, by omega, (by show _ = _; rw [HR.out, runM_ok n' m d es (by omega) hst]), R', hE', hes', hB⟩ | ((repeat apply Exists.intro); exact ⟨⟨n', l', d', v', es', by omega, by omega, (by show _ = _; rw [HR.out, runM_ok n' m d es (by omega) hst]), R', hE', hes', hB⟩, rfl⟩)
        case measure => rw [HM.out, leftN_of R']; exact hlt'
      · obtain ⟨E, hEE⟩ : ∃ E, (stepM m d es).1 = E := ⟨_, rfl⟩
        have CE : Calls Tryd.prog 27 #[.pointer (some ⟨p, 0, none⟩)] _ fun x w' => x = .returned (.int .i64 E) ∧ Below p _ w' := CM.mono (by
          rintro x w' ⟨hb, ⟨h, _⟩ | ⟨_, _, _, _, _, h, _⟩⟩
          · rw [hEE] at h; exact ⟨h, hb⟩
          · rw [h] at hs; exact absurd rfl hs)
        have HX : Hid (runM l.length l false [] = (E, [])) := by show _ = _; rw [HR.out, runM_err n' m d es (by omega) hs, hEE]
        rw [hEE] at hs
        have hE0 : (E != 0) = true := by simpa using hs
        clear CM hs hEE HR
        go_wp2_with (first
          | ((with_reducible refine atOp (.load 9 (.tmp 11)) rfl ?_); refine wpList_loadS R _ rfl rfl 0 rfl (txt m) rfl ?_)
          | (go_at_call 27; refine CE.mono ?_; rintro x w5 ⟨rfl, hb5⟩; replace hB := hB.trans (hb5.mono gp)))
        go_ret2
        exact ⟨⟨.slice none 0 0, by rw [HX.out]; rfl, by rw [HX.out]; exact ⟨none, 0, rfl, fun h => absurd h (by simp), fun j hj => absurd hj (by simp), by simp⟩⟩, hB⟩
    · have HX : Hid (runM l.length l false [] = (0, es)) := by show _ = _; rw [HR.out, runM_end n m d es (by omega)]
      have h0' : ¬ (0 : Int) < (m.length : Int) := by omega
      have hA := hE.at (by omega)
      clear HR
      obtain ⟨sa, sc, hsl⟩ := hE.slice
      subst hsl
      go_wp2_with (first
        | ((with_reducible refine atOp (.load 9 (.tmp 11)) rfl ?_); refine wpList_loadS R _ rfl rfl 0 rfl (txt m) rfl ?_)
        | ((with_reducible refine atOp (.load 22 (.tmp 22)) rfl ?_); refine wpList_loadL R _ rfl rfl 2 rfl (.slice sa es.length sc) rfl ?_))
      go_ret2
      exact ⟨⟨_, by rw [HX.out]; rfl, by rw [HX.out]; exact hA⟩, hB⟩
end Go.Proofs.YtnhafdkfjjplkaaDoor
