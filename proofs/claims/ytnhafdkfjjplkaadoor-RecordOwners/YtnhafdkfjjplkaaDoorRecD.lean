/-
  What the listed table gives.
-/
import Derived.Test.YtnhafdkfjjplkaaDoorRecT
import Derived.LaidMore
import Derived.Lib.LaidTab
import Derived.Deep.DeepHandedRow
namespace Go.Proofs.YtnhafdkfjjplkaaDoor
open Go.ChangeShapes Go.WideShapes Go.ChangeAt Go.RowKit
set_option linter.unusedSimpArgs false
set_option linter.unusedVariables false

theorem gParts : Tryd.prog.globalNamed "rentroll/record.parts" = some 0 := by kernel_rfl
theorem gPartsType : (Tryd.prog.globals[0]?).map (·.type) = some 56 := by kernel_rfl
theorem tab_pair {H : Type} {enc : TypeId × Value → H} {w : World} {base : Nat} {sp : Nat → Bool} {held : Bool} {fuel : Nat} {c d : Value} {x : DataW H × List MemPlace} (hf0 : DataW.trod enc Tryd.prog w base sp held fuel 55 [c, d] = some x) : ∃ a b : Int, c = .int .i64 a ∧ d = .int .i64 b ∧ x.1 = .agg [.lit (.int .i64 a), .lit (.int .i64 b)] := by
  have cI : Tryd.prog.cellsOf 3 = 1 := by kernel_rfl
  obtain ⟨ys, m, _, hx, _, hl, hf⟩ := DataW.trod_struct Tryd.underlying55 hf0
  match ys, hl with
  | [y0, y1], _ =>
  have hv0 := hf 0 _ rfl
  have hv1 := hf 1 _ rfl
  simp [cI] at hv0 hv1
  obtain ⟨x0, e0, rfl, s0⟩ := DataW.trod_int Tryd.underlying3 hv0
  obtain ⟨x1, e1, rfl, s1⟩ := DataW.trod_int Tryd.underlying3 hv1
  simp at e0 e1
  subst e0 e1
  exact ⟨x0, x1, rfl, rfl, by rw [hx]; simp⟩
set_option maxRecDepth 10000 in
set_option maxHeartbeats 2000000 in
theorem tab_of {W : World} (h : laidMetH Tryd.prog [("rentroll/record.parts", Rows.laid_rentroll_record_parts)] W) : Tab W := by
  rw [MakeChecks.laidMetH_plain _ _ _ (by kernel_rfl)] at h
  obtain ⟨ps, ⟨g, t, cs, fuel, p, q, hg, ht, hv, hd, _⟩, _⟩ := h
  obtain rfl := Option.some.inj (gParts.symm.trans hg)
  obtain rfl := Option.some.inj (gPartsType.symm.trans ht)
  have cT : Tryd.prog.cellsOf 56 = 12 := by kernel_rfl
  have cP : Tryd.prog.cellsOf 55 = 2 := by kernel_rfl
  obtain ⟨xs, m, hfu, hx, hlen, hn, hel⟩ := DataW.trod_array Tryd.underlying56 hd
  have hvc := fun k => World.var?_cell hg hv k
  obtain ⟨l⟩ := cs
  have hl12 : l.length = 12 := by first | simpa [cT, cP] using hlen | simpa [cT] using hlen
  match l, hl12 with
  | [c0, c1, c2, c3, c4, c5, c6, c7, c8, c9, c10, c11], _ =>
  match xs, hn with
  | [x0, x1, x2, x3, x4, x5], _ =>
  have h0 := hel 0 (by omega)
  have h1 := hel 1 (by omega)
  have h2 := hel 2 (by omega)
  have h3 := hel 3 (by omega)
  have h4 := hel 4 (by omega)
  have h5 := hel 5 (by omega)
  simp [cP] at h0 h1 h2 h3 h4 h5
  obtain ⟨a0, b0, rfl, rfl, e0⟩ := tab_pair h0
  obtain ⟨a1, b1, rfl, rfl, e1⟩ := tab_pair h1
  obtain ⟨a2, b2, rfl, rfl, e2⟩ := tab_pair h2
  obtain ⟨a3, b3, rfl, rfl, e3⟩ := tab_pair h3
  obtain ⟨a4, b4, rfl, rfl, e4⟩ := tab_pair h4
  obtain ⟨a5, b5, rfl, rfl, e5⟩ := tab_pair h5
  have hx' := congrArg Prod.fst hx
  simp [Rows.laid_rentroll_record_parts, e0, e1, e2, e3, e4, e5] at hx'
  obtain ⟨⟨rfl, rfl⟩, ⟨rfl, rfl⟩, ⟨rfl, rfl⟩, ⟨rfl, rfl⟩, ⟨rfl, rfl⟩, rfl, rfl⟩ := hx'
  intro j v hj
  have := hvc j
  rw [Nat.zero_add]
  rw [this]
  simpa [tabL] using hj
/-- a world for the witness. -/
def tabWorld (P : Program) (os : Os) : World :=
  { World.holding P os ⟨#[], #[], []⟩ with heap := (World.holding P os ⟨#[], #[], []⟩).heap.modify 0 fun
      | .cells _ t frozen => .cells tabL.toArray t frozen
      | o => o }
end Go.Proofs.YtnhafdkfjjplkaaDoor
