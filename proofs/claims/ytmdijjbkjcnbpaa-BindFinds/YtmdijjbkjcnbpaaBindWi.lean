/-
  A list of wishes in memory; the pool of a table written whole in a region that draws.
-/
import Derived.SizedLaws
import Derived.Deep.Slices
import Derived.Test.YtmdijjbkjcnbpaaBindR
import Derived.Test.YtmdijjbkjcnbpaaBindI
namespace Go.Proofs.Ytmdijjbkjcnbpaa
open Go.ChangeShapes Go.WideShapes Go.ChangeAt Go.RowKit
set_option linter.unusedSimpArgs false
set_option linter.unusedVariables false

/-- a wish is five ints, as a map is. -/
theorem wish_info (m : Mp) : (Try.prog.info? 52).map (·.size) = some (mc m).size := by kernel_rfl
theorem wishl_info (m : Mp) : (Try.prog.info? 52).map (·.size) = some (mcl m).length := by kernel_rfl
theorem wish_zero (w : World) : (zeroValue 52).run Try.prog w = .ok (.agg (mc noM)) w := by kernel_rfl
theorem index_runW {w : World} {sl : Value} {ms : List Mp} (hM : MapsAt w sl ms) (j : Nat) (hj : j < ms.length) (w2 : World) : (Instr.indexAt 49 sl (.int .i64 (j : Int))).run Try.prog w2 = .ok (.pointer (some ⟨mb sl, mo sl + 5 * j, none⟩)) w2 := by
  obtain ⟨a0, cap, e, h1, h2, h3⟩ := hM
  have e1 := h1 (by omega)
  generalize mb sl = B at *
  generalize mo sl = O at *
  subst e1
  subst e
  have hn : ((j : Int)).toNat < ms.length := by simpa using hj
  have hjl : (j : Int) < (ms.length : Int) := by omega
  have hs : (sizeOf 52).run Try.prog w2 = .ok 5 w2 := by kernel_rfl
  simp [go_sem, hj, hn, hjl, Try.underlying49, hs]
theorem wp_storeP {o : Oper} {a : Act} {w : World} {K : Act → World → Prop} {Q : Exit → Act → World → Prop} (x y : Operand) (ho : o.op = .store 26 x y)
    (b : Nat) (hx : a.eval x = .pointer (some ⟨b, 0, none⟩)) (f' : Nat → Int) (g' : Nat → Bool) (hy : a.eval y = .agg (pc f' g')) (f : Nat → Int) (g : Nat → Bool) (h : Nat → Int) (sl : Value) (R : Row 30 w b (tc f g h sl))
    (hr : ∀ w', Row 30 w' b (tc f' g' h sl) → Turned b w w' → K (a.put o.dst undef) w') : o.wp Try.prog a w K Q := by
  have ht : w.there b 0 (pc f' g').size := fun j hj => by
    have hj' : j < 21 := hj
    refine ⟨?_, R.free _⟩
    rw [R.cell, Nat.zero_add, Array.getElem?_eq_getElem (by rw [tc_size]; omega)]; rfl
  refine wp_store_mid 26 x y ho b 0 (pc f' g') hx hy ht (pc_info f' g') (pc_one f' g') ?_
  have R' := Row.setAll (pc f' g').toList 0 w _ R
  rw [tc_setP] at R'
  exact hr _ R' (turned_cells b _ 0 w)
set_option maxRecDepth 10000 in
theorem open_wish_cells {H : Type} {enc : TypeId × Value → H} {w : World} {base : Nat} {sp : Nat → Bool} {held : Bool} {fuel : Nat} {l : List Value} {x : DataW H × List MemPlace} (hl0 : l.length = 5) (hf0 : DataW.trod enc Try.prog w base sp held fuel 52 l = some x) : ∃ m : Mp, l = mcl m := by
  have cI : Try.prog.cellsOf 3 = 1 := by kernel_rfl
  obtain ⟨ys, m, _, hx, _, hl, hf⟩ := DataW.trod_struct Try.underlying52 hf0
  match l, hl0 with
  | [c0, c1, c2, c3, c4], _ =>
  match ys, hl with
  | [y0, y1, y2, y3, y4], _ =>
  have hv0 := hf 0 _ rfl
  have hv1 := hf 1 _ rfl
  have hv2 := hf 2 _ rfl
  have hv3 := hf 3 _ rfl
  have hv4 := hf 4 _ rfl
  simp [cI] at hv0 hv1 hv2 hv3 hv4
  obtain ⟨x0, e0, rfl, s0⟩ := DataW.trod_int Try.underlying3 hv0
  obtain ⟨x1, e1, rfl, s1⟩ := DataW.trod_int Try.underlying3 hv1
  obtain ⟨x2, e2, rfl, s2⟩ := DataW.trod_int Try.underlying3 hv2
  obtain ⟨x3, e3, rfl, s3⟩ := DataW.trod_int Try.underlying3 hv3
  obtain ⟨x4, e4, rfl, s4⟩ := DataW.trod_int Try.underlying3 hv4
  simp at e0 e1 e2 e3 e4
  subst e0 e1 e2 e3 e4
  exact ⟨(x0, x1, x2, x3, x4), rfl⟩
set_option maxRecDepth 10000 in
theorem open_wishes {H : Type} {enc : TypeId × Value → H} {w : World} {sp : Nat → Bool} {held : Bool} {fuel : Nat} {l : List Value} {x : DataW H × List MemPlace} (hf0 : DataW.trod enc Try.prog w 0 sp held fuel 49 l = some x) (hw : ∀ y ∈ x.1.weights Try.prog 49, y ≤ reachBytes) : ∃ sl ms, l = [sl] ∧ MapsAt w sl ms ∧ NilOk sl := by
  have c5 : Try.prog.cellsOf 52 = 5 := by kernel_rfl
  have hby : Try.prog.bytesOf 52 = 40 := by kernel_rfl
  rcases Go.Deep.open_slice Try.underlying49 hf0 with ⟨rfl, rfl⟩ | ⟨a, len, cap, m, n, D, Pl, rfl, hb, hl, hm, hmm, rfl, hx⟩
  · exact ⟨_, [], rfl, MapsAt.nil w, fun n c e => by injection e with _ _ e3; exact e3.symm⟩
  · have hlm : len ≤ m := by rw [hmm]; split <;> omega
    have hbd : len ≤ 140737488355328 := by
      have h1 := hw _ (by simp only [DataW.weights, Try.underlying49]; exact List.mem_cons_self)
      rw [hby] at h1
      simp [reachBytes] at h1
      omega
    have each : ∀ i, i < len → ∃ q : Mp, ∀ k v, (mcl q)[k]? = some v → w.cell? (a.add (5 * i + k)) = some v := by
      intro i hi
      obtain ⟨cs', h1, h2⟩ := hx i (by omega)
      rw [c5] at h1
      obtain ⟨_, hlen, hcell⟩ := World.cells?_some h1
      obtain ⟨q, rfl⟩ := open_wish_cells hlen h2
      refine ⟨q, fun k v hv => ?_⟩
      have hk : k < 5 := by have := (List.getElem?_eq_some_iff.1 hv).1; simpa [mcl] using this
      have := hcell k hk
      rw [Go.Deep.add_add, Nat.mul_comm i 5] at this
      first | exact this.trans hv | (rw [this]; simpa using hv)
    obtain ⟨q, hq⟩ := Go.Deep.choose_lt each
    have hsp : 0 < len → a = ⟨a.block, a.off, none⟩ := by
      intro h0
      have := hq 0 h0 0 _ rfl
      obtain ⟨b, off, spot⟩ := a
      have hspot : spot = none := by simpa [Addr.add] using World.cell?_spot this
      subst hspot
      rfl
    refine ⟨_, (List.range len).map q, rfl, ⟨some a, cap, by simp, fun h0 => ?_, fun j hj k v hv => ?_, by simpa using hbd, cap, by simp, by simpa using hl⟩, fun n c e => (by injection e with e1; simp at e1)⟩
    · rw [hsp (by simpa using h0)]; rfl
    · have hj' : j < len := by simpa using hj
      have e1 : ((List.range len).map q)[j] = q j := by simp
      rw [e1] at hv
      have := hq j hj' k v hv
      rw [hsp (by omega), Addr.add_lit] at this
      show w.cell? ⟨a.block, a.off + 5 * j + k, none⟩ = some v
      rw [Nat.add_assoc]
      exact this
end Go.Proofs.Ytmdijjbkjcnbpaa
