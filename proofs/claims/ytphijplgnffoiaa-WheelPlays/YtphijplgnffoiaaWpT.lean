/-
  What is to be done with a wheel, in memory.
-/
import Derived.Test.YtphijplgnffoiaaWsA
import Derived.Deep.Slices
namespace Go.Proofs.Ytphijplgnffoiaa
open Go.ChangeShapes Go.WideShapes Go.ChangeAt Go.RowKit
set_option linter.unusedSimpArgs false
set_option linter.unusedVariables false

/-- kind, number, time. -/
abbrev Tg := Int × Int × Int
def tgl (x : Tg) : List Value := [.int .i64 x.1, .int .i64 x.2.1, .int .i64 x.2.2]
def tgc (x : Tg) : Array Value := #[.int .i64 x.1, .int .i64 x.2.1, .int .i64 x.2.2]
def Tg.wf (x : Tg) : Prop := (Lit.int .i64 x.1).wf = true ∧ (Lit.int .i64 x.2.1).wf = true ∧ (Lit.int .i64 x.2.2).wf = true
theorem tgl_info (x : Tg) : (Try.prog.info? 43).map (·.size) = some (tgl x).length := by kernel_rfl
theorem tgc_info (x : Tg) : (Try.prog.info? 43).map (·.size) = some (tgc x).size := by kernel_rfl
theorem tgc_one (x : Tg) : (tgc x).all (·.oneCell') = true := by kernel_rfl
theorem tg_zero (w : World) : (zeroValue 43).run Try.prog w = .ok (.agg (tgc (0, 0, 0))) w := by kernel_rfl
structure TgsAt (w : World) (a : Option Addr) (cap B O : Nat) (zs : List Tg) : Prop where
  at0 : 0 < zs.length → a = some ⟨B, O, none⟩
  row : ∀ j (hj : j < zs.length), w.rangeAt B (O + 3 * j) (tgl zs[j])
  len : zs.length ≤ 5864062014805
  wf : ∀ z ∈ zs, z.wf
theorem TgsAt.lt {w : World} {a : Option Addr} {cap B O : Nat} {zs : List Tg} (h : TgsAt w a cap B O zs) (hl : 0 < zs.length) : B < w.heap.size := World.block_lt_of_cell? w _ (h.row 0 hl 0 _ rfl)
theorem TgsAt.below {w w' : World} {a : Option Addr} {cap B O : Nat} {zs : List Tg} {n : Nat} (h : TgsAt w a cap B O zs) (hb : Below n w w') (hlt : 0 < zs.length → B < n) : TgsAt w' a cap B O zs :=
  ⟨h.at0, fun j hj i v hv => (World.cell?_of_block (hb.block B (hlt (by omega)))).trans (h.row j hj i v hv), h.len, h.wf⟩
theorem ixG (B O n cap j : Nat) (hj : j < n) (w : World) : (Instr.indexAt 37 (.slice (some ⟨B, O, none⟩) n cap) (.int .i64 (j : Int))).run Try.prog w = .ok (.pointer (some ⟨B, O + 3 * j, none⟩)) w := by
  have hs : (sizeOf 43).run Try.prog w = .ok 3 w := by kernel_rfl
  have h1 : (j : Int) < (n : Int) := by omega
  simp [go_sem, Try.underlying37, h1, hj, hs]
theorem open_timing_cells {H : Type} {enc : TypeId × Value → H} {w : World} {base : Nat} {sp : Nat → Bool} {held : Bool} {fuel : Nat} {l : List Value} {x : DataW H × List MemPlace} (hl0 : l.length = 3) (hf0 : DataW.trod enc Try.prog w base sp held fuel 43 l = some x) : ∃ e : Tg, l = tgl e ∧ e.wf := by
  have cI : Try.prog.cellsOf 3 = 1 := by kernel_rfl
  obtain ⟨ys, m, _, hx, _, hl, hf⟩ := DataW.trod_struct Try.underlying43 hf0
  match l, hl0 with
  | [c0, c1, c2], _ =>
  match ys, hl with
  | [y0, y1, y2], _ =>
  have hv0 := hf 0 _ rfl
  have hv1 := hf 1 _ rfl
  have hv2 := hf 2 _ rfl
  simp [cI] at hv0 hv1 hv2
  obtain ⟨x0, e0, rfl, s0⟩ := DataW.trod_int Try.underlying3 hv0
  obtain ⟨x1, e1, rfl, s1⟩ := DataW.trod_int Try.underlying3 hv1
  obtain ⟨x2, e2, rfl, s2⟩ := DataW.trod_int Try.underlying3 hv2
  simp at e0 e1 e2
  subst e0 e1 e2
  exact ⟨(x0, x1, x2), rfl, s0, s1, s2⟩
theorem open_timings {H : Type} {enc : TypeId × Value → H} {w : World} {sp : Nat → Bool} {held : Bool} {fuel : Nat} {l : List Value} {x : DataW H × List MemPlace} (hf0 : DataW.trod enc Try.prog w 0 sp held fuel 37 l = some x) (hw : ∀ y ∈ x.1.weights Try.prog 37, y ≤ reachBytes) : ∃ a cap B O, ∃ zs : List Tg, l = [.slice a zs.length cap] ∧ TgsAt w a cap B O zs := by
  have c3 : Try.prog.cellsOf 43 = 3 := by kernel_rfl
  have hby : Try.prog.bytesOf 43 = 24 := by kernel_rfl
  rcases Go.Deep.open_slice Try.underlying37 hf0 with ⟨rfl, rfl⟩ | ⟨a, len, cap, m, n, D, Pl, rfl, hb, hl, hm, hmm, rfl, hx⟩
  · exact ⟨none, 0, 0, 0, [], rfl, fun h => absurd h (by simp), fun j hj => absurd hj (by simp), by simp, by simp⟩
  · have hlm : len ≤ m := by rw [hmm]; split <;> omega
    have hbd : len ≤ 5864062014805 := by
      have h1 := hw _ (by simp only [DataW.weights, Try.underlying37]; exact List.mem_cons_self)
      rw [hby] at h1
      simp [reachBytes] at h1
      omega
    have each : ∀ i, i < len → ∃ q : Tg, (∀ k v, (tgl q)[k]? = some v → w.cell? (a.add (3 * i + k)) = some v) ∧ q.wf := by
      intro i hi
      obtain ⟨cs', h1, h2⟩ := hx i (by omega)
      rw [c3] at h1
      obtain ⟨_, hlen, hcell⟩ := World.cells?_some h1
      obtain ⟨q, rfl, hq⟩ := open_timing_cells hlen h2
      refine ⟨q, fun k v hv => ?_, hq⟩
      have hk : k < 3 := by have := (List.getElem?_eq_some_iff.1 hv).1; simpa [tgl] using this
      have := hcell k hk
      rw [Go.Deep.add_add, Nat.mul_comm i 3] at this
      first | exact this.trans hv | (rw [this]; simpa using hv)
    haveI : Inhabited Tg := ⟨(0, 0, 0)⟩
    obtain ⟨q, hq⟩ := Go.Deep.choose_lt each
    have hsp : 0 < len → a = ⟨a.block, a.off, none⟩ := by
      intro h0
      have := (hq 0 h0).1 0 _ rfl
      obtain ⟨b, off, spot⟩ := a
      have hspot : spot = none := by simpa [Addr.add] using World.cell?_spot this
      subst hspot
      rfl
    refine ⟨some a, cap, a.block, a.off, (List.range len).map q, by simp, fun h0 => ?_, fun j hj k v hv => ?_, by simpa using hbd, ?_⟩
    · rw [← hsp (by simpa using h0)]
    · have hj' : j < len := by simpa using hj
      have e1 : ((List.range len).map q)[j] = q j := by simp
      rw [e1] at hv
      have := (hq j hj').1 k v hv
      rw [hsp (by omega), Addr.add_lit] at this
      rw [Nat.add_assoc]
      exact this
    · intro z hz
      obtain ⟨i, hi, rfl⟩ := List.mem_map.1 hz
      exact (hq i (by simpa using hi)).2
end Go.Proofs.Ytphijplgnffoiaa
