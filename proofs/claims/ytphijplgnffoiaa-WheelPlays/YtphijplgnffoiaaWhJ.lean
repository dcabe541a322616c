/-
  The timers that go off are sorted: by their times, then by their numbers.
-/
import Derived.Test.YtphijplgnffoiaaWhI
namespace Go.Proofs.Ytphijplgnffoiaa
open Go.ChangeShapes Go.WideShapes Go.ChangeAt Go.RowKit Go.Maps
open Go.Sort (grow ahead putRow Holds putCells SWO)
set_option linter.unusedSimpArgs false
set_option linter.unusedVariables false

/-- a number of 64 bits. -/
abbrev WfI := { x : Int // (Lit.int .i64 x).wf = true }
def wf0 : WfI := ⟨0, by decide⟩
def encW (x : WfI) : Value := .int .i64 x.val
/-- ahead of it: by its time, then by its number. -/
def ltZ (z : Int → Int) (x y : Int) : Bool := decide (z x < z y ∨ z x = z y ∧ x < y)
def leZ (z : Int → Int) (x y : Int) : Bool := decide (z x < z y ∨ z x = z y ∧ x ≤ y)
def sortZ (z : Int → Int) (l : List Int) : List Int := l.mergeSort (leZ z)
theorem lt_cmp (z : Int → Int) (x y : Int) : decide (cmpZ z x y < 0) = ltZ z x y := by
  unfold cmpZ orZ ltZ Lib.compareInt
  rw [decide_eq_decide]
  by_cases h1 : z x < z y
  · simp [h1]
  · by_cases h2 : z x > z y
    · have : ¬ z x = z y := by omega
      simp [h1, h2, this]
    · have h3 : z x = z y := by omega
      by_cases h4 : x < y
      · simp [h3, h4]
      · by_cases h5 : x > y
        · simp [h3, h4, h5]
        · simp [h3, h4, h5]
theorem not_lt (z : Int → Int) (x y : Int) : (!ltZ z y x) = leZ z x y := by
  unfold ltZ leZ
  rw [← decide_not, decide_eq_decide]
  omega
def cmpW (z : Int → Int) (x y : WfI) : Int := cmpZ z x.val y.val
theorem ltOf_W (z : Int → Int) (x y : WfI) : ltOf (cmpW z) x y = ltZ z x.val y.val := lt_cmp z x.val y.val
theorem swo (z : Int → Int) : SWO (ltOf (cmpW z)) where
  irrefl x := by rw [ltOf_W]; unfold ltZ; simp
  trans x y u h1 h2 := by rw [ltOf_W] at *; unfold ltZ at *; simp only [decide_eq_true_eq] at *; omega
  ntrans x y u h1 h2 := by rw [ltOf_W] at *; unfold ltZ at *; simp only [decide_eq_false_iff_not] at *; omega
theorem tot (z : Int → Int) (x y : WfI) (h1 : ltOf (cmpW z) x y = false) (h2 : ltOf (cmpW z) y x = false) : x = y := by
  rw [ltOf_W] at *
  unfold ltZ at *
  simp only [decide_eq_false_iff_not] at *
  exact Subtype.ext (by omega)
theorem sort_map (z : Int → Int) (l : List WfI) : (l.mergeSort fun x y => !(ltOf (cmpW z)) y x).map Subtype.val = sortZ z (l.map Subtype.val) := by
  unfold sortZ
  apply List.map_mergeSort
  intro a _ b _
  rw [ltOf_W, not_lt]
section
variable [Inhabited WfI]
theorem block_sort {w : World} {g m c : Nat} (d : Array WfI) (os : Array Obj) (hc : c ≠ g) (hlt : c < w.heap.size) : (sortWorld encW w g 0 m d os).heap[c]? = w.heap[c]? := by
  unfold sortWorld grow putRow Sort.mapBlock
  show ((w.heap.modify g _) ++ os)[c]? = _
  rw [Array.getElem?_append_left (by simpa using hlt), Array.getElem?_modify, if_neg (by omega)]
theorem block_row {w : World} {g m : Nat} {cur : Array Value} {e : TypeId} {fr : Nat × Nat} (d : Array WfI) (os : Array Obj) (hb : w.heap[g]? = some (.cells cur e fr)) : (sortWorld encW w g 0 m d os).heap[g]? = some (.cells (putCells encW 0 d cur) e fr) := by
  have hlt : g < w.heap.size := (Array.getElem?_eq_some_iff.1 hb).1
  unfold sortWorld grow putRow Sort.mapBlock
  show ((w.heap.modify g _) ++ os)[g]? = _
  rw [Array.getElem?_append_left (by simpa using hlt), Array.getElem?_modify, if_pos rfl, hb]
  rfl
theorem grown_sort {w : World} {g m : Nat} (d : Array WfI) (os : Array Obj) : w.grownBy (sortWorld encW w g 0 m d os) (some g) := by
  refine ⟨rfl, rfl, rfl, ?_, fun k hk hne => block_sort d os (fun e => hne (by rw [e])) hk⟩
  unfold sortWorld grow putRow Sort.mapBlock
  show _ ≤ ((w.heap.modify g _) ++ os).size
  simp
theorem take_put (cur : Array Value) (ts : List WfI) (h : ts.length ≤ cur.size) : (putCells encW 0 ts.toArray cur).toList.take ts.length = (ts.map Subtype.val).map (Value.int .i64) := by
  apply List.ext_getElem?
  intro i
  rw [List.getElem?_take, List.getElem?_map, List.getElem?_map]
  by_cases hi : i < ts.length
  · rw [if_pos hi, Array.getElem?_toList]
    unfold putCells
    rw [Array.getElem?_mapIdx, Array.getElem?_eq_getElem (by omega), List.getElem?_eq_getElem hi]
    have : (ts.toArray)[i - 0]! = ts[i] := by simp [hi]
    simp [hi, encW]
  · rw [if_neg hi, List.getElem?_eq_none (by omega)]; rfl
/-- THE SORT: the same row holds the timers in their order; nothing else has turned. -/
theorem sort_any {w : World} {v : Value} {off : List Int} (h : Own w v off) (hl : 0 < off.length) (hm : off.length ≤ 1000000000) (hwf : ∀ i ∈ off, (Lit.int .i64 i).wf = true) (z : Int → Int) {b o bm n bx : Nat} {D : DataW Unit} (hz : Says D z)
    (hb : w.cell? ⟨bx, 0, none⟩ = some (.pointer (some ⟨b, o, none⟩))) (c1 : w.cell? ⟨b, o + 1, none⟩ = some (.map (some bm))) (hmap : MapI w bm n D) (nx : v.ownBlock ≠ some bx) (nb : v.ownBlock ≠ some b) :
    Calls Try.prog 24 #[v, .func (.func 25) #[] #[.pointer (some ⟨bx, 0, none⟩)]] w fun e w' => e = .returned (.tuple #[]) ∧ Own w' v (sortZ z off) ∧ w.grownBy w' v.ownBlock := by
  obtain ⟨g, cap, cur, rfl, hg, hlc, hcm, hcs, ht⟩ := h.shape hl
  obtain ⟨d, hd⟩ : ∃ d : List WfI, d.map Subtype.val = off := ⟨off.attachWith _ hwf, by simp⟩
  have hdl : d.length = off.length := by rw [← hd]; simp
  have hlt : g < w.heap.size := (Array.getElem?_eq_some_iff.1 hg).1
  have hnm := h.ne_map hmap
  have gx : bx ≠ g := fun e => nx (by rw [e]; rfl)
  have gb : b ≠ g := fun e => nb (by rw [e]; rfl)
  have gm : bm ≠ g := fun e => hnm (by rw [e]; rfl)
  have lx := World.block_lt_of_cell? w _ hb
  have lb := World.block_lt_of_cell? w _ c1
  have lm := hmap.lt
  have hH : Holds encW w g 0 d.toArray := by
    intro j hj
    have hj' : j < off.length := by simpa [hdl] using hj
    have hjd : j < d.length := by omega
    have e : off[j] = (d[j]).val := by
      have : (d.map Subtype.val)[j]'(by simpa using hjd) = off[j] := by congr 1
      rw [← this]; simp
    rw [Nat.zero_add]
    refine ⟨(row_cell hg j).trans ((cur_at ht j hj').trans ?_), row_free hg j⟩
    simp [hjd, encW, e]
  have hcmp : CmpLays1 Try.prog 25 #[.pointer (some ⟨bx, 0, none⟩)] encW (cmpW z) g 0 d.toArray.size w := by
    intro m os dk _ x y
    have e1 := block_sort (m := m) dk os gx lx
    have e2 := block_sort (m := m) dk os gb lb
    have e3 := block_sort (m := m) dk os gm lm
    have hx := hz x.val x.property
    have hy := hz y.val y.property
    refine less_any z x.val y.val x.property y.property hx.1 hy.1 _ ((World.cell?_of_block e1).trans hb) ((World.cell?_of_block e2).trans c1) (n := n) (D := D) ?_
    obtain ⟨es, clock, h1, h2⟩ := hmap
    exact ⟨es, clock, e3.trans h1, h2⟩
  have eg : ∀ args w, (callFunc 25 args).run Try.prog w = .ok (.enter 25 args) w := enters_of Try.func25 (by kernel_rfl) rfl
  have hS := Any.slices_SortFunc_total sortL encW (fun _ => rfl) (cmpW z) (swo z) 25 #[.pointer (some ⟨bx, 0, none⟩)] g 0 cap d.toArray w eg hcmp hH hlt (by simp [hdl]; omega) (tot z)
  have hsz : d.toArray.size = off.length := by simpa using hdl
  rw [hsz] at hS
  refine Calls.mono hS ?_
  rintro e w' ⟨rfl, q, os, rfl⟩
  have hsl : (d.toArray.toList.mergeSort fun x y => !(ltOf (cmpW z)) y x).map Subtype.val = sortZ z off := by rw [sort_map]; simp [hd]
  have hln : (d.toArray.toList.mergeSort fun x y => !(ltOf (cmpW z)) y x).length = off.length := by simp [hdl]
  generalize (d.toArray.toList.mergeSort fun x y => !(ltOf (cmpW z)) y x) = ts at *
  have hl2 : (sortZ z off).length = off.length := by rw [← hsl]; simpa using hln
  refine ⟨rfl, ⟨by simp, .inr ⟨g, cap, _, by rw [hl2], Nat.zero_le _, block_row ts.toArray os hg, by omega, hcm, by unfold putCells; simp [hcs], ?_⟩⟩, grown_sort ts.toArray os⟩
  rw [Nat.mul_one, hl2, ← hln, take_put cur ts (by omega), hsl]
end
end Go.Proofs.Ytphijplgnffoiaa
