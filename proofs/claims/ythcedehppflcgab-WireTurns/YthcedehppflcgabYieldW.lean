/-
  What operations yield, and leave, in the regions of the document's Parse that draw their order.
-/
import Derived.Test.YthcedehppflcgabYieldP
import Derived.Test.YthcedehppflcgabRefPH
import Derived.Laws.CopyOwn
namespace Go.Proofs.Ythcedehppflcgab
open Go.ChangeShapes Go.WideShapes Go.ChangeAt Go.RowKit
set_option linter.unusedSimpArgs false
set_option linter.unusedVariables false
section
variable {ops : Array Oper} {S : World → Prop} {o : Oper} {a : Act}
theorem yields_index (x : Operand) (s : ByteArray) (i : Int) (k : Nat) (v : Int) (ho : o.op = .index 9 x (.const (.int .i64 i))) (hw : Region.wanted o (yielded ops a.tmps) = true) (hx : a.eval x = .string s) (hi : i = k) (hk : k < s.size) (hv : ∀ h, ((s[k]'h).toNat : Int) = v) : YieldsIf Try.prog ops S o (.int .u8 v) a :=
  .inl ⟨hw, fun w _ => by
    subst hi
    have h1 : (k : Int) < (s.size : Int) := by omega
    have h2 : (0 : Int) ≤ (k : Int) := by omega
    have h3 := hv hk
    unfold execOp; simp only [ho, hx]; simp [go_sem, h1, h2, hk, h3]⟩
theorem yields_conv (x : Operand) (n : Int) (ho : o.op = .convert 5 3 x) (hw : Region.wanted o (yielded ops a.tmps) = true) (hx : a.eval x = .int .u8 n) (hn : IntKind.i64.wrap n = n) : YieldsIf Try.prog ops S o (.int .i64 n) a :=
  .inl ⟨hw, fun w _ => by unfold execOp; simp only [ho, hx]; simp [go_sem, hn]⟩
theorem yields_slice (x : Operand) (s : ByteArray) (i j : Int) (k m : Nat) (ho : o.op = .slice 9 x (some (.const (.int .i64 i))) (some (.const (.int .i64 j))) none) (hw : Region.wanted o (yielded ops a.tmps) = true) (hx : a.eval x = .string s) (hi : i = k) (hj : j = m) (hkm : k ≤ m) (hm : m ≤ s.size) : YieldsIf Try.prog ops S o (.string (s.extract k m)) a :=
  .inl ⟨hw, fun w _ => by
    subst hi hj
    have h1 : (0 : Int) ≤ (k : Int) := by omega
    have h2 : (k : Int) ≤ (m : Int) := by omega
    have h3 : (m : Int) ≤ (s.size : Int) := by omega
    unfold execOp; simp only [ho, hx]; simp [go_sem, h1, h2, h3, hkm, hm]⟩
theorem yields_slice0 (x : Operand) (s : ByteArray) (j : Int) (m : Nat) (ho : o.op = .slice 9 x none (some (.const (.int .i64 j))) none) (hw : Region.wanted o (yielded ops a.tmps) = true) (hx : a.eval x = .string s) (hj : j = m) (hm : m ≤ s.size) : YieldsIf Try.prog ops S o (.string (s.extract 0 m)) a :=
  .inl ⟨hw, fun w _ => by
    subst hj
    have h1 : (0 : Int) ≤ (m : Int) := by omega
    have h3 : (m : Int) ≤ (s.size : Int) := by omega
    unfold execOp; simp only [ho, hx]; simp [go_sem, h1, h3, hm]⟩
end
theorem below_drew {B : Nat} {w0 w : World} (h : Below B w0 w) : Below B w0 w.drew := ⟨h.os, h.tape, h.output, h.size, h.block⟩
theorem wp_callB {o : Oper} {a : Act} {w : World} {K : Act → World → Prop} {Q : Exit → Act → World → Prop} (f : FuncId) (args : Array Value) (hrun : (execOp a.eval o).run Try.prog w = .ok (.enter f args) w) (v : Value)
    (hc : Calls Try.prog f args w fun e w' => e = .returned v ∧ Below w.heap.size w w') (h : ∀ w', Below w.heap.size w w' → K (a.put o.dst v) w') : o.wp Try.prog a w K Q := by
  unfold Oper.wp
  rw [hrun, Oper.upon_enter]
  refine hc.mono fun e w'' hh => ?_
  obtain ⟨rfl, hb⟩ := hh
  exact h _ hb
theorem pk_info (cs : Array Value) (h : cs.size = 12) : (Try.prog.info? 23).map (·.size) = some cs.size := by rw [h]; kernel_rfl
theorem wp_alloc12 {o : Oper} {a : Act} {w : World} {K : Act → World → Prop} {Q : Exit → Act → World → Prop} (ho : o.op = .alloc 23)
    (h : ∀ b w', b = w.heap.size → Twelve w' b #[.int .i64 0, .int .i64 0, .int .i64 0, .int .i64 0, .int .i64 0, .int .i64 0, .int .i64 0, .int .i64 0, .int .i64 0, .int .i64 0, .int .i64 0, .string ⟨#[]⟩] → (∀ r cs, Twelve w r cs → Twelve w' r cs) → (∀ B w0, Below B w0 w → B ≤ w.heap.size → Below B w0 w') → K (a.put o.dst (.pointer (some ⟨b, 0, none⟩))) w') : o.wp Try.prog a w K Q := by
  have h' := h w.heap.size (w.alloc (.cells #[.int .i64 0, .int .i64 0, .int .i64 0, .int .i64 0, .int .i64 0, .int .i64 0, .int .i64 0, .int .i64 0, .int .i64 0, .int .i64 0, .int .i64 0, .string ⟨#[]⟩] 23)) rfl (heap_alloc_new w _) (fun r cs hr => twelve_more _ _ _ hr) (fun B w0 hb hB => hb.alloc hB _)
  unfold Oper.wp execOp
  simp [ho, Instr.alloc, go_sem]
  exact h'
theorem wp_store12 {o : Oper} {a : Act} {w : World} {K : Act → World → Prop} {Q : Exit → Act → World → Prop} (x y : Operand) (ho : o.op = .store 23 x y)
    (b : Nat) (hx : a.eval x = .pointer (some ⟨b, 0, none⟩)) (cs : Array Value) (hy : a.eval y = .agg cs) (old : Array Value) (h : Twelve w b old) (hs : old.size = 12) (hc : cs.size = 12) (h1 : cs.all (·.oneCell') = true)
    (hr : ∀ w', Twelve w' b cs → (∀ r ds, r ≠ b → Twelve w r ds → Twelve w' r ds) → (∀ B w0, B ≤ b → Below B w0 w → Below B w0 w') → K (a.put o.dst undef) w') : o.wp Try.prog a w K Q := by
  have hst := run_storeVar_row (P := Try.prog) w b 23 23 old cs h (pk_info cs hc) (by rw [hs, hc]) h1
  unfold Oper.wp execOp
  simp only [ho, hx, hy, Instr.storeAt, Instr.sureAddr, Sem.run_bind, Sem.run_pure, Result.andThen_ok, hst]
  exact hr _ (setRow_heap w b old _ _ _ h) (fun r ds hne hr' => (setRow_other w b r _ hne).trans hr') (fun B w0 hB hb => below_setRow hb hB _)
theorem wp_store1 {o : Oper} {a : Act} {w : World} {K : Act → World → Prop} {Q : Exit → Act → World → Prop} (x y : Operand) (ho : o.op = .store 3 x y)
    (b i : Nat) (hx : a.eval x = .pointer (some ⟨b, i, none⟩)) (n : Int) (hy : a.eval y = .int .i64 n) (cs : Array Value) (h : Twelve w b cs) (hi : i < cs.size)
    (hr : ∀ w', Twelve w' b (cs.setIfInBounds i (.int .i64 n)) → (∀ r ds, r ≠ b → Twelve w r ds → Twelve w' r ds) → (∀ B w0, B ≤ b → Below B w0 w → Below B w0 w') → K (a.put o.dst undef) w') : o.wp Try.prog a w K Q := by
  have hc : w.cell? ⟨b, i, none⟩ = some cs[i] := (h.cell i).trans (Array.getElem?_eq_getElem hi)
  have hf := h.free i
  have h' := hr (w.setCell ⟨b, i, none⟩ (.int .i64 n)) (h.set i _) (fun r ds hne hr' => twelve_other hr' hne) (fun B w0 hB hb => hb.setCell (by exact hB) _)
  unfold Oper.wp execOp
  simp only [ho, hx, hy]
  simp [go_sem, hc, hf]
  exact h'
end Go.Proofs.Ythcedehppflcgab
