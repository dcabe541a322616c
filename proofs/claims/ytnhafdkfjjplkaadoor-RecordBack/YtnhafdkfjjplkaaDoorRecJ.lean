/-
  A reader in memory: bytes taken, numbers read.
-/
import Derived.Test.YtnhafdkfjjplkaaDoorRecI
import Derived.Laws.IdiomStrings
import Derived.Laws.BitsAllLaws
namespace Go.Proofs.YtnhafdkfjjplkaaDoor
open Go.ChangeShapes Go.WideShapes Go.ChangeAt Go.RowKit
set_option linter.unusedSimpArgs false
set_option linter.unusedVariables false

/-- what has turned from one world to the next is one block, and new ones are there. -/
structure Moved (p : Nat) (w w' : World) : Prop where
  os : w'.os = w.os
  tape : w'.tape = w.tape
  output : w'.output = w.output
  size : w.heap.size ≤ w'.heap.size
  block : ∀ k, k < w.heap.size → k ≠ p → w'.heap[k]? = w.heap[k]?
section
variable {p : Nat} {a b c : World}
theorem Moved.refl (p : Nat) (w : World) : Moved p w w := ⟨rfl, rfl, rfl, Nat.le_refl _, fun _ _ _ => rfl⟩
theorem Moved.trans (h : Moved p a b) (k : Moved p b c) : Moved p a c :=
  ⟨k.os.trans h.os, k.tape.trans h.tape, k.output.trans h.output, Nat.le_trans h.size k.size, fun i hi hp => (k.block i (Nat.lt_of_lt_of_le hi h.size) hp).trans (h.block i hi hp)⟩
theorem Moved.ofBelow (h : Below a.heap.size a b) : Moved p a b := ⟨h.os, h.tape, h.output, h.size, fun k hk _ => h.block k hk⟩
theorem Moved.drew (h : Moved p a b) : Moved p a b.drew := ⟨h.os, h.tape, h.output, h.size, h.block⟩
theorem Moved.ofTurned (h : Turned p a b) : Moved p a b := by
  have := h.below 0 a (Nat.zero_le _) (Below.refl _ _)
  exact ⟨this.os, this.tape, this.output, this.size, fun k _ hp => h.other k hp⟩
theorem Moved.turned {r : Nat} (h : Moved p a b) (t : Turned r b c) (hr : a.heap.size ≤ r) : Moved p a c := by
  have := t.below 0 b (Nat.zero_le _) (Below.refl _ _)
  exact ⟨this.os.trans h.os, this.tape.trans h.tape, this.output.trans h.output, Nat.le_trans h.size this.size, fun k hk hp => (t.other k (by omega)).trans (h.block k hk hp)⟩
theorem Moved.below {B : Nat} (h : Moved p a b) (hB : B ≤ a.heap.size) (hp : B ≤ p) : Below B a b := ⟨h.os, h.tape, h.output, h.size, fun k hk => h.block k (by omega) (by omega)⟩
theorem Moved.row {t : TypeId} {r : Nat} {cs : Array Value} (h : Moved p a b) (R : Row t a r cs) (hne : r ≠ p) : Row t b r cs := (h.block r R.lt hne).trans R
theorem Moved.tab (h : Moved p a b) (T : Tab a) (hp : p ≠ 0) : Tab b := fun j v hv => by
  have := T j v hv
  unfold World.cell? at *
  rw [h.block _ T.lt (fun e => hp e.symm)]
  exact this
end
theorem wpList_loadS {ops : Array Oper} {rest : List Oper} {o : Oper} {a : Act} {w : World} {Q : Exit → Act → World → Prop} {t : TypeId} {b : Nat} {cs : Array Value} (R : Row t w b cs) (x : Operand) (ho : o.op = .load 9 x) (hw : Region.wanted o (yielded ops a.tmps) = true)
    (f : Nat) (hx : a.eval x = .pointer (some ⟨b, f, none⟩)) (n : ByteArray) (hc : cs[f]? = some (.string n))
    (hr : wpList Tryd.prog ops Q rest (a.put o.dst (.string n)) w) : wpList Tryd.prog ops Q (o :: rest) a w :=
  wpList_step fun K hK => by
    rw [if_pos hw]
    have hcell := (R.cell f).trans hc
    unfold Oper.wp execOp
    simp only [ho, hx]
    simp [go_sem, hcell, Tryd.underlying9]
    exact hK _ _ hr
theorem wpList_loadL {ops : Array Oper} {rest : List Oper} {o : Oper} {a : Act} {w : World} {Q : Exit → Act → World → Prop} {t : TypeId} {b : Nat} {cs : Array Value} (R : Row t w b cs) (x : Operand) (ho : o.op = .load 22 x) (hw : Region.wanted o (yielded ops a.tmps) = true)
    (f : Nat) (hx : a.eval x = .pointer (some ⟨b, f, none⟩)) (v : Value) (hc : cs[f]? = some v)
    (hr : wpList Tryd.prog ops Q rest (a.put o.dst v) w) : wpList Tryd.prog ops Q (o :: rest) a w :=
  wpList_step fun K hK => by
    rw [if_pos hw]
    have hcell := (R.cell f).trans hc
    unfold Oper.wp execOp
    simp only [ho, hx]
    simp [go_sem, hcell, Tryd.underlying22]
    exact hK _ _ hr
theorem wpList_storeS {ops : Array Oper} {rest : List Oper} {o : Oper} {a : Act} {w : World} {Q : Exit → Act → World → Prop} {t : TypeId} {b : Nat} {cs : Array Value} (R : Row t w b cs) (hgd : o.guard = none) (x y : Operand) (ho : o.op = .store 9 x y)
    (f : Nat) (hx : a.eval x = .pointer (some ⟨b, f, none⟩)) (n : ByteArray) (hy : a.eval y = .string n) (m : ByteArray) (hc : cs[f]? = some (.string m)) (ds : Array Value) (hd : cs.setIfInBounds f (.string n) = ds)
    (hr : ∀ w', Row t w' b ds → Turned b w w' → wpList Tryd.prog ops Q rest (a.put o.dst undef) w') : wpList Tryd.prog ops Q (o :: rest) a w :=
  wpList_plain hgd fun K hK => by
    have hcell := (R.cell f).trans hc
    have hfr := R.free f
    unfold Oper.wp execOp
    simp only [ho, hx, hy]
    simp [go_sem, hcell, hfr, Tryd.underlying9]
    exact hK _ _ (hr _ (hd ▸ R.set) (turned_cell _ _ _ _))
theorem wpList_storeB {ops : Array Oper} {rest : List Oper} {o : Oper} {a : Act} {w : World} {Q : Exit → Act → World → Prop} {t : TypeId} {b : Nat} {cs : Array Value} (R : Row t w b cs) (hgd : o.guard = none) (x y : Operand) (ho : o.op = .store 4 x y)
    (f : Nat) (hx : a.eval x = .pointer (some ⟨b, f, none⟩)) (n : Bool) (hy : a.eval y = .bool n) (m : Bool) (hc : cs[f]? = some (.bool m)) (ds : Array Value) (hd : cs.setIfInBounds f (.bool n) = ds)
    (hr : ∀ w', Row t w' b ds → Turned b w w' → wpList Tryd.prog ops Q rest (a.put o.dst undef) w') : wpList Tryd.prog ops Q (o :: rest) a w :=
  wpList_plain hgd fun K hK => by
    have hcell := (R.cell f).trans hc
    have hfr := R.free f
    unfold Oper.wp execOp
    simp only [ho, hx, hy]
    simp [go_sem, hcell, hfr, Tryd.underlying4]
    exact hK _ _ (hr _ (hd ▸ R.set) (turned_cell _ _ _ _))
/-- a reader: what is left, whether a template was read, its events. -/
def rc (l : List UInt8) (d : Bool) (v : Value) : Array Value := #[.string (txt l), .bool d, v]
def Rdr (w : World) (p : Nat) (l : List UInt8) (d : Bool) (v : Value) : Prop := Row 61 w p (rc l d v)
theorem rc_set (l m : List UInt8) (d : Bool) (v : Value) : (rc l d v).setIfInBounds 0 (.string (txt m)) = rc m d v := rfl
theorem rc_setd (l : List UInt8) (d e : Bool) (v : Value) : (rc l d v).setIfInBounds 1 (.bool e) = rc l e v := rfl
theorem rc_setv (l : List UInt8) (d : Bool) (v u : Value) : (rc l d v).setIfInBounds 2 u = rc l d u := rfl
theorem txt_ext (l : List UInt8) (a b : Nat) : (txt l).extract a b = txt ((l.drop a).take (b - a)) := by
  rw [← txt_of ((txt l).extract a b)]
  congr 1
  simp [txt]
theorem txt_left (l : List UInt8) (k : Nat) : (txt l).extract 0 k = txt (l.take k) := by rw [txt_ext]; simp
theorem txt_right (l : List UInt8) (k : Nat) : (txt l).extract k l.length = txt (l.drop k) := by
  rw [txt_ext, List.take_of_length_le (by rw [List.length_drop]; omega)]
set_option maxRecDepth 10000 in
theorem take_any (p : Nat) (l : List UInt8) (d : Bool) (v : Value) (k : Nat) (w : World) (R : Rdr w p l d v) (hk : k ≤ l.length) (hl : l.length ≤ 140737488351232) :
    Calls Tryd.prog 37 #[.pointer (some ⟨p, 0, none⟩), .int .i64 (k : Int)] w fun x w' => x = .returned (.string (txt (l.take k))) ∧ Rdr w' p (l.drop k) d v ∧ Moved p w w' := by
  have hsz : (txt l).size = l.length := txt_size l
  have h1 := txt_left l k
  have h2 := txt_right l k
  have hM := Moved.refl p w
  have hk' : (k : Int) ≤ (l.length : Int) := by omega
  unfold Rdr at R
  go_enter Tryd.func37, Tryd.ntmps37
  go_wp2_with (first
    | ((with_reducible refine atOp (.load 9 (.tmp 8)) rfl ?_); refine wpList_loadS R _ rfl rfl 0 rfl _ rfl ?_)
    | ((with_reducible refine atOp (.load 9 (.tmp 15)) rfl ?_); refine wpList_loadS R _ rfl rfl 0 rfl _ rfl ?_)
    | ((with_reducible refine atOp (.store 9 (.tmp 20) (.tmp 18)) rfl ?_); refine wpList_storeS R rfl _ _ rfl 0 rfl (txt (l.drop k)) rfl _ rfl _ (rc_set _ _ _ _) ?_; intro w6 R t6; replace hM := hM.trans (Moved.ofTurned t6)))
  go_ret
  exact ⟨rfl, R, hM⟩
end Go.Proofs.YtnhafdkfjjplkaaDoor
