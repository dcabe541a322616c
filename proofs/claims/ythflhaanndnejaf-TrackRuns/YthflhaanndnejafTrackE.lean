/-
  The document's flow: what is written through a closure.
-/
import Derived.Test.YthflhaanndnejafTrackD
namespace Go.Proofs.Ythflhaanndnejaf
open Go.ChangeShapes Go.WideShapes Go.ChangeAt Go.RowKit
set_option linter.unusedSimpArgs false
set_option linter.unusedVariables false

/-- what has turned from one world to the next is one block and new ones. -/
structure Later (b : Nat) (w w' : World) : Prop where
  size : w.heap.size ≤ w'.heap.size
  other : ∀ r, r ≠ b → r < w.heap.size → w'.heap[r]? = w.heap[r]?
  below : ∀ B w0, B ≤ b → Below B w0 w → Below B w0 w'
theorem Later.refl (b : Nat) (w : World) : Later b w w := ⟨Nat.le_refl _, fun _ _ _ => rfl, fun _ _ _ h => h⟩
theorem Later.grow {b : Nat} {w w1 w2 : World} (h : Later b w w1) (hlt : b < w.heap.size) (hb : Below w1.heap.size w1 w2) : Later b w w2 :=
  ⟨Nat.le_trans h.size hb.size, fun r hr hl => (hb.block r (Nat.lt_of_lt_of_le hl h.size)).trans (h.other r hr hl), fun B w0 hB h0 => (h.below B w0 hB h0).trans (hb.mono (Nat.le_trans (Nat.le_of_lt (Nat.lt_of_le_of_lt hB hlt)) h.size))⟩
theorem Later.turn {b : Nat} {w w1 w2 : World} (h : Later b w w1) (t : Turned b w1 w2) : Later b w w2 :=
  ⟨t.size ▸ h.size, fun r hr hl => (t.other r hr).trans (h.other r hr hl), fun B w0 hB h0 => t.below B w0 hB (h.below B w0 hB h0)⟩
theorem Later.turnNew {b c : Nat} {w w1 w2 : World} (h : Later b w w1) (hlt : b < w.heap.size) (t : Turned c w1 w2) (hc : w.heap.size ≤ c) : Later b w w2 :=
  ⟨t.size ▸ h.size, fun r hr hl => (t.other r (Nat.ne_of_lt (Nat.lt_of_lt_of_le hl hc))).trans (h.other r hr hl), fun B w0 hB h0 => t.below B w0 (Nat.le_trans (Nat.le_of_lt (Nat.lt_of_le_of_lt hB hlt)) hc) (h.below B w0 hB h0)⟩
theorem Later.drew {b : Nat} {w w1 : World} (h : Later b w w1) : Later b w w1.drew := ⟨h.size, h.other, fun B w0 hB h0 => below_drewG (h.below B w0 hB h0)⟩
theorem Later.row {b r : Nat} {w w' : World} {t : TypeId} {cs : Array Value} (h : Later b w w') (R : Row t w r cs) (hne : r ≠ b) : Row t w' r cs := (h.other r hne R.lt).trans R
theorem wp_storeF {o : Oper} {a : Act} {w : World} {K : Act → World → Prop} {Q : Exit → Act → World → Prop} {t : TypeId} {b : Nat} {cs : Array Value} (R : Row t w b cs) (x y : Operand) (ho : o.op = .store 3 x y)
    (f : Nat) (hx : a.eval x = .pointer (some ⟨b, f, none⟩)) (n : Int) (hy : a.eval y = .int .i64 n) (m : Int) (hc : cs[f]? = some (.int .i64 m)) (ds : Array Value) (hd : cs.setIfInBounds f (.int .i64 n) = ds)
    (hr : ∀ w', Row t w' b ds → Turned b w w' → K (a.put o.dst undef) w') : o.wp Try.prog a w K Q := by
  have hcell := (R.cell f).trans hc
  have hfr := R.free f
  unfold Oper.wp execOp
  simp only [ho, hx, hy]
  simp [go_sem, hcell, hfr, Try.underlying3]
  exact hr _ (hd ▸ R.set) (turned_cell _ _ _ _)
theorem wpList_boxI {ops : Array Oper} {rest : List Oper} {o : Oper} {a : Act} {w : World} {Q : Exit → Act → World → Prop} (hgd : o.guard = none) (x : Operand) (ho : o.op = .box 3 x) (n : Int) (hx : a.eval x = .int .i64 n)
    (hr : ∀ b w', w.heap.size ≤ b → Row 3 w' b #[.int .i64 n] → Below w.heap.size w w' → wpList Try.prog ops Q rest (a.put o.dst (.pointer (some ⟨b, 0, none⟩))) w') : wpList Try.prog ops Q (o :: rest) a w :=
  wpList_plain hgd fun K hK => by
    have h' := hr w.heap.size (w.alloc (.cells #[.int .i64 n] 3)) (Nat.le_refl _) (Row.new 3 w _) ((Below.refl _ _).alloc (Nat.le_refl _) _)
    unfold Oper.wp execOp
    simp only [ho, hx, Instr.box, newVar, Value.cells]
    simp [go_sem]
    exact hK _ _ h'
theorem next_rst (k : Fl) (x now : Int) (i : Bool) (e6 : k.pr = 6) (h4 : has x 4 = true) (e4 : k.st = 4) : nextF k x i now = k := by
  obtain ⟨c0, c1, c2, c3, c4, c5, c6, c7, c8, c9⟩ := k
  simp only at e6 e4
  subst e6 e4
  simp [nextF, stepF, stepT, h4]
/-- a packet's cells. -/
def pcl (p : Pkt) : Array Value := #[.int .i64 p.proto, .int .i64 p.src, .int .i64 p.sport, .int .i64 p.dst, .int .i64 p.dport, .int .i64 p.ttl, .int .i64 p.id, .int .i64 p.flags, .int .i64 p.seq, .int .i64 p.ack, .int .i64 p.win, .string p.body]
theorem pv_pcl (p : Pkt) : pv p = .agg (pcl p) := rfl
theorem pcl_info (p : Pkt) : (Try.prog.info? 23).map (·.size) = some (pcl p).size := by kernel_rfl
theorem pcl_one (p : Pkt) : (pcl p).all (·.oneCell') = true := by kernel_rfl
end Go.Proofs.Ythflhaanndnejaf
