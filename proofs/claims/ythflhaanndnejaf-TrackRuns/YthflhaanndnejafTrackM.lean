/-
  A row of packets that are seen, in memory; a flow that never goes back.
-/
import Derived.SizedLaws
import Derived.Deep.Slices
import Derived.Test.YthflhaanndnejafTrackJ
import Derived.Test.YthflhaanndnejafTrackL
namespace Go.Proofs.Ythflhaanndnejaf
open Go.ChangeShapes Go.WideShapes Go.ChangeAt Go.RowKit
set_option linter.unusedSimpArgs false
set_option linter.unusedVariables false

/-- a flow of Tcp of nobody. -/
def fk (st sd du : Int) : Fl := ⟨6, 0, 0, 0, 0, 0, 0, st, sd, du⟩
theorem fk_next (st sd du x now : Int) (inw : Bool) (h1 : 1 ≤ st) (h4 : st ≤ 4) : ∃ st' sd' du', nextF (fk st sd du) x inw now = fk st' sd' du' ∧ st ≤ st' ∧ st' ≤ 4 ∧ (du' = du ∨ du' = now + lifeZ 6 st') ∧ (st = 1 → st' = 2 → inw = true ∧ has x 18 = true) ∧ (st' ≠ st → st' = 4 → none' x 5 = false) := by
  have hl := fl_lt x
  have b4 : has x 4 = true → none' x 5 = false := by
    unfold has none'; generalize fl x = n at hl; revert n; decide
  have b1 : has x 1 = true → none' x 5 = false := by
    unfold has none'; generalize fl x = n at hl; revert n; decide
  have hn : nextF (fk st sd du) x inw now = if (stepT (fk st sd du) x inw).2 then { (stepT (fk st sd du) x inw).1 with du := now + lifeZ (stepT (fk st sd du) x inw).1.pr (stepT (fk st sd du) x inw).1.st } else (stepT (fk st sd du) x inw).1 := rfl
  rw [hn]
  unfold stepT
  by_cases e4 : has x 4 = true
  · rw [if_pos e4]
    by_cases hs : st = 4
    · subst hs
      exact ⟨4, sd, du, rfl, by omega, by omega, .inl rfl, fun h => by omega, fun h => absurd rfl h⟩
    · have : ((fk st sd du).st != 4) = true := by simp [fk, hs]
      rw [if_pos this]
      exact ⟨4, sd, now + lifeZ 6 4, rfl, by omega, by omega, .inr rfl, fun _ h => by omega, fun _ _ => b4 e4⟩
  · rw [if_neg e4]
    by_cases c1 : (fk st sd du).st = 1 ∧ inw = true ∧ has x 18 = true
    · rw [if_pos c1]
      have hst : st = 1 := c1.1
      exact ⟨2, sd, now + lifeZ 6 2, rfl, by omega, by omega, .inr rfl, fun _ _ => c1.2, fun _ h => by omega⟩
    · rw [if_neg c1]
      by_cases c2 : (fk st sd du).st = 2 ∧ has x 1 = true
      · rw [if_pos c2]
        have hst : st = 2 := c2.1
        exact ⟨3, sideZ inw, now + lifeZ 6 3, rfl, by omega, by omega, .inr rfl, fun h => by omega, fun _ h => by omega⟩
      · rw [if_neg c2]
        by_cases c3 : (fk st sd du).st = 3 ∧ has x 1 = true ∧ sideZ inw ≠ (fk st sd du).sd
        · rw [if_pos c3]
          have hst : st = 3 := c3.1
          exact ⟨4, sd, now + lifeZ 6 4, rfl, by omega, by omega, .inr rfl, fun h => by omega, fun _ _ => b1 c3.2.1⟩
        · rw [if_neg c3]
          have fin : ∀ r : Bool, ∃ st' sd' du', (if ((fk st sd du, r) : Fl × Bool).2 = true then { ((fk st sd du, r) : Fl × Bool).1 with du := now + lifeZ ((fk st sd du, r) : Fl × Bool).1.pr ((fk st sd du, r) : Fl × Bool).1.st } else ((fk st sd du, r) : Fl × Bool).1) = fk st' sd' du' ∧ st ≤ st' ∧ st' ≤ 4 ∧ (du' = du ∨ du' = now + lifeZ 6 st') ∧ (st = 1 → st' = 2 → inw = true ∧ has x 18 = true) ∧ (st' ≠ st → st' = 4 → none' x 5 = false) := by
            intro r
            cases r
            · exact ⟨st, sd, du, rfl, by omega, by omega, .inl rfl, fun _ h => by omega, fun h => absurd rfl h⟩
            · exact ⟨st, sd, now + lifeZ 6 st, rfl, by omega, by omega, .inr rfl, fun _ h => by omega, fun h => absurd rfl h⟩
          by_cases c5 : (fk st sd du).st = 1
          · rw [if_pos c5]; exact fin _
          · rw [if_neg c5]; exact fin _
/-- a packet that is seen. -/
abbrev Sn := Int × Int × Bool
def scl (s : Sn) : List Value := [.int .i64 s.1, .int .i64 s.2.1, .bool s.2.2]
/-- a list of them in memory. -/
def SeenAt (w : World) (a : Option Addr) (cap B O : Nat) (ss : List Sn) : Prop := (0 < ss.length → a = some ⟨B, O, none⟩) ∧ (∀ j (hj : j < ss.length) k v, (scl ss[j])[k]? = some v → w.cell? ⟨B, O + 3 * j + k, none⟩ = some v) ∧ ss.length ≤ 140737488355328
theorem SeenAt.lt {w : World} {a : Option Addr} {cap B O : Nat} {ss : List Sn} (h : SeenAt w a cap B O ss) (hl : 0 < ss.length) : B < w.heap.size := by
  have := h.2.1 0 hl 0 _ rfl
  unfold World.cell? at this
  rcases hh : w.heap[B]? with _ | o
  · simp [hh] at this
  · exact (Array.getElem?_eq_some_iff.1 hh).1
theorem SeenAt.keep {w w' : World} {a : Option Addr} {cap B O : Nat} {ss : List Sn} {n : Nat} (h : SeenAt w a cap B O ss) (hb : Below n w w') (hlt : 0 < ss.length → B < n) : SeenAt w' a cap B O ss := by
  refine ⟨h.1, fun j hj k v hv => ?_, h.2.2⟩
  have := h.2.1 j hj k v hv
  unfold World.cell? at *
  rw [hb.block _ (hlt (by omega))]
  exact this
theorem index_run {w : World} {a : Option Addr} {cap B O : Nat} {ss : List Sn} (h : SeenAt w a cap B O ss) (j : Nat) (hj : j < ss.length) (w2 : World) : (Instr.indexAt 27 (.slice a ss.length cap) (.int .i64 (j : Int))).run Try.prog w2 = .ok (.pointer (some ⟨B, O + 3 * j, none⟩)) w2 := by
  have e1 := h.1 (by omega)
  subst e1
  have hn : ((j : Int)).toNat < ss.length := by simpa using hj
  have hjl : (j : Int) < (ss.length : Int) := by omega
  have hs : (sizeOf 34).run Try.prog w2 = .ok 3 w2 := by kernel_rfl
  simp [go_sem, hj, hn, hjl, Try.underlying27, hs]
theorem wpList_indexS {ops : Array Oper} {rest : List Oper} {o : Oper} {a : Act} {w : World} {Q : Exit → Act → World → Prop} (x y : Operand) (ho : o.op = .indexAddr 27 x y) (hw : Region.wanted o (yielded ops a.tmps) = true) (p : Value) (i q : Value) (hx : a.eval x = p) (hy : a.eval y = i) (hrun : (Instr.indexAt 27 p i).run Try.prog w = .ok q w)
    (hr : wpList Try.prog ops Q rest (a.put o.dst q) w) : wpList Try.prog ops Q (o :: rest) a w :=
  wpList_step fun K hK => by
    rw [if_pos hw]
    unfold Oper.wp execOp
    simp only [ho, hx, hy, Sem.run_bind, hrun, Result.andThen_ok, Sem.run_pure]
    exact hK _ _ hr
theorem yields_indexS {ops : Array Oper} {S : World → Prop} {o : Oper} {a : Act} (x y : Operand) (ho : o.op = .indexAddr 27 x y) (hw : Region.wanted o (yielded ops a.tmps) = true) (p i q : Value) (hx : a.eval x = p) (hy : a.eval y = i) (hrun : ∀ w : World, (Instr.indexAt 27 p i).run Try.prog w = .ok q w) : YieldsIf Try.prog ops S o q a :=
  .inl ⟨hw, fun w _ => by unfold execOp; simp only [ho, hx, hy, Sem.run_bind, hrun w, Result.andThen_ok, Sem.run_pure]⟩
theorem open_seen_cells {H : Type} {enc : TypeId × Value → H} {w : World} {base : Nat} {sp : Nat → Bool} {held : Bool} {fuel : Nat} {l : List Value} {x : DataW H × List MemPlace} (hl0 : l.length = 3) (hf0 : DataW.trod enc Try.prog w base sp held fuel 34 l = some x) : ∃ m : Sn, l = scl m := by
  have cI : Try.prog.cellsOf 3 = 1 := by kernel_rfl
  have cB : Try.prog.cellsOf 4 = 1 := by kernel_rfl
  obtain ⟨ys, m, _, hx, _, hl, hf⟩ := DataW.trod_struct Try.underlying34 hf0
  match l, hl0 with
  | [c0, c1, c2], _ =>
  match ys, hl with
  | [y0, y1, y2], _ =>
  have hv0 := hf 0 _ rfl
  have hv1 := hf 1 _ rfl
  have hv2 := hf 2 _ rfl
  simp [cI, cB] at hv0 hv1 hv2
  obtain ⟨x0, e0, rfl, s0⟩ := DataW.trod_int Try.underlying3 hv0
  obtain ⟨x1, e1, rfl, s1⟩ := DataW.trod_int Try.underlying3 hv1
  obtain ⟨x2, e2, rfl⟩ := DataW.trod_bool Try.underlying4 hv2
  simp at e0 e1 e2
  subst e0 e1 e2
  exact ⟨(x0, x1, x2), rfl⟩
theorem open_seen {H : Type} {enc : TypeId × Value → H} {w : World} {sp : Nat → Bool} {held : Bool} {fuel : Nat} {l : List Value} {x : DataW H × List MemPlace} (hf0 : DataW.trod enc Try.prog w 0 sp held fuel 27 l = some x) (hw : ∀ y ∈ x.1.weights Try.prog 27, y ≤ reachBytes) : ∃ a cap B O, ∃ ss : List Sn, l = [.slice a ss.length cap] ∧ SeenAt w a cap B O ss := by
  have c3 : Try.prog.cellsOf 34 = 3 := by kernel_rfl
  have hby : Try.prog.bytesOf 34 = 24 := by kernel_rfl
  rcases Go.Deep.open_slice Try.underlying27 hf0 with ⟨rfl, rfl⟩ | ⟨a, len, cap, m, n, D, Pl, rfl, hb, hl, hm, hmm, rfl, hx⟩
  · exact ⟨none, 0, 0, 0, [], rfl, fun h => absurd h (by simp), fun j hj => absurd hj (by simp), by simp⟩
  · have hlm : len ≤ m := by rw [hmm]; split <;> omega
    have hbd : len ≤ 140737488355328 := by
      have h1 := hw _ (by simp only [DataW.weights, Try.underlying27]; exact List.mem_cons_self)
      rw [hby] at h1
      simp [reachBytes] at h1
      omega
    have each : ∀ i, i < len → ∃ q : Sn, ∀ k v, (scl q)[k]? = some v → w.cell? (a.add (3 * i + k)) = some v := by
      intro i hi
      obtain ⟨cs', h1, h2⟩ := hx i (by omega)
      rw [c3] at h1
      obtain ⟨_, hlen, hcell⟩ := World.cells?_some h1
      obtain ⟨q, rfl⟩ := open_seen_cells hlen h2
      refine ⟨q, fun k v hv => ?_⟩
      have hk : k < 3 := by have := (List.getElem?_eq_some_iff.1 hv).1; simpa [scl] using this
      have := hcell k hk
      rw [Go.Deep.add_add, Nat.mul_comm i 3] at this
      first | exact this.trans hv | (rw [this]; simpa using hv)
    obtain ⟨q, hq⟩ := Go.Deep.choose_lt each
    have hsp : 0 < len → a = ⟨a.block, a.off, none⟩ := by
      intro h0
      have := hq 0 h0 0 _ rfl
      obtain ⟨b, off, spot⟩ := a
      have hspot : spot = none := by simpa [Addr.add] using World.cell?_spot this
      subst hspot
      rfl
    refine ⟨some a, cap, a.block, a.off, (List.range len).map q, by simp, fun h0 => ?_, fun j hj k v hv => ?_, by simpa using hbd⟩
    · rw [hsp (by simpa using h0)]
    · have hj' : j < len := by simpa using hj
      have e1 : ((List.range len).map q)[j] = q j := by simp
      rw [e1] at hv
      have := hq j hj' k v hv
      rw [hsp (by omega), Addr.add_lit] at this
      show w.cell? ⟨a.block, a.off + 3 * j + k, none⟩ = some v
      rw [Nat.add_assoc]
      exact this
end Go.Proofs.Ythflhaanndnejaf
