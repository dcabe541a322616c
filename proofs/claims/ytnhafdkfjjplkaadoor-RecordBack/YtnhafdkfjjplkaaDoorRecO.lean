/-
  Events in memory; who has each block behind events.
-/
import Derived.Test.YtnhafdkfjjplkaaDoorPoolC
import Derived.Test.YtnhafdkfjjplkaaDoorRecG
import Derived.Maps.AppendAt
import Derived.Deep.RegionHeld3
namespace Go.Proofs.YtnhafdkfjjplkaaDoor
open Go.ChangeShapes Go.WideShapes Go.ChangeAt Go.RowKit
set_option linter.unusedSimpArgs false
set_option linter.unusedVariables false

/-- where a slice begins. -/
def eb : Value → Nat
  | .slice (some a) _ _ => a.block
  | _ => 0
def eo : Value → Nat
  | .slice (some a) _ _ => a.off
  | _ => 0
/-- a list of events lies in memory. -/
def EvAt (w : World) (sl : Value) (es : List Ev) : Prop :=
  ∃ a cap, sl = .slice a es.length cap ∧ (0 < es.length → a = some ⟨eb sl, eo sl, none⟩) ∧ (∀ j (hj : j < es.length), w.rangeAt (eb sl) (eo sl + 5 * j) (ecl es[j])) ∧ es.length ≤ 3518437208780
theorem EvAt.lt {w : World} {sl : Value} {es : List Ev} (h : EvAt w sl es) (hl : 0 < es.length) : eb sl < w.heap.size := by
  obtain ⟨a, cap, e, h1, h2, h3⟩ := h
  have := h2 0 hl 0 _ rfl
  unfold World.cell? at this
  by_cases hlt : eb sl < w.heap.size
  · exact hlt
  · have h3 : w.heap[eb sl]? = none := Array.getElem?_eq_none (by omega)
    simp [h3] at this
theorem EvAt.keep {w w' : World} {sl : Value} {es : List Ev} {B : Nat} (h : EvAt w sl es) (hb : Below B w w') (hlt : 0 < es.length → eb sl < B) : EvAt w' sl es := by
  obtain ⟨a, cap, e, h1, h2, h3⟩ := h
  refine ⟨a, cap, e, h1, fun j hj i v hv => ?_, h3⟩
  have := h2 j hj i v hv
  unfold World.cell? at *
  rw [hb.block _ (hlt (by omega))]
  exact this
theorem EvAt.below {w w' : World} {sl : Value} {es : List Ev} (h : EvAt w sl es) (hb : Below w.heap.size w w') : EvAt w' sl es := h.keep hb h.lt
theorem EvAt.len {w : World} {sl : Value} {es : List Ev} (h : EvAt w sl es) : es.length ≤ 3518437208780 := by
  obtain ⟨a, cap, e, h1, h2, h3⟩ := h
  exact h3
theorem EvAt.at {w : World} {sl : Value} {es : List Ev} (h : EvAt w sl es) (j : Nat) (hj : j < es.length) {e : Ev} (he : es[j] = e) : w.rangeAt (eb sl) (eo sl + 5 * j) (ecl e) := by
  obtain ⟨a, cap, _, h1, h2, h3⟩ := h
  rw [← he]; exact h2 j hj
theorem EvAt.slice {w : World} {sl : Value} {es : List Ev} (h : EvAt w sl es) : ∃ a cap, sl = .slice a es.length cap := by
  obtain ⟨a, cap, e, _⟩ := h
  exact ⟨a, cap, e⟩
theorem ev_next {j n : Nat} (h : j < n) (hn : n ≤ 3518437208780) : wrap64 ((j : Int) + 1) = (j : Int) + 1 := by unfold wrap64; omega
theorem ev_meas {j n : Nat} (h : j < n) : n - ((j : Int) + 1).toNat < n - ((j : Int)).toNat := by omega
theorem EvAt.index {w : World} {sl : Value} {es : List Ev} (h : EvAt w sl es) (j : Nat) (hj : j < es.length) (w2 : World) : (Instr.indexAt 22 sl (.int .i64 (j : Int))).run Tryd.prog w2 = .ok (.pointer (some ⟨eb sl, eo sl + 5 * j, none⟩)) w2 := by
  obtain ⟨a0, cap, e, h1, h2, h3⟩ := h
  have e1 := h1 (by omega)
  generalize eb sl = B at *
  generalize eo sl = O at *
  subst e1
  subst e
  have hn : ((j : Int)).toNat < es.length := by simpa using hj
  have hjl : (j : Int) < (es.length : Int) := by omega
  have hs : (sizeOf 29).run Tryd.prog w2 = .ok 5 w2 := by kernel_rfl
  simp [go_sem, hj, hn, hjl, Tryd.underlying22, hs]
theorem wpList_indexG {ops : Array Oper} {rest : List Oper} {o : Oper} {a : Act} {w : World} {Q : Exit → Act → World → Prop} (t : TypeId) (x y : Operand) (ho : o.op = .indexAddr t x y) (hw : Region.wanted o (yielded ops a.tmps) = true) (p i q : Value) (hx : a.eval x = p) (hy : a.eval y = i) (hrun : (Instr.indexAt t p i).run Tryd.prog w = .ok q w)
    (hr : wpList Tryd.prog ops Q rest (a.put o.dst q) w) : wpList Tryd.prog ops Q (o :: rest) a w :=
  wpList_step fun K hK => by
    rw [if_pos hw]
    unfold Oper.wp execOp
    simp only [ho, hx, hy, Sem.run_bind, hrun, Result.andThen_ok, Sem.run_pure]
    exact hK _ _ hr
theorem yields_indexG {ops : Array Oper} {S : World → Prop} {o : Oper} {a : Act} (t : TypeId) (x y : Operand) (ho : o.op = .indexAddr t x y) (hw : Region.wanted o (yielded ops a.tmps) = true) (p i q : Value) (hx : a.eval x = p) (hy : a.eval y = i) (hrun : ∀ w : World, (Instr.indexAt t p i).run Tryd.prog w = .ok q w) : YieldsIf Tryd.prog ops S o q a :=
  .inl ⟨hw, fun w _ => by unfold execOp; simp only [ho, hx, hy, Sem.run_bind, hrun w, Result.andThen_ok, Sem.run_pure]⟩
theorem yields_loadI {ops : Array Oper} {S : World → Prop} {o : Oper} {a : Act} (x : Operand) (ho : o.op = .load 3 x) (hw : Region.wanted o (yielded ops a.tmps) = true) (b f : Nat) (hx : a.eval x = .pointer (some ⟨b, f, none⟩)) (n : Int) (hS : ∀ w, S w → w.cell? ⟨b, f, none⟩ = some (.int .i64 n)) : YieldsIf Tryd.prog ops S o (.int .i64 n) a :=
  .inl ⟨hw, fun w h => by
    have hcell := hS w h
    unfold execOp
    simp only [ho, hx]
    simp [go_sem, hcell, Tryd.underlying3]⟩
theorem wpList_loadE {ops : Array Oper} {rest : List Oper} {o : Oper} {a : Act} {w : World} {Q : Exit → Act → World → Prop} (x : Operand) (ho : o.op = .load 29 x) (hw : Region.wanted o (yielded ops a.tmps) = true)
    (b f : Nat) (hx : a.eval x = .pointer (some ⟨b, f, none⟩)) (e : Ev) (h : w.rangeAt b f (ecl e))
    (hr : wpList Tryd.prog ops Q rest (a.put o.dst (.agg (ec e))) w) : wpList Tryd.prog ops Q (o :: rest) a w :=
  wpList_step fun K hK => by
    rw [if_pos hw]
    exact wp_load_mid 29 x ho b f hx (ecl e) _ h Tryd.underlying29 rfl (ecl_info e) (hK _ _ hr)
theorem wpList_buildZ {ops : Array Oper} {rest : List Oper} {o : Oper} {a : Act} {w : World} {Q : Exit → Act → World → Prop} (t : TypeId) (ho : o.op = .build t #[]) (hw : Region.wanted o (yielded ops a.tmps) = true) (v : Value) (hrun : ∀ w : World, (Instr.build t #[]).run Tryd.prog w = .ok v w)
    (hr : wpList Tryd.prog ops Q rest (a.put o.dst v) w) : wpList Tryd.prog ops Q (o :: rest) a w :=
  wpList_step fun K hK => by
    rw [if_pos hw]
    unfold Oper.wp execOp
    simp only [ho, Array.map_empty, List.map_toArray, List.map_nil, Sem.run_bind, hrun w, Result.andThen_ok, Sem.run_pure]
    exact hK _ _ hr
theorem wp_storeI {o : Oper} {a : Act} {w : World} {K : Act → World → Prop} {Q : Exit → Act → World → Prop} {t : TypeId} {b : Nat} {cs : Array Value} (R : Row t w b cs) (x y : Operand) (ho : o.op = .store 3 x y)
    (f : Nat) (hx : a.eval x = .pointer (some ⟨b, f, none⟩)) (n : Int) (hy : a.eval y = .int .i64 n) (m : Int) (hc : cs[f]? = some (.int .i64 m)) (ds : Array Value) (hd : cs.setIfInBounds f (.int .i64 n) = ds)
    (hr : ∀ w', Row t w' b ds → Turned b w w' → K (a.put o.dst undef) w') : o.wp Tryd.prog a w K Q := by
  have hcell := (R.cell f).trans hc
  have hfr := R.free f
  unfold Oper.wp execOp
  simp only [ho, hx, hy]
  simp [go_sem, hcell, hfr, Tryd.underlying3]
  exact hr _ (hd ▸ R.set) (turned_cell _ _ _ _)
def z0 : Nat → Int := fun _ => 0
def g0' : Nat → Bool := fun _ => false
theorem pool_zero (w : World) : (zeroValue 39).run Tryd.prog w = .ok (.agg (pc z0 g0')) w := by kernel_rfl
theorem pool_build (w : World) : (Instr.build 39 #[]).run Tryd.prog w = .ok (.agg (pc z0 g0')) w := by kernel_rfl
theorem idxA (b A : Nat) (h : A < 3) (w : World) : (Instr.indexAt 36 (.pointer (some ⟨b, 0, none⟩)) (.int .i64 (A : Int))).run Tryd.prog w = .ok (.pointer (some ⟨b, 6 * A, none⟩)) w := by
  have hs : (sizeOf 35).run Tryd.prog w = .ok 6 w := by kernel_rfl
  have hn : ((A : Int)).toNat < 3 := by omega
  have hl : (A : Int) < 3 := by omega
  simp [go_sem, h, hn, hl, Tryd.underlying36, hs]
theorem idxK (b A K : Nat) (h : K < 6) (w : World) : (Instr.indexAt 35 (.pointer (some ⟨b, 6 * A, none⟩)) (.int .i64 (K : Int))).run Tryd.prog w = .ok (.pointer (some ⟨b, 6 * A + K, none⟩)) w := by
  have hs : (sizeOf 3).run Tryd.prog w = .ok 1 w := by kernel_rfl
  have hn : ((K : Int)).toNat < 6 := by omega
  have hl : (K : Int) < 6 := by omega
  simp [go_sem, h, hn, hl, Tryd.underlying35, hs]
theorem below_undrE {w w' : World} (h : Below w.drew.heap.size w.drew w') : Below w.heap.size w w' := ⟨h.os, h.tape, h.output, h.size, h.block⟩
theorem below_drewE {B : Nat} {w w' : World} (h : Below B w w') : Below B w w'.drew := h.drew
/-- where an event's block lies. -/
def at6 (e : Ev) : Nat := 6 * e.a.toNat + e.b.toNat
theorem at6_lt {e : Ev} (h : okE e) : at6 e < 18 := by unfold okE at h; unfold at6; omega
/-- what is wrong where o has the block; who has it behind. -/
def bhE (o : Int) (e : Ev) : Int := if e.fr = false ∧ o ≠ 0 then 8 else if e.fr = true ∧ o ≠ e.s + 1 then 7 else 0
def ownN (e : Ev) : Int := if e.fr then 0 else e.s + 1
def bhN (o : Int) (e : Ev) : Int := if bhE o e = 0 then ownN e else 0
def walkO (f : Nat → Int) : List Ev → Int × (Nat → Int)
  | [] => (0, f)
  | e :: r => @ite _ (okE e) (okE.dec e) (if bhE (f (at6 e)) e = 0 then walkO (upd f (at6 e) (ownN e)) r else (bhE (f (at6 e)) e, z0)) (2, z0)
theorem walkO_end (f : Nat → Int) (es : List Ev) (j : Nat) (h : es.length ≤ j) : walkO f (es.drop j) = (0, f) := by rw [List.drop_of_length_le h]; rfl
theorem drop_at {es : List Ev} {j : Nat} (h : j < es.length) {e : Ev} (he : es[j] = e) : es.drop j = e :: es.drop (j + 1) := by rw [List.drop_eq_getElem_cons h, he]
theorem walkO_bad (f : Nat → Int) {es : List Ev} {j : Nat} (h : j < es.length) {e : Ev} (he : es[j] = e) (hk : ¬ okE e) : walkO f (es.drop j) = (2, z0) := by rw [drop_at h he]; exact if_neg hk
theorem walkO_err (f : Nat → Int) {es : List Ev} {j : Nat} (h : j < es.length) {e : Ev} (he : es[j] = e) (hk : okE e) (hE : bhE (f (at6 e)) e ≠ 0) : walkO f (es.drop j) = (bhE (f (at6 e)) e, z0) := by
  rw [drop_at h he]; unfold walkO; rw [if_pos hk, if_neg hE]
theorem walkO_ok (f : Nat → Int) {es : List Ev} {j : Nat} (h : j < es.length) {e : Ev} (he : es[j] = e) (hk : okE e) (hE : bhE (f (at6 e)) e = 0) : walkO f (es.drop j) = walkO (upd f (at6 e) (ownN e)) (es.drop (j + 1)) := by
  rw [drop_at h he]; conv => lhs; unfold walkO
  rw [if_pos hk, if_pos hE]
/-- what Owners answers. -/
def ownS (es : List Ev) : Value := .tuple #[.agg (pc (walkO z0 es).2 g0'), .int .i64 (walkO z0 es).1]
theorem ownS_of {es : List Ev} {x : Int} {f : Nat → Int} (h : walkO z0 es = (x, f)) : ownS es = .tuple #[.agg (pc f g0'), .int .i64 x] := by unfold ownS; rw [h]
theorem behind_any (o : Int) (e : Ev) (w : World) (h0 : 0 ≤ e.s) (h1 : e.s < 8) : Calls Tryd.prog 30 #[.int .i64 o, .agg (ec e)] w fun x w' => x = .returned (.tuple #[.int .i64 (bhN o e), .int .i64 (bhE o e)]) ∧ Below w.heap.size w w' := by
  have hB := Below.refl w.heap.size w
  obtain ⟨t, s, a, b, fr⟩ := e
  have hw : wrap64 (s + 1) = s + 1 := by simp at h0 h1; unfold wrap64; omega
  cases fr
  · by_cases ho : o = 0
    · have HR : Hid (bhN o ⟨t, s, a, b, false⟩ = s + 1 ∧ bhE o ⟨t, s, a, b, false⟩ = 0) := by show _ ∧ _; simp [bhN, bhE, ownN, ho]
      subst ho
      simp at h0 h1
      go_enter Tryd.func30, Tryd.ntmps30
      go_wp2_with (first
        | ((with_reducible refine atOp (.box 29 (.tmp 1)) rfl ?_); refine wpList_boxR 29 rfl _ rfl (ec ⟨t, s, a, b, _⟩) rfl ?_; intro b3 w2 l3 R3 hb2; replace hB := hB.trans (hb2.mono hB.size))
        | ((with_reducible refine atOp (.load 4 (.tmp 7)) rfl ?_); refine wpList_loadB R3 _ rfl rfl 4 rfl _ rfl ?_)
        | ((with_reducible refine atOp (.load 4 (.tmp 15)) rfl ?_); refine wpList_loadB R3 _ rfl rfl 4 rfl _ rfl ?_)
        | ((with_reducible refine atOp (.load 4 (.tmp 25)) rfl ?_); refine wpList_loadB R3 _ rfl rfl 4 rfl _ rfl ?_)
        | ((with_reducible refine atOp (.load 3 (.tmp 27)) rfl ?_); refine wpList_loadF R3 _ rfl rfl 1 rfl _ rfl ?_))
      go_ret2
      exact ⟨by rw [HR.out.1, HR.out.2]; rfl, hB⟩
    · have HR : Hid (bhN o ⟨t, s, a, b, false⟩ = 0 ∧ bhE o ⟨t, s, a, b, false⟩ = 8) := by show _ ∧ _; simp [bhN, bhE, ownN, ho]
      have g1 : (o != 0) = true := by simpa using ho
      clear ho
      go_enter Tryd.func30, Tryd.ntmps30
      go_wp2_with (first
        | ((with_reducible refine atOp (.box 29 (.tmp 1)) rfl ?_); refine wpList_boxR 29 rfl _ rfl (ec ⟨t, s, a, b, _⟩) rfl ?_; intro b3 w2 l3 R3 hb2; replace hB := hB.trans (hb2.mono hB.size))
        | ((with_reducible refine atOp (.load 4 (.tmp 7)) rfl ?_); refine wpList_loadB R3 _ rfl rfl 4 rfl _ rfl ?_))
      go_ret2
      exact ⟨by rw [HR.out.1, HR.out.2]; rfl, hB⟩
  · by_cases ho : o = s + 1
    · have HR : Hid (bhN o ⟨t, s, a, b, true⟩ = 0 ∧ bhE o ⟨t, s, a, b, true⟩ = 0) := by show _ ∧ _; simp [bhN, bhE, ownN, ho]
      have g1 : (o != s + 1) = false := by simpa using ho
      clear ho
      simp at h0 h1
      go_enter Tryd.func30, Tryd.ntmps30
      go_wp2_with (first
        | ((with_reducible refine atOp (.box 29 (.tmp 1)) rfl ?_); refine wpList_boxR 29 rfl _ rfl (ec ⟨t, s, a, b, _⟩) rfl ?_; intro b3 w2 l3 R3 hb2; replace hB := hB.trans (hb2.mono hB.size))
        | ((with_reducible refine atOp (.load 4 (.tmp 7)) rfl ?_); refine wpList_loadB R3 _ rfl rfl 4 rfl _ rfl ?_)
        | ((with_reducible refine atOp (.load 4 (.tmp 15)) rfl ?_); refine wpList_loadB R3 _ rfl rfl 4 rfl _ rfl ?_)
        | ((with_reducible refine atOp (.load 4 (.tmp 25)) rfl ?_); refine wpList_loadB R3 _ rfl rfl 4 rfl _ rfl ?_)
        | ((with_reducible refine atOp (.load 3 (.tmp 19)) rfl ?_); refine wpList_loadF R3 _ rfl rfl 1 rfl _ rfl ?_))
      go_ret2
      exact ⟨by rw [HR.out.1, HR.out.2]; rfl, hB⟩
    · have HR : Hid (bhN o ⟨t, s, a, b, true⟩ = 0 ∧ bhE o ⟨t, s, a, b, true⟩ = 7) := by show _ ∧ _; simp [bhN, bhE, ownN, ho]
      have g1 : (o != s + 1) = true := by simpa using ho
      clear ho
      simp at h0 h1
      go_enter Tryd.func30, Tryd.ntmps30
      go_wp2_with (first
        | ((with_reducible refine atOp (.box 29 (.tmp 1)) rfl ?_); refine wpList_boxR 29 rfl _ rfl (ec ⟨t, s, a, b, _⟩) rfl ?_; intro b3 w2 l3 R3 hb2; replace hB := hB.trans (hb2.mono hB.size))
        | ((with_reducible refine atOp (.load 4 (.tmp 7)) rfl ?_); refine wpList_loadB R3 _ rfl rfl 4 rfl _ rfl ?_)
        | ((with_reducible refine atOp (.load 4 (.tmp 15)) rfl ?_); refine wpList_loadB R3 _ rfl rfl 4 rfl _ rfl ?_)
        | ((with_reducible refine atOp (.load 3 (.tmp 19)) rfl ?_); refine wpList_loadF R3 _ rfl rfl 1 rfl _ rfl ?_))
      go_ret2
      exact ⟨by rw [HR.out.1, HR.out.2]; rfl, hB⟩
end Go.Proofs.YtnhafdkfjjplkaaDoor
