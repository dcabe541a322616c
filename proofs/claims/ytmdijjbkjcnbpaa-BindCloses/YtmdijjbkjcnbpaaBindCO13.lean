/-
  Of what BindCloses, BindOpens stands on: part 13.
-/
import Derived.Laws.MakeOwn
import Derived.Laws.AppendOwnNone
import Derived.DeepKeys
import Derived.Deep.RegionHeld3
import Derived.Test.YtmdijjbkjcnbpaaBindCO7
import Derived.Test.YtmdijjbkjcnbpaaBindCO8
import Derived.Test.YtmdijjbkjcnbpaaBindCO12
namespace Go.Proofs.Ytmdijjbkjcnbpaa
open Go.ChangeShapes Go.WideShapes Go.ChangeAt Go.RowKit
set_option linter.unusedSimpArgs false
set_option linter.unusedVariables false

theorem cnt_sum (ms : List Mp) (h : ∀ m ∈ ms, 0 ≤ m.2.1 ∧ m.2.1 < 8) : ms.length = cntM ms 0 + cntM ms 1 + cntM ms 2 + cntM ms 3 + cntM ms 4 + cntM ms 5 + cntM ms 6 + cntM ms 7 := by
  induction ms with
  | nil => simp [cntM]
  | cons m r ih =>
    have hm := h m (by simp)
    have := ih (fun o ho => h o (by simp [ho]))
    have step : ∀ s : Int, cntM (m :: r) s = cntM r s + if m.2.1 = s then 1 else 0 := by
      intro s; unfold cntM; by_cases e : m.2.1 = s
      · simp [e]
      · simp [e]
    simp only [step, List.length_cons]
    rcases (show m.2.1 = 0 ∨ m.2.1 = 1 ∨ m.2.1 = 2 ∨ m.2.1 = 3 ∨ m.2.1 = 4 ∨ m.2.1 = 5 ∨ m.2.1 = 6 ∨ m.2.1 = 7 by omega) with e | e | e | e | e | e | e | e <;> rw [e] <;> simp <;> omega
theorem GoodT.len {f h : Nat → Int} {ms : List Mp} (G : GoodT f h ms) : ms.length ≤ 96 := by
  have := cnt_sum ms (fun m hm => (G.maps.1 m hm).2.1)
  have h0 : cntM ms 0 ≤ 12 := (G.few 0 (by omega)).2
  have h1 : cntM ms 1 ≤ 12 := (G.few 1 (by omega)).2
  have h2 : cntM ms 2 ≤ 12 := (G.few 2 (by omega)).2
  have h3 : cntM ms 3 ≤ 12 := (G.few 3 (by omega)).2
  have h4 : cntM ms 4 ≤ 12 := (G.few 4 (by omega)).2
  have h5 : cntM ms 5 ≤ 12 := (G.few 5 (by omega)).2
  have h6 : cntM ms 6 ≤ 12 := (G.few 6 (by omega)).2
  have h7 : cntM ms 7 ≤ 12 := (G.few 7 (by omega)).2
  omega
/-- the cells of maps, one behind the other. -/
def flat (ms : List Mp) : List Value := ms.flatMap mcl
theorem flat_lenB (ms : List Mp) : (flat ms).length = ms.length * 5 := by
  induction ms with
  | nil => rfl
  | cons m r ih => unfold flat at *; rw [List.flatMap_cons, List.length_append, ih, List.length_cons]; simp [mcl]; omega
theorem flat_app (ms os : List Mp) : flat (ms ++ os) = flat ms ++ flat os := by unfold flat; exact List.flatMap_append
theorem flat_oneB (m : Mp) : flat [m] = mcl m := by unfold flat; simp
theorem flat_get (ms : List Mp) (j i : Nat) (hj : j < ms.length) (hi : i < 5) : (flat ms)[5 * j + i]? = (mcl ms[j])[i]? := by
  induction ms generalizing j with
  | nil => simp at hj
  | cons m r ih =>
    have e : flat (m :: r) = mcl m ++ flat r := by unfold flat; rw [List.flatMap_cons]
    rw [e]
    cases j with
    | zero => rw [List.getElem?_append_left (by simp [mcl]; omega)]; simp
    | succ j =>
      rw [List.getElem?_append_right (by simp [mcl]; omega)]
      have : 5 * (j + 1) + i - (mcl m).length = 5 * j + i := by simp [mcl]; omega
      rw [this, ih j (by simpa using hj)]
      simp
theorem flat_cells {ms : List Mp} {w : World} {b o : Nat} (h : ∀ j (hj : j < ms.length), w.rangeAt b (o + 5 * j) (mcl ms[j])) : ∀ k u, (flat ms)[k]? = some u → w.cell? ⟨b, o + k, none⟩ = some u := by
  intro k u hu
  have hk : k < ms.length * 5 := by rw [← flat_lenB]; exact (List.getElem?_eq_some_iff.1 hu).1
  have e : k = 5 * (k / 5) + k % 5 := by omega
  have hj : k / 5 < ms.length := by omega
  rw [e, flat_get ms (k / 5) (k % 5) hj (by omega)] at hu
  have := h (k / 5) hj (k % 5) u hu
  rw [show o + k = o + 5 * (k / 5) + k % 5 by omega]
  exact this
theorem flat_oneCell (ms : List Mp) : ∀ u ∈ flat ms, u.oneCell' = true := by
  intro u hu
  unfold flat at hu
  rw [List.mem_flatMap] at hu
  obtain ⟨m, _, hm⟩ := hu
  simp [mcl] at hm
  rcases hm with rfl | rfl | rfl | rfl | rfl <;> rfl
/-- a nil slice has no room. -/
def NilOk (sl : Value) : Prop := ∀ n c, sl = .slice none n c → c = 0
theorem own_maps {w : World} {base : Nat} {v : Value} {ms : List Mp} (h : w.ownsRow base 32 5 v ms.length (flat ms)) (hl : ms.length ≤ 140737488355328) : MapsAt w v ms ∧ NilOk v ∧ (0 < ms.length → base ≤ mb v) := by
  rcases h.2 with ⟨e, n0⟩ | ⟨b, cap, cur, hv, hbb, hh, hnc, hcm, hcs, ht⟩
  · have : ms = [] := List.eq_nil_of_length_eq_zero n0
    subst this
    rw [e]
    exact ⟨MapsAt.nil w, fun n c e => by injection e with _ _ e3; exact e3.symm, fun h => absurd h (by simp)⟩
  · have hc := h.cells (g := b) (by rw [hv]; rfl)
    subst hv
    refine ⟨⟨_, _, rfl, fun _ => rfl, fun j hj i u hu => ?_, hl, _, rfl, hnc⟩, fun n c e => (by injection e with e1; simp at e1), fun _ => hbb⟩
    have hi : i < 5 := (List.getElem?_eq_some_iff.1 hu).1
    have hg := flat_get ms j i hj hi
    rw [hu] at hg
    have := hc _ _ hg
    rw [Addr.add_lit] at this
    simpa [mb, mo] using this
theorem info_map : (Try.prog.info? 32).map (fun i => (i.zero, i.size, i.bytes)) = some (some (.agg (mc noM)), 5, 40) := by kernel_rfl
theorem five_new (w : World) (m : Mp) (t : TypeId) : ∀ j u, (mcl m)[j]? = some u → (w.alloc (.cells (mc m) t)).cell? ((⟨w.heap.size, 0, none⟩ : Addr).add j) = some u := by
  intro j u hu
  rw [Addr.add_lit, Nat.zero_add]
  rw [World.cell?_alloc_mark w (mc m) t (0, 0) j]
  show (mcl m).toArray[j]? = some u
  simpa using hu
theorem mcl_oneCell (m : Mp) : ∀ u ∈ mcl m, u.oneCell' = true := by
  intro u hu
  simp [mcl] at hu
  rcases hu with rfl | rfl | rfl | rfl | rfl <;> rfl
theorem wpList_buildM {ops : Array Oper} {rest : List Oper} {o : Oper} {a : Act} {w : World} {Q : Exit → Act → World → Prop} (hgd : o.guard = none) (x : Operand) (ho : o.op = .buildSlice 28 1 #[(0, x)]) (m : Mp) (hx : a.eval x = .agg (mc m))
    (hr : wpList Try.prog ops Q rest (a.put o.dst (.slice (some ⟨w.heap.size, 0, none⟩) 1 1)) (w.alloc (.cells (mc m) 32))) : wpList Try.prog ops Q (o :: rest) a w :=
  wpList_plain hgd fun K hK => by
    have hb : (Instr.buildSlice 28 1 #[(0, .agg (mc m))]).run Try.prog w = .ok (.slice (some ⟨w.heap.size, 0, none⟩) 1 1) (w.alloc (.cells (mc m) 32)) := by kernel_rfl
    unfold Oper.wp execOp
    simp only [ho, List.map_toArray, List.map_cons, List.map_nil, hx, Sem.run_bind, hb, Result.andThen_ok, Sem.run_pure]
    exact hK _ _ hr
theorem grown_row {t e : TypeId} {w w' : World} {b base size n : Nat} {cs : Array Value} {v : Value} {xs : List Value} (R : Row t w b cs) (h : w.ownsRow base e size v n xs) (hne : t ≠ e ∨ b < base) (hg : w.grownBy w' v.ownBlock) : Row t w' b cs := by
  refine (hg.block b R.lt ?_).trans R
  intro eq
  rcases hne with hne | hlt
  · rcases h.2 with ⟨e', _⟩ | ⟨g, cap, cur, hv, hbb, hh, r⟩
    · rw [e'] at eq; simp [Value.ownBlock] at eq
    · rw [hv] at eq
      have e' : b = g := by simpa [Value.ownBlock] using eq
      subst e'
      unfold Row at R
      rw [hh] at R
      injection R with R
      injection R with _ R2
      exact hne R2.symm
  · have := h.lt b eq.symm
    omega
theorem grownN_below {w w0 w' : World} {B : Nat} (h : Below B w0 w) (hle : B ≤ w.heap.size) (hg : w.grownBy w' none) : Below B w0 w' :=
  ⟨hg.os.trans h.os, hg.tape.trans h.tape, hg.output.trans h.output, Nat.le_trans h.size hg.size, fun k hk => (hg.block k (Nat.lt_of_lt_of_le hk hle) (by simp)).trans (h.block k hk)⟩
theorem row_slice2 {w : World} {base : Nat} {e : TypeId} {size : Nat} {v : Value} {n : Nat} {xs : List Value} (h : w.ownsRow base e size v n xs) : ∃ a c, v = .slice a n c := by
  rcases h.2 with ⟨e, n0⟩ | ⟨b, cap, cur, hv, _⟩
  · exact ⟨none, 0, by rw [e, n0]⟩
  · exact ⟨_, _, hv⟩
theorem wpList_makeM {ops : Array Oper} {rest : List Oper} {o : Oper} {a : Act} {w : World} {Q : Exit → Act → World → Prop} (hgd : o.guard = none) (x y : Operand) (ho : o.op = .makeSlice 28 x y) (hx : a.eval x = .int .i64 0) (c : Nat) (hy : a.eval y = .int .i64 (c : Int)) (hc : c ≤ 1000)
    (hr : ∀ v w', v = .slice (some ⟨w.heap.size, 0, none⟩) 0 c → w'.ownsRow w.heap.size 32 5 v 0 [] → w.grownBy w' none → wpList Try.prog ops Q rest (a.put o.dst v) w') : wpList Try.prog ops Q (o :: rest) a w :=
  wpList_plain hgd fun K hK => by
    obtain ⟨i0, hi, hz0, hz1, hz2⟩ := info_parts info_map
    obtain ⟨w', hrun, h1, h2⟩ := run_make_own (P := Try.prog) w w.heap.size 28 32 i0 (.agg (mc noM)) 5 Try.underlying28 hi hz0 hz1 .i64 .i64 c (by rw [hz2]; omega) (by unfold maxLen; omega) (Nat.le_refl _)
    unfold Oper.wp execOp
    simp only [ho, hx, hy, Sem.run_bind, hrun, Result.andThen_ok, Sem.run_pure]
    exact hK _ _ (hr _ w' rfl h1 h2)
theorem own_base {w : World} {base b2 : Nat} {e : TypeId} {size n : Nat} {v : Value} {xs : List Value} (h : w.ownsRow base e size v n xs) (hb : b2 ≤ base) : w.ownsRow b2 e size v n xs := by
  refine ⟨h.1, ?_⟩
  rcases h.2 with e | ⟨b, cap, cur, hv, hbb, r⟩
  · exact .inl e
  · exact .inr ⟨b, cap, cur, hv, by omega, r⟩
set_option maxRecDepth 10000 in
set_option maxHeartbeats 4000000 in
theorem with_any (sl : Value) (ms : List Mp) (m : Mp) (w : World) (hM : MapsAt w sl ms) (hno : NilOk sl) (hl : ms.length ≤ 96) :
    Calls Try.prog 42 #[sl, .agg (mc m)] w fun e w' => ∃ v, e = .returned v ∧ MapsAt w' v (ms ++ [m]) ∧ NilOk v ∧ w.heap.size ≤ mb v ∧ Below w.heap.size w w' := by
  have hB := Below.refl w.heap.size w
  obtain ⟨i0, hi, hz0, hz1, hz2⟩ := info_parts info_map
  have hM0 := hM
  obtain ⟨a0, cap, hsl, ha0, hrg, -⟩ := hM0
  obtain ⟨n, hn⟩ : ∃ n, n = ms.length := ⟨_, rfl⟩
  have HN : Hid (n = ms.length) := hn
  rw [← hn] at hsl
  have hn96 : n ≤ 96 := by omega
  have hnw : wrap64 ((n : Int) + 1) = ((n + 1 : Nat) : Int) := by unfold wrap64; omega
  have hlt := hM.lt
  have src : ∀ {W : World}, Below w.heap.size w W → ∀ k u, (flat ms)[k]? = some u → W.cell? ((⟨mb sl, mo sl, none⟩ : Addr).add k) = some u := by
    intro W hb k u hu
    rw [Addr.add_lit]
    refine flat_cells (fun j hj => ?_) k u hu
    exact (hM.keep hb hlt).at j hj rfl
  have fin : ∀ (W : World) (v : Value), W.ownsRow w.heap.size 32 5 v (n + 1) (flat ms ++ mcl m) → MapsAt W v (ms ++ [m]) ∧ NilOk v ∧ w.heap.size ≤ mb v := by
    intro W v h
    have e1 : (ms ++ [m]).length = n + 1 := by simp [← hn]
    have h' : W.ownsRow w.heap.size 32 5 v (ms ++ [m]).length (flat (ms ++ [m])) := by rw [e1, flat_app, flat_oneB]; exact h
    have := own_maps h' (by omega)
    exact ⟨this.1, this.2.1, this.2.2 (by omega)⟩
  clear hn hrg
  cases a0 with
  | none =>
    obtain rfl : cap = 0 := hno _ _ hsl
    have n0 : ms.length = 0 := by
      by_cases h : 0 < ms.length
      · have := ha0 h; simp at this
      · omega
    have hms : ms = [] := List.eq_nil_of_length_eq_zero n0
    obtain rfl : n = 0 := HN.out.trans n0
    subst hsl
    clear ha0 src
    go_enter Try.func42, Try.ntmps42
    go_wp2_with (first
      | (refine wpList_boxR 32 rfl _ rfl _ rfl ?_; intro b3 w0 l3 R3 hb0; replace hB := hB.trans (hb0.mono hB.size))
      | (refine wpList_makeM rfl _ _ rfl rfl (0 + 1) rfl (by omega) ?_; intro v1 w1 hv1 hown1 hg1; have l3b := R3.lt; replace R3 : Row 32 w1 b3 (mc m) := (hg1.block b3 R3.lt (by simp)).trans R3; replace hown1 := hown1; replace hB := grownN_below hB hB.size hg1; subst hv1)
      | (refine wpList_append_own_none rfl (.tmp 10) (.tmp 11) 28 rfl w.heap.size 32 i0 5 Try.underlying28 hi _ _ _ rfl (own_base hown1 (by have := hb0.size; omega)) rfl ?_; have hown2 : World.ownsRow _ w.heap.size 32 5 _ 0 [] := own_base hown1 (by have := hb0.size; omega); rw [hms] at fin)
      | (refine wpList_loadR 32 _ rfl rfl _ rfl (mc m) R3 _ Try.underlying32 rfl (mc_info m) ?_)
      | (refine wpList_buildM rfl _ rfl m rfl ?_)
      | (refine wpList_append_own _ rfl _ _ 28 rfl w.heap.size 32 i0 (.agg (mc noM)) 5 40 Try.underlying28 hi hz0 hz1 hz2 rfl (by decide) _ _ _ rfl (hown2.alloc _) ⟨_, 0, none⟩ 1 1 (mcl m) rfl rfl (five_new _ _ _) (mcl_oneCell m) (by unfold maxLen; omega) (by omega) (by have := hB.size; simp; omega) ?_; intro v4 w4 hown4 hg4 hn4; clear hn4; replace hB := grown_below (hown2.alloc _) (hB.alloc hB.size _) (by have := hB.size; simp; omega) hg4; obtain ⟨a4, c4, rfl⟩ := row_slice2 hown4))

    go_ret
    obtain ⟨h1, h2, h3⟩ := fin _ _ hown4
    exact ⟨_, rfl, h1, h2, h3, hB⟩
  | some ad =>
    have had : 0 < n → ad = ⟨mb sl, mo sl, none⟩ := fun h => by
      have := ha0 (by rw [← HN.out]; exact h)
      exact Option.some.inj this
    have src' : ∀ {W : World}, Below w.heap.size w W → ∀ k u, (flat ms)[k]? = some u → W.cell? (ad.add k) = some u := by
      intro W hb k u hu
      have hk : k < ms.length * 5 := by rw [← flat_lenB]; exact (List.getElem?_eq_some_iff.1 hu).1
      rw [had (by rw [HN.out]; omega)]
      exact src hb k u hu
    subst hsl
    clear ha0 src had hno
    go_enter Try.func42, Try.ntmps42
    go_wp2_with (first
      | (refine wpList_boxR 32 rfl _ rfl _ rfl ?_; intro b3 w0 l3 R3 hb0; replace hB := hB.trans (hb0.mono hB.size))
      | (refine wpList_makeM rfl _ _ rfl rfl (n + 1) rfl (by omega) ?_; intro v1 w1 hv1 hown1 hg1; have l3b := R3.lt; replace R3 : Row 32 w1 b3 (mc m) := (hg1.block b3 R3.lt (by simp)).trans R3; replace hown1 := hown1; replace hB := grownN_below hB hB.size hg1; subst hv1)
      | (refine wpList_append_own _ rfl (.tmp 10) (.tmp 11) 28 rfl w.heap.size 32 i0 (.agg (mc noM)) 5 40 Try.underlying28 hi hz0 hz1 hz2 rfl (by decide) _ _ _ rfl (own_base hown1 (by have := hb0.size; omega)) ad n cap (flat ms) rfl (by rw [flat_lenB, HN.out]) (src' hB) (flat_oneCell ms) (by unfold maxLen; omega) (by omega) hB.size ?_; intro v2 w2 hown2 hg2 hn2; clear hn2; simp only [Nat.zero_add, List.nil_append] at hown2; replace R3 := grown_row R3 hown1 (.inr l3b) hg2; replace hB := grown_below (own_base hown1 (by have := hb0.size; omega)) hB hB.size hg2; obtain ⟨a2, c2, rfl⟩ := row_slice2 hown2)
      | (refine wpList_loadR 32 _ rfl rfl _ rfl (mc m) R3 _ Try.underlying32 rfl (mc_info m) ?_)
      | (refine wpList_buildM rfl _ rfl m rfl ?_)
      | (refine wpList_append_own _ rfl _ _ 28 rfl w.heap.size 32 i0 (.agg (mc noM)) 5 40 Try.underlying28 hi hz0 hz1 hz2 rfl (by decide) _ _ _ rfl (hown2.alloc _) ⟨_, 0, none⟩ 1 1 (mcl m) rfl rfl (five_new _ _ _) (mcl_oneCell m) (by unfold maxLen; omega) (by omega) (by have := hB.size; simp; omega) ?_; intro v4 w4 hown4 hg4 hn4; clear hn4; replace hB := grown_below (hown2.alloc _) (hB.alloc hB.size _) (by have := hB.size; simp; omega) hg4; obtain ⟨a4, c4, rfl⟩ := row_slice2 hown4))
    go_ret
    obtain ⟨h1, h2, h3⟩ := fin _ _ hown4
    exact ⟨_, rfl, h1, h2, h3, hB⟩
end Go.Proofs.Ytmdijjbkjcnbpaa

namespace Go.Proofs.Ytmdijjbkjcnbpaa
open Go.ChangeShapes Go.WideShapes Go.ChangeAt Go.RowKit
set_option linter.unusedSimpArgs false
set_option linter.unusedVariables false

theorem wf_small {x : Int} (h0 : 0 ≤ x) (h8 : x ≤ 8) : (Lit.int .i64 x).wf = true := by simp [Lit.wf, IntKind.min, IntKind.max, IntKind.bits, IntKind.signed]; omega
def wfH (h : Nat → Int) : Prop := ∀ i, i < 8 → (Lit.int .i64 (h i)).wf = true
set_option maxRecDepth 10000 in
theorem own_lits (f : Nat → Int) (hf : wfF f) : Try.prog.keyLits 3 23 (Value.agg (oc f)).cells.toList = some [.int .i64 (f 0), .int .i64 (f 1), .int .i64 (f 2), .int .i64 (f 3), .int .i64 (f 4), .int .i64 (f 5), .int .i64 (f 6), .int .i64 (f 7), .int .i64 (f 8), .int .i64 (f 9), .int .i64 (f 10), .int .i64 (f 11), .int .i64 (f 12), .int .i64 (f 13), .int .i64 (f 14), .int .i64 (f 15), .int .i64 (f 16), .int .i64 (f 17)] := by
  have c44 : Try.prog.cellsOf 23 = 18 := by kernel_rfl
  have c43 : Try.prog.cellsOf 22 = 6 := by kernel_rfl
  have c3 : Try.prog.cellsOf 3 = 1 := by kernel_rfl
  have h0 := hf 0 (by omega)
  have h1 := hf 1 (by omega)
  have h2 := hf 2 (by omega)
  have h3 := hf 3 (by omega)
  have h4 := hf 4 (by omega)
  have h5 := hf 5 (by omega)
  have h6 := hf 6 (by omega)
  have h7 := hf 7 (by omega)
  have h8 := hf 8 (by omega)
  have h9 := hf 9 (by omega)
  have h10 := hf 10 (by omega)
  have h11 := hf 11 (by omega)
  have h12 := hf 12 (by omega)
  have h13 := hf 13 (by omega)
  have h14 := hf 14 (by omega)
  have h15 := hf 15 (by omega)
  have h16 := hf 16 (by omega)
  have h17 := hf 17 (by omega)
  simp [Program.keyLits, Value.cells, oc, Try.underlying23, Try.underlying22, Try.underlying3, c44, c43, c3, List.range, List.range.loop, h0, h1, h2, h3, h4, h5, h6, h7, h8, h9, h10, h11, h12, h13, h14, h15, h16, h17]
def hc8 (h : Nat → Int) : Array Value := (hcl h).toArray
set_option maxRecDepth 10000 in
theorem home_lits (h : Nat → Int) (hh : wfH h) : Try.prog.keyLits 2 27 (Value.agg (hc8 h)).cells.toList = some [.int .i64 (h 0), .int .i64 (h 1), .int .i64 (h 2), .int .i64 (h 3), .int .i64 (h 4), .int .i64 (h 5), .int .i64 (h 6), .int .i64 (h 7)] := by
  have c8 : Try.prog.cellsOf 27 = 8 := by kernel_rfl
  have c3 : Try.prog.cellsOf 3 = 1 := by kernel_rfl
  have h0 := hh 0 (by omega)
  have h1 := hh 1 (by omega)
  have h2 := hh 2 (by omega)
  have h3 := hh 3 (by omega)
  have h4 := hh 4 (by omega)
  have h5 := hh 5 (by omega)
  have h6 := hh 6 (by omega)
  have h7 := hh 7 (by omega)
  simp [Program.keyLits, Value.cells, hc8, hcl, Try.underlying27, Try.underlying3, c8, c3, List.range, List.range.loop, h0, h1, h2, h3, h4, h5, h6, h7]
def eqTo (f g : Nat → Int) (n : Nat) : Bool := (List.range n).all fun k => f k == g k
theorem eqTo_iff (f g : Nat → Int) (n : Nat) : eqTo f g n = true ↔ ∀ k, k < n → f k = g k := by simp [eqTo]
theorem lits_inj (f g : Nat → Int) (n : Nat) : ((List.range n).map fun k => Lit.int .i64 (f k)) = ((List.range n).map fun k => Lit.int .i64 (g k)) ↔ eqTo f g n = true := by
  rw [eqTo_iff, List.map_inj_left]
  constructor
  · intro h k hk; have := h k (List.mem_range.2 hk); injection this
  · intro h k hk; rw [h k (List.mem_range.1 hk)]
theorem eq_own (f g : Nat → Int) (hf : wfF f) (hg : wfF g) (w : World) : (Op.equalIn 10000 23 (.agg (oc f)) (.agg (oc g))).run Try.prog w = .ok (eqTo f g 18) w := by
  obtain ⟨r, h1, h2⟩ := run_equalIn_deep (P := Try.prog) 9997 3 23 (by kernel_rfl) w 3 3 (.agg (oc f)) (.agg (oc g)) _ _ (by kernel_rfl) (by kernel_rfl) (own_lits f hf) (own_lits g hg)
  have e : r = eqTo f g 18 := by
    rw [Bool.eq_iff_iff, ← lits_inj f g 18]
    exact h2
  rw [e] at h1
  exact h1
theorem eq_home (f g : Nat → Int) (hf : wfH f) (hg : wfH g) (w : World) : (Op.equalIn 10000 27 (.agg (hc8 f)) (.agg (hc8 g))).run Try.prog w = .ok (eqTo f g 8) w := by
  obtain ⟨r, h1, h2⟩ := run_equalIn_deep (P := Try.prog) 9998 2 27 (by kernel_rfl) w 2 2 (.agg (hc8 f)) (.agg (hc8 g)) _ _ (by kernel_rfl) (by kernel_rfl) (home_lits f hf) (home_lits g hg)
  have e : r = eqTo f g 8 := by
    rw [Bool.eq_iff_iff, ← lits_inj f g 8]
    exact h2
  rw [e] at h1
  exact h1
theorem hcl_at (h : Nat → Int) (j : Nat) (v : Value) (hv : (hcl h)[j]? = some v) : j < 8 ∧ v = .int .i64 (h j) := by
  have hj : j < 8 := (List.getElem?_eq_some_iff.1 hv).1
  refine ⟨hj, ?_⟩
  rcases (show j = 0 ∨ j = 1 ∨ j = 2 ∨ j = 3 ∨ j = 4 ∨ j = 5 ∨ j = 6 ∨ j = 7 by omega) with rfl | rfl | rfl | rfl | rfl | rfl | rfl | rfl <;> exact (Option.some.inj hv).symm
theorem Row.homes {w : World} {b : Nat} {f : Nat → Int} {g : Nat → Bool} {h : Nat → Int} {sl : Value} (R : Row 30 w b (tc f g h sl)) : w.rangeAt b 21 (hcl h) := R.range (fun j v hv => by
  obtain ⟨hj, rfl⟩ := hcl_at h j v hv
  exact tc_home f g h sl j hj)
theorem home_info (h : Nat → Int) : (Try.prog.info? 27).map (·.size) = some (hcl h).length := by kernel_rfl
theorem hcl_hc (h : Nat → Int) : (hcl h).toArray = hc8 h := rfl
theorem Row.pool {w : World} {b : Nat} {f : Nat → Int} {g : Nat → Bool} {h : Nat → Int} {sl : Value} (R : Row 30 w b (tc f g h sl)) : w.rangeAt b 0 (pc f g).toList := R.range (fun j v hv => by
  rw [Nat.zero_add]
  have hj : j < 21 := by have := (List.getElem?_eq_some_iff.1 hv).1; simpa [pc_size] using this
  unfold tc
  rw [Array.getElem?_append_left (by simp [pc_size, hcl]; omega), Array.getElem?_append_left (by rw [pc_size]; omega)]
  simpa using hv)
theorem pcl_infoB (f : Nat → Int) (g : Nat → Bool) : (Try.prog.info? 26).map (·.size) = some (pc f g).toList.length := by kernel_rfl
theorem needF_wf {f : Nat → Int} (ms : List Mp) (hg : goodP f = true) : wfF (needF f ms) := fun i hi => by
  have := goodP_inv hg i hi
  unfold needF; split
  · exact wf_small this.1 this.2
  · exact wf_small (by omega) (by omega)
theorem good_wf {f : Nat → Int} (hg : goodP f = true) : wfF f := fun i hi => wf_small (goodP_inv hg i hi).1 (goodP_inv hg i hi).2
theorem needH_wf {h : Nat → Int} (ms : List Mp) (hh : wfH h) : wfH (needH h ms) := fun i hi => by
  unfold needH; split
  · exact hh i hi
  · exact wf_small (by omega) (by omega)
end Go.Proofs.Ytmdijjbkjcnbpaa
