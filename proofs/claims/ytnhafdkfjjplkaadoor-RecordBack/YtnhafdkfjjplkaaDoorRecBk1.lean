/-
  What is to be told, in memory; a list of events behind another.
-/
import Derived.Test.YtnhafdkfjjplkaaDoorRecBk0
import Derived.Test.YtnhafdkfjjplkaaDoorRecH0
import Derived.Test.YtnhafdkfjjplkaaDoorRecM0
import Derived.Test.YtnhafdkfjjplkaaDoorRecD
namespace Go.Proofs.YtnhafdkfjjplkaaDoor
open Go.ChangeShapes Go.WideShapes Go.ChangeAt Go.RowKit
set_option linter.unusedSimpArgs false
set_option linter.unusedVariables false

theorem tmod_bdR (k n : Int) (hn : 0 < n) : -n < k.tmod n ∧ k.tmod n < n ∧ (k.tmod n < 0 → k.tmod n + n = k % n) ∧ (0 ≤ k.tmod n → k.tmod n = k % n) := by
  have h1 := Int.tmod_eq_emod (a := k) (b := n)
  have h2 := Int.emod_nonneg k (by omega : n ≠ 0)
  have h3 := Int.emod_lt_of_pos k hn
  have h4 : (n.natAbs : Int) = n := by omega
  split at h1
  · simp at h1; omega
  · rename_i hd
    have h5 : k % n ≠ 0 := fun e => hd (.inr (Int.dvd_of_emod_eq_zero e))
    omega
theorem ret_intR {a b : Int} (h : a = b) : Ending.returned (.int .i64 a) = .returned (.int .i64 b) := by rw [h]
theorem pickR_any (k n : Int) (w : World) (hn : 0 < n) (hm : n ≤ 4611686018427387904) :
    Calls Tryd.prog 20 #[.int .i64 k, .int .i64 n] w fun e w' => e = .returned (.int .i64 (k % n)) ∧ w' = w := by
  obtain ⟨h1, h2, h3, h4⟩ := tmod_bdR k n hn
  have hz : (n == 0) = false := by simp; omega
  have hw : wrap64 (k.tmod n) = k.tmod n := by unfold wrap64; omega
  by_cases hneg : k.tmod n < 0
  · have H : Hid (k.tmod n + n = k % n) := h3 hneg
    clear h3 h4
    go_enter Tryd.func20, Tryd.ntmps20
    go_wp2
    go_ret
    exact ⟨ret_intR H.out, rfl⟩
  · have H : Hid (k.tmod n = k % n) := h4 (by omega)
    clear h3 h4
    go_enter Tryd.func20, Tryd.ntmps20
    go_wp2
    go_ret
    exact ⟨ret_intR H.out, rfl⟩
/-- a time and its events. -/
abbrev Td := Int × Value × List Ev
/-- what is to be told, in memory. -/
def ToldAt (w : World) (sl : Value) (ts : List Td) : Prop :=
  ∃ a cap, sl = .slice a ts.length cap ∧ (0 < ts.length → a = some ⟨eb sl, eo sl, none⟩) ∧ (∀ j (hj : j < ts.length), w.rangeAt (eb sl) (eo sl + 2 * j) [.int .i64 ts[j].1, ts[j].2.1] ∧ EvAt w ts[j].2.1 ts[j].2.2) ∧ ts.length ≤ 4398046510976
theorem ToldAt.slice {w : World} {sl : Value} {ts : List Td} (h : ToldAt w sl ts) : ∃ a cap, sl = .slice a ts.length cap := by obtain ⟨a, cap, e, _⟩ := h; exact ⟨a, cap, e⟩
theorem ToldAt.len {w : World} {sl : Value} {ts : List Td} (h : ToldAt w sl ts) : ts.length ≤ 4398046510976 := by obtain ⟨a, cap, e, h1, h2, h3⟩ := h; exact h3
theorem ToldAt.at {w : World} {sl : Value} {ts : List Td} (h : ToldAt w sl ts) (j : Nat) (hj : j < ts.length) {t : Int} {v : Value} {es : List Ev} (he : ts[j] = (t, v, es)) : w.cell? ⟨eb sl, eo sl + 2 * j, none⟩ = some (.int .i64 t) ∧ w.cell? ⟨eb sl, eo sl + 2 * j + 1, none⟩ = some v ∧ EvAt w v es := by
  obtain ⟨a, cap, e, h1, h2, h3⟩ := h
  obtain ⟨h4, h5⟩ := h2 j hj
  rw [he] at h4 h5
  exact ⟨h4 0 _ rfl, h4 1 _ rfl, h5⟩
theorem ToldAt.lt {w : World} {sl : Value} {ts : List Td} (h : ToldAt w sl ts) (hl : 0 < ts.length) : eb sl < w.heap.size := by
  obtain ⟨a, cap, e, h1, h2, h3⟩ := h
  have := (h2 0 hl).1 0 _ rfl
  by_cases hlt : eb sl < w.heap.size
  · exact hlt
  · have h4 : w.heap[eb sl]? = none := Array.getElem?_eq_none (by omega)
    simp [World.cell?, h4] at this
theorem ToldAt.keep {w w' : World} {sl : Value} {ts : List Td} (h : ToldAt w sl ts) (hb : Below w.heap.size w w') : ToldAt w' sl ts := by
  have hlt := h.lt
  obtain ⟨a, cap, e, h1, h2, h3⟩ := h
  refine ⟨a, cap, e, h1, fun j hj => ⟨fun i v hv => ?_, (h2 j hj).2.below hb⟩, h3⟩
  have := (h2 j hj).1 i v hv
  have hB := hb.block (eb sl) (hlt (by omega))
  unfold World.cell? at this ⊢
  simp only [hB]
  exact this
theorem ToldAt.index {w : World} {sl : Value} {ts : List Td} (h : ToldAt w sl ts) (j : Nat) (hj : j < ts.length) (w2 : World) : (Instr.indexAt 43 sl (.int .i64 (j : Int))).run Tryd.prog w2 = .ok (.pointer (some ⟨eb sl, eo sl + 2 * j, none⟩)) w2 := by
  obtain ⟨a0, cap, e, h1, h2, h3⟩ := h
  have e1 := h1 (by omega)
  generalize eb sl = B at *
  generalize eo sl = O at *
  subst e1
  subst e
  have hn : ((j : Int)).toNat < ts.length := by simpa using hj
  have hjl : (j : Int) < (ts.length : Int) := by omega
  have hs : (sizeOf 46).run Tryd.prog w2 = .ok 2 w2 := by kernel_rfl
  simp [go_sem, hj, hn, hjl, Tryd.underlying43, hs]
theorem mem_all {H : Type} {P : Program} {e : TypeId} {l : List (DataW H)} {d : DataW H} (h : d ∈ l) {y : Nat} (hy : y ∈ d.weights P e) : y ∈ DataW.weightsAll P e l := by
  induction l with
  | nil => simp at h
  | cons c r ih =>
    rw [DataW.weightsAll]
    rcases List.mem_cons.1 h with rfl | h
    · exact List.mem_append_left _ hy
    · exact List.mem_append_right _ (ih h)
theorem open_tolds {H : Type} {enc : TypeId × Value → H} {w : World} {sp : Nat → Bool} {held : Bool} {fuel : Nat} {l : List Value} {x : DataW H × List MemPlace} (hf0 : DataW.trod enc Tryd.prog w 0 sp held fuel 43 l = some x) (hw : ∀ y ∈ x.1.weights Tryd.prog 43, y ≤ reachBytes) : ∃ sl, ∃ ts : List Td, l = [sl] ∧ ToldAt w sl ts := by
  have c2 : Tryd.prog.cellsOf 46 = 2 := by kernel_rfl
  have cI : Tryd.prog.cellsOf 3 = 1 := by kernel_rfl
  have cL : Tryd.prog.cellsOf 22 = 1 := by kernel_rfl
  have hby : Tryd.prog.bytesOf 46 = 32 := by kernel_rfl
  rcases Go.Deep.open_slice Tryd.underlying43 hf0 with ⟨rfl, rfl⟩ | ⟨a, len, cap, m, n, D, Pl, rfl, hb, hl, hm, hmm, rfl, hx⟩
  · exact ⟨_, [], rfl, none, 0, rfl, fun h => absurd h (by simp), fun j hj => absurd hj (by simp), by simp⟩
  · have hlm : len ≤ m := by rw [hmm]; split <;> omega
    have hbd : len ≤ 4398046510976 := by
      have h1 := hw _ (by simp only [DataW.weights, Tryd.underlying43]; exact List.mem_cons_self)
      rw [hby] at h1
      simp [reachBytes] at h1
      omega
    have each : ∀ i, i < len → ∃ q : Td, w.cell? (a.add (2 * i)) = some (.int .i64 q.1) ∧ w.cell? (a.add (2 * i + 1)) = some q.2.1 ∧ EvAt w q.2.1 q.2.2 := by
      intro i hi
      obtain ⟨cs', h1, h2⟩ := hx i (by omega)
      rw [c2] at h1
      obtain ⟨_, hlen, hcell⟩ := World.cells?_some h1
      obtain ⟨ys, m', _, hxx, _, hl', hf⟩ := DataW.trod_struct Tryd.underlying46 h2
      match cs', hlen with
      | [k0, k1], _ =>
      match ys, hl' with
      | [y0, y1], _ =>
      have hv0 := hf 0 _ rfl
      have hv1 := hf 1 _ rfl
      simp [cI, cL] at hv0 hv1
      obtain ⟨x0, e0, rfl, s0⟩ := DataW.trod_int Tryd.underlying3 hv0
      simp at e0
      subst e0
      have hD : D i = .agg [.lit (.int .i64 x0), y1.1] := by have := congrArg Prod.fst hxx; simpa using this
      obtain ⟨sl, es, e1, hE⟩ := open_events hv1 (fun y hy => hw y (by
        simp only [DataW.weights, Tryd.underlying43]
        refine List.mem_cons_of_mem _ (List.mem_append_left _ (mem_all (d := D i) (List.mem_map.2 ⟨i, by simpa using hi, rfl⟩) ?_))
        rw [hD]
        simp only [DataW.weights, Tryd.underlying46]
        simpa [DataW.weightsEach, DataW.weights] using hy))
      simp at e1
      subst e1
      refine ⟨(x0, k1, es), ?_, ?_, hE⟩
      · have := hcell 0 (by omega)
        rw [Go.Deep.add_add, Nat.mul_comm i 2] at this
        simpa using this
      · have := hcell 1 (by omega)
        rw [Go.Deep.add_add, Nat.mul_comm i 2] at this
        simpa using this
    haveI : Inhabited Td := ⟨(0, .slice none 0 0, [])⟩
    obtain ⟨q, hq⟩ := Go.Deep.choose_lt each
    have hsp : 0 < len → a = ⟨a.block, a.off, none⟩ := by
      intro h0
      have := (hq 0 h0).1
      obtain ⟨b, off, spot⟩ := a
      have hspot : spot = none := by simpa [Addr.add] using World.cell?_spot this
      subst hspot
      rfl
    refine ⟨_, (List.range len).map q, rfl, some a, cap, by simp, fun h0 => ?_, fun j hj => ?_, by simpa using hbd⟩
    · rw [hsp (by simpa using h0)]; rfl
    · have hj' : j < len := by simpa using hj
      have e1 : ((List.range len).map q)[j] = q j := by simp
      rw [e1]
      obtain ⟨g0, g1, g2⟩ := hq j hj'
      rw [hsp (by omega), Addr.add_lit] at g0 g1
      refine ⟨fun k v hv => ?_, g2⟩
      show w.cell? ⟨a.block, a.off + 2 * j + k, none⟩ = some v
      match k with
      | 0 => simp at hv; subst hv; exact g0
      | 1 => simp at hv; subst hv; rw [Nat.add_assoc]; exact g1
      | k + 2 => simp at hv
/-- a list of events behind another. -/
theorem run_appE {w : World} {base : Nat} {v sl : Value} {es ps : List Ev} (h : EvO w base v es) (hM : EvAt w sl ps) (h0 : 0 < ps.length) (hl : es.length ≤ 100000) (hp : ps.length ≤ 100000) (hbase : base ≤ w.heap.size) (ty : TypeId) :
    ∃ v' w', (Builtin.append_ #[22, 22] ty #[v, sl]).run Tryd.prog w = .ok v' w' ∧ EvO w' base v' (es ++ ps) ∧ Grew v v' w w' := by
  obtain ⟨i0, hi, hz0, hz1, hz2⟩ := info_parts info_event
  obtain ⟨a, cap, e, k1, k2, k3⟩ := hM
  have e1 := k1 h0
  have hc : ∀ j u, (ps.flatMap ecl)[j]? = some u → w.cell? ⟨eb sl, eo sl + j, none⟩ = some u := by
    intro j u hu
    have hj : j < ps.length * 5 := by have := (List.getElem?_eq_some_iff.1 hu).1; rw [flat_len] at this; exact this
    have e1 : j = 5 * (j / 5) + j % 5 := by omega
    have hq : j / 5 < ps.length := by omega
    rw [e1, flat_at ps (j / 5) (j % 5) hq (by omega)] at hu
    have := k2 (j / 5) hq (j % 5) u hu
    rw [show eo sl + 5 * (j / 5) + j % 5 = eo sl + j by omega] at this
    exact this
  generalize eb sl = B at *
  generalize eo sl = O at *
  subst e1
  subst e
  obtain ⟨v', w', h1, h2, h3, _, h5⟩ := run_append_own_at (P := Tryd.prog) w base 22 ty 29 i0 (.agg (ec noE)) 5 40 Tryd.underlying22 hi hz0 hz1 hz2 rfl (by decide) v es.length (es.flatMap ecl) h ⟨B, O, none⟩ ps.length cap (ps.flatMap ecl) (flat_len ps)
    (fun j u hu => by rw [Addr.add_lit]; exact hc j u hu) (flat_one ps) (by unfold maxLen; omega) (by omega) hbase
  refine ⟨v', w', h1, ?_, ⟨h3, ?_⟩⟩
  · unfold EvO; rw [List.flatMap_append, List.length_append]; exact h2
  · rcases h5 with e | e
    · exact .inl e
    · exact .inr ⟨_, e, Nat.le_refl _⟩
theorem wpList_appE {ops : Array Oper} {rest : List Oper} {o : Oper} {a : Act} {w : World} {Q : Exit → Act → World → Prop} (hgd : o.guard = none) (s x : Operand) (ho : o.op = .call { callee := .builtin .append, args := #[s, x], argTypes := #[22, 22] })
    {base : Nat} {v sl : Value} {es ps : List Ev} (h : EvO w base v es) (hM : EvAt w sl ps) (hs : a.eval s = v) (hx : a.eval x = sl) (h0 : 0 < ps.length) (hl : es.length ≤ 100000) (hp : ps.length ≤ 100000) (hbase : base ≤ w.heap.size)
    (hr : ∀ v' w', EvO w' base v' (es ++ ps) → Grew v v' w w' → wpList Tryd.prog ops Q rest (a.put o.dst v') w') : wpList Tryd.prog ops Q (o :: rest) a w :=
  wpList_plain hgd fun K hK => by
    obtain ⟨v', w', h1, h2, h3⟩ := run_appE h hM h0 hl hp hbase o.type
    unfold Oper.wp execOp
    simp only [ho, resolve, invoke, builtin, Sem.run_bind, Sem.run_pure, Result.andThen_ok, List.map_toArray, List.map_cons, List.map_nil, hs, hx, h1]
    exact hK _ _ (hr v' w' h2 h3)
/-- what has been told, ahead of round i. -/
structure BkO (w : World) (i : Nat) (L : List UInt8) (all : List Ev) (tm : Int) (va : Value) (W : World) : Prop where
  told : ToldS L all
  own : EvO W w.heap.size va all
  t0 : 0 ≤ tm
  t1 : tm ≤ 1000 * (i : Int)
  ev : ∀ e ∈ all, e.t ≤ tm
  n : all.length ≤ 20 * i
  len : L.length ≤ 48 + 440 * i
  below : Below w.heap.size w W
/-- the events of one message, so far. -/
structure BkI (w : World) (B : Nat) (all ps : List Ev) (tm : Int) (va vp : Value) (W : World) : Prop where
  own : EvO W B vp ps
  all : EvO W w.heap.size va all
  n : ps.length ≤ 20
  ok : ∀ e ∈ ps, okE e ∧ e.t = tm
  below : Below w.heap.size w W
  le : w.heap.size ≤ B
  sz : B ≤ W.heap.size
  sep : ∀ k, va.ownBlock = some k → k < B
def putT (e : Ev) (tm : Int) : Ev := { e with t := tm }
theorem BkI.push {w W W' : World} {B : Nat} {all ps : List Ev} {tm : Int} {va vp vp' : Value} {e : Ev} (h : BkI w B all ps tm va vp W) (ho : EvO W' B vp' (ps ++ [e])) (hG : Grew vp vp' W W') (hk : okE e) (ht : e.t = tm) (h20 : ps.length < 20) : BkI w B all (ps ++ [e]) tm va vp' W' := by
  refine ⟨ho, h.all.keep (fun g hg => hG.by'.block g (h.all.ge g hg).2 (fun x => ?_)), by simp; omega, ?_, h.below.trans (hG.below (Nat.le_trans h.le h.sz) (fun k hk => Nat.le_trans h.le (h.own.ge k hk).1)), h.le, Nat.le_trans h.sz hG.by'.size, h.sep⟩
  · have h1 := h.sep g hg
    have h2 := (h.own.ge g x.symm).1
    omega
  · intro x hx
    rcases List.mem_append.1 hx with hx | hx
    · exact h.ok x hx
    · obtain rfl := List.mem_singleton.1 hx; exact ⟨hk, ht⟩
theorem BkI.later {w W W' : World} {B : Nat} {all ps : List Ev} {tm : Int} {va vp : Value} (h : BkI w B all ps tm va vp W) (hb : Below W.heap.size W W') : BkI w B all ps tm va vp W' :=
  ⟨h.own.below hb, h.all.below hb, h.n, h.ok, h.below.trans (hb.mono h.below.size), h.le, Nat.le_trans h.sz hb.size, h.sep⟩
theorem BkI.turned {w W W' : World} {B b : Nat} {all ps : List Ev} {tm : Int} {va vp : Value} (h : BkI w B all ps tm va vp W) (hb : Turned b W W') (h1 : vp.ownBlock ≠ some b) (h2 : va.ownBlock ≠ some b) (hle : w.heap.size ≤ b) : BkI w B all ps tm va vp W' :=
  ⟨h.own.turned hb h1, h.all.turned hb h2, h.n, h.ok, hb.below _ _ hle h.below, h.le, by rw [hb.size]; exact h.sz, h.sep⟩
theorem BkO.start {w W : World} {i : Nat} {L : List UInt8} {all : List Ev} {tm tm2 : Int} {va : Value} (h : BkO w i L all tm va W) : BkI w W.heap.size all [] tm2 va (.slice none 0 0) W :=
  ⟨EvO.nil _ _, h.own, by simp, by simp, h.below, h.below.size, Nat.le_refl _, fun k hk => (h.own.ge k hk).2⟩
theorem later_no {all : List Ev} {tm : Int} (h : ∀ e ∈ all, e.t ≤ tm) : laterE all tm = false := by
  unfold laterE
  split
  · rfl
  · rename_i e he
    have := h e (List.mem_of_getLast? he)
    simpa using this
theorem mes_ps {ps : List Ev} {tm seq : Int} (hk : ∀ e ∈ ps, okE e ∧ e.t = tm) (h0 : 0 < ps.length) (h20 : ps.length ≤ 20) (hs : 0 ≤ seq ∧ seq ≤ 4294967295) : mesS seq ps = .tuple #[.string (txt (msgB tm seq 300 (setB ps))), .int .i64 0] := by
  have ht : tmE ps = tm := by
    cases ps with
    | nil => simp at h0
    | cons e r => exact (hk e (by simp)).2
  rw [mesS_ok h0 (by omega) (fun e he => ⟨(hk e he).1, by rw [ht]; exact (hk e he).2⟩), ht, msgS_yes _ _ _ _ (by simp [longBR]; omega)]
theorem BkI.none {w W : World} {B i : Nat} {L : List UInt8} {all ps : List Ev} {tm tm2 : Int} {va vp : Value} (h : BkI w B all ps tm2 va vp W) {W0 : World} (k : BkO w i L all tm va W0) (h1 : tm ≤ tm2) (h2 : tm2 ≤ tm + 1000) : BkO w (i + 1) L all tm2 va W :=
  ⟨k.told, h.all, by have := k.t0; omega, by have := k.t1; push_cast; omega, fun e he => by have := k.ev e he; omega, by have := k.n; omega, by have := k.len; omega, h.below⟩
theorem BkI.more {w W W' : World} {B i : Nat} {L : List UInt8} {all ps : List Ev} {tm tm2 : Int} {va vp va' : Value} (h : BkI w B all ps tm2 va vp W) {W0 : World} (k : BkO w i L all tm va W0) (hi : i ≤ 20) (h1 : tm ≤ tm2) (h2 : tm2 ≤ tm + 1000) (h0 : 0 < ps.length) (ho : EvO W' w.heap.size va' (all ++ ps)) (hG : Grew va va' W W') : BkO w (i + 1) (L ++ msgB tm2 (all.length : Int) 300 (setB ps)) (all ++ ps) tm2 va' W' := by
  have hn := h.n
  have kn := k.n
  refine ⟨told_more k.told tm2 ps h.ok h0 (by omega) (by omega) (later_no (fun e he => by have := k.ev e he; omega)), ho, by have := k.t0; omega, by have := k.t1; push_cast; omega, fun e he => ?_, by rw [List.length_append]; omega, ?_, h.below.trans (hG.below h.below.size (fun j hj => (h.all.ge j hj).1))⟩
  · rcases List.mem_append.1 he with he | he
    · have := k.ev e he; omega
    · have := (h.ok e he).2; omega
  · have := k.len
    rw [List.length_append, msgB_len, setB_len]; omega
end Go.Proofs.YtnhafdkfjjplkaaDoor
