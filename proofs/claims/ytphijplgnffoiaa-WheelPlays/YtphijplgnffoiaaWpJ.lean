/-
  The program's wheel and the document's, side by side.
-/
import Derived.Test.YtphijplgnffoiaaWpI
import Derived.Test.YtphijplgnffoiaaWpT
import Derived.Test.YtphijplgnffoiaaWsB
namespace Go.Proofs.Ytphijplgnffoiaa
open Go.ChangeShapes Go.WideShapes Go.ChangeAt Go.RowKit Go.Maps
set_option linter.unusedSimpArgs false
set_option linter.unusedVariables false

/-- what Arm answers, and what it leaves. -/
def armE (du : Int → Option Int) (cnt : Nat) (i due : Int) : Int := if ¬ (0 ≤ due ∧ due ≤ 1099511627776) then 2 else if (du i).isSome = true ∨ cnt < 400 then 0 else 6
def armD (now : Int) (du : Int → Option Int) (cnt : Nat) (i due : Int) : Int → Option Int := if armE du cnt i due = 0 then setD du i (max due now) else du
def armC (du : Int → Option Int) (cnt : Nat) (i due : Int) : Nat := if armE du cnt i due = 0 then (if (du i).isSome then cnt else cnt + 1) else cnt
def armT (now : Int) (ts : List Tm) (i due : Int) : List Tm := if armE (lk ts) ts.length i due = 0 then outT ts i ++ [(i, max due now)] else ts
theorem arm_two {ts : List Tm} (ho : Once ts) (now i due : Int) : lk (armT now ts i due) = armD now (lk ts) ts.length i due ∧ (armT now ts i due).length = armC (lk ts) ts.length i due ∧ Once (armT now ts i due) := by
  unfold armT armD armC
  by_cases h : armE (lk ts) ts.length i due = 0
  · simp only [if_pos h]
    refine ⟨lk_put ts i _, ?_, once_put ho i _⟩
    rw [List.length_append, len_out ho]
    by_cases hs : (lk ts i).isSome = true
    · have h2 := outT_less (ts := ts) (i := i) (by intro e; rw [e] at hs; cases hs)
      simp [hs]; omega
    · simp [hs]
  · simp only [if_neg h]
    exact ⟨trivial, trivial, ho⟩
def canD (du : Int → Option Int) (i : Int) : Int := if du i = none then 7 else 0
def canC (du : Int → Option Int) (cnt : Nat) (i : Int) : Nat := if (du i).isSome then cnt - 1 else cnt
theorem delD_none {du : Int → Option Int} {i : Int} (h : du i = none) : delD du i = du := by
  funext j; unfold delD; split
  · rename_i e; rw [e, h]
  · rfl
theorem can_two {ts : List Tm} (ho : Once ts) (i : Int) : lk (outT ts i) = delD (lk ts) i ∧ (outT ts i).length = canC (lk ts) ts.length i ∧ Once (outT ts i) := ⟨lk_out ts i, len_out ho i, once_out ho i⟩
/-- the two of them: the program's at b, the document's at p; blocks of others, and lists that were told, that are none of theirs. -/
def Pl (w W : World) (b p : Nat) (X : List (Nat × Obj)) (us : List (Value × List Int)) (now nowR : Int) (du : Int → Option Int) (cnt : Nat) (ts : List Tm) : Prop :=
  ∃ cs F v, Wheel' W b 51 cs 0 now du cnt F ∧ RW W p nowR v ts ∧ Once ts ∧ (∀ c, F c → w.heap.size ≤ c ∧ c < W.heap.size) ∧ w.heap.size ≤ p ∧ ¬ F p ∧ (∀ c, v.ownBlock = some c → w.heap.size ≤ c ∧ ¬ F c) ∧ (∀ y ∈ X, W.heap[y.1]? = some y.2 ∧ ¬ F y.1 ∧ y.1 ≠ p ∧ v.ownBlock ≠ some y.1) ∧ (∀ q ∈ us, Own W q.1 q.2 ∧ ∀ c, q.1.ownBlock = some c → ¬ F c ∧ c ≠ p ∧ v.ownBlock ≠ some c) ∧ Below w.heap.size w W
theorem RW.keepGr {W W' : World} {p : Nat} {now : Int} {v : Value} {ts : List Tm} {F : Nat → Prop} (h : RW W p now v ts) (hg : Gr F W W') (hp : ¬ F p) (hv : ∀ c, v.ownBlock = some c → ¬ F c) : RW W' p now v ts :=
  ⟨(hg.block p h.row.lt hp).trans h.row, h.own.keep (fun g hg' => hg.block g (h.own.lt g hg') (hv g hg')), h.ne, h.n⟩
section
variable {w W W' : World} {b p : Nat} {X : List (Nat × Obj)} {us : List (Value × List Int)} {now nowR : Int} {du : Int → Option Int} {cnt : Nat} {ts : List Tm}
theorem Pl.turnW {now' : Int} {du' : Int → Option Int} {cnt' : Nat} {cs' : Array Value} {F F' : Nat → Prop} {v : Value} (h2 : RW W p nowR v ts) (h3 : Once ts) (h4 : ∀ c, F c → w.heap.size ≤ c ∧ c < W.heap.size) (h5 : w.heap.size ≤ p) (h6 : ¬ F p) (h7 : ∀ c, v.ownBlock = some c → w.heap.size ≤ c ∧ ¬ F c)
    (h8 : ∀ y ∈ X, W.heap[y.1]? = some y.2 ∧ ¬ F y.1 ∧ y.1 ≠ p ∧ v.ownBlock ≠ some y.1) (h10 : ∀ q ∈ us, Own W q.1 q.2 ∧ ∀ c, q.1.ownBlock = some c → ¬ F c ∧ c ≠ p ∧ v.ownBlock ≠ some c) (h9 : Below w.heap.size w W)
    (hA : Wheel' W' b 51 cs' 0 now' du' cnt' F') (hg : Gr F W W') (hf : ∀ c, F' c → F c ∨ W.heap.size ≤ c) (more : List (Value × List Int)) (hmore : ∀ q ∈ more, Own W' q.1 q.2 ∧ NotIn q.1 F' ∧ ∀ c, q.1.ownBlock = some c → W.heap.size ≤ c) : Pl w W' b p X (more ++ us) now' nowR du' cnt' ts := by
  obtain ⟨G, hG, hGF, hGl⟩ := hA.shrink
  have hs9 := h9.size
  have key : ∀ c, c < W.heap.size → ¬ F c → ¬ G c := fun c hc hn hG => by
    rcases hf c (hGF c hG) with e | e
    · exact hn e
    · omega
  refine ⟨cs', G, v, hG, h2.keepGr hg h6 (fun c hc => (h7 c hc).2), h3, fun c hc => ⟨?_, hGl c hc⟩, h5, key p h2.row.lt h6, fun c hc => ⟨(h7 c hc).1, key c (h2.own.lt c hc) (h7 c hc).2⟩, fun y hy => ?_, fun q hq => ?_, h9.trans (hg.below (fun c hc => (h4 c hc).1) hs9)⟩
  · rcases hf c (hGF c hc) with e | e
    · exact (h4 c e).1
    · omega
  · obtain ⟨e1, e2, e3, e4⟩ := h8 y hy
    have hl := (Array.getElem?_eq_some_iff.1 e1).1
    exact ⟨(hg.block y.1 hl e2).trans e1, key y.1 hl e2, e3, e4⟩
  · rcases List.mem_append.1 hq with hq | hq
    · obtain ⟨e1, e2, e3⟩ := hmore q hq
      refine ⟨e1, fun c hc => ⟨fun hg => e2 c hc (hGF c hg), fun e => ?_, fun e => ?_⟩⟩
      · have := e3 c hc; have := h2.row.lt; omega
      · have := e3 c hc; have := h2.own.lt c e; omega
    · obtain ⟨e1, e2⟩ := h10 q hq
      exact ⟨e1.keepGr hg (fun c hc => (e2 c hc).1), fun c hc => ⟨key c (e1.lt' hc) (e2 c hc).1, (e2 c hc).2⟩⟩
theorem Pl.turnR {nowR' : Int} {ts' : List Tm} {cs : Array Value} {F : Nat → Prop} {v v' : Value} (h1 : Wheel' W b 51 cs 0 now du cnt F) (h2 : RW W p nowR v ts) (h4 : ∀ c, F c → w.heap.size ≤ c ∧ c < W.heap.size) (h5 : w.heap.size ≤ p) (h6 : ¬ F p) (h7 : ∀ c, v.ownBlock = some c → w.heap.size ≤ c ∧ ¬ F c)
    (h8 : ∀ y ∈ X, W.heap[y.1]? = some y.2 ∧ ¬ F y.1 ∧ y.1 ≠ p ∧ v.ownBlock ≠ some y.1) (h10 : ∀ q ∈ us, Own W q.1 q.2 ∧ ∀ c, q.1.ownBlock = some c → ¬ F c ∧ c ≠ p ∧ v.ownBlock ≠ some c) (h9 : Below w.heap.size w W)
    (hR : RW W' p nowR' v' ts') (ho : Once ts') (hg : Gr (fun c => c = p ∨ v.ownBlock = some c) W W') (hv : ∀ c, v'.ownBlock = some c → v.ownBlock = some c ∨ W.heap.size ≤ c) (more : List (Value × List Int)) (hmore : ∀ q ∈ more, Own W' q.1 q.2 ∧ ∀ c, q.1.ownBlock = some c → W.heap.size ≤ c ∧ v'.ownBlock ≠ some c) : Pl w W' b p X (more ++ us) now nowR' du cnt ts' := by
  have hs9 := h9.size
  refine ⟨cs, F, v', h1.keep hg ?_, hR, ho, fun c hc => ⟨(h4 c hc).1, Nat.lt_of_lt_of_le (h4 c hc).2 hg.size⟩, h5, h6, fun c hc => ?_, fun y hy => ?_, fun q hq => ?_, h9.trans (hg.below ?_ hs9)⟩
  · rintro c hc (rfl | e)
    · exact h6 hc
    · exact (h7 c e).2 hc
  · rcases hv c hc with e | e
    · exact h7 c e
    · exact ⟨by omega, fun hF => by have := (h4 c hF).2; omega⟩
  · obtain ⟨e1, e2, e3, e4⟩ := h8 y hy
    have hl := (Array.getElem?_eq_some_iff.1 e1).1
    refine ⟨(hg.block y.1 hl (fun e => e.elim e3 e4)).trans e1, e2, e3, fun e => ?_⟩
    rcases hv _ e with e | e
    · exact e4 e
    · omega
  · rcases List.mem_append.1 hq with hq | hq
    · obtain ⟨e1, e3⟩ := hmore q hq
      refine ⟨e1, fun c hc => ⟨fun hF => ?_, fun e => ?_, (e3 c hc).2⟩⟩
      · have := (h4 c hF).2; have := (e3 c hc).1; omega
      · have := (e3 c hc).1; have := h2.row.lt; omega
    · obtain ⟨e1, e2⟩ := h10 q hq
      refine ⟨e1.keepGr hg (fun c hc e => e.elim (e2 c hc).2.1 (e2 c hc).2.2), fun c hc => ⟨(e2 c hc).1, (e2 c hc).2.1, fun e => ?_⟩⟩
      rcases hv c e with e | e
      · exact (e2 c hc).2.2 e
      · have := e1.lt' hc; omega
  · rintro c (rfl | e)
    · exact h5
    · exact (h7 c e).1
theorem Pl.below (h : Pl w W b p X us now nowR du cnt ts) (hb : Below W.heap.size W W') : Pl w W' b p X us now nowR du cnt ts := by
  obtain ⟨cs, F, v, h1, h2, h3, h4, h5, h6, h7, h8, h10, h9⟩ := h
  exact Pl.turnR h1 h2 h4 h5 h6 h7 h8 h10 h9 (h2.below hb) h3 (Gr.of_below hb) (fun c hc => .inl hc) [] (by simp)
theorem Pl.drew (h : Pl w W b p X us now nowR du cnt ts) : Pl w W.drew b p X us now nowR du cnt ts := h.below (Below.refl _ _).drew
theorem Pl.base (h : Pl w W b p X us now nowR du cnt ts) : Below w.heap.size w W := by
  obtain ⟨cs, F, v, h1, h2, h3, h4, h5, h6, h7, h8, h10, h9⟩ := h; exact h9
theorem Pl.once (h : Pl w W b p X us now nowR du cnt ts) : Once ts := by
  obtain ⟨cs, F, v, h1, h2, h3, h4, h5, h6, h7, h8, h10, h9⟩ := h; exact h3
theorem Pl.time (h : Pl w W b p X us now nowR du cnt ts) : 0 ≤ now ∧ now ≤ 1099511627776 := by
  obtain ⟨cs, F, v, h1, h2, h3, h4, h5, h6, h7, h8, h10, h9⟩ := h; exact h1.time
theorem Pl.few (h : Pl w W b p X us now nowR du cnt ts) : ts.length ≤ 400 := by
  obtain ⟨cs, F, v, h1, h2, h3, h4, h5, h6, h7, h8, h10, h9⟩ := h; exact h2.n
theorem Pl.told (h : Pl w W b p X us now nowR du cnt ts) {u : Value} {l : List Int} (hm : (u, l) ∈ us) : Own W u l := by
  obtain ⟨cs, F, v, h1, h2, h3, h4, h5, h6, h7, h8, h10, h9⟩ := h; exact (h10 _ hm).1
theorem Pl.block (h : Pl w W b p X us now nowR du cnt ts) {y : Nat × Obj} (hm : y ∈ X) : W.heap[y.1]? = some y.2 := by
  obtain ⟨cs, F, v, h1, h2, h3, h4, h5, h6, h7, h8, h10, h9⟩ := h; exact (h8 _ hm).1
theorem Pl.bare (h : Pl w W b p X us now nowR du cnt ts) : Pl w W b p [] [] now nowR du cnt ts := by
  obtain ⟨cs, F, v, h1, h2, h3, h4, h5, h6, h7, h8, h10, h9⟩ := h; exact ⟨cs, F, v, h1, h2, h3, h4, h5, h6, h7, by simp, by simp, h9⟩
theorem Pl.addX {o : Obj} {bx : Nat} (h : Pl w W b p X us now nowR du cnt ts) (hb : Below W.heap.size W W') (hx : W'.heap[bx]? = some o) (hl : W.heap.size ≤ bx) : Pl w W' b p [(bx, o)] us now nowR du cnt ts := by
  have h' := h.below hb
  obtain ⟨cs, F, v, h1, h2, h3, h4, h5, h6, h7, h8, h10, h9⟩ := h
  refine ⟨cs, F, v, h1.below hb, h2.below hb, h3, fun c hc => ⟨(h4 c hc).1, Nat.lt_of_lt_of_le (h4 c hc).2 hb.size⟩, h5, h6, h7, fun y hy => ?_, fun q hq => ?_, h'.base⟩
  · obtain rfl := List.mem_singleton.1 hy
    refine ⟨hx, fun hF => ?_, fun e => ?_, fun e => ?_⟩
    · have := (h4 _ hF).2; simp only at *; omega
    · have := h2.row.lt; simp only at *; omega
    · have := h2.own.lt _ e; simp only at *; omega
  · exact ⟨(h10 q hq).1.keepGr (Gr.of_below (F := fun _ => False) hb) (fun _ _ => id), (h10 q hq).2⟩
theorem Pl.cells (h : Pl w W b p X us now nowR du cnt ts) : ∃ a n c, W.cell? ⟨p, 0, none⟩ = some (.int .i64 nowR) ∧ W.cell? ⟨p, 1, none⟩ = some (.slice a n c) ∧ n = ts.length := by
  obtain ⟨cs, F, v, h1, h2, h3, h4, h5, h6, h7, h8, h10, h9⟩ := h
  obtain ⟨a, c, e⟩ := h2.own.slice
  have k1 : W.cell? ⟨p, 1, none⟩ = some v := h2.row.cell 1
  rw [e] at k1
  exact ⟨a, _, c, h2.row.cell 0, k1, rfl⟩
theorem armW_pl (h : Pl w W b p X us now nowR du cnt ts) (i due : Int) (hi : (Lit.int .i64 i).wf = true) :
    Calls Try.prog 9 #[.pointer (some ⟨b, 0, none⟩), .int .i64 i, .int .i64 due] W fun e w' => e = .returned (.int .i64 (armE du cnt i due)) ∧ Pl w w' b p X us now nowR (armD now du cnt i due) (armC du cnt i due) ts := by
  have h' := h
  obtain ⟨cs, F, v, h1, h2, h3, h4, h5, h6, h7, h8, h10, h9⟩ := h
  unfold armD armC armE
  by_cases hd : 0 ≤ due ∧ due ≤ 1099511627776
  · rw [if_neg (fun hn => hn hd)]
    by_cases hr : (du i).isSome = true ∨ cnt < 400
    · rw [if_pos hr]
      simp only [if_true]
      refine (arm_ok h1 i due hi hd.1 hd.2 (fun e => hr.resolve_left (by rw [e]; simp))).mono ?_
      rintro e w' ⟨rfl, cs', F', q1, q2, q3, q4⟩
      exact ⟨rfl, Pl.turnW h2 h3 h4 h5 h6 h7 h8 h10 h9 q1 q3 q4 [] (by simp)⟩
    · rw [if_neg hr]
      simp only [if_neg (show ¬ ((6 : Int) = 0) by decide)]
      have hn : du i = none := by cases e : du i with | none => rfl | some d => exact absurd (.inl (by rw [e]; rfl)) hr
      refine (arm_full h1 i due hi hd hn (by omega)).mono ?_
      rintro e w' ⟨rfl, rfl⟩
      exact ⟨rfl, h'⟩
  · rw [if_pos hd]
    simp only [if_neg (show ¬ ((2 : Int) = 0) by decide)]
    refine (arm_range h1 i due hd).mono ?_
    rintro e w' ⟨rfl, rfl⟩
    exact ⟨rfl, h'⟩
theorem armR_pl (h : Pl w W b p X us now nowR du cnt ts) (i due : Int) :
    Calls Try.prog 14 #[.pointer (some ⟨p, 0, none⟩), .int .i64 i, .int .i64 due] W fun e w' => e = .returned (.int .i64 (armE (lk ts) ts.length i due)) ∧ Pl w w' b p X us now nowR du cnt (armT nowR ts i due) := by
  have h' := h
  obtain ⟨cs, F, v, h1, h2, h3, h4, h5, h6, h7, h8, h10, h9⟩ := h
  by_cases hd : 0 ≤ due ∧ due ≤ 1099511627776
  · by_cases hr : (lk ts i).isSome = true ∨ ts.length < 400
    · have hE : armE (lk ts) ts.length i due = 0 := by unfold armE; rw [if_neg (fun hn => hn hd), if_pos hr]
      unfold armT
      rw [if_pos hE, hE]
      refine (armRef_ok i due W h2 hd.1 hd.2 (fun e => hr.resolve_left (by rw [e]; simp))).mono ?_
      rintro e w' ⟨rfl, v', q1, q2, q3⟩
      exact ⟨rfl, Pl.turnR h1 h2 h4 h5 h6 h7 h8 h10 h9 q1 (once_put h3 i _) q2 (fun c hc => q3.imp (fun e => by rw [← e]; exact hc) (fun g => g c hc)) [] (by simp)⟩
    · have hE : armE (lk ts) ts.length i due = 6 := by unfold armE; rw [if_neg (fun hn => hn hd), if_neg hr]
      unfold armT
      rw [hE, if_neg (by decide)]
      have hn : lk ts i = none := by cases e : lk ts i with | none => rfl | some d => exact absurd (.inl (by rw [e]; rfl)) hr
      refine (armRef_full i due W h2 hd.1 hd.2 hn (by omega)).mono ?_
      rintro e w' ⟨rfl, hb⟩
      exact ⟨rfl, h'.below hb⟩
  · have hE : armE (lk ts) ts.length i due = 2 := by unfold armE; rw [if_pos hd]
    unfold armT
    rw [hE, if_neg (by decide)]
    refine (armRef_range i due W h2 (by omega)).mono ?_
    rintro e w' ⟨rfl, rfl⟩
    exact ⟨rfl, h'⟩
theorem canW_pl (h : Pl w W b p X us now nowR du cnt ts) (i : Int) (hi : (Lit.int .i64 i).wf = true) :
    Calls Try.prog 15 #[.pointer (some ⟨b, 0, none⟩), .int .i64 i] W fun e w' => e = .returned (.int .i64 (canD du i)) ∧ Pl w w' b p X us now nowR (delD du i) (canC du cnt i) ts := by
  have h' := h
  obtain ⟨cs, F, v, h1, h2, h3, h4, h5, h6, h7, h8, h10, h9⟩ := h
  unfold canD canC
  cases hn : du i with
  | none =>
    rw [if_pos rfl, delD_none hn]
    refine (cancel_none h1 i hi hn).mono ?_
    rintro e w' ⟨rfl, rfl⟩
    exact ⟨rfl, h'⟩
  | some d =>
    rw [if_neg (by simp)]
    refine (cancel_ok h1 i d hn).mono ?_
    rintro e w' ⟨rfl, cs', F', q1, q0, q2, q3, q4⟩
    exact ⟨rfl, Pl.turnW h2 h3 h4 h5 h6 h7 h8 h10 h9 q1 q3 q4 [] (by simp)⟩
theorem canR_pl (h : Pl w W b p X us now nowR du cnt ts) (i : Int) :
    Calls Try.prog 16 #[.pointer (some ⟨p, 0, none⟩), .int .i64 i] W fun e w' => e = .returned (.int .i64 (canD (lk ts) i)) ∧ Pl w w' b p X us now nowR du cnt (outT ts i) := by
  obtain ⟨cs, F, v, h1, h2, h3, h4, h5, h6, h7, h8, h10, h9⟩ := h
  refine (cancelRef_any i W h2).mono ?_
  rintro e w' ⟨rfl, v', q1, q2, q3⟩
  exact ⟨rfl, Pl.turnR h1 h2 h4 h5 h6 h7 h8 h10 h9 q1 (once_out h3 i) (q2.mono (fun x hx => .inl hx)) (fun c hc => q3.imp (fun e => by rw [← e]; exact hc) (fun g => g c hc)) [] (by simp)⟩
theorem dueW_pl (h : Pl w W b p X us now nowR du cnt ts) (i : Int) (hi : (Lit.int .i64 i).wf = true) : Calls Try.prog 18 #[.pointer (some ⟨b, 0, none⟩), .int .i64 i] W fun e w' => e = .returned (.tuple #[.int .i64 ((du i).getD 0), .bool (du i).isSome]) ∧ w' = W := by
  obtain ⟨cs, F, v, h1, h2, h3, h4, h5, h6, h7, h8, h10, h9⟩ := h
  exact due_any h1 i hi
theorem dueR_pl (h : Pl w W b p X us now nowR du cnt ts) (i : Int) : Calls Try.prog 19 #[.pointer (some ⟨p, 0, none⟩), .int .i64 i] W fun e w' => e = .returned (.tuple #[.int .i64 ((lk ts i).getD 0), .bool (lk ts i).isSome]) ∧ Pl w w' b p X us now nowR du cnt ts := by
  have h' := h
  obtain ⟨cs, F, v, h1, h2, h3, h4, h5, h6, h7, h8, h10, h9⟩ := h
  refine (dueRef_any i W h2).mono ?_
  rintro e w' ⟨rfl, hb⟩
  exact ⟨rfl, h'.below hb⟩
theorem nowW_pl (h : Pl w W b p X us now nowR du cnt ts) : Calls Try.prog 12 #[.pointer (some ⟨b, 0, none⟩)] W fun e w' => e = .returned (.int .i64 now) ∧ w' = W := by
  obtain ⟨cs, F, v, h1, h2, h3, h4, h5, h6, h7, h8, h10, h9⟩ := h
  exact now_any h1
theorem manyW_pl (h : Pl w W b p X us now nowR du cnt ts) : Calls Try.prog 11 #[.pointer (some ⟨b, 0, none⟩)] W fun e w' => e = .returned (.int .i64 (cnt : Int)) ∧ w' = W := by
  obtain ⟨cs, F, v, h1, h2, h3, h4, h5, h6, h7, h8, h10, h9⟩ := h
  exact many_any h1
/-- what Advance answers. -/
def advE (now tn : Int) : Int := if now ≤ tn ∧ tn ≤ 1099511627776 then 0 else 2
def advN (now tn : Int) : Int := if now ≤ tn ∧ tn ≤ 1099511627776 then tn else now
def advD (now tn : Int) (du : Int → Option Int) : Int → Option Int := if now ≤ tn ∧ tn ≤ 1099511627776 then leftD tn du else du
def OffL (now tn : Int) (du : Int → Option Int) (l : List Int) : Prop := if now ≤ tn ∧ tn ≤ 1099511627776 then ∃ off, off.Nodup ∧ (∀ i, i ∈ off ↔ ∃ d, du i = some d ∧ d ≤ tn) ∧ l = sortZ (dz du) off else l = []
def OffR (now tn : Int) (ts rs : List Tm) (l : List Int) : Prop := if now ≤ tn ∧ tn ≤ 1099511627776 then ∃ cs, Sel tn ts cs rs ∧ (∀ y ∈ rs, tn < y.2) ∧ l = cs.map (·.1) else rs = ts ∧ l = []
def AdvW (w w' : World) (b p : Nat) (X : List (Nat × Obj)) (us : List (Value × List Int)) (now nowR tn : Int) (du : Int → Option Int) (cnt : Nat) (ts : List Tm) (u : Value) : Prop :=
  ∃ l cnt', OffL now tn du l ∧ cnt' + l.length = cnt ∧ Pl w w' b p X ((u, l) :: us) (advN now tn) nowR (advD now tn du) cnt' ts
def AdvD (w w' : World) (b p : Nat) (X : List (Nat × Obj)) (us : List (Value × List Int)) (now nowR tn : Int) (du : Int → Option Int) (cnt : Nat) (ts : List Tm) (u : Value) : Prop :=
  ∃ l rs, OffR nowR tn ts rs l ∧ Pl w w' b p X ((u, l) :: us) now (advN nowR tn) du cnt rs
theorem own_nilT (w : World) : Own w (.slice none 0 0) [] := World.ownsRow_nil w 0 3 1
theorem Pl.nil (h : Pl w W b p X us now nowR du cnt ts) : Pl w W b p X ((.slice none 0 0, []) :: us) now nowR du cnt ts := by
  obtain ⟨cs, F, v, h1, h2, h3, h4, h5, h6, h7, h8, h10, h9⟩ := h
  refine ⟨cs, F, v, h1, h2, h3, h4, h5, h6, h7, h8, fun q hq => ?_, h9⟩
  rcases List.mem_cons.1 hq with rfl | hq
  · exact ⟨own_nilT W, fun c hc => by simp [Value.ownBlock] at hc⟩
  · exact h10 q hq
theorem advW_pl (h : Pl w W b p X us now nowR du cnt ts) (tn : Int) :
    Calls Try.prog 10 #[.pointer (some ⟨b, 0, none⟩), .int .i64 tn] W fun e w' => ∃ u, e = .returned (.tuple #[u, .int .i64 (advE now tn)]) ∧ AdvW w w' b p X us now nowR tn du cnt ts u := by
  have h' := h
  obtain ⟨cs, F, v, h1, h2, h3, h4, h5, h6, h7, h8, h10, h9⟩ := h
  unfold AdvW advE advN advD OffL
  by_cases hd : now ≤ tn ∧ tn ≤ 1099511627776
  · simp only [if_pos hd]
    refine (advance_ok h1 hd.1 hd.2).mono ?_
    rintro e w' ⟨u, rfl, off, cs', F', cnt', q1, q2, q3, q4, q5, q6, q7, q8, q9, q10⟩
    refine ⟨u, rfl, _, cnt', ⟨off, q1, q2, rfl⟩, by rw [sortZ_length]; exact q10, Pl.turnW h2 h3 h4 h5 h6 h7 h8 h10 h9 q5 q7 q8 [(u, _)] (fun q hq => ?_)⟩
    obtain rfl := List.mem_singleton.1 hq
    exact ⟨q3, q4, q9⟩
  · simp only [if_neg hd]
    refine (advance_err h1 tn (by omega)).mono ?_
    rintro e w' ⟨rfl, hb⟩
    exact ⟨_, rfl, [], cnt, rfl, rfl, (h'.below hb).nil⟩
theorem advR_pl (h : Pl w W b p X us now nowR du cnt ts) (tn : Int) :
    Calls Try.prog 17 #[.pointer (some ⟨p, 0, none⟩), .int .i64 tn] W fun e w' => ∃ u, e = .returned (.tuple #[u, .int .i64 (advE nowR tn)]) ∧ AdvD w w' b p X us now nowR tn du cnt ts u := by
  have h' := h
  obtain ⟨cs, F, v, h1, h2, h3, h4, h5, h6, h7, h8, h10, h9⟩ := h
  unfold AdvD advE advN OffR
  by_cases hd : nowR ≤ tn ∧ tn ≤ 1099511627776
  · simp only [if_pos hd]
    refine (advanceRef_ok tn W h2 h3 hd.1 hd.2).mono ?_
    rintro e w' ⟨u, rfl, cs', rs, v', q1, q2, q3, q4, q5, q6, q7⟩
    refine ⟨u, rfl, _, rs, ⟨cs', q1, q2, rfl⟩, Pl.turnR h1 h2 h4 h5 h6 h7 h8 h10 h9 q5 (sel_once q1 h3).1 (q6.mono (fun x hx => .inl hx)) (fun c hc => q7.imp (fun e => by rw [← e]; exact hc) (fun g => g c hc)) [(u, _)] (fun q hq => ?_)⟩
    obtain rfl := List.mem_singleton.1 hq
    exact ⟨q3, fun c hc => ⟨q4 c hc, fun e => tm_ne_int q5.own q3 e hc.symm⟩⟩
  · simp only [if_neg hd]
    refine (advanceRef_range tn W h2 (by omega)).mono ?_
    rintro e w' ⟨rfl, rfl⟩
    exact ⟨_, rfl, [], ts, ⟨rfl, rfl⟩, h'.nil⟩
end
/-- both tell the same, and leave the same. -/
theorem adv_two {ts rs : List Tm} (ho : Once ts) {now tn : Int} {l l' : List Int} {cnt' : Nat} (h1 : OffL now tn (lk ts) l) (hc : cnt' + l.length = ts.length) (h2 : OffR now tn ts rs l') : l' = l ∧ advD now tn (lk ts) = lk rs ∧ cnt' = rs.length := by
  unfold OffL at h1
  unfold OffR at h2
  unfold advD
  by_cases hd : now ≤ tn ∧ tn ≤ 1099511627776
  · rw [if_pos hd] at *
    obtain ⟨off, q1, q2, rfl⟩ := h1
    obtain ⟨cs, q3, q4, rfl⟩ := h2
    have e := sel_sort q3 ho q4 off q1 q2
    rw [e] at hc
    refine ⟨e.symm, (sel_leftD q3 ho q4).symm, ?_⟩
    have := (sel_once q3 ho).2.2
    rw [List.length_map] at hc
    omega
  · rw [if_neg hd] at *
    obtain ⟨rfl, rfl⟩ := h2
    subst h1
    exact ⟨rfl, rfl, by simpa using hc⟩
end Go.Proofs.Ytphijplgnffoiaa
