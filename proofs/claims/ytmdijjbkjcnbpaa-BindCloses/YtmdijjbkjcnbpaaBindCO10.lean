/-
  Of what BindCloses, BindOpens stands on: part 10.
-/
import Derived.Deep.DeepFit
import Derived.Deep.MidRow
import Derived.Deep.RegionHeld3
import Derived.Laws.CopyOwn
import Derived.Test.YtmdijjbkjcnbpaaRows
import Derived.WalkKit
import Derived.ProofKit
import Derived.OpenShut
import Derived.Below
import Derived.Test.YtmdijjbkjcnbpaaBindCO9
namespace Go.Proofs.Ytmdijjbkjcnbpaa
open Go.ChangeShapes Go.WideShapes Go.ChangeAt Go.RowKit
set_option linter.unusedSimpArgs false
set_option linter.unusedVariables false

def noM : Mp := (0, 0, 0, 0, 0)
def usedB (ms : List Mp) (p a q : Int) : Bool := ms.any (outS p a q)
/-- the port of a block of the eighteen. -/
def portQ (n i : Nat) : Int := ((1024 + 8 * (n % 6) + i : Nat) : Int)
def unused1 (ms : List Mp) (p : Int) (n : Nat) : Option Nat := (List.range 8).find? fun i => !usedB ms p ((n / 6 : Nat) : Int) (portQ n i)
def unusedO (ms : List Mp) (p : Int) : List Nat → Option (Nat × Nat)
  | [] => none
  | n :: r => match unused1 ms p n with
    | some i => some (n, i)
    | none => unusedO ms p r
theorem unusedO_some {ms : List Mp} {p : Int} {l : List Nat} {n i : Nat} (h : unusedO ms p l = some (n, i)) : n ∈ l ∧ i < 8 ∧ usedB ms p ((n / 6 : Nat) : Int) (portQ n i) = false := by
  induction l with
  | nil => simp [unusedO] at h
  | cons x r ih =>
    unfold unusedO at h
    cases hx : unused1 ms p x with
    | none => rw [hx] at h; obtain ⟨h1, h2⟩ := ih h; exact ⟨by simp [h1], h2⟩
    | some j =>
      rw [hx] at h
      simp only [Option.some.injEq, Prod.mk.injEq] at h
      obtain ⟨rfl, rfl⟩ := h
      have h1 := List.find?_some hx
      have h2 := List.mem_of_find?_eq_some hx
      exact ⟨by simp, List.mem_range.1 h2, by simpa using h1⟩
theorem place_port {n i : Nat} (hn : n < 18) (hi : i < 8) : placeN ((n / 6 : Nat) : Int) (portQ n i) = n := by unfold placeN portQ; omega
theorem portQ_in {n i : Nat} (hi : i < 8) : 1024 ≤ portQ n i ∧ portQ n i < 1072 := by unfold portQ; omega
/-- a subscriber's blocks lie on its home. -/
theorem GoodT.at {f h : Nat → Int} {ms : List Mp} (G : GoodT f h ms) {s : Int} {n : Nat} (hs : 0 ≤ s ∧ s < 8) (hn : n ∈ blocksL f s) : h s.toNat = ((n / 6 : Nat) : Int) + 1 := by
  rw [blocksL_mem] at hn
  obtain ⟨m, hm, e⟩ := G.own n hn.1 (by omega)
  have st := G.maps.1 m hm
  have e1 := st.2.2.2.2.2.2
  have e2 : placeN m.2.2.2.1 m.2.2.2.2 = n := e
  rw [e2, hn.2] at e1
  have e3 := st.2.2.2.2.2.1
  have e4 : m.2.1 = s := by omega
  rw [e4] at e3
  rw [e3]
  have := st.2.2.2.2.1
  have := st.2.2.2.1
  unfold placeN at e2
  omega
theorem GoodT.homeless {f h : Nat → Int} {ms : List Mp} (G : GoodT f h ms) {s : Int} (hs : 0 ≤ s ∧ s < 8) : h s.toNat = 0 ↔ blocksL f s = [] := by
  constructor
  · intro h0
    rw [List.eq_nil_iff_forall_not_mem]
    intro n hn
    have := G.at hs hn
    omega
  · intro hb
    by_cases h0 : h s.toNat = 0
    · exact h0
    · exfalso
      obtain ⟨m, hm, e⟩ := G.home s.toNat (by omega) h0
      have st := G.maps.1 m hm
      have : placeM m ∈ blocksL f s := by
        rw [blocksL_mem]
        refine ⟨st.lt, ?_⟩
        have h1 := st.2.2.2.2.2.2
        have h2 := st.2.1
        have : m.2.1 = s := by omega
        rw [← this]; exact h1
      rw [hb] at this
      simp at this
theorem GoodT.homeIn {f h : Nat → Int} {ms : List Mp} (G : GoodT f h ms) {s : Int} (hs : 0 ≤ s ∧ s < 8) : 0 ≤ h s.toNat ∧ h s.toNat ≤ 3 := by
  by_cases h0 : h s.toNat = 0
  · omega
  · obtain ⟨m, hm, e⟩ := G.home s.toNat (by omega) h0
    have st := G.maps.1 m hm
    have h1 := st.2.2.2.2.2.1
    have h2 := st.2.1
    rw [e] at h1
    have := st.2.2.2.2.1
    omega
/-- the address of one more block. -/
def addrA (f : Nat → Int) (g : Nat → Bool) (h : Nat → Int) (s d : Int) : Int := if h s.toNat = 0 then pickK f g d else h s.toNat - 1
def addrE (f : Nat → Int) (g : Nat → Bool) (h : Nat → Int) (s : Int) : Int := if h s.toNat = 0 then pickE f g else 0
/-- a port for one more map: the owners, the homes, the port, whether a block was taken, the error. -/
structure RoomR where
  f : Nat → Int
  h : Nat → Int
  q : Int
  took : Bool
  e : Int
def roomR (f : Nat → Int) (g : Nat → Bool) (h : Nat → Int) (ms : List Mp) (p s d : Int) : RoomR :=
  match unusedO ms p (blocksL f s) with
  | some x => ⟨f, h, portQ x.1 x.2, false, 0⟩
  | none =>
    if (blocksL f s).length = 2 then ⟨f, h, 0, false, 6⟩ else
    if addrE f g h s = 0 then
      (if takeE f g s (addrA f g h s d) = 0 then ⟨takeF f g s (addrA f g h s d) d, upd h s.toNat (addrA f g h s d + 1), 1024 + 8 * (takeK f g s (addrA f g h s d) d : Int), true, 0⟩
      else ⟨f, h, 0, false, takeE f g s (addrA f g h s d)⟩)
    else ⟨f, h, 0, false, addrE f g h s⟩
section
variable {f : Nat → Int} {g : Nat → Bool} {h : Nat → Int} {ms : List Mp} {p s d : Int}
theorem roomR_some {x : Nat × Nat} (hu : unusedO ms p (blocksL f s) = some x) : roomR f g h ms p s d = ⟨f, h, portQ x.1 x.2, false, 0⟩ := by unfold roomR; rw [hu]
theorem roomR_full (hu : unusedO ms p (blocksL f s) = none) (h1 : (blocksL f s).length = 2) : roomR f g h ms p s d = ⟨f, h, 0, false, 6⟩ := by unfold roomR; rw [hu]; simp only; rw [if_pos h1]
theorem roomR_addr (hu : unusedO ms p (blocksL f s) = none) (h1 : (blocksL f s).length ≠ 2) (h2 : addrE f g h s ≠ 0) : roomR f g h ms p s d = ⟨f, h, 0, false, addrE f g h s⟩ := by unfold roomR; rw [hu]; simp only; rw [if_neg h1, if_neg h2]
theorem roomR_take (hu : unusedO ms p (blocksL f s) = none) (h1 : (blocksL f s).length ≠ 2) (h2 : addrE f g h s = 0) (h3 : takeE f g s (addrA f g h s d) ≠ 0) : roomR f g h ms p s d = ⟨f, h, 0, false, takeE f g s (addrA f g h s d)⟩ := by unfold roomR; rw [hu]; simp only; rw [if_neg h1, if_pos h2, if_neg h3]
theorem roomR_ok (hu : unusedO ms p (blocksL f s) = none) (h1 : (blocksL f s).length ≠ 2) (h2 : addrE f g h s = 0) (h3 : takeE f g s (addrA f g h s d) = 0) : roomR f g h ms p s d = ⟨takeF f g s (addrA f g h s d) d, upd h s.toNat (addrA f g h s d + 1), 1024 + 8 * (takeK f g s (addrA f g h s d) d : Int), true, 0⟩ := by unfold roomR; rw [hu]; simp only; rw [if_neg h1, if_pos h2, if_pos h3]
end
/-- what a new map of a good table comes to. -/
theorem room_ok {f : Nat → Int} {g : Nat → Bool} {h : Nat → Int} {ms : List Mp} {p s i d : Int} (G : GoodT f h ms) (hp : isP p = true) (hs : 0 ≤ s ∧ s < 8) (hi : 0 ≤ i ∧ i ≤ 65535) (hf : ms.any (inS p s i) = false) (hc : cntM ms s ≠ 12) (he : (roomR f g h ms p s d).e = 0) :
    let r := roomR f g h ms p s d
    let m : Mp := (p, s, i, r.h s.toNat - 1, r.q)
    GoodT r.f r.h (ms ++ [m]) ∧ (r.took = false → r.f = f ∧ r.h = h ∧ ms.any (fun o => placeM o == placeM m) = true) ∧
      (r.took = true → r.f = upd f (placeM m) (s + 1) ∧ f (placeM m) = 0 ∧ (∃ a : Int, (0 ≤ a ∧ a < 3) ∧ g a.toNat = false ∧ r.h = upd h s.toNat (a + 1) ∧ (h s.toNat = 0 ∨ h s.toNat = a + 1)) ∧ ms.any (fun o => placeM o == placeM m) = false) := by
  intro r m
  cases hu : unusedO ms p (blocksL f s) with
  | some x =>
    obtain ⟨n, j⟩ := x
    have hr : r = ⟨f, h, portQ n j, false, 0⟩ := roomR_some hu
    obtain ⟨hn, hj, hfree⟩ := unusedO_some hu
    have hat := G.at hs hn
    rw [blocksL_mem] at hn
    have hm : m = (p, s, i, ((n / 6 : Nat) : Int), portQ n j) := by show (p, s, i, r.h s.toNat - 1, r.q) = _; rw [hr]; simp only [hat]; rw [Int.add_sub_cancel]
    have hpm : placeM m = n := by rw [hm]; exact place_port hn.1 hj
    have hst : Stands f h m := by
      rw [hm]
      exact ⟨hp, hs, hi, portQ_in hj, by show 0 ≤ ((n / 6 : Nat) : Int) ∧ ((n / 6 : Nat) : Int) < 3; omega, hat, by show f (placeN _ _) = _; rw [place_port hn.1 hj]; exact hn.2⟩
    have hmeet : meetsB ms m = false := by
      rw [hm, meetsB_false]
      intro o ho
      have h1 := List.any_eq_false.1 hf o ho
      have h2 := List.any_eq_false.1 hfree o ho
      simp only [meetsB, List.any_cons, List.any_nil, Bool.or_false]
      rw [Bool.eq_false_iff.2 h1, Bool.eq_false_iff.2 h2]; rfl
    have hms : m.2.1 = s := by rw [hm]
    refine ⟨?_, fun _ => ⟨by rw [hr], by rw [hr], ?_⟩, fun ht => ?_⟩
    · rw [hr]
      exact good_same G hst hmeet (by rw [hms]; exact hc)
    · obtain ⟨o, ho, e⟩ := G.own n hn.1 (by omega)
      rw [hpm]
      simp only [List.any_eq_true, beq_iff_eq]
      exact ⟨o, ho, e⟩
    · rw [hr] at ht; simp at ht
  | none =>
    have hcases : (blocksL f s).length ≠ 2 ∧ addrE f g h s = 0 ∧ takeE f g s (addrA f g h s d) = 0 := by
      by_cases h1 : (blocksL f s).length = 2
      · rw [roomR_full hu h1] at he; exact absurd he (by simp)
      · by_cases h2 : addrE f g h s = 0
        · by_cases h3 : takeE f g s (addrA f g h s d) = 0
          · exact ⟨h1, h2, h3⟩
          · rw [roomR_take hu h1 h2 h3] at he; exact absurd he h3
        · rw [roomR_addr hu h1 h2] at he; exact absurd he h2
    obtain ⟨h1, h2, h3'⟩ := hcases
    have hr : r = _ := roomR_ok hu h1 h2 h3'
    generalize hA : addrA f g h s d = A at *
    obtain ⟨_, ha, _, hg, hfr⟩ := takeE_inv h3'
    have hK : takeK f g s A d = drawnL (freeL (rowF f A.toNat)) d := by unfold takeK; rw [if_pos h3']
    have hKm := freeL_mem _ _ (drawnL_mem (freeL (rowF f A.toNat)) d hfr)
    rw [← hK] at hKm
    have hF : takeF f g s A d = upd f (6 * A.toNat + takeK f g s A d) (s + 1) := by unfold takeF; rw [if_pos h3']
    generalize takeK f g s A d = K at *
    have hm : m = (p, s, i, A, 1024 + 8 * (K : Int)) := by show (p, s, i, r.h s.toNat - 1, r.q) = _; rw [hr]; simp only [upd, if_true]; rw [Int.add_sub_cancel]
    have hpm : placeM m = 6 * A.toNat + K := by rw [hm]; show placeN A (1024 + 8 * (K : Int)) = _; unfold placeN; omega
    have h0 : f (placeM m) = 0 := by rw [hpm]; exact hKm.2
    have hms : m.2.1 = s := by rw [hm]
    have hma : m.2.2.2.1 = A := by rw [hm]
    have hh : h s.toNat = 0 ∨ h s.toNat = A + 1 := by
      by_cases h0 : h s.toNat = 0
      · exact .inl h0
      · right; unfold addrA at hA; rw [if_neg h0] at hA; omega
    have hb : (blocksL f s).length < 2 := by
      have := (G.few s.toNat (by omega)).1
      rw [Int.toNat_of_nonneg hs.1] at this
      omega
    refine ⟨?_, fun ht => ?_, fun _ => ⟨?_, h0, ⟨A, ha, hg, by rw [hr], hh⟩, ?_⟩⟩
    · have := good_take (m := m) G h0 (by rw [hm]; exact hp) (by rw [hms]; exact hs) (by rw [hm]; exact hi) (by rw [hm]; show 1024 ≤ 1024 + 8 * (K : Int) ∧ 1024 + 8 * (K : Int) < 1072; omega) (by rw [hma]; exact ha) (by rw [hms, hma]; exact hh) (by rw [hm]; exact hf) (by rw [hms]; exact hc) (by rw [hms]; exact hb)
      rw [hms, hma, hpm] at this
      rw [hr, hF]
      exact this
    · rw [hr] at ht; simp at ht
    · rw [hr, hpm, hF]
    · rw [List.any_eq_false]
      intro o ho hx
      have e : placeM o = placeM m := by simpa using hx
      have st := G.maps.1 o ho
      have := st.2.2.2.2.2.2
      have e' : placeN o.2.2.2.1 o.2.2.2.2 = placeM m := e
      rw [e', h0] at this
      have := st.2.1
      omega
end Go.Proofs.Ytmdijjbkjcnbpaa

namespace Go.Proofs.Ytmdijjbkjcnbpaa
open Go.ChangeShapes Go.WideShapes Go.ChangeAt Go.RowKit
set_option linter.unusedSimpArgs false
set_option linter.unusedVariables false

/-- block b is a variable of type t with those cells. -/
def Row (t : TypeId) (w : World) (b : Nat) (cs : Array Value) : Prop := w.heap[b]? = some (.cells cs t (0, 0))
section
variable {t : TypeId} {w w' : World} {b r : Nat} {cs : Array Value}
theorem Row.cell (h : Row t w b cs) : ∀ o, w.cell? ⟨b, o, none⟩ = cs[o]? := by intro o; unfold Row at h; simp [World.cell?, h]
theorem Row.free (h : Row t w b cs) : ∀ o, w.frozen? ⟨b, o, none⟩ = false := by intro o; unfold Row at h; simp [World.frozen?, h]
theorem Row.lt (h : Row t w b cs) : b < w.heap.size := (Array.getElem?_eq_some_iff.1 h).1
theorem Row.below (h : Row t w b cs) (hb : Below w.heap.size w w') : Row t w' b cs := (hb.block b h.lt).trans h
theorem Row.keep {B : Nat} (h : Row t w b cs) (hb : Below B w w') (hlt : b < B) : Row t w' b cs := (hb.block b hlt).trans h
theorem Row.ne {c : Nat} (h : Row t w b cs) (hle : w.heap.size ≤ c) : b ≠ c := Nat.ne_of_lt (Nat.lt_of_lt_of_le h.lt hle)
theorem Row.new (t : TypeId) (w : World) (cs : Array Value) : Row t (w.alloc (.cells cs t)) w.heap.size cs := heap_alloc_new w _
theorem Row.alloc (h : Row t w b cs) (o : Obj) : Row t (w.alloc o) b cs := (Below.heap_alloc _ _ _ h.lt).trans h
theorem Row.other {o : Nat} {v : Value} (h : Row t w r cs) (hne : r ≠ b) : Row t (w.setCell ⟨b, o, none⟩ v) r cs := (Below.heap_setCell _ _ _ _ hne).trans h
theorem Row.set {o : Nat} {v : Value} (h : Row t w b cs) : Row t (w.setCell ⟨b, o, none⟩ v) b (cs.setIfInBounds o v) := heap_setCell_same w b o _ t _ h
theorem Row.range {o : Nat} {l : List Value} (h : Row t w b cs) (hl : ∀ j v, l[j]? = some v → cs[o + j]? = some v) : w.rangeAt b o l := fun j v hv => (h.cell _).trans (hl j v hv)
end
/-- what has turned from one world to the next is one block and new ones. -/
structure Turned (b : Nat) (w w' : World) : Prop where
  size : w'.heap.size = w.heap.size
  other : ∀ r, r ≠ b → w'.heap[r]? = w.heap[r]?
  below : ∀ B w0, B ≤ b → Below B w0 w → Below B w0 w'
theorem Turned.row {b r : Nat} {w w' : World} {t : TypeId} {cs : Array Value} (h : Turned b w w') (hr : Row t w r cs) (hne : r ≠ b) : Row t w' r cs := (h.other r hne).trans hr
theorem wpList_loadR {ops : Array Oper} {rest : List Oper} {o : Oper} {a : Act} {w : World} {Q : Exit → Act → World → Prop} (t : TypeId) (x : Operand) (ho : o.op = .load t x) (hw : Region.wanted o (yielded ops a.tmps) = true)
    (b : Nat) (hx : a.eval x = .pointer (some ⟨b, 0, none⟩)) (cs : Array Value) (h : Row t w b cs) (d : TypeDesc) (hu : Try.prog.underlying t = some d) (hd : d.isRow = true) (hi : (Try.prog.info? t).map (·.size) = some cs.size)
    (hr : wpList Try.prog ops Q rest (a.put o.dst (.agg cs)) w) : wpList Try.prog ops Q (o :: rest) a w :=
  wpList_step fun K hK => by
    rw [if_pos hw]
    exact wp_load_mid t x ho b 0 hx cs.toList d (h.range (fun j v hv => by rw [Nat.zero_add]; simpa using hv)) hu hd (by simpa using hi) (by simpa using hK _ _ hr)
theorem wpList_storeR {ops : Array Oper} {rest : List Oper} {o : Oper} {a : Act} {w : World} {Q : Exit → Act → World → Prop} (t : TypeId) (hgd : o.guard = none) (x y : Operand) (ho : o.op = .store t x y)
    (b : Nat) (hx : a.eval x = .pointer (some ⟨b, 0, none⟩)) (cs : Array Value) (hy : a.eval y = .agg cs) (old : Array Value) (h : Row t w b old) (hs : old.size = cs.size) (hi : (Try.prog.info? t).map (·.size) = some cs.size) (h1 : cs.all (·.oneCell') = true)
    (hr : ∀ w', Row t w' b cs → Turned b w w' → wpList Try.prog ops Q rest (a.put o.dst undef) w') : wpList Try.prog ops Q (o :: rest) a w :=
  wpList_plain hgd fun K hK => by
    have hst := run_storeVar_row (P := Try.prog) w b t t old cs h hi hs h1
    unfold Oper.wp execOp
    simp only [ho, hx, hy, Instr.storeAt, Instr.sureAddr, Sem.run_bind, Sem.run_pure, Result.andThen_ok, hst]
    exact hK _ _ (hr _ (setRow_heap w b old _ _ _ h) ⟨by simp, fun r hne => setRow_other w b r _ hne, fun B w0 hB hb => below_setRow hb hB _⟩)
theorem wpList_allocR {ops : Array Oper} {rest : List Oper} {o : Oper} {a : Act} {w : World} {Q : Exit → Act → World → Prop} (t : TypeId) (hgd : o.guard = none) (ho : o.op = .alloc t) (cs : Array Value) (hz : ∀ w : World, (zeroValue t).run Try.prog w = .ok (.agg cs) w)
    (hr : ∀ b w', w.heap.size ≤ b → Row t w' b cs → Below w.heap.size w w' → wpList Try.prog ops Q rest (a.put o.dst (.pointer (some ⟨b, 0, none⟩))) w') : wpList Try.prog ops Q (o :: rest) a w :=
  wpList_plain hgd fun K hK => by
    have h' := hr w.heap.size (w.alloc (.cells cs t)) (Nat.le_refl _) (Row.new t w cs) ((Below.refl _ _).alloc (Nat.le_refl _) _)
    unfold Oper.wp execOp
    simp [ho, Instr.alloc, newVar, hz w, Result.andThen, Value.cells]
    simp [go_sem]
    exact hK _ _ h'
theorem wpList_boxR {ops : Array Oper} {rest : List Oper} {o : Oper} {a : Act} {w : World} {Q : Exit → Act → World → Prop} (t : TypeId) (hgd : o.guard = none) (x : Operand) (ho : o.op = .box t x) (cs : Array Value) (hx : a.eval x = .agg cs)
    (hr : ∀ b w', w.heap.size ≤ b → Row t w' b cs → Below w.heap.size w w' → wpList Try.prog ops Q rest (a.put o.dst (.pointer (some ⟨b, 0, none⟩))) w') : wpList Try.prog ops Q (o :: rest) a w :=
  wpList_plain hgd fun K hK => by
    have h' := hr w.heap.size (w.alloc (.cells cs t)) (Nat.le_refl _) (Row.new t w cs) ((Below.refl _ _).alloc (Nat.le_refl _) _)
    unfold Oper.wp execOp
    simp only [ho, hx, Instr.box, newVar, Value.cells]
    simp [go_sem]
    exact hK _ _ h'
/-- what a call hands back whose first result lies in a variable. -/
theorem results_row2 {fn : Func} {p u : Tmp} {t : TypeId} (hf : fn.results = #[.cell p t, .tmp u]) (tmps : Array Value) (w : World) (b : Nat) (cs : Array Value) (hp : tmps.getD p undef = .pointer (some ⟨b, 0, none⟩)) (h : Row t w b cs) (d : TypeDesc) (hu : Try.prog.underlying t = some d) (hd : d.isRow = true) (hi : (Try.prog.info? t).map (·.size) = some cs.size) :
    (results fn tmps).run Try.prog w = .ok (.tuple #[.agg cs, tmps.getD u undef]) w := by
  have hp' : tmps[p]?.getD undef = .pointer (some ⟨b, 0, none⟩) := by simpa using hp
  have hl := run_loadVar_mid (P := Try.prog) w b 0 t cs.toList d (h.range (fun j v hv => by rw [Nat.zero_add]; simpa using hv)) hu hd (by simpa using hi)
  simp only [Array.toArray_toList] at hl
  simp [results, hf, hp', asAddr, hl]
theorem results_row1 {fn : Func} {p : Tmp} {t : TypeId} (hf : fn.results = #[.cell p t]) (tmps : Array Value) (w : World) (b : Nat) (cs : Array Value) (hp : tmps.getD p undef = .pointer (some ⟨b, 0, none⟩)) (h : Row t w b cs) (d : TypeDesc) (hu : Try.prog.underlying t = some d) (hd : d.isRow = true) (hi : (Try.prog.info? t).map (·.size) = some cs.size) :
    (results fn tmps).run Try.prog w = .ok (.agg cs) w := by
  have hp' : tmps[p]?.getD undef = .pointer (some ⟨b, 0, none⟩) := by simpa using hp
  have hl := run_loadVar_mid (P := Try.prog) w b 0 t cs.toList d (h.range (fun j v hv => by rw [Nat.zero_add]; simpa using hv)) hu hd (by simpa using hi)
  simp only [Array.toArray_toList] at hl
  simp [results, hf, hp', asAddr, hl]
theorem results_row3 {fn : Func} {p u v : Tmp} {t : TypeId} (hf : fn.results = #[.cell p t, .tmp u, .tmp v]) (tmps : Array Value) (w : World) (b : Nat) (cs : Array Value) (hp : tmps.getD p undef = .pointer (some ⟨b, 0, none⟩)) (h : Row t w b cs) (d : TypeDesc) (hu : Try.prog.underlying t = some d) (hd : d.isRow = true) (hi : (Try.prog.info? t).map (·.size) = some cs.size) :
    (results fn tmps).run Try.prog w = .ok (.tuple #[.agg cs, tmps.getD u undef, tmps.getD v undef]) w := by
  have hp' : tmps[p]?.getD undef = .pointer (some ⟨b, 0, none⟩) := by simpa using hp
  have hl := run_loadVar_mid (P := Try.prog) w b 0 t cs.toList d (h.range (fun j v hv => by rw [Nat.zero_add]; simpa using hv)) hu hd (by simpa using hi)
  simp only [Array.toArray_toList] at hl
  simp [results, hf, hp', asAddr, hl]
theorem wpList_eqS {ops : Array Oper} {rest : List Oper} {o : Oper} {a : Act} {w : World} {Q : Exit → Act → World → Prop} (t : TypeId) (x y : Operand) (ho : o.op = .binOp .eql t x y t) (hw : Region.wanted o (yielded ops a.tmps) = true)
    (xs ys : Array Value) (hx : a.eval x = .agg xs) (hy : a.eval y = .agg ys) (hg : Try.prog.eqGuardType Try.prog.depth t = false) (r q : Bool) (he : (Op.equalIn 10000 t (.agg xs) (.agg ys)).run Try.prog w = .ok r w) (hq : r = q)
    (hr : wpList Try.prog ops Q rest (a.put o.dst (.bool q)) w) : wpList Try.prog ops Q (o :: rest) a w :=
  wpList_step fun K hK => by
    rw [if_pos hw]
    subst hq
    unfold Oper.wp execOp
    simp only [ho, hx, hy, Sem.run_bind, run_eqGuard_agg w .eql t x y xs ys hg, run_eql_struct, he, Result.andThen_ok, Sem.run_pure]
    exact hK _ _ hr
theorem wpList_neS {ops : Array Oper} {rest : List Oper} {o : Oper} {a : Act} {w : World} {Q : Exit → Act → World → Prop} (t : TypeId) (x y : Operand) (ho : o.op = .binOp .neq t x y t) (hw : Region.wanted o (yielded ops a.tmps) = true)
    (xs ys : Array Value) (hx : a.eval x = .agg xs) (hy : a.eval y = .agg ys) (hg : Try.prog.eqGuardType Try.prog.depth t = false) (r q : Bool) (he : (Op.equalIn 10000 t (.agg xs) (.agg ys)).run Try.prog w = .ok r w) (hq : (!r) = q)
    (hr : wpList Try.prog ops Q rest (a.put o.dst (.bool q)) w) : wpList Try.prog ops Q (o :: rest) a w :=
  wpList_step fun K hK => by
    rw [if_pos hw]
    subst hq
    unfold Oper.wp execOp
    simp only [ho, hx, hy, Sem.run_bind, run_eqGuard_agg w .neq t x y xs ys hg, run_neq_struct, he, Result.andThen_ok, Sem.run_pure]
    exact hK _ _ hr
theorem yields_loadR {ops : Array Oper} {S : World → Prop} {o : Oper} {a : Act} (t : TypeId) (x : Operand) (ho : o.op = .load t x) (hw : Region.wanted o (yielded ops a.tmps) = true) (b : Nat) (hx : a.eval x = .pointer (some ⟨b, 0, none⟩)) (cs : Array Value) (hS : ∀ w, S w → Row t w b cs)
    (d : TypeDesc) (hu : Try.prog.underlying t = some d) (hd : d.isRow = true) (hi : (Try.prog.info? t).map (·.size) = some cs.size) : YieldsIf Try.prog ops S o (.agg cs) a := by
  have := yieldsIf_load_mid (P := Try.prog) (S := S) hw t x ho b 0 hx cs.toList d (fun w h => (hS w h).range (fun j v hv => by rw [Nat.zero_add]; simpa using hv)) hu hd (by simpa using hi)
  simpa using this
theorem yields_eqS {ops : Array Oper} {S : World → Prop} {o : Oper} {a : Act} (t : TypeId) (x y : Operand) (ho : o.op = .binOp .eql t x y t) (hw : Region.wanted o (yielded ops a.tmps) = true)
    (xs ys : Array Value) (hx : a.eval x = .agg xs) (hy : a.eval y = .agg ys) (hg : Try.prog.eqGuardType Try.prog.depth t = false) (r q : Bool) (he : ∀ w : World, (Op.equalIn 10000 t (.agg xs) (.agg ys)).run Try.prog w = .ok r w) (hq : r = q) : YieldsIf Try.prog ops S o (.bool q) a :=
  .inl ⟨hw, fun w _ => by
    subst hq
    unfold execOp
    simp only [ho, hx, hy, Sem.run_bind, run_eqGuard_agg w .eql t x y xs ys hg, run_eql_struct, he w, Result.andThen_ok, Sem.run_pure]⟩
theorem wpList_allocX {ops : Array Oper} {rest : List Oper} {o : Oper} {a : Act} {w : World} {Q : Exit → Act → World → Prop} (k : Nat) (t : TypeId) (hk : o.dst = some k) (hgd : o.guard = none) (ho : o.op = .alloc t) (cs : Array Value) (hz : ∀ w : World, (zeroValue t).run Try.prog w = .ok (.agg cs) w)
    (hr : ∀ b w', w.heap.size ≤ b → Row t w' b cs → Below w.heap.size w w' → wpList Try.prog ops Q rest (a.put o.dst (.pointer (some ⟨b, 0, none⟩))) w') : wpList Try.prog ops Q (o :: rest) a w := wpList_allocR t hgd ho cs hz hr
theorem wp_storeR {o : Oper} {a : Act} {w : World} {K : Act → World → Prop} {Q : Exit → Act → World → Prop} (t : TypeId) (x y : Operand) (ho : o.op = .store t x y)
    (b : Nat) (hx : a.eval x = .pointer (some ⟨b, 0, none⟩)) (cs : Array Value) (hy : a.eval y = .agg cs) (old : Array Value) (h : Row t w b old) (hs : old.size = cs.size) (hi : (Try.prog.info? t).map (·.size) = some cs.size) (h1 : cs.all (·.oneCell') = true)
    (hr : ∀ w', Row t w' b cs → Turned b w w' → K (a.put o.dst undef) w') : o.wp Try.prog a w K Q := by
  have hst := run_storeVar_row (P := Try.prog) w b t t old cs h hi hs h1
  unfold Oper.wp execOp
  simp only [ho, hx, hy, Instr.storeAt, Instr.sureAddr, Sem.run_bind, Sem.run_pure, Result.andThen_ok, hst]
  exact hr _ (setRow_heap w b old _ _ _ h) ⟨by simp, fun r hne => setRow_other w b r _ hne, fun B w0 hB hb => below_setRow hb hB _⟩
/-- one field of a struct in memory. -/
theorem turned_cell (b o : Nat) (v : Value) (w : World) : Turned b w (w.setCell ⟨b, o, none⟩ v) := ⟨by simp, fun r hne => Below.heap_setCell _ _ _ _ hne, fun B w0 hB hb => hb.setCell hB v⟩
theorem wpList_loadF {ops : Array Oper} {rest : List Oper} {o : Oper} {a : Act} {w : World} {Q : Exit → Act → World → Prop} {t : TypeId} {b : Nat} {cs : Array Value} (R : Row t w b cs) (x : Operand) (ho : o.op = .load 3 x) (hw : Region.wanted o (yielded ops a.tmps) = true)
    (f : Nat) (hx : a.eval x = .pointer (some ⟨b, f, none⟩)) (n : Int) (hc : cs[f]? = some (.int .i64 n))
    (hr : wpList Try.prog ops Q rest (a.put o.dst (.int .i64 n)) w) : wpList Try.prog ops Q (o :: rest) a w :=
  wpList_step fun K hK => by
    rw [if_pos hw]
    have hcell := (R.cell f).trans hc
    unfold Oper.wp execOp
    simp only [ho, hx]
    simp [go_sem, hcell, Try.underlying3]
    exact hK _ _ hr
theorem wpList_storeF {ops : Array Oper} {rest : List Oper} {o : Oper} {a : Act} {w : World} {Q : Exit → Act → World → Prop} {t : TypeId} {b : Nat} {cs : Array Value} (R : Row t w b cs) (hgd : o.guard = none) (x y : Operand) (ho : o.op = .store 3 x y)
    (f : Nat) (hx : a.eval x = .pointer (some ⟨b, f, none⟩)) (n : Int) (hy : a.eval y = .int .i64 n) (m : Int) (hc : cs[f]? = some (.int .i64 m)) (ds : Array Value) (hd : cs.setIfInBounds f (.int .i64 n) = ds)
    (hr : ∀ w', Row t w' b ds → Turned b w w' → wpList Try.prog ops Q rest (a.put o.dst undef) w') : wpList Try.prog ops Q (o :: rest) a w :=
  wpList_plain hgd fun K hK => by
    have hcell := (R.cell f).trans hc
    have hfr := R.free f
    unfold Oper.wp execOp
    simp only [ho, hx, hy]
    simp [go_sem, hcell, hfr, Try.underlying3]
    exact hK _ _ (hr _ (hd ▸ R.set) (turned_cell _ _ _ _))
end Go.Proofs.Ytmdijjbkjcnbpaa
