/-
  Of what BindCloses, BindOpens stands on: part 26.
-/
import Derived.Maps.OwnSet
import Derived.Maps.OwnOps
import Derived.WideKeyEntry
import Derived.DeepKeys5
import Derived.Carry
import Derived.Test.YtmdijjbkjcnbpaaBindCO14
import Derived.Test.YtmdijjbkjcnbpaaBindCO22
import Derived.Test.YtmdijjbkjcnbpaaBindCO25
namespace Go.Proofs.Ytmdijjbkjcnbpaa
open Go.ChangeShapes Go.WideShapes Go.ChangeAt Go.RowKit Go.Maps
set_option linter.unusedSimpArgs false
set_option linter.unusedVariables false

/-- how keys are written: 'κ' of those that are 'ok'. -/
structure Ky {α : Type} (kt : TypeId) (κ : α → Value) (ok : α → Prop) : Prop where
  law : Keyed Try.prog kt
  lit : ∀ a, ok a → ∃ l, keyOf Try.prog kt (κ a) = some l
  inj : ∀ a b, κ a = κ b → a = b
/-- a map from keys to yes or no. -/
def MeB {α : Type} (W : World) (kt : TypeId) (κ : α → Value) (ok : α → Prop) (b n : Nat) (S : α → Bool) : Prop :=
  ∃ D : DataW Unit, W.ownsMap Try.prog kt (plainElem Try.prog 4) b n D ∧ ∀ a, ok a → ∀ l, keyOf Try.prog kt (κ a) = some l → D.atKey l (.lit (.bool false)) = .lit (.bool (S a))
/-- a map from keys to numbers. -/
def MeI {α : Type} (W : World) (kt : TypeId) (κ : α → Value) (ok : α → Prop) (b n : Nat) (S : α → Int) : Prop :=
  ∃ D : DataW Unit, W.ownsMap Try.prog kt (plainElem Try.prog 3) b n D ∧ ∀ a, ok a → ∀ l, keyOf Try.prog kt (κ a) = some l → D.atKey l (.lit (.int .i64 0)) = .lit (.int .i64 (S a))
theorem owns_keep {W W' : World} {kt : TypeId} {R : Value → Option (DataW Unit × List MemPlace)} {b n : Nat} {D : DataW Unit} (h : W.ownsMap Try.prog kt R b n D) (he : W'.heap[b]? = W.heap[b]?) : W'.ownsMap Try.prog kt R b n D := by
  obtain ⟨es, clock, hb, r⟩ := h
  exact ⟨es, clock, he.trans hb, r⟩
theorem plainB (x : Bool) : plainElem (H := Unit) Try.prog 4 (.bool x) = some (.lit (.bool x), []) := plainElem_bool Try.underlying4 x
theorem plainB_inv {v : Value} {x : Bool} {ps : List MemPlace} (h : plainElem (H := Unit) Try.prog 4 v = some (.lit (.bool x), ps)) : v = .bool x := by
  unfold plainElem at h
  rw [Try.underlying4] at h
  cases v <;> simp at h
  · exact congrArg Value.bool h.1
theorem zeroB (w : World) : (zeroValue 4).run Try.prog w = .ok (.bool false) w := by kernel_rfl
theorem zeroIB (w : World) : (zeroValue 3).run Try.prog w = .ok (.int .i64 0) w := by kernel_rfl
section
variable {α : Type} {W W' : World} {kt : TypeId} {κ : α → Value} {ok : α → Prop} {b n : Nat}
theorem MeB.keep {S : α → Bool} (h : MeB W kt κ ok b n S) (he : W'.heap[b]? = W.heap[b]?) : MeB W' kt κ ok b n S := by
  obtain ⟨D, h1, h2⟩ := h; exact ⟨D, owns_keep h1 he, h2⟩
theorem MeI.keep {S : α → Int} (h : MeI W kt κ ok b n S) (he : W'.heap[b]? = W.heap[b]?) : MeI W' kt κ ok b n S := by
  obtain ⟨D, h1, h2⟩ := h; exact ⟨D, owns_keep h1 he, h2⟩
theorem MeB.lt {S : α → Bool} (h : MeB W kt κ ok b n S) : b < W.heap.size := by obtain ⟨D, h1, h2⟩ := h; exact h1.lt
theorem MeI.lt {S : α → Int} (h : MeI W kt κ ok b n S) : b < W.heap.size := by obtain ⟨D, h1, h2⟩ := h; exact h1.lt
theorem MeB.obj {S : α → Bool} (h : MeB W kt κ ok b n S) : ∃ es c, W.heap[b]? = some (.map es c) := by obtain ⟨D, ⟨es, c, h1, _⟩, h2⟩ := h; exact ⟨es, c, h1⟩
theorem MeI.obj {S : α → Int} (h : MeI W kt κ ok b n S) : ∃ es c, W.heap[b]? = some (.map es c) := by obtain ⟨D, ⟨es, c, h1, _⟩, h2⟩ := h; exact ⟨es, c, h1⟩
theorem meB_new (w : World) (kt : TypeId) (κ : α → Value) (ok : α → Prop) : MeB (w.alloc (.map #[] 0)) kt κ ok w.heap.size 0 (fun _ => false) := ⟨_, World.ownsMap_made w _ _ _, fun a _ l _ => rfl⟩
theorem meI_new (w : World) (kt : TypeId) (κ : α → Value) (ok : α → Prop) : MeI (w.alloc (.map #[] 0)) kt κ ok w.heap.size 0 (fun _ => 0) := ⟨_, World.ownsMap_made w _ _ _, fun a _ l _ => rfl⟩
theorem MeB.look {S : α → Bool} (h : MeB W kt κ ok b n S) (K : Ky kt κ ok) {t : TypeId} (ht : Try.prog.underlying t = some (.map kt 4)) (a : α) (ha : ok a) : (Instr.lookup t (.map (some b)) (κ a) false).run Try.prog W = .ok (.bool (S a)) W := by
  obtain ⟨D, h1, h2⟩ := h
  obtain ⟨l, hl⟩ := K.lit a ha
  obtain ⟨v, ps, hr, hv⟩ := h1.lookup K.law ht (zeroB W) (plainB false) hl
  rw [h2 a ha l hl] at hv
  rw [hr, plainB_inv hv]
theorem MeI.look {S : α → Int} (h : MeI W kt κ ok b n S) (K : Ky kt κ ok) {t : TypeId} (ht : Try.prog.underlying t = some (.map kt 3)) (a : α) (ha : ok a) : (Instr.lookup t (.map (some b)) (κ a) false).run Try.prog W = .ok (.int .i64 (S a)) W ∧ (Lit.int .i64 (S a)).wf = true := by
  obtain ⟨D, h1, h2⟩ := h
  obtain ⟨l, hl⟩ := K.lit a ha
  obtain ⟨c, hr, hc, hw⟩ := h1.lookup_int K.law ht Try.underlying3 (zeroIB W) hl
  rw [h2 a ha l hl] at hc
  have e : S a = c := (Lit.int.inj (DataW.lit.inj hc)).2
  rw [hr, e]
  exact ⟨rfl, hw⟩
def updX [DecidableEq α] {β : Type} (S : α → β) (a : α) (y : β) : α → β := fun x => if x = a then y else S x
theorem put_reads [DecidableEq α] {β : Type} {R : Value → Option (DataW Unit × List MemPlace)} {D : DataW Unit} {S : α → β} {lt : β → Lit} {z : Lit} (K : Ky kt κ ok) (hM : IsMap D) (h2 : ∀ a, ok a → ∀ l, keyOf Try.prog kt (κ a) = some l → D.atKey l (.lit z) = .lit (lt (S a))) (a : α) (y : β) {la : Lit} (hl : keyOf Try.prog kt (κ a) = some la) :
    ∀ x, ok x → ∀ l, keyOf Try.prog kt (κ x) = some l → (D.put la (.lit (lt y))).atKey l (.lit z) = .lit (lt (updX S a y x)) := by
  intro x hx l hlx
  unfold updX
  by_cases e : x = a
  · subst e
    obtain rfl : la = l := by rw [hl] at hlx; exact Option.some.inj hlx
    rw [if_pos rfl, atKey_put_same hM (K.law.key hl)]
  · have hne : l ≠ la := fun e2 => e (K.inj x a (K.law.inj hlx (by rw [e2]; exact hl)))
    rw [if_neg e, atKey_put_other hne]
    exact h2 x hx l hlx
theorem MeB.put [DecidableEq α] {S : α → Bool} (h : MeB W kt κ ok b n S) (K : Ky kt κ ok) {t : TypeId} (ht : Try.prog.underlying t = some (.map kt 4)) (hn : n < maxLen) (a : α) (ha : ok a) (y : Bool) : ∃ w', (Instr.mapUpdate t (.map (some b)) (κ a) (.bool y)).run Try.prog W = .ok () w' ∧ MeB w' kt κ ok b (n + 1) (updX S a y) ∧ W.grownBy w' (some b) := by
  obtain ⟨D, h1, h2⟩ := h
  obtain ⟨l, hl⟩ := K.lit a ha
  obtain ⟨w', hr, ho, hg⟩ := h1.update K.law ht hn hl (plainB y)
  exact ⟨w', hr, ⟨_, ho, put_reads (R := plainElem Try.prog 4) (lt := Lit.bool) K h1.isMap h2 a y hl⟩, hg⟩
theorem plainI {x : Int} (h : (Lit.int .i64 x).wf = true) : plainElem (H := Unit) Try.prog 3 (.int .i64 x) = some (.lit (.int .i64 x), []) := plainElem_int Try.underlying3 h
theorem MeI.put [DecidableEq α] {S : α → Int} (h : MeI W kt κ ok b n S) (K : Ky kt κ ok) {t : TypeId} (ht : Try.prog.underlying t = some (.map kt 3)) (hn : n < maxLen) (a : α) (ha : ok a) (y : Int) (hy : (Lit.int .i64 y).wf = true) : ∃ w', (Instr.mapUpdate t (.map (some b)) (κ a) (.int .i64 y)).run Try.prog W = .ok () w' ∧ MeI w' kt κ ok b (n + 1) (updX S a y) ∧ W.grownBy w' (some b) := by
  obtain ⟨D, h1, h2⟩ := h
  obtain ⟨l, hl⟩ := K.lit a ha
  obtain ⟨w', hr, ho, hg⟩ := h1.update K.law ht hn hl (plainI hy)
  exact ⟨w', hr, ⟨_, ho, put_reads (R := plainElem Try.prog 3) (lt := Lit.int .i64) K h1.isMap h2 a y hl⟩, hg⟩
end
/-- an entry is looked up, or made; the world is that of an update by what stands there. -/
theorem entry_mid {k e t : TypeId} {w : World} {b : Nat} {R : Value → Option (DataW Unit × List MemPlace)} {es : Array MapEntry} {clock : Nat} (K : WideMaps.KeyLaw Try.prog k) (ht : Try.prog.underlying t = some (.map k e)) {z : Value} (hz : ∀ u : World, (zeroValue e).run Try.prog u = .ok z u) (hb : w.heap[b]? = some (.map es clock)) (F : WideElems.Fit Try.prog k R es clock)
    {key : Value} {kl : Lit} (hkey : keyOf Try.prog k key = some kl) {v0 : Value} {u : Value} {w1 : World} (h1 : (Instr.mapEntry t (.map (some b)) key).run Try.prog w = .ok (.tuple #[v0, u]) w1) : (Instr.mapUpdate t (.map (some b)) key v0).run Try.prog w = .ok () w1 ∧ (Instr.lookup t (.map (some b)) key false).run Try.prog w = .ok v0 w := by
  rcases K.find w hkey es.toList F.keys with ⟨f1, f2⟩ | ⟨j, e0, f1, f2, f3⟩
  · simp [Instr.mapEntry, run_underlying ht, MapKept.run_getObj_map hb, K.check w false hkey, f1, hz, MapKept.run_setObj_map _ hb, Result.andThen] at h1
    simp [Instr.mapUpdate, Instr.lookup, run_underlying ht, MapKept.run_getObj_map hb, K.check w _ hkey, f1, hz, MapKept.run_setObj_map _ hb, Result.andThen]
    obtain ⟨⟨e1, _⟩, e2⟩ := h1
    subst e1
    exact ⟨e2, rfl⟩
  · have hj : es[j]? = some e0 := by simpa using f2
    have hm : es.modify j (fun e => { e with key := key, val := e0.val }) = es.modify j (fun e => { e with key := key }) := by
      apply Array.ext'
      rw [Array.toList_modify, Array.toList_modify, ChangeMaps.modify_eq_set _ _ _ _ f2, ChangeMaps.modify_eq_set _ _ _ _ f2]
    simp [Instr.mapEntry, run_underlying ht, MapKept.run_getObj_map hb, K.check w false hkey, f1, hj, f3, K.stays w hkey, MapKept.run_setObj_map _ hb, Result.andThen] at h1
    obtain ⟨⟨e1, _⟩, e2⟩ := h1
    subst e1
    simp [Instr.mapUpdate, Instr.lookup, run_underlying ht, MapKept.run_getObj_map hb, K.check w _ hkey, f1, hj, f3, K.stays w hkey, MapKept.run_setObj_map _ hb, Result.andThen]
    rw [← e2, ← hm]
section
variable {α : Type} [DecidableEq α] {W W' : World} {kt : TypeId} {κ : α → Value} {ok : α → Prop} {b n : Nat}
theorem updX_self {β : Type} (S : α → β) (a : α) : updX S a (S a) = S := by
  funext x; unfold updX; split
  · rename_i e; rw [e]
  · rfl
/-- 'm[k]++' by its entry: the entry, and what is stored there whatever else has turned. -/
theorem MeI.entry {S : α → Int} (h : MeI W kt κ ok b n S) (K : Ky kt κ ok) (KL : WideMaps.KeyLaw Try.prog kt) {t : TypeId} (ht : Try.prog.underlying t = some (.map kt 3)) (hn : n < maxLen) (a : α) (ha : ok a) :
    ∃ v0 st w1, (Instr.mapEntry t (.map (some b)) (κ a)).run Try.prog W = .ok (.tuple #[v0, goInt st]) w1 ∧ MeI w1 kt κ ok b (n + 1) S ∧ W.grownBy w1 (some b) ∧
      ∀ (w2 : World) (y : Int), (Lit.int .i64 y).wf = true → w2.heap[b]? = w1.heap[b]? → ∃ w3, (Instr.entryStore t (.map (some b)) (goInt st) (.int .i64 y)).run Try.prog w2 = .ok () w3 ∧ MeI w3 kt κ ok b (n + 1) (updX S a y) ∧ w2.grownBy w3 (some b) := by
  have hlk := h.look K ht a ha
  have h0 := h
  obtain ⟨D, h1, h2⟩ := h
  obtain ⟨l, hl⟩ := K.lit a ha
  obtain ⟨es, clock, hb, F, hs, hD⟩ := id h1
  obtain ⟨v0, st, es1, c1, r1, r2, r3⟩ := WideElems.entry_then_store KL ht zeroIB hb F hl
  obtain ⟨hu, hlk2⟩ := entry_mid KL ht zeroIB hb F hl r1
  obtain rfl : v0 = .int .i64 (S a) := (Result.ok.inj (hlk2.symm.trans hlk.1)).1
  refine ⟨_, st, _, r1, ?_, ?_, fun w2 y hy hw2 => ?_⟩
  · obtain ⟨w', q1, q2, q3⟩ := h0.put K ht hn a ha (S a) hlk.2
    obtain rfl := (Result.ok.inj (hu.symm.trans q1)).2
    rw [updX_self] at q2
    exact q2
  · obtain ⟨w', q1, q2, q3⟩ := h0.put K ht hn a ha (S a) hlk.2
    obtain rfl := (Result.ok.inj (hu.symm.trans q1)).2
    exact q3
  · have hw1 : (ChangeMaps.setBlock W b (.map es1 c1)).heap[b]? = some (.map es1 c1) := ChangeMaps.heap_setBlock_same hb _
    obtain ⟨es', c', s1, s2⟩ := r3 w2 (.int .i64 y) (hw2.trans hw1)
    obtain ⟨w', q1, q2, q3⟩ := h0.put K ht hn a ha y hy
    obtain rfl := (Result.ok.inj (s2.symm.trans q1)).2
    refine ⟨_, s1, q2.keep ?_, ?_⟩
    · rw [ChangeMaps.heap_setBlock_same (hw2.trans hw1), ChangeMaps.heap_setBlock_same hb]
    · exact ⟨rfl, rfl, rfl, by simp [ChangeMaps.setBlock], fun i _ hi => ChangeMaps.heap_setBlock_other (hw2.trans hw1) _ (fun e => hi (by rw [e]))⟩
end
end Go.Proofs.Ytmdijjbkjcnbpaa

namespace Go.Proofs.Ytmdijjbkjcnbpaa
open Go.ChangeShapes Go.WideShapes Go.ChangeAt Go.RowKit Go.Maps
set_option linter.unusedSimpArgs false
set_option linter.unusedVariables false

def wf6 (x : Int) : Prop := (Lit.int .i64 x).wf = true
theorem wf6_of {x : Int} (h : -9223372036854775808 ≤ x ∧ x ≤ 9223372036854775807) : wf6 x := by unfold wf6; simpa [Lit.wf, IntKind.min, IntKind.max, IntKind.signed, IntKind.bits] using h
theorem wf6_bd {x : Int} (h : wf6 x) : -9223372036854775808 ≤ x ∧ x ≤ 9223372036854775807 := by unfold wf6 at h; simpa [Lit.wf, IntKind.min, IntKind.max, IntKind.signed, IntKind.bits] using h
def k3 (x : Int × Int × Int) : Value := .agg #[.int .i64 x.1, .int .i64 x.2.1, .int .i64 x.2.2]
def ok3 (x : Int × Int × Int) : Prop := wf6 x.1 ∧ wf6 x.2.1 ∧ wf6 x.2.2
def k2 (x : Int × Int) : Value := .agg #[.int .i64 x.1, .int .i64 x.2]
def ok2 (x : Int × Int) : Prop := wf6 x.1 ∧ wf6 x.2
def k1v (x : Int) : Value := .int .i64 x
theorem k3_inj (a b : Int × Int × Int) (h : k3 a = k3 b) : a = b := by
  obtain ⟨a1, a2, a3⟩ := a
  obtain ⟨b1, b2, b3⟩ := b
  simp [k3] at h
  obtain ⟨rfl, rfl, rfl⟩ := h
  rfl
theorem k2_inj (a b : Int × Int) (h : k2 a = k2 b) : a = b := by
  obtain ⟨a1, a2⟩ := a
  obtain ⟨b1, b2⟩ := b
  simp [k2] at h
  obtain ⟨rfl, rfl⟩ := h
  rfl
theorem k1_inj (a b : Int) (h : k1v a = k1v b) : a = b := by simpa [k1v] using h
theorem types_two : ∃ d, Try.prog.types.size + 1 = d + 2 := by
  have h : decide (0 < Try.prog.types.size) = true := by kernel_rfl
  have := of_decide_eq_true h
  exact ⟨Try.prog.types.size - 1, by omega⟩
theorem lawPlace : WideMaps.KeyLaw Try.prog 76 := deep_law_gate (by kernel_rfl) (of_decide_eq_true (by kernel_rfl)) (of_decide_eq_true (by kernel_rfl)) (by kernel_rfl) (by kernel_rfl)
theorem lawPort : WideMaps.KeyLaw Try.prog 78 := deep_law_gate (by kernel_rfl) (of_decide_eq_true (by kernel_rfl)) (of_decide_eq_true (by kernel_rfl)) (by kernel_rfl) (by kernel_rfl)
theorem lawTwo : WideMaps.KeyLaw Try.prog 79 := deep_law_gate (by kernel_rfl) (of_decide_eq_true (by kernel_rfl)) (of_decide_eq_true (by kernel_rfl)) (by kernel_rfl) (by kernel_rfl)
theorem lit_place (x : Int × Int × Int) (h : ok3 x) : ∃ l, keyOf Try.prog 76 (k3 x) = some l := by
  have hk : Try.prog.keyType 76 = true := by kernel_rfl
  have hf : (k3 x).formed Try.prog 76 = true := by kernel_rfl
  have c3 : Try.prog.cellsOf 76 = 3 := by kernel_rfl
  have c1 : Try.prog.cellsOf 3 = 1 := by kernel_rfl
  obtain ⟨d, hd⟩ := types_two
  have hl : Try.prog.keyLits (Try.prog.types.size + 1) 76 (k3 x).cells.toList = some [.int .i64 x.1, .int .i64 x.2.1, .int .i64 x.2.2] := by
    rw [hd]
    have h1 := h.1; have h2 := h.2.1; have h3 := h.2.2
    unfold wf6 at h1 h2 h3
    simp [Program.keyLits, Value.cells, k3, Try.underlying76, Try.underlying3, c3, c1, h1, h2, h3]
  unfold keyOf
  rw [Try.underlying76]
  simp only [hk, hf, hl, Bool.and_self, if_true, Option.map_some]
  exact ⟨_, rfl⟩
theorem lit_port (x : Int × Int × Int) (h : ok3 x) : ∃ l, keyOf Try.prog 78 (k3 x) = some l := by
  have hk : Try.prog.keyType 78 = true := by kernel_rfl
  have hf : (k3 x).formed Try.prog 78 = true := by kernel_rfl
  have c3 : Try.prog.cellsOf 78 = 3 := by kernel_rfl
  have c1 : Try.prog.cellsOf 3 = 1 := by kernel_rfl
  obtain ⟨d, hd⟩ := types_two
  have hl : Try.prog.keyLits (Try.prog.types.size + 1) 78 (k3 x).cells.toList = some [.int .i64 x.1, .int .i64 x.2.1, .int .i64 x.2.2] := by
    rw [hd]
    have h1 := h.1; have h2 := h.2.1; have h3 := h.2.2
    unfold wf6 at h1 h2 h3
    simp [Program.keyLits, Value.cells, k3, Try.underlying78, Try.underlying3, c3, c1, h1, h2, h3]
  unfold keyOf
  rw [Try.underlying78]
  simp only [hk, hf, hl, Bool.and_self, if_true, Option.map_some]
  exact ⟨_, rfl⟩
theorem lit_two (x : Int × Int) (h : ok2 x) : ∃ l, keyOf Try.prog 79 (k2 x) = some l := by
  have hk : Try.prog.keyType 79 = true := by kernel_rfl
  have hf : (k2 x).formed Try.prog 79 = true := by kernel_rfl
  have c3 : Try.prog.cellsOf 79 = 2 := by kernel_rfl
  have c1 : Try.prog.cellsOf 3 = 1 := by kernel_rfl
  obtain ⟨d, hd⟩ := types_two
  have hl : Try.prog.keyLits (Try.prog.types.size + 1) 79 (k2 x).cells.toList = some [.int .i64 x.1, .int .i64 x.2] := by
    rw [hd]
    have h1 := h.1; have h2 := h.2
    unfold wf6 at h1 h2
    simp [Program.keyLits, Value.cells, k2, Try.underlying79, Try.underlying3, c3, c1, h1, h2, List.range, List.range.loop]
  unfold keyOf
  rw [Try.underlying79]
  simp only [hk, hf, hl, Bool.and_self, if_true, Option.map_some]
  exact ⟨_, rfl⟩
theorem kyPlace : Ky 76 k3 ok3 := ⟨Keyed.of_law lawPlace, lit_place, k3_inj⟩
theorem kyPort : Ky 78 k3 ok3 := ⟨Keyed.of_law lawPort, lit_port, k3_inj⟩
theorem kyTwo : Ky 79 k2 ok2 := ⟨Keyed.of_law lawTwo, lit_two, k2_inj⟩
theorem kyInt : Ky 3 k1v wf6 := ⟨int_keyed Try.underlying3, fun a h => ⟨_, keyOf_int_mk (P := Try.prog) (q := .i64) (a := a) Try.underlying3 h⟩, k1_inj⟩
/-- what the document's maps say behind some of the table's maps. -/
def sOut (l : List Mp) : Int × Int × Int → Bool := fun x => l.any (outS x.1 x.2.1 x.2.2)
def sIn (l : List Mp) : Int × Int × Int → Bool := fun x => l.any (inS x.1 x.2.1 x.2.2)
def blkQ (q : Int) : Int := (q - 1024) / 8
def nPl (l : List Mp) : Int × Int → Int := fun x => ((l.filter fun m => m.2.2.2.1 == x.1 && blkQ m.2.2.2.2 == x.2).length : Int)
def nOf (l : List Mp) : Int → Int := fun s => (cntM l s : Int)
theorem sOut_snoc (l : List Mp) (m : Mp) : updX (sOut l) (m.1, m.2.2.2.1, m.2.2.2.2) true = sOut (l ++ [m]) := by
  funext x
  unfold updX sOut
  rw [List.any_append]
  by_cases e : x = (m.1, m.2.2.2.1, m.2.2.2.2)
  · subst e; simp [outS]
  · rw [if_neg e]
    have : outS x.1 x.2.1 x.2.2 m = false := by
      cases h : outS x.1 x.2.1 x.2.2 m with
      | false => rfl
      | true => obtain ⟨h1, h2, h3⟩ := (outS_iff _ _ _ _).1 h; exact absurd (by rw [h1, h2, h3]) e
    simp [this]
theorem sIn_snoc (l : List Mp) (m : Mp) : updX (sIn l) (m.1, m.2.1, m.2.2.1) true = sIn (l ++ [m]) := by
  funext x
  unfold updX sIn
  rw [List.any_append]
  by_cases e : x = (m.1, m.2.1, m.2.2.1)
  · subst e; simp [inS]
  · rw [if_neg e]
    have : inS x.1 x.2.1 x.2.2 m = false := by
      cases h : inS x.1 x.2.1 x.2.2 m with
      | false => rfl
      | true => obtain ⟨h1, h2, h3⟩ := (inS_iff _ _ _ _).1 h; exact absurd (by rw [h1, h2, h3]) e
    simp [this]
theorem nPl_snoc (l : List Mp) (m : Mp) : updX (nPl l) (m.2.2.2.1, blkQ m.2.2.2.2) (nPl l (m.2.2.2.1, blkQ m.2.2.2.2) + 1) = nPl (l ++ [m]) := by
  funext x
  unfold updX nPl
  rw [List.filter_append, List.length_append]
  by_cases e : x = (m.2.2.2.1, blkQ m.2.2.2.2)
  · subst e; simp
  · rw [if_neg e]
    have : (m.2.2.2.1 == x.1 && blkQ m.2.2.2.2 == x.2) = false := by
      cases h : (m.2.2.2.1 == x.1 && blkQ m.2.2.2.2 == x.2) with
      | false => rfl
      | true => simp at h; exact absurd (by rw [h.1, h.2]) e
    simp [this]
theorem nOf_snoc (l : List Mp) (m : Mp) : updX (nOf l) m.2.1 (nOf l m.2.1 + 1) = nOf (l ++ [m]) := by
  funext x
  unfold updX nOf cntM
  rw [List.filter_append, List.length_append]
  by_cases e : x = m.2.1
  · subst e; simp
  · rw [if_neg e]
    have : (m.2.1 == x) = false := by simpa using fun h => e h.symm
    simp [this]
theorem nPl_le (l : List Mp) (x : Int × Int) : 0 ≤ nPl l x ∧ nPl l x ≤ l.length := by unfold nPl; have := List.length_filter_le (fun m : Mp => m.2.2.2.1 == x.1 && blkQ m.2.2.2.2 == x.2) l; omega
theorem nOf_le (l : List Mp) (s : Int) : 0 ≤ nOf l s ∧ nOf l s ≤ l.length := by unfold nOf cntM; have := List.length_filter_le (fun m : Mp => m.2.1 == s) l; omega
theorem meets_two (l : List Mp) (m : Mp) : meetsB l m = (sIn l (m.1, m.2.1, m.2.2.1) || sOut l (m.1, m.2.2.2.1, m.2.2.2.2)) := by
  unfold meetsB sIn sOut
  induction l with
  | nil => rfl
  | cons o r ih =>
    simp only [List.any_cons, ih]
    cases inS m.1 m.2.1 m.2.2.1 o <;> cases outS m.1 m.2.2.2.1 m.2.2.2.2 o <;> simp
theorem msOk_take {f h : Nat → Int} {ms : List Mp} (H : MsOk f h ms) (j : Nat) : MsOk f h (ms.take j) := ⟨fun m hm => H.1 m (List.mem_of_mem_take hm), H.2.sublist (List.take_sublist j ms)⟩
/-- how many of the first blocks a subscriber has. -/
def hadF (f : Nat → Int) (q : Nat) : Int → Int := fun s => (((List.range q).filter fun n => decide (0 < f n) && f n == s + 1).length : Int)
theorem hadF_up (f : Nat → Int) (q : Nat) (h : 0 < f q) : updX (hadF f q) (f q - 1) (hadF f q (f q - 1) + 1) = hadF f (q + 1) := by
  funext x
  unfold updX hadF
  rw [List.range_succ, List.filter_append, List.length_append]
  by_cases e : x = f q - 1
  · subst e; simp [h]
  · rw [if_neg e]
    have : (f q == x + 1) = false := by simp; omega
    simp [this]
theorem hadF_same (f : Nat → Int) (q : Nat) (h : ¬ 0 < f q) : hadF f (q + 1) = hadF f q := by
  funext x
  unfold hadF
  rw [List.range_succ, List.filter_append, List.length_append]
  simp [h]
theorem hadF_le (f : Nat → Int) (q : Nat) (s : Int) : 0 ≤ hadF f q s ∧ hadF f q s ≤ q := by unfold hadF; have := List.length_filter_le (fun n => decide (0 < f n) && f n == s + 1) (List.range q); simp at this; omega
theorem hadF_all (f : Nat → Int) (s : Nat) : hadF f 18 (s : Int) = (blocksL f s).length := by
  unfold hadF blocksL
  congr 2
  apply List.filter_congr
  intro n _
  by_cases h : f n = (s : Int) + 1
  · simp [h] <;> omega
  · simp [h]
/-- what the document asks of the whole. -/
def docB (f : Nat → Int) (ms : List Mp) (q : Nat) : Prop := (0 < f q ↔ 0 < nPl ms ((q / 6 : Nat), (q % 6 : Nat)))
def docH (f h : Nat → Int) (ms : List Mp) (s : Nat) : Prop := hadF f 18 s ≤ 2 ∧ nOf ms s ≤ 12 ∧ (h s = 0 ↔ hadF f 18 s = 0)
theorem nPl_pos {f h : Nat → Int} {ms : List Mp} (H : MsOk f h ms) (q : Nat) (hq : q < 18) : 0 < nPl ms ((q / 6 : Nat), (q % 6 : Nat)) ↔ ∃ m ∈ ms, placeM m = q := by
  unfold nPl
  have e : (0 : Int) < ((ms.filter fun m => m.2.2.2.1 == ((q / 6 : Nat) : Int) && blkQ m.2.2.2.2 == ((q % 6 : Nat) : Int)).length : Int) ↔ ∃ m ∈ ms, (m.2.2.2.1 == ((q / 6 : Nat) : Int) && blkQ m.2.2.2.2 == ((q % 6 : Nat) : Int)) = true := by
    rw [show ((0 : Int) < ((ms.filter fun m => m.2.2.2.1 == ((q / 6 : Nat) : Int) && blkQ m.2.2.2.2 == ((q % 6 : Nat) : Int)).length : Int)) ↔ 0 < (ms.filter fun m => m.2.2.2.1 == ((q / 6 : Nat) : Int) && blkQ m.2.2.2.2 == ((q % 6 : Nat) : Int)).length by omega, List.length_pos_iff_exists_mem]
    simp only [List.mem_filter]
  rw [e]
  refine exists_congr fun m => and_congr_right fun hm => ?_
  have st := H.1 m hm
  have h5 := st.2.2.2.2.1
  have h4 := st.2.2.2.1
  unfold placeM placeN blkQ
  simp only [Bool.and_eq_true, beq_iff_eq]
  omega
theorem docGood_iff {f h : Nat → Int} {ms : List Mp} : GoodT f h ms ↔ goodP f = true ∧ MsOk f h ms ∧ (∀ q, q < 18 → docB f ms q) ∧ ∀ s : Nat, s < 8 → docH f h ms s := by
  constructor
  · intro G
    refine ⟨G.pool, G.maps, fun q hq => ?_, fun s hs => ?_⟩
    · unfold docB
      rw [nPl_pos G.maps q hq]
      have hp := goodP_inv G.pool q hq
      constructor
      · intro h0; exact G.own q hq (by omega)
      · rintro ⟨m, hm, rfl⟩
        have st := G.maps.1 m hm
        have := st.2.2.2.2.2.2
        have h2 := st.2.1
        show 0 < f (placeN _ _)
        omega
    · unfold docH
      rw [hadF_all]
      have hf := G.few s hs
      refine ⟨by omega, by unfold nOf; omega, ?_⟩
      have key : (blocksL f s).length = 0 ↔ ∀ m ∈ ms, m.2.1.toNat ≠ s := by
        rw [List.length_eq_zero_iff, List.eq_nil_iff_forall_not_mem]
        constructor
        · intro hn m hm e
          have st := G.maps.1 m hm
          refine hn (placeM m) ((blocksL_mem _ _ _).2 ⟨st.lt, ?_⟩)
          have := st.2.2.2.2.2.2
          have h2 := st.2.1
          show f (placeN _ _) = _
          omega
        · intro hn q hq
          obtain ⟨hq1, hq2⟩ := (blocksL_mem _ _ _).1 hq
          obtain ⟨m, hm, e⟩ := G.own q hq1 (by omega)
          have st := G.maps.1 m hm
          have h7 := st.2.2.2.2.2.2
          have h2 := st.2.1
          refine hn m hm ?_
          have e2 : f q = m.2.1 + 1 := by rw [← e]; exact h7
          omega
      constructor
      · intro h0
        have : (blocksL f s).length = 0 := key.2 (fun m hm e => by
          have st := G.maps.1 m hm
          have h6 := st.2.2.2.2.2.1
          have h5 := st.2.2.2.2.1
          rw [e, h0] at h6
          omega)
        omega
      · intro h0
        by_cases hh : h s = 0
        · exact hh
        · obtain ⟨m, hm, e⟩ := G.home s hs hh
          exact absurd e (key.1 (by omega) m hm)
  · rintro ⟨h1, h2, h3, h4⟩
    refine ⟨h1, h2, fun q hq h0 => ?_, fun s hs h0 => ?_, fun s hs => ?_⟩
    · have hp := goodP_inv h1 q hq
      exact (nPl_pos h2 q hq).1 ((h3 q hq).1 (by omega))
    · obtain ⟨_, _, hz⟩ := h4 s hs
      rw [hadF_all] at hz
      have : (blocksL f s).length ≠ 0 := fun e => h0 (hz.2 (by omega))
      obtain ⟨q, hq⟩ := List.exists_mem_of_length_pos (Nat.pos_of_ne_zero this)
      obtain ⟨hq1, hq2⟩ := (blocksL_mem _ _ _).1 hq
      obtain ⟨m, hm, e⟩ := (nPl_pos h2 q hq1).1 ((h3 q hq1).1 (by omega))
      have st := h2.1 m hm
      have h7 := st.2.2.2.2.2.2
      have hb := st.2.1
      refine ⟨m, hm, ?_⟩
      have e2 : f q = m.2.1 + 1 := by rw [← e]; exact h7
      omega
    · obtain ⟨g1, g2, _⟩ := h4 s hs
      rw [hadF_all] at g1
      unfold nOf at g2
      omega
end Go.Proofs.Ytmdijjbkjcnbpaa

namespace Go.Proofs.Ytmdijjbkjcnbpaa
open Go.ChangeShapes Go.WideShapes Go.ChangeAt Go.RowKit Go.Maps
set_option linter.unusedSimpArgs false
set_option linter.unusedVariables false

theorem Bd.one {w W : World} {L : List (Nat × TypeId × Array Value)} {Ms : List (Value × List Mp)} (h : Bd w W L Ms) (i : Nat) {y : Nat × TypeId × Array Value} (hi : L[i]? = some y) : Bd w W [y] [] :=
  ⟨by simp, fun z hz => by obtain rfl := List.mem_singleton.1 hz; exact h.rows _ (List.mem_of_getElem? hi), by simp, h.base⟩
theorem castB (m : Nat) : Value.int .i64 ((m : Int) + 1) = .int .i64 ((m + 1 : Nat) : Int) := by simp
theorem castBW {m : Nat} (h : wrap64 ((m : Int) + 1) = (m : Int) + 1) : Value.int .i64 (wrap64 ((m : Int) + 1)) = .int .i64 ((m + 1 : Nat) : Int) := by rw [h]; simp
theorem hidB {p : Prop} (h : p) : Hid p := h
/-- the document's BlockOf. -/
theorem blockOf_in (q : Int) (w : World) (h : 1024 ≤ q ∧ q < 1072) : Calls Try.prog 13 #[.int .i64 q] w fun e w' => e = .returned (.tuple #[.int .i64 (blkQ q), .int .i64 ((q - 1024) % 8), .bool true]) ∧ w' = w := by
  have h1 := h.1
  have h2 := h.2
  have g1 : ¬ q < 1024 := by omega
  have g2 : ¬ 1071 < q := by omega
  go_enter Try.func13, Try.ntmps13
  go_wp2
  refine bodyPost_ret (v := .tuple #[.int .i64 (blkQ q), .int .i64 ((q - 1024) % 8), .bool true]) (by simp [results, Try.results13, go_sem, blkQ]) rfl ⟨rfl, rfl⟩
theorem blockOf_out (q : Int) (w : World) (h : ¬ (1024 ≤ q ∧ q < 1072)) : Calls Try.prog 13 #[.int .i64 q] w fun e w' => e = .returned (.tuple #[.int .i64 0, .int .i64 0, .bool false]) ∧ w' = w := by
  by_cases h1 : q < 1024
  · clear h
    go_enter Try.func13, Try.ntmps13
    go_wp2
    refine bodyPost_ret (v := .tuple #[.int .i64 0, .int .i64 0, .bool false]) (by simp [results, Try.results13, go_sem]) rfl ⟨rfl, rfl⟩
  · have h2 : 1071 < q := by omega
    clear h
    go_enter Try.func13, Try.ntmps13
    go_wp2
    refine bodyPost_ret (v := .tuple #[.int .i64 0, .int .i64 0, .bool false]) (by simp [results, Try.results13, go_sem]) rfl ⟨rfl, rfl⟩
theorem isProto_ref (p : Int) (w : World) : Calls Try.prog 36 #[.int .i64 p] w fun e w' => e = .returned (.bool (isP p)) ∧ w' = w := by
  unfold isP
  by_cases h1 : p = 1
  · subst h1
    go_enter Try.func36, Try.ntmps36
    go_wp2
    go_ret
    exact ⟨rfl, rfl⟩
  · have g1 : (p == 1) = false := by simpa using h1
    by_cases h2 : p = 6
    · subst h2
      clear h1
      go_enter Try.func36, Try.ntmps36
      go_wp2
      go_ret
      exact ⟨rfl, rfl⟩
    · have g2 : (p == 6) = false := by simpa using h2
      obtain ⟨r, hr⟩ : ∃ r, (p == 17) = r := ⟨_, rfl⟩
      rw [g1, g2, hr]
      clear h1 h2
      cases r
      all_goals
        go_enter Try.func36, Try.ntmps36
        go_wp2
        go_ret
        exact ⟨rfl, rfl⟩
attribute [local irreducible] tc pc
set_option maxRecDepth 10000 in
set_option maxHeartbeats 4000000 in
theorem findMap_ref (f : Nat → Int) (g : Nat → Bool) (h : Nat → Int) (sl : Value) (ms : List Mp) (x y z : Int) (w : World) (hM : MapsAt w sl ms) :
    Calls Try.prog 9 #[.agg (tc f g h sl), .int .i64 x, .int .i64 y, .int .i64 z] w fun e w' => e = .returned (foundS (ms.find? (inS x y z))) ∧ Below w.heap.size w w' := by
  have B := Bd.start w
  have hM0 := hM
  obtain ⟨a0, cap, hsl, -⟩ := hM0
  obtain ⟨n, hn⟩ : ∃ n, n = ms.length := ⟨_, rfl⟩
  rw [← hn] at hsl
  subst hsl
  have HN : Hid (n = ms.length) := hn
  clear hn
  have hlt := hM.lt
  go_enter Try.func9, Try.ntmps9
  go_wp2_with (first | ((with_reducible refine at_opB (.box 30 (.tmp 0)) rfl ?_); refine wpList_boxR 30 rfl (.tmp 0) rfl _ rfl ?_; intro b4 w9 l9 R9 h9; replace B := B.alloc l9 R9 h9; clear R9 h9 l9) | ((with_reducible refine at_opB (.alloc 32) rfl ?_); refine wpList_allocX 8 32 rfl rfl rfl _ map_zero ?_; intro b8 w9 l9 R9 h9; replace B := B.alloc l9 R9 h9; clear R9 h9 l9; have cM : World.cell? _ ⟨b4, 29, none⟩ = some (.slice a0 n cap) := ((B.row 1 rfl).cell 29).trans (tc_maps _ _ _ _)))
  clear cM
  go_loopw [15] (fun i W => ∃ j : Nat, j ≤ ms.length ∧ i = .int .i64 (j : Int) ∧ (ms.take j).find? (inS x y z) = none ∧ Bd w W [(b8, 32, mc noM)] []) (fun i _ => n - (intOf i).toNat)
  case atStart => exact ⟨0, by omega, rfl, by simp, B.one 0 rfl⟩
  case round =>
    clear B
    obtain ⟨j, hj, rfl, hno, B⟩ := hrel
    by_cases hlj : j < ms.length
    · have hjn : (j : Int) < (n : Int) := by have := HN.out; omega
      have hjw := wrap_next hlj hM.len
      obtain ⟨m, hm⟩ : ∃ m, ms[j] = m := ⟨_, rfl⟩
      have hMW := hM.keep B.base hlt
      have hrg := hMW.at j hlj hm
      by_cases hin : inS x y z m = true
      · have HF : Hid (ms.find? (inS x y z) = some m) := find_at hno hlj hm hin
        obtain ⟨e1, e2, e3⟩ := (inS_iff _ _ _ _).1 hin
        have g1 : (m.2.1 == y) = true := by simpa using e2
        have g2 : (m.2.2.1 == z) = true := by simpa using e3
        have g3 : (m.1 == x) = true := by simpa using e1
        clear e1 e2 e3 hin
        go_wp2_with (first | (refine wpList_indexM rfl (.tmp 13) (.tmp 15) rfl (.slice a0 n cap) ms hMW rfl j rfl hlj ?_) | ((with_reducible refine at_opB (.load 32 (.tmp 17)) rfl ?_); refine wpList_load_mid rfl 32 _ rfl _ _ rfl (mcl m) _ hrg Try.underlying32 rfl (mcl_info m) ?_; rw [mcl_mc]) | ((with_reducible refine at_opB (.alloc 32) rfl ?_); refine wpList_allocX 11 32 rfl rfl rfl _ map_zero ?_; intro b11 w9 l9 R9 h9; replace B := B.alloc l9 R9 h9; clear R9 h9 l9) | ((with_reducible refine at_opB (.store 32 (.tmp 11) (.tmp 18)) rfl ?_); refine wpList_storeR 32 rfl (.tmp 11) _ rfl b11 rfl (mc m) rfl _ (B.row 0 rfl) rfl (mc_info _) (mc_one _) ?_; intro w9 R9 t9; replace B := B.turn 0 rfl R9 t9; clear R9 t9) | ((with_reducible refine at_opB (.load 3 (.tmp 19)) rfl ?_); refine wpList_loadF (B.row 0 rfl) _ rfl (by kernel_rfl) 1 rfl (m.2.1) rfl ?_) | ((with_reducible refine at_opB (.load 3 (.tmp 24)) rfl ?_); refine wpList_loadF (B.row 0 rfl) _ rfl (by kernel_rfl) 2 rfl (m.2.2.1) rfl ?_) | ((with_reducible refine at_opB (.load 3 (.tmp 30)) rfl ?_); refine wpList_loadF (B.row 0 rfl) _ rfl (by kernel_rfl) 0 rfl (m.1) rfl ?_) | ((with_reducible refine at_opB (.load 32 (.tmp 11)) rfl ?_); refine wpList_loadR 32 (.tmp 11) rfl (by kernel_rfl) b11 rfl (mc m) (B.row 0 rfl) _ Try.underlying32 rfl (mc_info _) ?_) | ((with_reducible refine at_opB (.store 32 (.tmp 8) (.tmp 35)) rfl ?_); refine wpList_storeR 32 rfl (.tmp 8) _ rfl b8 rfl (mc m) rfl _ (B.row 1 rfl) rfl (mc_info _) (mc_one _) ?_; intro w9 R9 t9; replace B := B.turn 1 rfl R9 t9; clear R9 t9))
        ((try simp only [Exit.inBlock, Exit.then]); refine bodyPost_ret (results_row2 rfl _ _ _ _ rfl (B.row 1 rfl) _ Try.underlying32 rfl (mc_info _)) rfl ⟨?_, B.base⟩)
        rw [HF.out]; rfl
      · have hin' : inS x y z m = false := by simpa using hin
        have HF : Hid ((ms.take (j + 1)).find? (inS x y z) = none) := find_step hno hlj hm hin'
        by_cases c1 : m.2.1 = y
        · have g1 : (m.2.1 == y) = true := by simpa using c1
          by_cases c2 : m.2.2.1 = z
          · have g2 : (m.2.2.1 == z) = true := by simpa using c2
            have g3 : (m.1 == x) = false := by
              cases hq : (m.1 == x) with
              | false => rfl
              | true => exact absurd ((inS_iff _ _ _ _).2 (by have := eq_of_beq hq; exact ⟨this, c1, c2⟩)) hin
            clear c1 c2 hin hin'
            go_wp2_with (first | (refine wpList_indexM rfl (.tmp 13) (.tmp 15) rfl (.slice a0 n cap) ms hMW rfl j rfl hlj ?_) | ((with_reducible refine at_opB (.load 32 (.tmp 17)) rfl ?_); refine wpList_load_mid rfl 32 _ rfl _ _ rfl (mcl m) _ hrg Try.underlying32 rfl (mcl_info m) ?_; rw [mcl_mc]) | ((with_reducible refine at_opB (.alloc 32) rfl ?_); refine wpList_allocX 11 32 rfl rfl rfl _ map_zero ?_; intro b11 w9 l9 R9 h9; replace B := B.alloc l9 R9 h9; clear R9 h9 l9) | ((with_reducible refine at_opB (.store 32 (.tmp 11) (.tmp 18)) rfl ?_); refine wpList_storeR 32 rfl (.tmp 11) _ rfl b11 rfl (mc m) rfl _ (B.row 0 rfl) rfl (mc_info _) (mc_one _) ?_; intro w9 R9 t9; replace B := B.turn 0 rfl R9 t9; clear R9 t9) | ((with_reducible refine at_opB (.load 3 (.tmp 19)) rfl ?_); refine wpList_loadF (B.row 0 rfl) _ rfl (by kernel_rfl) 1 rfl (m.2.1) rfl ?_) | ((with_reducible refine at_opB (.load 3 (.tmp 24)) rfl ?_); refine wpList_loadF (B.row 0 rfl) _ rfl (by kernel_rfl) 2 rfl (m.2.2.1) rfl ?_) | ((with_reducible refine at_opB (.load 3 (.tmp 30)) rfl ?_); refine wpList_loadF (B.row 0 rfl) _ rfl (by kernel_rfl) 0 rfl (m.1) rfl ?_) | ((with_reducible refine at_opB (.load 32 (.tmp 11)) rfl ?_); refine wpList_loadR 32 (.tmp 11) rfl (by kernel_rfl) b11 rfl (mc m) (B.row 0 rfl) _ Try.underlying32 rfl (mc_info _) ?_) | ((with_reducible refine at_opB (.store 32 (.tmp 8) (.tmp 35)) rfl ?_); refine wpList_storeR 32 rfl (.tmp 8) _ rfl b8 rfl (mc m) rfl _ (B.row 1 rfl) rfl (mc_info _) (mc_one _) ?_; intro w9 R9 t9; replace B := B.turn 1 rfl R9 t9; clear R9 t9))
            go_roundw
            case rel => first | exact ⟨j + 1, by omega, castB j, HF.out, B.one 1 rfl⟩ | exact ⟨j + 1, by omega, castBW hjw, HF.out, B.one 1 rfl⟩
            case measure => (first | rw [hjw] | skip); exact meas_next (HN.out.symm ▸ hlj)
          · have g2 : (m.2.2.1 == z) = false := by simpa using c2
            clear c1 c2 hin hin'
            go_wp2_with (first | (refine wpList_indexM rfl (.tmp 13) (.tmp 15) rfl (.slice a0 n cap) ms hMW rfl j rfl hlj ?_) | ((with_reducible refine at_opB (.load 32 (.tmp 17)) rfl ?_); refine wpList_load_mid rfl 32 _ rfl _ _ rfl (mcl m) _ hrg Try.underlying32 rfl (mcl_info m) ?_; rw [mcl_mc]) | ((with_reducible refine at_opB (.alloc 32) rfl ?_); refine wpList_allocX 11 32 rfl rfl rfl _ map_zero ?_; intro b11 w9 l9 R9 h9; replace B := B.alloc l9 R9 h9; clear R9 h9 l9) | ((with_reducible refine at_opB (.store 32 (.tmp 11) (.tmp 18)) rfl ?_); refine wpList_storeR 32 rfl (.tmp 11) _ rfl b11 rfl (mc m) rfl _ (B.row 0 rfl) rfl (mc_info _) (mc_one _) ?_; intro w9 R9 t9; replace B := B.turn 0 rfl R9 t9; clear R9 t9) | ((with_reducible refine at_opB (.load 3 (.tmp 19)) rfl ?_); refine wpList_loadF (B.row 0 rfl) _ rfl (by kernel_rfl) 1 rfl (m.2.1) rfl ?_) | ((with_reducible refine at_opB (.load 3 (.tmp 24)) rfl ?_); refine wpList_loadF (B.row 0 rfl) _ rfl (by kernel_rfl) 2 rfl (m.2.2.1) rfl ?_) | ((with_reducible refine at_opB (.load 3 (.tmp 30)) rfl ?_); refine wpList_loadF (B.row 0 rfl) _ rfl (by kernel_rfl) 0 rfl (m.1) rfl ?_) | ((with_reducible refine at_opB (.load 32 (.tmp 11)) rfl ?_); refine wpList_loadR 32 (.tmp 11) rfl (by kernel_rfl) b11 rfl (mc m) (B.row 0 rfl) _ Try.underlying32 rfl (mc_info _) ?_) | ((with_reducible refine at_opB (.store 32 (.tmp 8) (.tmp 35)) rfl ?_); refine wpList_storeR 32 rfl (.tmp 8) _ rfl b8 rfl (mc m) rfl _ (B.row 1 rfl) rfl (mc_info _) (mc_one _) ?_; intro w9 R9 t9; replace B := B.turn 1 rfl R9 t9; clear R9 t9))
            go_roundw
            case rel => first | exact ⟨j + 1, by omega, castB j, HF.out, B.one 1 rfl⟩ | exact ⟨j + 1, by omega, castBW hjw, HF.out, B.one 1 rfl⟩
            case measure => (first | rw [hjw] | skip); exact meas_next (HN.out.symm ▸ hlj)
        · have g1 : (m.2.1 == y) = false := by simpa using c1
          clear c1 hin hin'
          go_wp2_with (first | (refine wpList_indexM rfl (.tmp 13) (.tmp 15) rfl (.slice a0 n cap) ms hMW rfl j rfl hlj ?_) | ((with_reducible refine at_opB (.load 32 (.tmp 17)) rfl ?_); refine wpList_load_mid rfl 32 _ rfl _ _ rfl (mcl m) _ hrg Try.underlying32 rfl (mcl_info m) ?_; rw [mcl_mc]) | ((with_reducible refine at_opB (.alloc 32) rfl ?_); refine wpList_allocX 11 32 rfl rfl rfl _ map_zero ?_; intro b11 w9 l9 R9 h9; replace B := B.alloc l9 R9 h9; clear R9 h9 l9) | ((with_reducible refine at_opB (.store 32 (.tmp 11) (.tmp 18)) rfl ?_); refine wpList_storeR 32 rfl (.tmp 11) _ rfl b11 rfl (mc m) rfl _ (B.row 0 rfl) rfl (mc_info _) (mc_one _) ?_; intro w9 R9 t9; replace B := B.turn 0 rfl R9 t9; clear R9 t9) | ((with_reducible refine at_opB (.load 3 (.tmp 19)) rfl ?_); refine wpList_loadF (B.row 0 rfl) _ rfl (by kernel_rfl) 1 rfl (m.2.1) rfl ?_) | ((with_reducible refine at_opB (.load 3 (.tmp 24)) rfl ?_); refine wpList_loadF (B.row 0 rfl) _ rfl (by kernel_rfl) 2 rfl (m.2.2.1) rfl ?_) | ((with_reducible refine at_opB (.load 3 (.tmp 30)) rfl ?_); refine wpList_loadF (B.row 0 rfl) _ rfl (by kernel_rfl) 0 rfl (m.1) rfl ?_) | ((with_reducible refine at_opB (.load 32 (.tmp 11)) rfl ?_); refine wpList_loadR 32 (.tmp 11) rfl (by kernel_rfl) b11 rfl (mc m) (B.row 0 rfl) _ Try.underlying32 rfl (mc_info _) ?_) | ((with_reducible refine at_opB (.store 32 (.tmp 8) (.tmp 35)) rfl ?_); refine wpList_storeR 32 rfl (.tmp 8) _ rfl b8 rfl (mc m) rfl _ (B.row 1 rfl) rfl (mc_info _) (mc_one _) ?_; intro w9 R9 t9; replace B := B.turn 1 rfl R9 t9; clear R9 t9))
          go_roundw
          case rel => first | exact ⟨j + 1, by omega, castB j, HF.out, B.one 1 rfl⟩ | exact ⟨j + 1, by omega, castBW hjw, HF.out, B.one 1 rfl⟩
          case measure => (first | rw [hjw] | skip); exact meas_next (HN.out.symm ▸ hlj)
    · have e : j = ms.length := by omega
      have HF : Hid (ms.find? (inS x y z) = none) := by
        show _ = _
        rw [e, List.take_length] at hno; exact hno
      have hjn : ¬ (j : Int) < (n : Int) := by have := HN.out; omega
      clear e hno hj hlj
      go_wp2_with ((with_reducible refine at_opB (.store 32 (.tmp 8) (.tmp 37)) rfl ?_); refine wpList_storeR 32 rfl (.tmp 8) _ rfl b8 rfl (mc noM) rfl _ (B.row 0 rfl) rfl (mc_info _) (mc_one _) ?_; intro w9 R9 t9; replace B := B.turn 0 rfl R9 t9; clear R9 t9)
      ((try simp only [Exit.inBlock, Exit.then]); refine bodyPost_ret (results_row2 rfl _ _ _ _ rfl (B.row 0 rfl) _ Try.underlying32 rfl (mc_info _)) rfl ⟨?_, B.base⟩)
      rw [HF.out]; rfl
set_option maxRecDepth 10000 in
set_option maxHeartbeats 4000000 in
theorem backMap_ref (f : Nat → Int) (g : Nat → Bool) (h : Nat → Int) (sl : Value) (ms : List Mp) (x y z : Int) (w : World) (hM : MapsAt w sl ms) :
    Calls Try.prog 11 #[.agg (tc f g h sl), .int .i64 x, .int .i64 y, .int .i64 z] w fun e w' => e = .returned (foundS (ms.find? (outS x y z))) ∧ Below w.heap.size w w' := by
  have B := Bd.start w
  have hM0 := hM
  obtain ⟨a0, cap, hsl, -⟩ := hM0
  obtain ⟨n, hn⟩ : ∃ n, n = ms.length := ⟨_, rfl⟩
  rw [← hn] at hsl
  subst hsl
  have HN : Hid (n = ms.length) := hn
  clear hn
  have hlt := hM.lt
  go_enter Try.func11, Try.ntmps11
  go_wp2_with (first | ((with_reducible refine at_opB (.box 30 (.tmp 0)) rfl ?_); refine wpList_boxR 30 rfl (.tmp 0) rfl _ rfl ?_; intro b4 w9 l9 R9 h9; replace B := B.alloc l9 R9 h9; clear R9 h9 l9) | ((with_reducible refine at_opB (.alloc 32) rfl ?_); refine wpList_allocX 8 32 rfl rfl rfl _ map_zero ?_; intro b8 w9 l9 R9 h9; replace B := B.alloc l9 R9 h9; clear R9 h9 l9; have cM : World.cell? _ ⟨b4, 29, none⟩ = some (.slice a0 n cap) := ((B.row 1 rfl).cell 29).trans (tc_maps _ _ _ _)))
  clear cM
  go_loopw [15] (fun i W => ∃ j : Nat, j ≤ ms.length ∧ i = .int .i64 (j : Int) ∧ (ms.take j).find? (outS x y z) = none ∧ Bd w W [(b8, 32, mc noM)] []) (fun i _ => n - (intOf i).toNat)
  case atStart => exact ⟨0, by omega, rfl, by simp, B.one 0 rfl⟩
  case round =>
    clear B
    obtain ⟨j, hj, rfl, hno, B⟩ := hrel
    by_cases hlj : j < ms.length
    · have hjn : (j : Int) < (n : Int) := by have := HN.out; omega
      have hjw := wrap_next hlj hM.len
      obtain ⟨m, hm⟩ : ∃ m, ms[j] = m := ⟨_, rfl⟩
      have hMW := hM.keep B.base hlt
      have hrg := hMW.at j hlj hm
      by_cases hin : outS x y z m = true
      · have HF : Hid (ms.find? (outS x y z) = some m) := find_at hno hlj hm hin
        obtain ⟨e1, e2, e3⟩ := (outS_iff _ _ _ _).1 hin
        have g1 : (m.2.2.2.2 == z) = true := by simpa using e3
        have g2 : (m.2.2.2.1 == y) = true := by simpa using e2
        have g3 : (m.1 == x) = true := by simpa using e1
        clear e1 e2 e3 hin
        go_wp2_with (first | (refine wpList_indexM rfl (.tmp 13) (.tmp 15) rfl (.slice a0 n cap) ms hMW rfl j rfl hlj ?_) | ((with_reducible refine at_opB (.load 32 (.tmp 17)) rfl ?_); refine wpList_load_mid rfl 32 _ rfl _ _ rfl (mcl m) _ hrg Try.underlying32 rfl (mcl_info m) ?_; rw [mcl_mc]) | ((with_reducible refine at_opB (.alloc 32) rfl ?_); refine wpList_allocX 11 32 rfl rfl rfl _ map_zero ?_; intro b11 w9 l9 R9 h9; replace B := B.alloc l9 R9 h9; clear R9 h9 l9) | ((with_reducible refine at_opB (.store 32 (.tmp 11) (.tmp 18)) rfl ?_); refine wpList_storeR 32 rfl (.tmp 11) _ rfl b11 rfl (mc m) rfl _ (B.row 0 rfl) rfl (mc_info _) (mc_one _) ?_; intro w9 R9 t9; replace B := B.turn 0 rfl R9 t9; clear R9 t9) | ((with_reducible refine at_opB (.load 3 (.tmp 19)) rfl ?_); refine wpList_loadF (B.row 0 rfl) _ rfl (by kernel_rfl) 4 rfl (m.2.2.2.2) rfl ?_) | ((with_reducible refine at_opB (.load 3 (.tmp 24)) rfl ?_); refine wpList_loadF (B.row 0 rfl) _ rfl (by kernel_rfl) 3 rfl (m.2.2.2.1) rfl ?_) | ((with_reducible refine at_opB (.load 3 (.tmp 30)) rfl ?_); refine wpList_loadF (B.row 0 rfl) _ rfl (by kernel_rfl) 0 rfl (m.1) rfl ?_) | ((with_reducible refine at_opB (.load 32 (.tmp 11)) rfl ?_); refine wpList_loadR 32 (.tmp 11) rfl (by kernel_rfl) b11 rfl (mc m) (B.row 0 rfl) _ Try.underlying32 rfl (mc_info _) ?_) | ((with_reducible refine at_opB (.store 32 (.tmp 8) (.tmp 35)) rfl ?_); refine wpList_storeR 32 rfl (.tmp 8) _ rfl b8 rfl (mc m) rfl _ (B.row 1 rfl) rfl (mc_info _) (mc_one _) ?_; intro w9 R9 t9; replace B := B.turn 1 rfl R9 t9; clear R9 t9))
        ((try simp only [Exit.inBlock, Exit.then]); refine bodyPost_ret (results_row2 rfl _ _ _ _ rfl (B.row 1 rfl) _ Try.underlying32 rfl (mc_info _)) rfl ⟨?_, B.base⟩)
        rw [HF.out]; rfl
      · have hin' : outS x y z m = false := by simpa using hin
        have HF : Hid ((ms.take (j + 1)).find? (outS x y z) = none) := find_step hno hlj hm hin'
        by_cases c1 : m.2.2.2.2 = z
        · have g1 : (m.2.2.2.2 == z) = true := by simpa using c1
          by_cases c2 : m.2.2.2.1 = y
          · have g2 : (m.2.2.2.1 == y) = true := by simpa using c2
            have g3 : (m.1 == x) = false := by
              cases hq : (m.1 == x) with
              | false => rfl
              | true => exact absurd ((outS_iff _ _ _ _).2 (by have := eq_of_beq hq; exact ⟨this, c2, c1⟩)) hin
            clear c1 c2 hin hin'
            go_wp2_with (first | (refine wpList_indexM rfl (.tmp 13) (.tmp 15) rfl (.slice a0 n cap) ms hMW rfl j rfl hlj ?_) | ((with_reducible refine at_opB (.load 32 (.tmp 17)) rfl ?_); refine wpList_load_mid rfl 32 _ rfl _ _ rfl (mcl m) _ hrg Try.underlying32 rfl (mcl_info m) ?_; rw [mcl_mc]) | ((with_reducible refine at_opB (.alloc 32) rfl ?_); refine wpList_allocX 11 32 rfl rfl rfl _ map_zero ?_; intro b11 w9 l9 R9 h9; replace B := B.alloc l9 R9 h9; clear R9 h9 l9) | ((with_reducible refine at_opB (.store 32 (.tmp 11) (.tmp 18)) rfl ?_); refine wpList_storeR 32 rfl (.tmp 11) _ rfl b11 rfl (mc m) rfl _ (B.row 0 rfl) rfl (mc_info _) (mc_one _) ?_; intro w9 R9 t9; replace B := B.turn 0 rfl R9 t9; clear R9 t9) | ((with_reducible refine at_opB (.load 3 (.tmp 19)) rfl ?_); refine wpList_loadF (B.row 0 rfl) _ rfl (by kernel_rfl) 4 rfl (m.2.2.2.2) rfl ?_) | ((with_reducible refine at_opB (.load 3 (.tmp 24)) rfl ?_); refine wpList_loadF (B.row 0 rfl) _ rfl (by kernel_rfl) 3 rfl (m.2.2.2.1) rfl ?_) | ((with_reducible refine at_opB (.load 3 (.tmp 30)) rfl ?_); refine wpList_loadF (B.row 0 rfl) _ rfl (by kernel_rfl) 0 rfl (m.1) rfl ?_) | ((with_reducible refine at_opB (.load 32 (.tmp 11)) rfl ?_); refine wpList_loadR 32 (.tmp 11) rfl (by kernel_rfl) b11 rfl (mc m) (B.row 0 rfl) _ Try.underlying32 rfl (mc_info _) ?_) | ((with_reducible refine at_opB (.store 32 (.tmp 8) (.tmp 35)) rfl ?_); refine wpList_storeR 32 rfl (.tmp 8) _ rfl b8 rfl (mc m) rfl _ (B.row 1 rfl) rfl (mc_info _) (mc_one _) ?_; intro w9 R9 t9; replace B := B.turn 1 rfl R9 t9; clear R9 t9))
            go_roundw
            case rel => first | exact ⟨j + 1, by omega, castB j, HF.out, B.one 1 rfl⟩ | exact ⟨j + 1, by omega, castBW hjw, HF.out, B.one 1 rfl⟩
            case measure => (first | rw [hjw] | skip); exact meas_next (HN.out.symm ▸ hlj)
          · have g2 : (m.2.2.2.1 == y) = false := by simpa using c2
            clear c1 c2 hin hin'
            go_wp2_with (first | (refine wpList_indexM rfl (.tmp 13) (.tmp 15) rfl (.slice a0 n cap) ms hMW rfl j rfl hlj ?_) | ((with_reducible refine at_opB (.load 32 (.tmp 17)) rfl ?_); refine wpList_load_mid rfl 32 _ rfl _ _ rfl (mcl m) _ hrg Try.underlying32 rfl (mcl_info m) ?_; rw [mcl_mc]) | ((with_reducible refine at_opB (.alloc 32) rfl ?_); refine wpList_allocX 11 32 rfl rfl rfl _ map_zero ?_; intro b11 w9 l9 R9 h9; replace B := B.alloc l9 R9 h9; clear R9 h9 l9) | ((with_reducible refine at_opB (.store 32 (.tmp 11) (.tmp 18)) rfl ?_); refine wpList_storeR 32 rfl (.tmp 11) _ rfl b11 rfl (mc m) rfl _ (B.row 0 rfl) rfl (mc_info _) (mc_one _) ?_; intro w9 R9 t9; replace B := B.turn 0 rfl R9 t9; clear R9 t9) | ((with_reducible refine at_opB (.load 3 (.tmp 19)) rfl ?_); refine wpList_loadF (B.row 0 rfl) _ rfl (by kernel_rfl) 4 rfl (m.2.2.2.2) rfl ?_) | ((with_reducible refine at_opB (.load 3 (.tmp 24)) rfl ?_); refine wpList_loadF (B.row 0 rfl) _ rfl (by kernel_rfl) 3 rfl (m.2.2.2.1) rfl ?_) | ((with_reducible refine at_opB (.load 3 (.tmp 30)) rfl ?_); refine wpList_loadF (B.row 0 rfl) _ rfl (by kernel_rfl) 0 rfl (m.1) rfl ?_) | ((with_reducible refine at_opB (.load 32 (.tmp 11)) rfl ?_); refine wpList_loadR 32 (.tmp 11) rfl (by kernel_rfl) b11 rfl (mc m) (B.row 0 rfl) _ Try.underlying32 rfl (mc_info _) ?_) | ((with_reducible refine at_opB (.store 32 (.tmp 8) (.tmp 35)) rfl ?_); refine wpList_storeR 32 rfl (.tmp 8) _ rfl b8 rfl (mc m) rfl _ (B.row 1 rfl) rfl (mc_info _) (mc_one _) ?_; intro w9 R9 t9; replace B := B.turn 1 rfl R9 t9; clear R9 t9))
            go_roundw
            case rel => first | exact ⟨j + 1, by omega, castB j, HF.out, B.one 1 rfl⟩ | exact ⟨j + 1, by omega, castBW hjw, HF.out, B.one 1 rfl⟩
            case measure => (first | rw [hjw] | skip); exact meas_next (HN.out.symm ▸ hlj)
        · have g1 : (m.2.2.2.2 == z) = false := by simpa using c1
          clear c1 hin hin'
          go_wp2_with (first | (refine wpList_indexM rfl (.tmp 13) (.tmp 15) rfl (.slice a0 n cap) ms hMW rfl j rfl hlj ?_) | ((with_reducible refine at_opB (.load 32 (.tmp 17)) rfl ?_); refine wpList_load_mid rfl 32 _ rfl _ _ rfl (mcl m) _ hrg Try.underlying32 rfl (mcl_info m) ?_; rw [mcl_mc]) | ((with_reducible refine at_opB (.alloc 32) rfl ?_); refine wpList_allocX 11 32 rfl rfl rfl _ map_zero ?_; intro b11 w9 l9 R9 h9; replace B := B.alloc l9 R9 h9; clear R9 h9 l9) | ((with_reducible refine at_opB (.store 32 (.tmp 11) (.tmp 18)) rfl ?_); refine wpList_storeR 32 rfl (.tmp 11) _ rfl b11 rfl (mc m) rfl _ (B.row 0 rfl) rfl (mc_info _) (mc_one _) ?_; intro w9 R9 t9; replace B := B.turn 0 rfl R9 t9; clear R9 t9) | ((with_reducible refine at_opB (.load 3 (.tmp 19)) rfl ?_); refine wpList_loadF (B.row 0 rfl) _ rfl (by kernel_rfl) 4 rfl (m.2.2.2.2) rfl ?_) | ((with_reducible refine at_opB (.load 3 (.tmp 24)) rfl ?_); refine wpList_loadF (B.row 0 rfl) _ rfl (by kernel_rfl) 3 rfl (m.2.2.2.1) rfl ?_) | ((with_reducible refine at_opB (.load 3 (.tmp 30)) rfl ?_); refine wpList_loadF (B.row 0 rfl) _ rfl (by kernel_rfl) 0 rfl (m.1) rfl ?_) | ((with_reducible refine at_opB (.load 32 (.tmp 11)) rfl ?_); refine wpList_loadR 32 (.tmp 11) rfl (by kernel_rfl) b11 rfl (mc m) (B.row 0 rfl) _ Try.underlying32 rfl (mc_info _) ?_) | ((with_reducible refine at_opB (.store 32 (.tmp 8) (.tmp 35)) rfl ?_); refine wpList_storeR 32 rfl (.tmp 8) _ rfl b8 rfl (mc m) rfl _ (B.row 1 rfl) rfl (mc_info _) (mc_one _) ?_; intro w9 R9 t9; replace B := B.turn 1 rfl R9 t9; clear R9 t9))
          go_roundw
          case rel => first | exact ⟨j + 1, by omega, castB j, HF.out, B.one 1 rfl⟩ | exact ⟨j + 1, by omega, castBW hjw, HF.out, B.one 1 rfl⟩
          case measure => (first | rw [hjw] | skip); exact meas_next (HN.out.symm ▸ hlj)
    · have e : j = ms.length := by omega
      have HF : Hid (ms.find? (outS x y z) = none) := by
        show _ = _
        rw [e, List.take_length] at hno; exact hno
      have hjn : ¬ (j : Int) < (n : Int) := by have := HN.out; omega
      clear e hno hj hlj
      go_wp2_with ((with_reducible refine at_opB (.store 32 (.tmp 8) (.tmp 37)) rfl ?_); refine wpList_storeR 32 rfl (.tmp 8) _ rfl b8 rfl (mc noM) rfl _ (B.row 0 rfl) rfl (mc_info _) (mc_one _) ?_; intro w9 R9 t9; replace B := B.turn 0 rfl R9 t9; clear R9 t9)
      ((try simp only [Exit.inBlock, Exit.then]); refine bodyPost_ret (results_row2 rfl _ _ _ _ rfl (B.row 0 rfl) _ Try.underlying32 rfl (mc_info _)) rfl ⟨?_, B.base⟩)
      rw [HF.out]; rfl
end Go.Proofs.Ytmdijjbkjcnbpaa

namespace Go.Proofs.Ytmdijjbkjcnbpaa
open Go.ChangeShapes Go.WideShapes Go.ChangeAt Go.RowKit Go.Maps
set_option linter.unusedSimpArgs false
set_option linter.unusedVariables false

theorem maps_heap {w w' : World} {v : Value} {ms : List Mp} (h : MapsAt w v ms) (he : 0 < ms.length → w'.heap[mb v]? = w.heap[mb v]?) : MapsAt w' v ms := by
  obtain ⟨a, c, e1, e2, e3, e4⟩ := h
  refine ⟨a, c, e1, e2, fun j hj i u hu => ?_, e4⟩
  rw [World.cell?_of_block (he (by omega))]
  exact e3 j hj i u hu
theorem maps_cells {w : World} {v : Value} {ms : List Mp} (h : MapsAt w v ms) (hl : 0 < ms.length) : ∀ es c, w.heap[mb v]? ≠ some (.map es c) := by
  intro es c he
  obtain ⟨a, k, e1, e2, e3, e4⟩ := h
  have := e3 0 hl 0 _ rfl
  unfold World.cell? at this
  simp only [he] at this
  simp at this
/-- a map of Go: where it lies, and what is said of it. -/
abbrev Ent := Nat × (World → Prop)
structure Gm (w W : World) (L : List (Nat × TypeId × Array Value)) (Ms : List (Value × List Mp)) (Q : List Ent) : Prop where
  bd : Bd w W L Ms
  nd : (Q.map (·.1)).Nodup
  ok : ∀ e ∈ Q, e.2 W ∧ w.heap.size ≤ e.1 ∧ (∃ es c, W.heap[e.1]? = some (.map es c)) ∧ ∀ W W' : World, W'.heap[e.1]? = W.heap[e.1]? → e.2 W → e.2 W'
def entB {α : Type} (kt : TypeId) (κ : α → Value) (ok : α → Prop) (b n : Nat) (S : α → Bool) : Ent := (b, fun W => MeB W kt κ ok b n S)
def entI {α : Type} (kt : TypeId) (κ : α → Value) (ok : α → Prop) (b n : Nat) (S : α → Int) : Ent := (b, fun W => MeI W kt κ ok b n S)
theorem Bd.grown {w W W' : World} {L : List (Nat × TypeId × Array Value)} {Ms : List (Value × List Mp)} (h : Bd w W L Ms) {b : Nat} (hg : W.grownBy W' (some b)) (ho : ∃ es c, W.heap[b]? = some (.map es c)) (hb : w.heap.size ≤ b) : Bd w W' L Ms := by
  obtain ⟨es, c, ho⟩ := ho
  refine ⟨h.nodup, fun y hy => ⟨?_, (h.rows y hy).2⟩, fun q hq => ⟨maps_heap (h.maps q hq).1 (fun hl => ?_), (h.maps q hq).2⟩, ?_⟩
  · have R := (h.rows y hy).1
    have hne : y.1 ≠ b := fun e => by unfold Row at R; rw [e, ho] at R; cases R
    exact (hg.block _ R.lt (fun e => hne (by cases e; rfl))).trans R
  · exact hg.block _ ((h.maps q hq).1.lt hl) (fun e => maps_cells (h.maps q hq).1 hl es c (by cases e; exact ho))
  · exact h.base.trans ⟨hg.os, hg.tape, hg.output, hg.size, fun k hk => hg.block k (by have := h.base.size; omega) (fun e => by cases e; omega)⟩
section
variable {w W W' : World} {L : List (Nat × TypeId × Array Value)} {Ms : List (Value × List Mp)} {Q : List Ent}
theorem Gm.ent (h : Gm w W L Ms Q) (i : Nat) {e : Ent} (hi : Q[i]? = some e) : e.2 W := (h.ok _ (List.mem_of_getElem? hi)).1
theorem Gm.start (h : Bd w W L Ms) : Gm w W L Ms [] := ⟨h, by simp, by simp⟩
theorem ent_below {e : Ent} (h : e.2 W ∧ w.heap.size ≤ e.1 ∧ (∃ es c, W.heap[e.1]? = some (.map es c)) ∧ ∀ W W' : World, W'.heap[e.1]? = W.heap[e.1]? → e.2 W → e.2 W') (he : W'.heap[e.1]? = W.heap[e.1]?) : e.2 W' ∧ w.heap.size ≤ e.1 ∧ (∃ es c, W'.heap[e.1]? = some (.map es c)) ∧ ∀ W W' : World, W'.heap[e.1]? = W.heap[e.1]? → e.2 W → e.2 W' :=
  ⟨h.2.2.2 W W' he h.1, h.2.1, by rw [he]; exact h.2.2.1, h.2.2.2⟩
theorem Gm.lt (h : Gm w W L Ms Q) {e : Ent} (he : e ∈ Q) : e.1 < W.heap.size := by
  obtain ⟨_, _, ⟨es, c, ho⟩, _⟩ := h.ok e he
  exact (Array.getElem?_eq_some_iff.1 ho).1
theorem Gm.below (h : Gm w W L Ms Q) (hb : Below W.heap.size W W') : Gm w W' L Ms Q :=
  ⟨h.bd.below hb, h.nd, fun e he => ent_below (h.ok e he) (hb.block _ (h.lt he))⟩
theorem Gm.drew (h : Gm w W L Ms Q) : Gm w W.drew L Ms Q := h.below (Below.refl _ _).drew
theorem Gm.alloc (h : Gm w W L Ms Q) {b : Nat} {t : TypeId} {cs : Array Value} (hl : W.heap.size ≤ b) (R : Row t W' b cs) (hb : Below W.heap.size W W') : Gm w W' ((b, t, cs) :: L) Ms Q :=
  ⟨h.bd.alloc hl R hb, h.nd, fun e he => ent_below (h.ok e he) (hb.block _ (h.lt he))⟩
theorem Gm.turn (h : Gm w W L Ms Q) (i : Nat) {b : Nat} {t : TypeId} {cs cs' : Array Value} (hi : L[i]? = some (b, t, cs)) (R : Row t W' b cs') (T : Turned b W W') : Gm w W' (L.set i (b, t, cs')) Ms Q := by
  refine ⟨h.bd.turn i hi R T, h.nd, fun e he => ent_below (h.ok e he) (T.other _ (fun e1 => ?_))⟩
  obtain ⟨_, _, ⟨es, c, ho⟩, _⟩ := h.ok e he
  have R0 := h.bd.row i hi
  unfold Row at R0
  rw [← e1, ho] at R0
  cases R0
theorem Gm.add (h : Gm w W L Ms Q) {e : Ent} (hb : Below W.heap.size W W') (hl : W.heap.size ≤ e.1) (he : e.2 W') (ho : ∃ es c, W'.heap[e.1]? = some (.map es c)) (hd : ∀ W W' : World, W'.heap[e.1]? = W.heap[e.1]? → e.2 W → e.2 W') : Gm w W' L Ms (e :: Q) := by
  have h' := h.below hb
  refine ⟨h'.bd, ?_, fun x hx => ?_⟩
  · rw [List.map_cons, List.nodup_cons]
    refine ⟨fun hm => ?_, h.nd⟩
    obtain ⟨y, hy, e1⟩ := List.mem_map.1 hm
    have := h.lt hy
    omega
  · rcases List.mem_cons.1 hx with rfl | hx
    · exact ⟨he, Nat.le_trans h.bd.base.size hl, ho, hd⟩
    · exact h'.ok x hx
theorem Gm.upd (h : Gm w W L Ms Q) (i : Nat) {e e' : Ent} (hi : Q[i]? = some e) (hb : e'.1 = e.1) (hg : W.grownBy W' (some e.1)) (he : e'.2 W') (ho : ∃ es c, W'.heap[e.1]? = some (.map es c)) (hd : ∀ W W' : World, W'.heap[e.1]? = W.heap[e.1]? → e'.2 W → e'.2 W') : Gm w W' L Ms (Q.set i e') := by
  have hlt : i < Q.length := (List.getElem?_eq_some_iff.1 hi).1
  have hQi : Q[i] = e := (List.getElem?_eq_some_iff.1 hi).2
  have ho0 := h.ok e (List.mem_of_getElem? hi)
  have hm : (Q.set i e').map (·.1) = Q.map (·.1) := by
    apply List.ext_getElem?
    intro j
    rw [List.getElem?_map, List.getElem?_set, List.getElem?_map]
    by_cases hj : i = j
    · subst hj; simp [hlt, hQi, hb]
    · simp [hj]
  refine ⟨h.bd.grown hg ho0.2.2.1 ho0.2.1, by rw [hm]; exact h.nd, fun x hx => ?_⟩
  obtain ⟨j, hj⟩ := List.mem_iff_getElem?.1 hx
  rw [List.getElem?_set] at hj
  by_cases hij : i = j
  · subst hij
    rw [if_pos rfl, if_pos hlt] at hj
    obtain rfl := Option.some.inj hj
    exact ⟨he, by rw [hb]; exact ho0.2.1, by rw [hb]; exact ho, by rw [hb]; exact hd⟩
  · rw [if_neg hij] at hj
    have hx' := List.mem_of_getElem? hj
    refine ent_below (h.ok x hx') (hg.block _ (h.lt hx') (fun e1 => hij ?_))
    have e1' : x.1 = e.1 := Option.some.inj e1
    have q1 : (Q.map (·.1))[i]? = some e.1 := by rw [List.getElem?_map, hi]; rfl
    have q2 : (Q.map (·.1))[j]? = some e.1 := by rw [List.getElem?_map, hj]; simp [e1']
    exact (List.getElem?_inj (by simpa using hlt) h.nd).1 (by rw [q1, q2])
theorem Gm.rows (h : Gm w W L Ms Q) {L' : List (Nat × TypeId × Array Value)} {Ms' : List (Value × List Mp)} (hb : Bd w W L' Ms') : Gm w W L' Ms' Q := ⟨hb, h.nd, h.ok⟩
end
section
variable {α : Type} [DecidableEq α] {w W : World} {L : List (Nat × TypeId × Array Value)} {Ms : List (Value × List Mp)} {Q : List Ent} {kt : TypeId} {κ : α → Value} {ok : α → Prop} {b n : Nat}
omit [DecidableEq α] in
theorem Gm.newB (h : Gm w W L Ms Q) (kt : TypeId) (κ : α → Value) (ok : α → Prop) : Gm w (W.alloc (.map #[] 0)) L Ms (entB kt κ ok W.heap.size 0 (fun _ => false) :: Q) :=
  h.add ((Below.refl _ _).alloc (Nat.le_refl _) _) (Nat.le_refl _) (meB_new W kt κ ok) (meB_new W kt κ ok).obj (fun _ _ he hh => MeB.keep hh he)
omit [DecidableEq α] in
theorem Gm.newI (h : Gm w W L Ms Q) (kt : TypeId) (κ : α → Value) (ok : α → Prop) : Gm w (W.alloc (.map #[] 0)) L Ms (entI kt κ ok W.heap.size 0 (fun _ => 0) :: Q) :=
  h.add ((Below.refl _ _).alloc (Nat.le_refl _) _) (Nat.le_refl _) (meI_new W kt κ ok) (meI_new W kt κ ok).obj (fun _ _ he hh => MeI.keep hh he)
theorem Gm.putB (h : Gm w W L Ms Q) (i : Nat) {S : α → Bool} (hi : Q[i]? = some (entB kt κ ok b n S)) (K : Ky kt κ ok) {t : TypeId} (ht : Try.prog.underlying t = some (.map kt 4)) (hn : n < maxLen) (a : α) (ha : ok a) (y : Bool) : ∃ w', (Instr.mapUpdate t (.map (some b)) (κ a) (.bool y)).run Try.prog W = .ok () w' ∧ Gm w w' L Ms (Q.set i (entB kt κ ok b (n + 1) (updX S a y))) := by
  obtain ⟨w', h1, h2, h3⟩ := MeB.put (h.ent i hi) K ht hn a ha y
  exact ⟨w', h1, h.upd (e' := entB kt κ ok b (n + 1) (updX S a y)) i hi rfl h3 h2 h2.obj (fun _ _ he hh => MeB.keep hh he)⟩
theorem Gm.putI (h : Gm w W L Ms Q) (i : Nat) {S : α → Int} (hi : Q[i]? = some (entI kt κ ok b n S)) (K : Ky kt κ ok) {t : TypeId} (ht : Try.prog.underlying t = some (.map kt 3)) (hn : n < maxLen) (a : α) (ha : ok a) (y : Int) (hy : (Lit.int .i64 y).wf = true) : ∃ w', (Instr.mapUpdate t (.map (some b)) (κ a) (.int .i64 y)).run Try.prog W = .ok () w' ∧ Gm w w' L Ms (Q.set i (entI kt κ ok b (n + 1) (updX S a y))) := by
  obtain ⟨w', h1, h2, h3⟩ := MeI.put (h.ent i hi) K ht hn a ha y hy
  exact ⟨w', h1, h.upd (e' := entI kt κ ok b (n + 1) (updX S a y)) i hi rfl h3 h2 h2.obj (fun _ _ he hh => MeI.keep hh he)⟩
theorem Gm.entry (h : Gm w W L Ms Q) (i : Nat) {S : α → Int} (hi : Q[i]? = some (entI kt κ ok b n S)) (K : Ky kt κ ok) (KL : WideMaps.KeyLaw Try.prog kt) {t : TypeId} (ht : Try.prog.underlying t = some (.map kt 3)) (hn : n < maxLen) (a : α) (ha : ok a) :
    ∃ v0 st w1, (Instr.mapEntry t (.map (some b)) (κ a)).run Try.prog W = .ok (.tuple #[v0, goInt st]) w1 ∧ Gm w w1 L Ms (Q.set i (entI kt κ ok b (n + 1) S)) ∧
      ∀ (w2 : World) (y : Int), (Lit.int .i64 y).wf = true → w2.heap = w1.heap → Gm w w2 L Ms (Q.set i (entI kt κ ok b (n + 1) S)) → ∃ w3, (Instr.entryStore t (.map (some b)) (goInt st) (.int .i64 y)).run Try.prog w2 = .ok () w3 ∧ Gm w w3 L Ms (Q.set i (entI kt κ ok b (n + 1) (updX S a y))) := by
  obtain ⟨v0, st, w1, h1, h2, h3, h4⟩ := MeI.entry (h.ent i hi) K KL ht hn a ha
  refine ⟨v0, st, w1, h1, h.upd (e' := entI kt κ ok b (n + 1) S) i hi rfl h3 h2 h2.obj (fun _ _ he hh => MeI.keep hh he), fun w2 y hy hw2 hG => ?_⟩
  obtain ⟨w3, q1, q2, q3⟩ := h4 w2 y hy (by rw [hw2])
  refine ⟨w3, q1, ?_⟩
  have hlt : i < Q.length := (List.getElem?_eq_some_iff.1 hi).1
  have := hG.upd (e' := entI kt κ ok b (n + 1) (updX S a y)) i (e := entI kt κ ok b (n + 1) S) (by rw [List.getElem?_set]; simp [hlt]) rfl q3 q2 q2.obj (fun _ _ he hh => MeI.keep hh he)
  rw [List.set_set] at this
  exact this
end
end Go.Proofs.Ytmdijjbkjcnbpaa

namespace Go.Proofs.Ytmdijjbkjcnbpaa
open Go.ChangeShapes Go.WideShapes Go.ChangeAt Go.RowKit Go.Maps
set_option linter.unusedSimpArgs false
set_option linter.unusedVariables false

theorem wpList_mk {ops : Array Oper} {rest : List Oper} {o : Oper} {a : Act} {w : World} {Q : Exit → Act → World → Prop} (t : TypeId) (hgd : o.guard = none) (ho : o.op = .makeMap t none)
    (hr : ∀ b, b = w.heap.size → wpList Try.prog ops Q rest (a.put o.dst (.map (some b))) (w.alloc (.map #[] 0))) : wpList Try.prog ops Q (o :: rest) a w :=
  wpList_plain hgd fun K hK => by
    have hm := @run_makeMap Try.prog t w
    unfold Oper.wp execOp
    simp only [ho, Option.map_none, Sem.run_bind, hm, Result.andThen_ok, Sem.run_pure]
    exact hK _ _ (hr _ rfl)
theorem yields_lk {ops : Array Oper} {S : World → Prop} {o : Oper} {a : Act} (t : TypeId) (m x : Operand) (ho : o.op = .lookup t m x false) (hw : Region.wanted o (yielded ops a.tmps) = true) (mv kv v : Value) (hm : a.eval m = mv) (hx : a.eval x = kv) (hS : ∀ w, S w → (Instr.lookup t mv kv false).run Try.prog w = .ok v w) : YieldsIf Try.prog ops S o v a :=
  .inl ⟨hw, fun w h => by unfold execOp; simp only [ho, hm, hx, Sem.run_bind, hS w h, Result.andThen_ok, Sem.run_pure]⟩
theorem yields_ixG {ops : Array Oper} {S : World → Prop} {o : Oper} {a : Act} (t : TypeId) (x y : Operand) (ho : o.op = .indexAddr t x y) (hw : Region.wanted o (yielded ops a.tmps) = true) (p i q : Value) (hx : a.eval x = p) (hy : a.eval y = i) (hrun : ∀ w : World, (Instr.indexAt t p i).run Try.prog w = .ok q w) : YieldsIf Try.prog ops S o q a :=
  .inl ⟨hw, fun w _ => by unfold execOp; simp only [ho, hx, hy, Sem.run_bind, hrun w, Result.andThen_ok, Sem.run_pure]⟩
theorem yields_dec {ops : Array Oper} {S : World → Prop} {o : Oper} {a : Act} (x : Operand) (ho : o.op = .binOp .sub 3 x (.const (.int .i64 1)) 3) (hw : Region.wanted o (yielded ops a.tmps) = true) (n d : Int) (hx : a.eval x = .int .i64 n) (hd : IntKind.i64.wrap (n - 1) = d) : YieldsIf Try.prog ops S o (.int .i64 d) a :=
  .inl ⟨hw, fun w _ => by unfold execOp; simp only [ho, hx]; simp [go_sem, Act.eval]; exact hd⟩
theorem yields_incG {ops : Array Oper} {S : World → Prop} {o : Oper} {a : Act} (x : Operand) (ho : o.op = .binOp .add 3 x (.const (.int .i64 1)) 3) (hw : Region.wanted o (yielded ops a.tmps) = true) (n d : Int) (hx : a.eval x = .int .i64 n) (hd : IntKind.i64.wrap (n + 1) = d) : YieldsIf Try.prog ops S o (.int .i64 d) a :=
  .inl ⟨hw, fun w _ => by unfold execOp; simp only [ho, hx]; simp [go_sem, Act.eval]; exact hd⟩
theorem ix8 (b o l : Nat) (h : l < 8) (w : World) : (Instr.indexAt 27 (.pointer (some ⟨b, o, none⟩)) (.int .i64 (l : Int))).run Try.prog w = .ok (.pointer (some ⟨b, o + l, none⟩)) w := by
  have hs : (sizeOf 3).run Try.prog w = .ok 1 w := by kernel_rfl
  have h1 : (l : Int) < 8 := by omega
  simp [go_sem, Try.underlying27, h1, h, hs]
theorem ix3 (b o l : Nat) (h : l < 3) (w : World) : (Instr.indexAt 23 (.pointer (some ⟨b, o, none⟩)) (.int .i64 (l : Int))).run Try.prog w = .ok (.pointer (some ⟨b, o + 6 * l, none⟩)) w := by
  have hs : (sizeOf 22).run Try.prog w = .ok 6 w := by kernel_rfl
  have h1 : (l : Int) < 3 := by omega
  simp [go_sem, Try.underlying23, h1, h, hs]
theorem ix6 (b o l : Nat) (h : l < 6) (w : World) : (Instr.indexAt 22 (.pointer (some ⟨b, o, none⟩)) (.int .i64 (l : Int))).run Try.prog w = .ok (.pointer (some ⟨b, o + l, none⟩)) w := by
  have hs : (sizeOf 3).run Try.prog w = .ok 1 w := by kernel_rfl
  have h1 : (l : Int) < 6 := by omega
  simp [go_sem, Try.underlying22, h1, h, hs]
def pl3 (m : Mp) : Array Value := #[.int .i64 m.1, .int .i64 m.2.2.2.1, .int .i64 m.2.2.2.2]
def pr3a (m : Mp) : Array Value := #[.int .i64 m.1, .int .i64 m.2.1, .int .i64 m.2.2.1]
def no3 : Array Value := #[.int .i64 0, .int .i64 0, .int .i64 0]
theorem pl3_info (m : Mp) : (Try.prog.info? 76).map (·.size) = some (pl3 m).size := by kernel_rfl
theorem pr3a_info (m : Mp) : (Try.prog.info? 78).map (·.size) = some (pr3a m).size := by kernel_rfl
theorem pl3_one (m : Mp) : (pl3 m).all (·.oneCell') = true := by kernel_rfl
theorem pr3a_one (m : Mp) : (pr3a m).all (·.oneCell') = true := by kernel_rfl
theorem pl_zero (w : World) : (zeroValue 76).run Try.prog w = .ok (.agg no3) w := by kernel_rfl
theorem pr_zero (w : World) : (zeroValue 78).run Try.prog w = .ok (.agg no3) w := by kernel_rfl
theorem run_bpl (x y z : Int) (w : World) : (Instr.build 76 #[(0, .int .i64 x), (1, .int .i64 y), (2, .int .i64 z)]).run Try.prog w = .ok (.agg #[.int .i64 x, .int .i64 y, .int .i64 z]) w := by kernel_rfl
theorem run_bpr (x y z : Int) (w : World) : (Instr.build 78 #[(0, .int .i64 x), (1, .int .i64 y), (2, .int .i64 z)]).run Try.prog w = .ok (.agg #[.int .i64 x, .int .i64 y, .int .i64 z]) w := by kernel_rfl
theorem run_btw (x y : Int) (w : World) : (Instr.build 79 #[(0, .int .i64 x), (1, .int .i64 y)]).run Try.prog w = .ok (.agg #[.int .i64 x, .int .i64 y]) w := by kernel_rfl
theorem yields_bpl {ops : Array Oper} {S : World → Prop} {o : Oper} {a : Act} (p q r : Operand) (ho : o.op = .build 76 #[(0, p), (1, q), (2, r)]) (hw : Region.wanted o (yielded ops a.tmps) = true) (x y z : Int) (hx : a.eval p = .int .i64 x) (hy : a.eval q = .int .i64 y) (hz : a.eval r = .int .i64 z) : YieldsIf Try.prog ops S o (.agg #[.int .i64 x, .int .i64 y, .int .i64 z]) a :=
  .inl ⟨hw, fun w _ => by unfold execOp; simp only [ho, List.map_toArray, List.map_cons, List.map_nil, hx, hy, hz, Sem.run_bind, run_bpl, Result.andThen_ok, Sem.run_pure]⟩
theorem yields_bpr {ops : Array Oper} {S : World → Prop} {o : Oper} {a : Act} (p q r : Operand) (ho : o.op = .build 78 #[(0, p), (1, q), (2, r)]) (hw : Region.wanted o (yielded ops a.tmps) = true) (x y z : Int) (hx : a.eval p = .int .i64 x) (hy : a.eval q = .int .i64 y) (hz : a.eval r = .int .i64 z) : YieldsIf Try.prog ops S o (.agg #[.int .i64 x, .int .i64 y, .int .i64 z]) a :=
  .inl ⟨hw, fun w _ => by unfold execOp; simp only [ho, List.map_toArray, List.map_cons, List.map_nil, hx, hy, hz, Sem.run_bind, run_bpr, Result.andThen_ok, Sem.run_pure]⟩
theorem yields_btw {ops : Array Oper} {S : World → Prop} {o : Oper} {a : Act} (p q : Operand) (ho : o.op = .build 79 #[(0, p), (1, q)]) (hw : Region.wanted o (yielded ops a.tmps) = true) (x y : Int) (hx : a.eval p = .int .i64 x) (hy : a.eval q = .int .i64 y) : YieldsIf Try.prog ops S o (.agg #[.int .i64 x, .int .i64 y]) a :=
  .inl ⟨hw, fun w _ => by unfold execOp; simp only [ho, List.map_toArray, List.map_cons, List.map_nil, hx, hy, Sem.run_bind, run_btw, Result.andThen_ok, Sem.run_pure]⟩
theorem wp_allocG {o : Oper} {a : Act} {w : World} {K : Act → World → Prop} {Q : Exit → Act → World → Prop} (t : TypeId) (ho : o.op = .alloc t) (cs : Array Value) (hz : ∀ w : World, (zeroValue t).run Try.prog w = .ok (.agg cs) w)
    (hr : ∀ b w', w.heap.size ≤ b → Row t w' b cs → Below w.heap.size w w' → K (a.put o.dst (.pointer (some ⟨b, 0, none⟩))) w') : o.wp Try.prog a w K Q := by
  have h' := hr w.heap.size (w.alloc (.cells cs t)) (Nat.le_refl _) (Row.new t w cs) ((Below.refl _ _).alloc (Nat.le_refl _) _)
  unfold Oper.wp execOp
  simp [ho, Instr.alloc, newVar, hz w, Result.andThen, Value.cells]
  simp [go_sem]
  exact h'
theorem below_undrG {w w' : World} (h : Below w.drew.heap.size w.drew w') : Below w.heap.size w w' := ⟨h.os, h.tape, h.output, h.size, h.block⟩
theorem turned_undrG {b : Nat} {w w' : World} (h : Turned b w.drew w') : Turned b w w' := ⟨h.size, h.other, fun B w0 hB hb => h.below B w0 hB (below_drewB hb)⟩
theorem Gm.swap {w W : World} {x y : Nat × TypeId × Array Value} {L : List (Nat × TypeId × Array Value)} {Ms : List (Value × List Mp)} {Q : List Ent} (h : Gm w W (x :: y :: L) Ms Q) : Gm w W (y :: x :: L) Ms Q := by
  refine ⟨⟨?_, fun z hz => h.bd.rows z ?_, fun q hq => ⟨(h.bd.maps q hq).1, fun b hb => (h.bd.maps q hq).2 b ?_⟩, h.bd.base⟩, h.nd, h.ok⟩
  · have := h.bd.nodup
    simp only [List.map_cons, List.nodup_cons, List.mem_cons, not_or] at this ⊢
    exact ⟨⟨fun e => this.1.1 e.symm, this.2.1⟩, this.1.2, this.2.2⟩
  · simp only [List.mem_cons] at hz ⊢
    rcases hz with h | h | h
    · exact .inr (.inl h)
    · exact .inl h
    · exact .inr (.inr h)
  · simp only [List.map_cons, List.mem_cons] at hb ⊢
    rcases hb with h | h | h
    · exact .inr (.inl h)
    · exact .inl h
    · exact .inr (.inr h)
/-- the numbers of a map are such. -/
def OkM (m : Mp) : Prop := (1024 ≤ m.2.2.2.2 ∧ m.2.2.2.2 < 1072) ∧ isP m.1 = true ∧ (0 ≤ m.2.1 ∧ m.2.1 < 8) ∧ (0 ≤ m.2.2.1 ∧ m.2.2.1 ≤ 65535) ∧ (0 ≤ m.2.2.2.1 ∧ m.2.2.2.1 < 3)
theorem stands_ok {f h : Nat → Int} {m : Mp} (s : Stands f h m) : OkM m := ⟨s.2.2.2.1, s.1, s.2.1, s.2.2.1, s.2.2.2.2.1⟩
theorem notGood {f h : Nat → Int} {ms : List Mp} {j : Nat} (hj : j < ms.length) (hn : ¬ (Stands f h ms[j] ∧ meetsB (ms.take j) ms[j] = false)) : (false = true ↔ GoodT f h ms) := by
  refine ⟨fun e => (by cases e), fun G => (hn ?_).elim⟩
  have := msOk_take G.maps (j + 1)
  rw [List.take_succ_eq_append_getElem hj, msOk_snoc] at this
  exact this.2
/-- the body of the first loop. -/
def loopOfG : Code → Option Code
  | .loop c => some c
  | .seq a b => (loopOfG a).or (loopOfG b)
  | .block _ c => loopOfG c
  | .scope c => loopOfG c
  | .cond _ a b => (loopOfG a).or (loopOfG b)
  | _ => none
noncomputable def bodyG : Code := (Try.f15.body.bind loopOfG).getD .skip
set_option maxRecDepth 1000000 in
/-- between two maps. -/
def WG (w : World) (f : Nat → Int) (g : Nat → Bool) (h : Nat → Int) (ms : List Mp) (b1 b3 b4 b5 b6 : Nat) (a0 : Option Addr) (n cap : Nat) (a : Act) (W : World) : Prop :=
  ∃ u2 u7 u8 u9 u10 u11 u12 u13 u14 u15 u16 u17 u18 u19 u20 u21 u22 u23 u24 u25 u26 u27 u30 u31 u32 u33 u34 u35 u36 u37 u38 u39 u40 u41 u42 u43 u44 u45 u46 u47 u48 u49 u50 u51 u52 u53 u54 u55 u56 u57 u58 u59 u60 u61 u62 u63 u64 u65 u66 u67 u68 u69 u70 u71 u72 u73 u74 u75 u76 u77 u78 u79 u80 u81 u82 u83 u84 u85 u86 u87 u88 u89 u90 u91 u92 u93 u94 u95 u96 u97 u98 u99 u100 u101 u102 u103 u104 u105 u106 u107 u108 u109 u110 u111 u112 u113 u114 u115 u116 u117 u118 u119 u120 u121 u122 u123 u124 u125 u126 u127 u128 u129 u130 u131 u132 u133 u134 u135 u136 u137 u138 u139 u140 u141 u142 u143 u144 u145 u146 u147 u148 u149 u150 u151 u152 u153 u154 u155 u156 u157 u158 u159 u160 u161 u162 u163 u164 u165 u166 u167 u168 u169 u170 u171 u172 u173 u174 u175 u176 u177 u178 u179 u180 u181 u182 u183 u184 u185 u186 u187 u188 u189 u190 u191 u192 u193 u194 u195 u196 u197 u198 u199 u200 u201 u202 : Value, (∃ j : Nat, j ≤ ms.length ∧ u30 = .int .i64 (j : Int) ∧ Hid (MsOk f h (ms.take j)) ∧ ∃ n6 n5 n4 n3 : Nat, Hid (n6 ≤ 2 * j ∧ n5 ≤ 2 * j ∧ n4 ≤ 2 * j ∧ n3 ≤ 2 * j) ∧ Gm w W [(b1, 30, tc f g h (.slice a0 n cap))] [] [entI 3 k1v wf6 b6 n6 (nOf (ms.take j)), entI 79 k2 ok2 b5 n5 (nPl (ms.take j)), entB 78 k3 ok3 b4 n4 (sIn (ms.take j)), entB 76 k3 ok3 b3 n3 (sOut (ms.take j))]) ∧ a = ⟨#[(.agg (tc f g h (.slice a0 n cap))), .pointer (some ⟨b1, 0, none⟩), u2, .map (some b3), .map (some b4), .map (some b5), .map (some b6), u7, u8, u9, u10, u11, u12, u13, u14, u15, u16, u17, u18, u19, u20, u21, u22, u23, u24, u25, u26, u27, (.slice a0 n cap), .int .i64 (n : Int), u30, u31, u32, u33, u34, u35, u36, u37, u38, u39, u40, u41, u42, u43, u44, u45, u46, u47, u48, u49, u50, u51, u52, u53, u54, u55, u56, u57, u58, u59, u60, u61, u62, u63, u64, u65, u66, u67, u68, u69, u70, u71, u72, u73, u74, u75, u76, u77, u78, u79, u80, u81, u82, u83, u84, u85, u86, u87, u88, u89, u90, u91, u92, u93, u94, u95, u96, u97, u98, u99, u100, u101, u102, u103, u104, u105, u106, u107, u108, u109, u110, u111, u112, u113, u114, u115, u116, u117, u118, u119, u120, u121, u122, u123, u124, u125, u126, u127, u128, u129, u130, u131, u132, u133, u134, u135, u136, u137, u138, u139, u140, u141, u142, u143, u144, u145, u146, u147, u148, u149, u150, u151, u152, u153, u154, u155, u156, u157, u158, u159, u160, u161, u162, u163, u164, u165, u166, u167, u168, u169, u170, u171, u172, u173, u174, u175, u176, u177, u178, u179, u180, u181, u182, u183, u184, u185, u186, u187, u188, u189, u190, u191, u192, u193, u194, u195, u196, u197, u198, u199, u200, u201, u202], []⟩
def WGmu (n : Nat) (a : Act) (_ : World) : Nat := n - (intOf (a.tmps.getD 30 undef)).toNat
end Go.Proofs.Ytmdijjbkjcnbpaa
