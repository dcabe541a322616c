/-
  The walks upon a frame that stands: a word read, a word written, its text, its checks.
-/
import Derived.Test.YthcedehppflcgabHeads
import Derived.Deep.QuietTactic
import Derived.BigQuiet
namespace Go.Proofs.Ythcedehppflcgab
open Go.ChangeShapes Go.WideShapes Go.ChangeAt Go.RowKit

/-- a frame under the pointer p whose bytes l lie in block g: it may be read and written upon. -/
def Rd (w : World) (p g : Nat) (l : List UInt8) : Prop :=
  ∃ cap cur mk, w.heap[p]? = some (.cells #[.slice (some ⟨g, 0, none⟩) l.length cap] 51 (0, 0)) ∧ p ≠ g ∧ w.heap[g]? = some (.cells cur 5 mk) ∧ (mk = (0, 0) ∨ cur.size ≤ mk.1) ∧ l.length ≤ cap ∧ cap ≤ maxLen ∧ cur.toList.take l.length = bc l

theorem Fr.rd {w : World} {p : Nat} {G : Option Nat} {l : List UInt8} (h : Fr w p G l) (hl : l ≠ []) : ∃ g, G = some g ∧ p < g ∧ Rd w p g l := by
  obtain ⟨v, h1, h2, h3, h4⟩ := h
  rcases h4 with ⟨_, h0⟩ | ⟨g, cap, cur, rfl, hbg, hg, hnc, hcm, hcs, htake⟩
  · exact absurd (List.eq_nil_of_length_eq_zero h0) hl
  · exact ⟨g, by rw [← h2]; rfl, by omega, cap, cur, (0, 0), h1, by omega, hg, .inl rfl, hnc, hcm, by simpa using htake⟩
theorem Rd.lt {w : World} {p g : Nat} {l : List UInt8} (h : Rd w p g l) : p < w.heap.size ∧ g < w.heap.size ∧ p ≠ g := by
  obtain ⟨cap, cur, mk, h1, h2, h3, _⟩ := h
  exact ⟨(Array.getElem?_eq_some_iff.1 h1).1, (Array.getElem?_eq_some_iff.1 h3).1, h2⟩
theorem Rd.small {w : World} {p g : Nat} {l : List UInt8} (h : Rd w p g l) : l.length ≤ maxLen := by
  obtain ⟨cap, cur, mk, h1, h2, h3, h4, h5, h6, h7⟩ := h
  omega
theorem Rd.below {w w' : World} {p g : Nat} {l : List UInt8} (h : Rd w p g l) (hb : Below w.heap.size w w') : Rd w' p g l := by
  have hlt := h.lt
  obtain ⟨cap, cur, mk, h1, h2, h3, r⟩ := h
  exact ⟨cap, cur, mk, (hb.block p hlt.1).trans h1, h2, (hb.block g hlt.2.1).trans h3, r⟩
theorem Rd.alloc {w : World} {p g : Nat} {l : List UInt8} (h : Rd w p g l) (o : Obj) : Rd (w.alloc o) p g l :=
  h.below ((Below.refl _ _).alloc (Nat.le_refl _) _)
theorem Rd.at_ {w : World} {p g : Nat} {l : List UInt8} (h : Rd w p g l) (k : Nat) (hk : k < l.length) : w.cell? ⟨g, k, none⟩ = some (.int .u8 (byt l k)) ∧ w.frozen? ⟨g, k, none⟩ = false := by
  obtain ⟨cap, cur, mk, h1, h2, h3, h4, h5, h6, h7⟩ := h
  have hs : l.length ≤ cur.size := by
    have := congrArg List.length h7
    rw [bc_len, List.length_take] at this; simp at this; omega
  have e : cur[k]? = some (.int .u8 (byt l k)) := by
    unfold byt
    have := congrArg (fun x : List Value => x[k]?) h7
    simp only [List.getElem?_take, hk, if_true, bc_at] at this
    simp only [Array.getElem?_toList] at this
    rw [this]; simp [List.getD, hk]
  refine ⟨by simp [World.cell?, h3, e], ?_⟩
  rcases h4 with rfl | h4
  · simp [World.frozen?, h3]
  · obtain ⟨lo, hi⟩ := mk
    simp at h4
    simp [World.frozen?, h3]; omega
theorem Rd.facts {w : World} {p g : Nat} {l : List UInt8} (h : Rd w p g l) : ∃ cap, w.cell? ⟨p, 0, none⟩ = some (.slice (some ⟨g, 0, none⟩) l.length cap) ∧ w.frozen? ⟨p, 0, none⟩ = false ∧ l.length ≤ cap ∧ cap ≤ maxLen ∧
    ∀ m, m ≤ l.length → (convert 38 9 (.slice (some ⟨g, 0, none⟩) m cap)).run Try.prog w = .ok (.string (txt (l.take m))) w := by
  have hat := h.at_
  obtain ⟨cap, cur, mk, h1, h2, h3, h4, h5, h6, h7⟩ := h
  refine ⟨cap, (one_cell h1).1, (one_cell h1).2, h5, h6, fun m hm => ?_⟩
  have hl : (l.take m).length = m := by rw [List.length_take]; omega
  have := run_convert_bytes_back (P := Try.prog) w 38 9 5 ⟨g, 0, none⟩ cap (l.take m) Try.underlying38 Try.underlying5 Try.underlying9 (by
    intro j hj
    have hj' : j < m := by rw [hl] at hj; exact hj
    have e := (hat j (by omega)).1
    rw [Addr.add_lit, Nat.zero_add, e]
    unfold byt
    simp [List.getD, show j < l.length by omega])
  rw [hl] at this
  exact this
theorem setCell_row {w : World} {g k : Nat} {cur : Array Value} {t : TypeId} {mk : Nat × Nat} {v : Value} (h : w.heap[g]? = some (.cells cur t mk)) : (w.setCell ⟨g, k, none⟩ v).heap[g]? = some (.cells (cur.setIfInBounds k v) t mk) := by
  rw [setCell_eq_setRow w g k cur t mk v h]
  exact setRow_heap w g cur _ t _ h
theorem Rd.set {w : World} {p g : Nat} {l : List UInt8} (h : Rd w p g l) (k : Nat) (c : UInt8) (x : Int) (hx : x = (c.toNat : Int)) : Rd (w.setCell ⟨g, k, none⟩ (.int .u8 x)) p g (l.set k c) := by
  subst hx
  obtain ⟨cap, cur, mk, h1, h2, h3, h4, h5, h6, h7⟩ := h
  refine ⟨cap, _, mk, ?_, h2, setCell_row h3, ?_, by simpa using h5, h6, ?_⟩
  · rw [Below.heap_setCell _ _ _ _ (by simpa using h2), List.length_set]; exact h1
  · simpa using h4
  · rw [List.length_set, Array.toList_setIfInBounds, List.take_set, h7]
    simp [bc, List.map_set]
theorem step_set {w : World} {p g k : Nat} {v : Value} : Step p (some g) (some g) w (w.setCell ⟨g, k, none⟩ v) :=
  ⟨rfl, rfl, rfl, by simp [World.setCell], fun i _ _ hi => Below.heap_setCell _ _ _ _ (fun e => hi (by rw [e])), .inl rfl⟩

theorem setWord_any (p g : Nat) (l : List UInt8) (w : World) (h : Rd w p g l) (k : Nat) (n : Int) (hk : k + 1 < l.length) :
    Calls Try.prog 63 #[.pointer (some ⟨p, 0, none⟩), .int .i64 k, .int .i64 n] w fun e w' => e = .returned (.tuple #[]) ∧ Rd w' p g (setW l k n) ∧ Step p (some g) (some g) w w' := by
  have HX : Hid (IntKind.u8.wrap (n / 256) = ((b8 (n / 256)).toNat : Int)) := by show _ = _; rw [wrap_u8, b8_nat]
  have HY : Hid (IntKind.u8.wrap n = ((b8 n).toNat : Int)) := by show _ = _; rw [wrap_u8, b8_nat]
  have hne := h.lt.2.2
  have hne' : g ≠ p := fun e => hne e.symm
  obtain ⟨c1, f1⟩ := h.at_ k (by omega)
  obtain ⟨c2, f2⟩ := h.at_ (k + 1) (by omega)
  obtain ⟨cap, hp, _, hcap, hcm, _⟩ := h.facts
  unfold maxLen at hcm
  go_enter Try.func63, Try.ntmps63
  go_wp2
  go_end0
  exact ⟨rfl, (h.set k _ _ HX.out).set (k + 1) _ _ HY.out, step_set.trans step_set⟩

theorem text_any (p g : Nat) (l : List UInt8) (w : World) (h : Rd w p g l) :
    Calls Try.prog 35 #[.pointer (some ⟨p, 0, none⟩)] w fun e w' => e = .returned (.string (txt l)) ∧ w' = w := by
  obtain ⟨cap, hp, _, hcap, hcm, hcv⟩ := h.facts
  have hcv' := hcv l.length (Nat.le_refl _)
  rw [List.take_length] at hcv'
  clear hcv
  go_enter Try.func35, Try.ntmps35
  go_wp2
  go_ret
  exact ⟨rfl, rfl⟩

theorem step_drewN (p g n : Nat) (w : World) : Step p (some g) (some g) w (w.drewN n) := by
  refine ⟨?_, ?_, ?_, ?_, ?_, .inl rfl⟩ <;> first | rfl | simp
theorem Rd.drewN {w : World} {p g : Nat} {l : List UInt8} (h : Rd w p g l) (n : Nat) : Rd (w.drewN n) p g l := by
  unfold Rd at *
  simpa using h

theorem word_any (p g : Nat) (l : List UInt8) (w : World) (h : Rd w p g l) (k : Nat) (hk : k + 1 < l.length) :
    Calls Try.prog 58 #[.pointer (some ⟨p, 0, none⟩), .int .i64 k] w fun e w' => e = .returned (.int .i64 (wAt l k)) ∧ Rd w' p g l ∧ Step p (some g) (some g) w w' := by
  obtain ⟨c1, f1⟩ := h.at_ k (by omega)
  obtain ⟨c2, f2⟩ := h.at_ (k + 1) (by omega)
  obtain ⟨cap, hp, _, hcap, hcm, _⟩ := h.facts
  unfold maxLen at hcm
  obtain ⟨b1, b2⟩ := byt_bd l k
  obtain ⟨b3, b4⟩ := byt_bd l (k + 1)
  have J : Hid (bits .or .i64 (byt l k * 256) (byt l (k + 1)) = wAt l k) := join8 _ _ b1 b2 b3 b4
  have i1 : (k : Int) < (l.length : Int) := by omega
  have i2 : (k : Int) + 1 < (l.length : Int) := by omega
  go_enter Try.func58, Try.ntmps58
  go_wp2
  go_quiet (fail)
  go_wp2
  go_ret
  exact ⟨ret_int J.out, h.drewN nq, step_drewN p g nq w⟩
end Go.Proofs.Ythcedehppflcgab
