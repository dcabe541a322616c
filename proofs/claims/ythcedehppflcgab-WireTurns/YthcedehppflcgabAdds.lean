/-
  The walks of a frame's adding functions: bytes, a text, words and longs behind what is there.
-/
import Derived.Test.YthcedehppflcgabMem
import Derived.Test.YthcedehppflcgabBytes
import Derived.OneCell
namespace Go.Proofs.Ythcedehppflcgab
open Go.ChangeShapes Go.WideShapes Go.ChangeAt Go.RowKit

theorem one_cell {w : World} {p : Nat} {v : Value} {t : TypeId} (h : w.heap[p]? = some (.cells #[v] t (0, 0))) : w.cell? ⟨p, 0, none⟩ = some v ∧ w.frozen? ⟨p, 0, none⟩ = false := by
  constructor
  · simp [World.cell?, h]
  · simp [World.frozen?, h]
theorem own_slice {w : World} {base : Nat} {e : TypeId} {size : Nat} {v : Value} {n : Nat} {xs : List Value} (h : w.ownsRow base e size v n xs) : ∃ ao m c, v = .slice ao m c := by
  rcases h.2 with ⟨rfl, _⟩ | ⟨g, cap, cur, rfl, _⟩
  · exact ⟨_, _, _, rfl⟩
  · exact ⟨_, _, _, rfl⟩
/-- what stands behind an append that is stored into the frame. -/
theorem fr_stored {w w1 : World} {p : Nat} {v v' : Value} {l news : List UInt8} (h1 : w.heap[p]? = some (.cells #[v] 51 (0, 0))) (h3 : w.ownsRow (p + 1) 5 1 v l.length (bc l))
    (hown : w1.ownsRow (p + 1) 5 1 v' (l.length + news.length) (bc l ++ bc news)) (hgrow : w.grownBy w1 v.ownBlock) (hat : v'.ownBlock = v.ownBlock ∨ v'.ownBlock = some w.heap.size) :
    (∃ G', Fr (w1.setCell ⟨p, 0, none⟩ v') p G' (l ++ news) ∧ Step p v.ownBlock G' w (w1.setCell ⟨p, 0, none⟩ v')) := by
  have hp : p < w.heap.size := (Array.getElem?_eq_some_iff.1 h1).1
  have hne : some p ≠ v.ownBlock := fun e => by have := h3.lt p e.symm; omega
  have hb1 : w1.heap[p]? = some (.cells #[v] 51 (0, 0)) := (hgrow.block p hp hne).trans h1
  refine ⟨v'.ownBlock, ⟨v', one_setCell hb1, rfl, ?_⟩, hgrow.os, hgrow.tape, hgrow.output, Nat.le_trans hgrow.size (by simp), ?_, ?_⟩
  · have := ownsRow_setCell_below hown (a := ⟨p, 0, none⟩) (by simp) v'
    rw [bc_app, List.length_append]; exact this
  · intro k hk hkp hkG
    rw [Below.heap_setCell _ _ _ _ (by simpa using hkp)]
    exact hgrow.block k hk hkG
  · rcases hat with e | e
    · exact .inl e
    · exact .inr ⟨_, e, Nat.le_refl _⟩

theorem addBytes_any (p : Nat) (G : Option Nat) (l : List UInt8) (w : World) (h : Fr w p G l) (g0 c : Nat) (news : List UInt8)
    (hc : ∀ j u, (bc news)[j]? = some u → w.cell? ⟨g0, j, none⟩ = some u) (hl : l.length + news.length ≤ 1000000) :
    Calls Try.prog 39 #[.pointer (some ⟨p, 0, none⟩), .slice (some ⟨g0, 0, none⟩) news.length c] w fun e w' => e = .returned (.tuple #[]) ∧ ∃ G', Fr w' p G' (l ++ news) ∧ Step p G G' w w' := by
  have hlt := h.lt
  obtain ⟨v, h1, rfl, h3⟩ := h
  obtain ⟨hcell, hfz⟩ := one_cell h1
  obtain ⟨i0, hi, hz0, hz1, hz2⟩ := info_parts info_u8
  have hsrc : Src Try.prog 1 38 (.slice (some ⟨g0, 0, none⟩) news.length c) news.length (bc news) w :=
    Src.ofSlice w Try.underlying38 ⟨g0, 0, none⟩ news.length c (bc news) (by simp [bc]) (fun j u hu => by rw [Addr.add_lit, Nat.zero_add]; exact hc j u hu) (bc_one _)
  go_enter Try.func39, Try.ntmps39
  go_wp2_with (at_builtin; refine wpList_append_src _ rfl (.tmp 8) (.tmp 9) 38 38 rfl (p + 1) 5 i0 (.int .u8 0) Try.underlying38 hi hz0 hz1 hz2 rfl v l.length (bc l) rfl h3 _ news.length (bc news) rfl hsrc (by omega) (by omega) ?_)
  intro v' w1 hown hgrow hat
  have hne : some p ≠ v.ownBlock := fun e => by have := h3.lt p e.symm; omega
  obtain ⟨hcell1, hfz1⟩ := one_cell ((hgrow.block p hlt hne).trans h1)
  obtain ⟨ao, vn, vc, rfl⟩ := own_slice hown
  go_wp2
  go_end0
  exact ⟨rfl, fr_stored h1 h3 hown hgrow hat⟩

theorem addText_any (p : Nat) (G : Option Nat) (l : List UInt8) (w : World) (h : Fr w p G l) (s : ByteArray) (hl : l.length + s.size ≤ 1000000) :
    Calls Try.prog 40 #[.pointer (some ⟨p, 0, none⟩), .string s] w fun e w' => e = .returned (.tuple #[]) ∧ ∃ G', Fr w' p G' (l ++ s.data.toList) ∧ Step p G G' w w' := by
  have hlt := h.lt
  obtain ⟨v, h1, rfl, h3⟩ := h
  obtain ⟨hcell, hfz⟩ := one_cell h1
  obtain ⟨i0, hi, hz0, hz1, hz2⟩ := info_parts info_u8
  have hsrc : Src Try.prog 1 9 (.string s) s.data.toList.length (bc s.data.toList) w := by
    have := Src.ofString (P := Try.prog) w Try.underlying9 s
    rw [bc_text] at this
    have e : s.data.toList.length = s.size := by simp
    rw [e]; exact this
  have hl' : l.length + s.data.toList.length ≤ 1000000 := by simpa using hl
  go_enter Try.func40, Try.ntmps40
  go_wp2_with (at_builtin; refine wpList_append_src _ rfl (.tmp 8) (.tmp 9) 38 9 rfl (p + 1) 5 i0 (.int .u8 0) Try.underlying38 hi hz0 hz1 hz2 rfl v l.length (bc l) rfl h3 _ s.data.toList.length (bc s.data.toList) rfl hsrc (by omega) (by omega) ?_)
  intro v' w1 hown hgrow hat
  have hne : some p ≠ v.ownBlock := fun e => by have := h3.lt p e.symm; omega
  obtain ⟨hcell1, hfz1⟩ := one_cell ((hgrow.block p hlt hne).trans h1)
  obtain ⟨ao, vn, vc, rfl⟩ := own_slice hown
  go_wp2
  go_end0
  exact ⟨rfl, fr_stored h1 h3 hown hgrow hat⟩

/-- two bytes in a new block. -/
theorem two_cells (w : World) (g : Nat) (hg : w.heap.size = g) (a b : UInt8) (x y : Int) (hx : x = (a.toNat : Int)) (hy : y = (b.toNat : Int)) : ∀ j u, (bc [a, b])[j]? = some u → (w.alloc (.cells #[.int .u8 x, .int .u8 y] 5)).cell? ⟨g, j, none⟩ = some u := by
  intro j u hu
  subst hx hy hg
  have e := World.cell?_alloc_mark w #[.int .u8 (a.toNat : Int), .int .u8 (b.toNat : Int)] 5 (0, 0) j
  refine e.trans ?_
  match j, hu with
  | 0, hu => simpa [bc] using hu
  | 1, hu => simpa [bc] using hu
  | n + 2, hu => simp [bc] at hu

theorem step_new {p : Nat} {G G' : Option Nat} {w w' : World} {o : Obj} (h : Step p G G' (w.alloc o) w') : Step p G G' w w' :=
  ((Step.refl p G w).alloc o).trans h

theorem addWord_any (p : Nat) (G : Option Nat) (l : List UInt8) (w : World) (h : Fr w p G l) (n : Int) (hl : l.length + 2 ≤ 1000000) :
    Calls Try.prog 61 #[.pointer (some ⟨p, 0, none⟩), .int .i64 n] w fun e w' => e = .returned (.tuple #[]) ∧ ∃ G', Fr w' p G' (l ++ w16 n) ∧ Step p G G' w w' := by
  have hx : IntKind.u8.wrap (n / 256) = ((b8 (n / 256)).toNat : Int) := by rw [wrap_u8, b8_nat]
  have hy : IntKind.u8.wrap n = ((b8 n).toNat : Int) := by rw [wrap_u8, b8_nat]
  have HC := two_cells w _ rfl (b8 (n / 256)) (b8 n) _ _ hx hy
  have HX : Hid (IntKind.u8.wrap (n / 256) = ((b8 (n / 256)).toNat : Int)) := hx
  clear hx hy
  go_enter Try.func61, Try.ntmps61
  go_wp2_with (go_at_call 39; refine (addBytes_any p G l _ (h.alloc _) w.heap.size 2 (w16 n) HC (by simp [w16]; omega)).mono ?_; rintro e w' ⟨rfl, G', hf, hst⟩)
  go_end0
  exact ⟨rfl, G', hf, step_new hst⟩

theorem addLong_any (p : Nat) (G : Option Nat) (l : List UInt8) (w : World) (h : Fr w p G l) (n : Int) (hl : l.length + 4 ≤ 1000000) :
    Calls Try.prog 62 #[.pointer (some ⟨p, 0, none⟩), .int .i64 n] w fun e w' => e = .returned (.tuple #[]) ∧ ∃ G', Fr w' p G' (l ++ l32 n) ∧ Step p G G' w w' := by
  have hS := Step.refl p G w
  go_enter Try.func62, Try.ntmps62
  go_wp2_with (go_at_call 61; refine (addWord_any p _ _ _ h _ (by (try simp) <;> omega)).mono ?_; rintro e w' ⟨rfl, G1, h, hst⟩; replace hS := hS.trans hst; clear hst)
  go_end0
  exact ⟨rfl, _, by rw [List.append_assoc] at h; exact h, hS⟩
end Go.Proofs.Ythcedehppflcgab
