/-
  A timer is taken out of its list.
-/
import Derived.Test.YtphijplgnffoiaaWhD
namespace Go.Proofs.Ytphijplgnffoiaa
open Go.ChangeShapes Go.WideShapes Go.ChangeAt Go.RowKit Go.Maps
set_option linter.unusedSimpArgs false
set_option linter.unusedVariables false

theorem WM.theMap {w : World} {b o : Nat} {t : TypeId} {cs : Array Value} {now : Int} {bm : Nat} {D : DataW Unit} {vs : Nat → Value} {L : Nat → List Int} (h : WM w b t cs o now (some bm) D vs L) : ∃ n, n ≤ 1000000 ∧ MapI w bm n D := by
  rcases h.map with ⟨h1, _⟩ | ⟨bm', n, h1, h2, h3⟩
  · cases h1
  · cases h1; exact ⟨n, h2, h3⟩
theorem row_grown {w w2 : World} {b : Nat} {t : TypeId} {cs : Array Value} {r : Option Nat} (h : w.heap[b]? = some (.cells cs t (0, 0))) (hg : w.grownBy w2 r) (hr : r ≠ some b) : w2.heap[b]? = some (.cells cs t (0, 0)) :=
  (hg.block b (Array.getElem?_eq_some_iff.1 h).1 (fun e => hr e.symm)).trans h
theorem at_num {D : DataW Unit} {i c d : Int} (h1 : at' D i d) (h2 : D.atKey (.int .i64 i) (.lit (.int .i64 0)) = .lit (.int .i64 c)) : c = d := by
  unfold at' at h1
  rw [h1] at h2
  injection h2 with h3
  injection h3 with _ h4
  exact h4.symm
set_option maxRecDepth 10000 in
set_option maxHeartbeats 4000000 in
theorem takeOut_any {w : World} {b o : Nat} {t : TypeId} {cs : Array Value} {now : Nat} {bm : Nat} {D : DataW Unit} {vs : Nat → Value} {L : Nat → List Int} (h : WM w b t cs o (now : Int) (some bm) D vs L) (i : Int) (d : Nat) (hi : (Lit.int .i64 i).wf = true) (hd : at' D i (d : Int)) (hn : now ≤ 1099511627776) (hdd : d ≤ 1099511627776)
    (hmem : i ∈ L (pk now d)) (hlen : (L (pk now d)).length ≤ 1000000000) :
    Calls Try.prog 21 #[.pointer (some ⟨b, o, none⟩), .int .i64 i] w fun e w' => e = .returned (.tuple #[]) ∧ ∃ cs' vs', WM w' b t cs' o (now : Int) (some bm) D vs' (setL L (pk now d) ((L (pk now d)).eraseIdx ((L (pk now d)).idxOf i))) ∧ SameOut o cs cs' ∧ Gr (Fp b (some bm) vs) w w' ∧ ∀ c, Fp b (some bm) vs' c → Fp b (some bm) vs c ∨ w.heap.size ≤ c := by
  have hkey := keyOf_int_mk (P := Try.prog) (q := .i64) (a := i) Try.underlying3 hi
  have c0 : w.cell? ⟨b, o, none⟩ = some (.int .i64 (now : Int)) := (h.cell o).trans h.c0
  have c1 : w.cell? ⟨b, o + 1, none⟩ = some (.map (some bm)) := (h.cell _).trans h.c1
  have hl7 := lv_le d now hdd hn
  have ha64 := dg_lt d (lv d now)
  have hpk : pk now d = 64 * lv d now + dg d (lv d now) := rfl
  have CP := fun w h => place_any b o now d hn hdd w h
  generalize lv d now = l at *
  generalize dg d l = a at *
  rw [hpk] at hmem hlen ⊢
  have hk : 64 * l + a < 448 := by omega
  have hown := h.own _ hk
  have hI7 := fun w => idx7 b (o + 2) l (by omega) w
  have hI64 := fun w => idx64 b (o + 2 + 64 * l) a (by omega) w
  have ho : o + 2 + 64 * l + a = o + 2 + (64 * l + a) := by omega
  have cl : w.cell? ⟨b, o + 2 + 64 * l + a, none⟩ = some (vs (64 * l + a)) := by rw [ho]; exact (h.cell _).trans (h.cl _ hk)
  obtain ⟨n, hn', hm⟩ := h.theMap
  have CI := fun (w : World) (h : Own w (vs (64 * l + a)) (L (64 * l + a))) => index_any h i hmem hlen
  have hix := List.idxOf_lt_length_of_mem hmem
  have CD := fun (w : World) (h : Own w (vs (64 * l + a)) (L (64 * l + a))) => delete_any h _ hix hlen
  have hwi : wrap64 ((List.idxOf i (L (64 * l + a)) : Int) + 1) = (List.idxOf i (L (64 * l + a)) : Int) + 1 := by unfold wrap64; omega
  have hi0 : (0 : Int) ≤ (List.idxOf i (L (64 * l + a)) : Int) := by omega
  have hne : ∀ w2 (u : Value), w.grownBy w2 (vs (64 * l + a)).ownBlock → w2.cell? ⟨b, o + 2 + 64 * l + a, none⟩ = some (vs (64 * l + a)) ∧ w2.frozen? ⟨b, o + 2 + 64 * l + a, none⟩ = false := by
    intro w2 u hg
    have hr := row_grown h.row hg (h.notb _ hk)
    exact ⟨by simp only [World.cell?, hr]; rw [ho]; exact h.cl _ hk, by simp [World.frozen?, hr]⟩
  have hfin := fun (w2 : World) (v' : Value) (hg : w.grownBy w2 (vs (64 * l + a)).ownBlock) (hw2 : Own w2 v' ((L (64 * l + a)).eraseIdx ((L (64 * l + a)).idxOf i))) hnil hloc => h.turnL hk hg hw2 hnil hloc ho
  have hel : ((L (64 * l + a)).eraseIdx ((L (64 * l + a)).idxOf i)).length = (L (64 * l + a)).length - 1 := by rw [List.length_eraseIdx, if_pos hix]
  generalize (L (64 * l + a)).eraseIdx ((L (64 * l + a)).idxOf i) = l' at *
  generalize List.idxOf i (L (64 * l + a)) = q at *
  have HFIN : Hid (∀ (w2 : World) (v' : Value), w.grownBy w2 (vs (64 * l + a)).ownBlock → Own w2 v' l' → (l' = [] → v' = .slice none 0 0) → (v'.ownBlock = none ∨ v'.ownBlock = (vs (64 * l + a)).ownBlock ∨ ∃ c, v'.ownBlock = some c ∧ w.heap.size ≤ c) → ∃ cs' vs', WM (w2.setCell ⟨b, o + 2 + 64 * l + a, none⟩ v') b t cs' o (now : Int) (some bm) D vs' (setL L (64 * l + a) l') ∧ SameOut o cs cs' ∧ Gr (Fp b (some bm) vs) w (w2.setCell ⟨b, o + 2 + 64 * l + a, none⟩ v') ∧ ∀ c, Fp b (some bm) vs' c → Fp b (some bm) vs c ∨ w.heap.size ≤ c) := fun w2 v' x1 x2 x3 x4 => ⟨_, _, hfin w2 v' x1 x2 x3 x4⟩
  obtain ⟨N, hN⟩ : ∃ N, N = (L (64 * l + a)).length - 1 := ⟨_, rfl⟩
  have HN : Hid (N = (L (64 * l + a)).length - 1) := hN
  rw [← hN] at hel CD
  have HEL : Hid (l'.length = N) := hel
  have hNb : N ≤ 1000000000 := by omega
  clear hpk hfin hlen hmem ho hel hN hix
  by_cases hN0 : N = 0
  · have hz : ((N : Int) == 0) = true := by simp [hN0]
    go_enter Try.func21, Try.ntmps21
    go_wp2_with (first
      | (at_lookup; refine wpList_lookup_own_int _ rfl _ _ 29 rfl 3 3 .i64 lawI Try.underlying29 Try.underlying3 (zeroI _) bm n D rfl hm _ _ rfl hkey ?_; intro c hat hwc; obtain rfl := at_num hd hat; clear hat hwc)
      | (go_at_call 28; refine (CP _ c0).mono ?_; rintro e w' ⟨rfl, rfl⟩)
      | (go_at_call 29; refine (CI _ hown).mono ?_; rintro e w' ⟨rfl, rfl⟩)
      | (go_at_call 30; refine (CD _ hown).mono ?_; rintro e w2 ⟨v', rfl, ho2, hg2, hb2, a2, k2, rfl⟩; obtain ⟨cl2, fr2⟩ := hne w2 undef hg2))
    go_end0
    refine ⟨rfl, HFIN.out w2 _ hg2 ?_ (fun _ => rfl) (.inl rfl)⟩
    have : l' = [] := List.eq_nil_of_length_eq_zero (by have := HEL.out; omega)
    rw [this]; exact World.ownsRow_nil _ _ _ _
  · have hz : ((N : Int) == 0) = false := by simp; omega
    go_enter Try.func21, Try.ntmps21
    go_wp2_with (first
      | (at_lookup; refine wpList_lookup_own_int _ rfl _ _ 29 rfl 3 3 .i64 lawI Try.underlying29 Try.underlying3 (zeroI _) bm n D rfl hm _ _ rfl hkey ?_; intro c hat hwc; obtain rfl := at_num hd hat; clear hat hwc)
      | (go_at_call 28; refine (CP _ c0).mono ?_; rintro e w' ⟨rfl, rfl⟩)
      | (go_at_call 29; refine (CI _ hown).mono ?_; rintro e w' ⟨rfl, rfl⟩)
      | (go_at_call 30; refine (CD _ hown).mono ?_; rintro e w2 ⟨v', rfl, ho2, hg2, hb2, a2, k2, rfl⟩; obtain ⟨cl2, fr2⟩ := hne w2 undef hg2))
    go_end0
    exact ⟨rfl, HFIN.out w2 _ hg2 ho2 (fun e => absurd (by have := HEL.out; rw [e] at this; simpa using this.symm) hN0) (.inr (.inl hb2))⟩
end Go.Proofs.Ytphijplgnffoiaa
