/-
  A list of timers is spread: what is due goes off, the others are put in anew.
-/
import Derived.Test.YtphijplgnffoiaaWhF
import Derived.Deep.DeepCutAuto
import Derived.Deep.DeepFit
namespace Go.Proofs.Ytphijplgnffoiaa
open Go.ChangeShapes Go.WideShapes Go.ChangeAt Go.RowKit Go.Maps
set_option linter.unusedSimpArgs false
set_option linter.unusedVariables false

theorem Gr.undrew {F : Nat → Prop} {w w' : World} (h : Gr F w.drew w') : Gr F w w' := ⟨h.os, h.tape, h.output, h.size, h.block⟩
/-- it lies in none of those blocks. -/
def NotIn (v : Value) (F : Nat → Prop) : Prop := ∀ c, v.ownBlock = some c → ¬ F c
theorem Own.keepGr {w w' : World} {v : Value} {l : List Int} {F : Nat → Prop} (h : Own w v l) (hg : Gr F w w') (hn : NotIn v F) : Own w' v l := by
  obtain ⟨h1, h2⟩ := h
  refine ⟨h1, ?_⟩
  rcases h2 with h2 | ⟨g, cap, cur, e, h3, h4, h5⟩
  · exact .inl h2
  · exact .inr ⟨g, cap, cur, e, h3, (hg.block g (Array.getElem?_eq_some_iff.1 h4).1 (hn g (by rw [e]; rfl))).trans h4, h5⟩
theorem Own.lt' {w : World} {v : Value} {l : List Int} (h : Own w v l) {c : Nat} (hc : v.ownBlock = some c) : c < w.heap.size := (World.ownsRow.lt h c hc).2
theorem Own.alloc' {w : World} {v : Value} {l : List Int} (h : Own w v l) (o : Obj) : Own (w.alloc o) v l := World.ownsRow.alloc h o
theorem spr_len (now : Int) (z : Int → Int) (l : List Int) (s : (Nat → List Int) × List Int) (m : Nat) : ((l.foldl (sprS now z) s).1 m).length ≤ (s.1 m).length + l.length ∧ (l.foldl (sprS now z) s).2.length ≤ s.2.length + l.length := by
  rw [spr_split]
  have h1 := List.length_filter_le (fun i => decide (¬ z i ≤ now) && decide (pk now.toNat (z i).toNat = m)) l
  have h2 := List.length_filter_le (fun i => decide (z i ≤ now)) l
  simp only [List.length_append]
  omega
theorem take_fold {α β : Type} (f : β → α → β) (s : β) (l : List α) (j : Nat) (hj : j < l.length) : (l.take (j + 1)).foldl f s = f ((l.take j).foldl f s) l[j] := by
  rw [List.take_succ_eq_append_getElem hj, List.foldl_append]; rfl
/-- what a wheel's timers say of their times. -/
def Says (D : DataW Unit) (z : Int → Int) : Prop := ∀ i, (Lit.int .i64 i).wf = true → at' D i (z i) ∧ 0 ≤ z i ∧ z i ≤ 1099511627776
/-- a wheel in the midst of a turn, and the list of those that go off. -/
structure Mid (w : World) (b : Nat) (t : TypeId) (cs : Array Value) (o : Nat) (now : Int) (mb : Option Nat) (D : DataW Unit) (vs : Nat → Value) (L : Nat → List Int) (ov : Value) (off : List Int) : Prop where
  wm : WM w b t cs o now mb D vs L
  own : Own w ov off
  out : NotIn ov (Fp b mb vs)
theorem Mid.fp_lt {w : World} {b o : Nat} {t : TypeId} {cs : Array Value} {now : Int} {mb : Option Nat} {D : DataW Unit} {vs : Nat → Value} {L : Nat → List Int} (h : WM w b t cs o now mb D vs L) {c : Nat} (hc : Fp b mb vs c) : c < w.heap.size := by
  rcases hc with rfl | hc | ⟨k, hk, hc⟩
  · exact h.lt
  · rcases h.map with ⟨h1, _⟩ | ⟨bm, n, h1, _, hm⟩
    · rw [h1] at hc; cases hc
    · rw [h1] at hc; cases hc; exact hm.lt
  · exact (h.own k hk).lt' hc
/-- the state of a list that is spread. -/
def SpR (w W : World) (b : Nat) (t : TypeId) (cs : Array Value) (o : Nat) (now : Int) (mb : Option Nat) (D : DataW Unit) (vs : Nat → Value) (ov lv : Value) (ls : List Int) (s : (Nat → List Int) × List Int) (tv : Value) (cs' : Array Value) (vs' : Nat → Value) : Prop :=
  Mid W b t cs' o now mb D vs' s.1 tv s.2 ∧ Own W lv ls ∧ NotIn lv (Fp b mb vs') ∧ (∀ c, tv.ownBlock = some c → lv.ownBlock ≠ some c) ∧ SameOut o cs cs' ∧ Gr (fun c => Fp b mb vs c ∨ ov.ownBlock = some c) w W ∧ (∀ c, Fp b mb vs' c → Fp b mb vs c ∨ w.heap.size ≤ c) ∧ (∀ c, tv.ownBlock = some c → ov.ownBlock = some c ∨ w.heap.size ≤ c)
section
variable {w W : World} {b : Nat} {t : TypeId} {cs : Array Value} {o : Nat} {now : Int} {mb : Option Nat} {D : DataW Unit} {vs : Nat → Value} {ov lv : Value} {ls : List Int} {s : (Nat → List Int) × List Int} {tv : Value} {cs' : Array Value} {vs' : Nat → Value}
theorem SpR.due (h : SpR w W b t cs o now mb D vs ov lv ls s tv cs' vs') {w1 w2 : World} (h1 : Below W.heap.size W w1) {v2 : Value} {l2 : List Int} (hg : w1.grownBy w2 tv.ownBlock) (ho : Own w2 v2 l2) (hl : v2.ownBlock = tv.ownBlock ∨ v2.ownBlock = some w1.heap.size) : SpR w w2 b t cs o now mb D vs ov lv ls (s.1, l2) v2 cs' vs' := by
  obtain ⟨hm, hls, hln, htl, hso, hgr, hfp, htv⟩ := h
  have g1 : Gr (fun c => tv.ownBlock = some c) W w2 := (Gr.of_below h1).trans (Gr.of_grown (F := fun c => tv.ownBlock = some c) hg (fun c hc => hc)) (fun x hx => .inl hx)
  have hsz := h1.size
  refine ⟨⟨hm.wm.keep g1 (fun c hc hd => hm.out c hd hc), ho, fun c hc hf => ?_⟩, hls.keepGr g1 (fun c hc hd => htl c hd hc), hln, fun c hc hd => ?_, hso, hgr.trans g1 (fun x hx => ?_), hfp, fun c hc => ?_⟩
  · rcases hl with hl | hl
    · exact hm.out c (hl ▸ hc) hf
    · rw [hl] at hc; cases hc; have := Mid.fp_lt hm.wm hf; omega
  · rcases hl with hl | hl
    · exact htl c (hl ▸ hc) hd
    · rw [hl] at hc; cases hc; have := hls.lt' hd; omega
  · rcases htv x hx with h2 | h2
    · exact .inl (.inr h2)
    · exact .inr h2
  · rcases hl with hl | hl
    · exact htv c (hl ▸ hc)
    · rw [hl] at hc; cases hc; have := hgr.size; exact .inr (by omega)
theorem SpR.put (h : SpR w W b t cs o now mb D vs ov lv ls s tv cs' vs') {w2 : World} {cs2 : Array Value} {vs2 : Nat → Value} {L2 : Nat → List Int} (hw : WM w2 b t cs2 o now mb D vs2 L2) (hso2 : SameOut o cs' cs2) (hg : Gr (Fp b mb vs') W w2) (hf2 : ∀ c, Fp b mb vs2 c → Fp b mb vs' c ∨ W.heap.size ≤ c) : SpR w w2 b t cs o now mb D vs ov lv ls (L2, s.2) tv cs2 vs2 := by
  obtain ⟨hm, hls, hln, htl, hso, hgr, hfp, htv⟩ := h
  have hsz := hgr.size
  refine ⟨⟨hw, hm.own.keepGr hg hm.out, fun c hc hf => ?_⟩, hls.keepGr hg hln, fun c hc hf => ?_, htl, hso.trans hso2, hgr.trans hg (fun x hx => ?_), fun c hc => ?_, htv⟩
  · rcases hf2 c hf with h2 | h2
    · exact hm.out c hc h2
    · have := hm.own.lt' hc; omega
  · rcases hf2 c hf with h2 | h2
    · exact hln c hc h2
    · have := hls.lt' hc; omega
  · rcases hfp x hx with h2 | h2
    · exact .inl (.inl h2)
    · exact .inr h2
  · rcases hf2 c hc with h2 | h2
    · exact hfp c h2
    · exact .inr (by omega)
end
set_option maxRecDepth 10000 in
set_option maxHeartbeats 8000000 in
theorem spread_any {w : World} {b o : Nat} {t : TypeId} {cs : Array Value} {now : Nat} {mb : Option Nat} {D : DataW Unit} {vs : Nat → Value} {L : Nat → List Int} {ov : Value} {off : List Int} (h : Mid w b t cs o (now : Int) mb D vs L ov off) (z : Int → Int) (hz : Says D z) (hwf : ∀ k i, i ∈ L k → (Lit.int .i64 i).wf = true) (hn : now ≤ 1099511627776)
    (l a : Nat) (hl : l < 7) (ha : a < 64) (hM : ∀ m, (L m).length + (L (64 * l + a)).length ≤ 1000000000) (hO : off.length + (L (64 * l + a)).length ≤ 1000000000) (hmb : mb = none → ∀ k, L k = []) :
    Calls Try.prog 32 #[.pointer (some ⟨b, o, none⟩), .int .i64 (l : Int), .int .i64 (a : Int), ov] w fun e w' => ∃ cs' vs' ov', e = .returned ov' ∧ Mid w' b t cs' o (now : Int) mb D vs' (sprF (now : Int) z (L, off) (64 * l + a)).1 ov' (sprF (now : Int) z (L, off) (64 * l + a)).2 ∧ SameOut o cs cs' ∧ Gr (fun c => Fp b mb vs c ∨ ov.ownBlock = some c) w w' ∧ (∀ c, Fp b mb vs' c → Fp b mb vs c ∨ w.heap.size ≤ c) ∧ (∀ c, ov'.ownBlock = some c → ov.ownBlock = some c ∨ w.heap.size ≤ c) := by
  have hwm := h.wm
  have hk : 64 * l + a < 448 := by omega
  have hI7 := fun w => idx7 b (o + 2) l (by omega) w
  have hI64 := fun w => idx64 b (o + 2 + 64 * l) a (by omega) w
  have ho : o + 2 + 64 * l + a = o + 2 + (64 * l + a) := by omega
  have cl : w.cell? ⟨b, o + 2 + 64 * l + a, none⟩ = some (vs (64 * l + a)) := by rw [ho]; exact (hwm.cell _).trans (hwm.cl _ hk)
  have fl : w.frozen? ⟨b, o + 2 + 64 * l + a, none⟩ = false := hwm.free _
  have hq := hwm.turnL hk (w2 := w) (l' := []) ⟨rfl, rfl, rfl, Nat.le_refl _, fun _ _ _ => rfl⟩ (World.ownsRow_nil w 0 3 1 : Own w (.slice none 0 0) []) (fun _ => rfl) (.inl rfl) ho
  have hlo : Own (w.setCell ⟨b, o + 2 + 64 * l + a, none⟩ (.slice none 0 0)) (vs (64 * l + a)) (L (64 * l + a)) := (hwm.own _ hk).keepGr (F := fun c => c = b) (Gr.setCell w b _ _ rfl) (fun c hc e => hwm.notb _ hk (by rw [hc, e]))
  have hov : Own (w.setCell ⟨b, o + 2 + 64 * l + a, none⟩ (.slice none 0 0)) ov off := h.own.keepGr (F := fun c => c = b) (Gr.setCell w b _ _ rfl) (fun c hc e => h.out c hc (.inl e))
  have hln : NotIn (vs (64 * l + a)) (Fp b mb (updV vs (64 * l + a) (.slice none 0 0))) := by
    intro c hc hf
    rcases hf with rfl | hf | ⟨j, hj, hf⟩
    · exact hwm.notb _ hk hc
    · rcases hwm.map with ⟨h1, _⟩ | ⟨bm, n, h1, _, hm⟩
      · rw [h1] at hf; cases hf
      · rw [h1] at hf; cases hf; exact (hwm.own _ hk).ne_map hm hc
    · by_cases e : j = 64 * l + a
      · rw [e] at hf; simp [updV, Value.ownBlock] at hf
      · simp only [updV, if_neg e] at hf
        exact e (hwm.apart j _ c hj hk hf hc)
  have hon : NotIn ov (Fp b mb (updV vs (64 * l + a) (.slice none 0 0))) := fun c hc hf => (hq.2.2.2 c hf).elim (h.out c hc) (fun h2 => by have := h.own.lt' hc; omega)
  have hlv : ∀ c, (vs (64 * l + a)).ownBlock = some c → ov.ownBlock ≠ some c := fun c hc hd => h.out c hd (.inr (.inr ⟨_, hk, hc⟩))
  have hfpl : ∀ c, (vs (64 * l + a)).ownBlock = some c → c < w.heap.size := fun c hc => (hwm.own _ hk).lt' hc
  have hGr0 : Gr (fun c => Fp b mb vs c ∨ ov.ownBlock = some c) w (w.setCell ⟨b, o + 2 + 64 * l + a, none⟩ (.slice none 0 0)) := hq.2.2.1.mono (fun x hx => .inl hx)
  have hws : (w.setCell ⟨b, o + 2 + 64 * l + a, none⟩ (.slice none 0 0)).heap.size = w.heap.size := by simp [World.setCell]
  have HQ : Hid (WM (w.setCell ⟨b, o + 2 + 64 * l + a, none⟩ (.slice none 0 0)) b t (cs.setIfInBounds (o + 2 + 64 * l + a) (.slice none 0 0)) o (now : Int) mb D (updV vs (64 * l + a) (.slice none 0 0)) (setL L (64 * l + a) [])) := hq.1
  have hso := hq.2.1
  have hfp := hq.2.2.2
  obtain ⟨al, cap, hvl⟩ := (show ∃ a' c', vs (64 * l + a) = .slice a' (L (64 * l + a)).length c' by
    rcases (hwm.own _ hk).2 with ⟨e, n0⟩ | ⟨g, cap, cur, e, _⟩
    · exact ⟨none, 0, by rw [e, n0]⟩
    · exact ⟨_, _, e⟩)
  have hmb' : L (64 * l + a) ≠ [] → ∃ bm, mb = some bm := fun hne => by rcases mb with _ | bm; exact absurd (hmb rfl _) hne; exact ⟨bm, rfl⟩
  have hsp : sprF (now : Int) z (L, off) (64 * l + a) = (L (64 * l + a)).foldl (sprS (now : Int) z) (setL L (64 * l + a) [], off) := rfl
  rw [hsp]
  have hwl : ∀ i ∈ L (64 * l + a), (Lit.int .i64 i).wf = true := fun i hi => hwf _ i hi
  have hML : ∀ m, ((setL L (64 * l + a) []) m).length + (L (64 * l + a)).length ≤ 1000000000 := by
    intro m
    by_cases e : m = 64 * l + a
    · simp only [setL, if_pos e]; have := hM m; simp; omega
    · simp only [setL, if_neg e]; exact hM m
  generalize setL L (64 * l + a) [] = L0 at *
  generalize updV vs (64 * l + a) (.slice none 0 0) = vs0 at *
  generalize cs.setIfInBounds (o + 2 + 64 * l + a) (.slice none 0 0) = cs0 at *
  rw [hvl] at cl hlo hln hlv hfpl
  generalize L (64 * l + a) = ls at *
  obtain ⟨N, hN⟩ : ∃ N, N = ls.length := ⟨_, rfl⟩
  rw [← hN] at cl hlo hln hlv hfpl hML
  have HN : Hid (N = ls.length) := hN
  have HSO : Hid (SameOut o cs cs0) := hso
  have hNb : N ≤ 1000000000 := by rw [hN]; omega
  have HO' : Hid (off.length + N ≤ 1000000000) := by rw [hN]; exact hO
  have hlo' : Hid (Own (w.setCell ⟨b, o + 2 + 64 * l + a, none⟩ (.slice none 0 0)) (.slice al N cap) ls) := by
    have e : Value.slice al N cap = .slice al ls.length cap := by rw [hN]
    rw [e]; rw [hN] at hlo; exact hlo
  clear hq hsp hN hso h hwm hvl hlo ho hM hO hmb
  go_enter Try.func32, Try.ntmps32
  go_wp2
  go_loopw [3, 29] (fun tv i W => ∃ j : Nat, j ≤ N ∧ i = .int .i64 (j : Int) ∧ ∃ cs' vs', SpR w W b t cs o (now : Int) mb D vs ov (.slice al N cap) ls ((ls.take j).foldl (sprS (now : Int) z) (L0, off)) tv cs' vs') (fun _ i _ => N - (intOf i).toNat)
  case atStart => exact ⟨0, Nat.zero_le _, rfl, cs0, vs0, ⟨HQ.out, hov, hon⟩, hlo'.out, hln, fun c hc hd => hlv c hd hc, HSO.out, hGr0, hfp, fun c hc => .inl hc⟩
  case round =>
    clear hov hlo' HQ hln hon hlv cl fl hGr0 hws HSO hfp
    obtain ⟨j, hjN, rfl, cs', vs', hR⟩ := hrel
    obtain ⟨hmid, hls, hlsn, htl, hso, hgr, hfpx, htv⟩ := id hR
    by_cases hlt : j < N
    · have hjl : j < ls.length := by have := HN.out; omega
      have hji : (j : Int) < (N : Int) := by omega
      have hjw : wrap64 ((j : Int) + 1) = (j : Int) + 1 := by unfold wrap64; omega
      obtain ⟨g, cap', cur, hsh, hg, _, _, _, ht⟩ := hls.shape (by omega)
      obtain ⟨rfl, hNe, rfl⟩ : al = some ⟨g, 0, none⟩ ∧ N = ls.length ∧ cap = cap' := by simpa using hsh
      have hix := fun w => ixI g N cap j hlt w
      have hcx := (row_cell hg j).trans (cur_at ht j hjl)
      have hwx := hwl ls[j] (List.getElem_mem hjl)
      obtain ⟨hat, hz0, hz1⟩ := hz ls[j] hwx
      have hst := take_fold (sprS (now : Int) z) (L0, off) ls j hjl
      have hsl := fun m => spr_len (now : Int) z (ls.take j) (L0, off) m
      have htk : (ls.take j).length = j := by simp; omega
      simp only [htk] at hsl
      have hmeas : Hid (N - ((j : Int) + 1).toNat < N - ((j : Int)).toNat) := (by omega : N - ((j : Int) + 1).toNat < N - ((j : Int)).toNat)
      have HNE : Hid (N = ls.length) := hNe
      clear hsh hNe ht
      generalize ls[j] = x at *
      have HST : Hid (List.foldl (sprS (now : Int) z) (L0, off) (List.take (j + 1) ls) = sprS (now : Int) z (List.foldl (sprS (now : Int) z) (L0, off) (List.take j ls)) x) := hst
      clear hst
      generalize List.foldl (sprS (now : Int) z) (L0, off) (List.take j ls) = sj at *
      obtain ⟨bm, rfl⟩ := hmb' (fun e => by rw [e] at hjl; simp at hjl)
      obtain ⟨n, hn', hm⟩ := hmid.wm.theMap
      have hkey := keyOf_int_mk (P := Try.prog) (q := .i64) (a := x) Try.underlying3 hwx
      have c0 := (hmid.wm.cell o).trans hmid.wm.c0
      have c1 := (hmid.wm.cell (o + 1)).trans hmid.wm.c1
      have hlook : ∀ W, MapI W bm n D → (Instr.lookup 29 (.map (some bm)) (.int .i64 x) false).run Try.prog W = .ok (.int .i64 (z x)) W := by
        intro W hW
        obtain ⟨c, h1, h2, _⟩ := hW.lookup_int lawI Try.underlying29 Try.underlying3 (zeroI _) hkey
        rw [h1, at_num hat h2]
      have hOl : sj.2.length ≤ 1000000000 := by have q1 := (hsl 0).2; have q2 := HO'.out; omega
      have hLl : ∀ m, (sj.1 m).length ≤ 1000000000 := by intro m; have q1 := (hsl m).1; have q2 := hML m; omega
      have HL : Hid (∀ m, (sj.1 m).length ≤ 1000000000) := hLl
      clear hsl hLl hML hwl htk
      by_cases hdue : z x ≤ (now : Int)
      · have hs' : sprS (now : Int) z sj x = (sj.1, sj.2 ++ [x]) := by unfold sprS; rw [if_pos hdue]
        have HS : Hid (sprS (now : Int) z sj x = (sj.1, sj.2 ++ [x])) := hs'
        clear hs'
        go_upto_region 6 with fail
        refine wp_region_noPanic ?_
        refine wp_region_held_drew (S := fun W => W.cell? ⟨b, o, none⟩ = some (.int .i64 (now : Int)) ∧ W.cell? ⟨b, o + 1, none⟩ = some (.map (some bm)) ∧ MapI W bm n D) (by kernel_rfl) ⟨c0, c1, hm⟩ (fun _ => ?_)
        refine wpAnyH_take (i := 0) (v := .pointer (some ⟨b, o, none⟩)) rfl (by kernel_rfl) (by kernel_rfl) (by kernel_rfl) (fun _ _ _ h => h) (Or.inl ⟨by kernel_rfl, by intro w hS; go_simp⟩) ⟨c0, c1, hm⟩ ?_
        simp only [Act.put, List.getElem_toArray, List.getElem_cons_succ, List.getElem_cons_zero, List.setIfInBounds_toArray, List.set_cons_zero, List.set_cons_succ]
        refine wpAnyH_take (i := 1) (v := .pointer (some ⟨b, o, none⟩)) rfl (by kernel_rfl) (by kernel_rfl) (by kernel_rfl) (fun _ _ _ h => h) (Or.inl ⟨by kernel_rfl, by intro w hS; go_simp⟩) ⟨c0, c1, hm⟩ ?_
        simp only [Act.put, List.getElem_toArray, List.getElem_cons_succ, List.getElem_cons_zero, List.setIfInBounds_toArray, List.set_cons_zero, List.set_cons_succ]
        refine wpAnyH_take (i := 2) (v := .pointer (some ⟨b, o + 1, none⟩)) rfl (by kernel_rfl) (by kernel_rfl) (by kernel_rfl) (fun _ _ _ h => h) (Or.inl ⟨by kernel_rfl, by intro w hS; go_simp⟩) ⟨c0, c1, hm⟩ ?_
        simp only [Act.put, List.getElem_toArray, List.getElem_cons_succ, List.getElem_cons_zero, List.setIfInBounds_toArray, List.set_cons_zero, List.set_cons_succ]
        refine wpAnyH_take (i := 3) (v := .map (some bm)) rfl (by kernel_rfl) (by kernel_rfl) (by kernel_rfl) (fun _ _ _ h => h) (Or.inl ⟨by kernel_rfl, by intro w hS; have hc := hS.2.1; go_simp⟩) ⟨c0, c1, hm⟩ ?_
        simp only [Act.put, List.getElem_toArray, List.getElem_cons_succ, List.getElem_cons_zero, List.setIfInBounds_toArray, List.set_cons_zero, List.set_cons_succ]
        refine wpAnyH_take (i := 4) (v := .int .i64 x) rfl (by kernel_rfl) (by kernel_rfl) (by kernel_rfl) (fun _ _ _ h => h) (Or.inl ⟨by kernel_rfl, by intro w hS; go_simp⟩) ⟨c0, c1, hm⟩ ?_
        simp only [Act.put, List.getElem_toArray, List.getElem_cons_succ, List.getElem_cons_zero, List.setIfInBounds_toArray, List.set_cons_zero, List.set_cons_succ]
        refine wpAnyH_take (i := 5) (v := .int .i64 (z x)) rfl (by kernel_rfl) (by kernel_rfl) (by kernel_rfl) (fun _ _ _ h => h) (Or.inl ⟨by kernel_rfl, by intro w hS; have hc := hlook w hS.2.2; go_simp⟩) ⟨c0, c1, hm⟩ ?_
        simp only [Act.put, List.getElem_toArray, List.getElem_cons_succ, List.getElem_cons_zero, List.setIfInBounds_toArray, List.set_cons_zero, List.set_cons_succ]
        refine wpAnyH_take (i := 6) (v := .pointer (some ⟨b, o, none⟩)) rfl (by kernel_rfl) (by kernel_rfl) (by kernel_rfl) (fun _ _ _ h => h) (Or.inl ⟨by kernel_rfl, by intro w hS; go_simp⟩) ⟨c0, c1, hm⟩ ?_
        simp only [Act.put, List.getElem_toArray, List.getElem_cons_succ, List.getElem_cons_zero, List.setIfInBounds_toArray, List.set_cons_zero, List.set_cons_succ]
        refine wpAnyH_take (i := 7) (v := .pointer (some ⟨b, o, none⟩)) rfl (by kernel_rfl) (by kernel_rfl) (by kernel_rfl) (fun _ _ _ h => h) (Or.inl ⟨by kernel_rfl, by intro w hS; go_simp⟩) ⟨c0, c1, hm⟩ ?_
        simp only [Act.put, List.getElem_toArray, List.getElem_cons_succ, List.getElem_cons_zero, List.setIfInBounds_toArray, List.set_cons_zero, List.set_cons_succ]
        refine wpAnyH_take (i := 8) (v := .pointer (some ⟨b, o, none⟩)) rfl (by kernel_rfl) (by kernel_rfl) (by kernel_rfl) (fun _ _ _ h => h) (Or.inl ⟨by kernel_rfl, by intro w hS; go_simp⟩) ⟨c0, c1, hm⟩ ?_
        simp only [Act.put, List.getElem_toArray, List.getElem_cons_succ, List.getElem_cons_zero, List.setIfInBounds_toArray, List.set_cons_zero, List.set_cons_succ]
        refine wpAnyH_take (i := 9) (v := .int .i64 (now : Int)) rfl (by kernel_rfl) (by kernel_rfl) (by kernel_rfl) (fun _ _ _ h => h) (Or.inl ⟨by kernel_rfl, by intro w hS; have hc := hS.1; go_simp⟩) ⟨c0, c1, hm⟩ ?_
        simp only [Act.put, List.getElem_toArray, List.getElem_cons_succ, List.getElem_cons_zero, List.setIfInBounds_toArray, List.set_cons_zero, List.set_cons_succ]
        refine wpAnyH_take (i := 10) (v := .bool true) rfl (by kernel_rfl) (by kernel_rfl) (by kernel_rfl) (fun _ _ _ h => h) (Or.inl ⟨by kernel_rfl, by intro w hS; go_simp⟩) ⟨c0, c1, hm⟩ ?_
        simp only [Act.put, List.getElem_toArray, List.getElem_cons_succ, List.getElem_cons_zero, List.setIfInBounds_toArray, List.set_cons_zero, List.set_cons_succ]
        refine wpAnyH_done (by kernel_rfl) ?_ _
        refine NoPanic.normal ?_
        go_wp2_with (first
          | (at_builtin; refine wpList_app (v := u3) rfl (.tmp 44) (.tmp 46) rfl rfl (hmid.own.alloc' _) _ x rfl (World.cell?_alloc_mark _ #[.int .i64 x] 3 (0, 0) 0) hOl ?_; intro a2 k2 w2 ho2 hg2 hl2))
        go_roundw
        case rel =>
          refine ⟨j + 1, by omega, by go_num, cs', vs', ?_⟩
          rw [HST.out, HS.out]
          exact SpR.due hR ((Below.refl _ _).alloc (Nat.le_refl _) _) (grown_undrew hg2) ho2 hl2
        case measure => first | exact hmeas.out | (rw [hjw]; exact hmeas.out)
      · have hs' : sprS (now : Int) z sj x = (putF (now : Int) z sj.1 x, sj.2) := by unfold sprS; rw [if_neg hdue]
        have HS : Hid (sprS (now : Int) z sj x = (putF (now : Int) z sj.1 x, sj.2)) := hs'
        clear hs'
        obtain ⟨d, hd⟩ : ∃ d : Nat, z x = (d : Int) := ⟨(z x).toNat, by omega⟩
        have CP := putIn_any hmid.wm.drew x d hwx (by rw [← hd]; exact hat) hn (by omega) (HL.out _)
        have hpf : Hid (putF (now : Int) z sj.1 x = setL sj.1 (pk now d) (sj.1 (pk now d) ++ [x])) := by show putF (now : Int) z sj.1 x = _; unfold putF; rw [hd]; rfl
        clear hd
        go_upto_region 6 with fail
        refine wp_region_noPanic ?_
        refine wp_region_held_drew (S := fun W => W.cell? ⟨b, o, none⟩ = some (.int .i64 (now : Int)) ∧ W.cell? ⟨b, o + 1, none⟩ = some (.map (some bm)) ∧ MapI W bm n D) (by kernel_rfl) ⟨c0, c1, hm⟩ (fun _ => ?_)
        refine wpAnyH_take (i := 0) (v := .pointer (some ⟨b, o, none⟩)) rfl (by kernel_rfl) (by kernel_rfl) (by kernel_rfl) (fun _ _ _ h => h) (Or.inl ⟨by kernel_rfl, by intro w hS; go_simp⟩) ⟨c0, c1, hm⟩ ?_
        simp only [Act.put, List.getElem_toArray, List.getElem_cons_succ, List.getElem_cons_zero, List.setIfInBounds_toArray, List.set_cons_zero, List.set_cons_succ]
        refine wpAnyH_take (i := 1) (v := .pointer (some ⟨b, o, none⟩)) rfl (by kernel_rfl) (by kernel_rfl) (by kernel_rfl) (fun _ _ _ h => h) (Or.inl ⟨by kernel_rfl, by intro w hS; go_simp⟩) ⟨c0, c1, hm⟩ ?_
        simp only [Act.put, List.getElem_toArray, List.getElem_cons_succ, List.getElem_cons_zero, List.setIfInBounds_toArray, List.set_cons_zero, List.set_cons_succ]
        refine wpAnyH_take (i := 2) (v := .pointer (some ⟨b, o + 1, none⟩)) rfl (by kernel_rfl) (by kernel_rfl) (by kernel_rfl) (fun _ _ _ h => h) (Or.inl ⟨by kernel_rfl, by intro w hS; go_simp⟩) ⟨c0, c1, hm⟩ ?_
        simp only [Act.put, List.getElem_toArray, List.getElem_cons_succ, List.getElem_cons_zero, List.setIfInBounds_toArray, List.set_cons_zero, List.set_cons_succ]
        refine wpAnyH_take (i := 3) (v := .map (some bm)) rfl (by kernel_rfl) (by kernel_rfl) (by kernel_rfl) (fun _ _ _ h => h) (Or.inl ⟨by kernel_rfl, by intro w hS; have hc := hS.2.1; go_simp⟩) ⟨c0, c1, hm⟩ ?_
        simp only [Act.put, List.getElem_toArray, List.getElem_cons_succ, List.getElem_cons_zero, List.setIfInBounds_toArray, List.set_cons_zero, List.set_cons_succ]
        refine wpAnyH_take (i := 4) (v := .int .i64 x) rfl (by kernel_rfl) (by kernel_rfl) (by kernel_rfl) (fun _ _ _ h => h) (Or.inl ⟨by kernel_rfl, by intro w hS; go_simp⟩) ⟨c0, c1, hm⟩ ?_
        simp only [Act.put, List.getElem_toArray, List.getElem_cons_succ, List.getElem_cons_zero, List.setIfInBounds_toArray, List.set_cons_zero, List.set_cons_succ]
        refine wpAnyH_take (i := 5) (v := .int .i64 (z x)) rfl (by kernel_rfl) (by kernel_rfl) (by kernel_rfl) (fun _ _ _ h => h) (Or.inl ⟨by kernel_rfl, by intro w hS; have hc := hlook w hS.2.2; go_simp⟩) ⟨c0, c1, hm⟩ ?_
        simp only [Act.put, List.getElem_toArray, List.getElem_cons_succ, List.getElem_cons_zero, List.setIfInBounds_toArray, List.set_cons_zero, List.set_cons_succ]
        refine wpAnyH_take (i := 6) (v := .pointer (some ⟨b, o, none⟩)) rfl (by kernel_rfl) (by kernel_rfl) (by kernel_rfl) (fun _ _ _ h => h) (Or.inl ⟨by kernel_rfl, by intro w hS; go_simp⟩) ⟨c0, c1, hm⟩ ?_
        simp only [Act.put, List.getElem_toArray, List.getElem_cons_succ, List.getElem_cons_zero, List.setIfInBounds_toArray, List.set_cons_zero, List.set_cons_succ]
        refine wpAnyH_take (i := 7) (v := .pointer (some ⟨b, o, none⟩)) rfl (by kernel_rfl) (by kernel_rfl) (by kernel_rfl) (fun _ _ _ h => h) (Or.inl ⟨by kernel_rfl, by intro w hS; go_simp⟩) ⟨c0, c1, hm⟩ ?_
        simp only [Act.put, List.getElem_toArray, List.getElem_cons_succ, List.getElem_cons_zero, List.setIfInBounds_toArray, List.set_cons_zero, List.set_cons_succ]
        refine wpAnyH_take (i := 8) (v := .pointer (some ⟨b, o, none⟩)) rfl (by kernel_rfl) (by kernel_rfl) (by kernel_rfl) (fun _ _ _ h => h) (Or.inl ⟨by kernel_rfl, by intro w hS; go_simp⟩) ⟨c0, c1, hm⟩ ?_
        simp only [Act.put, List.getElem_toArray, List.getElem_cons_succ, List.getElem_cons_zero, List.setIfInBounds_toArray, List.set_cons_zero, List.set_cons_succ]
        refine wpAnyH_take (i := 9) (v := .int .i64 (now : Int)) rfl (by kernel_rfl) (by kernel_rfl) (by kernel_rfl) (fun _ _ _ h => h) (Or.inl ⟨by kernel_rfl, by intro w hS; have hc := hS.1; go_simp⟩) ⟨c0, c1, hm⟩ ?_
        simp only [Act.put, List.getElem_toArray, List.getElem_cons_succ, List.getElem_cons_zero, List.setIfInBounds_toArray, List.set_cons_zero, List.set_cons_succ]
        refine wpAnyH_take (i := 10) (v := .bool false) rfl (by kernel_rfl) (by kernel_rfl) (by kernel_rfl) (fun _ _ _ h => h) (Or.inl ⟨by kernel_rfl, by intro w hS; go_simp⟩) ⟨c0, c1, hm⟩ ?_
        simp only [Act.put, List.getElem_toArray, List.getElem_cons_succ, List.getElem_cons_zero, List.setIfInBounds_toArray, List.set_cons_zero, List.set_cons_succ]
        refine wpAnyH_done (by kernel_rfl) ?_ _
        refine NoPanic.normal ?_
        go_wp2_with (first
          | (go_at_call 22; refine CP.mono ?_; rintro e w2 ⟨rfl, cs2, vs2, hw2, hso2, hgr2, hfp2⟩))
        go_roundw
        case rel =>
          refine ⟨j + 1, by omega, by go_num, cs2, vs2, ?_⟩
          rw [HST.out, HS.out, hpf.out]
          exact SpR.put hR hw2 hso2 hgr2.undrew hfp2
        case measure => first | exact hmeas.out | (rw [hjw]; exact hmeas.out)
    · have hji : ¬ (j : Int) < (N : Int) := by omega
      go_wp2
      go_ret
      have e : List.take j ls = ls := List.take_of_length_le (by have := HN.out; omega)
      rw [e] at hmid
      exact ⟨cs', vs', _, rfl, hmid, hso, hgr, hfpx, htv⟩
end Go.Proofs.Ytphijplgnffoiaa
