/-
  A wheel is turned.
-/
import Derived.Test.YtphijplgnffoiaaWhG
namespace Go.Proofs.Ytphijplgnffoiaa
open Go.ChangeShapes Go.WideShapes Go.ChangeAt Go.RowKit Go.Maps
set_option linter.unusedSimpArgs false
set_option linter.unusedVariables false

/-- how many timers wait in the first n lists. -/
def sumR (n : Nat) (L : Nat → List Int) : Nat := ((List.range n).map fun k => (L k).length).sum
theorem sumR_succ (n : Nat) (L : Nat → List Int) : sumR (n + 1) L = sumR n L + (L n).length := by simp [sumR, List.range_succ]
theorem sumR_out (n k : Nat) (L : Nat → List Int) (l : List Int) (h : n ≤ k) : sumR n (setL L k l) = sumR n L := by
  induction n with
  | zero => rfl
  | succ n ih => rw [sumR_succ, sumR_succ, ih (by omega)]; simp [setL, show n ≠ k by omega]
theorem sumR_set (n k : Nat) (L : Nat → List Int) (l : List Int) (h : k < n) : sumR n (setL L k l) + (L k).length = sumR n L + l.length := by
  induction n with
  | zero => omega
  | succ n ih =>
    rw [sumR_succ, sumR_succ]
    by_cases e : k = n
    · subst e; rw [sumR_out k k L l (Nat.le_refl _)]; simp [setL]; omega
    · have := ih (by omega); simp [setL, show n ≠ k by omega]; omega
theorem sumR_le (n k : Nat) (L : Nat → List Int) (h : k < n) : (L k).length ≤ sumR n L := by
  induction n with
  | zero => omega
  | succ n ih =>
    rw [sumR_succ]
    by_cases e : k = n
    · subst e; omega
    · have := ih (by omega); omega
/-- how many timers there are, in the lists and among those that go off; none beyond the last list. -/
structure Tot (T : Nat) (s : (Nat → List Int) × List Int) : Prop where
  sum : sumR 448 s.1 + s.2.length = T
  beyond : ∀ m, 448 ≤ m → s.1 m = []
  wf : ∀ k i, i ∈ s.1 k → (Lit.int .i64 i).wf = true
theorem Tot.le {T : Nat} {s : (Nat → List Int) × List Int} (h : Tot T s) (m : Nat) : (s.1 m).length ≤ T := by
  have := h.sum
  by_cases hm : m < 448
  · have := sumR_le 448 m s.1 hm; omega
  · rw [h.beyond m (by omega)]; simp
theorem Tot.off {T : Nat} {s : (Nat → List Int) × List Int} (h : Tot T s) : s.2.length ≤ T := by have := h.sum; omega
theorem tot_step {T : Nat} (now : Int) (z : Int → Int) (hn : 0 ≤ now ∧ now ≤ 1099511627776) (hz : ∀ i, 0 ≤ z i ∧ z i ≤ 1099511627776) (l : List Int) (s : (Nat → List Int) × List Int) (h : Tot T s) (hl : ∀ i ∈ l, (Lit.int .i64 i).wf = true) : Tot (T + l.length) (l.foldl (sprS now z) s) := by
  induction l generalizing s T with
  | nil => exact h
  | cons i r ih =>
    rw [List.foldl_cons, List.length_cons, show T + (r.length + 1) = (T + 1) + r.length by omega]
    apply ih
    · unfold sprS
      by_cases hd : z i ≤ now
      · rw [if_pos hd]
        exact ⟨by have := h.sum; simp; omega, h.beyond, h.wf⟩
      · rw [if_neg hd]
        have hp : pk now.toNat (z i).toNat < 448 := pk_lt _ _ (by omega) (by have := hz i; omega)
        refine ⟨?_, fun m hm => ?_, fun k j hj => ?_⟩
        · have := sumR_set 448 _ s.1 (s.1 (pk now.toNat (z i).toNat) ++ [i]) hp
          have := h.sum
          simp only [putF, List.length_append, List.length_cons, List.length_nil] at *
          omega
        · simp only [putF, setL, if_neg (show m ≠ pk now.toNat (z i).toNat by omega)]
          exact h.beyond m hm
        · simp only [putF, setL] at hj
          split at hj
          · rcases List.mem_append.1 hj with h1 | h1
            · exact h.wf _ j h1
            · have : j = i := by simpa using h1
              subst this; exact hl j (by simp)
          · exact h.wf k j hj
    · exact fun j hj => hl j (by simp [hj])
theorem tot_spr {T : Nat} (now : Int) (z : Int → Int) (hn : 0 ≤ now ∧ now ≤ 1099511627776) (hz : ∀ i, 0 ≤ z i ∧ z i ≤ 1099511627776) (s : (Nat → List Int) × List Int) (h : Tot T s) (k : Nat) (hk : k < 448) : Tot T (sprF now z s k) := by
  have hs := sumR_set 448 k s.1 [] hk
  have h0 : Tot (T - (s.1 k).length) (setL s.1 k [], s.2) := by
    refine ⟨by have := h.sum; simp at *; omega, fun m hm => ?_, fun j i hi => ?_⟩
    · simp only [setL, if_neg (show m ≠ k by omega)]; exact h.beyond m hm
    · simp only [setL] at hi
      split at hi
      · cases hi
      · exact h.wf j i hi
  have h1 := tot_step now z hn hz (s.1 k) _ h0 (fun i hi => h.wf k i hi)
  have e : T - (s.1 k).length + (s.1 k).length = T := by have := h.le k; omega
  rw [e] at h1
  exact h1
theorem WM.setNow {w : World} {b o : Nat} {t : TypeId} {cs : Array Value} {now : Int} {mb : Option Nat} {D : DataW Unit} {vs : Nat → Value} {L : Nat → List Int} (h : WM w b t cs o now mb D vs L) (n : Int) :
    WM (w.setCell ⟨b, o, none⟩ (.int .i64 n)) b t (cs.setIfInBounds o (.int .i64 n)) o n mb D vs L ∧ SameOut o cs (cs.setIfInBounds o (.int .i64 n)) ∧ Gr (Fp b mb vs) w (w.setCell ⟨b, o, none⟩ (.int .i64 n)) := by
  have hsz := h.size
  have hg : Gr (fun c => c = b) w (w.setCell ⟨b, o, none⟩ (.int .i64 n)) := Gr.setCell w b o _ rfl
  refine ⟨⟨heap_setCell_same w b _ _ t _ h.row, by simpa using hsz, ?_, ?_, fun j hj => ?_, fun j hj => ?_, h.nil, h.apart, h.notb, ?_⟩, SameOut.set o _ cs _ (by omega) (by omega), hg.mono (fun x hx => .inl hx)⟩
  · rw [Array.getElem?_setIfInBounds_self_of_lt (by omega)]
  · rw [Array.getElem?_setIfInBounds_ne (by omega)]; exact h.c1
  · rw [Array.getElem?_setIfInBounds_ne (by omega)]; exact h.cl j hj
  · exact (h.own j hj).keepGr hg (fun c hc e => h.notb j hj (by rw [hc, e]))
  · rcases h.map with h1 | ⟨bm, k, h1, h2, h3⟩
    · exact .inl h1
    · exact .inr ⟨bm, k, h1, h2, h3.setCell (h3.ne_row h.row) _⟩
/-- the state of a turn. -/
def TuR (w W : World) (b : Nat) (t : TypeId) (cs : Array Value) (o : Nat) (now : Int) (mb : Option Nat) (D : DataW Unit) (vs : Nat → Value) (T : Nat) (s : (Nat → List Int) × List Int) (tv : Value) : Prop :=
  ∃ cs' vs', Mid W b t cs' o now mb D vs' s.1 tv s.2 ∧ SameOut o cs cs' ∧ Gr (Fp b mb vs) w W ∧ (∀ c, Fp b mb vs' c → Fp b mb vs c ∨ w.heap.size ≤ c) ∧ (∀ c, tv.ownBlock = some c → w.heap.size ≤ c) ∧ Tot T s ∧ (mb = none → ∀ k, s.1 k = [])
theorem spr_none (now : Int) (z : Int → Int) (s : (Nat → List Int) × List Int) (k : Nat) (h : ∀ k, s.1 k = []) : ∀ m, (sprF now z s k).1 m = [] := by
  intro m
  unfold sprF
  rw [h k]
  simp only [List.foldl_nil, setL]
  split
  · rfl
  · exact h m
section
variable {w W : World} {b : Nat} {t : TypeId} {cs : Array Value} {o : Nat} {now : Nat} {mb : Option Nat} {D : DataW Unit} {vs : Nat → Value} {T : Nat} {s : (Nat → List Int) × List Int} {tv : Value}
theorem TuR.spread (h : TuR w W b t cs o (now : Int) mb D vs T s tv) (z : Int → Int) (hz : Says D z) (hzz : ∀ i, 0 ≤ z i ∧ z i ≤ 1099511627776) (hn : now ≤ 1099511627776) (hT : T ≤ 1000000) (l a : Nat) (hl : l < 7) (ha : a < 64) :
    Calls Try.prog 32 #[.pointer (some ⟨b, o, none⟩), .int .i64 (l : Int), .int .i64 (a : Int), tv] W fun e w' => ∃ ov', e = .returned ov' ∧ TuR w w' b t cs o (now : Int) mb D vs T (sprF (now : Int) z s (64 * l + a)) ov' := by
  obtain ⟨cs', vs', hm, hso, hgr, hfp, htv, htot, hmb⟩ := h
  have hle := fun m => htot.le m
  have hof := htot.off
  refine (spread_any hm z hz htot.wf hn l a hl ha (fun m => by have := hle m; have := hle (64 * l + a); omega) (by have := hle (64 * l + a); omega) hmb).mono ?_
  rintro e w' ⟨cs2, vs2, ov', rfl, hm2, hso2, hg2, hfp2, hov2⟩
  refine ⟨ov', rfl, cs2, vs2, hm2, hso.trans hso2, hgr.trans hg2 (fun x hx => ?_), fun c hc => ?_, fun c hc => ?_, tot_spr _ z (by omega) hzz s htot _ (by omega), fun h0 => spr_none _ z s _ (hmb h0)⟩
  · rcases hx with hx | hx
    · exact hfp x hx
    · exact .inr (htv x hx)
  · rcases hfp2 c hc with h1 | h1
    · exact hfp c h1
    · have := hgr.size; exact .inr (by omega)
  · rcases hov2 c hc with h1 | h1
    · exact htv c h1
    · have := hgr.size; omega
end
theorem hid {p : Prop} (h : p) : Hid p := h
theorem meas_up {p n : Nat} (h : p < n) : Hid (n - ((p : Int) + 1).toNat < n - ((p : Int)).toNat) := (by omega : n - ((p : Int) + 1).toNat < n - ((p : Int)).toNat)
theorem cast_up (d q : Nat) : Hid (((d + q : Nat) : Int) + 1 = ((d + (q + 1) : Nat) : Int)) := (by omega : ((d + q : Nat) : Int) + 1 = ((d + (q + 1) : Nat) : Int))
theorem wrap_up {p : Nat} (h : p < 1000000000000) : wrap64 ((p : Int) + 1) = (p : Int) + 1 := by unfold wrap64; omega
theorem rowP_snoc (l d i : Nat) : rowP l d (i + 1) = rowP l d i ++ [64 * l + (d + i)] := by unfold rowP; rw [List.range_succ, List.map_append]; rfl
theorem rowF_snoc (now : Int) (z : Int → Int) (s : (Nat → List Int) × List Int) (l d i : Nat) : (rowP l d (i + 1)).foldl (sprF now z) s = sprF now z ((rowP l d i).foldl (sprF now z) s) (64 * l + (d + i)) := by rw [rowP_snoc, List.foldl_append]; rfl
theorem levs_snoc (a : Nat) (now : Int) (z : Int → Int) (s : (Nat → List Int) × List Int) (l : Nat) : (List.range (l + 1)).foldl (levF a now z) s = levF a now z ((List.range l).foldl (levF a now z) s) l := by rw [List.range_succ, List.foldl_append]; rfl
set_option maxRecDepth 10000 in
set_option maxHeartbeats 8000000 in
theorem turn_any {w : World} {b o : Nat} {t : TypeId} {cs : Array Value} {A tn : Nat} {mb : Option Nat} {D : DataW Unit} {vs : Nat → Value} {L : Nat → List Int} {T : Nat} (h : WM w b t cs o (A : Int) mb D vs L) (z : Int → Int) (hz : Says D z) (hzz : ∀ i, 0 ≤ z i ∧ z i ≤ 1099511627776) (hA : A ≤ tn) (hto : tn ≤ 1099511627776) (hT : T ≤ 1000000) (htot : Tot T (L, [])) (hmb : mb = none → ∀ k, L k = []) :
    Calls Try.prog 23 #[.pointer (some ⟨b, o, none⟩), .int .i64 (tn : Int)] w fun e w' => ∃ ov, e = .returned ov ∧ TuR w w' b t cs o (tn : Int) mb D vs T (turnF (A : Int) (tn : Int) z L) ov := by
  have c0 := (h.cell o).trans h.c0
  have f0 := h.free o
  have CP := fun w h => place_any b o A tn (by omega) hto w h
  have htp := lv_le tn A hto (by omega)
  have hl64 := dg_lt tn (lv tn A)
  have hturn : turnF (A : Int) (tn : Int) z L = (rowP (lv tn A) (dg A (lv tn A)) (dg tn (lv tn A) + 1 - dg A (lv tn A))).foldl (sprF (tn : Int) z) ((List.range (lv tn A)).foldl (levF A (tn : Int) z) (L, [])) := rfl
  rw [hturn]
  have hle : dg A (lv tn A) ≤ dg tn (lv tn A) := (later_dg A tn (by omega) (by omega) hA).1
  obtain ⟨hw1, hso1, hg1⟩ := h.setNow (tn : Int)
  have h1 : TuR w (w.setCell ⟨b, o, none⟩ (.int .i64 (tn : Int))) b t cs o (tn : Int) mb D vs T (L, []) (.slice none 0 0) :=
    ⟨_, _, ⟨hw1, World.ownsRow_nil _ _ _ _, fun c hc => by simp [Value.ownBlock] at hc⟩, hso1, hg1, fun c hc => .inl hc, fun c hc => by simp [Value.ownBlock] at hc, htot, hmb⟩
  clear hw1 hso1 hg1 hturn h hmb htot
  generalize lv tn A = top at *
  generalize dg tn top = last at *
  have DG := fun l (hl : l ≤ 6) w => digit_any A l (by omega) hl w
  have DGt := fun w => DG top htp w
  have hd1 := dg_lt A top
  generalize dg A top = d1 at *
  go_enter Try.func23, Try.ntmps23
  go_wp2_with (first
    | (go_at_call 28; refine (CP _ c0).mono ?_; rintro e w' ⟨rfl, hw⟩; rw [hw]; clear hw w'))
  go_loopw [8, 27] (fun tv i W => ∃ l : Nat, l ≤ top ∧ i = .int .i64 (l : Int) ∧ TuR w W b t cs o (tn : Int) mb D vs T ((List.range l).foldl (levF A (tn : Int) z) (L, [])) tv) (fun _ i _ => top - (intOf i).toNat)
  case atStart => exact ⟨0, Nat.zero_le _, rfl, h1⟩
  case round =>
    clear h1 c0 f0
    obtain ⟨l, hl, rfl, hR⟩ := hrel
    by_cases hlt : l < top
    · have hli : (l : Int) < (top : Int) := by omega
      have hlw := wrap_up (p := l) (by omega)
      have DGl := fun w => DG l (by omega) w
      have hd64 := dg_lt A l
      have HM := meas_up hlt
      have hsn0 := levs_snoc A (tn : Int) z (L, []) l
      unfold levF at hsn0
      obtain ⟨sl, hsl⟩ : ∃ sl, sl = (List.range l).foldl (levF A (tn : Int) z) (L, []) := ⟨_, rfl⟩
      have HSN : Hid ((List.range (l + 1)).foldl (levF A (tn : Int) z) (L, []) = (rowP l (dg A l) (64 - dg A l)).foldl (sprF (tn : Int) z) sl) := by show _ = _; rw [hsl]; exact levs_snoc A (tn : Int) z (L, []) l
      rw [← hsl] at hR
      clear hsl hsn0
      generalize dg A l = d0 at *
      go_wp2_with (first
        | (go_at_call 31; refine (DGl _).mono ?_; rintro e w' ⟨rfl, hw⟩; rw [hw]; clear hw w'))
      go_loopw [8, 10] (fun tv i W => ∃ q : Nat, q ≤ 64 - d0 ∧ i = .int .i64 ((d0 + q : Nat) : Int) ∧ TuR w W b t cs o (tn : Int) mb D vs T ((rowP l (d0) q).foldl (sprF (tn : Int) z) sl) tv) (fun _ i _ => 64 - (intOf i).toNat)
      case atStart => exact ⟨0, Nat.zero_le _, rfl, hR⟩
      case round =>
        clear hR
        obtain ⟨q, hq, rfl, hR⟩ := hrel
        by_cases hqt : d0 + q < 64
        · have hqi : ((d0 + q : Nat) : Int) < 64 := by omega
          have HM2 := meas_up hqt
          have HQ : Hid (q + 1 ≤ 64 - d0) := hid (by omega)
          have HE := cast_up (d0) q
          have CS := hR.spread z hz hzz hto hT l (d0 + q) (by omega) hqt
          rw [← rowF_snoc] at CS
          have hqw := wrap_up (p := d0 + q) (by omega)
          clear hR
          generalize (d0 + q) = p at *
          clear hlw hli hlt hl HM HSN DGl DG DGt hle hl64 hd1 htp hA hto hT hzz hz CP hd64 hq hqt
          go_wp2_with (first
            | (go_at_call 32; go_fit CS; rintro e w2 ⟨ov2, rfl, hR2⟩))
          go_roundw
          case rel => exact ⟨q + 1, HQ.out, congrArg (Value.int IntKind.i64) (by first | exact HE.out | exact hqw.trans HE.out), hR2⟩
          case measure => first | exact HM2.out | (rw [hqw]; exact HM2.out)
        · have hqi : ¬ ((d0 + q : Nat) : Int) < 64 := by omega
          obtain rfl : q = 64 - d0 := by omega
          rw [← HSN.out] at hR
          generalize ((d0 + (64 - d0) : Nat) : Int) = p at *
          have HL1 : Hid (l + 1 ≤ top) := hid hlt
          clear hli hlt hl HSN DGl DG DGt hle hl64 hd1 htp hA hto hT hzz hz CP hd64 hq hqt
          go_wp2
          go_roundw
          case rel => exact ⟨l + 1, HL1.out, by go_num, hR⟩
          case measure => first | exact HM.out | (rw [hlw]; exact HM.out)
    · have hli : ¬ (l : Int) < (top : Int) := by omega
      obtain rfl : l = top := by omega
      go_wp2_with (first
        | (go_at_call 31; refine (DGt _).mono ?_; rintro e w' ⟨rfl, hw⟩; rw [hw]; clear hw w'))
      go_loopw [8, 11] (fun tv i W => ∃ q : Nat, q ≤ last + 1 - d1 ∧ i = .int .i64 ((d1 + q : Nat) : Int) ∧ TuR w W b t cs o (tn : Int) mb D vs T ((rowP l (d1) q).foldl (sprF (tn : Int) z) ((List.range l).foldl (levF A (tn : Int) z) (L, []))) tv) (fun _ i _ => last + 1 - (intOf i).toNat)
      case atStart => exact ⟨0, Nat.zero_le _, rfl, hR⟩
      case round =>
        clear hR
        obtain ⟨q, hq, rfl, hR⟩ := hrel
        by_cases hqt : d1 + q ≤ last
        · have hqi : ((d1 + q : Nat) : Int) ≤ (last : Int) := by omega
          have HM2 := meas_up (Nat.lt_succ_of_le hqt)
          have HQ : Hid (q + 1 ≤ last + 1 - d1) := hid (by omega)
          have HE := cast_up (d1) q
          have CS := hR.spread z hz hzz hto hT l (d1 + q) (by omega) (by omega)
          rw [← rowF_snoc] at CS
          have hqw := wrap_up (p := d1 + q) (by omega)
          clear hR
          generalize (d1 + q) = p at *
          clear hli hl DG DGt hle hl64 hd1 htp hA hto hT hzz hz CP hq hqt
          go_wp2_with (first
            | (go_at_call 32; go_fit CS; rintro e w2 ⟨ov2, rfl, hR2⟩))
          go_roundw
          case rel => exact ⟨q + 1, HQ.out, congrArg (Value.int IntKind.i64) (by first | exact HE.out | exact hqw.trans HE.out), hR2⟩
          case measure => first | exact HM2.out | (rw [hqw]; exact HM2.out)
        · have hqi : ¬ ((d1 + q : Nat) : Int) ≤ (last : Int) := by omega
          obtain rfl : q = last + 1 - d1 := by omega
          generalize ((d1 + (last + 1 - d1) : Nat) : Int) = p at *
          clear hli hl DG DGt hle hl64 hd1 htp hA hto hT hzz hz CP hq hqt
          go_wp2
          go_ret
          exact ⟨_, rfl, hR⟩
end Go.Proofs.Ytphijplgnffoiaa
