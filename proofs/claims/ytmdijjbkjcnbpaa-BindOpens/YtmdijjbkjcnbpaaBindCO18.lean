/-
  Of what BindCloses, BindOpens stands on: part 18.
-/
import Derived.Test.YtmdijjbkjcnbpaaBindCO17
namespace Go.Proofs.Ytmdijjbkjcnbpaa
open Go.ChangeShapes Go.WideShapes Go.ChangeAt Go.RowKit
set_option linter.unusedSimpArgs false
set_option linter.unusedVariables false

def setArr (cs : Array Value) : Nat → List Value → Array Value
  | _, [] => cs
  | o, v :: r => setArr (cs.setIfInBounds o v) (o + 1) r
theorem Row.setAll {t : TypeId} {b : Nat} : ∀ (vs : List Value) (o : Nat) (w : World) (cs : Array Value), Row t w b cs → Row t (w.setCells b o vs) b (setArr cs o vs)
  | [], _, _, _, h => h
  | v :: r, o, w, cs, h => by unfold World.setCells setArr; exact Row.setAll r (o + 1) _ _ h.set
theorem turned_cells (b : Nat) : ∀ (vs : List Value) (o : Nat) (w : World), Turned b w (w.setCells b o vs)
  | [], _, w => ⟨rfl, fun _ _ => rfl, fun _ _ _ h => h⟩
  | v :: r, o, w => by
    have h := turned_cells b r (o + 1) (w.setCell ⟨b, o, none⟩ v)
    unfold World.setCells
    exact ⟨h.size.trans (by simp), fun k hk => (h.other k hk).trans (Below.heap_setCell _ _ _ _ hk), fun B w0 hB hb => h.below B w0 hB (hb.setCell (p := ⟨b, o, none⟩) hB v)⟩
theorem tc_setP (f f' : Nat → Int) (g g' : Nat → Bool) (h : Nat → Int) (sl : Value) : setArr (tc f g h sl) 0 (pc f' g').toList = tc f' g' h sl := by kernel_rfl
/-- the pool of a table is written whole. -/
theorem wpList_storeP {ops : Array Oper} {rest : List Oper} {o : Oper} {a : Act} {w : World} {Q : Exit → Act → World → Prop} (hgd : o.guard = none) (x y : Operand) (ho : o.op = .store 26 x y)
    (b : Nat) (hx : a.eval x = .pointer (some ⟨b, 0, none⟩)) (f' : Nat → Int) (g' : Nat → Bool) (hy : a.eval y = .agg (pc f' g')) (f : Nat → Int) (g : Nat → Bool) (h : Nat → Int) (sl : Value) (R : Row 30 w b (tc f g h sl))
    (hr : ∀ w', Row 30 w' b (tc f' g' h sl) → Turned b w w' → wpList Try.prog ops Q rest (a.put o.dst undef) w') : wpList Try.prog ops Q (o :: rest) a w := by
  have ht : w.there b 0 (pc f' g').size := fun j hj => by
    have hj' : j < 21 := hj
    refine ⟨?_, R.free _⟩
    rw [R.cell, Nat.zero_add, Array.getElem?_eq_getElem (by rw [tc_size]; omega)]; rfl
  refine wpList_store_mid hgd 26 x y ho b 0 (pc f' g') hx hy ht (pc_info f' g') (pc_one f' g') ?_
  have R' := Row.setAll (pc f' g').toList 0 w _ R
  rw [tc_setP] at R'
  exact hr _ R' (turned_cells b _ 0 w)
theorem results_row4 {fn : Func} {p u v x : Tmp} {t : TypeId} (hf : fn.results = #[.cell p t, .tmp u, .tmp v, .tmp x]) (tmps : Array Value) (w : World) (b : Nat) (cs : Array Value) (hp : tmps.getD p undef = .pointer (some ⟨b, 0, none⟩)) (h : Row t w b cs) (d : TypeDesc) (hu : Try.prog.underlying t = some d) (hd : d.isRow = true) (hi : (Try.prog.info? t).map (·.size) = some cs.size) :
    (results fn tmps).run Try.prog w = .ok (.tuple #[.agg cs, tmps.getD u undef, tmps.getD v undef, tmps.getD x undef]) w := by
  have hp' : tmps[p]?.getD undef = .pointer (some ⟨b, 0, none⟩) := by simpa using hp
  have hl := run_loadVar_mid (P := Try.prog) w b 0 t cs.toList d (h.range (fun j v hv => by rw [Nat.zero_add]; simpa using hv)) hu hd (by simpa using hi)
  simp only [Array.toArray_toList] at hl
  simp [results, hf, hp', asAddr, hl]
theorem pool_zeroB (w : World) : (zeroValue 26).run Try.prog w = .ok (.agg (pc (fun _ => 0) (fun _ => false))) w := by kernel_rfl
theorem turned_undr {b : Nat} {w w' : World} (h : Turned b w.drew w') : Turned b w w' := ⟨h.size, h.other, fun B w0 hB hb => h.below B w0 hB (below_drew hb)⟩
/-- what room hands back. -/
def roomS (g : Nat → Bool) (sl : Value) (r : RoomR) : Value := .tuple #[.agg (tc r.f g r.h sl), .int .i64 r.q, .bool r.took, .int .i64 r.e]
theorem pc_sz (f f' : Nat → Int) (g g' : Nat → Bool) : (pc f g).size = (pc f' g').size := by rw [pc_size, pc_size]
theorem tc_sz (f f' : Nat → Int) (g g' : Nat → Bool) (h h' : Nat → Int) (sl sl' : Value) : (tc f g h sl).size = (tc f' g' h' sl').size := by rw [tc_size, tc_size]
attribute [local irreducible] tc pc
set_option maxRecDepth 20000 in
set_option maxHeartbeats 4000000 in
theorem room_any (f : Nat → Int) (g : Nat → Bool) (h : Nat → Int) (sl : Value) (ms : List Mp) (p s d : Int) (w : World) (hM : MapsAt w sl ms) (G : GoodT f h ms) (hs : 0 ≤ s ∧ s < 8) (hd : (Lit.int .i64 d).wf = true) :
    Calls Try.prog 41 #[.agg (tc f g h sl), .int .i64 p, .int .i64 s, .int .i64 d] w fun e w' => e = .returned (roomS g sl (roomR f g h ms p s d)) ∧ Below w.heap.size w w' := by
  have hB := Below.refl w.heap.size w
  have hM0 := hM
  obtain ⟨a0, cap, hsl, -⟩ := hM0
  obtain ⟨n, hn⟩ : ∃ n, n = ms.length := ⟨_, rfl⟩
  rw [← hn] at hsl
  subst hsl
  have HN : Hid (n = ms.length) := hn
  clear hn
  have hlt := hM.lt
  have hs0 : 0 ≤ s := hs.1
  have hs8 : s < 8 := hs.2
  have hs8n : s.toNat < 8 := by omega
  have hhome := G.homeIn hs
  have C1 := fun w => blocksOf_any f g h (.slice a0 n cap) s hs0 hs8 w
  have hbl : (blocksL f s).length ≤ 18 := blocksTo_len f s 18
  have C2 := fun base v w hM hP => unused_any f g h (.slice a0 n cap) ms p base v (blocksL f s) w hM hP hbl
  have C3 := fun w => address_any f g h (.slice a0 n cap) s d hs0 hs8 hhome.1 hhome.2 hd w
  clear hhome G
  cases hu : unusedO ms p (blocksL f s) with
  | some x =>
    have HR : Hid (roomR f g h ms p s d = _) := roomR_some hu
    rw [hu] at C2
    unfold unS at C2
    obtain ⟨LL, hLL⟩ : ∃ LL, LL = (blocksL f s).length := ⟨_, rfl⟩
    rw [← hLL] at C1
    clear hLL hbl hu
    go_enter Try.func41, Try.ntmps41
    go_wp2_with (first
      | (refine wpList_boxR 30 rfl _ rfl _ rfl ?_; intro b4 w1 l4 R4 hb1; replace l4 := Nat.le_trans hB.size l4; replace hB := hB.trans (hb1.mono hB.size))
      | (refine wpList_allocR 30 rfl rfl _ table_zero ?_; intro b8 w2 l8 R8 hb2; have n48 := R4.ne l8; replace l8 := Nat.le_trans hB.size l8; replace R4 := R4.below hb2; replace hB := hB.trans (hb2.mono hB.size))
      | (refine wpList_loadR 30 (.tmp 4) rfl rfl b4 rfl (tc f g h (.slice a0 n cap)) R4 _ Try.underlying30 rfl (tc_info _ _ _ _) ?_)
      | (go_at_call 48; go_fit (C1 _); rintro e w5 ⟨v, rfl, ⟨a1, c1, rfl⟩, hP, hb5⟩; replace R4 := R4.below hb5; replace R8 := R8.below hb5; replace hB := hB.trans (hb5.mono hB.size))
      | (go_at_call 50; go_fit (C2 _ _ _ (hM.keep hB hlt) hP); rintro e w5 ⟨rfl, hb5⟩; replace R4 := R4.below hb5; replace R8 := R8.below hb5; replace hB := hB.trans (hb5.mono hB.size))
      | (refine wpList_storeR 30 rfl (.tmp 8) _ rfl b8 rfl (tc f g h (.slice a0 n cap)) rfl _ R8 (tc_sz _ _ _ _ _ _ _ _) (tc_info _ _ _ _) (tc_one _ _ _ _ _ _) ?_; intro w6 R8 t6; replace hB := t6.below _ _ l8 hB))
    ((try simp only [Exit.inBlock, Exit.then]); refine bodyPost_ret (results_row4 rfl _ _ _ _ rfl R8 _ Try.underlying30 rfl (tc_info _ _ _ _)) rfl ⟨?_, hB⟩)
    rw [HR.out]; rfl
  | none =>
    rw [hu] at C2
    unfold unS at C2
    obtain ⟨LL, hLL⟩ : ∃ LL, LL = (blocksL f s).length := ⟨_, rfl⟩
    rw [← hLL] at C1
    by_cases h2 : (blocksL f s).length = 2
    · have HR : Hid (roomR f g h ms p s d = _) := roomR_full hu h2
      have dL : ((LL : Int) == 2) = true := by simp; omega
      clear hLL hbl hu h2
      go_enter Try.func41, Try.ntmps41
      go_wp2_with (first
        | (refine wpList_boxR 30 rfl _ rfl _ rfl ?_; intro b4 w1 l4 R4 hb1; replace l4 := Nat.le_trans hB.size l4; replace hB := hB.trans (hb1.mono hB.size))
        | (refine wpList_allocR 30 rfl rfl _ table_zero ?_; intro b8 w2 l8 R8 hb2; have n48 := R4.ne l8; replace l8 := Nat.le_trans hB.size l8; replace R4 := R4.below hb2; replace hB := hB.trans (hb2.mono hB.size))
        | (refine wpList_loadR 30 (.tmp 4) rfl rfl b4 rfl (tc f g h (.slice a0 n cap)) R4 _ Try.underlying30 rfl (tc_info _ _ _ _) ?_)
        | (go_at_call 48; go_fit (C1 _); rintro e w5 ⟨v, rfl, ⟨a1, c1, rfl⟩, hP, hb5⟩; replace R4 := R4.below hb5; replace R8 := R8.below hb5; replace hB := hB.trans (hb5.mono hB.size))
        | (go_at_call 50; go_fit (C2 _ _ _ (hM.keep hB hlt) hP); rintro e w5 ⟨rfl, hb5⟩; replace R4 := R4.below hb5; replace R8 := R8.below hb5; replace hB := hB.trans (hb5.mono hB.size))
        | (refine wpList_storeR 30 rfl (.tmp 8) _ rfl b8 rfl (tc f g h (.slice a0 n cap)) rfl _ R8 (tc_sz _ _ _ _ _ _ _ _) (tc_info _ _ _ _) (tc_one _ _ _ _ _ _) ?_; intro w6 R8 t6; replace hB := t6.below _ _ l8 hB))
      ((try simp only [Exit.inBlock, Exit.then]); refine bodyPost_ret (results_row4 rfl _ _ _ _ rfl R8 _ Try.underlying30 rfl (tc_info _ _ _ _)) rfl ⟨?_, hB⟩)
      rw [HR.out]; rfl
    · have dL : ((LL : Int) == 2) = false := by simp; omega
      by_cases hE : addrE f g h s = 0
      rotate_left
      · have HR : Hid (roomR f g h ms p s d = _) := roomR_addr hu h2 hE
        have dE : (addrE f g h s != 0) = true := by simp [hE]
        clear hLL hbl hu h2 hE
        generalize addrE f g h s = EE at *
        generalize addrA f g h s d = aa at *
        go_enter Try.func41, Try.ntmps41
        go_wp2_with (first
          | (refine wpList_boxR 30 rfl _ rfl _ rfl ?_; intro b4 w1 l4 R4 hb1; replace l4 := Nat.le_trans hB.size l4; replace hB := hB.trans (hb1.mono hB.size))
          | (refine wpList_allocR 30 rfl rfl _ table_zero ?_; intro b8 w2 l8 R8 hb2; have n48 := R4.ne l8; replace l8 := Nat.le_trans hB.size l8; replace R4 := R4.below hb2; replace hB := hB.trans (hb2.mono hB.size))
          | (refine wpList_loadR 30 (.tmp 4) rfl rfl b4 rfl (tc f g h (.slice a0 n cap)) R4 _ Try.underlying30 rfl (tc_info _ _ _ _) ?_)
          | (go_at_call 48; go_fit (C1 _); rintro e w5 ⟨v, rfl, ⟨a1, c1, rfl⟩, hP, hb5⟩; replace R4 := R4.below hb5; replace R8 := R8.below hb5; replace hB := hB.trans (hb5.mono hB.size))
          | (go_at_call 50; go_fit (C2 _ _ _ (hM.keep hB hlt) hP); rintro e w5 ⟨rfl, hb5⟩; replace R4 := R4.below hb5; replace R8 := R8.below hb5; replace hB := hB.trans (hb5.mono hB.size))
          | (refine wpList_storeR 30 rfl (.tmp 8) _ rfl b8 rfl (tc f g h (.slice a0 n cap)) rfl _ R8 (tc_sz _ _ _ _ _ _ _ _) (tc_info _ _ _ _) (tc_one _ _ _ _ _ _) ?_; intro w6 R8 t6; replace hB := t6.below _ _ l8 hB)
          | (go_at_call 51; go_fit (C3 _); rintro e w5 ⟨rfl, hb5⟩; clear hP; replace R4 := R4.below hb5; replace R8 := R8.below hb5; replace hB := hB.trans (hb5.mono hB.size); have hrp := R4.pool))
        ((try simp only [Exit.inBlock, Exit.then]); refine bodyPost_ret (results_row4 rfl _ _ _ _ rfl R8 _ Try.underlying30 rfl (tc_info _ _ _ _)) rfl ⟨?_, hB⟩)
        rw [HR.out]; rfl
      · by_cases hT : takeE f g s (addrA f g h s d) = 0
        rotate_left
        · have HR : Hid (roomR f g h ms p s d = _) := roomR_take hu h2 hE hT
          rw [hE] at C3
          have C4 := fun w => take_anyP f g s (addrA f g h s d) d hd w
          unfold takeS plv at C4
          have dT : (takeE f g s (addrA f g h s d) != 0) = true := by simp [hT]
          clear hLL hbl hu h2 hE hT
          generalize addrA f g h s d = aa at *
          generalize takeE f g s aa = EE at *
          generalize takeF f g s aa d = FF at *
          generalize takeK f g s aa d = KK at *
          go_enter Try.func41, Try.ntmps41
          go_wp2_with (first
            | (refine wpList_boxR 30 rfl _ rfl _ rfl ?_; intro b4 w1 l4 R4 hb1; replace l4 := Nat.le_trans hB.size l4; replace hB := hB.trans (hb1.mono hB.size))
            | (refine wpList_allocR 30 rfl rfl _ table_zero ?_; intro b8 w2 l8 R8 hb2; have n48 := R4.ne l8; replace l8 := Nat.le_trans hB.size l8; replace R4 := R4.below hb2; replace hB := hB.trans (hb2.mono hB.size))
            | (refine wpList_loadR 30 (.tmp 4) rfl rfl b4 rfl (tc f g h (.slice a0 n cap)) R4 _ Try.underlying30 rfl (tc_info _ _ _ _) ?_)
            | (go_at_call 48; go_fit (C1 _); rintro e w5 ⟨v, rfl, ⟨a1, c1, rfl⟩, hP, hb5⟩; replace R4 := R4.below hb5; replace R8 := R8.below hb5; replace hB := hB.trans (hb5.mono hB.size))
            | (go_at_call 50; go_fit (C2 _ _ _ (hM.keep hB hlt) hP); rintro e w5 ⟨rfl, hb5⟩; replace R4 := R4.below hb5; replace R8 := R8.below hb5; replace hB := hB.trans (hb5.mono hB.size))
            | (refine wpList_storeR 30 rfl (.tmp 8) _ rfl b8 rfl (tc f g h (.slice a0 n cap)) rfl _ R8 (tc_sz _ _ _ _ _ _ _ _) (tc_info _ _ _ _) (tc_one _ _ _ _ _ _) ?_; intro w6 R8 t6; replace hB := t6.below _ _ l8 hB)
            | (go_at_call 51; go_fit (C3 _); rintro e w5 ⟨rfl, hb5⟩; clear hP; replace R4 := R4.below hb5; replace R8 := R8.below hb5; replace hB := hB.trans (hb5.mono hB.size); have hrp := R4.pool)
            | (refine wpList_load_mid rfl 26 (.tmp 48) rfl b4 0 rfl _ _ hrp Try.underlying26 rfl (pcl_infoB f g) ?_; rw [Array.toArray_toList])
            | (go_at_call 52; go_fit (C4 _); rintro e w5 ⟨rfl, hb5⟩; clear hrp; replace R4 := R4.below hb5; replace R8 := R8.below hb5; replace hB := hB.trans (hb5.mono hB.size))
            | (refine wpList_allocR 26 rfl rfl _ pool_zeroB ?_; intro b17 w7 l17 R17 hb7; have n417 := R4.ne l17; have n817 := R8.ne l17; replace l17 := Nat.le_trans hB.size l17; replace R4 := R4.below hb7; replace R8 := R8.below hb7; replace hB := hB.trans (hb7.mono hB.size))
            | (refine wpList_storeR 26 rfl (.tmp 17) _ rfl b17 rfl (pc FF g) rfl _ R17 (pc_sz _ _ _ _) (pc_info _ _) (pc_one _ _) ?_; intro w8 R17 t8; replace R4 := t8.row R4 n417; replace R8 := t8.row R8 n817; replace hB := t8.below _ _ l17 hB))
          ((try simp only [Exit.inBlock, Exit.then]); refine bodyPost_ret (results_row4 rfl _ _ _ _ rfl R8 _ Try.underlying30 rfl (tc_info _ _ _ _)) rfl ⟨?_, hB⟩)
          rw [HR.out]; rfl
        · have HR : Hid (roomR f g h ms p s d = _) := roomR_ok hu h2 hE hT
          rw [hE] at C3
          have C4 := fun w => take_anyP f g s (addrA f g h s d) d hd w
          unfold takeS plv at C4
          rw [hT] at C4
          obtain ⟨_, haR, _, _, hfr⟩ := takeE_inv hT
          have hKm := freeL_mem _ _ (drawnL_mem (freeL (rowF f (addrA f g h s d).toNat)) d hfr)
          have hKe : takeK f g s (addrA f g h s d) d = drawnL (freeL (rowF f (addrA f g h s d).toNat)) d := by unfold takeK; rw [if_pos hT]
          rw [← hKe] at hKm
          have hK6 := hKm.1
          clear hLL hbl hu h2 hE hT hfr hKm hKe
          generalize addrA f g h s d = aa at *
          generalize takeF f g s aa d = FF at *
          obtain ⟨kk, hkk⟩ : ∃ kk : Int, kk = ((takeK f g s aa d : Nat) : Int) := ⟨_, rfl⟩
          rw [← hkk] at C4 HR
          have hk0 : 0 ≤ kk := by omega
          have hk6 : kk ≤ 6 := by omega
          have haw : wrap64 (aa + 1) = aa + 1 := by unfold wrap64; omega
          have e8 : 1024 + 8 * kk = 1024 + kk * 8 := by omega
          rw [e8] at HR
          clear hkk hK6 e8 haR
          go_enter Try.func41, Try.ntmps41
          go_wp2_with (first
            | (refine wpList_boxR 30 rfl _ rfl _ rfl ?_; intro b4 w1 l4 R4 hb1; replace l4 := Nat.le_trans hB.size l4; replace hB := hB.trans (hb1.mono hB.size))
            | (refine wpList_allocR 30 rfl rfl _ table_zero ?_; intro b8 w2 l8 R8 hb2; have n48 := R4.ne l8; replace l8 := Nat.le_trans hB.size l8; replace R4 := R4.below hb2; replace hB := hB.trans (hb2.mono hB.size))
            | (refine wpList_loadR 30 (.tmp 4) rfl rfl b4 rfl (tc f g h (.slice a0 n cap)) R4 _ Try.underlying30 rfl (tc_info _ _ _ _) ?_)
            | (go_at_call 48; go_fit (C1 _); rintro e w5 ⟨v, rfl, ⟨a1, c1, rfl⟩, hP, hb5⟩; replace R4 := R4.below hb5; replace R8 := R8.below hb5; replace hB := hB.trans (hb5.mono hB.size))
            | (go_at_call 50; go_fit (C2 _ _ _ (hM.keep hB hlt) hP); rintro e w5 ⟨rfl, hb5⟩; replace R4 := R4.below hb5; replace R8 := R8.below hb5; replace hB := hB.trans (hb5.mono hB.size))
            | (refine wpList_storeR 30 rfl (.tmp 8) _ rfl b8 rfl (tc f g h (.slice a0 n cap)) rfl _ R8 (tc_sz _ _ _ _ _ _ _ _) (tc_info _ _ _ _) (tc_one _ _ _ _ _ _) ?_; intro w6 R8 t6; replace hB := t6.below _ _ l8 hB)
            | (go_at_call 51; go_fit (C3 _); rintro e w5 ⟨rfl, hb5⟩; clear hP; replace R4 := R4.below hb5; replace R8 := R8.below hb5; replace hB := hB.trans (hb5.mono hB.size); have hrp := R4.pool)
            | (refine wpList_load_mid rfl 26 (.tmp 48) rfl b4 0 rfl _ _ hrp Try.underlying26 rfl (pcl_infoB f g) ?_; rw [Array.toArray_toList])
            | (go_at_call 52; go_fit (C4 _); rintro e w5 ⟨rfl, hb5⟩; clear hrp; replace R4 := R4.below hb5; replace R8 := R8.below hb5; replace hB := hB.trans (hb5.mono hB.size))
            | (refine wpList_allocR 26 rfl rfl _ pool_zeroB ?_; intro b17 w7 l17 R17 hb7; have n417 := R4.ne l17; have n817 := R8.ne l17; replace l17 := Nat.le_trans hB.size l17; replace R4 := R4.below hb7; replace R8 := R8.below hb7; replace hB := hB.trans (hb7.mono hB.size))
            | (refine wpList_storeR 26 rfl (.tmp 17) _ rfl b17 rfl (pc FF g) rfl _ R17 (pc_sz _ _ _ _) (pc_info _ _) (pc_one _ _) ?_; intro w8 R17 t8; replace R4 := t8.row R4 n417; replace R8 := t8.row R8 n817; replace hB := t8.below _ _ l17 hB)
            | (refine wpList_loadR 26 (.tmp 17) rfl rfl b17 rfl (pc FF g) R17 _ Try.underlying26 rfl (pc_info _ _) ?_)
            | (refine wpList_storeP rfl (.tmp 62) (.tmp 61) rfl b4 rfl FF g rfl f g h (.slice a0 n cap) R4 ?_; intro w9 R4 t9; replace R8 := t9.row R8 n48.symm; clear R17; replace hB := t9.below _ _ l4 hB; have f4 := R4.free (21 + s.toNat); have c4 : World.cell? _ ⟨b4, 21 + s.toNat, none⟩ = some (.int .i64 (h s.toNat)) := (R4.cell _).trans (tc_home _ _ _ _ _ hs8n)))
          replace R4 := R4.set (o := 21 + s.toNat) (v := .int .i64 (aa + 1))
          rw [tc_setH _ _ _ _ _ _ hs8n] at R4
          replace R8 := R8.other (b := b4) (o := 21 + s.toNat) (v := .int .i64 (aa + 1)) n48.symm
          replace hB := hB.setCell (p := ⟨b4, 21 + s.toNat, none⟩) l4 (.int .i64 (aa + 1))
          refine wp_region_noPanic ?_
          refine wp_region_held_drew (S := fun W => Row 30 W b4 (tc FF g (upd h s.toNat (aa + 1)) (.slice a0 n cap))) (by kernel_rfl) R4 (fun _ => ?_)
          refine wpAnyH_take (i := 0) (v := .agg (tc FF g (upd h s.toNat (aa + 1)) (.slice a0 n cap))) rfl (by kernel_rfl) (by kernel_rfl) (by kernel_rfl) (fun _ _ _ h => h) (yields_loadR 30 (.tmp 4) rfl (by kernel_rfl) b4 (by kernel_rfl) (tc FF g (upd h s.toNat (aa + 1)) (.slice a0 n cap)) (fun _ h => h) _ Try.underlying30 rfl (tc_info _ _ _ _)) R4 ?_
          simp only [Act.put, List.getElem_toArray, List.getElem_cons_succ, List.getElem_cons_zero, List.setIfInBounds_toArray, List.set_cons_zero, List.set_cons_succ]
          refine wpAnyH_take (i := 1) (v := .int .i64 kk) rfl (by kernel_rfl) (by kernel_rfl) (by kernel_rfl) (fun _ _ _ h => h) (Or.inl ⟨by kernel_rfl, by intro w hS; go_simp⟩) R4 ?_
          simp only [Act.put, List.getElem_toArray, List.getElem_cons_succ, List.getElem_cons_zero, List.setIfInBounds_toArray, List.set_cons_zero, List.set_cons_succ]
          refine wpAnyH_ready (rs := [2]) (by kernel_rfl) (by simp) ?_
          refine AllReadyH.cons rfl (fun K hK => ?_) ?_
          · go_simp
            go_at_call 29; refine (firstPort_any kk hk0 hk6 _).mono ?_; rintro e w5 ⟨rfl, hw⟩; rw [hw]; clear hw w5
            go_wp2_with fail
            refine hK.out _ _ R4 (fun _ => ?_)
            clear hK K
            try simp only [Act.put, List.getElem_toArray, List.getElem_cons_succ, List.getElem_cons_zero, List.setIfInBounds_toArray, List.set_cons_zero, List.set_cons_succ]
            refine wpAnyH_ready (rs := [3]) (by kernel_rfl) (by simp) ?_
            refine AllReadyH.cons rfl (fun K hK => ?_) ?_
            · rw [if_pos (by kernel_rfl)]
              refine wp_storeR 30 (.tmp 8) (.tmp 68) rfl b8 rfl (tc FF g (upd h s.toNat (aa + 1)) (.slice a0 n cap)) rfl _ R8 (tc_sz _ _ _ _ _ _ _ _) (tc_info _ _ _ _) (tc_one _ _ _ _ _ _) ?_; intro w10 R8 t10; (try replace t10 := turned_undr t10); replace R4 := t10.row R4 n48; replace hB := t10.below _ _ l8 hB
              refine hK.out _ _ R4 (fun _ => ?_)
              clear hK K
              try simp only [Act.put, List.getElem_toArray, List.getElem_cons_succ, List.getElem_cons_zero, List.setIfInBounds_toArray, List.set_cons_zero, List.set_cons_succ]
              refine wpAnyH_take (i := 4) (v := .int .i64 (1024 + kk * 8)) rfl (by kernel_rfl) (by kernel_rfl) (by kernel_rfl) (fun _ _ _ h => h) (Or.inl ⟨by kernel_rfl, by intro w hS; go_simp⟩) R4 ?_
              simp only [Act.put, List.getElem_toArray, List.getElem_cons_succ, List.getElem_cons_zero, List.setIfInBounds_toArray, List.set_cons_zero, List.set_cons_succ]
              refine wpAnyH_take (i := 5) (v := .bool true) rfl (by kernel_rfl) (by kernel_rfl) (by kernel_rfl) (fun _ _ _ h => h) (Or.inl ⟨by kernel_rfl, by intro w hS; go_simp⟩) R4 ?_
              simp only [Act.put, List.getElem_toArray, List.getElem_cons_succ, List.getElem_cons_zero, List.setIfInBounds_toArray, List.set_cons_zero, List.set_cons_succ]
              refine wpAnyH_take (i := 6) (v := .int .i64 0) rfl (by kernel_rfl) (by kernel_rfl) (by kernel_rfl) (fun _ _ _ h => h) (Or.inl ⟨by kernel_rfl, by intro w hS; go_simp⟩) R4 ?_
              simp only [Act.put, List.getElem_toArray, List.getElem_cons_succ, List.getElem_cons_zero, List.setIfInBounds_toArray, List.set_cons_zero, List.set_cons_succ]
              refine wpAnyH_done (by kernel_rfl) ?_ _
              refine NoPanic.normal ?_
              go_wp2
              ((try simp only [Exit.inBlock, Exit.then]); refine bodyPost_ret (results_row4 rfl _ _ _ _ rfl R8 _ Try.underlying30 rfl (tc_info _ _ _ _)) rfl ⟨?_, by first | exact hB | exact below_drew hB⟩)
              rw [HR.out]; rfl
            exact AllReadyH.nil
          exact AllReadyH.nil
end Go.Proofs.Ytmdijjbkjcnbpaa
