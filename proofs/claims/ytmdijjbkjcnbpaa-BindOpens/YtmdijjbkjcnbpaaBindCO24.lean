/-
  Of what BindCloses, BindOpens stands on: part 24.
-/
import Derived.Test.YtmdijjbkjcnbpaaBindCO8
import Derived.Test.YtmdijjbkjcnbpaaBindCO13
import Derived.Test.YtmdijjbkjcnbpaaBindCO16
import Derived.Test.YtmdijjbkjcnbpaaBindCO18
import Derived.Test.YtmdijjbkjcnbpaaBindCO20
import Derived.Test.YtmdijjbkjcnbpaaBindCO23
namespace Go.Proofs.Ytmdijjbkjcnbpaa
open Go.ChangeShapes Go.WideShapes Go.ChangeAt Go.RowKit
set_option linter.unusedSimpArgs false
set_option linter.unusedVariables false

theorem anyIn_place {f h : Nat → Int} {l : List Mp} {m : Mp} (hall : ∀ o ∈ l, Stands f h o) (hs : Stands f h m) : anyInB l (plA m) (plB m) = l.any (fun o => placeM o == placeM m) := by
  have hin : ∀ o, Stands f h o → inP o = true := fun o x => by unfold inP; exact decide_eq_true ⟨x.2.2.2.1, x.2.2.2.2.1⟩
  rw [Bool.eq_iff_iff]
  unfold anyInB
  simp only [List.any_eq_true]
  constructor
  · rintro ⟨o, ho, h1⟩
    refine ⟨o, ho, ?_⟩
    have x := hall o ho
    rw [hin o x] at h1
    unfold plA plB at h1
    rw [hin o x, hin m hs] at h1
    simp at h1
    have := (placeN_inj x.2.2.2.2.1 x.2.2.2.1 hs.2.2.2.2.1 hs.2.2.2.1).2 h1
    simp [placeM, this]
  · rintro ⟨o, ho, h1⟩
    refine ⟨o, ho, ?_⟩
    have x := hall o ho
    have h2 : placeM o = placeM m := by simpa using h1
    have := (placeN_inj x.2.2.2.2.1 x.2.2.2.1 hs.2.2.2.2.1 hs.2.2.2.1).1 h2
    rw [hin o x]
    unfold plA plB
    rw [hin o x, hin m hs]
    simp [this]
theorem drop_sub {ms : List Mp} {m o : Mp} (h : o ∈ dropM ms m) : o ∈ ms := (List.mem_filter.1 h).1
def closeF (f : Nat → Int) (m : Mp) : Nat → Int := upd f (placeM m) 0
def closeH (f h : Nat → Int) (m : Mp) : Nat → Int := if (blocksL (closeF f m) m.2.1).length = 0 then upd h m.2.1.toNat 0 else h
theorem give_place {f h : Nat → Int} {ms : List Mp} {m : Mp} (G : GoodT f h ms) (hs : Stands f h m) (g : Nat → Bool) : giveS f g m.2.1 (plA m) (plB m) = .tuple #[plv (closeF f m) g, .int .i64 0] := by
  have hin : inP m = true := by unfold inP; exact decide_eq_true ⟨hs.2.2.2.1, hs.2.2.2.2.1⟩
  have ha : plA m = ((m.2.2.2.1.toNat : Nat) : Int) := by unfold plA; rw [if_pos hin]; have := hs.2.2.2.2.1; omega
  have hb : plB m = ((((m.2.2.2.2 - 1024) / 8).toNat : Nat) : Int) := by unfold plB; rw [if_pos hin]; have := hs.2.2.2.1; omega
  have e0 := giveE_ok (f := f) (s := m.2.1) (a := m.2.2.2.1.toNat) (k := ((m.2.2.2.2 - 1024) / 8).toNat) G.pool (by have := hs.2.2.2.2.1; omega) (by have := hs.2.2.2.1; omega) (inR_true hs.2.1.1 hs.2.1.2) hs.2.2.2.2.2.2
  unfold giveS giveF
  rw [ha, hb, e0, if_pos rfl, Int.toNat_natCast, Int.toNat_natCast]
  rfl
theorem wpList_storeV {ops : Array Oper} {rest : List Oper} {o : Oper} {a : Act} {w : World} {Q : Exit → Act → World → Prop} {t : TypeId} {b : Nat} {cs : Array Value} (R : Row t w b cs) (hgd : o.guard = none) (x y : Operand) (ho : o.op = .store 28 x y)
    (f : Nat) (hx : a.eval x = .pointer (some ⟨b, f, none⟩)) (p : Option Addr) (n c : Nat) (hy : a.eval y = .slice p n c) (old : Value) (hc : cs[f]? = some old) (ds : Array Value) (hd : cs.setIfInBounds f (.slice p n c) = ds)
    (hr : ∀ w', Row t w' b ds → Turned b w w' → wpList Try.prog ops Q rest (a.put o.dst undef) w') : wpList Try.prog ops Q (o :: rest) a w :=
  wpList_plain hgd fun K hK => by
    have hcell := (R.cell f).trans hc
    have hfr := R.free f
    unfold Oper.wp execOp
    simp only [ho, hx, hy]
    simp [go_sem, hcell, hfr, Try.underlying28]
    exact hK _ _ (hr _ (hd ▸ R.set) (turned_cell _ _ _ _))
attribute [local irreducible] tc pc
set_option maxRecDepth 20000 in
set_option maxHeartbeats 2000000 in
theorem close_in (f : Nat → Int) (g : Nat → Bool) (h : Nat → Int) (sl : Value) (ms : List Mp) (m : Mp) (hwH : wfH h) (w : World) (hM : MapsAt w sl ms) (G : GoodT f h ms) (hm : m ∈ ms) (ha : (dropM ms m).any (fun o => placeM o == placeM m) = true) :
    Calls Try.prog 20 #[.agg (tc f g h sl), .agg (mc m)] w fun e w' => ∃ v, e = .returned (.tuple #[.agg (tc f g h v), .bool false, .int .i64 0]) ∧ MapsAt w' v (dropM ms m) ∧ NilOk v ∧ (0 < (dropM ms m).length → w.heap.size ≤ mb v) ∧ Below w.heap.size w w' := by
  have hB := Below.refl w.heap.size w
  have hM0 := hM
  obtain ⟨a0, cap, hsl, -⟩ := hM0
  obtain ⟨n, hn⟩ : ∃ n, n = ms.length := ⟨_, rfl⟩
  rw [← hn] at hsl
  subst hsl
  have HN : Hid (n = ms.length) := hn
  clear hn
  have hlt := hM.lt
  obtain ⟨ln, hln⟩ : ∃ ln, ln = (dropM ms m).length := ⟨_, rfl⟩
  have HL : Hid (ln = (dropM ms m).length) := hln
  have HG : Hid (GoodT f h ms) := G
  have hlne : ((ln : Int) == (n : Int)) = false := by
    have h1 := count_drop (apart_ne G.maps) hm
    have h2 := HN.out
    have : (ln : Int) ≠ (n : Int) := by omega
    simpa using this
  have hst := G.maps.1 m hm
  have hin : inP m = true := by unfold inP; exact decide_eq_true ⟨hst.2.2.2.1, hst.2.2.2.2.1⟩
  have CG := fun w hM => goodt_any f g h (.slice a0 n cap) ms hwH w hM
  have CW := fun w hM => without_any (.slice a0 n cap) ms m w hM (Nat.le_trans G.len (by decide))
  have CPl := fun w => placeOf_any m w
  simp only [hin] at CPl
  have CA := fun sl w hM => anyIn_any sl (dropM ms m) (plA m) (plB m) w hM
  rw [anyIn_place (fun o ho => G.maps.1 o (drop_sub ho)) hst, ha] at CA
  clear hln G hm ha hst hin
  go_enter Try.func20, Try.ntmps20
  go_wp2_with (first | ((with_reducible refine at_opB (.box 30 (.tmp 0)) rfl ?_); refine wpList_boxR 30 rfl (.tmp 0) rfl _ rfl ?_; intro b2 w1 l2 R2 hb1; replace hB := hB.trans (hb1.mono hB.size)) | ((with_reducible refine at_opB (.box 32 (.tmp 1)) rfl ?_); refine wpList_boxR 32 rfl (.tmp 1) rfl (mc m) rfl ?_; intro b3 w1 l3 R3 hb1; replace R2 := R2.below hb1; replace hB := hB.trans (hb1.mono hB.size)) | ((with_reducible refine at_opB (.alloc 30) rfl ?_); refine wpList_allocX 4 30 rfl rfl rfl _ table_zero ?_; intro b4 w2 l4 R4 hb2; have n24 := R2.ne l4; have n34 := R3.ne l4; replace l4 := Nat.le_trans hB.size l4; replace R2 := R2.below hb2; replace R3 := R3.below hb2; replace hB := hB.trans (hb2.mono hB.size)) | ((with_reducible refine at_opB (.load 30 (.tmp 2)) rfl ?_); refine wpList_loadR 30 (.tmp 2) rfl rfl b2 rfl (tc f g h (.slice a0 n cap)) R2 _ Try.underlying30 rfl (tc_info _ _ _ _) ?_) | (go_at_call 14; go_fit (CG _ (hM.keep hB hlt)); rintro e w5 ⟨r, hr, rfl, hb5⟩; obtain rfl : r = true := (hr.2 HG.out); clear hr; replace R2 := R2.below hb5; replace R3 := R3.below hb5; replace R4 := R4.below hb5; replace hB := hB.trans (hb5.mono hB.size); have cM : World.cell? _ ⟨b2, 29, none⟩ = some (.slice a0 n cap) := (R2.cell 29).trans (tc_maps _ _ _ _)) | ((with_reducible refine at_opB (.load 32 (.tmp 3)) rfl ?_); refine wpList_loadR 32 (.tmp 3) rfl rfl b3 rfl (mc m) R3 _ Try.underlying32 rfl (mc_info _) ?_) | (go_at_call 45; go_fit (CW _ (hM.keep hB hlt)); rintro e w6 ⟨v, rfl, hMv, hNv, hbv, hb6⟩; clear cM; have x4 : 0 < (dropM ms m).length → mb v ≠ b4 := (fun hl => Nat.ne_of_gt (Nat.lt_of_lt_of_le R4.lt (hbv hl))); replace hbv : 0 < (dropM ms m).length → w.heap.size ≤ mb v := (fun hl => Nat.le_trans hB.size (hbv hl)); replace R2 := R2.below hb6; replace R3 := R3.below hb6; replace R4 := R4.below hb6; replace hB := hB.trans (hb6.mono hB.size); (obtain ⟨av, cv, hv, -⟩ := id hMv); rw [← HL.out] at hv; subst hv; have cM : World.cell? _ ⟨b2, 29, none⟩ = some (.slice a0 n cap) := (R2.cell 29).trans (tc_maps _ _ _ _)) | (go_at_call 33; go_fit (CPl _); rintro e w7 ⟨rfl, hb7⟩; clear cM; replace R2 := R2.below hb7; replace R3 := R3.below hb7; replace R4 := R4.below hb7; replace hMv := hMv.below hb7; replace hB := hB.trans (hb7.mono hB.size)) | ((with_reducible refine at_opB (.alloc 67) rfl ?_); refine wpList_allocX 8 67 rfl rfl rfl _ place_zero ?_; intro b8 w8 l8 R8 hb8; have n28 := R2.ne l8; have n38 := R3.ne l8; have n48 := R4.ne l8; have x8 := hMv.away3 l8; replace l8 := Nat.le_trans hB.size l8; replace R2 := R2.below hb8; replace R3 := R3.below hb8; replace R4 := R4.below hb8; replace hMv := hMv.below hb8; replace hB := hB.trans (hb8.mono hB.size)) | ((with_reducible refine at_opB (.store 67 (.tmp 8) (.tmp 29)) rfl ?_); refine wpList_storeR 67 rfl (.tmp 8) _ rfl b8 rfl (ic2 (plA m) (plB m)) rfl _ R8 rfl (ic2_info _ _) (ic2_one _ _) ?_; intro w9 R8 t9; replace R2 := t9.row R2 n28; replace R3 := t9.row R3 n38; replace R4 := t9.row R4 n48; replace hMv := maps_turned3 hMv x8 t9; replace hB := t9.below _ _ l8 hB) | ((with_reducible refine at_opB (.alloc 30) rfl ?_); refine wpList_allocX 10 30 rfl rfl rfl _ table_zero ?_; intro b10 w10 l10 R10 hb10; have n210 := R2.ne l10; have n310 := R3.ne l10; have n410 := R4.ne l10; have n810 := R8.ne l10; have x10 := hMv.away3 l10; replace l10 := Nat.le_trans hB.size l10; replace R2 := R2.below hb10; replace R3 := R3.below hb10; replace R4 := R4.below hb10; replace R8 := R8.below hb10; replace hMv := hMv.below hb10; replace hB := hB.trans (hb10.mono hB.size)) | ((with_reducible refine at_opB (.store 30 (.tmp 10) (.tmp 31)) rfl ?_); refine wpList_storeR 30 rfl (.tmp 10) _ rfl b10 rfl (tc f g h (.slice a0 n cap)) rfl _ R10 (tc_sz _ _ _ _ _ _ _ _) (tc_info _ _ _ _) (tc_one _ _ _ _ _ _) ?_; intro w11 R10 t11; replace R2 := t11.row R2 n210; replace R3 := t11.row R3 n310; replace R4 := t11.row R4 n410; replace R8 := t11.row R8 n810; replace hMv := maps_turned3 hMv x10 t11; replace hB := t11.below _ _ l10 hB) | ((with_reducible refine at_opB (.store 28 (.tmp 33) (.tmp 32)) rfl ?_); refine wpList_storeV R10 rfl _ _ rfl 29 rfl _ _ _ rfl _ (tc_maps _ _ _ _) (tc f g h (.slice av ln cv)) (tc_setM _ _ _ _ _) ?_; intro w12 R10 t12; replace R2 := t12.row R2 n210; replace R3 := t12.row R3 n310; replace R4 := t12.row R4 n410; replace R8 := t12.row R8 n810; replace hMv := maps_turned3 hMv x10 t12; replace hB := t12.below _ _ l10 hB) | ((with_reducible refine at_opB (.load 67 (.tmp 8)) rfl ?_); refine wpList_loadR 67 (.tmp 8) rfl rfl b8 rfl (ic2 (plA m) (plB m)) R8 _ Try.underlying67 rfl (ic2_info _ _) ?_) | (go_at_call 46; go_fit (CA _ _ hMv); rintro e w13 ⟨rfl, hb13⟩; replace R2 := R2.below hb13; replace R3 := R3.below hb13; replace R4 := R4.below hb13; replace R8 := R8.below hb13; replace R10 := R10.below hb13; replace hMv := hMv.below hb13; replace hB := hB.trans (hb13.mono hB.size) ) | ((with_reducible refine at_opB (.load 30 (.tmp 10)) rfl ?_); refine wpList_loadR 30 (.tmp 10) rfl rfl b10 rfl (tc f g h (.slice av ln cv)) R10 _ Try.underlying30 rfl (tc_info _ _ _ _) ?_) | ((with_reducible refine at_opB (.store 30 (.tmp 4) (.tmp 37)) rfl ?_); refine wpList_storeR 30 rfl (.tmp 4) _ rfl b4 rfl (tc f g h (.slice av ln cv)) rfl _ R4 (tc_sz _ _ _ _ _ _ _ _) (tc_info _ _ _ _) (tc_one _ _ _ _ _ _) ?_; intro w14 R4 t14; replace hMv := maps_turned3 hMv x4 t14; replace hB := t14.below _ _ l4 hB))
  ((try simp only [Exit.inBlock, Exit.then]); refine bodyPost_ret (results_row3 (p := 4) (u := 5) (v := 6) rfl _ _ _ _ rfl R4 _ Try.underlying30 rfl (tc_info _ _ _ _)) rfl ⟨_, rfl, hMv, hNv, hbv, hB⟩)
set_option maxRecDepth 20000 in
set_option maxHeartbeats 2000000 in
theorem close_zero (f : Nat → Int) (g : Nat → Bool) (h : Nat → Int) (sl : Value) (ms : List Mp) (m : Mp) (hwH : wfH h) (w : World) (hM : MapsAt w sl ms) (G : GoodT f h ms) (hm : m ∈ ms) (ha : (dropM ms m).any (fun o => placeM o == placeM m) = false) (hz : (blocksL (closeF f m) m.2.1).length = 0) :
    Calls Try.prog 20 #[.agg (tc f g h sl), .agg (mc m)] w fun e w' => ∃ v, e = .returned (.tuple #[.agg (tc (closeF f m) g (upd h m.2.1.toNat 0) v), .bool true, .int .i64 0]) ∧ MapsAt w' v (dropM ms m) ∧ NilOk v ∧ (0 < (dropM ms m).length → w.heap.size ≤ mb v) ∧ Below w.heap.size w w' := by
  have hB := Below.refl w.heap.size w
  have hM0 := hM
  obtain ⟨a0, cap, hsl, -⟩ := hM0
  obtain ⟨n, hn⟩ : ∃ n, n = ms.length := ⟨_, rfl⟩
  rw [← hn] at hsl
  subst hsl
  have HN : Hid (n = ms.length) := hn
  clear hn
  have hlt := hM.lt
  obtain ⟨ln, hln⟩ : ∃ ln, ln = (dropM ms m).length := ⟨_, rfl⟩
  have HL : Hid (ln = (dropM ms m).length) := hln
  have HG : Hid (GoodT f h ms) := G
  have hlne : ((ln : Int) == (n : Int)) = false := by
    have h1 := count_drop (apart_ne G.maps) hm
    have h2 := HN.out
    have : (ln : Int) ≠ (n : Int) := by omega
    simpa using this
  have hst := G.maps.1 m hm
  have hin : inP m = true := by unfold inP; exact decide_eq_true ⟨hst.2.2.2.1, hst.2.2.2.2.1⟩
  have CG := fun w hM => goodt_any f g h (.slice a0 n cap) ms hwH w hM
  have CW := fun w hM => without_any (.slice a0 n cap) ms m w hM (Nat.le_trans G.len (by decide))
  have CPl := fun w => placeOf_any m w
  simp only [hin] at CPl
  have CA := fun sl w hM => anyIn_any sl (dropM ms m) (plA m) (plB m) w hM
  rw [anyIn_place (fun o ho => G.maps.1 o (drop_sub ho)) hst, ha] at CA
  have CGi := fun w => give_any f g m.2.1 (plA m) (plB m) w
  rw [give_place G hst] at CGi
  have CB := fun av w => blocksOf_any (closeF f m) g h av m.2.1 hst.2.1.1 hst.2.1.2 w
  have hs8n : m.2.1.toNat < 8 := by have := hst.2.1; omega
  have hs0 : 0 ≤ m.2.1 := hst.2.1.1
  have hs8 : m.2.1 < 8 := hst.2.1.2
  rw [hz] at CB
  clear hln G hm ha hst hin hz
  go_enter Try.func20, Try.ntmps20
  go_wp2_with (first | ((with_reducible refine at_opB (.box 30 (.tmp 0)) rfl ?_); refine wpList_boxR 30 rfl (.tmp 0) rfl _ rfl ?_; intro b2 w1 l2 R2 hb1; replace hB := hB.trans (hb1.mono hB.size)) | ((with_reducible refine at_opB (.box 32 (.tmp 1)) rfl ?_); refine wpList_boxR 32 rfl (.tmp 1) rfl (mc m) rfl ?_; intro b3 w1 l3 R3 hb1; replace R2 := R2.below hb1; replace hB := hB.trans (hb1.mono hB.size)) | ((with_reducible refine at_opB (.alloc 30) rfl ?_); refine wpList_allocX 4 30 rfl rfl rfl _ table_zero ?_; intro b4 w2 l4 R4 hb2; have n24 := R2.ne l4; have n34 := R3.ne l4; replace l4 := Nat.le_trans hB.size l4; replace R2 := R2.below hb2; replace R3 := R3.below hb2; replace hB := hB.trans (hb2.mono hB.size)) | ((with_reducible refine at_opB (.load 30 (.tmp 2)) rfl ?_); refine wpList_loadR 30 (.tmp 2) rfl rfl b2 rfl (tc f g h (.slice a0 n cap)) R2 _ Try.underlying30 rfl (tc_info _ _ _ _) ?_) | (go_at_call 14; go_fit (CG _ (hM.keep hB hlt)); rintro e w5 ⟨r, hr, rfl, hb5⟩; obtain rfl : r = true := (hr.2 HG.out); clear hr; replace R2 := R2.below hb5; replace R3 := R3.below hb5; replace R4 := R4.below hb5; replace hB := hB.trans (hb5.mono hB.size); have cM : World.cell? _ ⟨b2, 29, none⟩ = some (.slice a0 n cap) := (R2.cell 29).trans (tc_maps _ _ _ _)) | ((with_reducible refine at_opB (.load 32 (.tmp 3)) rfl ?_); refine wpList_loadR 32 (.tmp 3) rfl rfl b3 rfl (mc m) R3 _ Try.underlying32 rfl (mc_info _) ?_) | (go_at_call 45; go_fit (CW _ (hM.keep hB hlt)); rintro e w6 ⟨v, rfl, hMv, hNv, hbv, hb6⟩; clear cM; have x4 : 0 < (dropM ms m).length → mb v ≠ b4 := (fun hl => Nat.ne_of_gt (Nat.lt_of_lt_of_le R4.lt (hbv hl))); replace hbv : 0 < (dropM ms m).length → w.heap.size ≤ mb v := (fun hl => Nat.le_trans hB.size (hbv hl)); replace R2 := R2.below hb6; replace R3 := R3.below hb6; replace R4 := R4.below hb6; replace hB := hB.trans (hb6.mono hB.size); (obtain ⟨av, cv, hv, -⟩ := id hMv); rw [← HL.out] at hv; subst hv; have cM : World.cell? _ ⟨b2, 29, none⟩ = some (.slice a0 n cap) := (R2.cell 29).trans (tc_maps _ _ _ _)) | (go_at_call 33; go_fit (CPl _); rintro e w7 ⟨rfl, hb7⟩; clear cM; replace R2 := R2.below hb7; replace R3 := R3.below hb7; replace R4 := R4.below hb7; replace hMv := hMv.below hb7; replace hB := hB.trans (hb7.mono hB.size)) | ((with_reducible refine at_opB (.alloc 67) rfl ?_); refine wpList_allocX 8 67 rfl rfl rfl _ place_zero ?_; intro b8 w8 l8 R8 hb8; have n28 := R2.ne l8; have n38 := R3.ne l8; have n48 := R4.ne l8; have x8 := hMv.away3 l8; replace l8 := Nat.le_trans hB.size l8; replace R2 := R2.below hb8; replace R3 := R3.below hb8; replace R4 := R4.below hb8; replace hMv := hMv.below hb8; replace hB := hB.trans (hb8.mono hB.size)) | ((with_reducible refine at_opB (.store 67 (.tmp 8) (.tmp 29)) rfl ?_); refine wpList_storeR 67 rfl (.tmp 8) _ rfl b8 rfl (ic2 (plA m) (plB m)) rfl _ R8 rfl (ic2_info _ _) (ic2_one _ _) ?_; intro w9 R8 t9; replace R2 := t9.row R2 n28; replace R3 := t9.row R3 n38; replace R4 := t9.row R4 n48; replace hMv := maps_turned3 hMv x8 t9; replace hB := t9.below _ _ l8 hB) | ((with_reducible refine at_opB (.alloc 30) rfl ?_); refine wpList_allocX 10 30 rfl rfl rfl _ table_zero ?_; intro b10 w10 l10 R10 hb10; have n210 := R2.ne l10; have n310 := R3.ne l10; have n410 := R4.ne l10; have n810 := R8.ne l10; have x10 := hMv.away3 l10; replace l10 := Nat.le_trans hB.size l10; replace R2 := R2.below hb10; replace R3 := R3.below hb10; replace R4 := R4.below hb10; replace R8 := R8.below hb10; replace hMv := hMv.below hb10; replace hB := hB.trans (hb10.mono hB.size)) | ((with_reducible refine at_opB (.store 30 (.tmp 10) (.tmp 31)) rfl ?_); refine wpList_storeR 30 rfl (.tmp 10) _ rfl b10 rfl (tc f g h (.slice a0 n cap)) rfl _ R10 (tc_sz _ _ _ _ _ _ _ _) (tc_info _ _ _ _) (tc_one _ _ _ _ _ _) ?_; intro w11 R10 t11; replace R2 := t11.row R2 n210; replace R3 := t11.row R3 n310; replace R4 := t11.row R4 n410; replace R8 := t11.row R8 n810; replace hMv := maps_turned3 hMv x10 t11; replace hB := t11.below _ _ l10 hB) | ((with_reducible refine at_opB (.store 28 (.tmp 33) (.tmp 32)) rfl ?_); refine wpList_storeV R10 rfl _ _ rfl 29 rfl _ _ _ rfl _ (tc_maps _ _ _ _) (tc f g h (.slice av ln cv)) (tc_setM _ _ _ _ _) ?_; intro w12 R10 t12; replace R2 := t12.row R2 n210; replace R3 := t12.row R3 n310; replace R4 := t12.row R4 n410; replace R8 := t12.row R8 n810; replace hMv := maps_turned3 hMv x10 t12; replace hB := t12.below _ _ l10 hB) | ((with_reducible refine at_opB (.load 67 (.tmp 8)) rfl ?_); refine wpList_loadR 67 (.tmp 8) rfl rfl b8 rfl (ic2 (plA m) (plB m)) R8 _ Try.underlying67 rfl (ic2_info _ _) ?_) | (go_at_call 46; go_fit (CA _ _ hMv); rintro e w13 ⟨rfl, hb13⟩; replace R2 := R2.below hb13; replace R3 := R3.below hb13; replace R4 := R4.below hb13; replace R8 := R8.below hb13; replace R10 := R10.below hb13; replace hMv := hMv.below hb13; replace hB := hB.trans (hb13.mono hB.size); have c31 := m1 R3; have c80 := p0B R8; have c81 := p1 R8; have hrp := R2.pool) | ((with_reducible refine at_opB (.load 26 (.tmp 39)) rfl ?_); refine wpList_load_mid rfl 26 (.tmp 39) rfl b2 0 rfl (pc f g).toList _ hrp Try.underlying26 rfl (by simpa using pc_info f g) ?_; (try simp only [Array.toArray_toList])) | (go_at_call 47; go_fit (CGi _); rintro e w15 ⟨rfl, hb15⟩; clear c31 c80 c81 hrp; replace R2 := R2.below hb15; replace R3 := R3.below hb15; replace R4 := R4.below hb15; replace R8 := R8.below hb15; replace R10 := R10.below hb15; replace hMv := hMv.below hb15; replace hB := hB.trans (hb15.mono hB.size)) | ((with_reducible refine at_opB (.store 26 (.tmp 50) (.tmp 48)) rfl ?_); refine wpList_storeP rfl (.tmp 50) (.tmp 48) rfl b10 rfl (closeF f m) g rfl f g h (.slice av ln cv) R10 ?_; intro w16 R10 t16; replace R3 := t16.row R3 n310; replace R4 := t16.row R4 n410; replace hMv := maps_turned3 hMv x10 t16; replace hB := t16.below _ _ l10 hB; have c31 := m1 R3) | (go_at_call 48; go_fit (CB _ _); rintro e w17 ⟨vb, rfl, ⟨ab, cb, rfl⟩, hpl, hb17⟩; clear hpl c31; replace R3 := R3.below hb17; replace R4 := R4.below hb17; replace R10 := R10.below hb17; replace hMv := hMv.below hb17; replace hB := hB.trans (hb17.mono hB.size); have c31 := m1 R3) | ((with_reducible refine at_opB (.store 3 (.tmp 60) (.const (.int .i64 0))) rfl ?_); refine wpList_storeF R10 rfl _ _ rfl (21 + m.2.1.toNat) rfl _ rfl _ (tc_home _ _ _ _ _ hs8n) (tc (closeF f m) g (upd h m.2.1.toNat 0) (.slice av ln cv)) (tc_setH _ _ _ _ _ _ hs8n) ?_; intro w18 R10 t18; clear c31; replace R4 := t18.row R4 n410; replace hMv := maps_turned3 hMv x10 t18; replace hB := t18.below _ _ l10 hB) | ((with_reducible refine at_opB (.load 30 (.tmp 10)) rfl ?_); first | refine wpList_loadR 30 (.tmp 10) rfl rfl b10 rfl (tc (closeF f m) g (upd h m.2.1.toNat 0) (.slice av ln cv)) R10 _ Try.underlying30 rfl (tc_info _ _ _ _) ?_ | refine wpList_loadR 30 (.tmp 10) rfl rfl b10 rfl (tc (closeF f m) g h (.slice av ln cv)) R10 _ Try.underlying30 rfl (tc_info _ _ _ _) ?_) | ((with_reducible refine at_opB (.store 30 (.tmp 4) (.tmp 61)) rfl ?_); refine wpList_storeR 30 rfl (.tmp 4) _ rfl b4 rfl (tc (closeF f m) g (upd h m.2.1.toNat 0) (.slice av ln cv)) rfl _ R4 (tc_sz _ _ _ _ _ _ _ _) (tc_info _ _ _ _) (tc_one _ _ _ _ _ _) ?_; intro w19 R4 t19; replace hMv := maps_turned3 hMv x4 t19; replace hB := t19.below _ _ l4 hB))
  ((try simp only [Exit.inBlock, Exit.then]); refine bodyPost_ret (results_row3 (p := 4) (u := 5) (v := 6) rfl _ _ _ _ rfl R4 _ Try.underlying30 rfl (tc_info _ _ _ _)) rfl ⟨_, rfl, hMv, hNv, hbv, hB⟩)
set_option maxRecDepth 20000 in
set_option maxHeartbeats 2000000 in
theorem close_more (f : Nat → Int) (g : Nat → Bool) (h : Nat → Int) (sl : Value) (ms : List Mp) (m : Mp) (hwH : wfH h) (w : World) (hM : MapsAt w sl ms) (G : GoodT f h ms) (hm : m ∈ ms) (ha : (dropM ms m).any (fun o => placeM o == placeM m) = false) (hz : (blocksL (closeF f m) m.2.1).length ≠ 0) :
    Calls Try.prog 20 #[.agg (tc f g h sl), .agg (mc m)] w fun e w' => ∃ v, e = .returned (.tuple #[.agg (tc (closeF f m) g h v), .bool true, .int .i64 0]) ∧ MapsAt w' v (dropM ms m) ∧ NilOk v ∧ (0 < (dropM ms m).length → w.heap.size ≤ mb v) ∧ Below w.heap.size w w' := by
  have hB := Below.refl w.heap.size w
  have hM0 := hM
  obtain ⟨a0, cap, hsl, -⟩ := hM0
  obtain ⟨n, hn⟩ : ∃ n, n = ms.length := ⟨_, rfl⟩
  rw [← hn] at hsl
  subst hsl
  have HN : Hid (n = ms.length) := hn
  clear hn
  have hlt := hM.lt
  obtain ⟨ln, hln⟩ : ∃ ln, ln = (dropM ms m).length := ⟨_, rfl⟩
  have HL : Hid (ln = (dropM ms m).length) := hln
  have HG : Hid (GoodT f h ms) := G
  have hlne : ((ln : Int) == (n : Int)) = false := by
    have h1 := count_drop (apart_ne G.maps) hm
    have h2 := HN.out
    have : (ln : Int) ≠ (n : Int) := by omega
    simpa using this
  have hst := G.maps.1 m hm
  have hin : inP m = true := by unfold inP; exact decide_eq_true ⟨hst.2.2.2.1, hst.2.2.2.2.1⟩
  have CG := fun w hM => goodt_any f g h (.slice a0 n cap) ms hwH w hM
  have CW := fun w hM => without_any (.slice a0 n cap) ms m w hM (Nat.le_trans G.len (by decide))
  have CPl := fun w => placeOf_any m w
  simp only [hin] at CPl
  have CA := fun sl w hM => anyIn_any sl (dropM ms m) (plA m) (plB m) w hM
  rw [anyIn_place (fun o ho => G.maps.1 o (drop_sub ho)) hst, ha] at CA
  have CGi := fun w => give_any f g m.2.1 (plA m) (plB m) w
  rw [give_place G hst] at CGi
  have CB := fun av w => blocksOf_any (closeF f m) g h av m.2.1 hst.2.1.1 hst.2.1.2 w
  have hs8n : m.2.1.toNat < 8 := by have := hst.2.1; omega
  have hs0 : 0 ≤ m.2.1 := hst.2.1.1
  have hs8 : m.2.1 < 8 := hst.2.1.2
  obtain ⟨lb, hlb⟩ : ∃ lb, lb = (blocksL (closeF f m) m.2.1).length := ⟨_, rfl⟩
  rw [← hlb] at CB hz
  have dz : ((lb : Int) == 0) = false := by simpa using hz
  clear hln G hm ha hst hin hz hlb
  go_enter Try.func20, Try.ntmps20
  go_wp2_with (first | ((with_reducible refine at_opB (.box 30 (.tmp 0)) rfl ?_); refine wpList_boxR 30 rfl (.tmp 0) rfl _ rfl ?_; intro b2 w1 l2 R2 hb1; replace hB := hB.trans (hb1.mono hB.size)) | ((with_reducible refine at_opB (.box 32 (.tmp 1)) rfl ?_); refine wpList_boxR 32 rfl (.tmp 1) rfl (mc m) rfl ?_; intro b3 w1 l3 R3 hb1; replace R2 := R2.below hb1; replace hB := hB.trans (hb1.mono hB.size)) | ((with_reducible refine at_opB (.alloc 30) rfl ?_); refine wpList_allocX 4 30 rfl rfl rfl _ table_zero ?_; intro b4 w2 l4 R4 hb2; have n24 := R2.ne l4; have n34 := R3.ne l4; replace l4 := Nat.le_trans hB.size l4; replace R2 := R2.below hb2; replace R3 := R3.below hb2; replace hB := hB.trans (hb2.mono hB.size)) | ((with_reducible refine at_opB (.load 30 (.tmp 2)) rfl ?_); refine wpList_loadR 30 (.tmp 2) rfl rfl b2 rfl (tc f g h (.slice a0 n cap)) R2 _ Try.underlying30 rfl (tc_info _ _ _ _) ?_) | (go_at_call 14; go_fit (CG _ (hM.keep hB hlt)); rintro e w5 ⟨r, hr, rfl, hb5⟩; obtain rfl : r = true := (hr.2 HG.out); clear hr; replace R2 := R2.below hb5; replace R3 := R3.below hb5; replace R4 := R4.below hb5; replace hB := hB.trans (hb5.mono hB.size); have cM : World.cell? _ ⟨b2, 29, none⟩ = some (.slice a0 n cap) := (R2.cell 29).trans (tc_maps _ _ _ _)) | ((with_reducible refine at_opB (.load 32 (.tmp 3)) rfl ?_); refine wpList_loadR 32 (.tmp 3) rfl rfl b3 rfl (mc m) R3 _ Try.underlying32 rfl (mc_info _) ?_) | (go_at_call 45; go_fit (CW _ (hM.keep hB hlt)); rintro e w6 ⟨v, rfl, hMv, hNv, hbv, hb6⟩; clear cM; have x4 : 0 < (dropM ms m).length → mb v ≠ b4 := (fun hl => Nat.ne_of_gt (Nat.lt_of_lt_of_le R4.lt (hbv hl))); replace hbv : 0 < (dropM ms m).length → w.heap.size ≤ mb v := (fun hl => Nat.le_trans hB.size (hbv hl)); replace R2 := R2.below hb6; replace R3 := R3.below hb6; replace R4 := R4.below hb6; replace hB := hB.trans (hb6.mono hB.size); (obtain ⟨av, cv, hv, -⟩ := id hMv); rw [← HL.out] at hv; subst hv; have cM : World.cell? _ ⟨b2, 29, none⟩ = some (.slice a0 n cap) := (R2.cell 29).trans (tc_maps _ _ _ _)) | (go_at_call 33; go_fit (CPl _); rintro e w7 ⟨rfl, hb7⟩; clear cM; replace R2 := R2.below hb7; replace R3 := R3.below hb7; replace R4 := R4.below hb7; replace hMv := hMv.below hb7; replace hB := hB.trans (hb7.mono hB.size)) | ((with_reducible refine at_opB (.alloc 67) rfl ?_); refine wpList_allocX 8 67 rfl rfl rfl _ place_zero ?_; intro b8 w8 l8 R8 hb8; have n28 := R2.ne l8; have n38 := R3.ne l8; have n48 := R4.ne l8; have x8 := hMv.away3 l8; replace l8 := Nat.le_trans hB.size l8; replace R2 := R2.below hb8; replace R3 := R3.below hb8; replace R4 := R4.below hb8; replace hMv := hMv.below hb8; replace hB := hB.trans (hb8.mono hB.size)) | ((with_reducible refine at_opB (.store 67 (.tmp 8) (.tmp 29)) rfl ?_); refine wpList_storeR 67 rfl (.tmp 8) _ rfl b8 rfl (ic2 (plA m) (plB m)) rfl _ R8 rfl (ic2_info _ _) (ic2_one _ _) ?_; intro w9 R8 t9; replace R2 := t9.row R2 n28; replace R3 := t9.row R3 n38; replace R4 := t9.row R4 n48; replace hMv := maps_turned3 hMv x8 t9; replace hB := t9.below _ _ l8 hB) | ((with_reducible refine at_opB (.alloc 30) rfl ?_); refine wpList_allocX 10 30 rfl rfl rfl _ table_zero ?_; intro b10 w10 l10 R10 hb10; have n210 := R2.ne l10; have n310 := R3.ne l10; have n410 := R4.ne l10; have n810 := R8.ne l10; have x10 := hMv.away3 l10; replace l10 := Nat.le_trans hB.size l10; replace R2 := R2.below hb10; replace R3 := R3.below hb10; replace R4 := R4.below hb10; replace R8 := R8.below hb10; replace hMv := hMv.below hb10; replace hB := hB.trans (hb10.mono hB.size)) | ((with_reducible refine at_opB (.store 30 (.tmp 10) (.tmp 31)) rfl ?_); refine wpList_storeR 30 rfl (.tmp 10) _ rfl b10 rfl (tc f g h (.slice a0 n cap)) rfl _ R10 (tc_sz _ _ _ _ _ _ _ _) (tc_info _ _ _ _) (tc_one _ _ _ _ _ _) ?_; intro w11 R10 t11; replace R2 := t11.row R2 n210; replace R3 := t11.row R3 n310; replace R4 := t11.row R4 n410; replace R8 := t11.row R8 n810; replace hMv := maps_turned3 hMv x10 t11; replace hB := t11.below _ _ l10 hB) | ((with_reducible refine at_opB (.store 28 (.tmp 33) (.tmp 32)) rfl ?_); refine wpList_storeV R10 rfl _ _ rfl 29 rfl _ _ _ rfl _ (tc_maps _ _ _ _) (tc f g h (.slice av ln cv)) (tc_setM _ _ _ _ _) ?_; intro w12 R10 t12; replace R2 := t12.row R2 n210; replace R3 := t12.row R3 n310; replace R4 := t12.row R4 n410; replace R8 := t12.row R8 n810; replace hMv := maps_turned3 hMv x10 t12; replace hB := t12.below _ _ l10 hB) | ((with_reducible refine at_opB (.load 67 (.tmp 8)) rfl ?_); refine wpList_loadR 67 (.tmp 8) rfl rfl b8 rfl (ic2 (plA m) (plB m)) R8 _ Try.underlying67 rfl (ic2_info _ _) ?_) | (go_at_call 46; go_fit (CA _ _ hMv); rintro e w13 ⟨rfl, hb13⟩; replace R2 := R2.below hb13; replace R3 := R3.below hb13; replace R4 := R4.below hb13; replace R8 := R8.below hb13; replace R10 := R10.below hb13; replace hMv := hMv.below hb13; replace hB := hB.trans (hb13.mono hB.size); have c31 := m1 R3; have c80 := p0B R8; have c81 := p1 R8; have hrp := R2.pool) | ((with_reducible refine at_opB (.load 26 (.tmp 39)) rfl ?_); refine wpList_load_mid rfl 26 (.tmp 39) rfl b2 0 rfl (pc f g).toList _ hrp Try.underlying26 rfl (by simpa using pc_info f g) ?_; (try simp only [Array.toArray_toList])) | (go_at_call 47; go_fit (CGi _); rintro e w15 ⟨rfl, hb15⟩; clear c31 c80 c81 hrp; replace R2 := R2.below hb15; replace R3 := R3.below hb15; replace R4 := R4.below hb15; replace R8 := R8.below hb15; replace R10 := R10.below hb15; replace hMv := hMv.below hb15; replace hB := hB.trans (hb15.mono hB.size)) | ((with_reducible refine at_opB (.store 26 (.tmp 50) (.tmp 48)) rfl ?_); refine wpList_storeP rfl (.tmp 50) (.tmp 48) rfl b10 rfl (closeF f m) g rfl f g h (.slice av ln cv) R10 ?_; intro w16 R10 t16; replace R3 := t16.row R3 n310; replace R4 := t16.row R4 n410; replace hMv := maps_turned3 hMv x10 t16; replace hB := t16.below _ _ l10 hB; have c31 := m1 R3) | (go_at_call 48; go_fit (CB _ _); rintro e w17 ⟨vb, rfl, ⟨ab, cb, rfl⟩, hpl, hb17⟩; clear hpl c31; replace R3 := R3.below hb17; replace R4 := R4.below hb17; replace R10 := R10.below hb17; replace hMv := hMv.below hb17; replace hB := hB.trans (hb17.mono hB.size); have c31 := m1 R3) | ((with_reducible refine at_opB (.load 30 (.tmp 10)) rfl ?_); refine wpList_loadR 30 (.tmp 10) rfl rfl b10 rfl (tc (closeF f m) g h (.slice av ln cv)) R10 _ Try.underlying30 rfl (tc_info _ _ _ _) ?_) | ((with_reducible refine at_opB (.store 30 (.tmp 4) (.tmp 61)) rfl ?_); refine wpList_storeR 30 rfl (.tmp 4) _ rfl b4 rfl (tc (closeF f m) g h (.slice av ln cv)) rfl _ R4 (tc_sz _ _ _ _ _ _ _ _) (tc_info _ _ _ _) (tc_one _ _ _ _ _ _) ?_; intro w19 R4 t19; replace hMv := maps_turned3 hMv x4 t19; replace hB := t19.below _ _ l4 hB))
  ((try simp only [Exit.inBlock, Exit.then]); refine bodyPost_ret (results_row3 (p := 4) (u := 5) (v := 6) rfl _ _ _ _ rfl R4 _ Try.underlying30 rfl (tc_info _ _ _ _)) rfl ⟨_, rfl, hMv, hNv, hbv, hB⟩)
end Go.Proofs.Ytmdijjbkjcnbpaa
