/-
  Of what BindCloses, BindOpens stands on: part 22.
-/
import Derived.Maps.AppendAt
import Derived.Test.YtmdijjbkjcnbpaaBindCO13
import Derived.Test.YtmdijjbkjcnbpaaBindCO21
namespace Go.Proofs.Ytmdijjbkjcnbpaa
open Go.ChangeShapes Go.WideShapes Go.ChangeAt Go.RowKit
set_option linter.unusedSimpArgs false
set_option linter.unusedVariables false

theorem maps_turned {w w' : World} {b : Nat} {v : Value} {ms : List Mp} (h : MapsAt w v ms) (hne : mb v ≠ b) (t : Turned b w w') : MapsAt w' v ms := by
  obtain ⟨a, cap, e, h1, h2, h3⟩ := h
  refine ⟨a, cap, e, h1, fun j hj i u hu => ?_, h3⟩
  have := h2 j hj i u hu
  unfold World.cell? at *
  rw [t.other _ hne]
  exact this
theorem turned_set {w : World} {b o : Nat} {v : Value} : Turned b w (w.setCell ⟨b, o, none⟩ v) := ⟨by simp, fun r hr => Below.heap_setCell _ _ _ _ hr, fun B w0 hB hb => hb.setCell (p := ⟨b, o, none⟩) hB v⟩
attribute [local irreducible] tc pc
set_option maxRecDepth 20000 in
set_option maxHeartbeats 8000000 in
theorem open_new (f : Nat → Int) (g : Nat → Bool) (h : Nat → Int) (sl : Value) (ms : List Mp) (p s i d : Int) (w : World) (hM : MapsAt w sl ms) (hwH : wfH h) (hno : NilOk sl) (hd : (Lit.int .i64 d).wf = true) (hP : openP f h ms p s i) (hf : ms.find? (inS p s i) = none) (hc : cntM ms s ≠ 12) (he : (roomR f g h ms p s d).e = 0) :
    Calls Try.prog 17 #[.agg (tc f g h sl), .int .i64 p, .int .i64 s, .int .i64 i, .int .i64 d] w fun e w' => ∃ v, e = .returned (openS (roomR f g h ms p s d).f g (roomR f g h ms p s d).h v (p, s, i, (roomR f g h ms p s d).h s.toNat - 1, (roomR f g h ms p s d).q) (roomR f g h ms p s d).took 0) ∧ MapsAt w' v (ms ++ [(p, s, i, (roomR f g h ms p s d).h s.toNat - 1, (roomR f g h ms p s d).q)]) ∧ NilOk v ∧ w.heap.size ≤ mb v ∧ Below w.heap.size w w' := by
  have hB := Below.refl w.heap.size w
  have hM0 := hM
  obtain ⟨a0, cap, hsl, -⟩ := hM0
  obtain ⟨n, hn⟩ : ∃ n, n = ms.length := ⟨_, rfl⟩
  rw [← hn] at hsl
  subst hsl
  have HN : Hid (n = ms.length) := hn
  clear hn
  have hlt := hM.lt
  have CG := fun w hM => goodt_any f g h (.slice a0 n cap) ms hwH w hM
  obtain ⟨G, hp, hs, hi0, hi1⟩ := hP
  have hs0 : 0 ≤ s := hs.1
  have hs8 : s < 8 := hs.2
  have hs8n : s.toNat < 8 := by omega
  have C1 := fun w => isProtocol_any p w
  have C2 := fun w => isSub_any s w
  have C3 := fun w => isWord_any i w
  have e2 : (decide (0 ≤ s) && decide (s < 8)) = true := by simp [hs0, hs8]
  have e3 : (decide (0 ≤ i) && decide (i ≤ 65535)) = true := by simp [hi0, hi1]
  rw [hp] at C1
  rw [e2] at C2
  rw [e3] at C3
  have HG : Hid (GoodT f h ms) := G
  have CF := fun w hM => find_any f g h (.slice a0 n cap) ms p s i w hM
  rw [hf] at CF
  unfold foundS at CF
  have hany : ms.any (inS p s i) = false := by rw [← List.isSome_find?, hf]; rfl
  have hrk := (room_ok (g := g) (d := d) G hp hs ⟨hi0, hi1⟩ hany hc he).1.homeIn hs
  have CC := fun w hM => countMaps_any f g h (.slice a0 n cap) ms s w hM
  have dc : (((cntM ms s : Nat) : Int) == 12) = false := by simp; omega
  have CR := fun w hM => room_any f g h (.slice a0 n cap) ms p s d w hM G hs hd
  unfold roomS at CR
  have hlen := G.len
  generalize roomR f g h ms p s d = r at *
  obtain ⟨rf, rh, rq, rt, re⟩ := r
  simp only at CR he hrk ⊢
  subst he
  obtain ⟨ra, hra⟩ : ∃ ra, ra = rh s.toNat - 1 := ⟨_, rfl⟩
  have hraw : wrap64 (rh s.toNat - 1) = ra := by rw [hra]; unfold wrap64; omega
  rw [← hra]
  have CW := fun w hM => with_any (.slice a0 n cap) ms (p, s, i, ra, rq) w hM hno hlen
  generalize cntM ms s = cc at *
  clear G hp hs hi0 hi1 e2 e3 hf hc hany hrk hlen hra
  go_enter Try.func17, Try.ntmps17
  go_wp2_with (first
    | (refine wpList_boxR 30 rfl _ rfl _ rfl ?_; intro b5 w1 l5 R5 hb1; replace l5 := Nat.le_trans hB.size l5; replace hB := hB.trans (hb1.mono hB.size))
    | (refine wpList_allocX 10 30 rfl rfl rfl _ table_zero ?_; intro b10 w2 l10 R10 hb2; have n5a := R5.ne l10; replace l10 := Nat.le_trans hB.size l10; replace R5 := R5.below hb2; replace hB := hB.trans (hb2.mono hB.size))
    | (refine wpList_allocX 11 32 rfl rfl rfl _ map_zero ?_; intro b11 w3 l11 R11 hb3; have n5b := R5.ne l11; have nab := R10.ne l11; replace l11 := Nat.le_trans hB.size l11; replace R5 := R5.below hb3; replace R10 := R10.below hb3; replace hB := hB.trans (hb3.mono hB.size))
    | (refine wpList_loadR 30 (.tmp 5) rfl rfl b5 rfl (tc f g h (.slice a0 n cap)) R5 _ Try.underlying30 rfl (tc_info _ _ _ _) ?_)
    | (go_at_call 14; go_fit (CG _ (hM.keep hB hlt)); rintro e w5 ⟨r, hr, rfl, hb5⟩; obtain rfl : r = true := (hr.2 HG.out); clear hr; replace R5 := R5.below hb5; replace R10 := R10.below hb5; replace R11 := R11.below hb5; replace hB := hB.trans (hb5.mono hB.size))
    | (go_at_call 37; go_fit (C1 _); rintro e w' ⟨rfl, hw⟩; rw [hw]; clear hw w')
    | (go_at_call 38; go_fit (C2 _); rintro e w' ⟨rfl, hw⟩; rw [hw]; clear hw w')
    | (go_at_call 39; go_fit (C3 _); rintro e w' ⟨rfl, hw⟩; rw [hw]; clear hw w')
    | (go_at_call 7; go_fit (CF _ (hM.keep hB hlt)); rintro e w5 ⟨rfl, hb5⟩; replace R5 := R5.below hb5; replace R10 := R10.below hb5; replace R11 := R11.below hb5; replace hB := hB.trans (hb5.mono hB.size))
    | (refine wpList_allocX 14 32 rfl rfl rfl _ map_zero ?_; intro b14 w8 l14 R14 hb8; have n5c := R5.ne l14; have nac := R10.ne l14; have nbc := R11.ne l14; replace l14 := Nat.le_trans hB.size l14; replace R5 := R5.below hb8; replace R10 := R10.below hb8; replace R11 := R11.below hb8; replace hB := hB.trans (hb8.mono hB.size))
    | (refine wpList_storeR 32 rfl (.tmp 14) _ rfl b14 rfl (mc noM) rfl _ R14 rfl (mc_info _) (mc_one _) ?_; intro w9 R14 t9; replace R5 := t9.row R5 n5c; replace R10 := t9.row R10 nac; replace R11 := t9.row R11 nbc; replace hB := t9.below _ _ l14 hB)
    | (go_at_call 40; go_fit (CC _ (hM.keep hB hlt)); rintro e w5 ⟨rfl, hb5⟩; (try clear R14); replace R5 := R5.below hb5; replace R10 := R10.below hb5; replace R11 := R11.below hb5; replace hB := hB.trans (hb5.mono hB.size))
    | (go_at_call 41; go_fit (CR _ (hM.keep hB hlt)); rintro e w5 ⟨rfl, hb5⟩; replace R5 := R5.below hb5; replace R10 := R10.below hb5; replace R11 := R11.below hb5; replace hB := hB.trans (hb5.mono hB.size))
    | (refine wpList_allocX 16 30 rfl rfl rfl _ table_zero ?_; intro b16 w10 l16 R16 hb10; have n5d := R5.ne l16; have nad := R10.ne l16; have nbd := R11.ne l16; replace l16 := Nat.le_trans hB.size l16; replace R5 := R5.below hb10; replace R10 := R10.below hb10; replace R11 := R11.below hb10; replace hB := hB.trans (hb10.mono hB.size))
    | (refine wpList_storeR 30 rfl (.tmp 16) _ rfl b16 rfl (tc rf g rh (.slice a0 n cap)) rfl _ R16 (tc_sz _ _ _ _ _ _ _ _) (tc_info _ _ _ _) (tc_one _ _ _ _ _ _) ?_; intro w11 R16 t11; replace R5 := t11.row R5 n5d; replace R10 := t11.row R10 nad; replace R11 := t11.row R11 nbd; replace hB := t11.below _ _ l16 hB; have c16 : World.cell? _ ⟨b16, 21 + s.toNat, none⟩ = some (.int .i64 (rh s.toNat)) := (R16.cell _).trans (tc_home _ _ _ _ _ hs8n))
    | (refine wpList_allocX 20 32 rfl rfl rfl _ map_zero ?_; intro b20 w12 l20 R20 hb12; have n5e := R5.ne l20; have nae := R10.ne l20; have nbe := R11.ne l20; have nde := R16.ne l20; replace l20 := Nat.le_trans hB.size l20; replace R5 := R5.below hb12; replace R10 := R10.below hb12; replace R11 := R11.below hb12; replace R16 := R16.below hb12; replace hB := hB.trans (hb12.mono hB.size))
    | (refine wpList_storeR 32 rfl (.tmp 20) _ rfl b20 rfl (mc (p, s, i, ra, rq)) rfl _ R20 rfl (mc_info _) (mc_one _) ?_; intro w13 R20 t13; replace R5 := t13.row R5 n5e; replace R10 := t13.row R10 nae; replace R11 := t13.row R11 nbe; replace R16 := t13.row R16 nde; replace hB := t13.below _ _ l20 hB; clear c16; have c5 : World.cell? _ ⟨b5, 29, none⟩ = some (.slice a0 n cap) := (R5.cell _).trans (tc_maps _ _ _ _))
    | (refine wpList_loadR 32 (.tmp 20) rfl rfl b20 rfl (mc (p, s, i, ra, rq)) R20 _ Try.underlying32 rfl (mc_info _) ?_)
    | (go_at_call 42; go_fit (CW _ (hM.keep hB hlt)); rintro e w14 ⟨v, rfl, hMv, hNv, hbv, hb14⟩; clear c5; have hle0 := Nat.le_trans hB.size hbv; have x10 := Nat.ne_of_gt (Nat.lt_of_lt_of_le R10.lt hbv); have x11 := Nat.ne_of_gt (Nat.lt_of_lt_of_le R11.lt hbv); have x16 := Nat.ne_of_gt (Nat.lt_of_lt_of_le R16.lt hbv); clear hbv; replace R10 := R10.below hb14; replace R11 := R11.below hb14; replace R16 := R16.below hb14; replace R20 := R20.below hb14; replace hB := hB.trans (hb14.mono hB.size); (obtain ⟨av, cv, hv, -⟩ := id hMv); (generalize (ms ++ [(p, s, i, ra, rq)]).length = ln at hv); subst hv; have f16 := R16.free 29; have c16 : World.cell? _ ⟨b16, 29, none⟩ = some (.slice a0 n cap) := (R16.cell _).trans (tc_maps _ _ _ _)))
  replace R10 := R10.other (b := b16) (o := 29) (v := .slice av ln cv) nad
  replace R11 := R11.other (b := b16) (o := 29) (v := .slice av ln cv) nbd
  replace R20 := R20.other (b := b16) (o := 29) (v := .slice av ln cv) nde.symm
  replace R16 := R16.set (o := 29) (v := .slice av ln cv)
  rw [tc_setM] at R16
  have hM2 := maps_turned hMv x16 (turned_set (o := 29) (v := .slice av ln cv))
  replace hB := hB.setCell (p := ⟨b16, 29, none⟩) l16 (.slice av ln cv)
  refine wp_region_noPanic ?_
  refine wp_region_held_drew (S := fun W => Row 30 W b16 (tc rf g rh (.slice av ln cv)) ∧ Row 32 W b20 (mc (p, s, i, ra, rq))) (by kernel_rfl) ⟨R16, R20⟩ (fun _ => ?_)
  refine wpAnyH_take (i := 0) (v := .agg (tc rf g rh (.slice av ln cv))) rfl (by kernel_rfl) (by kernel_rfl) (by kernel_rfl) (fun _ _ _ h => h) (yields_loadR 30 (.tmp 16) rfl (by kernel_rfl) b16 (by kernel_rfl) (tc rf g rh (.slice av ln cv)) (fun _ h => h.1) _ Try.underlying30 rfl (tc_info _ _ _ _)) ⟨R16, R20⟩ ?_
  simp only [Act.put, List.getElem_toArray, List.getElem_cons_succ, List.getElem_cons_zero, List.setIfInBounds_toArray, List.set_cons_zero, List.set_cons_succ]
  refine wpAnyH_take (i := 1) (v := .agg (mc (p, s, i, ra, rq))) rfl (by kernel_rfl) (by kernel_rfl) (by kernel_rfl) (fun _ _ _ h => h) (yields_loadR 32 (.tmp 20) rfl (by kernel_rfl) b20 (by kernel_rfl) (mc (p, s, i, ra, rq)) (fun _ h => h.2) _ Try.underlying32 rfl (mc_info (p, s, i, ra, rq))) ⟨R16, R20⟩ ?_
  simp only [Act.put, List.getElem_toArray, List.getElem_cons_succ, List.getElem_cons_zero, List.setIfInBounds_toArray, List.set_cons_zero, List.set_cons_succ]
  refine wpAnyH_take (i := 2) (v := .bool rt) rfl (by kernel_rfl) (by kernel_rfl) (by kernel_rfl) (fun _ _ _ h => h) (Or.inl ⟨by kernel_rfl, by intro w hS; go_simp⟩) ⟨R16, R20⟩ ?_
  simp only [Act.put, List.getElem_toArray, List.getElem_cons_succ, List.getElem_cons_zero, List.setIfInBounds_toArray, List.set_cons_zero, List.set_cons_succ]
  refine wpAnyH_ready (rs := [3]) (by kernel_rfl) (by simp) ?_
  refine AllReadyH.cons rfl (fun K hK => ?_) ?_
  · rw [if_pos (by kernel_rfl)]
    refine wp_storeR 30 (.tmp 10) (.tmp 88) rfl b10 rfl (tc rf g rh (.slice av ln cv)) rfl _ R10 (tc_sz _ _ _ _ _ _ _ _) (tc_info _ _ _ _) (tc_one _ _ _ _ _ _) ?_; intro w16 R10 t16; (try replace t16 := turned_undr t16); replace R16 := t16.row R16 nad.symm; replace R11 := t16.row R11 nab.symm; replace R20 := t16.row R20 nae.symm; replace hM2 := maps_turned hM2 x10 t16; replace hB := t16.below _ _ l10 hB
    refine hK.out _ _ ⟨R16, R20⟩ (fun _ => ?_)
    clear hK K
    try simp only [Act.put, List.getElem_toArray, List.getElem_cons_succ, List.getElem_cons_zero, List.setIfInBounds_toArray, List.set_cons_zero, List.set_cons_succ]
    refine wpAnyH_ready (rs := [4]) (by kernel_rfl) (by simp) ?_
    refine AllReadyH.cons rfl (fun K hK => ?_) ?_
    · rw [if_pos (by kernel_rfl)]
      refine wp_storeR 32 (.tmp 11) (.tmp 89) rfl b11 rfl (mc (p, s, i, ra, rq)) rfl _ R11 rfl (mc_info _) (mc_one _) ?_; intro w17 R11 t17; (try replace t17 := turned_undr t17); replace R16 := t17.row R16 nbd.symm; replace R10 := t17.row R10 nab; replace R20 := t17.row R20 nbe.symm; replace hM2 := maps_turned hM2 x11 t17; replace hB := t17.below _ _ l11 hB
      refine hK.out _ _ ⟨R16, R20⟩ (fun _ => ?_)
      clear hK K
      try simp only [Act.put, List.getElem_toArray, List.getElem_cons_succ, List.getElem_cons_zero, List.setIfInBounds_toArray, List.set_cons_zero, List.set_cons_succ]
      refine wpAnyH_take (i := 5) (v := .bool rt) rfl (by kernel_rfl) (by kernel_rfl) (by kernel_rfl) (fun _ _ _ h => h) (Or.inl ⟨by kernel_rfl, by intro w hS; go_simp⟩) ⟨R16, R20⟩ ?_
      simp only [Act.put, List.getElem_toArray, List.getElem_cons_succ, List.getElem_cons_zero, List.setIfInBounds_toArray, List.set_cons_zero, List.set_cons_succ]
      refine wpAnyH_take (i := 6) (v := .int .i64 0) rfl (by kernel_rfl) (by kernel_rfl) (by kernel_rfl) (fun _ _ _ h => h) (Or.inl ⟨by kernel_rfl, by intro w hS; go_simp⟩) ⟨R16, R20⟩ ?_
      simp only [Act.put, List.getElem_toArray, List.getElem_cons_succ, List.getElem_cons_zero, List.setIfInBounds_toArray, List.set_cons_zero, List.set_cons_succ]
      refine wpAnyH_done (by kernel_rfl) ?_ _
      refine NoPanic.normal ?_
      go_wp2
      ((try simp only [Exit.inBlock, Exit.then]); refine bodyPost_ret (results_row22 rfl _ _ _ _ _ _ rfl rfl R10 R11 _ _ Try.underlying30 Try.underlying32 rfl rfl (tc_info _ _ _ _) (mc_info _)) rfl ⟨.slice av ln cv, ?_⟩)
      exact ⟨rfl, hM2, hNv, hle0, by first | exact hB | exact below_drew hB⟩
    exact AllReadyH.nil
  exact AllReadyH.nil
end Go.Proofs.Ytmdijjbkjcnbpaa

namespace Go.Proofs.Ytmdijjbkjcnbpaa
open Go.ChangeShapes Go.WideShapes Go.ChangeAt Go.RowKit
set_option linter.unusedSimpArgs false
set_option linter.unusedVariables false

theorem GoodT.wf {f h : Nat → Int} {ms : List Mp} (G : GoodT f h ms) : wfH h := fun i hi => by
  have := G.homeIn (s := (i : Int)) (by omega)
  simp only [Int.toNat_natCast] at this
  exact wf_small (by omega) (by omega)
theorem MapsAt.away {w : World} {v : Value} {m : Mp} {b : Nat} {os : List Mp} (h : MapsAt w v (os ++ [m])) (hb : w.heap.size ≤ b) : mb v ≠ b := Nat.ne_of_lt (Nat.lt_of_lt_of_le (h.lt (by simp)) hb)
theorem table_built : Try.prog.built 30 [] = some (tc (fun _ => 0) (fun _ => false) (fun _ => 0) (.slice none 0 0)) := by kernel_rfl
theorem wpList_buildT {ops : Array Oper} {rest : List Oper} {o : Oper} {a : Act} {w : World} {Q : Exit → Act → World → Prop} (hgd : o.guard = none) (ho : o.op = .build 30 #[])
    (hr : wpList Try.prog ops Q rest (a.put o.dst (.agg (tc (fun _ => 0) (fun _ => false) (fun _ => 0) (.slice none 0 0)))) w) : wpList Try.prog ops Q (o :: rest) a w :=
  wpList_plain hgd fun K hK => by
    have hb := run_build (P := Try.prog) w 30 #[] _ table_built
    unfold Oper.wp execOp
    simp only [ho, List.map_toArray, List.map_nil, Sem.run_bind, hb, Result.andThen_ok, Sem.run_pure]
    exact hK _ _ hr
theorem goodT_zero : GoodT (fun _ => 0) (fun _ => 0) [] := by
  refine ⟨by decide, msOk_nil _ _, fun k _ h => absurd rfl h, fun k _ h => absurd rfl h, fun s hs => ⟨?_, by simp [cntM]⟩⟩
  have : blocksL (fun _ => 0) (s : Int) = [] := by
    rw [List.eq_nil_iff_forall_not_mem]; intro n hn; have := (blocksL_mem _ _ _).1 hn; omega
  rw [this]; simp
def zr : RoomR := roomR (fun _ => 0) (fun _ => false) (fun _ => 0) [] 17 3 0
theorem zr_e : zr.e = 0 := by decide
theorem zr_q : zr.q = 1024 := by decide
theorem zr_t : zr.took = true := by decide
theorem zr_h : zr.h 3 = 1 := by decide
attribute [local irreducible] tc pc
end Go.Proofs.Ytmdijjbkjcnbpaa

namespace Go.Proofs.Ytmdijjbkjcnbpaa
open Go.ChangeShapes Go.WideShapes Go.ChangeAt Go.RowKit
set_option linter.unusedSimpArgs false
set_option linter.unusedVariables false

theorem maps_turned3 {w w' : World} {b : Nat} {v : Value} {ms : List Mp} (h : MapsAt w v ms) (hne : 0 < ms.length → mb v ≠ b) (t : Turned b w w') : MapsAt w' v ms := by
  obtain ⟨a, cap, e, h1, h2, h3⟩ := h
  refine ⟨a, cap, e, h1, fun j hj i u hu => ?_, h3⟩
  have := h2 j hj i u hu
  unfold World.cell? at *
  rw [t.other _ (hne (by omega))]
  exact this
theorem MapsAt.away3 {w : World} {v : Value} {ms : List Mp} {b : Nat} (h : MapsAt w v ms) (hb : w.heap.size ≤ b) : 0 < ms.length → mb v ≠ b := fun hl => Nat.ne_of_lt (Nat.lt_of_lt_of_le (h.lt hl) hb)
theorem at_opB {ops : Array Oper} {rest : List Oper} {o : Oper} {a : Act} {w : World} {Q : Exit → Act → World → Prop} (p : Op) (ho : o.op = p) (h : wpList Try.prog ops Q (o :: rest) a w) : wpList Try.prog ops Q (o :: rest) a w := h
theorem at_consB {ops : Array Oper} {rest : List Oper} {o : Oper} {a : Act} {w : World} {Q : Exit → Act → World → Prop} (h : wpList Try.prog ops Q (o :: rest) a w) : wpList Try.prog ops Q (o :: rest) a w := h
theorem ownG_below {w w' : World} {base : Nat} {e : TypeId} {size n : Nat} {v : Value} {xs : List Value} (h : w.ownsRow base e size v n xs) (hb : Below w.heap.size w w') : w'.ownsRow base e size v n xs := by
  refine ⟨h.1, ?_⟩
  rcases h.2 with e | ⟨b, cap, cur, hv, hbb, hh, r⟩
  · exact .inl e
  · exact .inr ⟨b, cap, cur, hv, hbb, (hb.block b (Array.getElem?_eq_some_iff.1 hh).1).trans hh, r⟩
theorem ownG_turned {w w' : World} {base b7 : Nat} {e : TypeId} {size n : Nat} {v : Value} {xs : List Value} (h : w.ownsRow base e size v n xs) (t : Turned b7 w w') (hn : v.ownBlock ≠ some b7) : w'.ownsRow base e size v n xs := by
  refine ⟨h.1, ?_⟩
  rcases h.2 with e | ⟨b, cap, cur, hv, hbb, hh, r⟩
  · exact .inl e
  · exact .inr ⟨b, cap, cur, hv, hbb, (t.other b (fun e => hn (by rw [hv, e]; rfl))).trans hh, r⟩
theorem ownG_away {w : World} {base b7 : Nat} {e : TypeId} {size n : Nat} {v : Value} {xs : List Value} (h : w.ownsRow base e size v n xs) (hb : w.heap.size ≤ b7) : v.ownBlock ≠ some b7 := by
  rcases h.2 with ⟨e, _⟩ | ⟨b, cap, cur, hv, hbb, hh, r⟩
  · rw [e]; simp [Value.ownBlock]
  · rw [hv]
    intro e
    have e' : b = b7 := Option.some.inj e
    have := (Array.getElem?_eq_some_iff.1 hh).1
    omega
theorem grown_row2 {t : TypeId} {w w' : World} {b : Nat} {cs : Array Value} {v : Value} (R : Row t w b cs) (hne : v.ownBlock ≠ some b) (hg : w.grownBy w' v.ownBlock) : Row t w' b cs := (hg.block b R.lt (fun e => hne e.symm)).trans R
theorem dropM_step {ms : List Mp} {j : Nat} {o m : Mp} (hlj : j < ms.length) (hm : ms[j] = o) : dropM (ms.take (j + 1)) m = dropM (ms.take j) m ++ if o = m then [] else [o] := by
  unfold dropM; rw [take_next hlj hm, List.filter_append]
  by_cases e : o = m
  · simp [e]
  · simp [e]
theorem dropM_le (ms : List Mp) (m : Mp) (j : Nat) : (dropM (ms.take j) m).length ≤ ms.length := by
  unfold dropM; exact Nat.le_trans (List.length_filter_le _ _) (by rw [List.length_take]; omega)
end Go.Proofs.Ytmdijjbkjcnbpaa
