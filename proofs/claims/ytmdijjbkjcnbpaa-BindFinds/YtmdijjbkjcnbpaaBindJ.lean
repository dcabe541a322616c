/-
  Open, in two; does bind answer at all.
-/
import Derived.Test.YtmdijjbkjcnbpaaBindV
namespace Go.Proofs.Ytmdijjbkjcnbpaa
open Go.ChangeShapes Go.WideShapes Go.ChangeAt Go.RowKit
set_option linter.unusedSimpArgs false
set_option linter.unusedVariables false

theorem find_self {ms : List Mp} (hp : ms.Pairwise (fun o m => meetsB [o] m = false)) {m : Mp} (hm : m ∈ ms) : ms.find? (inS m.1 m.2.1 m.2.2.1) = some m := by
  induction ms with
  | nil => simp at hm
  | cons o r ih =>
    rw [List.pairwise_cons] at hp
    by_cases e : o = m
    · subst e
      have : inS o.1 o.2.1 o.2.2.1 o = true := (inS_iff _ _ _ _).2 ⟨rfl, rfl, rfl⟩
      rw [List.find?_cons_of_pos this]
    · have hm' : m ∈ r := by
        rcases List.mem_cons.1 hm with h | h
        · exact absurd h.symm e
        · exact h
      have h1 := hp.1 m hm'
      have h2 : inS m.1 m.2.1 m.2.2.1 o = false := by
        simp only [meetsB, List.any_cons, List.any_nil, Bool.or_false, Bool.or_eq_false_iff] at h1
        exact h1.1
      rw [List.find?_cons_of_neg (by rw [h2]; simp)]
      exact ih hp.2 hm'
/-- what holds behind an Open that went well. -/
structure Opened (f h : Nat → Int) (ms : List Mp) (s : Int) (f' h' : Nat → Int) (ms' : List Mp) : Prop where
  good : GoodT f' h' ms'
  wf : wfH h'
  here : ∀ m ∈ ms, ms'.find? (inS m.1 m.2.1 m.2.2.1) = some m
  home : ∀ u, u < 8 → (u ≠ s.toNat → h' u = h u) ∧ (h u ≠ 0 → h' u = h u)
  len : ms.length ≤ ms'.length ∧ ms'.length ≤ ms.length + 1
theorem GoodT.wf {f h : Nat → Int} {ms : List Mp} (G : GoodT f h ms) : wfH h := fun i hi => by
  have := G.homeIn (s := (i : Int)) (by omega)
  simp only [Int.toNat_natCast] at this
  exact wf_small (by omega) (by omega)
theorem open_cases (f : Nat → Int) (g : Nat → Bool) (h : Nat → Int) (sl : Value) (ms : List Mp) (p s i d : Int) (hwH : wfH h) (hno : NilOk sl) (hd : (Lit.int .i64 d).wf = true) :
    (∃ E : Int, E ≠ 0 ∧ ∀ w : World, MapsAt w sl ms → Calls Try.prog 17 #[.agg (tc f g h sl), .int .i64 p, .int .i64 s, .int .i64 i, .int .i64 d] w fun e w' => e = .returned (openS f g h sl noM false E) ∧ Below w.heap.size w w') ∨
    ((0 ≤ s ∧ s < 8) ∧ ∃ (f' h' : Nat → Int) (ms' : List Mp) (m : Mp) (took : Bool), Opened f h ms s f' h' ms' ∧ ∀ w : World, MapsAt w sl ms → Calls Try.prog 17 #[.agg (tc f g h sl), .int .i64 p, .int .i64 s, .int .i64 i, .int .i64 d] w fun e w' => ∃ v, e = .returned (openS f' g h' v m took 0) ∧ MapsAt w' v ms' ∧ NilOk v ∧ Below w.heap.size w w') := by
  by_cases hP : openP f h ms p s i
  rotate_left
  · exact .inl ⟨2, by omega, fun w hM => open_bad f g h sl ms p s i d w hM hwH hP⟩
  have G := hP.1
  have hs := hP.2.2.1
  cases hf : ms.find? (inS p s i) with
  | some m =>
    refine .inr ⟨hs, f, h, ms, m, false, ⟨G, hwH, fun o ho => find_self G.maps.2 ho, fun u hu => ⟨fun _ => rfl, fun _ => rfl⟩, by omega⟩, fun w hM => ?_⟩
    refine (open_found f g h sl ms p s i d w hM hwH hP m hf).mono ?_
    rintro e w' ⟨rfl, hb⟩
    exact ⟨sl, rfl, hM.below hb, hno, hb⟩
  | none =>
    by_cases hc : cntM ms s = 12
    · exact .inl ⟨6, by omega, fun w hM => open_full f g h sl ms p s i d w hM hwH hP hf hc⟩
    · by_cases he : (roomR f g h ms p s d).e = 0
      rotate_left
      · exact .inl ⟨_, he, fun w hM => open_err f g h sl ms p s i d w hM hwH hd hP hf hc he⟩
      · have hany : ms.any (inS p s i) = false := by rw [← List.isSome_find?, hf]; rfl
        obtain ⟨hG, h1, h2⟩ := room_ok (g := g) (d := d) G hP.2.1 hs ⟨hP.2.2.2.1, hP.2.2.2.2⟩ hany hc he
        refine .inr ⟨hs, (roomR f g h ms p s d).f, (roomR f g h ms p s d).h, ms ++ [(p, s, i, (roomR f g h ms p s d).h s.toNat - 1, (roomR f g h ms p s d).q)], (p, s, i, (roomR f g h ms p s d).h s.toNat - 1, (roomR f g h ms p s d).q), (roomR f g h ms p s d).took, ⟨hG, hG.wf, fun o ho => find_self hG.maps.2 (by simp [ho]), fun u hu => ?_, by simp⟩, fun w hM => ?_⟩
        · cases ht : (roomR f g h ms p s d).took with
          | false => obtain ⟨_, e2, _⟩ := h1 ht; rw [e2]; exact ⟨fun _ => rfl, fun _ => rfl⟩
          | true =>
            obtain ⟨_, _, ⟨a, ha, _, e3, e4⟩, _⟩ := h2 ht
            rw [e3]
            unfold upd
            refine ⟨fun hne => by rw [if_neg hne], fun h0 => ?_⟩
            split
            · rename_i e
              rcases e4 with e4 | e4
              · rw [← e] at e4; exact absurd e4 h0
              · rw [e]; exact e4.symm
            · rfl
        · refine (open_new f g h sl ms p s i d w hM hwH hno hd hP hf hc he).mono ?_
          rintro e w' ⟨v, rfl, hMv, hNv, _, hb⟩
          exact ⟨v, rfl, hMv, hNv, hb⟩
theorem MapsAt.away {w : World} {v : Value} {m : Mp} {b : Nat} {os : List Mp} (h : MapsAt w v (os ++ [m])) (hb : w.heap.size ≤ b) : mb v ≠ b := Nat.ne_of_lt (Nat.lt_of_lt_of_le (h.lt (by simp)) hb)
theorem table_built : Try.prog.built 30 [] = some (tc (fun _ => 0) (fun _ => false) (fun _ => 0) (.slice none 0 0)) := by kernel_rfl
theorem wpList_buildT {ops : Array Oper} {rest : List Oper} {o : Oper} {a : Act} {w : World} {Q : Exit → Act → World → Prop} (hgd : o.guard = none) (ho : o.op = .build 30 #[])
    (hr : wpList Try.prog ops Q rest (a.put o.dst (.agg (tc (fun _ => 0) (fun _ => false) (fun _ => 0) (.slice none 0 0)))) w) : wpList Try.prog ops Q (o :: rest) a w :=
  wpList_plain hgd fun K hK => by
    have hb := run_build (P := Try.prog) w 30 #[] _ table_built
    unfold Oper.wp execOp
    simp only [ho, List.map_toArray, List.map_nil, Sem.run_bind, hb, Result.andThen_ok, Sem.run_pure]
    exact hK _ _ hr
theorem goodT_zero : GoodT (fun _ => 0) (fun _ => 0) [] := by
  refine ⟨by decide, msOk_nil _ _, fun k _ h => absurd rfl h, fun k _ h => absurd rfl h, fun s hs => ⟨?_, by simp [cntM]⟩⟩
  have : blocksL (fun _ => 0) (s : Int) = [] := by
    rw [List.eq_nil_iff_forall_not_mem]; intro n hn; have := (blocksL_mem _ _ _).1 hn; omega
  rw [this]; simp
def zr : RoomR := roomR (fun _ => 0) (fun _ => false) (fun _ => 0) [] 17 3 0
theorem zr_e : zr.e = 0 := by decide
theorem zr_q : zr.q = 1024 := by decide
theorem zr_t : zr.took = true := by decide
theorem zr_h : zr.h 3 = 1 := by decide
attribute [local irreducible] tc pc
set_option maxRecDepth 20000 in
set_option maxHeartbeats 8000000 in
theorem bindsKeep_any (w : World) : Calls Try.prog 22 #[] w fun e w' => e = .returned (.bool true) ∧ Below w.heap.size w w' := by
  have hB := Below.refl w.heap.size w
  have hP : openP (fun _ => 0) (fun _ => 0) [] 17 3 99 := ⟨goodT_zero, by decide, by omega, by omega, by omega⟩
  have hok := room_ok (g := fun _ => false) (d := 0) goodT_zero (p := 17) (s := 3) (i := 99) (by decide) (by omega) (by omega) (by simp) (by simp [cntM]) zr_e
  have CO := fun w => open_new (fun _ => 0) (fun _ => false) (fun _ => 0) (.slice none 0 0) [] 17 3 99 0 w (MapsAt.nil w) (fun i _ => (wf_small (Int.le_refl 0) (by omega) : (Lit.int .i64 0).wf = true)) (fun n c e => by injection e with _ _ e3; exact e3.symm) (by decide) hP rfl (by simp [cntM]) zr_e
  have hG := hok.1
  have hwR := hG.wf
  have q1 := zr_q
  have q2 := zr_t
  have q3 := zr_h
  unfold zr at q1 q2 q3
  generalize roomR (fun _ => 0) (fun _ => false) (fun _ => 0) [] 17 3 0 = r at *
  obtain ⟨rf, rh, rq, rt, re⟩ := r
  simp only at q1 q2 q3 CO hG hwR
  subst q1
  subst q2
  have HG : Hid (GoodT rf rh ([] ++ [(17, 3, 99, rh (3 : Int).toNat - 1, 1024)])) := hG
  unfold openS at CO
  obtain ⟨ra, hra⟩ : ∃ ra, ra = rh (3 : Int).toNat - 1 := ⟨_, rfl⟩
  rw [← hra] at CO HG
  clear hP hok hG hra
  go_enter Try.func22, Try.ntmps22
  go_wp2_with (first
    | (refine wpList_buildT rfl rfl ?_)
    | (go_at_call 17; go_fit (CO _); rintro e w5 ⟨v, rfl, hMv, hNv, hbv, hb5⟩; clear hNv hbv; replace hB := hB.trans (hb5.mono hB.size); (obtain ⟨av, cv, hv, -⟩ := id hMv); (generalize ([] ++ [((17, 3, 99, ra, 1024) : Mp)]).length = ln at hv); subst hv; have hltv := hMv.lt)
    | (refine wpList_allocX 1 30 rfl rfl rfl _ table_zero ?_; intro b1 w2 l1 R1 hb2; have hM2 := hMv.below hb2; have x1 := hMv.away l1; replace l1 := Nat.le_trans hB.size l1; replace hB := hB.trans (hb2.mono hB.size))
    | (refine wpList_allocX 2 32 rfl rfl rfl _ map_zero ?_; intro b2 w3 l2 R2 hb3; have n12 := R1.ne l2; have x2 := hM2.away l2; replace hM2 := hM2.below hb3; replace l2 := Nat.le_trans hB.size l2; replace R1 := R1.below hb3; replace hB := hB.trans (hb3.mono hB.size))
    | (refine wpList_storeR 30 rfl (.tmp 1) _ rfl b1 rfl (tc rf (fun _ => false) rh (.slice av ln cv)) rfl _ R1 (tc_sz _ _ _ _ _ _ _ _) (tc_info _ _ _ _) (tc_one _ _ _ _ _ _) ?_; intro w6 R1 t6; replace R2 := t6.row R2 n12.symm; replace hM2 := maps_turned hM2 x1 t6; replace hB := t6.below _ _ l1 hB)
    | (refine wpList_storeR 32 rfl (.tmp 2) _ rfl b2 rfl (mc (17, 3, 99, ra, 1024)) rfl _ R2 rfl (mc_info _) (mc_one _) ?_; intro w7 R2 t7; replace R1 := t7.row R1 n12; replace hM2 := maps_turned hM2 x2 t7; replace hB := t7.below _ _ l2 hB; have c2 : World.cell? _ ⟨b2, 4, none⟩ = some (.int .i64 1024) := m4 R2; have c1 : World.cell? _ ⟨b1, 24, none⟩ = some (.int .i64 1) := (R1.cell 24).trans ((tc_home _ _ _ _ 3 (by omega)).trans (by rw [q3])))
    | (refine wpList_loadR 30 (.tmp 1) rfl ?_ b1 rfl (tc rf (fun _ => false) rh (.slice av ln cv)) R1 _ Try.underlying30 rfl (tc_info _ _ _ _) ?_; · rfl)
    | (go_at_call 14; go_fit (goodt_any rf (fun _ => false) rh (.slice av ln cv) _ hwR _ hM2); rintro e w8 ⟨r, hr, rfl, hb8⟩; obtain rfl : r = true := hr.2 HG.out; clear hr; replace hB := hB.trans (hb8.mono hB.size)))
  go_ret
  exact ⟨rfl, hB⟩
end Go.Proofs.Ytmdijjbkjcnbpaa
