/-
  Of what BindCloses, BindOpens stands on: part 43.
-/
import Derived.Test.YtmdijjbkjcnbpaaBindCO30
import Derived.Test.YtmdijjbkjcnbpaaBindCO33
import Derived.Test.YtmdijjbkjcnbpaaBindCO34
import Derived.Test.YtmdijjbkjcnbpaaBindCO35
import Derived.Test.YtmdijjbkjcnbpaaBindCO37
import Derived.Test.YtmdijjbkjcnbpaaBindCO41
import Derived.Test.YtmdijjbkjcnbpaaBindCO42
namespace Go.Proofs.Ytmdijjbkjcnbpaa
open Go.ChangeShapes Go.WideShapes Go.ChangeAt Go.RowKit
set_option linter.unusedSimpArgs false
set_option linter.unusedVariables false

theorem openr_room (f : Nat → Int) (g : Nat → Bool) (h : Nat → Int) (sl : Value) (ms : List Mp) (p s i d : Int) (hwH : wfH h) (hno : NilOk sl) (hd : (Lit.int .i64 d).wf = true) (hP : openP f h ms p s i) (hf : ms.find? (inS p s i) = none) (hc : cntM ms s ≠ 12) (w : World) (hM : MapsAt w sl ms) :
    Calls Try.prog 18 #[.agg (tc f g h sl), .int .i64 p, .int .i64 s, .int .i64 i, .int .i64 d] w fun e w' => roomTo w f g h sl ms p s i (roomR f g h ms p s d) w' e ∧ Below w.heap.size w w' := by
  by_cases h0 : h s.toNat = 0
  · exact openr_none f g h sl ms p s i d hwH hno hd hP hf hc h0 w hM
  · have := hP.1.homeIn hP.2.2.1
    exact openr_home f g h sl ms p s i d hwH hno hd hP hf hc (h s.toNat - 1).toNat (by omega) w hM
/-- what Open and the document's OpenMap answer is the same. -/
theorem opens_both (f : Nat → Int) (g : Nat → Bool) (h : Nat → Int) (sl : Value) (ms : List Mp) (p s i d : Int) (hwF : wfF f) (hwH : wfH h) (hno : NilOk sl) (hd : (Lit.int .i64 d).wf = true) :
    ∃ (f' h' : Nat → Int) (ms' : List Mp) (m : Mp) (took : Bool) (er : Int), wfF f' ∧ wfH h' ∧
      (∀ v w, NilOk v → MapsAt w v ms → Calls Try.prog 17 #[.agg (tc f g h v), .int .i64 p, .int .i64 s, .int .i64 i, .int .i64 d] w fun e w' => ∃ v', e = .returned (openS f' g h' v' m took er) ∧ MapsAt w' v' ms' ∧ (v' = v ∨ (0 < ms'.length → w.heap.size ≤ mb v')) ∧ Below w.heap.size w w') ∧
      (∀ w, MapsAt w sl ms → Calls Try.prog 18 #[.agg (tc f g h sl), .int .i64 p, .int .i64 s, .int .i64 i, .int .i64 d] w fun e w' => ∃ v', e = .returned (openS f' g h' v' m took er) ∧ MapsAt w' v' ms' ∧ (v' = sl ∨ (0 < ms'.length → w.heap.size ≤ mb v')) ∧ Below w.heap.size w w') := by
  by_cases hP : openP f h ms p s i
  rotate_left
  · refine ⟨f, h, ms, noM, false, 2, hwF, hwH, fun v w _ hM => (open_bad f g h v ms p s i d w hM hwH hP).mono ?_, fun w hM => (openr_bad f g h sl ms p s i d hwH hP w hM).mono ?_⟩
    · rintro e w' ⟨rfl, hb⟩; exact ⟨v, rfl, hM.below hb, .inl rfl, hb⟩
    · rintro e w' ⟨rfl, hb⟩; exact ⟨sl, rfl, hM.below hb, .inl rfl, hb⟩
  cases hf : ms.find? (inS p s i) with
  | some m =>
    refine ⟨f, h, ms, m, false, 0, hwF, hwH, fun v w _ hM => (open_found f g h v ms p s i d w hM hwH hP m hf).mono ?_, fun w hM => (openr_found f g h sl ms p s i d hwH hP m hf w hM).mono ?_⟩
    · rintro e w' ⟨rfl, hb⟩; exact ⟨v, rfl, hM.below hb, .inl rfl, hb⟩
    · rintro e w' ⟨rfl, hb⟩; exact ⟨sl, rfl, hM.below hb, .inl rfl, hb⟩
  | none =>
    by_cases hc : cntM ms s = 12
    · refine ⟨f, h, ms, noM, false, 6, hwF, hwH, fun v w _ hM => (open_full f g h v ms p s i d w hM hwH hP hf hc).mono ?_, fun w hM => (openr_full f g h sl ms p s i d hwH hP hf hc w hM).mono ?_⟩
      · rintro e w' ⟨rfl, hb⟩; exact ⟨v, rfl, hM.below hb, .inl rfl, hb⟩
      · rintro e w' ⟨rfl, hb⟩; exact ⟨sl, rfl, hM.below hb, .inl rfl, hb⟩
    · by_cases he : (roomR f g h ms p s d).e = 0
      · have hany : ms.any (inS p s i) = false := by rw [List.any_eq_false]; exact List.find?_eq_none.1 hf
        have G2 := (room_ok (g := g) (d := d) hP.1 hP.2.1 hP.2.2.1 hP.2.2.2 hany hc he).1
        refine ⟨(roomR f g h ms p s d).f, (roomR f g h ms p s d).h, ms ++ [(p, s, i, (roomR f g h ms p s d).h s.toNat - 1, (roomR f g h ms p s d).q)], (p, s, i, (roomR f g h ms p s d).h s.toNat - 1, (roomR f g h ms p s d).q), (roomR f g h ms p s d).took, 0, good_wf G2.pool, GoodT.wf G2, fun v w hn hM => (open_new f g h v ms p s i d w hM hwH hn hd hP hf hc he).mono ?_, fun w hM => (openr_room f g h sl ms p s i d hwH hno hd hP hf hc w hM).mono ?_⟩
        · rintro e w' ⟨v', rfl, h1, -, h2, h3⟩; exact ⟨v', rfl, h1, .inr (fun _ => h2), h3⟩
        · rintro e w' ⟨⟨-, hr⟩, hb⟩
          obtain ⟨v', e1, h1, h2⟩ := hr he
          exact ⟨v', e1, h1, .inr (fun _ => h2), hb⟩
      · refine ⟨f, h, ms, noM, false, (roomR f g h ms p s d).e, hwF, hwH, fun v w _ hM => (open_err f g h v ms p s i d w hM hwH hd hP hf hc he).mono ?_, fun w hM => (openr_room f g h sl ms p s i d hwH hno hd hP hf hc w hM).mono ?_⟩
        · rintro e w' ⟨rfl, hb⟩; exact ⟨v, rfl, hM.below hb, .inl rfl, hb⟩
        · rintro e w' ⟨⟨hr, -⟩, hb⟩; exact ⟨sl, hr he, hM.below hb, .inl rfl, hb⟩
attribute [local irreducible] tc pc
set_option maxRecDepth 20000 in
set_option maxHeartbeats 8000000 in
theorem opens_any (f : Nat → Int) (g : Nat → Bool) (h : Nat → Int) (sl : Value) (ms : List Mp) (p s i d : Int) (hwF : wfF f) (hwH : wfH h) (hno : NilOk sl) (hln : ms.length ≤ 3518437208883) (hd : (Lit.int .i64 d).wf = true) (w : World) (hM : MapsAt w sl ms) :
    Calls Try.prog 4 #[.agg (tc f g h sl), .int .i64 p, .int .i64 s, .int .i64 i, .int .i64 d] w fun e w' => e = .returned (.bool true) ∧ Below w.heap.size w w' := by
  have B := Bd.startM hM
  have CC := fun w hM => copyTable_ref f g h sl ms hno hln w hM
  obtain ⟨f', h', ms', m, took, er, hf', hh', CP, CR⟩ := opens_both f g h sl ms p s i d hwF hwH hno hd
  unfold openS at CP CR
  have CS := fun v v2 w hM hM2 => same_ref f' g h' v v2 ms' hf' hh' w hM hM2
  have CT := fun v v2 w hM hM2 => same_ref f g h v v2 ms hwF hwH w hM hM2
  have CBs := fun w => bindsLaw_any w
  have EQ : ∀ w, (Op.equalIn 10000 32 (.agg (mc m)) (.agg (mc m))).run Try.prog w = .ok true w := fun w => by rw [eq_map]; simp
  obtain ⟨a0, cap, hsl, -⟩ := id hM
  obtain ⟨n, hn⟩ : ∃ n, n = ms.length := ⟨_, rfl⟩
  have HN : Hid (n = ms.length) := hn
  rw [← hn] at hsl
  subst hsl
  obtain ⟨n2, hn2⟩ : ∃ n, n = ms'.length := ⟨_, rfl⟩
  have HN2 : Hid (n2 = ms'.length) := hn2
  clear hn hn2 hno hln hwF hwH hf' hh' hM hd
  go_enter Try.func4, Try.ntmps4
  go_wp2_with (first | ((with_reducible refine at_opB (.box 30 (.tmp 0)) rfl ?_); refine wpList_boxR 30 rfl (.tmp 0) rfl _ rfl ?_; intro b5 w9 l9 R9 h9; replace B := B.alloc l9 R9 h9; clear R9 h9 l9) | ((with_reducible refine at_opB (.load 30 (.tmp 5)) rfl ?_); refine wpList_loadR 30 (.tmp 5) rfl (by kernel_rfl) b5 rfl (tc f g h (.slice a0 n cap)) (B.row 0 rfl) _ Try.underlying30 rfl (tc_info _ _ _ _) ?_) | (go_at_call 8; go_fit (CC _ (B.map 0 rfl)); rintro e w5 ⟨v5, rfl, hM5, hN5, hl5, hb5⟩; (obtain ⟨a1, c1, hv, -⟩ := id hM5); rw [← HN.out] at hv; subst hv; replace B := B.addNew hb5 hM5 hl5; clear hb5 hl5 hM5) | ((with_reducible refine at_opB (.alloc 30) rfl ?_); refine wpList_allocX 11 30 rfl rfl rfl _ table_zero ?_; intro b11 w9 l9 R9 h9; replace B := B.alloc l9 R9 h9; clear R9 h9 l9) | ((with_reducible refine at_opB (.store 30 (.tmp 11) (.tmp 21)) rfl ?_); refine wpList_storeR 30 rfl (.tmp 11) _ rfl b11 rfl (tc f g h (.slice a1 n c1)) rfl _ (B.row 0 rfl) (tc_sz _ _ _ _ _ _ _ _) (tc_info _ _ _ _) (tc_one _ _ _ _ _ _) ?_; intro w9 R9 t9; replace B := B.turn 0 rfl R9 t9; clear R9 t9) | ((with_reducible refine at_opB (.load 30 (.tmp 11)) rfl ?_); refine wpList_loadR 30 (.tmp 11) rfl (by kernel_rfl) b11 rfl (tc f g h (.slice a1 n c1)) (B.row 0 rfl) _ Try.underlying30 rfl (tc_info _ _ _ _) ?_) | (go_at_call 17; go_fit (CP _ _ hN5 (B.map 0 rfl)); rintro e w5 ⟨v5, rfl, hM5, ho5, hb5⟩; clear CP hN5; (obtain ⟨a2, c2, hv, -⟩ := id hM5); rw [← HN2.out] at hv; subst hv; replace B := B.addOr 0 rfl hb5 hM5 ho5; clear hb5 ho5 hM5) | ((with_reducible refine at_opB (.alloc 30) rfl ?_); refine wpList_allocX 12 30 rfl rfl rfl _ table_zero ?_; intro b12 w9 l9 R9 h9; replace B := B.alloc l9 R9 h9; clear R9 h9 l9) | ((with_reducible refine at_opB (.alloc 32) rfl ?_); refine wpList_allocX 13 32 rfl rfl rfl _ map_zero ?_; intro b13 w9 l9 R9 h9; replace B := B.alloc l9 R9 h9; clear R9 h9 l9) | ((with_reducible refine at_opB (.store 30 (.tmp 12) (.tmp 29)) rfl ?_); refine wpList_storeR 30 rfl (.tmp 12) _ rfl b12 rfl (tc f' g h' (.slice a2 n2 c2)) rfl _ (B.row 1 rfl) (tc_sz _ _ _ _ _ _ _ _) (tc_info _ _ _ _) (tc_one _ _ _ _ _ _) ?_; intro w9 R9 t9; replace B := B.turn 1 rfl R9 t9; clear R9 t9) | ((with_reducible refine at_opB (.store 32 (.tmp 13) (.tmp 30)) rfl ?_); refine wpList_storeR 32 rfl (.tmp 13) _ rfl b13 rfl (mc m) rfl _ (B.row 0 rfl) rfl (mc_info _) (mc_one _) ?_; intro w9 R9 t9; replace B := B.turn 0 rfl R9 t9; clear R9 t9) | ((with_reducible refine at_opB (.load 30 (.tmp 5)) rfl ?_); refine wpList_loadR 30 (.tmp 5) rfl (by kernel_rfl) b5 rfl (tc f g h (.slice a0 n cap)) (B.row 3 rfl) _ Try.underlying30 rfl (tc_info _ _ _ _) ?_) | (go_at_call 18; go_fit (CR _ (B.map 2 rfl)); rintro e w5 ⟨v5, rfl, hM5, ho5, hb5⟩; clear CR; (obtain ⟨a3, c3, hv, -⟩ := id hM5); rw [← HN2.out] at hv; subst hv; replace B := B.addOr 2 rfl hb5 hM5 ho5; clear hb5 ho5 hM5) | ((with_reducible refine at_opB (.alloc 30) rfl ?_); refine wpList_allocX 16 30 rfl rfl rfl _ table_zero ?_; intro b16 w9 l9 R9 h9; replace B := B.alloc l9 R9 h9; clear R9 h9 l9) | ((with_reducible refine at_opB (.alloc 32) rfl ?_); refine wpList_allocX 17 32 rfl rfl rfl _ map_zero ?_; intro b17 w9 l9 R9 h9; replace B := B.alloc l9 R9 h9; clear R9 h9 l9) | ((with_reducible refine at_opB (.store 30 (.tmp 16) (.tmp 40)) rfl ?_); refine wpList_storeR 30 rfl (.tmp 16) _ rfl b16 rfl (tc f' g h' (.slice a3 n2 c3)) rfl _ (B.row 1 rfl) (tc_sz _ _ _ _ _ _ _ _) (tc_info _ _ _ _) (tc_one _ _ _ _ _ _) ?_; intro w9 R9 t9; replace B := B.turn 1 rfl R9 t9; clear R9 t9) | ((with_reducible refine at_opB (.store 32 (.tmp 17) (.tmp 41)) rfl ?_); refine wpList_storeR 32 rfl (.tmp 17) _ rfl b17 rfl (mc m) rfl _ (B.row 0 rfl) rfl (mc_info _) (mc_one _) ?_; intro w9 R9 t9; replace B := B.turn 0 rfl R9 t9; clear R9 t9) | ((with_reducible refine at_opB (.load 30 (.tmp 12)) rfl ?_); refine wpList_loadR 30 (.tmp 12) rfl (by kernel_rfl) b12 rfl (tc f' g h' (.slice a2 n2 c2)) (B.row 3 rfl) _ Try.underlying30 rfl (tc_info _ _ _ _) ?_) | ((with_reducible refine at_opB (.load 30 (.tmp 16)) rfl ?_); refine wpList_loadR 30 (.tmp 16) rfl (by kernel_rfl) b16 rfl (tc f' g h' (.slice a3 n2 c3)) (B.row 1 rfl) _ Try.underlying30 rfl (tc_info _ _ _ _) ?_) | ((with_reducible refine at_opB (.load 32 (.tmp 13)) rfl ?_); refine wpList_loadR 32 (.tmp 13) rfl (by kernel_rfl) b13 rfl (mc m) (B.row 2 rfl) _ Try.underlying32 rfl (mc_info _) ?_) | ((with_reducible refine at_opB (.load 32 (.tmp 17)) rfl ?_); refine wpList_loadR 32 (.tmp 17) rfl (by kernel_rfl) b17 rfl (mc m) (B.row 0 rfl) _ Try.underlying32 rfl (mc_info _) ?_) | ((with_reducible refine at_opB (.binOp .eql 32 (.tmp 48) (.tmp 49) 32) rfl ?_); refine wpList_eqS 32 (.tmp 48) (.tmp 49) rfl (by kernel_rfl) (mc m) (mc m) rfl rfl Try.eqGuardType32 _ true (EQ _) rfl ?_) | ((with_reducible refine at_opB (.load 30 (.tmp 11)) rfl ?_); refine wpList_loadR 30 (.tmp 11) rfl (by kernel_rfl) b11 rfl (tc f g h (.slice a1 n c1)) (B.row 4 rfl) _ Try.underlying30 rfl (tc_info _ _ _ _) ?_) | ((with_reducible refine at_opB (.load 30 (.tmp 5)) rfl ?_); refine wpList_loadR 30 (.tmp 5) rfl (by kernel_rfl) b5 rfl (tc f g h (.slice a0 n cap)) (B.row 5 rfl) _ Try.underlying30 rfl (tc_info _ _ _ _) ?_) | (go_at_call 19; go_fit (CS _ _ _ (B.map 1 rfl) (B.map 0 rfl)); rintro e w5 ⟨rfl, hb5⟩; clear CS; replace B := B.below hb5; clear hb5) | (go_at_call 19; go_fit (CT _ _ _ (B.map 2 rfl) (B.map 3 rfl)); rintro e w5 ⟨rfl, hb5⟩; clear CT; replace B := B.below hb5; clear hb5) | (go_at_call 16; go_fit (CBs _); rintro e w5 ⟨rfl, hb5⟩; replace B := B.below hb5; clear hb5))
  go_ret
  exact ⟨rfl, B.base⟩
end Go.Proofs.Ytmdijjbkjcnbpaa
