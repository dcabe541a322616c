/-
  Of what BindCloses, BindOpens stands on: part 33.
-/
import Derived.Test.YtmdijjbkjcnbpaaBindCO21
import Derived.Test.YtmdijjbkjcnbpaaBindCO25
import Derived.Test.YtmdijjbkjcnbpaaBindCO27
import Derived.Test.YtmdijjbkjcnbpaaBindCO29
import Derived.Test.YtmdijjbkjcnbpaaBindCO30
import Derived.Test.YtmdijjbkjcnbpaaBindCO32
namespace Go.Proofs.Ytmdijjbkjcnbpaa
open Go.ChangeShapes Go.WideShapes Go.ChangeAt Go.RowKit
set_option linter.unusedSimpArgs false
set_option linter.unusedVariables false

theorem Bd.addOr {w W W' : World} {L : List (Nat × TypeId × Array Value)} {Ms : List (Value × List Mp)} (h : Bd w W L Ms) (k : Nat) {sl v : Value} {ms ms' : List Mp} (hk : Ms[k]? = some (sl, ms)) (hb : Below W.heap.size W W') (hM : MapsAt W' v ms') (ho : v = sl ∨ (0 < ms'.length → W.heap.size ≤ mb v)) : Bd w W' L ((v, ms') :: Ms) := by
  rcases ho with rfl | ho
  · exact h.addEither k hk hb hM (.inl rfl)
  · exact h.addNew hb hM ho
theorem Bd.startM {w : World} {sl : Value} {ms : List Mp} (h : MapsAt w sl ms) : Bd w w [] [(sl, ms)] := ⟨by simp, by simp, by intro q hq; obtain rfl := List.mem_singleton.1 hq; exact ⟨h, by simp⟩, Below.refl _ _⟩
end Go.Proofs.Ytmdijjbkjcnbpaa

namespace Go.Proofs.Ytmdijjbkjcnbpaa
open Go.ChangeShapes Go.WideShapes Go.ChangeAt Go.RowKit
set_option linter.unusedSimpArgs false
set_option linter.unusedVariables false

/-- what Close and the document's CloseMap answer is the same. -/
theorem closes_both (f : Nat → Int) (g : Nat → Bool) (h : Nat → Int) (sl : Value) (ms : List Mp) (m : Mp) (hwF : wfF f) (hwH : wfH h) :
    ∃ (f' h' : Nat → Int) (ms' : List Mp) (gv : Bool) (er : Int), wfF f' ∧ wfH h' ∧
      (∀ v w, MapsAt w v ms → Calls Try.prog 20 #[.agg (tc f g h v), .agg (mc m)] w fun e w' => ∃ v', e = .returned (.tuple #[.agg (tc f' g h' v'), .bool gv, .int .i64 er]) ∧ MapsAt w' v' ms' ∧ (v' = v ∨ (0 < ms'.length → w.heap.size ≤ mb v')) ∧ Below w.heap.size w w') ∧
      (∀ w, MapsAt w sl ms → Calls Try.prog 21 #[.agg (tc f g h sl), .agg (mc m)] w fun e w' => ∃ v', e = .returned (.tuple #[.agg (tc f' g h' v'), .bool gv, .int .i64 er]) ∧ MapsAt w' v' ms' ∧ (v' = sl ∨ (0 < ms'.length → w.heap.size ≤ mb v')) ∧ Below w.heap.size w w') := by
  have CG := fun w hM => goodTable_ref f g h sl ms hwH w hM
  by_cases G : GoodT f h ms
  · by_cases hm : m ∈ ms
    · cases ha : (dropM ms m).any (fun o => placeM o == placeM m) with
      | true =>
        have G2 := good_drop G hm ha
        refine ⟨f, h, dropM ms m, false, 0, hwF, hwH, fun v w hM => (close_in f g h v ms m hwH w hM G hm ha).mono ?_, fun w hM => (closeMap_good f g h sl ms m CG G w hM).mono ?_⟩
        · rintro e w' ⟨v', rfl, h1, -, h2, h3⟩; exact ⟨v', rfl, h1, .inr h2, h3⟩
        · rintro e w' ⟨⟨-, hc⟩, hb⟩
          obtain ⟨v', h1, h2, h3, -⟩ := hc hm
          exact ⟨v', h3 ha, h1, .inr h2, hb⟩
      | false =>
        have G2 := good_give G hm ha
        have HR : ∀ (er : Int) w, MapsAt w sl ms → Calls Try.prog 21 #[.agg (tc f g h sl), .agg (mc m)] w fun e w' => ∃ v', e = .returned (.tuple #[.agg (tc (closeF f m) g (closeH f h m) v'), .bool true, .int .i64 0]) ∧ MapsAt w' v' (dropM ms m) ∧ (v' = sl ∨ (0 < (dropM ms m).length → w.heap.size ≤ mb v')) ∧ Below w.heap.size w w' := fun er w hM => (closeMap_good f g h sl ms m CG G w hM).mono (by
          rintro e w' ⟨⟨-, hc⟩, hb⟩
          obtain ⟨v', h1, h2, -, h3⟩ := hc hm
          exact ⟨v', h3 ha, h1, .inr h2, hb⟩)
        by_cases hz : (blocksL (closeF f m) m.2.1).length = 0
        · rw [if_pos (show (blocksL (upd f (placeM m) 0) m.2.1).length = 0 from hz)] at G2
          have e : closeH f h m = upd h m.2.1.toNat 0 := by unfold closeH; rw [if_pos hz]
          refine ⟨closeF f m, closeH f h m, dropM ms m, true, 0, good_wf G2.pool, by rw [e]; exact GoodT.wf G2, fun v w hM => (close_zero f g h v ms m hwH w hM G hm ha hz).mono ?_, HR 0⟩
          rw [e]; rintro e w' ⟨v', rfl, h1, -, h2, h3⟩; exact ⟨v', rfl, h1, .inr h2, h3⟩
        · rw [if_neg (show ¬ (blocksL (upd f (placeM m) 0) m.2.1).length = 0 from hz)] at G2
          have e : closeH f h m = h := by unfold closeH; rw [if_neg hz]
          refine ⟨closeF f m, closeH f h m, dropM ms m, true, 0, good_wf G2.pool, by rw [e]; exact hwH, fun v w hM => (close_more f g h v ms m hwH w hM G hm ha hz).mono ?_, HR 0⟩
          rw [e]; rintro e w' ⟨v', rfl, h1, -, h2, h3⟩; exact ⟨v', rfl, h1, .inr h2, h3⟩
    · refine ⟨f, h, ms, false, 7, hwF, hwH, fun v w hM => (close_none f g h v ms m hwH G hm w hM).mono ?_, fun w hM => (closeMap_good f g h sl ms m CG G w hM).mono ?_⟩
      · rintro e w' ⟨rfl, hb⟩; exact ⟨v, rfl, hM.below hb, .inl rfl, hb⟩
      · rintro e w' ⟨⟨hc, -⟩, hb⟩; exact ⟨sl, hc hm, hM.below hb, .inl rfl, hb⟩
  · refine ⟨f, h, ms, false, 2, hwF, hwH, fun v w hM => (close_bad f g h v ms m hwH G w hM).mono ?_, fun w hM => (closeMap_bad f g h sl ms m CG G w hM).mono ?_⟩
    · rintro e w' ⟨rfl, hb⟩; exact ⟨v, rfl, hM.below hb, .inl rfl, hb⟩
    · rintro e w' ⟨rfl, hb⟩; exact ⟨sl, rfl, hM.below hb, .inl rfl, hb⟩
attribute [local irreducible] tc pc
set_option maxRecDepth 20000 in
set_option maxHeartbeats 8000000 in
theorem closes_any (f : Nat → Int) (g : Nat → Bool) (h : Nat → Int) (sl : Value) (ms : List Mp) (m : Mp) (hwF : wfF f) (hwH : wfH h) (hno : NilOk sl) (hln : ms.length ≤ 3518437208883) (w : World) (hM : MapsAt w sl ms) :
    Calls Try.prog 5 #[.agg (tc f g h sl), .agg (mc m)] w fun e w' => e = .returned (.bool true) ∧ Below w.heap.size w w' := by
  have B := Bd.startM hM
  have CC := fun w hM => copyTable_ref f g h sl ms hno hln w hM
  obtain ⟨f', h', ms', gv, er, hf', hh', CP, CR⟩ := closes_both f g h sl ms m hwF hwH
  have CS := fun v v2 w hM hM2 => same_ref f' g h' v v2 ms' hf' hh' w hM hM2
  have CT := fun v v2 w hM hM2 => same_ref f g h v v2 ms hwF hwH w hM hM2
  have CBs := fun w => bindsLaw_any w
  obtain ⟨a0, cap, hsl, -⟩ := id hM
  obtain ⟨n, hn⟩ : ∃ n, n = ms.length := ⟨_, rfl⟩
  have HN : Hid (n = ms.length) := hn
  rw [← hn] at hsl
  subst hsl
  obtain ⟨n2, hn2⟩ : ∃ n, n = ms'.length := ⟨_, rfl⟩
  have HN2 : Hid (n2 = ms'.length) := hn2
  clear hn hn2 hno hln hwF hwH hf' hh' hM
  go_enter Try.func5, Try.ntmps5
  go_wp2_with (first | ((with_reducible refine at_opB (.box 30 (.tmp 0)) rfl ?_); refine wpList_boxR 30 rfl (.tmp 0) rfl _ rfl ?_; intro b2 w9 l9 R9 h9; replace B := B.alloc l9 R9 h9; clear R9 h9 l9) | ((with_reducible refine at_opB (.box 32 (.tmp 1)) rfl ?_); refine wpList_boxR 32 rfl (.tmp 1) rfl (mc m) rfl ?_; intro b3 w9 l9 R9 h9; replace B := B.alloc l9 R9 h9; clear R9 h9 l9) | ((with_reducible refine at_opB (.load 30 (.tmp 2)) rfl ?_); refine wpList_loadR 30 (.tmp 2) rfl (by kernel_rfl) b2 rfl (tc f g h (.slice a0 n cap)) (B.row 1 rfl) _ Try.underlying30 rfl (tc_info _ _ _ _) ?_) | (go_at_call 8; go_fit (CC _ (B.map 0 rfl)); rintro e w5 ⟨v5, rfl, hM5, hN5, hl5, hb5⟩; clear hN5; (obtain ⟨a1, c1, hv, -⟩ := id hM5); rw [← HN.out] at hv; subst hv; replace B := B.addNew hb5 hM5 hl5; clear hb5 hl5 hM5) | ((with_reducible refine at_opB (.alloc 30) rfl ?_); refine wpList_allocX 5 30 rfl rfl rfl _ table_zero ?_; intro b5 w9 l9 R9 h9; replace B := B.alloc l9 R9 h9; clear R9 h9 l9) | ((with_reducible refine at_opB (.store 30 (.tmp 5) (.tmp 13)) rfl ?_); refine wpList_storeR 30 rfl (.tmp 5) _ rfl b5 rfl (tc f g h (.slice a1 n c1)) rfl _ (B.row 0 rfl) (tc_sz _ _ _ _ _ _ _ _) (tc_info _ _ _ _) (tc_one _ _ _ _ _ _) ?_; intro w9 R9 t9; replace B := B.turn 0 rfl R9 t9; clear R9 t9) | ((with_reducible refine at_opB (.load 30 (.tmp 5)) rfl ?_); refine wpList_loadR 30 (.tmp 5) rfl (by kernel_rfl) b5 rfl (tc f g h (.slice a1 n c1)) (B.row 0 rfl) _ Try.underlying30 rfl (tc_info _ _ _ _) ?_) | ((with_reducible refine at_opB (.load 32 (.tmp 3)) rfl ?_); refine wpList_loadR 32 (.tmp 3) rfl (by kernel_rfl) b3 rfl (mc m) (B.row 1 rfl) _ Try.underlying32 rfl (mc_info _) ?_) | (go_at_call 20; go_fit (CP _ _ (B.map 0 rfl)); rintro e w5 ⟨v5, rfl, hM5, ho5, hb5⟩; clear CP; (obtain ⟨a2, c2, hv, -⟩ := id hM5); rw [← HN2.out] at hv; subst hv; replace B := B.addOr 0 rfl hb5 hM5 ho5; clear hb5 ho5 hM5) | ((with_reducible refine at_opB (.alloc 30) rfl ?_); refine wpList_allocX 6 30 rfl rfl rfl _ table_zero ?_; intro b6 w9 l9 R9 h9; replace B := B.alloc l9 R9 h9; clear R9 h9 l9) | ((with_reducible refine at_opB (.store 30 (.tmp 6) (.tmp 18)) rfl ?_); refine wpList_storeR 30 rfl (.tmp 6) _ rfl b6 rfl (tc f' g h' (.slice a2 n2 c2)) rfl _ (B.row 0 rfl) (tc_sz _ _ _ _ _ _ _ _) (tc_info _ _ _ _) (tc_one _ _ _ _ _ _) ?_; intro w9 R9 t9; replace B := B.turn 0 rfl R9 t9; clear R9 t9) | ((with_reducible refine at_opB (.load 30 (.tmp 2)) rfl ?_); refine wpList_loadR 30 (.tmp 2) rfl (by kernel_rfl) b2 rfl (tc f g h (.slice a0 n cap)) (B.row 3 rfl) _ Try.underlying30 rfl (tc_info _ _ _ _) ?_) | ((with_reducible refine at_opB (.load 32 (.tmp 3)) rfl ?_); refine wpList_loadR 32 (.tmp 3) rfl (by kernel_rfl) b3 rfl (mc m) (B.row 2 rfl) _ Try.underlying32 rfl (mc_info _) ?_) | (go_at_call 21; go_fit (CR _ (B.map 2 rfl)); rintro e w5 ⟨v5, rfl, hM5, ho5, hb5⟩; clear CR; (obtain ⟨a3, c3, hv, -⟩ := id hM5); rw [← HN2.out] at hv; subst hv; replace B := B.addOr 2 rfl hb5 hM5 ho5; clear hb5 ho5 hM5) | ((with_reducible refine at_opB (.alloc 30) rfl ?_); refine wpList_allocX 9 30 rfl rfl rfl _ table_zero ?_; intro b9 w9 l9 R9 h9; replace B := B.alloc l9 R9 h9; clear R9 h9 l9) | ((with_reducible refine at_opB (.store 30 (.tmp 9) (.tmp 25)) rfl ?_); refine wpList_storeR 30 rfl (.tmp 9) _ rfl b9 rfl (tc f' g h' (.slice a3 n2 c3)) rfl _ (B.row 0 rfl) (tc_sz _ _ _ _ _ _ _ _) (tc_info _ _ _ _) (tc_one _ _ _ _ _ _) ?_; intro w9 R9 t9; replace B := B.turn 0 rfl R9 t9; clear R9 t9) | ((with_reducible refine at_opB (.load 30 (.tmp 6)) rfl ?_); refine wpList_loadR 30 (.tmp 6) rfl (by kernel_rfl) b6 rfl (tc f' g h' (.slice a2 n2 c2)) (B.row 1 rfl) _ Try.underlying30 rfl (tc_info _ _ _ _) ?_) | ((with_reducible refine at_opB (.load 30 (.tmp 9)) rfl ?_); refine wpList_loadR 30 (.tmp 9) rfl (by kernel_rfl) b9 rfl (tc f' g h' (.slice a3 n2 c3)) (B.row 0 rfl) _ Try.underlying30 rfl (tc_info _ _ _ _) ?_) | ((with_reducible refine at_opB (.load 30 (.tmp 5)) rfl ?_); refine wpList_loadR 30 (.tmp 5) rfl (by kernel_rfl) b5 rfl (tc f g h (.slice a1 n c1)) (B.row 2 rfl) _ Try.underlying30 rfl (tc_info _ _ _ _) ?_) | ((with_reducible refine at_opB (.load 30 (.tmp 2)) rfl ?_); refine wpList_loadR 30 (.tmp 2) rfl (by kernel_rfl) b2 rfl (tc f g h (.slice a0 n cap)) (B.row 4 rfl) _ Try.underlying30 rfl (tc_info _ _ _ _) ?_) | (go_at_call 19; go_fit (CS _ _ _ (B.map 1 rfl) (B.map 0 rfl)); rintro e w5 ⟨rfl, hb5⟩; clear CS; replace B := B.below hb5; clear hb5) | (go_at_call 19; go_fit (CT _ _ _ (B.map 2 rfl) (B.map 3 rfl)); rintro e w5 ⟨rfl, hb5⟩; clear CT; replace B := B.below hb5; clear hb5) | (go_at_call 16; go_fit (CBs _); rintro e w5 ⟨rfl, hb5⟩; replace B := B.below hb5; clear hb5))
  go_ret
  exact ⟨rfl, B.base⟩
end Go.Proofs.Ytmdijjbkjcnbpaa

namespace Go.Proofs.Ytmdijjbkjcnbpaa
open Go.ChangeShapes Go.WideShapes Go.ChangeAt Go.RowKit
set_option linter.unusedSimpArgs false
set_option linter.unusedVariables false

theorem map_built0 : Try.prog.built 32 [] = some (mc noM) := by kernel_rfl
theorem wpList_buildM0 {ops : Array Oper} {rest : List Oper} {o : Oper} {a : Act} {w : World} {Q : Exit → Act → World → Prop} (hgd : o.guard = none) (ho : o.op = .build 32 #[])
    (hr : wpList Try.prog ops Q rest (a.put o.dst (.agg (mc noM))) w) : wpList Try.prog ops Q (o :: rest) a w :=
  wpList_plain hgd fun K hK => by
    have hb := run_build (P := Try.prog) w 32 #[] _ map_built0
    unfold Oper.wp execOp
    simp only [ho, List.map_toArray, List.map_nil, Sem.run_bind, hb, Result.andThen_ok, Sem.run_pure]
    exact hK _ _ hr
theorem run_bm5 (x y z u v : Int) (w : World) : (Instr.build 32 #[(0, .int .i64 x), (1, .int .i64 y), (2, .int .i64 z), (3, .int .i64 u), (4, .int .i64 v)]).run Try.prog w = .ok (.agg (mc (x, y, z, u, v))) w := by kernel_rfl
theorem wpList_buildM5 {ops : Array Oper} {rest : List Oper} {o : Oper} {a : Act} {w : World} {Q : Exit → Act → World → Prop} (hgd : o.guard = none) (p q r s t : Operand) (ho : o.op = .build 32 #[(0, p), (1, q), (2, r), (3, s), (4, t)]) (x y z u v : Int) (h1 : a.eval p = .int .i64 x) (h2 : a.eval q = .int .i64 y) (h3 : a.eval r = .int .i64 z) (h4 : a.eval s = .int .i64 u) (h5 : a.eval t = .int .i64 v)
    (hr : wpList Try.prog ops Q rest (a.put o.dst (.agg (mc (x, y, z, u, v)))) w) : wpList Try.prog ops Q (o :: rest) a w :=
  wpList_plain hgd fun K hK => by
    unfold Oper.wp execOp
    simp only [ho, List.map_toArray, List.map_cons, List.map_nil, h1, h2, h3, h4, h5, Sem.run_bind, run_bm5, Result.andThen_ok, Sem.run_pure]
    exact hK _ _ hr
theorem Bd.ownNew {w W w2 : World} {L : List (Nat × TypeId × Array Value)} {v : Value} {D : List Mp} (h : Bd w W L []) (hown : w2.ownsRow W.heap.size 32 5 v D.length (flat D)) (hb : Below W.heap.size W w2) : Bo w w2 L v D := by
  refine ⟨h.below hb, ⟨hown.1, ?_⟩, fun b hbm => ?_⟩
  · rcases hown.2 with e | ⟨b, cap, cur, hv, hbb, r⟩
    · exact .inl e
    · exact .inr ⟨b, cap, cur, hv, Nat.le_trans h.base.size hbb, r⟩
  · rcases hown.2 with ⟨e, _⟩ | ⟨b', cap, cur, hv, hbb, r⟩
    · rw [e]; simp [Value.ownBlock]
    · rw [hv]; intro e2
      have e3 : b' = b := Option.some.inj e2
      have := h.lt hbm
      omega
theorem Bd.tail {w W : World} {L : List (Nat × TypeId × Array Value)} {Ms : List (Value × List Mp)} {y : Nat × TypeId × Array Value} (h : Bd w W (y :: L) Ms) : Bd w W L Ms :=
  ⟨(List.nodup_cons.1 (by simpa using h.nodup)).2, fun z hz => h.rows z (List.mem_cons_of_mem _ hz), fun q hq => ⟨(h.maps q hq).1, fun b hb => (h.maps q hq).2 b (by rw [List.map_cons]; exact List.mem_cons_of_mem _ hb)⟩, h.base⟩
theorem Bo.drew {w W : World} {L : List (Nat × TypeId × Array Value)} {v : Value} {D : List Mp} (h : Bo w W L v D) : Bo w W.drew L v D := h.below (Below.refl _ _).drew
attribute [local irreducible] tc pc
set_option maxRecDepth 10000 in
set_option maxHeartbeats 4000000 in
theorem copyTable_own (f : Nat → Int) (g : Nat → Bool) (h : Nat → Int) (sl : Value) (ms : List Mp) (hno : NilOk sl) (hln : ms.length ≤ 3518437208883) (w : World) (hM : MapsAt w sl ms) :
    Calls Try.prog 8 #[.agg (tc f g h sl)] w fun e w' => ∃ v, e = .returned (.agg (tc f g h v)) ∧ w'.ownsRow w.heap.size 32 5 v ms.length (flat ms) ∧ Below w.heap.size w w' := by
  have B := Bd.start w
  obtain ⟨i0, hi, hz0, hz1, hz2⟩ := info_parts info_map
  have hM0 := hM
  obtain ⟨a0, cap, hsl, ha0, -⟩ := hM0
  obtain ⟨n, hn⟩ : ∃ n, n = ms.length := ⟨_, rfl⟩
  have HN : Hid (n = ms.length) := hn
  rw [← hn] at hsl
  have hlt := hM.lt
  have HLM : Hid (ms.length ≤ 140737488355328) := hM.len
  have HLN : Hid (n ≤ 3518437208883) := hidB (by rw [hn]; exact hln)
  clear hln
  cases a0 with
  | none =>
    obtain rfl : cap = 0 := hno _ _ hsl
    have n0 : ms.length = 0 := by
      by_cases h : 0 < ms.length
      · have := ha0 h; simp at this
      · omega
    have hms : ms = [] := List.eq_nil_of_length_eq_zero n0
    obtain rfl : n = 0 := hn.trans n0
    subst hsl hms
    clear ha0 hn n0 HLM HLN hno hlt hM HN
    go_enter Try.func8, Try.ntmps8
    go_wp2_with (first | ((with_reducible refine at_opB (.box 30 (.tmp 0)) rfl ?_); refine wpList_boxR 30 rfl (.tmp 0) rfl _ rfl ?_; intro b1 w9 l9 R9 h9; replace B := B.alloc l9 R9 h9; clear R9 h9 l9) | ((with_reducible refine at_opB (.alloc 30) rfl ?_); refine wpList_allocX 2 30 rfl rfl rfl _ table_zero ?_; intro b2 w9 l9 R9 h9; replace B := B.alloc l9 R9 h9; clear R9 h9 l9; have cM : World.cell? _ ⟨b1, 29, none⟩ = some (.slice none 0 0) := ((B.row 1 rfl).cell 29).trans (tc_maps _ _ _ _)) | ((with_reducible refine at_opB (.call { callee := .builtin .append, args := #[.const (.slice none 0 0), .tmp 4], argTypes := #[28, 28] }) rfl ?_); refine wpList_append_own_none rfl (.const (.slice none 0 0)) (.tmp 4) 28 rfl w.heap.size 32 i0 5 Try.underlying28 hi _ _ _ rfl (World.ownsRow_nil _ w.heap.size 32 5) rfl ?_; clear cM) | ((with_reducible refine at_opB (.store 28 (.tmp 6) (.tmp 5)) rfl ?_); refine wpList_storeV (B.row 1 rfl) rfl _ _ rfl 29 rfl _ _ _ rfl _ (tc_maps _ _ _ _) (tc f g h (.slice none 0 0)) (tc_setM _ _ _ _ _) ?_; intro w9 R9 t9; replace B := B.turn 1 rfl R9 t9; clear R9 t9) | ((with_reducible refine at_opB (.load 30 (.tmp 1)) rfl ?_); refine wpList_loadR 30 (.tmp 1) rfl (by kernel_rfl) b1 rfl (tc f g h (.slice none 0 0)) (B.row 1 rfl) _ Try.underlying30 rfl (tc_info _ _ _ _) ?_) | ((with_reducible refine at_opB (.store 30 (.tmp 2) (.tmp 7)) rfl ?_); refine wpList_storeR 30 rfl (.tmp 2) _ rfl b2 rfl (tc f g h (.slice none 0 0)) rfl _ (B.row 0 rfl) (tc_sz _ _ _ _ _ _ _ _) (tc_info _ _ _ _) (tc_one _ _ _ _ _ _) ?_; intro w9 R9 t9; replace B := B.turn 0 rfl R9 t9; clear R9 t9))
    exact bodyPost_ret (results_row1 rfl _ _ b2 _ rfl (B.row 0 rfl) _ Try.underlying30 rfl (tc_info _ _ _ _)) rfl ⟨_, rfl, by simpa [flat] using World.ownsRow_nil _ _ _ _, B.base⟩
  | some ad =>
    have src : ∀ {W : World}, Below w.heap.size w W → ∀ k u, (flat ms)[k]? = some u → W.cell? (ad.add k) = some u := by
      intro W hb k u hu
      have hk : k < ms.length * 5 := by rw [← flat_lenB]; exact (List.getElem?_eq_some_iff.1 hu).1
      have had : ad = ⟨mb sl, mo sl, none⟩ := Option.some.inj (ha0 (by omega))
      rw [had, Addr.add_lit]
      refine flat_cells (fun j hj => ?_) k u hu
      exact (hM.keep hb hlt).at j hj rfl
    subst hsl
    clear ha0 hn hno
    go_enter Try.func8, Try.ntmps8
    go_wp2_with (first | ((with_reducible refine at_opB (.box 30 (.tmp 0)) rfl ?_); refine wpList_boxR 30 rfl (.tmp 0) rfl _ rfl ?_; intro b1 w9 l9 R9 h9; replace B := B.alloc l9 R9 h9; clear R9 h9 l9) | ((with_reducible refine at_opB (.alloc 30) rfl ?_); refine wpList_allocX 2 30 rfl rfl rfl _ table_zero ?_; intro b2 w9 l9 R9 h9; replace B := B.alloc l9 R9 h9; clear R9 h9 l9; have cM : World.cell? _ ⟨b1, 29, none⟩ = some (.slice (some ad) n cap) := ((B.row 1 rfl).cell 29).trans (tc_maps _ _ _ _)) | ((with_reducible refine at_opB (.call { callee := .builtin .append, args := #[.const (.slice none 0 0), .tmp 4], argTypes := #[28, 28] }) rfl ?_); refine wpList_append_own _ rfl (.const (.slice none 0 0)) (.tmp 4) 28 rfl _ 32 i0 (.agg (mc noM)) 5 40 Try.underlying28 hi hz0 hz1 hz2 rfl (by decide) _ _ _ rfl (World.ownsRow_nil _ _ 32 5) ad n cap (flat ms) rfl (by rw [flat_lenB, HN.out]) (src B.base) (flat_oneCell ms) (by have := HLN.out; unfold maxLen; omega) (by have := HLN.out; omega) (Nat.le_refl _) ?_; intro v2 w2 hown2 hg2 hn2; clear hn2 cM; simp only [Nat.zero_add, List.nil_append] at hown2; rw [HN.out] at hown2; replace B := B.ownNew hown2 (grown_nilB hg2); obtain ⟨av, cv, hv5⟩ := row_slice2 hown2; clear hown2 hg2; rw [← HN.out] at hv5; subst hv5) | ((with_reducible refine at_opB (.store 28 (.tmp 6) (.tmp 5)) rfl ?_); refine wpList_storeV (B.row 1 rfl) rfl _ _ rfl 29 rfl _ _ _ rfl _ (tc_maps _ _ _ _) (tc f g h (.slice av n cv)) (tc_setM _ _ _ _ _) ?_; intro w9 R9 t9; replace B := B.turn 1 rfl R9 t9; clear R9 t9) | ((with_reducible refine at_opB (.load 30 (.tmp 1)) rfl ?_); refine wpList_loadR 30 (.tmp 1) rfl (by kernel_rfl) b1 rfl (tc f g h (.slice av n cv)) (B.row 1 rfl) _ Try.underlying30 rfl (tc_info _ _ _ _) ?_) | ((with_reducible refine at_opB (.store 30 (.tmp 2) (.tmp 7)) rfl ?_); refine wpList_storeR 30 rfl (.tmp 2) _ rfl b2 rfl (tc f g h (.slice av n cv)) rfl _ (B.row 0 rfl) (tc_sz _ _ _ _ _ _ _ _) (tc_info _ _ _ _) (tc_one _ _ _ _ _ _) ?_; intro w9 R9 t9; replace B := B.turn 0 rfl R9 t9; clear R9 t9))
    refine bodyPost_ret (results_row1 rfl _ _ b2 _ rfl (B.row 0 rfl) _ Try.underlying30 rfl (tc_info _ _ _ _)) rfl ⟨_, rfl, B.own, B.base⟩
end Go.Proofs.Ytmdijjbkjcnbpaa
