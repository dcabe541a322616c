/-
  The template: what it is made of, and that the program answers at all.
-/
import Derived.Test.YtnhafdkfjjplkaaDoorRecE
namespace Go.Proofs.YtnhafdkfjjplkaaDoor
open Go.ChangeShapes Go.WideShapes Go.ChangeAt Go.RowKit
set_option linter.unusedSimpArgs false
set_option linter.unusedVariables false

/-- the table of parts, as its variable holds it. -/
def tabL : List Value := [.int .i64 323, .int .i64 8, .int .i64 8, .int .i64 4, .int .i64 225, .int .i64 4, .int .i64 361, .int .i64 2, .int .i64 362, .int .i64 2, .int .i64 230, .int .i64 1]
def Tab (w : World) : Prop := w.rangeAt 0 0 tabL
theorem Tab.lt {w : World} (h : Tab w) : 0 < w.heap.size := by
  have := h 0 _ rfl
  unfold World.cell? at this
  by_cases hlt : 0 < w.heap.size
  · exact hlt
  · have h3 : w.heap[0]? = none := Array.getElem?_eq_none (by omega)
    simp [h3] at this
theorem Tab.keep {w w' : World} {B : Nat} (h : Tab w) (hb : Below B w w') (hB : 0 < B) : Tab w' := fun j v hv => by
  have := h j v hv
  unfold World.cell? at *
  rw [hb.block _ hB]
  exact this
theorem Tab.below {w w' : World} (h : Tab w) (hb : Below w.heap.size w w') : Tab w' := h.keep hb h.lt
theorem Tab.grew {v v' : Value} {w w' : World} (h : Tab w) (hg : Grew v v' w w') (hv : v.ownBlock ≠ some 0) : Tab w' := fun j x hx => by
  have := h j x hx
  unfold World.cell? at *
  rw [hg.by'.block _ h.lt (fun e => hv e.symm)]
  exact this
theorem wpList_loadTab {ops : Array Oper} {rest : List Oper} {o : Oper} {a : Act} {w : World} {Q : Exit → Act → World → Prop} (x : Operand) (ho : o.op = .load 56 x) (hw : Region.wanted o (yielded ops a.tmps) = true)
    (hx : a.eval x = .pointer (some ⟨0, 0, none⟩)) (h : Tab w)
    (hr : wpList Tryd.prog ops Q rest (a.put o.dst (.agg tabL.toArray)) w) : wpList Tryd.prog ops Q (o :: rest) a w :=
  wpList_step fun K hK => by
    rw [if_pos hw]
    exact wp_load_mid 56 x ho 0 0 hx tabL _ h Tryd.underlying56 rfl (by kernel_rfl) (hK _ _ hr)
theorem wpList_idxTab {ops : Array Oper} {rest : List Oper} {o : Oper} {a : Act} {w : World} {Q : Exit → Act → World → Prop} (x y : Operand) (ho : o.op = .index 56 x y) (hw : Region.wanted o (yielded ops a.tmps) = true)
    (i q : Value) (hx : a.eval x = .agg tabL.toArray) (hy : a.eval y = i) (hrun : (Instr.index 56 (.agg tabL.toArray) i).run Tryd.prog w = .ok q w)
    (hr : wpList Tryd.prog ops Q rest (a.put o.dst q) w) : wpList Tryd.prog ops Q (o :: rest) a w :=
  wpList_step fun K hK => by
    rw [if_pos hw]
    unfold Oper.wp execOp
    simp only [ho, hx, hy, Sem.run_bind, hrun, Result.andThen_ok, Sem.run_pure]
    exact hK _ _ hr
/-- what the template has. -/
def tplN (j : Nat) : List Int := ([323, 8, 8, 4, 225, 4, 361, 2, 362, 2, 230, 1] : List Int).take (2 * j)
def tplB (j : Nat) : List UInt8 := be 300 2 ++ be 6 2 ++ (tplN j).flatMap (fun n => be n 2)
theorem tplB_len (j : Nat) : (tplB j).length ≤ 28 := by
  unfold tplB tplN
  rcases (show j = 0 ∨ j = 1 ∨ j = 2 ∨ j = 3 ∨ j = 4 ∨ j = 5 ∨ 6 ≤ j by omega) with rfl | rfl | rfl | rfl | rfl | rfl | h
  all_goals first | (simp [be_len]; done) | (rw [List.take_of_length_le (by simp; omega)]; simp [be_len])
theorem tplB_six : (tplB 6).length = 28 := by simp [tplB, tplN, be_len]
theorem tplB_zero : be 300 2 ++ be 6 2 = tplB 0 := by simp [tplB, tplN]
theorem tplB_1 : tplB 0 ++ be 323 2 ++ be 8 2 = tplB 1 := by simp [tplB, tplN]
theorem tplB_2 : tplB 1 ++ be 8 2 ++ be 4 2 = tplB 2 := by simp [tplB, tplN]
theorem tplB_3 : tplB 2 ++ be 225 2 ++ be 4 2 = tplB 3 := by simp [tplB, tplN]
theorem tplB_4 : tplB 3 ++ be 361 2 ++ be 2 2 = tplB 4 := by simp [tplB, tplN]
theorem tplB_5 : tplB 4 ++ be 362 2 ++ be 2 2 = tplB 5 := by simp [tplB, tplN]
theorem tplB_6 : tplB 5 ++ be 230 2 ++ be 1 2 = tplB 6 := by simp [tplB, tplN]
set_option maxRecDepth 10000 in
set_option maxHeartbeats 4000000 in
theorem template_any (seq : Int) (w : World) (hT : Tab w) :
    Calls Tryd.prog 10 #[.int .i64 seq] w fun x w' => x = .returned (msgS 0 seq 2 (tplB 6)) ∧ Below w.heap.size w w' := by
  have hO := Bys.nil w w.heap.size
  have hG := Grew.refl (.slice none 0 0) w
  have hge := Nat.le_refl w.heap.size
  have H0 : Hid ([] ++ be 300 2 ++ be 6 2 = tplB 0) := by show _ = _; rw [← tplB_zero]; rfl
  have hB : ∀ {v' : Value} {w' : World}, Grew (.slice none 0 0) v' w w' → Below w.heap.size w w' := fun h => h.below (Nat.le_refl _) (fun k hk => by simp [Value.ownBlock] at hk)
  go_enter Tryd.func10, Tryd.ntmps10
  go_wp2_with (first
    | (go_at_call 25; go_fit (put2_any _ _ hO (by omega) (by first | omega | (simp only [List.length_append, List.length_nil, be_len]; omega)) (by omega) (by omega)); rintro x w5 ⟨v5, rfl, hO5, hG5⟩;  replace hO := hO5; replace hge := Nat.le_trans hge hG5.by'.size; replace hG := hG.trans hG5; clear hO5 hG5)
    | ((with_reducible refine atOp (.load 56 (.global 0)) rfl ?_); refine wpList_loadTab _ rfl rfl rfl (hT.keep (hB hG) hT.lt) ?_))
  rw [H0.out] at hO
  go_loopw [4, 11] (fun b i W => ∃ j : Nat, j ≤ 6 ∧ i = .int .i64 (j : Int) ∧ Bys W w.heap.size b (tplB j) ∧ Grew (.slice none 0 0) b w W) (fun _ i _ => 6 - (intOf i).toNat)
  case atStart => exact ⟨0, by omega, rfl, hO, hG⟩
  case round =>
    clear hO hG hge
    obtain ⟨j, hj, rfl, hO, hG⟩ := hrel
    have hge := hG.by'.size
    have hge0 := hge
    by_cases hlt : j < 6
    · rcases (show j = 0 ∨ j = 1 ∨ j = 2 ∨ j = 3 ∨ j = 4 ∨ j = 5 by omega) with rfl | rfl | rfl | rfl | rfl | rfl
      · have HN : Hid (tplB 0 ++ be 323 2 ++ be 8 2 = tplB 1) := tplB_1
        have hlen := tplB_len 0
        go_wp2_with (first
          | ((with_reducible refine atOp (.alloc 55) rfl ?_); refine wpList_allocX 6 55 rfl rfl rfl #[.int .i64 0, .int .i64 0] (fun w => by kernel_rfl) ?_; intro b6 w2 l6 R6 hb2; have hne := own_new hO l6; replace hO := hO.below hb2; replace hge := Nat.le_trans hge hb2.size; replace hG := hG.trans (Grew.ofBelow hb2))
          | ((with_reducible refine atOp (.index 56 (.tmp 10) (.tmp 11)) rfl ?_); refine wpList_idxTab (.tmp 10) (.tmp 11) rfl rfl _ (.agg #[.int .i64 323, .int .i64 8]) rfl rfl (by kernel_rfl) ?_)
          | ((with_reducible refine atOp (.store 55 (.tmp 6) (.tmp 13)) rfl ?_); refine wpList_storeR 55 rfl (.tmp 6) (.tmp 13) rfl b6 rfl #[.int .i64 323, .int .i64 8] rfl _ R6 rfl (by kernel_rfl) (by kernel_rfl) ?_; intro w3 R6 t3; replace hO := bys_turned hO hne t3; replace hG := grew_turned hG (Nat.le_trans hge0 l6) t3; replace hge := Nat.le_trans hge (Nat.le_of_eq t3.size.symm))
          | ((with_reducible refine atOp (.load 3 (.tmp 15)) rfl ?_); refine wpList_loadF R6 _ rfl rfl 0 rfl _ rfl ?_)
          | ((with_reducible refine atOp (.load 3 (.tmp 19)) rfl ?_); refine wpList_loadF R6 _ rfl rfl 1 rfl _ rfl ?_)
          | (go_at_call 25; go_fit (put2_any _ _ hO (by omega) (by first | omega | (simp only [List.length_append, List.length_nil, be_len]; omega)) (by omega) (by omega)); rintro x w5 ⟨v5, rfl, hO5, hG5⟩; have hne5 := hG5.ne hne R6.lt; replace R6 := hG5.row R6 hne; replace hne := hne5; clear hne5; replace hO := hO5; replace hge := Nat.le_trans hge hG5.by'.size; replace hG := hG.trans hG5; clear hO5 hG5))
        go_roundw
        case rel => exact ⟨1, by omega, rfl, by rw [← HN.out]; exact hO, hG⟩
        case measure => simp [intOf]
      · have HN : Hid (tplB 1 ++ be 8 2 ++ be 4 2 = tplB 2) := tplB_2
        have hlen := tplB_len 1
        go_wp2_with (first
          | ((with_reducible refine atOp (.alloc 55) rfl ?_); refine wpList_allocX 6 55 rfl rfl rfl #[.int .i64 0, .int .i64 0] (fun w => by kernel_rfl) ?_; intro b6 w2 l6 R6 hb2; have hne := own_new hO l6; replace hO := hO.below hb2; replace hge := Nat.le_trans hge hb2.size; replace hG := hG.trans (Grew.ofBelow hb2))
          | ((with_reducible refine atOp (.index 56 (.tmp 10) (.tmp 11)) rfl ?_); refine wpList_idxTab (.tmp 10) (.tmp 11) rfl rfl _ (.agg #[.int .i64 8, .int .i64 4]) rfl rfl (by kernel_rfl) ?_)
          | ((with_reducible refine atOp (.store 55 (.tmp 6) (.tmp 13)) rfl ?_); refine wpList_storeR 55 rfl (.tmp 6) (.tmp 13) rfl b6 rfl #[.int .i64 8, .int .i64 4] rfl _ R6 rfl (by kernel_rfl) (by kernel_rfl) ?_; intro w3 R6 t3; replace hO := bys_turned hO hne t3; replace hG := grew_turned hG (Nat.le_trans hge0 l6) t3; replace hge := Nat.le_trans hge (Nat.le_of_eq t3.size.symm))
          | ((with_reducible refine atOp (.load 3 (.tmp 15)) rfl ?_); refine wpList_loadF R6 _ rfl rfl 0 rfl _ rfl ?_)
          | ((with_reducible refine atOp (.load 3 (.tmp 19)) rfl ?_); refine wpList_loadF R6 _ rfl rfl 1 rfl _ rfl ?_)
          | (go_at_call 25; go_fit (put2_any _ _ hO (by omega) (by first | omega | (simp only [List.length_append, List.length_nil, be_len]; omega)) (by omega) (by omega)); rintro x w5 ⟨v5, rfl, hO5, hG5⟩; have hne5 := hG5.ne hne R6.lt; replace R6 := hG5.row R6 hne; replace hne := hne5; clear hne5; replace hO := hO5; replace hge := Nat.le_trans hge hG5.by'.size; replace hG := hG.trans hG5; clear hO5 hG5))
        go_roundw
        case rel => exact ⟨2, by omega, rfl, by rw [← HN.out]; exact hO, hG⟩
        case measure => simp [intOf]
      · have HN : Hid (tplB 2 ++ be 225 2 ++ be 4 2 = tplB 3) := tplB_3
        have hlen := tplB_len 2
        go_wp2_with (first
          | ((with_reducible refine atOp (.alloc 55) rfl ?_); refine wpList_allocX 6 55 rfl rfl rfl #[.int .i64 0, .int .i64 0] (fun w => by kernel_rfl) ?_; intro b6 w2 l6 R6 hb2; have hne := own_new hO l6; replace hO := hO.below hb2; replace hge := Nat.le_trans hge hb2.size; replace hG := hG.trans (Grew.ofBelow hb2))
          | ((with_reducible refine atOp (.index 56 (.tmp 10) (.tmp 11)) rfl ?_); refine wpList_idxTab (.tmp 10) (.tmp 11) rfl rfl _ (.agg #[.int .i64 225, .int .i64 4]) rfl rfl (by kernel_rfl) ?_)
          | ((with_reducible refine atOp (.store 55 (.tmp 6) (.tmp 13)) rfl ?_); refine wpList_storeR 55 rfl (.tmp 6) (.tmp 13) rfl b6 rfl #[.int .i64 225, .int .i64 4] rfl _ R6 rfl (by kernel_rfl) (by kernel_rfl) ?_; intro w3 R6 t3; replace hO := bys_turned hO hne t3; replace hG := grew_turned hG (Nat.le_trans hge0 l6) t3; replace hge := Nat.le_trans hge (Nat.le_of_eq t3.size.symm))
          | ((with_reducible refine atOp (.load 3 (.tmp 15)) rfl ?_); refine wpList_loadF R6 _ rfl rfl 0 rfl _ rfl ?_)
          | ((with_reducible refine atOp (.load 3 (.tmp 19)) rfl ?_); refine wpList_loadF R6 _ rfl rfl 1 rfl _ rfl ?_)
          | (go_at_call 25; go_fit (put2_any _ _ hO (by omega) (by first | omega | (simp only [List.length_append, List.length_nil, be_len]; omega)) (by omega) (by omega)); rintro x w5 ⟨v5, rfl, hO5, hG5⟩; have hne5 := hG5.ne hne R6.lt; replace R6 := hG5.row R6 hne; replace hne := hne5; clear hne5; replace hO := hO5; replace hge := Nat.le_trans hge hG5.by'.size; replace hG := hG.trans hG5; clear hO5 hG5))
        go_roundw
        case rel => exact ⟨3, by omega, rfl, by rw [← HN.out]; exact hO, hG⟩
        case measure => simp [intOf]
      · have HN : Hid (tplB 3 ++ be 361 2 ++ be 2 2 = tplB 4) := tplB_4
        have hlen := tplB_len 3
        go_wp2_with (first
          | ((with_reducible refine atOp (.alloc 55) rfl ?_); refine wpList_allocX 6 55 rfl rfl rfl #[.int .i64 0, .int .i64 0] (fun w => by kernel_rfl) ?_; intro b6 w2 l6 R6 hb2; have hne := own_new hO l6; replace hO := hO.below hb2; replace hge := Nat.le_trans hge hb2.size; replace hG := hG.trans (Grew.ofBelow hb2))
          | ((with_reducible refine atOp (.index 56 (.tmp 10) (.tmp 11)) rfl ?_); refine wpList_idxTab (.tmp 10) (.tmp 11) rfl rfl _ (.agg #[.int .i64 361, .int .i64 2]) rfl rfl (by kernel_rfl) ?_)
          | ((with_reducible refine atOp (.store 55 (.tmp 6) (.tmp 13)) rfl ?_); refine wpList_storeR 55 rfl (.tmp 6) (.tmp 13) rfl b6 rfl #[.int .i64 361, .int .i64 2] rfl _ R6 rfl (by kernel_rfl) (by kernel_rfl) ?_; intro w3 R6 t3; replace hO := bys_turned hO hne t3; replace hG := grew_turned hG (Nat.le_trans hge0 l6) t3; replace hge := Nat.le_trans hge (Nat.le_of_eq t3.size.symm))
          | ((with_reducible refine atOp (.load 3 (.tmp 15)) rfl ?_); refine wpList_loadF R6 _ rfl rfl 0 rfl _ rfl ?_)
          | ((with_reducible refine atOp (.load 3 (.tmp 19)) rfl ?_); refine wpList_loadF R6 _ rfl rfl 1 rfl _ rfl ?_)
          | (go_at_call 25; go_fit (put2_any _ _ hO (by omega) (by first | omega | (simp only [List.length_append, List.length_nil, be_len]; omega)) (by omega) (by omega)); rintro x w5 ⟨v5, rfl, hO5, hG5⟩; have hne5 := hG5.ne hne R6.lt; replace R6 := hG5.row R6 hne; replace hne := hne5; clear hne5; replace hO := hO5; replace hge := Nat.le_trans hge hG5.by'.size; replace hG := hG.trans hG5; clear hO5 hG5))
        go_roundw
        case rel => exact ⟨4, by omega, rfl, by rw [← HN.out]; exact hO, hG⟩
        case measure => simp [intOf]
      · have HN : Hid (tplB 4 ++ be 362 2 ++ be 2 2 = tplB 5) := tplB_5
        have hlen := tplB_len 4
        go_wp2_with (first
          | ((with_reducible refine atOp (.alloc 55) rfl ?_); refine wpList_allocX 6 55 rfl rfl rfl #[.int .i64 0, .int .i64 0] (fun w => by kernel_rfl) ?_; intro b6 w2 l6 R6 hb2; have hne := own_new hO l6; replace hO := hO.below hb2; replace hge := Nat.le_trans hge hb2.size; replace hG := hG.trans (Grew.ofBelow hb2))
          | ((with_reducible refine atOp (.index 56 (.tmp 10) (.tmp 11)) rfl ?_); refine wpList_idxTab (.tmp 10) (.tmp 11) rfl rfl _ (.agg #[.int .i64 362, .int .i64 2]) rfl rfl (by kernel_rfl) ?_)
          | ((with_reducible refine atOp (.store 55 (.tmp 6) (.tmp 13)) rfl ?_); refine wpList_storeR 55 rfl (.tmp 6) (.tmp 13) rfl b6 rfl #[.int .i64 362, .int .i64 2] rfl _ R6 rfl (by kernel_rfl) (by kernel_rfl) ?_; intro w3 R6 t3; replace hO := bys_turned hO hne t3; replace hG := grew_turned hG (Nat.le_trans hge0 l6) t3; replace hge := Nat.le_trans hge (Nat.le_of_eq t3.size.symm))
          | ((with_reducible refine atOp (.load 3 (.tmp 15)) rfl ?_); refine wpList_loadF R6 _ rfl rfl 0 rfl _ rfl ?_)
          | ((with_reducible refine atOp (.load 3 (.tmp 19)) rfl ?_); refine wpList_loadF R6 _ rfl rfl 1 rfl _ rfl ?_)
          | (go_at_call 25; go_fit (put2_any _ _ hO (by omega) (by first | omega | (simp only [List.length_append, List.length_nil, be_len]; omega)) (by omega) (by omega)); rintro x w5 ⟨v5, rfl, hO5, hG5⟩; have hne5 := hG5.ne hne R6.lt; replace R6 := hG5.row R6 hne; replace hne := hne5; clear hne5; replace hO := hO5; replace hge := Nat.le_trans hge hG5.by'.size; replace hG := hG.trans hG5; clear hO5 hG5))
        go_roundw
        case rel => exact ⟨5, by omega, rfl, by rw [← HN.out]; exact hO, hG⟩
        case measure => simp [intOf]
      · have HN : Hid (tplB 5 ++ be 230 2 ++ be 1 2 = tplB 6) := tplB_6
        have hlen := tplB_len 5
        go_wp2_with (first
          | ((with_reducible refine atOp (.alloc 55) rfl ?_); refine wpList_allocX 6 55 rfl rfl rfl #[.int .i64 0, .int .i64 0] (fun w => by kernel_rfl) ?_; intro b6 w2 l6 R6 hb2; have hne := own_new hO l6; replace hO := hO.below hb2; replace hge := Nat.le_trans hge hb2.size; replace hG := hG.trans (Grew.ofBelow hb2))
          | ((with_reducible refine atOp (.index 56 (.tmp 10) (.tmp 11)) rfl ?_); refine wpList_idxTab (.tmp 10) (.tmp 11) rfl rfl _ (.agg #[.int .i64 230, .int .i64 1]) rfl rfl (by kernel_rfl) ?_)
          | ((with_reducible refine atOp (.store 55 (.tmp 6) (.tmp 13)) rfl ?_); refine wpList_storeR 55 rfl (.tmp 6) (.tmp 13) rfl b6 rfl #[.int .i64 230, .int .i64 1] rfl _ R6 rfl (by kernel_rfl) (by kernel_rfl) ?_; intro w3 R6 t3; replace hO := bys_turned hO hne t3; replace hG := grew_turned hG (Nat.le_trans hge0 l6) t3; replace hge := Nat.le_trans hge (Nat.le_of_eq t3.size.symm))
          | ((with_reducible refine atOp (.load 3 (.tmp 15)) rfl ?_); refine wpList_loadF R6 _ rfl rfl 0 rfl _ rfl ?_)
          | ((with_reducible refine atOp (.load 3 (.tmp 19)) rfl ?_); refine wpList_loadF R6 _ rfl rfl 1 rfl _ rfl ?_)
          | (go_at_call 25; go_fit (put2_any _ _ hO (by omega) (by first | omega | (simp only [List.length_append, List.length_nil, be_len]; omega)) (by omega) (by omega)); rintro x w5 ⟨v5, rfl, hO5, hG5⟩; have hne5 := hG5.ne hne R6.lt; replace R6 := hG5.row R6 hne; replace hne := hne5; clear hne5; replace hO := hO5; replace hge := Nat.le_trans hge hG5.by'.size; replace hG := hG.trans hG5; clear hO5 hG5))
        go_roundw
        case rel => exact ⟨6, by omega, rfl, by rw [← HN.out]; exact hO, hG⟩
        case measure => simp [intOf]
    · obtain rfl : j = 6 := by omega
      have hl6 := tplB_six
      go_wp2_with (go_at_call 22; go_fit (message_any w.heap.size 0 seq 2 _ hO (by omega) (by omega) (by omega) (by omega) (by omega) (by omega)); rintro x w5 ⟨rfl, hb5⟩; unfold msgS)
      go_ret2
      exact ⟨rfl, (hB hG).trans (hb5.mono hge)⟩
end Go.Proofs.YtnhafdkfjjplkaaDoor
