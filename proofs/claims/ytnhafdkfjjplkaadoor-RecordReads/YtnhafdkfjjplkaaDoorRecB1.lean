/-
  The document's numbers and events, read.
-/
import Derived.Test.YtnhafdkfjjplkaaDoorRecK
import Derived.Test.YtnhafdkfjjplkaaDoorRecF
import Derived.Test.YtnhafdkfjjplkaaDoorRecC
import Derived.Test.YtnhafdkfjjplkaaDoorYieldP
namespace Go.Proofs.YtnhafdkfjjplkaaDoor
open Go.ChangeShapes Go.WideShapes Go.ChangeAt Go.RowKit
set_option linter.unusedSimpArgs false
set_option linter.unusedVariables false

theorem wrap_step (x c : Int) : wrap64 (wrap64 (256 * wrap64 x) + c) = wrap64 (256 * x + c) := by unfold wrap64; omega
set_option maxRecDepth 10000 in
theorem numRef_any (l : List UInt8) (w : World) (hs : l.length ≤ 8) :
    Calls Tryd.prog 28 #[.string (txt l)] w fun e w' => e = .returned (.int .i64 (wrap64 (num l))) ∧ Below w.heap.size w w' := by
  obtain ⟨C, cap, hconv, hcell⟩ := bytes_new (txt l) w
  have hsz : (txt l).size = l.length := txt_size l
  rw [hsz] at hconv
  go_enter Tryd.func28, Tryd.ntmps28
  go_wp2
  go_loop [3, 9] (fun t i => ∃ k : Nat, k ≤ l.length ∧ i = .int .i64 k ∧ t = .int .i64 (wrap64 (num (l.take k)))) (fun _ i => l.length - (intOf i).toNat)
  case atStart => exact ⟨0, by omega, rfl, by simp [num, wrap64]⟩
  case round =>
    obtain ⟨k, hk, rfl, rfl⟩ := hrel
    by_cases hlt : k < l.length
    · have HS : Hid (num (l.take (k + 1)) = 256 * num (l.take k) + (l[k].toNat : Int)) := num_take_step l k hlt
      have c0 := byte_bd l[k]
      have hc : World.cell? (w.alloc (.cells C 5 (C.size, C.size + 1))) ⟨w.heap.size, k, none⟩ = some (.int .u8 (l[k].toNat : Int)) := by
        have h5 := hcell k (by rw [hsz]; exact hlt)
        rw [txt_getE l k hlt (by rw [hsz]; exact hlt)] at h5
        exact h5
      have HW : Hid (wrap64 (wrap64 (256 * wrap64 (num (l.take k))) + (l[k].toNat : Int)) = _) := wrap_step _ _
      have hjw : wrap64 ((k : Int) + 1) = (k : Int) + 1 := by unfold wrap64; omega
      clear hcell
      go_wp2
      go_round
      case rel => exact ⟨k + 1, by omega, by go_num, by rw [HW.out, HS.out]⟩
      case measure => simp [intOf]; omega
    · have HA : Hid (wrap64 (num (l.take k)) = wrap64 (num l)) := by
        show _ = _
        rw [List.take_of_length_le (by omega)]
      go_wp2
      go_ret
      exact ⟨by rw [← HA.out]; rfl, ((Below.refl _ _).alloc (Nat.le_refl _) _).drew⟩
theorem numRef4_any (l : List UInt8) (w : World) (hs : l.length ≤ 4) :
    Calls Tryd.prog 28 #[.string (txt l)] w fun e w' => e = .returned (.int .i64 (num l)) ∧ Below w.heap.size w w' := by
  have := numRef_any l w (by omega)
  have hb := num_le (k := 4) hs (by omega)
  rw [wrap_small (by omega) (by omega)] at this
  exact this
/-- the how manieth event of a time. -/
def evN (t : Int) (n : Nat) : Ev := ⟨t, (n % 8 : Nat), (n / 8 % 3 : Nat), (n / 24 % 6 : Nat), n / 144 == 1⟩
theorem evN_ok {t : Int} (h0 : 0 ≤ t) (h1 : t ≤ 1099511627776) (n : Nat) : okE (evN t n) := by unfold okE evN; simp; omega
theorem evN_int (T : Int) (n : Nat) : evN T n = ⟨T, (n : Int) % 8, (n : Int) / 8 % 3, (n : Int) / 24 % 6, (n : Int) / 144 == 1⟩ := by
  unfold evN
  have h : (n / 144 == 1) = ((n : Int) / 144 == 1) := by rw [Bool.eq_iff_iff]; simp; omega
  rw [h]; congr 1
theorem evN_all {e : Ev} (h : okE e) : ∃ n, n < 288 ∧ evN e.t n = e := by
  obtain ⟨t, s, a, b, fr⟩ := e
  obtain ⟨_, ⟨s0, s1⟩, ⟨a0, a1⟩, b0, b1⟩ := h
  simp at s0 s1 a0 a1 b0 b1
  obtain ⟨s, rfl⟩ : ∃ k : Nat, s = k := ⟨s.toNat, by omega⟩
  obtain ⟨a, rfl⟩ : ∃ k : Nat, a = k := ⟨a.toNat, by omega⟩
  obtain ⟨b, rfl⟩ : ∃ k : Nat, b = k := ⟨b.toNat, by omega⟩
  cases fr
  · refine ⟨s + 8 * a + 24 * b, by omega, ?_⟩
    unfold evN
    have e1 : (s + 8 * a + 24 * b) % 8 = s := by omega
    have e2 : (s + 8 * a + 24 * b) / 8 % 3 = a := by omega
    have e3 : (s + 8 * a + 24 * b) / 24 % 6 = b := by omega
    have e4 : (s + 8 * a + 24 * b) / 144 = 0 := by omega
    rw [e1, e2, e3, e4]; rfl
  · refine ⟨s + 8 * a + 24 * b + 144, by omega, ?_⟩
    unfold evN
    have e1 : (s + 8 * a + 24 * b + 144) % 8 = s := by omega
    have e2 : (s + 8 * a + 24 * b + 144) / 8 % 3 = a := by omega
    have e3 : (s + 8 * a + 24 * b + 144) / 24 % 6 = b := by omega
    have e4 : (s + 8 * a + 24 * b + 144) / 144 = 1 := by omega
    rw [e1, e2, e3, e4]; rfl
theorem ev_buildF (t s a b : Int) (fr : Bool) (w : World) : (Instr.build 29 #[(0, .int .i64 t), (1, .int .i64 s), (2, .int .i64 a), (3, .int .i64 b), (4, .bool fr)]).run Tryd.prog w = .ok (.agg (ec ⟨t, s, a, b, fr⟩)) w := by kernel_rfl
theorem wpList_buildF {ops : Array Oper} {rest : List Oper} {o : Oper} {a : Act} {w : World} {Q : Exit → Act → World → Prop} (x0 x1 x2 x3 x4 : Operand) (ho : o.op = .build 29 #[(0, x0), (1, x1), (2, x2), (3, x3), (4, x4)]) (hw : Region.wanted o (yielded ops a.tmps) = true)
    (t s b c : Int) (fr : Bool) (h0 : a.eval x0 = .int .i64 t) (h1 : a.eval x1 = .int .i64 s) (h2 : a.eval x2 = .int .i64 b) (h3 : a.eval x3 = .int .i64 c) (h4 : a.eval x4 = .bool fr)
    (hr : wpList Tryd.prog ops Q rest (a.put o.dst (.agg (ec ⟨t, s, b, c, fr⟩))) w) : wpList Tryd.prog ops Q (o :: rest) a w :=
  wpList_step fun K hK => by
    rw [if_pos hw]
    unfold Oper.wp execOp
    simp only [ho, List.map_toArray, List.map_cons, List.map_nil, h0, h1, h2, h3, h4, Sem.run_bind, ev_buildF, Result.andThen_ok, Sem.run_pure]
    exact hK _ _ hr
theorem ev_build9 (w : World) : (Instr.build 29 #[]).run Tryd.prog w = .ok (.agg (ec noE)) w := by kernel_rfl
theorem rdT (l : List UInt8) : (rdE l).t = wrap64 (num (l.take 8)) := rfl
theorem meas288 {n : Nat} (h : n < 288) : 288 - ((n : Int) + 1).toNat < 288 - ((n : Int)).toNat := by omega
set_option maxRecDepth 10000 in
set_option maxHeartbeats 8000000 in
theorem readEvent_any (l : List UInt8) (w : World) (hl : l.length = 21) :
    Calls Tryd.prog 29 #[.string (txt l)] w fun x w' => ((okR l ∧ x = .returned (.tuple #[.agg (ec (rdE l)), .bool true])) ∨ (¬ okR l ∧ x = .returned (.tuple #[.agg (ec noE), .bool false]))) ∧ Below w.heap.size w w' := by
  have hB := Below.refl w.heap.size w
  have hsz : (txt l).size = 21 := by rw [txt_size, hl]
  have h1 := txt_left l 8
  have h8 : (l.take 8).length ≤ 8 := by rw [List.length_take]; omega
  obtain ⟨T, hT⟩ : ∃ T, wrap64 (num (l.take 8)) = T := ⟨_, rfl⟩
  have HT : Hid (wrap64 (num (l.take 8)) = T) := hT
  have HR : Hid ((rdE l).t = T) := hT
  have h21 : l.take 21 = l := List.take_of_length_le (by omega)
  by_cases t0 : T < 0
  · have HN : Hid (¬ okR l) := fun h => by have := h.1.1.1; rw [HR.out] at this; omega
    have g0 : decide (T < 0) = true := by simpa using t0
    clear t0 h21
    go_enter Tryd.func29, Tryd.ntmps29
    go_wp2_with (first
      | ((with_reducible refine atOp (.alloc 29) rfl ?_); refine wpList_allocX 2 29 rfl rfl rfl _ ev_zero ?_; intro b2 w2 g2 R2 hb2; replace hB := hB.trans (hb2.mono hB.size))
      | (go_at_call 28; go_fit (numRef_any (l.take 8) _ h8); rintro x w5 ⟨rfl, hb5⟩; replace R2 := R2.below hb5; replace hB := hB.trans (hb5.mono hB.size))
      | ((with_reducible refine atOp (.build 29 #[]) rfl ?_); refine wpList_buildZ 29 rfl rfl _ ev_build9 ?_)
      | ((with_reducible refine atOp (.store 29 (.tmp 2) (.tmp 16)) rfl ?_); refine wpList_storeR 29 rfl (.tmp 2) (.tmp 16) rfl b2 rfl (ec noE) rfl _ R2 rfl (ec_info _) (ec_one _) ?_; intro w6 R2 t6; replace hB := t6.below _ _ g2 hB))
    ((try simp only [Exit.inBlock, Exit.then]); refine bodyPost_ret (results_row2 (p := 2) (u := 3) rfl _ _ _ _ rfl R2 _ Tryd.underlying29 rfl (ec_info _)) rfl ?_)
    exact ⟨Or.inr ⟨HN.out, rfl⟩, hB⟩
  by_cases t1 : 1099511627776 < T
  · have HN : Hid (¬ okR l) := fun h => by have := h.1.1.2; rw [HR.out] at this; omega
    have g0 : decide (T < 0) = false := by simpa using t0
    have g1 : decide (1099511627776 < T) = true := by simpa using t1
    clear t0 t1 h21
    go_enter Tryd.func29, Tryd.ntmps29
    go_wp2_with (first
      | ((with_reducible refine atOp (.alloc 29) rfl ?_); refine wpList_allocX 2 29 rfl rfl rfl _ ev_zero ?_; intro b2 w2 g2 R2 hb2; replace hB := hB.trans (hb2.mono hB.size))
      | (go_at_call 28; go_fit (numRef_any (l.take 8) _ h8); rintro x w5 ⟨rfl, hb5⟩; replace R2 := R2.below hb5; replace hB := hB.trans (hb5.mono hB.size))
      | ((with_reducible refine atOp (.build 29 #[]) rfl ?_); refine wpList_buildZ 29 rfl rfl _ ev_build9 ?_)
      | ((with_reducible refine atOp (.store 29 (.tmp 2) (.tmp 16)) rfl ?_); refine wpList_storeR 29 rfl (.tmp 2) (.tmp 16) rfl b2 rfl (ec noE) rfl _ R2 rfl (ec_info _) (ec_one _) ?_; intro w6 R2 t6; replace hB := t6.below _ _ g2 hB))
    ((try simp only [Exit.inBlock, Exit.then]); refine bodyPost_ret (results_row2 (p := 2) (u := 3) rfl _ _ _ _ rfl R2 _ Tryd.underlying29 rfl (ec_info _)) rfl ?_)
    exact ⟨Or.inr ⟨HN.out, rfl⟩, hB⟩
  have g0 : decide (T < 0) = false := by simpa using t0
  have g1 : decide (1099511627776 < T) = false := by simpa using t1
  have HOK : Hid (∀ n, okE (evN T n)) := fun n => evN_ok (by omega) (by omega) n
  have H21 : Hid (l.take 21 = l) := h21
  clear t0 t1 h21
  go_enter Tryd.func29, Tryd.ntmps29
  go_wp2_with (first
    | ((with_reducible refine atOp (.alloc 29) rfl ?_); refine wpList_allocX 2 29 rfl rfl rfl _ ev_zero ?_; intro b2 w2 g2 R2 hb2; replace hB := hB.trans (hb2.mono hB.size))
    | (go_at_call 28; go_fit (numRef_any (l.take 8) _ h8); rintro x w5 ⟨rfl, hb5⟩; replace R2 := R2.below hb5; replace hB := hB.trans (hb5.mono hB.size)))
  go_loopw [17] (fun i W => ∃ n : Nat, n ≤ 288 ∧ i = .int .i64 (n : Int) ∧ Hid (∀ k, k < n → evB (evN T k) ≠ l) ∧ Below w.heap.size w W ∧ Row 29 W b2 (ec noE)) (fun i _ => 288 - (intOf i).toNat)
  case atStart => exact ⟨0, by omega, rfl, fun k hk => absurd hk (Nat.not_lt_zero k), hB, R2⟩
  case round =>
    clear hB R2
    obtain ⟨n, hn, rfl, HF, hB, R2⟩ := hrel
    by_cases hlt : n < 288
    · have hi : (n : Int) < 288 := by omega
      have hw1 : wrap64 ((n : Int) + 1) = (n : Int) + 1 := by unfold wrap64; omega
      have HEV : Hid (evN T n = ⟨T, (n : Int) % 8, (n : Int) / 8 % 3, (n : Int) / 24 % 6, (n : Int) / 144 == 1⟩) := evN_int T n
      have hok : okE ⟨T, (n : Int) % 8, (n : Int) / 8 % 3, (n : Int) / 24 % 6, (n : Int) / 144 == 1⟩ := by rw [← HEV.out]; exact HOK.out n
      by_cases heq : evB ⟨T, (n : Int) % 8, (n : Int) / 8 % 3, (n : Int) / 24 % 6, (n : Int) / 144 == 1⟩ = l
      · have HQ := okR_of (l := l) hok (by rw [heq]; exact H21.out.symm)
        have HQ1 : Hid (okR l) := HQ.1
        have HQ2 : Hid (rdE l = ⟨T, (n : Int) % 8, (n : Int) / 8 % 3, (n : Int) / 24 % 6, (n : Int) / 144 == 1⟩) := HQ.2
        have gE : ((txt (evB ⟨T, (n : Int) % 8, (n : Int) / 8 % 3, (n : Int) / 24 % 6, (n : Int) / 144 == 1⟩)).toList == (txt l).toList) = true := by rw [heq]; simp
        clear HQ heq
        go_wp2_with (first
          | ((with_reducible refine atOp (.build 29 #[(0, .tmp 20), (1, .tmp 22), (2, .tmp 25), (3, .tmp 28), (4, .tmp 31)]) rfl ?_); refine wpList_buildF _ _ _ _ _ rfl rfl T ((n : Int) % 8) ((n : Int) / 8 % 3) ((n : Int) / 24 % 6) ((n : Int) / 144 == 1) rfl rfl rfl rfl rfl ?_)
          | ((with_reducible refine atOp (.alloc 29) rfl ?_); refine wpList_allocX 6 29 rfl rfl rfl _ ev_zero ?_; intro b6 w2 g6 R6 hb2; have n26 := R2.ne g6; replace g6 := Nat.le_trans hB.size g6; replace R2 := R2.below hb2; replace hB := hB.trans (hb2.mono hB.size))
          | ((with_reducible refine atOp (.store 29 (.tmp 6) (.tmp 32)) rfl ?_); refine wpList_storeR 29 rfl (.tmp 6) (.tmp 32) rfl b6 rfl (ec ⟨T, (n : Int) % 8, (n : Int) / 8 % 3, (n : Int) / 24 % 6, (n : Int) / 144 == 1⟩) rfl _ R6 rfl (ec_info _) (ec_one _) ?_; intro w6 R6 t6; replace R2 := t6.row R2 n26; replace hB := t6.below _ _ g6 hB)
          | ((with_reducible refine atOp (.load 29 (.tmp 6)) rfl ?_); refine wpList_loadR 29 (.tmp 6) rfl rfl b6 rfl (ec ⟨T, (n : Int) % 8, (n : Int) / 8 % 3, (n : Int) / 24 % 6, (n : Int) / 144 == 1⟩) R6 _ Tryd.underlying29 rfl (ec_info _) ?_)
          | (go_at_call 23; go_fit (eventText_any ⟨T, (n : Int) % 8, (n : Int) / 8 % 3, (n : Int) / 24 % 6, (n : Int) / 144 == 1⟩ _ hok); rintro x w5 ⟨rfl, hb5⟩; replace R2 := R2.below hb5; replace R6 := R6.below hb5; replace hB := hB.trans (hb5.mono hB.size))
          | ((with_reducible refine atOp (.store 29 (.tmp 2) (.tmp 37)) rfl ?_); refine wpList_storeR 29 rfl (.tmp 2) (.tmp 37) rfl b2 rfl (ec ⟨T, (n : Int) % 8, (n : Int) / 8 % 3, (n : Int) / 24 % 6, (n : Int) / 144 == 1⟩) rfl _ R2 rfl (ec_info _) (ec_one _) ?_; intro w6 R2 t6; replace hB := t6.below _ _ g2 hB))
        ((try simp only [Exit.inBlock, Exit.then]); refine bodyPost_ret (results_row2 (p := 2) (u := 3) rfl _ _ _ _ rfl R2 _ Tryd.underlying29 rfl (ec_info _)) rfl ?_)
        exact ⟨Or.inl ⟨HQ1.out, by rw [HQ2.out]; rfl⟩, hB⟩
      · have gE : ((txt (evB ⟨T, (n : Int) % 8, (n : Int) / 8 % 3, (n : Int) / 24 % 6, (n : Int) / 144 == 1⟩)).toList == (txt l).toList) = false := by rw [ByteArray.toList_eq, ByteArray.toList_eq, txt_list, txt_list]; simpa using heq
        have HF2 : Hid (∀ k, k < n + 1 → evB (evN T k) ≠ l) := fun k hk => by
          by_cases hkn : k = n
          · subst hkn; rw [HEV.out]; exact heq
          · exact HF.out k (by omega)
        clear heq
        go_wp2_with (first
          | ((with_reducible refine atOp (.build 29 #[(0, .tmp 20), (1, .tmp 22), (2, .tmp 25), (3, .tmp 28), (4, .tmp 31)]) rfl ?_); refine wpList_buildF _ _ _ _ _ rfl rfl T ((n : Int) % 8) ((n : Int) / 8 % 3) ((n : Int) / 24 % 6) ((n : Int) / 144 == 1) rfl rfl rfl rfl rfl ?_)
          | ((with_reducible refine atOp (.alloc 29) rfl ?_); refine wpList_allocX 6 29 rfl rfl rfl _ ev_zero ?_; intro b6 w2 g6 R6 hb2; have n26 := R2.ne g6; replace g6 := Nat.le_trans hB.size g6; replace R2 := R2.below hb2; replace hB := hB.trans (hb2.mono hB.size))
          | ((with_reducible refine atOp (.store 29 (.tmp 6) (.tmp 32)) rfl ?_); refine wpList_storeR 29 rfl (.tmp 6) (.tmp 32) rfl b6 rfl (ec ⟨T, (n : Int) % 8, (n : Int) / 8 % 3, (n : Int) / 24 % 6, (n : Int) / 144 == 1⟩) rfl _ R6 rfl (ec_info _) (ec_one _) ?_; intro w6 R6 t6; replace R2 := t6.row R2 n26; replace hB := t6.below _ _ g6 hB)
          | ((with_reducible refine atOp (.load 29 (.tmp 6)) rfl ?_); refine wpList_loadR 29 (.tmp 6) rfl rfl b6 rfl (ec ⟨T, (n : Int) % 8, (n : Int) / 8 % 3, (n : Int) / 24 % 6, (n : Int) / 144 == 1⟩) R6 _ Tryd.underlying29 rfl (ec_info _) ?_)
          | (go_at_call 23; go_fit (eventText_any ⟨T, (n : Int) % 8, (n : Int) / 8 % 3, (n : Int) / 24 % 6, (n : Int) / 144 == 1⟩ _ hok); rintro x w5 ⟨rfl, hb5⟩; replace R2 := R2.below hb5; replace R6 := R6.below hb5; replace hB := hB.trans (hb5.mono hB.size))
          | ((with_reducible refine atOp (.store 29 (.tmp 2) (.tmp 37)) rfl ?_); refine wpList_storeR 29 rfl (.tmp 2) (.tmp 37) rfl b2 rfl (ec ⟨T, (n : Int) % 8, (n : Int) / 8 % 3, (n : Int) / 24 % 6, (n : Int) / 144 == 1⟩) rfl _ R2 rfl (ec_info _) (ec_one _) ?_; intro w6 R2 t6; replace hB := t6.below _ _ g2 hB))
        go_roundw
        case rel => first | exact ⟨n + 1, by omega, by go_num, HF2, hB, R2⟩ | ((repeat apply Exists.intro); exact ⟨⟨n + 1, by omega, by go_num, HF2, hB, R2⟩, rfl⟩)
        case measure => (first | rw [hw1] | skip); exact meas288 hlt
    · obtain rfl : n = 288 := by omega
      have HN : Hid (¬ okR l) := fun h => by
        obtain ⟨k, hk, he⟩ := evN_all h.1
        rw [HR.out] at he
        exact HF.out k hk (by rw [he, h.2]; exact H21.out)
      go_wp2_with (first
        | ((with_reducible refine atOp (.build 29 #[]) rfl ?_); refine wpList_buildZ 29 rfl rfl _ ev_build9 ?_)
        | ((with_reducible refine atOp (.store 29 (.tmp 2) (.tmp 39)) rfl ?_); refine wpList_storeR 29 rfl (.tmp 2) (.tmp 39) rfl b2 rfl (ec noE) rfl _ R2 rfl (ec_info _) (ec_one _) ?_; intro w6 R2 t6; replace hB := t6.below _ _ g2 hB))
      ((try simp only [Exit.inBlock, Exit.then]); refine bodyPost_ret (results_row2 (p := 2) (u := 3) rfl _ _ _ _ rfl R2 _ Tryd.underlying29 rfl (ec_info _)) rfl ?_)
      exact ⟨Or.inr ⟨HN.out, rfl⟩, hB⟩
end Go.Proofs.YtnhafdkfjjplkaaDoor
