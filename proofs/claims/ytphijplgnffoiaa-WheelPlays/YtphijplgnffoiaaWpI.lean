/-
  The document's Advance (a draft).
-/
import Derived.Test.YtphijplgnffoiaaWpH
import Derived.Test.YtphijplgnffoiaaWhG
namespace Go.Proofs.Ytphijplgnffoiaa
open Go.ChangeShapes Go.WideShapes Go.ChangeAt Go.RowKit
set_option linter.unusedSimpArgs false
set_option linter.unusedVariables false

theorem below_drewN {B n : Nat} {w w' : World} (h : Below B w w') : Below B w (w'.drewN n) := ⟨h.os, h.tape, h.output, h.size, h.block⟩
def lenT (p : Nat) (W : World) : Nat := match W.cell? ⟨p, 1, none⟩ with | some (.slice _ n _) => n | _ => 0
theorem tm_ne_int {w : World} {v u : Value} {ts : List Tm} {l : List Int} (h : TmO w v ts) (hO : Own w u l) {g : Nat} (hg : v.ownBlock = some g) : some g ≠ u.ownBlock := by
  rcases h.2 with ⟨e, _⟩ | ⟨b, cap, cur, hv, _, hh, _⟩
  · rw [e] at hg; cases hg
  · rcases hO.2 with ⟨e, _⟩ | ⟨b2, cap2, cur2, hv2, _, hh2, _⟩
    · rw [e]; simp [Value.ownBlock]
    · intro e
      rw [hv] at hg
      rw [hv2] at e
      have e1 : b = g := by simpa [Value.ownBlock] using hg
      have e2 : g = b2 := by simpa [Value.ownBlock] using e
      subst e1 e2
      rw [hh] at hh2
      cases hh2
theorem RW.outG {w w' : World} {p : Nat} {now : Int} {v u : Value} {ts : List Tm} {l : List Int} (h : RW w p now v ts) (hO : Own w u l) (hG : w.grownBy w' u.ownBlock) : RW w' p now v ts :=
  ⟨Row.grownT h.row hG (hO.ne_row h.row (by decide)), h.own.keep (fun g hg => hG.block g (h.own.lt g hg) (tm_ne_int h.own hO hg)), h.ne, h.n⟩
theorem Own.belowT {w w' : World} {u : Value} {l : List Int} {B : Nat} (h : Own w u l) (hb : Below B w w') (hB : w.heap.size ≤ B) : Own w' u l :=
  h.keepGr (F := fun _ => False) ⟨hb.os, hb.tape, hb.output, hb.size, fun c hc _ => hb.block c (by omega)⟩ (fun _ _ => id)
theorem lenT_row {t : TypeId} {w : World} {p n c : Nat} {a : Option Addr} {x : Value} (R : Row t w p #[x, .slice a n c]) : lenT p w = n := by
  have k : w.cell? ⟨p, 1, none⟩ = some (.slice a n c) := R.cell 1
  unfold lenT; rw [k]
theorem yields_incT {ops : Array Oper} {S : World → Prop} {o : Oper} {a : Act} (x : Operand) (n : Nat) (ho : o.op = .binOp .add 3 x (.const (.int .i64 1)) 3) (hw : Region.wanted o (yielded ops a.tmps) = true) (hx : a.eval x = .int .i64 (n : Int)) (hn : wrap64 ((n : Int) + 1) = (n : Int) + 1) : YieldsIf Try.prog ops S o (.int .i64 ((n + 1 : Nat) : Int)) a :=
  .inl ⟨hw, fun w _ => by unfold execOp; simp only [ho, hx]; simp [go_sem, Act.eval]; rw [IntKind.wrap_i64]; unfold wrap64 at hn; exact hn⟩
theorem yields_headT {ops : Array Oper} {S : World → Prop} {o : Oper} {a : Act} (x y : Operand) (ho : o.op = .slice 39 x none (some y) none) (hw : Region.wanted o (yielded ops a.tmps) = true) (b n c k : Nat) (hx : a.eval x = .slice (some ⟨b, 0, none⟩) n c) (hy : a.eval y = .int .i64 (k : Int)) (hk : k ≤ n) (hn : n ≤ c) : YieldsIf Try.prog ops S o (.slice (some ⟨b, 0, none⟩) k c) a :=
  .inl ⟨hw, fun w _ => by unfold execOp; simp only [ho, Option.map_some, Option.map_none, hx, hy, Sem.run_bind, run_sliceAt_slice _ _ _ _ _ _ Try.underlying39, run_headT b n c k hk hn, Result.andThen_ok, Sem.run_pure]⟩
theorem yields_tailT {ops : Array Oper} {S : World → Prop} {o : Oper} {a : Act} (x y : Operand) (ho : o.op = .slice 39 x (some y) none none) (hw : Region.wanted o (yielded ops a.tmps) = true) (b n c k : Nat) (hx : a.eval x = .slice (some ⟨b, 0, none⟩) n c) (hy : a.eval y = .int .i64 (k : Int)) (hk : k ≤ n) (hn : n ≤ c) : YieldsIf Try.prog ops S o (.slice (some ⟨b, tlo c k, none⟩) (n - k) (c - k)) a :=
  .inl ⟨hw, fun w _ => by unfold execOp; simp only [ho, Option.map_some, Option.map_none, hx, hy, Sem.run_bind, run_sliceAt_slice _ _ _ _ _ _ Try.underlying39, run_tailT b n c k hk hn, Result.andThen_ok, Sem.run_pure]⟩
theorem cutT_len {rs : List Tm} {b n : Nat} (hn : n = rs.length) (hb : b < rs.length) : b = (rs.take b).length ∧ n - (b + 1) = (rs.drop (b + 1)).length ∧ ([] ++ rs.take b ++ rs.drop (b + 1)).length < n ∧ ([] ++ rs.take b).length ≤ rs.length ∧ (rs.take b).length ≤ rs.length ∧ (rs.drop (b + 1)).length ≤ rs.length := by
  simp only [List.nil_append, List.length_append, List.length_take, List.length_drop]; omega
/-- what Advance leaves: what went off, what is left. -/
def AdvR (w w' : World) (p : Nat) (tn : Int) (v : Value) (ts : List Tm) (u : Value) : Prop :=
  ∃ cs rs v', Sel tn ts cs rs ∧ (∀ y ∈ rs, tn < y.2) ∧ Own w' u (cs.map (·.1)) ∧ Gt w.heap.size u ∧ RW w' p tn v' rs ∧ Gr (fun c => c = p) w w' ∧ (v' = v ∨ Gt w.heap.size v')
set_option maxRecDepth 10000 in
set_option maxHeartbeats 2000000 in
theorem advanceRef_ok {p : Nat} {now : Int} {v : Value} {ts : List Tm} (tn : Int) (w : World) (h : RW w p now v ts) (ho : Once ts) (h1 : now ≤ tn) (h2 : tn ≤ 1099511627776) :
    Calls Try.prog 17 #[.pointer (some ⟨p, 0, none⟩), .int .i64 tn] w fun e w' => ∃ u, e = .returned (.tuple #[u, .int .i64 0]) ∧ AdvR w w' p tn v ts u := by
  have k0 : w.cell? ⟨p, 0, none⟩ = some (.int .i64 now) := h.row.cell 0
  have g0 : decide (tn < now) = false := by simp; omega
  have g1 : decide (1099511627776 < tn) = false := by simp; omega
  have hR := h.row
  clear h1 h2
  go_enter Try.func17, Try.ntmps17
  go_wp2_with ((with_reducible refine atT (.store 3 (.tmp 23) (.tmp 21)) rfl ?_); refine wpList_storeF hR rfl _ _ rfl 0 (by kernel_rfl) tn (by kernel_rfl) _ rfl #[.int .i64 tn, v] rfl ?_; intro w1 R1 t1)
  have S0 : RW w1 p tn v ts := ⟨R1, h.own.turned t1 h.ne, h.ne, h.n⟩
  have G0 : Gr (fun c => c = p) w w1 := Gr.ofTurned t1
  clear k0 g0 g1 hR R1 t1
  go_loopw [6] (fun u W => ∃ (au : Option Addr) (nu cu : Nat), u = .slice au nu cu ∧ ∃ cs rs v', Sel tn ts cs rs ∧ Own W (.slice au nu cu) (cs.map (·.1)) ∧ Gt w.heap.size (.slice au nu cu) ∧ RW W p tn v' rs ∧ Gr (fun c => c = p) w W ∧ Hid (v' = v ∨ Gt w.heap.size v')) (fun _ W => lenT p W)
  case atStart => exact ⟨none, 0, 0, rfl, [], ts, v, sel_start tn ts, World.ownsRow_nil _ 0 3 1, gt_nil _, S0, G0, .inl rfl⟩
  case round =>
    clear S0 G0
    obtain ⟨au, nu, cu, rfl, cs, rs, v', HS, hO, hgt, S, hG, HV⟩ := hrel
    obtain ⟨n, hn⟩ : ∃ n, n = rs.length := ⟨_, rfl⟩
    obtain ⟨a0, cap, hv⟩ := S.own.slice
    rw [← hn] at hv
    subst hv
    have HN : Hid (n = rs.length) := hn
    have H4 : Hid (rs.length ≤ 400) := S.n
    have k1 : World.cell? _ ⟨p, 1, none⟩ = some (.slice a0 n cap) := S.row.cell 1
    have HM : Hid (lenT p wr = n) := lenT_row S.row
    have hB := Below.refl wr.heap.size wr
    obtain ⟨w2, hw2⟩ : ∃ x, x = wr := ⟨_, rfl⟩
    rw [← hw2] at hB hO S hG
    have hB2 : Below w2.heap.size w2 wr := by rw [hw2]; exact Below.refl _ _
    clear hB hw2
    clear hn
    go_wp2
    clear k1
    go_loopw [7, 29] (fun bv k W => ∃ (j : Nat) (z : Int), k = .int .i64 (j : Int) ∧ bv = .int .i64 z ∧ Hid (j ≤ rs.length) ∧ Hid (BestZ rs tn j z) ∧ Below w2.heap.size w2 W) (fun _ k _ => n - (intOf k).toNat)
    case atStart => exact ⟨0, -1, rfl, rfl, Nat.zero_le _, best_zero rs tn, hB2⟩
    case round =>
      clear hB2
      obtain ⟨j, z, rfl, rfl, hj, HZ, hB⟩ := hrel
      by_cases hlj : j < rs.length
      · have hjn : (j : Int) < (n : Int) := by have := HN.out; omega
        have hjw := nextT hlj (by have := H4.out; omega)
        have HJ : Hid (j < rs.length) := hlj
        obtain ⟨x, hx⟩ : ∃ x, rs[j] = x := ⟨_, rfl⟩
        have I1 := fun w2 => S.own.index j hlj w2
        have rE := (S.own.below hB).at j hlj hx
        by_cases hxt : tn < x.2
        · have g1 : decide (tn < x.2) = true := by simpa using hxt
          have HB : Hid (BestZ rs tn (j + 1) z) := best_skip HZ.out hlj (by subst hx; exact hxt)
          clear hxt hx hlj
          go_wp2_with (first
          | ((with_reducible refine atT (.load 57 (.tmp 32)) rfl ?_); refine wpList_loadT (.tmp 32) rfl rfl _ _ rfl x rE ?_)
          | ((with_reducible refine atT (.alloc 57) rfl ?_); refine wpList_allocR 57 rfl rfl _ tm_zero ?_; intro b1 w1 l1 R1 hb1; replace l1 := Nat.le_trans hB.size l1; replace hB := hB.trans (hb1.mono hB.size))
          | ((with_reducible refine atT (.store 57 (.tmp 9) (.tmp 33)) rfl ?_); refine wpList_storeR 57 rfl _ _ rfl b1 (by kernel_rfl) (tmc x) (by kernel_rfl) _ R1 rfl (tmc_info x) (tmc_one x) ?_; intro w2 R2 t2; replace hB := t2.below _ _ l1 hB)
          | ((with_reducible refine atT (.load 3 (.tmp 34)) rfl ?_); refine wpList_loadF R2 _ rfl rfl 1 rfl x.2 rfl ?_))
          go_roundw
          case rel => first | exact ⟨j + 1, z, castT j, rfl, hidT (Nat.succ_le_of_lt HJ.out), HB, hB⟩ | exact ⟨j + 1, z, castTW hjw, rfl, hidT (Nat.succ_le_of_lt HJ.out), HB, hB⟩
          case measure => (first | rw [hjw] | skip); exact measT (HN.out.symm ▸ HJ.out)
        · have g1 : decide (tn < x.2) = false := by simpa using hxt
          by_cases hz : z = -1
          · subst hz
            have HB : Hid (BestZ rs tn (j + 1) (j : Int)) := best_first HZ.out hlj (by subst hx; omega)
            clear hxt hx hlj
            go_upto_region 10 with (first
          | ((with_reducible refine atT (.load 57 (.tmp 32)) rfl ?_); refine wpList_loadT (.tmp 32) rfl rfl _ _ rfl x rE ?_)
          | ((with_reducible refine atT (.alloc 57) rfl ?_); refine wpList_allocR 57 rfl rfl _ tm_zero ?_; intro b1 w1 l1 R1 hb1; replace l1 := Nat.le_trans hB.size l1; replace hB := hB.trans (hb1.mono hB.size))
          | ((with_reducible refine atT (.store 57 (.tmp 9) (.tmp 33)) rfl ?_); refine wpList_storeR 57 rfl _ _ rfl b1 (by kernel_rfl) (tmc x) (by kernel_rfl) _ R1 rfl (tmc_info x) (tmc_one x) ?_; intro w2 R2 t2; replace hB := t2.below _ _ l1 hB)
          | ((with_reducible refine atT (.load 3 (.tmp 34)) rfl ?_); refine wpList_loadF R2 _ rfl rfl 1 rfl x.2 rfl ?_))
            have k9 : World.cell? _ ⟨b1, 1, none⟩ = some (.int .i64 x.2) := R2.cell 1
            go_quiet (fail)
            go_wp2
            go_roundw
            case rel => first | exact ⟨j + 1, (j : Int), castT j, rfl, hidT (Nat.succ_le_of_lt HJ.out), HB, below_drewN hB⟩ | exact ⟨j + 1, (j : Int), castTW hjw, rfl, hidT (Nat.succ_le_of_lt HJ.out), HB, below_drewN hB⟩
            case measure => (first | rw [hjw] | skip); exact measT (HN.out.symm ▸ HJ.out)
          · obtain ⟨b, rfl, hb, -⟩ : ∃ b : Nat, z = (b : Int) ∧ ∃ hb : b < rs.length, True := by
              rcases HZ.out with ⟨e, _⟩ | ⟨b, e, hb, _⟩
              · exact absurd e hz
              · exact ⟨b, e, hb, trivial⟩
            obtain ⟨y, hy⟩ : ∃ y, rs[b] = y := ⟨_, rfl⟩
            have HY : Hid (rs[b] = y) := hy
            have HBL : Hid (b < rs.length) := hb
            have I2 := fun w2 => S.own.index b hb w2
            have gz : decide ((b : Int) < 0) = false := by simp
            clear hz
            by_cases q1 : x.2 < y.2
            · have q : decide (x.2 < y.2) = true := by simpa using q1
              have HB : Hid (BestZ rs tn (j + 1) (j : Int)) := best_less HZ.out hlj hb (by subst hx; omega) (by subst hx hy; exact .inl q1)
              clear hxt hx hlj hy
              go_upto_region 10 with (first
          | ((with_reducible refine atT (.load 57 (.tmp 32)) rfl ?_); refine wpList_loadT (.tmp 32) rfl rfl _ _ rfl x rE ?_)
          | ((with_reducible refine atT (.alloc 57) rfl ?_); refine wpList_allocR 57 rfl rfl _ tm_zero ?_; intro b1 w1 l1 R1 hb1; replace l1 := Nat.le_trans hB.size l1; replace hB := hB.trans (hb1.mono hB.size))
          | ((with_reducible refine atT (.store 57 (.tmp 9) (.tmp 33)) rfl ?_); refine wpList_storeR 57 rfl _ _ rfl b1 (by kernel_rfl) (tmc x) (by kernel_rfl) _ R1 rfl (tmc_info x) (tmc_one x) ?_; intro w2 R2 t2; replace hB := t2.below _ _ l1 hB)
          | ((with_reducible refine atT (.load 3 (.tmp 34)) rfl ?_); refine wpList_loadF R2 _ rfl rfl 1 rfl x.2 rfl ?_))
              have k9 : World.cell? _ ⟨b1, 1, none⟩ = some (.int .i64 x.2) := R2.cell 1
              have k8 : World.cell? _ ⟨b1, 0, none⟩ = some (.int .i64 x.1) := R2.cell 0
              have k1 : World.cell? _ ⟨p, 1, none⟩ = some (.slice a0 n cap) := (S.row.below hB).cell 1
              have cb0 : World.cell? _ ⟨tmB (.slice a0 n cap), 2 * b, none⟩ = some (.int .i64 y.1) := (S.own.below hB).at b HBL.out HY.out 0 _ rfl
              have cb1 : World.cell? _ ⟨tmB (.slice a0 n cap), 2 * b + 1, none⟩ = some (.int .i64 y.2) := (S.own.below hB).at b HBL.out HY.out 1 _ rfl
              go_quiet (fail)
              go_wp2
              go_roundw
              case rel => first | exact ⟨j + 1, (j : Int), castT j, rfl, hidT (Nat.succ_le_of_lt HJ.out), HB, below_drewN hB⟩ | exact ⟨j + 1, (j : Int), castTW hjw, rfl, hidT (Nat.succ_le_of_lt HJ.out), HB, below_drewN hB⟩
              case measure => (first | rw [hjw] | skip); exact measT (HN.out.symm ▸ HJ.out)
            · have q0 : decide (x.2 < y.2) = false := by simpa using q1
              by_cases q2 : x.2 = y.2
              · have q3 : (x.2 == y.2) = true := by simpa using q2
                by_cases q4 : x.1 < y.1
                · have q5 : decide (x.1 < y.1) = true := by simpa using q4
                  have HB : Hid (BestZ rs tn (j + 1) (j : Int)) := best_less HZ.out hlj hb (by subst hx; omega) (by subst hx hy; exact .inr ⟨q2, q4⟩)
                  clear hxt hx hlj hy q2 q1
                  go_upto_region 10 with (first
              | ((with_reducible refine atT (.load 57 (.tmp 32)) rfl ?_); refine wpList_loadT (.tmp 32) rfl rfl _ _ rfl x rE ?_)
              | ((with_reducible refine atT (.alloc 57) rfl ?_); refine wpList_allocR 57 rfl rfl _ tm_zero ?_; intro b1 w1 l1 R1 hb1; replace l1 := Nat.le_trans hB.size l1; replace hB := hB.trans (hb1.mono hB.size))
              | ((with_reducible refine atT (.store 57 (.tmp 9) (.tmp 33)) rfl ?_); refine wpList_storeR 57 rfl _ _ rfl b1 (by kernel_rfl) (tmc x) (by kernel_rfl) _ R1 rfl (tmc_info x) (tmc_one x) ?_; intro w2 R2 t2; replace hB := t2.below _ _ l1 hB)
              | ((with_reducible refine atT (.load 3 (.tmp 34)) rfl ?_); refine wpList_loadF R2 _ rfl rfl 1 rfl x.2 rfl ?_))
                  have k9 : World.cell? _ ⟨b1, 1, none⟩ = some (.int .i64 x.2) := R2.cell 1
                  have k8 : World.cell? _ ⟨b1, 0, none⟩ = some (.int .i64 x.1) := R2.cell 0
                  have k1 : World.cell? _ ⟨p, 1, none⟩ = some (.slice a0 n cap) := (S.row.below hB).cell 1
                  have cb0 : World.cell? _ ⟨tmB (.slice a0 n cap), 2 * b, none⟩ = some (.int .i64 y.1) := (S.own.below hB).at b HBL.out HY.out 0 _ rfl
                  have cb1 : World.cell? _ ⟨tmB (.slice a0 n cap), 2 * b + 1, none⟩ = some (.int .i64 y.2) := (S.own.below hB).at b HBL.out HY.out 1 _ rfl
                  go_quiet (fail)
                  go_wp2
                  go_roundw
                  case rel => first | exact ⟨j + 1, (j : Int), castT j, rfl, hidT (Nat.succ_le_of_lt HJ.out), HB, below_drewN hB⟩ | exact ⟨j + 1, (j : Int), castTW hjw, rfl, hidT (Nat.succ_le_of_lt HJ.out), HB, below_drewN hB⟩
                  case measure => (first | rw [hjw] | skip); exact measT (HN.out.symm ▸ HJ.out)
                · have q5 : decide (x.1 < y.1) = false := by simpa using q4
                  have HB : Hid (BestZ rs tn (j + 1) (b : Int)) := best_keep HZ.out hlj hb (by subst hx hy; unfold lessT; omega)
                  clear hxt hx hlj hy q2 q1
                  go_upto_region 10 with (first
              | ((with_reducible refine atT (.load 57 (.tmp 32)) rfl ?_); refine wpList_loadT (.tmp 32) rfl rfl _ _ rfl x rE ?_)
              | ((with_reducible refine atT (.alloc 57) rfl ?_); refine wpList_allocR 57 rfl rfl _ tm_zero ?_; intro b1 w1 l1 R1 hb1; replace l1 := Nat.le_trans hB.size l1; replace hB := hB.trans (hb1.mono hB.size))
              | ((with_reducible refine atT (.store 57 (.tmp 9) (.tmp 33)) rfl ?_); refine wpList_storeR 57 rfl _ _ rfl b1 (by kernel_rfl) (tmc x) (by kernel_rfl) _ R1 rfl (tmc_info x) (tmc_one x) ?_; intro w2 R2 t2; replace hB := t2.below _ _ l1 hB)
              | ((with_reducible refine atT (.load 3 (.tmp 34)) rfl ?_); refine wpList_loadF R2 _ rfl rfl 1 rfl x.2 rfl ?_))
                  have k9 : World.cell? _ ⟨b1, 1, none⟩ = some (.int .i64 x.2) := R2.cell 1
                  have k8 : World.cell? _ ⟨b1, 0, none⟩ = some (.int .i64 x.1) := R2.cell 0
                  have k1 : World.cell? _ ⟨p, 1, none⟩ = some (.slice a0 n cap) := (S.row.below hB).cell 1
                  have cb0 : World.cell? _ ⟨tmB (.slice a0 n cap), 2 * b, none⟩ = some (.int .i64 y.1) := (S.own.below hB).at b HBL.out HY.out 0 _ rfl
                  have cb1 : World.cell? _ ⟨tmB (.slice a0 n cap), 2 * b + 1, none⟩ = some (.int .i64 y.2) := (S.own.below hB).at b HBL.out HY.out 1 _ rfl
                  go_quiet (fail)
                  go_wp2
                  go_roundw
                  case rel => first | exact ⟨j + 1, (b : Int), castT j, rfl, hidT (Nat.succ_le_of_lt HJ.out), HB, below_drewN hB⟩ | exact ⟨j + 1, (b : Int), castTW hjw, rfl, hidT (Nat.succ_le_of_lt HJ.out), HB, below_drewN hB⟩
                  case measure => (first | rw [hjw] | skip); exact measT (HN.out.symm ▸ HJ.out)
              · have q3 : (x.2 == y.2) = false := by simpa using q2
                have HB : Hid (BestZ rs tn (j + 1) (b : Int)) := best_keep HZ.out hlj hb (by subst hx hy; unfold lessT; omega)
                clear hxt hx hlj hy
                go_upto_region 10 with (first
            | ((with_reducible refine atT (.load 57 (.tmp 32)) rfl ?_); refine wpList_loadT (.tmp 32) rfl rfl _ _ rfl x rE ?_)
            | ((with_reducible refine atT (.alloc 57) rfl ?_); refine wpList_allocR 57 rfl rfl _ tm_zero ?_; intro b1 w1 l1 R1 hb1; replace l1 := Nat.le_trans hB.size l1; replace hB := hB.trans (hb1.mono hB.size))
            | ((with_reducible refine atT (.store 57 (.tmp 9) (.tmp 33)) rfl ?_); refine wpList_storeR 57 rfl _ _ rfl b1 (by kernel_rfl) (tmc x) (by kernel_rfl) _ R1 rfl (tmc_info x) (tmc_one x) ?_; intro w2 R2 t2; replace hB := t2.below _ _ l1 hB)
            | ((with_reducible refine atT (.load 3 (.tmp 34)) rfl ?_); refine wpList_loadF R2 _ rfl rfl 1 rfl x.2 rfl ?_))
                have k9 : World.cell? _ ⟨b1, 1, none⟩ = some (.int .i64 x.2) := R2.cell 1
                have k8 : World.cell? _ ⟨b1, 0, none⟩ = some (.int .i64 x.1) := R2.cell 0
                have k1 : World.cell? _ ⟨p, 1, none⟩ = some (.slice a0 n cap) := (S.row.below hB).cell 1
                have cb0 : World.cell? _ ⟨tmB (.slice a0 n cap), 2 * b, none⟩ = some (.int .i64 y.1) := (S.own.below hB).at b HBL.out HY.out 0 _ rfl
                have cb1 : World.cell? _ ⟨tmB (.slice a0 n cap), 2 * b + 1, none⟩ = some (.int .i64 y.2) := (S.own.below hB).at b HBL.out HY.out 1 _ rfl
                go_quiet (fail)
                go_wp2
                go_roundw
                case rel => first | exact ⟨j + 1, (b : Int), castT j, rfl, hidT (Nat.succ_le_of_lt HJ.out), HB, below_drewN hB⟩ | exact ⟨j + 1, (b : Int), castTW hjw, rfl, hidT (Nat.succ_le_of_lt HJ.out), HB, below_drewN hB⟩
                case measure => (first | rw [hjw] | skip); exact measT (HN.out.symm ▸ HJ.out)
      · have HLE : Hid (rs.length ≤ j) := hidT (Nat.le_of_not_lt hlj)
        have hjn : ¬ (j : Int) < (n : Int) := by have := HN.out; omega
        by_cases hz : z = -1
        · subst hz
          have HE : Hid (∀ y ∈ rs, tn < y.2) := best_end HZ.out HLE.out
          clear hlj
          go_wp2
          go_ret2
          exact ⟨_, rfl, cs, rs, _, HS, HE.out, hO.belowT hB (Nat.le_refl _), hgt, S.below hB, hG.trans (Gr.of_below (F := fun _ => False) hB) (fun _ h => h.elim), HV.out⟩
        · obtain ⟨b, rfl⟩ : ∃ b : Nat, z = (b : Int) := by
            rcases HZ.out with ⟨e, _⟩ | ⟨b, e, _⟩
            · exact absurd e hz
            · exact ⟨b, e⟩
          obtain ⟨hb0, hle, hmin⟩ := best_min HZ.out HLE.out
          obtain ⟨x, hx⟩ : ∃ x, rs[b] = x := ⟨_, rfl⟩
          rw [hx] at hle hmin
          have HS2 : Hid (Sel tn ts (cs ++ [x]) (rs.take b ++ rs.drop (b + 1))) := sel_step HS ho hb0 hx hle hmin
          have CL : Hid _ := hidT (cutT_len HN.out hb0)
          have gz : decide ((b : Int) < 0) = false := by simp
          have I2 := fun w2 => S.own.index b hb0 w2
          have k1 : World.cell? _ ⟨p, 1, none⟩ = some (.slice a0 n cap) := (S.row.below hB).cell 1
          have cb0 : World.cell? _ ⟨tmB (.slice a0 n cap), 2 * b, none⟩ = some (.int .i64 x.1) := (S.own.below hB).at b hb0 hx 0 _ rfl
          have S1 := S.below hB
          have hO1 := hO.belowT hB (Nat.le_refl _)
          have hG1 := hG.trans (Gr.of_below (F := fun _ => False) hB) (fun _ h => h.elim)
          have HSZ : Hid (w.heap.size ≤ _) := hidT hG1.size
          have hlc := (sel_once HS ho).2.2
          have HTS : Hid (ts.length ≤ 400) := h.n
          have HL9 : Hid ((cs.map (·.1)).length ≤ 1000000000) := hidT (by rw [List.length_map]; have := HTS.out; omega)
          have HL5 : Hid (rs.length ≤ 100000) := hidT (Nat.le_trans H4.out (by decide))
          have HBN : Hid (b ≤ n) := hidT (by have := HN.out; omega)
          have HBN1 : Hid (b + 1 ≤ n) := hidT (by have := HN.out; omega)
          have HBW : Hid (wrap64 ((b : Int) + 1) = (b : Int) + 1) := hidT (nextT hb0 HL5.out)
          have HN4 : Hid ((rs.take b ++ rs.drop (b + 1)).length ≤ 400) := hidT (by have h1 := CL.out.2.2.1; rw [List.nil_append] at h1; have := HN.out; have := H4.out; omega)
          obtain ⟨bv, cap', hv2, hcp, HC'⟩ := S.own.own (Nat.lt_of_le_of_lt (Nat.zero_le _) hb0)
          have hv3 : a0 = some ⟨bv, 0, none⟩ ∧ cap = cap' := by simp at hv2; exact ⟨hv2.1, hv2.2.2⟩
          obtain ⟨rfl, rfl⟩ := hv3
          have HNC : Hid (n ≤ cap) := hidT (by have := HN.out; omega)
          have HC : Hid (∀ W, TmO W (.slice (some ⟨bv, 0, none⟩) n cap) rs → ∀ j u, (rs.flatMap tml)[j]? = some u → W.cell? ⟨bv, j, none⟩ = some u) := hidT (fun W hW => by
            obtain ⟨b', c', e', _, hh⟩ := hW.own (Nat.lt_of_le_of_lt (Nat.zero_le _) hb0)
            have : bv = b' := by simp at e'; exact e'.1
            subst this; exact hh)
          obtain ⟨l0, hl0⟩ : ∃ l, l = cs.map (·.1) := ⟨_, rfl⟩
          have HL0 : Hid (l0 = cs.map (·.1)) := hl0
          rw [← hl0] at HL9 hO1
          clear hlj hz hle hmin hlc hv2 hcp HC' hx hb0 hl0 hO hG S hB HLE hj HZ
          go_upto_region 16 with ((with_reducible refine atT (.call { callee := .builtin .append, args := #[.tmp 84, .tmp 93], argTypes := #[22, 22] }) rfl ?_); refine wpList_app rfl (.tmp 84) (.tmp 93) rfl rfl (hO1.alloc' _) _ x.1 rfl (World.cell?_alloc_mark _ #[.int .i64 x.1] 3 (0, 0) 0) HL9.out ?_; intro a8 k8 w8 hO8 hG8 hL8)
          have hbA : Below wr.heap.size wr (wr.alloc (.cells #[.int .i64 x.1] 3)) := (Below.refl _ _).alloc (Nat.le_refl _) _
          replace S1 := (S1.below hbA).outG (hO1.alloc' _) hG8
          have hgt8 := own_ge hG8 hL8 hgt (Nat.le_trans HSZ.out hbA.size)
          replace hG1 := (hG1.trans (Gr.of_below (F := fun _ => False) hbA) (fun _ h => h.elim)).trans (Gr.of_grown (F := fun c => Value.ownBlock (.slice au nu cu) = some c) hG8 (fun c h => h)) (fun x hx => .inr (hgt x hx))
          replace HSZ : Hid (w.heap.size ≤ _) := hidT hG1.size
          generalize l0.length + 1 = n8 at *
          rw [HL0.out] at hO8
          have hu8 := hO8.ne_row S1.row (by decide)
          have hb := Below.refl w8.heap.size w8
          clear hbA hG8 hL8 hO1 k1 cb0 gz I2 hgt HL9
          refine wp_region_noPanic ?_
          refine wp_region_held_drew (S := fun _ => True) (by kernel_rfl) trivial (fun _ => ?_)
          refine wpAnyH_take (i := 0) (v := .pointer (some ⟨p, 0, none⟩)) rfl (by kernel_rfl) (by kernel_rfl) (by kernel_rfl) (fun _ _ _ h => h) (Or.inl ⟨by kernel_rfl, by intro w hS; go_simp⟩) trivial ?_
          simp only [Act.put, List.getElem_toArray, List.getElem_cons_succ, List.getElem_cons_zero, List.setIfInBounds_toArray, List.set_cons_zero, List.set_cons_succ]
          refine wpAnyH_take (i := 1) (v := .pointer (some ⟨p, 0, none⟩)) rfl (by kernel_rfl) (by kernel_rfl) (by kernel_rfl) (fun _ _ _ h => h) (Or.inl ⟨by kernel_rfl, by intro w hS; go_simp⟩) trivial ?_
          simp only [Act.put, List.getElem_toArray, List.getElem_cons_succ, List.getElem_cons_zero, List.setIfInBounds_toArray, List.set_cons_zero, List.set_cons_succ]
          refine wpAnyH_take (i := 2) (v := .pointer (some ⟨p, 0, none⟩)) rfl (by kernel_rfl) (by kernel_rfl) (by kernel_rfl) (fun _ _ _ h => h) (Or.inl ⟨by kernel_rfl, by intro w hS; go_simp⟩) trivial ?_
          simp only [Act.put, List.getElem_toArray, List.getElem_cons_succ, List.getElem_cons_zero, List.setIfInBounds_toArray, List.set_cons_zero, List.set_cons_succ]
          refine wpAnyH_take (i := 3) (v := .pointer (some ⟨p, 1, none⟩)) rfl (by kernel_rfl) (by kernel_rfl) (by kernel_rfl) (fun _ _ _ h => h) (Or.inl ⟨by kernel_rfl, by intro w hS; go_simp⟩) trivial ?_
          simp only [Act.put, List.getElem_toArray, List.getElem_cons_succ, List.getElem_cons_zero, List.setIfInBounds_toArray, List.set_cons_zero, List.set_cons_succ]
          refine wpAnyH_take (i := 5) (v := .int .i64 (b : Int)) rfl (by kernel_rfl) (by kernel_rfl) (by kernel_rfl) (fun _ _ _ h => h) (Or.inl ⟨by kernel_rfl, by intro w hS; go_simp⟩) trivial ?_
          simp only [Act.put, List.getElem_toArray, List.getElem_cons_succ, List.getElem_cons_zero, List.setIfInBounds_toArray, List.set_cons_zero, List.set_cons_succ]
          refine wpAnyH_take (i := 8) (v := .pointer (some ⟨p, 0, none⟩)) rfl (by kernel_rfl) (by kernel_rfl) (by kernel_rfl) (fun _ _ _ h => h) (Or.inl ⟨by kernel_rfl, by intro w hS; go_simp⟩) trivial ?_
          simp only [Act.put, List.getElem_toArray, List.getElem_cons_succ, List.getElem_cons_zero, List.setIfInBounds_toArray, List.set_cons_zero, List.set_cons_succ]
          refine wpAnyH_take (i := 9) (v := .pointer (some ⟨p, 0, none⟩)) rfl (by kernel_rfl) (by kernel_rfl) (by kernel_rfl) (fun _ _ _ h => h) (Or.inl ⟨by kernel_rfl, by intro w hS; go_simp⟩) trivial ?_
          simp only [Act.put, List.getElem_toArray, List.getElem_cons_succ, List.getElem_cons_zero, List.setIfInBounds_toArray, List.set_cons_zero, List.set_cons_succ]
          refine wpAnyH_take (i := 10) (v := .pointer (some ⟨p, 1, none⟩)) rfl (by kernel_rfl) (by kernel_rfl) (by kernel_rfl) (fun _ _ _ h => h) (Or.inl ⟨by kernel_rfl, by intro w hS; go_simp⟩) trivial ?_
          simp only [Act.put, List.getElem_toArray, List.getElem_cons_succ, List.getElem_cons_zero, List.setIfInBounds_toArray, List.set_cons_zero, List.set_cons_succ]
          refine wpAnyH_take (i := 12) (v := .int .i64 (b : Int)) rfl (by kernel_rfl) (by kernel_rfl) (by kernel_rfl) (fun _ _ _ h => h) (Or.inl ⟨by kernel_rfl, by intro w hS; go_simp⟩) trivial ?_
          simp only [Act.put, List.getElem_toArray, List.getElem_cons_succ, List.getElem_cons_zero, List.setIfInBounds_toArray, List.set_cons_zero, List.set_cons_succ]
          refine wpAnyH_take (i := 13) (v := .int .i64 ((b + 1 : Nat) : Int)) rfl (by kernel_rfl) (by kernel_rfl) (by kernel_rfl) (fun _ _ _ h => h) (yields_incT (.tmp 107) b rfl (by kernel_rfl) (by kernel_rfl) HBW.out) trivial ?_
          simp only [Act.put, List.getElem_toArray, List.getElem_cons_succ, List.getElem_cons_zero, List.setIfInBounds_toArray, List.set_cons_zero, List.set_cons_succ]
          refine wpAnyH_ready (rs := [4, 11]) (by kernel_rfl) (by simp) ?_
          refine AllReadyH.cons rfl (fun K hK => ?_) ?_
          · rw [if_pos (by kernel_rfl)]
            refine wp_loadTL (S1.below hb).row (.tmp 98) rfl 1 (by kernel_rfl) (.slice (some ⟨bv, 0, none⟩) n cap) rfl ?_
            refine hK.out _ _ trivial (fun _ => ?_)
            clear hK K
            try simp only [Act.put, List.getElem_toArray, List.getElem_cons_succ, List.getElem_cons_zero, List.setIfInBounds_toArray, List.set_cons_zero, List.set_cons_succ]
            refine wpAnyH_take (i := 6) (v := .slice (some ⟨bv, 0, none⟩) b cap) rfl (by kernel_rfl) (by kernel_rfl) (by kernel_rfl) (fun _ _ _ h => h) (yields_headT (.tmp 99) (.tmp 100) rfl (by kernel_rfl) bv n cap b (by kernel_rfl) (by kernel_rfl) HBN.out HNC.out) trivial ?_
            simp only [Act.put, List.getElem_toArray, List.getElem_cons_succ, List.getElem_cons_zero, List.setIfInBounds_toArray, List.set_cons_zero, List.set_cons_succ]
            refine wpAnyH_ready (rs := [7, 11]) (by kernel_rfl) (by simp) ?_
            refine AllReadyH.cons rfl (fun K hK => ?_) ?_
            · rw [if_pos (by kernel_rfl)]
              refine wp_appT (.const (.slice none 0 0)) (.tmp 101) rfl ⟨bv, 0, none⟩ b cap (TmO.nil _) CL.out.1 (head_cells (HC.out _ (S1.below hb).own)) (by kernel_rfl) (by kernel_rfl) (by decide) (Nat.le_trans CL.out.2.2.2.2.1 HL5.out) ?_; intro v9 w9 hT9 hG9 hO9; (first | replace hG9 := grown_undrew hG9 | skip); have hgt9 := own_ge hG9 hO9 (gt_nil _) hb.size; replace hb := hb.trans (grown_below hG9 (gt_nil _) hb.size); clear hG9 hO9; obtain ⟨n9, hn9⟩ : ∃ n, n = ([] ++ rs.take b).length := ⟨_, rfl⟩; obtain ⟨a9, c9, e9⟩ := hT9.slice; rw [← hn9] at e9; clear hn9; subst e9
              refine hK.out _ _ trivial (fun _ => ?_)
              clear hK K
              try simp only [Act.put, List.getElem_toArray, List.getElem_cons_succ, List.getElem_cons_zero, List.setIfInBounds_toArray, List.set_cons_zero, List.set_cons_succ]
              refine wpAnyH_ready (rs := [11]) (by kernel_rfl) (by simp) ?_
              refine AllReadyH.cons rfl (fun K hK => ?_) ?_
              · rw [if_pos (by kernel_rfl)]
                refine wp_loadTL (S1.below hb).row (.tmp 105) rfl 1 (by kernel_rfl) (.slice (some ⟨bv, 0, none⟩) n cap) rfl ?_
                refine hK.out _ _ trivial (fun _ => ?_)
                clear hK K
                try simp only [Act.put, List.getElem_toArray, List.getElem_cons_succ, List.getElem_cons_zero, List.setIfInBounds_toArray, List.set_cons_zero, List.set_cons_succ]
                refine wpAnyH_take (i := 14) (v := .slice (some ⟨bv, tlo cap (b + 1), none⟩) (n - (b + 1)) (cap - (b + 1))) rfl (by kernel_rfl) (by kernel_rfl) (by kernel_rfl) (fun _ _ _ h => h) (yields_tailT (.tmp 106) (.tmp 108) rfl (by kernel_rfl) bv n cap (b + 1) (by kernel_rfl) (by kernel_rfl) HBN1.out HNC.out) trivial ?_
                simp only [Act.put, List.getElem_toArray, List.getElem_cons_succ, List.getElem_cons_zero, List.setIfInBounds_toArray, List.set_cons_zero, List.set_cons_succ]
                refine wpAnyH_ready (rs := [15]) (by kernel_rfl) (by simp) ?_
                refine AllReadyH.cons rfl (fun K hK => ?_) ?_
                · rw [if_pos (by kernel_rfl)]
                  refine wp_appT (.tmp 102) (.tmp 109) rfl ⟨bv, tlo cap (b + 1), none⟩ (n - (b + 1)) (cap - (b + 1)) hT9 CL.out.2.1 (tail_cells (HC.out _ (S1.below hb).own) (HN.out ▸ HNC.out)) (by kernel_rfl) (by kernel_rfl) (Nat.le_trans CL.out.2.2.2.1 HL5.out) (Nat.le_trans CL.out.2.2.2.2.2 HL5.out) ?_; intro v10 w10 hT10 hG10 hO10; (first | replace hG10 := grown_undrew hG10 | skip); have hgt10 := own_ge hG10 hO10 hgt9 hb.size; replace hb := hb.trans (grown_below hG10 hgt9 hb.size); clear hG10 hO10; obtain ⟨n10, hn10⟩ : ∃ n, n = ([] ++ rs.take b ++ rs.drop (b + 1)).length := ⟨_, rfl⟩; obtain ⟨a10, c10, e10⟩ := hT10.slice; rw [← hn10] at e10; have H10 : Hid (n10 < n) := hidT (hn10 ▸ CL.out.2.2.1); clear hn10; subst e10; have n10p : Value.ownBlock (.slice a10 n10 c10) ≠ some p := fun e => Nat.not_le_of_lt S1.row.lt (hgt10 p e)
                  refine hK.out _ _ trivial (fun _ => ?_)
                  clear hK K
                  try simp only [Act.put, List.getElem_toArray, List.getElem_cons_succ, List.getElem_cons_zero, List.setIfInBounds_toArray, List.set_cons_zero, List.set_cons_succ]
                  refine wpAnyH_take (i := 16) (v := .pointer (some ⟨p, 0, none⟩)) rfl (by kernel_rfl) (by kernel_rfl) (by kernel_rfl) (fun _ _ _ h => h) (Or.inl ⟨by kernel_rfl, by intro w hS; go_simp⟩) trivial ?_
                  simp only [Act.put, List.getElem_toArray, List.getElem_cons_succ, List.getElem_cons_zero, List.setIfInBounds_toArray, List.set_cons_zero, List.set_cons_succ]
                  refine wpAnyH_take (i := 17) (v := .pointer (some ⟨p, 1, none⟩)) rfl (by kernel_rfl) (by kernel_rfl) (by kernel_rfl) (fun _ _ _ h => h) (Or.inl ⟨by kernel_rfl, by intro w hS; go_simp⟩) trivial ?_
                  simp only [Act.put, List.getElem_toArray, List.getElem_cons_succ, List.getElem_cons_zero, List.setIfInBounds_toArray, List.set_cons_zero, List.set_cons_succ]
                  refine wpAnyH_ready (rs := [18]) (by kernel_rfl) (by simp) ?_
                  refine AllReadyH.cons rfl (fun K hK => ?_) ?_
                  · rw [if_pos (by kernel_rfl)]
                    refine wp_storeTL (S1.below hb).row (.tmp 112) (.tmp 110) rfl 1 (by kernel_rfl) a10 n10 c10 (by kernel_rfl) _ rfl #[.int .i64 tn, .slice a10 n10 c10] rfl ?_; intro w11 R11 t11; have hT11 := hT10.turned t11 n10p; have hO11 := (hO8.belowT hb (Nat.le_refl _)).keepGr (Gr.ofTurned t11) (fun c hc e => hu8 (by rw [hc, e])); have hG11 := (hG1.trans (Gr.of_below (F := fun _ => False) hb) (fun _ h => h.elim)).trans (Gr.ofTurned t11) (fun x hx => .inl hx)
                    refine hK.out _ _ trivial (fun _ => ?_)
                    clear hK K
                    try simp only [Act.put, List.getElem_toArray, List.getElem_cons_succ, List.getElem_cons_zero, List.setIfInBounds_toArray, List.set_cons_zero, List.set_cons_succ]
                    refine wpAnyH_done (by kernel_rfl) ?_ _
                    refine NoPanic.normal ?_
                    go_wp2
                    go_roundw
                    case rel => exact ⟨_, _, _, rfl, cs ++ [x], _, _, HS2.out, (by rw [List.map_append]; exact hO11), hgt8, ⟨R11, hT11, n10p, HN4.out⟩, hG11, hidT (.inr (fun k hk => Nat.le_trans HSZ.out (hgt10 k hk)))⟩
                    case measure => rw [HM.out, lenT_row R11]; exact H10.out
                  exact AllReadyH.nil
                exact AllReadyH.nil
              exact AllReadyH.nil
            refine AllReadyH.cons rfl (fun K hK => ?_) ?_
            · rw [if_pos (by kernel_rfl)]
              refine wp_loadTL (S1.below hb).row (.tmp 105) rfl 1 (by kernel_rfl) (.slice (some ⟨bv, 0, none⟩) n cap) rfl ?_
              refine hK.out _ _ trivial (fun _ => ?_)
              clear hK K
              try simp only [Act.put, List.getElem_toArray, List.getElem_cons_succ, List.getElem_cons_zero, List.setIfInBounds_toArray, List.set_cons_zero, List.set_cons_succ]
              refine wpAnyH_take (i := 14) (v := .slice (some ⟨bv, tlo cap (b + 1), none⟩) (n - (b + 1)) (cap - (b + 1))) rfl (by kernel_rfl) (by kernel_rfl) (by kernel_rfl) (fun _ _ _ h => h) (yields_tailT (.tmp 106) (.tmp 108) rfl (by kernel_rfl) bv n cap (b + 1) (by kernel_rfl) (by kernel_rfl) HBN1.out HNC.out) trivial ?_
              simp only [Act.put, List.getElem_toArray, List.getElem_cons_succ, List.getElem_cons_zero, List.setIfInBounds_toArray, List.set_cons_zero, List.set_cons_succ]
              refine wpAnyH_ready (rs := [7]) (by kernel_rfl) (by simp) ?_
              refine AllReadyH.cons rfl (fun K hK => ?_) ?_
              · rw [if_pos (by kernel_rfl)]
                refine wp_appT (.const (.slice none 0 0)) (.tmp 101) rfl ⟨bv, 0, none⟩ b cap (TmO.nil _) CL.out.1 (head_cells (HC.out _ (S1.below hb).own)) (by kernel_rfl) (by kernel_rfl) (by decide) (Nat.le_trans CL.out.2.2.2.2.1 HL5.out) ?_; intro v9 w9 hT9 hG9 hO9; (first | replace hG9 := grown_undrew hG9 | skip); have hgt9 := own_ge hG9 hO9 (gt_nil _) hb.size; replace hb := hb.trans (grown_below hG9 (gt_nil _) hb.size); clear hG9 hO9; obtain ⟨n9, hn9⟩ : ∃ n, n = ([] ++ rs.take b).length := ⟨_, rfl⟩; obtain ⟨a9, c9, e9⟩ := hT9.slice; rw [← hn9] at e9; clear hn9; subst e9
                refine hK.out _ _ trivial (fun _ => ?_)
                clear hK K
                try simp only [Act.put, List.getElem_toArray, List.getElem_cons_succ, List.getElem_cons_zero, List.setIfInBounds_toArray, List.set_cons_zero, List.set_cons_succ]
                refine wpAnyH_ready (rs := [15]) (by kernel_rfl) (by simp) ?_
                refine AllReadyH.cons rfl (fun K hK => ?_) ?_
                · rw [if_pos (by kernel_rfl)]
                  refine wp_appT (.tmp 102) (.tmp 109) rfl ⟨bv, tlo cap (b + 1), none⟩ (n - (b + 1)) (cap - (b + 1)) hT9 CL.out.2.1 (tail_cells (HC.out _ (S1.below hb).own) (HN.out ▸ HNC.out)) (by kernel_rfl) (by kernel_rfl) (Nat.le_trans CL.out.2.2.2.1 HL5.out) (Nat.le_trans CL.out.2.2.2.2.2 HL5.out) ?_; intro v10 w10 hT10 hG10 hO10; (first | replace hG10 := grown_undrew hG10 | skip); have hgt10 := own_ge hG10 hO10 hgt9 hb.size; replace hb := hb.trans (grown_below hG10 hgt9 hb.size); clear hG10 hO10; obtain ⟨n10, hn10⟩ : ∃ n, n = ([] ++ rs.take b ++ rs.drop (b + 1)).length := ⟨_, rfl⟩; obtain ⟨a10, c10, e10⟩ := hT10.slice; rw [← hn10] at e10; have H10 : Hid (n10 < n) := hidT (hn10 ▸ CL.out.2.2.1); clear hn10; subst e10; have n10p : Value.ownBlock (.slice a10 n10 c10) ≠ some p := fun e => Nat.not_le_of_lt S1.row.lt (hgt10 p e)
                  refine hK.out _ _ trivial (fun _ => ?_)
                  clear hK K
                  try simp only [Act.put, List.getElem_toArray, List.getElem_cons_succ, List.getElem_cons_zero, List.setIfInBounds_toArray, List.set_cons_zero, List.set_cons_succ]
                  refine wpAnyH_take (i := 16) (v := .pointer (some ⟨p, 0, none⟩)) rfl (by kernel_rfl) (by kernel_rfl) (by kernel_rfl) (fun _ _ _ h => h) (Or.inl ⟨by kernel_rfl, by intro w hS; go_simp⟩) trivial ?_
                  simp only [Act.put, List.getElem_toArray, List.getElem_cons_succ, List.getElem_cons_zero, List.setIfInBounds_toArray, List.set_cons_zero, List.set_cons_succ]
                  refine wpAnyH_take (i := 17) (v := .pointer (some ⟨p, 1, none⟩)) rfl (by kernel_rfl) (by kernel_rfl) (by kernel_rfl) (fun _ _ _ h => h) (Or.inl ⟨by kernel_rfl, by intro w hS; go_simp⟩) trivial ?_
                  simp only [Act.put, List.getElem_toArray, List.getElem_cons_succ, List.getElem_cons_zero, List.setIfInBounds_toArray, List.set_cons_zero, List.set_cons_succ]
                  refine wpAnyH_ready (rs := [18]) (by kernel_rfl) (by simp) ?_
                  refine AllReadyH.cons rfl (fun K hK => ?_) ?_
                  · rw [if_pos (by kernel_rfl)]
                    refine wp_storeTL (S1.below hb).row (.tmp 112) (.tmp 110) rfl 1 (by kernel_rfl) a10 n10 c10 (by kernel_rfl) _ rfl #[.int .i64 tn, .slice a10 n10 c10] rfl ?_; intro w11 R11 t11; have hT11 := hT10.turned t11 n10p; have hO11 := (hO8.belowT hb (Nat.le_refl _)).keepGr (Gr.ofTurned t11) (fun c hc e => hu8 (by rw [hc, e])); have hG11 := (hG1.trans (Gr.of_below (F := fun _ => False) hb) (fun _ h => h.elim)).trans (Gr.ofTurned t11) (fun x hx => .inl hx)
                    refine hK.out _ _ trivial (fun _ => ?_)
                    clear hK K
                    try simp only [Act.put, List.getElem_toArray, List.getElem_cons_succ, List.getElem_cons_zero, List.setIfInBounds_toArray, List.set_cons_zero, List.set_cons_succ]
                    refine wpAnyH_done (by kernel_rfl) ?_ _
                    refine NoPanic.normal ?_
                    go_wp2
                    go_roundw
                    case rel => exact ⟨_, _, _, rfl, cs ++ [x], _, _, HS2.out, (by rw [List.map_append]; exact hO11), hgt8, ⟨R11, hT11, n10p, HN4.out⟩, hG11, hidT (.inr (fun k hk => Nat.le_trans HSZ.out (hgt10 k hk)))⟩
                    case measure => rw [HM.out, lenT_row R11]; exact H10.out
                  exact AllReadyH.nil
                exact AllReadyH.nil
              exact AllReadyH.nil
            exact AllReadyH.nil
          refine AllReadyH.cons rfl (fun K hK => ?_) ?_
          · rw [if_pos (by kernel_rfl)]
            refine wp_loadTL (S1.below hb).row (.tmp 105) rfl 1 (by kernel_rfl) (.slice (some ⟨bv, 0, none⟩) n cap) rfl ?_
            refine hK.out _ _ trivial (fun _ => ?_)
            clear hK K
            try simp only [Act.put, List.getElem_toArray, List.getElem_cons_succ, List.getElem_cons_zero, List.setIfInBounds_toArray, List.set_cons_zero, List.set_cons_succ]
            refine wpAnyH_take (i := 14) (v := .slice (some ⟨bv, tlo cap (b + 1), none⟩) (n - (b + 1)) (cap - (b + 1))) rfl (by kernel_rfl) (by kernel_rfl) (by kernel_rfl) (fun _ _ _ h => h) (yields_tailT (.tmp 106) (.tmp 108) rfl (by kernel_rfl) bv n cap (b + 1) (by kernel_rfl) (by kernel_rfl) HBN1.out HNC.out) trivial ?_
            simp only [Act.put, List.getElem_toArray, List.getElem_cons_succ, List.getElem_cons_zero, List.setIfInBounds_toArray, List.set_cons_zero, List.set_cons_succ]
            refine wpAnyH_ready (rs := [4]) (by kernel_rfl) (by simp) ?_
            refine AllReadyH.cons rfl (fun K hK => ?_) ?_
            · rw [if_pos (by kernel_rfl)]
              refine wp_loadTL (S1.below hb).row (.tmp 98) rfl 1 (by kernel_rfl) (.slice (some ⟨bv, 0, none⟩) n cap) rfl ?_
              refine hK.out _ _ trivial (fun _ => ?_)
              clear hK K
              try simp only [Act.put, List.getElem_toArray, List.getElem_cons_succ, List.getElem_cons_zero, List.setIfInBounds_toArray, List.set_cons_zero, List.set_cons_succ]
              refine wpAnyH_take (i := 6) (v := .slice (some ⟨bv, 0, none⟩) b cap) rfl (by kernel_rfl) (by kernel_rfl) (by kernel_rfl) (fun _ _ _ h => h) (yields_headT (.tmp 99) (.tmp 100) rfl (by kernel_rfl) bv n cap b (by kernel_rfl) (by kernel_rfl) HBN.out HNC.out) trivial ?_
              simp only [Act.put, List.getElem_toArray, List.getElem_cons_succ, List.getElem_cons_zero, List.setIfInBounds_toArray, List.set_cons_zero, List.set_cons_succ]
              refine wpAnyH_ready (rs := [7]) (by kernel_rfl) (by simp) ?_
              refine AllReadyH.cons rfl (fun K hK => ?_) ?_
              · rw [if_pos (by kernel_rfl)]
                refine wp_appT (.const (.slice none 0 0)) (.tmp 101) rfl ⟨bv, 0, none⟩ b cap (TmO.nil _) CL.out.1 (head_cells (HC.out _ (S1.below hb).own)) (by kernel_rfl) (by kernel_rfl) (by decide) (Nat.le_trans CL.out.2.2.2.2.1 HL5.out) ?_; intro v9 w9 hT9 hG9 hO9; (first | replace hG9 := grown_undrew hG9 | skip); have hgt9 := own_ge hG9 hO9 (gt_nil _) hb.size; replace hb := hb.trans (grown_below hG9 (gt_nil _) hb.size); clear hG9 hO9; obtain ⟨n9, hn9⟩ : ∃ n, n = ([] ++ rs.take b).length := ⟨_, rfl⟩; obtain ⟨a9, c9, e9⟩ := hT9.slice; rw [← hn9] at e9; clear hn9; subst e9
                refine hK.out _ _ trivial (fun _ => ?_)
                clear hK K
                try simp only [Act.put, List.getElem_toArray, List.getElem_cons_succ, List.getElem_cons_zero, List.setIfInBounds_toArray, List.set_cons_zero, List.set_cons_succ]
                refine wpAnyH_ready (rs := [15]) (by kernel_rfl) (by simp) ?_
                refine AllReadyH.cons rfl (fun K hK => ?_) ?_
                · rw [if_pos (by kernel_rfl)]
                  refine wp_appT (.tmp 102) (.tmp 109) rfl ⟨bv, tlo cap (b + 1), none⟩ (n - (b + 1)) (cap - (b + 1)) hT9 CL.out.2.1 (tail_cells (HC.out _ (S1.below hb).own) (HN.out ▸ HNC.out)) (by kernel_rfl) (by kernel_rfl) (Nat.le_trans CL.out.2.2.2.1 HL5.out) (Nat.le_trans CL.out.2.2.2.2.2 HL5.out) ?_; intro v10 w10 hT10 hG10 hO10; (first | replace hG10 := grown_undrew hG10 | skip); have hgt10 := own_ge hG10 hO10 hgt9 hb.size; replace hb := hb.trans (grown_below hG10 hgt9 hb.size); clear hG10 hO10; obtain ⟨n10, hn10⟩ : ∃ n, n = ([] ++ rs.take b ++ rs.drop (b + 1)).length := ⟨_, rfl⟩; obtain ⟨a10, c10, e10⟩ := hT10.slice; rw [← hn10] at e10; have H10 : Hid (n10 < n) := hidT (hn10 ▸ CL.out.2.2.1); clear hn10; subst e10; have n10p : Value.ownBlock (.slice a10 n10 c10) ≠ some p := fun e => Nat.not_le_of_lt S1.row.lt (hgt10 p e)
                  refine hK.out _ _ trivial (fun _ => ?_)
                  clear hK K
                  try simp only [Act.put, List.getElem_toArray, List.getElem_cons_succ, List.getElem_cons_zero, List.setIfInBounds_toArray, List.set_cons_zero, List.set_cons_succ]
                  refine wpAnyH_take (i := 16) (v := .pointer (some ⟨p, 0, none⟩)) rfl (by kernel_rfl) (by kernel_rfl) (by kernel_rfl) (fun _ _ _ h => h) (Or.inl ⟨by kernel_rfl, by intro w hS; go_simp⟩) trivial ?_
                  simp only [Act.put, List.getElem_toArray, List.getElem_cons_succ, List.getElem_cons_zero, List.setIfInBounds_toArray, List.set_cons_zero, List.set_cons_succ]
                  refine wpAnyH_take (i := 17) (v := .pointer (some ⟨p, 1, none⟩)) rfl (by kernel_rfl) (by kernel_rfl) (by kernel_rfl) (fun _ _ _ h => h) (Or.inl ⟨by kernel_rfl, by intro w hS; go_simp⟩) trivial ?_
                  simp only [Act.put, List.getElem_toArray, List.getElem_cons_succ, List.getElem_cons_zero, List.setIfInBounds_toArray, List.set_cons_zero, List.set_cons_succ]
                  refine wpAnyH_ready (rs := [18]) (by kernel_rfl) (by simp) ?_
                  refine AllReadyH.cons rfl (fun K hK => ?_) ?_
                  · rw [if_pos (by kernel_rfl)]
                    refine wp_storeTL (S1.below hb).row (.tmp 112) (.tmp 110) rfl 1 (by kernel_rfl) a10 n10 c10 (by kernel_rfl) _ rfl #[.int .i64 tn, .slice a10 n10 c10] rfl ?_; intro w11 R11 t11; have hT11 := hT10.turned t11 n10p; have hO11 := (hO8.belowT hb (Nat.le_refl _)).keepGr (Gr.ofTurned t11) (fun c hc e => hu8 (by rw [hc, e])); have hG11 := (hG1.trans (Gr.of_below (F := fun _ => False) hb) (fun _ h => h.elim)).trans (Gr.ofTurned t11) (fun x hx => .inl hx)
                    refine hK.out _ _ trivial (fun _ => ?_)
                    clear hK K
                    try simp only [Act.put, List.getElem_toArray, List.getElem_cons_succ, List.getElem_cons_zero, List.setIfInBounds_toArray, List.set_cons_zero, List.set_cons_succ]
                    refine wpAnyH_done (by kernel_rfl) ?_ _
                    refine NoPanic.normal ?_
                    go_wp2
                    go_roundw
                    case rel => exact ⟨_, _, _, rfl, cs ++ [x], _, _, HS2.out, (by rw [List.map_append]; exact hO11), hgt8, ⟨R11, hT11, n10p, HN4.out⟩, hG11, hidT (.inr (fun k hk => Nat.le_trans HSZ.out (hgt10 k hk)))⟩
                    case measure => rw [HM.out, lenT_row R11]; exact H10.out
                  exact AllReadyH.nil
                exact AllReadyH.nil
              exact AllReadyH.nil
            exact AllReadyH.nil
          exact AllReadyH.nil
end Go.Proofs.Ytphijplgnffoiaa
