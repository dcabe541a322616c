/-
  A block taken and given back; the laws of new variables within a region that draws its order.
-/
import Derived.Test.YtmdijjbkjcnbpaaPoolV
namespace Go.Proofs.Ytmdijjbkjcnbpaa
open Go.ChangeShapes Go.WideShapes Go.ChangeAt Go.RowKit
set_option linter.unusedSimpArgs false
set_option linter.unusedVariables false

theorem below_drew {B : Nat} {w0 w : World} (h : Below B w0 w) : Below B w0 w.drew := ⟨h.os, h.tape, h.output, h.size, h.block⟩
theorem wp_alloc_pool {o : Oper} {a : Act} {w : World} {K : Act → World → Prop} {Q : Exit → Act → World → Prop} (ho : o.op = .alloc 26)
    (h : ∀ b w', b = w.heap.size → PRow w' b (pc (fun _ => 0) (fun _ => false)) → (∀ r cs, PRow w r cs → PRow w' r cs ∧ r ≠ b) → (∀ B w0, Below B w0 w → B ≤ w.heap.size → Below B w0 w') → w'.heap.size = w.heap.size + 1 → K (a.put o.dst (.pointer (some ⟨b, 0, none⟩))) w') : o.wp Try.prog a w K Q := by
  have hn := PRow.new w (pc (fun _ => 0) (fun _ => false))
  have h' := h w.heap.size (w.alloc (.cells (pc (fun _ => 0) (fun _ => false)) 26)) rfl hn (fun r cs hr => ⟨hr.alloc _, by have := hr.lt; omega⟩) (fun B w0 hb hB => hb.alloc hB _) (by simp)
  unfold Oper.wp execOp
  simp [ho, Instr.alloc, go_sem]
  exact h'
theorem wp_store_pool {o : Oper} {a : Act} {w : World} {K : Act → World → Prop} {Q : Exit → Act → World → Prop} (x y : Operand) (ho : o.op = .store 26 x y)
    (b : Nat) (hx : a.eval x = .pointer (some ⟨b, 0, none⟩)) (f : Nat → Int) (g : Nat → Bool) (hy : a.eval y = .agg (pc f g)) (old : Array Value) (h : PRow w b old) (hs : old.size = 21)
    (hr : ∀ w', PRow w' b (pc f g) → w'.heap.size = w.heap.size → (∀ r cs, r ≠ b → PRow w r cs → PRow w' r cs) → (∀ B w0, B ≤ b → Below B w0 w → Below B w0 w') → K (a.put o.dst undef) w') : o.wp Try.prog a w K Q := by
  have hst := run_storeVar_row (P := Try.prog) w b 26 26 old (pc f g) h (pc_info f g) (by rw [hs, pc_size]) (pc_one f g)
  unfold Oper.wp execOp
  simp only [ho, hx, hy, Instr.storeAt, Instr.sureAddr, Sem.run_bind, Sem.run_pure, Result.andThen_ok, hst]
  exact hr _ (setRow_heap w b old _ _ _ h) (by simp) (fun r cs hne hr' => (setRow_other w b r _ hne).trans hr') (fun B w0 hB hb => below_setRow hb hB _)
set_option maxHeartbeats 1000000 in
theorem pickKeep_any (d : Int) (w : World) : Calls Try.prog 23 #[.int .i64 d, .int .i64 8] w fun e w' => e = .returned (.int .i64 (d % 8)) ∧ w' = w := by
  have hr := rem_at d 8 (by omega)
  have a0 := Int.emod_nonneg d (b := 8) (by omega)
  have a1 := Int.emod_lt_of_pos d (b := 8) (by omega)
  by_cases ht : d.tmod 8 < 0
  · rw [if_pos ht] at hr
    go_enter Try.func23, Try.ntmps23
    go_wp2
    go_ret
    exact ⟨rfl, rfl⟩
  · rw [if_neg ht] at hr
    have ht' : 0 ≤ d.tmod 8 := by omega
    clear ht
    go_enter Try.func23, Try.ntmps23
    go_wp2
    go_ret
    exact ⟨rfl, rfl⟩
theorem takeE_inv {f : Nat → Int} {g : Nat → Bool} {s a : Int} (h : takeE f g s a = 0) : goodP f = true ∧ (0 ≤ a ∧ a < 3) ∧ (0 ≤ s ∧ s < 8) ∧ g a.toNat = false ∧ 0 < (freeL (rowF f a.toNat)).length := by
  unfold takeE at h
  by_cases h1 : goodP f = true
  · rw [if_pos h1] at h
    by_cases h2 : inR a 3 = true ∧ inR s 8 = true
    · rw [if_pos h2] at h
      by_cases h3 : g a.toNat = true
      · rw [if_pos h3] at h; omega
      · rw [if_neg h3] at h
        by_cases h4 : (freeL (rowF f a.toNat)).length = 0
        · rw [if_pos h4] at h; omega
        · exact ⟨h1, of_decide_eq_true h2.1, of_decide_eq_true h2.2, by simpa using h3, by omega⟩
    · rw [if_neg h2] at h; omega
  · rw [if_neg h1] at h; omega
theorem goodP_upd {f : Nat → Int} (h : goodP f = true) (n : Nat) (x : Int) (h0 : 0 ≤ x) (h8 : x ≤ 8) : goodP (upd f n x) = true := by
  have hf : goodTo f 18 := goodP_inv h
  refine goodP_true fun i hi => ?_
  unfold upd
  by_cases e : i = n
  · rw [if_pos e]; exact ⟨h0, h8⟩
  · rw [if_neg e]; exact hf i hi
theorem upd_back {f : Nat → Int} {n : Nat} {x : Int} (h : f n = 0) : upd (upd f n x) n 0 = f := by
  funext i
  unfold upd
  by_cases e : i = n
  · rw [if_pos e, e, h]
  · rw [if_neg e, if_neg e]
theorem upd_at (h : Nat → Int) (k : Nat) (x : Int) : upd h k x k = x := by unfold upd; rw [if_pos rfl]
theorem upd_no (h : Nat → Int) (k n : Nat) (x : Int) (e : n ≠ k) : upd h k x n = h n := by unfold upd; rw [if_neg e]
theorem freeTo_upd (h : Nat → Int) (k : Nat) (x : Int) (hx : x ≠ 0) (h0 : h k = 0) : ∀ n, (n ≤ k → (freeTo (upd h k x) n).length = (freeTo h n).length) ∧ (k < n → (freeTo (upd h k x) n).length + 1 = (freeTo h n).length)
  | 0 => ⟨fun _ => rfl, fun hk => absurd hk (Nat.not_lt_zero k)⟩
  | n + 1 => by
    obtain ⟨i1, i2⟩ := freeTo_upd h k x hx h0 n
    rw [freeTo_step, freeTo_step, List.length_append, List.length_append]
    by_cases e : n = k
    · subst e
      rw [upd_at, if_neg (by simpa using hx), if_pos (by simpa using h0)]
      refine ⟨fun hk => absurd hk (by omega), fun _ => ?_⟩
      have := i1 (Nat.le_refl _)
      show (freeTo (upd h n x) n).length + 0 + 1 = (freeTo h n).length + 1
      omega
    · rw [upd_no _ _ _ _ e]
      refine ⟨fun hk => ?_, fun hk => ?_⟩
      · have := i1 (by omega); omega
      · have := i2 (by omega); omega
theorem rowF_upd (f : Nat → Int) (a k : Nat) (x : Int) (hk : k < 6) : ∀ i, i < 6 → rowF (upd f (6 * a + k) x) a i = upd (rowF f a) k x i := by
  intro i hi
  unfold rowF upd
  by_cases e : i = k
  · rw [if_pos (by omega), if_pos e]
  · rw [if_neg (by omega), if_neg e]
theorem freeTo_congr (h h' : Nat → Int) : ∀ n, (∀ i, i < n → h i = h' i) → freeTo h n = freeTo h' n
  | 0, _ => rfl
  | n + 1, hh => by rw [freeTo_step, freeTo_step, freeTo_congr h h' n (fun i hi => hh i (by omega)), hh n (by omega)]
theorem left_upd (f : Nat → Int) (a k : Nat) (x : Int) (ha : a < 3) (hk : k < 6) (hx : x ≠ 0) (h0 : f (6 * a + k) = 0) : leftP f (a : Int) - leftP (upd f (6 * a + k) x) (a : Int) = 1 := by
  rw [leftP_in _ _ ha, leftP_in _ _ ha]
  unfold freeL
  rw [freeTo_congr _ _ 6 (rowF_upd f a k x hk)]
  have := (freeTo_upd (rowF f a) k x hx h0 6).2 hk
  omega
end Go.Proofs.Ytmdijjbkjcnbpaa
