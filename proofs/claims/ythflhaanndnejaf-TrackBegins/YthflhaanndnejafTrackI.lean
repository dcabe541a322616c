/-
  How the document's flows begin.
-/
import Derived.Test.YthflhaanndnejafTrackH
namespace Go.Proofs.Ythflhaanndnejaf
open Go.ChangeShapes Go.WideShapes Go.ChangeAt Go.RowKit
set_option linter.unusedSimpArgs false
set_option linter.unusedVariables false

theorem tmodT (x : Int) (h : 0 ≤ x) : 0 ≤ x.tmod 2 ∧ x.tmod 2 ≤ 1 := by
  rw [Int.tmod_eq_emod_of_nonneg h]; omega
/-- the document's look at one flag. -/
def hd' (x b : Int) : Bool := (x.tdiv b).tmod 2 == 1
theorem begins_hd (x : Int) (h0 : 0 ≤ x) (h1 : x ≤ 63) : (has x 2 && none' x 21) = (hd' x 2 && !hd' x 1 && !hd' x 4 && !hd' x 16) := by
  obtain ⟨n, rfl⟩ : ∃ n : Nat, x = n := ⟨x.toNat, by omega⟩
  have h : n < 64 := by omega
  clear h0 h1
  revert n; decide
theorem hdRef_is (x b : Int) (h0 : 0 ≤ x) (h1 : x ≤ 63) (b0 : 1 ≤ b) (b1 : b ≤ 16) (r : Bool) (h : hd' x b = r) (q : Nat) (w : World) (p : Pkt) (R : Row 23 w q (pcl p)) (hx : p.flags = x) : Calls Try.prog 17 #[.int .i64 b, .pointer (some ⟨q, 0, none⟩)] w fun e w' => e = .returned (.bool r) ∧ w' = w := by
  subst hx
  rw [← h]
  have hc := (R.cell 7).trans (show (pcl p)[7]? = some (.int .i64 p.flags) from rfl)
  have hz : ¬ b = 0 := by omega
  have hq : p.flags.tdiv b = p.flags / b := Int.tdiv_eq_ediv_of_nonneg h0
  have hq0 : 0 ≤ p.flags / b := Int.ediv_nonneg h0 (by omega)
  have hq1 : p.flags / b ≤ p.flags := Int.ediv_le_self _ h0
  have hw1 : wrap64 (p.flags.tdiv b) = p.flags.tdiv b := by rw [hq]; unfold wrap64; omega
  have ht := tmodT (p.flags.tdiv b) (by omega)
  have hw2 : wrap64 ((p.flags.tdiv b).tmod 2) = (p.flags.tdiv b).tmod 2 := by unfold wrap64; omega
  clear R h hq hq0 hq1 ht h0 h1 b0 b1
  go_enter Try.func17, Try.ntmps17
  go_wp2
  go_ret
  exact ⟨rfl, rfl⟩
theorem at_op {ops : Array Oper} {rest : List Oper} {o : Oper} {a : Act} {w : World} {Q : Exit → Act → World → Prop} (p : Op) (ho : o.op = p) (h : wpList Try.prog ops Q (o :: rest) a w) : wpList Try.prog ops Q (o :: rest) a w := h
set_option maxRecDepth 10000 in
set_option maxHeartbeats 8000000 in
theorem begRef_any (p : Pkt) (h0 : 0 ≤ p.flags) (h1 : p.flags ≤ 63) (w : World) : Calls Try.prog 8 #[.agg (pcl p)] w fun e w' => e = .returned (.bool (begB p)) ∧ Below w.heap.size w w' := by
  have hB := Below.refl w.heap.size w
  have hmf : ∀ (fn : Fn) (first cap : Array Value) (w : World), (Instr.makeFunc fn first cap).run Try.prog w = .ok (.func fn first cap) w := fun _ _ _ _ => rfl
  obtain ⟨r, hr⟩ : ∃ r, begB p = r := ⟨_, rfl⟩
  rw [hr]
  have hbh := begins_hd p.flags h0 h1
  unfold begB at hr
  rw [Bool.and_assoc, hbh] at hr
  clear hbh
  by_cases e17 : p.proto = 17
  · have d17 : (p.proto == 17) = true := by simp [e17]
    have HF : Hid (true = r) := by show true = r; rw [← hr]; simp [e17]
    clear hr h0 h1 e17
    go_enter Try.func8, Try.ntmps8
    go_wp2_with (first | (with_reducible refine at_op (.box 23 (.tmp 0)) rfl ?_; refine wpList_boxR 23 rfl (.tmp 0) rfl (pcl p) rfl ?_; intro b1 w1 l1 R1 hb1; replace hB := hB.trans (hb1.mono hB.size); have c0 : World.cell? _ ⟨b1, 0, none⟩ = some (.int .i64 p.proto) := (R1.cell 0).trans rfl; have c7 : World.cell? _ ⟨b1, 7, none⟩ = some (.int .i64 p.flags) := (R1.cell 7).trans rfl))
    go_ret
    exact ⟨ret_boolT HF.out, hB⟩
  · have d17 : (p.proto == 17) = false := by simp [e17]
    by_cases e1 : p.proto = 1
    · have d1 : (p.proto == 1) = true := by simp [e1]
      have d6 : (p.proto == 6) = false := by simp [e1]
      by_cases e8 : p.flags = 8
      · have d8 : (p.flags == 8) = true := by simp [e8]
        have HF : Hid (true = r) := by show true = r; rw [← hr]; simp [e1, e8]
        clear hr h0 h1 e17 e1 e8
        go_enter Try.func8, Try.ntmps8
        go_wp2_with (first | (with_reducible refine at_op (.box 23 (.tmp 0)) rfl ?_; refine wpList_boxR 23 rfl (.tmp 0) rfl (pcl p) rfl ?_; intro b1 w1 l1 R1 hb1; replace hB := hB.trans (hb1.mono hB.size); have c0 : World.cell? _ ⟨b1, 0, none⟩ = some (.int .i64 p.proto) := (R1.cell 0).trans rfl; have c7 : World.cell? _ ⟨b1, 7, none⟩ = some (.int .i64 p.flags) := (R1.cell 7).trans rfl))
        go_ret
        exact ⟨ret_boolT HF.out, hB⟩
      · have d8 : (p.flags == 8) = false := by simp [e8]
        have HF : Hid (false = r) := by show false = r; rw [← hr]; simp [e1, e8]
        clear hr h0 h1 e17 e1 e8
        go_enter Try.func8, Try.ntmps8
        go_wp2_with (first | (with_reducible refine at_op (.box 23 (.tmp 0)) rfl ?_; refine wpList_boxR 23 rfl (.tmp 0) rfl (pcl p) rfl ?_; intro b1 w1 l1 R1 hb1; replace hB := hB.trans (hb1.mono hB.size); have c0 : World.cell? _ ⟨b1, 0, none⟩ = some (.int .i64 p.proto) := (R1.cell 0).trans rfl; have c7 : World.cell? _ ⟨b1, 7, none⟩ = some (.int .i64 p.flags) := (R1.cell 7).trans rfl))
        go_ret
        exact ⟨ret_boolT HF.out, hB⟩
    · have d1 : (p.proto == 1) = false := by simp [e1]
      by_cases e6 : p.proto = 6
      · have d6 : (p.proto == 6) = true := by simp [e6]
        cases g2 : hd' p.flags 2 with
        | false =>
          have C2 := fun q w R => hdRef_is p.flags 2 h0 h1 (by decide) (by decide) _ g2 q w p R rfl
          have HF : Hid (false = r) := by show false = r; rw [← hr]; simp [e6, g2]
          clear hr h0 h1 e17 e1 e6 g2
          go_enter Try.func8, Try.ntmps8
          go_wp2_with (first | (with_reducible refine at_op (.box 23 (.tmp 0)) rfl ?_; refine wpList_boxR 23 rfl (.tmp 0) rfl (pcl p) rfl ?_; intro b1 w1 l1 R1 hb1; replace hB := hB.trans (hb1.mono hB.size); have c0 : World.cell? _ ⟨b1, 0, none⟩ = some (.int .i64 p.proto) := (R1.cell 0).trans rfl; have c7 : World.cell? _ ⟨b1, 7, none⟩ = some (.int .i64 p.flags) := (R1.cell 7).trans rfl) | (go_at_call 17; go_fit (C2 _ _ R1); rintro e w' ⟨rfl, hw⟩; rw [hw]; clear hw w'))
          go_ret
          exact ⟨ret_boolT HF.out, hB⟩
        | true =>
          have C2 := fun q w R => hdRef_is p.flags 2 h0 h1 (by decide) (by decide) _ g2 q w p R rfl
          cases g1 : hd' p.flags 1 with
          | true =>
            have C1 := fun q w R => hdRef_is p.flags 1 h0 h1 (by decide) (by decide) _ g1 q w p R rfl
            have HF : Hid (false = r) := by show false = r; rw [← hr]; simp [e6, g2, g1]
            clear hr h0 h1 e17 e1 e6 g2 g1
            go_enter Try.func8, Try.ntmps8
            go_wp2_with (first | (with_reducible refine at_op (.box 23 (.tmp 0)) rfl ?_; refine wpList_boxR 23 rfl (.tmp 0) rfl (pcl p) rfl ?_; intro b1 w1 l1 R1 hb1; replace hB := hB.trans (hb1.mono hB.size); have c0 : World.cell? _ ⟨b1, 0, none⟩ = some (.int .i64 p.proto) := (R1.cell 0).trans rfl; have c7 : World.cell? _ ⟨b1, 7, none⟩ = some (.int .i64 p.flags) := (R1.cell 7).trans rfl) | (go_at_call 17; go_fit (C2 _ _ R1); rintro e w' ⟨rfl, hw⟩; rw [hw]; clear hw w') | (go_at_call 17; go_fit (C1 _ _ R1); rintro e w' ⟨rfl, hw⟩; rw [hw]; clear hw w'))
            go_ret
            exact ⟨ret_boolT HF.out, hB⟩
          | false =>
            have C1 := fun q w R => hdRef_is p.flags 1 h0 h1 (by decide) (by decide) _ g1 q w p R rfl
            cases g4 : hd' p.flags 4 with
            | true =>
              have C4 := fun q w R => hdRef_is p.flags 4 h0 h1 (by decide) (by decide) _ g4 q w p R rfl
              have HF : Hid (false = r) := by show false = r; rw [← hr]; simp [e6, g2, g1, g4]
              clear hr h0 h1 e17 e1 e6 g2 g1 g4
              go_enter Try.func8, Try.ntmps8
              go_wp2_with (first | (with_reducible refine at_op (.box 23 (.tmp 0)) rfl ?_; refine wpList_boxR 23 rfl (.tmp 0) rfl (pcl p) rfl ?_; intro b1 w1 l1 R1 hb1; replace hB := hB.trans (hb1.mono hB.size); have c0 : World.cell? _ ⟨b1, 0, none⟩ = some (.int .i64 p.proto) := (R1.cell 0).trans rfl; have c7 : World.cell? _ ⟨b1, 7, none⟩ = some (.int .i64 p.flags) := (R1.cell 7).trans rfl) | (go_at_call 17; go_fit (C2 _ _ R1); rintro e w' ⟨rfl, hw⟩; rw [hw]; clear hw w') | (go_at_call 17; go_fit (C1 _ _ R1); rintro e w' ⟨rfl, hw⟩; rw [hw]; clear hw w') | (go_at_call 17; go_fit (C4 _ _ R1); rintro e w' ⟨rfl, hw⟩; rw [hw]; clear hw w'))
              go_ret
              exact ⟨ret_boolT HF.out, hB⟩
            | false =>
              have C4 := fun q w R => hdRef_is p.flags 4 h0 h1 (by decide) (by decide) _ g4 q w p R rfl
              cases g16 : hd' p.flags 16 with
              | true =>
                have C16 := fun q w R => hdRef_is p.flags 16 h0 h1 (by decide) (by decide) _ g16 q w p R rfl
                have HF : Hid (false = r) := by show false = r; rw [← hr]; simp [e6, g2, g1, g4, g16]
                clear hr h0 h1 e17 e1 e6 g2 g1 g4 g16
                go_enter Try.func8, Try.ntmps8
                go_wp2_with (first | (with_reducible refine at_op (.box 23 (.tmp 0)) rfl ?_; refine wpList_boxR 23 rfl (.tmp 0) rfl (pcl p) rfl ?_; intro b1 w1 l1 R1 hb1; replace hB := hB.trans (hb1.mono hB.size); have c0 : World.cell? _ ⟨b1, 0, none⟩ = some (.int .i64 p.proto) := (R1.cell 0).trans rfl; have c7 : World.cell? _ ⟨b1, 7, none⟩ = some (.int .i64 p.flags) := (R1.cell 7).trans rfl) | (go_at_call 17; go_fit (C2 _ _ R1); rintro e w' ⟨rfl, hw⟩; rw [hw]; clear hw w') | (go_at_call 17; go_fit (C1 _ _ R1); rintro e w' ⟨rfl, hw⟩; rw [hw]; clear hw w') | (go_at_call 17; go_fit (C4 _ _ R1); rintro e w' ⟨rfl, hw⟩; rw [hw]; clear hw w') | (go_at_call 17; go_fit (C16 _ _ R1); rintro e w' ⟨rfl, hw⟩; rw [hw]; clear hw w'))
                go_ret
                exact ⟨ret_boolT HF.out, hB⟩
              | false =>
                have C16 := fun q w R => hdRef_is p.flags 16 h0 h1 (by decide) (by decide) _ g16 q w p R rfl
                have HF : Hid (true = r) := by show true = r; rw [← hr]; simp [e6, g2, g1, g4, g16]
                clear hr h0 h1 e17 e1 e6 g2 g1 g4 g16
                go_enter Try.func8, Try.ntmps8
                go_wp2_with (first | (with_reducible refine at_op (.box 23 (.tmp 0)) rfl ?_; refine wpList_boxR 23 rfl (.tmp 0) rfl (pcl p) rfl ?_; intro b1 w1 l1 R1 hb1; replace hB := hB.trans (hb1.mono hB.size); have c0 : World.cell? _ ⟨b1, 0, none⟩ = some (.int .i64 p.proto) := (R1.cell 0).trans rfl; have c7 : World.cell? _ ⟨b1, 7, none⟩ = some (.int .i64 p.flags) := (R1.cell 7).trans rfl) | (go_at_call 17; go_fit (C2 _ _ R1); rintro e w' ⟨rfl, hw⟩; rw [hw]; clear hw w') | (go_at_call 17; go_fit (C1 _ _ R1); rintro e w' ⟨rfl, hw⟩; rw [hw]; clear hw w') | (go_at_call 17; go_fit (C4 _ _ R1); rintro e w' ⟨rfl, hw⟩; rw [hw]; clear hw w') | (go_at_call 17; go_fit (C16 _ _ R1); rintro e w' ⟨rfl, hw⟩; rw [hw]; clear hw w'))
                go_ret
                exact ⟨ret_boolT HF.out, hB⟩
      · have d6 : (p.proto == 6) = false := by simp [e6]
        have HF : Hid (false = r) := by show false = r; rw [← hr]; simp [e17, e1, e6]
        clear hr h0 h1 e17 e1 e6
        go_enter Try.func8, Try.ntmps8
        go_wp2_with (first | (with_reducible refine at_op (.box 23 (.tmp 0)) rfl ?_; refine wpList_boxR 23 rfl (.tmp 0) rfl (pcl p) rfl ?_; intro b1 w1 l1 R1 hb1; replace hB := hB.trans (hb1.mono hB.size); have c0 : World.cell? _ ⟨b1, 0, none⟩ = some (.int .i64 p.proto) := (R1.cell 0).trans rfl; have c7 : World.cell? _ ⟨b1, 7, none⟩ = some (.int .i64 p.flags) := (R1.cell 7).trans rfl))
        go_ret
        exact ⟨ret_boolT HF.out, hB⟩
theorem below_undrG {w w' : World} (h : Below w.drew.heap.size w.drew w') : Below w.heap.size w w' := ⟨h.os, h.tape, h.output, h.size, h.block⟩
end Go.Proofs.Ythflhaanndnejaf
