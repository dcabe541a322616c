/-
  How flows begin; does track answer at all.
-/
import Derived.Test.YthflhaanndnejafTrackE
namespace Go.Proofs.Ythflhaanndnejaf
open Go.ChangeShapes Go.WideShapes Go.ChangeAt Go.RowKit
set_option linter.unusedSimpArgs false
set_option linter.unusedVariables false

def firstZ (p : Int) : Int := if p = 6 then 1 else 2
theorem first_any (p : Pkt) (w : World) : Calls Try.prog 9 #[.agg (pcl p)] w fun e w' => e = .returned (.int .i64 (firstZ p.proto)) ∧ Below w.heap.size w w' := by
  have hB := Below.refl w.heap.size w
  by_cases e6 : p.proto = 6
  · have d6 : (p.proto == 6) = true := by simp [e6]
    have HF : Hid ((1 : Int) = firstZ p.proto) := by show (1 : Int) = firstZ p.proto; simp [firstZ, e6]
    clear e6
    go_enter Try.func9, Try.ntmps9
    go_wp2_with (first | (refine wpList_boxR 23 rfl (.tmp 0) rfl (pcl p) rfl ?_; intro b1 w1 l1 R1 hb1; replace hB := hB.trans (hb1.mono hB.size)) | (refine wpList_loadF R1 _ rfl ?_ _ rfl _ rfl ?_; · rfl))
    go_ret
    exact ⟨ret_intT HF.out, hB⟩
  · have d6 : (p.proto == 6) = false := by simp [e6]
    have HF : Hid ((2 : Int) = firstZ p.proto) := by show (2 : Int) = firstZ p.proto; simp [firstZ, e6]
    clear e6
    go_enter Try.func9, Try.ntmps9
    go_wp2_with (first | (refine wpList_boxR 23 rfl (.tmp 0) rfl (pcl p) rfl ?_; intro b1 w1 l1 R1 hb1; replace hB := hB.trans (hb1.mono hB.size)) | (refine wpList_loadF R1 _ rfl ?_ _ rfl _ rfl ?_; · rfl))
    go_ret
    exact ⟨ret_intT HF.out, hB⟩
theorem firstRef_any (p : Pkt) (w : World) : Calls Try.prog 10 #[.agg (pcl p)] w fun e w' => e = .returned (.int .i64 (firstZ p.proto)) ∧ Below w.heap.size w w' := by
  have hB := Below.refl w.heap.size w
  by_cases e6 : p.proto = 6
  · have d6 : (p.proto == 6) = true := by simp [e6]
    have HF : Hid ((1 : Int) = firstZ p.proto) := by show (1 : Int) = firstZ p.proto; simp [firstZ, e6]
    clear e6
    go_enter Try.func10, Try.ntmps10
    go_wp2_with (first | (refine wpList_boxR 23 rfl (.tmp 0) rfl (pcl p) rfl ?_; intro b1 w1 l1 R1 hb1; replace hB := hB.trans (hb1.mono hB.size)) | (refine wpList_loadF R1 _ rfl ?_ _ rfl _ rfl ?_; · rfl))
    go_ret
    exact ⟨ret_intT HF.out, hB⟩
  · have d6 : (p.proto == 6) = false := by simp [e6]
    have HF : Hid ((2 : Int) = firstZ p.proto) := by show (2 : Int) = firstZ p.proto; simp [firstZ, e6]
    clear e6
    go_enter Try.func10, Try.ntmps10
    go_wp2_with (first | (refine wpList_boxR 23 rfl (.tmp 0) rfl (pcl p) rfl ?_; intro b1 w1 l1 R1 hb1; replace hB := hB.trans (hb1.mono hB.size)) | (refine wpList_loadF R1 _ rfl ?_ _ rfl _ rfl ?_; · rfl))
    go_ret
    exact ⟨ret_intT HF.out, hB⟩
def begB (p : Pkt) : Bool := p.proto == 17 || (p.proto == 1 && p.flags == 8) || (p.proto == 6 && has p.flags 2 && none' p.flags 21)
theorem hasNone_is (x : Int) (b : Nat) (hb : 63 &&& b = b) (hl : b < 64) (r : Bool) (h : none' x b = r) (w : World) : Calls Try.prog 16 #[.int .i64 x, .int .i64 (b : Int)] w fun e w' => e = .returned (.bool r) ∧ w' = w := by rw [← h]; exact hasNone_any x b hb hl w
set_option maxRecDepth 10000 in
set_option maxHeartbeats 4000000 in
theorem begins_any (p : Pkt) (w : World) : Calls Try.prog 7 #[.agg (pcl p)] w fun e w' => e = .returned (.bool (begB p)) ∧ Below w.heap.size w w' := by
  have hB := Below.refl w.heap.size w
  obtain ⟨r, hr⟩ : ∃ r, begB p = r := ⟨_, rfl⟩
  rw [hr]
  unfold begB at hr
  by_cases e17 : p.proto = 17
  · have d17 : (p.proto == 17) = true := by simp [e17]
    have HF : Hid (true = r) := by show true = r; rw [← hr]; simp [e17]
    clear hr e17
    go_enter Try.func7, Try.ntmps7
    go_wp2_with (first | (refine wpList_boxR 23 rfl (.tmp 0) rfl (pcl p) rfl ?_; intro b1 w1 l1 R1 hb1; replace hB := hB.trans (hb1.mono hB.size)) | (refine wpList_loadF R1 _ rfl ?_ _ rfl _ rfl ?_; · rfl))
    go_ret
    exact ⟨ret_boolT HF.out, hB⟩
  · have d17 : (p.proto == 17) = false := by simp [e17]
    by_cases e1 : p.proto = 1
    · have d1 : (p.proto == 1) = true := by simp [e1]
      have HF : Hid ((p.flags == 8) = r) := by show (p.flags == 8) = r; rw [← hr]; simp [e1]
      clear hr e17 e1
      go_enter Try.func7, Try.ntmps7
      go_wp2_with (first | (refine wpList_boxR 23 rfl (.tmp 0) rfl (pcl p) rfl ?_; intro b1 w1 l1 R1 hb1; replace hB := hB.trans (hb1.mono hB.size)) | (refine wpList_loadF R1 _ rfl ?_ _ rfl _ rfl ?_; · rfl))
      go_ret
      exact ⟨ret_boolT HF.out, hB⟩
    · have d1 : (p.proto == 1) = false := by simp [e1]
      by_cases e6 : p.proto = 6
      · have d6 : (p.proto == 6) = true := by simp [e6]
        cases h2 : has p.flags 2 with
        | true =>
          have C2 := fun w => hasAll_is p.flags 2 (by decide) (by decide) _ h2 w
          have C21 := fun w => hasNone_is p.flags 21 (by decide) (by decide) _ rfl w
          have HF : Hid (none' p.flags 21 = r) := by show none' p.flags 21 = r; rw [← hr]; simp [e6, h2]
          clear hr e17 e1 e6 h2
          go_enter Try.func7, Try.ntmps7
          go_wp2_with (first | (refine wpList_boxR 23 rfl (.tmp 0) rfl (pcl p) rfl ?_; intro b1 w1 l1 R1 hb1; replace hB := hB.trans (hb1.mono hB.size)) | (refine wpList_loadF R1 _ rfl ?_ _ rfl _ rfl ?_; · rfl) | (go_at_call 15; go_fit (C2 _); rintro e w' ⟨rfl, hw⟩; rw [hw]; clear hw w') | (go_at_call 16; go_fit (C21 _); rintro e w' ⟨rfl, hw⟩; rw [hw]; clear hw w'))
          go_ret
          exact ⟨ret_boolT HF.out, hB⟩
        | false =>
          have C2 := fun w => hasAll_is p.flags 2 (by decide) (by decide) _ h2 w
          have HF : Hid (false = r) := by show false = r; rw [← hr]; simp [e6, h2]
          clear hr e17 e1 e6 h2
          go_enter Try.func7, Try.ntmps7
          go_wp2_with (first | (refine wpList_boxR 23 rfl (.tmp 0) rfl (pcl p) rfl ?_; intro b1 w1 l1 R1 hb1; replace hB := hB.trans (hb1.mono hB.size)) | (refine wpList_loadF R1 _ rfl ?_ _ rfl _ rfl ?_; · rfl) | (go_at_call 15; go_fit (C2 _); rintro e w' ⟨rfl, hw⟩; rw [hw]; clear hw w'))
          go_ret
          exact ⟨ret_boolT HF.out, hB⟩
      · have d6 : (p.proto == 6) = false := by simp [e6]
        have HF : Hid (false = r) := by show false = r; rw [← hr]; simp [e17, e1, e6]
        clear hr e17 e1 e6
        go_enter Try.func7, Try.ntmps7
        go_wp2_with (first | (refine wpList_boxR 23 rfl (.tmp 0) rfl (pcl p) rfl ?_; intro b1 w1 l1 R1 hb1; replace hB := hB.trans (hb1.mono hB.size)) | (refine wpList_loadF R1 _ rfl ?_ _ rfl _ rfl ?_; · rfl))
        go_ret
        exact ⟨ret_boolT HF.out, hB⟩
theorem tracksLaw_any (w : World) : Calls Try.prog 6 #[] w fun e w' => e = .returned (.bool true) ∧ Below w.heap.size w w' := by
  have hB := Below.refl w.heap.size w
  have CB := fun w => begins_any ⟨17, 0, 0, 0, 0, 0, 0, 0, 0, 0, 0, ByteArray.empty⟩ w
  go_enter Try.func6, Try.ntmps6
  go_wp2_with (first | (go_at_call 12; go_fit (life_any 17 2 _); rintro e w' ⟨rfl, hw⟩; rw [hw]; clear hw w'; rw [show lifeZ 17 2 = 20 from rfl]) | (go_at_call 7; go_fit (CB _); rintro e w5 ⟨rfl, hb5⟩; replace hB := hB.trans (hb5.mono hB.size); rw [show begB ⟨17, 0, 0, 0, 0, 0, 0, 0, 0, 0, 0, ByteArray.empty⟩ = true from rfl]))
  go_ret
  exact ⟨rfl, hB⟩
theorem tracksKeep_any (w : World) : Calls Try.prog 11 #[] w fun e w' => e = .returned (.bool true) ∧ Below w.heap.size w w' := by
  have hB := Below.refl w.heap.size w
  have CB := fun w => begins_any ⟨17, 0, 0, 0, 0, 0, 0, 0, 0, 0, 0, ByteArray.empty⟩ w
  go_enter Try.func11, Try.ntmps11
  go_wp2_with (first | (go_at_call 12; go_fit (life_any 17 2 _); rintro e w' ⟨rfl, hw⟩; rw [hw]; clear hw w'; rw [show lifeZ 17 2 = 20 from rfl]) | (go_at_call 7; go_fit (CB _); rintro e w5 ⟨rfl, hb5⟩; replace hB := hB.trans (hb5.mono hB.size); rw [show begB ⟨17, 0, 0, 0, 0, 0, 0, 0, 0, 0, 0, ByteArray.empty⟩ = true from rfl]))
  go_ret
  exact ⟨rfl, hB⟩
end Go.Proofs.Ythflhaanndnejaf
