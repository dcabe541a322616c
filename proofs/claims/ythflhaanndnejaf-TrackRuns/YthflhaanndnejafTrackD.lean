/-
  A flow behind a packet: step, Next.
-/
import Derived.Deep.DeepFit
import Derived.Test.YthflhaanndnejafPkt
import Derived.Test.YthflhaanndnejafTrackC
namespace Go.Proofs.Ythflhaanndnejaf
open Go.ChangeShapes Go.WideShapes Go.ChangeAt Go.RowKit
set_option linter.unusedSimpArgs false
set_option linter.unusedVariables false

theorem stepTcp_is (k : Fl) (x : Int) (inw : Bool) (k' : Fl) (r : Bool) (h : stepT k x inw = (k', r)) (w : World) : Calls Try.prog 19 #[.agg (fc k), .int .i64 x, .bool inw] w fun e w' => e = .returned (.tuple #[.agg (fc k'), .bool r]) ∧ Below w.heap.size w w' := by
  have h1 : k' = (stepT k x inw).1 := by rw [h]
  have h2 : r = (stepT k x inw).2 := by rw [h]
  rw [h1, h2]
  cases inw
  · exact stepTcp_false k x w
  · exact stepTcp_true k x w
set_option maxRecDepth 10000 in
set_option maxHeartbeats 4000000 in
theorem step_is (k : Fl) (x : Int) (inw : Bool) (k' : Fl) (r : Bool) (h : stepF k x inw = (k', r)) (w : World) : Calls Try.prog 18 #[.agg (fc k), .int .i64 x, .bool inw] w fun e w' => e = .returned (.tuple #[.agg (fc k'), .bool r]) ∧ Below w.heap.size w w' := by
  have hB := Below.refl w.heap.size w
  unfold stepF at h
  by_cases e6 : k.pr = 6
  · rw [if_pos e6] at h
    have d6 : (k.pr == 6) = true := by simp [e6]
    have CT := fun w => stepTcp_is k x inw k' r h w
    clear h e6
    go_enter Try.func18, Try.ntmps18
    go_wp2_with (first | (refine wpList_boxR 31 rfl _ rfl _ rfl ?_; intro b3 w1 l3 R3 hb1; replace l3 := Nat.le_trans hB.size l3; replace hB := hB.trans (hb1.mono hB.size)) | (refine wpList_allocX 6 31 rfl rfl rfl _ flow_zero ?_; intro b6 w2 l6 R6 hb2; have n36 := R3.ne l6; replace l6 := Nat.le_trans hB.size l6; replace R3 := R3.below hb2; replace hB := hB.trans (hb2.mono hB.size)) | (refine wpList_loadF R3 _ rfl rfl _ rfl _ rfl ?_) | (refine wpList_loadR 31 (.tmp 3) rfl rfl b3 rfl (fc k) R3 _ Try.underlying31 rfl (fc_info _) ?_) | (refine wpList_storeR 31 rfl (.tmp 6) _ rfl b6 rfl (fc k') rfl _ R6 rfl (fc_info _) (fc_one _) ?_; intro w6 R6 t6; replace R3 := t6.row R3 n36; replace hB := t6.below _ _ l6 hB) | (go_at_call 19; go_fit (CT _); rintro e w5 ⟨rfl, hb5⟩; replace R3 := R3.below hb5; replace R6 := R6.below hb5; replace hB := hB.trans (hb5.mono hB.size)))
    ((try simp only [Exit.inBlock, Exit.then]); refine bodyPost_ret (results_row2 (p := 6) (u := 7) rfl _ _ _ _ rfl R6 _ Try.underlying31 rfl (fc_info _)) rfl ⟨rfl, hB⟩)
  · rw [if_neg e6] at h
    have d6 : (k.pr == 6) = false := by simp [e6]
    by_cases e17 : k.pr = 17
    · rw [if_pos e17] at h
      have d17 : (k.pr == 17) = true := by simp [e17]
      obtain ⟨rfl, rfl⟩ := Prod.mk.inj h
      clear h e6 e17
      go_enter Try.func18, Try.ntmps18
      go_wp2_with (first | (refine wpList_boxR 31 rfl _ rfl _ rfl ?_; intro b3 w1 l3 R3 hb1; replace l3 := Nat.le_trans hB.size l3; replace hB := hB.trans (hb1.mono hB.size)) | (refine wpList_allocX 6 31 rfl rfl rfl _ flow_zero ?_; intro b6 w2 l6 R6 hb2; have n36 := R3.ne l6; replace l6 := Nat.le_trans hB.size l6; replace R3 := R3.below hb2; replace hB := hB.trans (hb2.mono hB.size)) | (refine wpList_loadF R3 _ rfl rfl _ rfl _ rfl ?_) | (refine wpList_loadR 31 (.tmp 3) rfl rfl b3 rfl (fc k) R3 _ Try.underlying31 rfl (fc_info _) ?_) | (refine wpList_storeR 31 rfl (.tmp 6) _ rfl b6 rfl (fc k) rfl _ R6 rfl (fc_info _) (fc_one _) ?_; intro w6 R6 t6; replace R3 := t6.row R3 n36; replace hB := t6.below _ _ l6 hB))
      ((try simp only [Exit.inBlock, Exit.then]); refine bodyPost_ret (results_row2 (p := 6) (u := 7) rfl _ _ _ _ rfl R6 _ Try.underlying31 rfl (fc_info _)) rfl ⟨rfl, hB⟩)
    · rw [if_neg e17] at h
      have d17 : (k.pr == 17) = false := by simp [e17]
      obtain ⟨rfl, rfl⟩ := Prod.mk.inj h
      clear h e6 e17
      go_enter Try.func18, Try.ntmps18
      go_wp2_with (first | (refine wpList_boxR 31 rfl _ rfl _ rfl ?_; intro b3 w1 l3 R3 hb1; replace l3 := Nat.le_trans hB.size l3; replace hB := hB.trans (hb1.mono hB.size)) | (refine wpList_allocX 6 31 rfl rfl rfl _ flow_zero ?_; intro b6 w2 l6 R6 hb2; have n36 := R3.ne l6; replace l6 := Nat.le_trans hB.size l6; replace R3 := R3.below hb2; replace hB := hB.trans (hb2.mono hB.size)) | (refine wpList_loadF R3 _ rfl rfl _ rfl _ rfl ?_) | (refine wpList_loadR 31 (.tmp 3) rfl rfl b3 rfl (fc k) R3 _ Try.underlying31 rfl (fc_info _) ?_) | (refine wpList_storeR 31 rfl (.tmp 6) _ rfl b6 rfl (fc k) rfl _ R6 rfl (fc_info _) (fc_one _) ?_; intro w6 R6 t6; replace R3 := t6.row R3 n36; replace hB := t6.below _ _ l6 hB))
      ((try simp only [Exit.inBlock, Exit.then]); refine bodyPost_ret (results_row2 (p := 6) (u := 7) rfl _ _ _ _ rfl R6 _ Try.underlying31 rfl (fc_info _)) rfl ⟨rfl, hB⟩)
theorem ret_next {k k' : Fl} {x now : Int} {i : Bool} (h : nextF k x i now = k') : Ending.returned (.agg (fc k')) = .returned (.agg (fc (nextF k x i now))) := by rw [h]
set_option maxRecDepth 10000 in
set_option maxHeartbeats 4000000 in
theorem next_any (k : Fl) (p : Pkt) (inw : Bool) (now : Int) (h0 : 0 ≤ now) (h1 : now ≤ 1099511627776) (w : World) : Calls Try.prog 14 #[.agg (fc k), pv p, .bool inw, .int .i64 now] w fun e w' => e = .returned (.agg (fc (nextF k p.flags inw now))) ∧ Below w.heap.size w w' := by
  have hB := Below.refl w.heap.size w
  obtain ⟨k1, r, hT⟩ : ∃ k1 r, stepF k p.flags inw = (k1, r) := ⟨_, _, rfl⟩
  have CS := fun w => step_is k p.flags inw k1 r hT w
  have CL := fun w => life_any k1.pr k1.st w
  have hww : wrap64 (now + lifeZ k1.pr k1.st) = now + lifeZ k1.pr k1.st := by have := life_bd k1.pr k1.st; unfold wrap64; omega
  unfold pv
  cases r
  · have H : Hid (nextF k p.flags inw now = k1) := by show nextF k p.flags inw now = k1; simp [nextF, hT]
    clear hT h0 h1 hww
    go_enter Try.func14, Try.ntmps14
    go_wp2_with (first | (refine wpList_boxR 31 rfl (.tmp 0) rfl _ rfl ?_; intro b4 w1 l4 R4 hb1; replace l4 := Nat.le_trans hB.size l4; replace hB := hB.trans (hb1.mono hB.size)) | (refine wpList_boxR 23 rfl (.tmp 1) rfl _ rfl ?_; intro b5 w1 l5 R5 hb1; replace R4 := R4.below hb1; replace hB := hB.trans (hb1.mono hB.size)) | (refine wpList_allocX 8 31 rfl rfl rfl _ flow_zero ?_; intro b8 w2 l8 R8 hb2; replace l8 := Nat.le_trans hB.size l8; replace R4 := R4.below hb2; replace R5 := R5.below hb2; replace hB := hB.trans (hb2.mono hB.size)) | (refine wpList_loadF R5 _ rfl rfl _ rfl _ rfl ?_) | (refine wpList_loadR 31 (.tmp 4) rfl rfl b4 rfl (fc k) R4 _ Try.underlying31 rfl (fc_info _) ?_) | (go_at_call 18; go_fit (CS _); rintro e w5 ⟨rfl, hb5⟩; replace R8 := R8.below hb5; clear R4 R5; replace hB := hB.trans (hb5.mono hB.size)) | (refine wpList_allocX 9 31 rfl rfl rfl _ flow_zero ?_; intro b9 w3 l9 R9 hb3; have n89 := R8.ne l9; replace l9 := Nat.le_trans hB.size l9; replace R8 := R8.below hb3; replace hB := hB.trans (hb3.mono hB.size)) | (refine wpList_storeR 31 rfl (.tmp 9) _ rfl b9 rfl (fc k1) rfl _ R9 rfl (fc_info _) (fc_one _) ?_; intro w6 R9 t6; replace R8 := t6.row R8 n89; replace hB := t6.below _ _ l9 hB) | (refine wpList_loadR 31 (.tmp 9) rfl rfl b9 rfl (fc k1) R9 _ Try.underlying31 rfl (fc_info _) ?_) | (refine wpList_storeR 31 rfl (.tmp 8) _ rfl b8 rfl (fc k1) rfl _ R8 rfl (fc_info _) (fc_one _) ?_; intro w7 R8 t7; replace hB := t7.below _ _ l8 hB))
    ((try simp only [Exit.inBlock, Exit.then]); refine bodyPost_ret (results_row1 (p := 8) rfl _ _ _ _ rfl R8 _ Try.underlying31 rfl (fc_info _)) rfl ⟨ret_next H.out, hB⟩)
  · have H : Hid (nextF k p.flags inw now = { k1 with du := now + lifeZ k1.pr k1.st }) := by show nextF k p.flags inw now = { k1 with du := now + lifeZ k1.pr k1.st }; simp [nextF, hT]
    clear hT h0 h1
    go_enter Try.func14, Try.ntmps14
    go_wp2_with (first | (refine wpList_boxR 31 rfl (.tmp 0) rfl _ rfl ?_; intro b4 w1 l4 R4 hb1; replace l4 := Nat.le_trans hB.size l4; replace hB := hB.trans (hb1.mono hB.size)) | (refine wpList_boxR 23 rfl (.tmp 1) rfl _ rfl ?_; intro b5 w1 l5 R5 hb1; replace R4 := R4.below hb1; replace hB := hB.trans (hb1.mono hB.size)) | (refine wpList_allocX 8 31 rfl rfl rfl _ flow_zero ?_; intro b8 w2 l8 R8 hb2; replace l8 := Nat.le_trans hB.size l8; replace R4 := R4.below hb2; replace R5 := R5.below hb2; replace hB := hB.trans (hb2.mono hB.size)) | (refine wpList_loadF R5 _ rfl rfl _ rfl _ rfl ?_) | (refine wpList_loadR 31 (.tmp 4) rfl rfl b4 rfl (fc k) R4 _ Try.underlying31 rfl (fc_info _) ?_) | (go_at_call 18; go_fit (CS _); rintro e w5 ⟨rfl, hb5⟩; replace R8 := R8.below hb5; clear R4 R5; replace hB := hB.trans (hb5.mono hB.size)) | (refine wpList_allocX 9 31 rfl rfl rfl _ flow_zero ?_; intro b9 w3 l9 R9 hb3; have n89 := R8.ne l9; replace l9 := Nat.le_trans hB.size l9; replace R8 := R8.below hb3; replace hB := hB.trans (hb3.mono hB.size)) | (refine wpList_storeR 31 rfl (.tmp 9) _ rfl b9 rfl (fc k1) rfl _ R9 rfl (fc_info _) (fc_one _) ?_; intro w6 R9 t6; replace R8 := t6.row R8 n89; replace hB := t6.below _ _ l9 hB) | (refine wpList_loadF R9 _ rfl rfl _ rfl _ rfl ?_) | (go_at_call 12; go_fit (CL _); rintro e w' ⟨rfl, hw⟩; rw [hw]; clear hw w') | (refine wpList_storeF R9 rfl _ _ rfl _ rfl _ rfl _ rfl (fc { k1 with du := now + lifeZ k1.pr k1.st }) (by first | rfl | (rw [hww]; rfl)) ?_; intro w4 R9 t4; replace R8 := t4.row R8 n89; replace hB := t4.below _ _ l9 hB) | (refine wpList_loadR 31 (.tmp 9) rfl rfl b9 rfl (fc { k1 with du := now + lifeZ k1.pr k1.st }) R9 _ Try.underlying31 rfl (fc_info _) ?_) | (refine wpList_storeR 31 rfl (.tmp 8) _ rfl b8 rfl (fc { k1 with du := now + lifeZ k1.pr k1.st }) rfl _ R8 rfl (fc_info _) (fc_one _) ?_; intro w7 R8 t7; replace hB := t7.below _ _ l8 hB))
    ((try simp only [Exit.inBlock, Exit.then]); refine bodyPost_ret (results_row1 (p := 8) rfl _ _ _ _ rfl R8 _ Try.underlying31 rfl (fc_info _)) rfl ⟨ret_next H.out, hB⟩)
end Go.Proofs.Ythflhaanndnejaf
