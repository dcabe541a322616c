/-
  The document's flow: what is written through a closure.
-/
import Derived.Test.YthflhaanndnejaeTrackD
namespace Go.Proofs.Ythflhaanndnejae
open Go.ChangeShapes Go.WideShapes Go.ChangeAt Go.RowKit
set_option linter.unusedSimpArgs false
set_option linter.unusedVariables false

/-- what has turned from one world to the next is one block and new ones. -/
structure Later (b : Nat) (w w' : World) : Prop where
  size : w.heap.size ≤ w'.heap.size
  other : ∀ r, r ≠ b → r < w.heap.size → w'.heap[r]? = w.heap[r]?
  below : ∀ B w0, B ≤ b → Below B w0 w → Below B w0 w'
theorem Later.refl (b : Nat) (w : World) : Later b w w := ⟨Nat.le_refl _, fun _ _ _ => rfl, fun _ _ _ h => h⟩
theorem Later.grow {b : Nat} {w w1 w2 : World} (h : Later b w w1) (hlt : b < w.heap.size) (hb : Below w1.heap.size w1 w2) : Later b w w2 :=
  ⟨Nat.le_trans h.size hb.size, fun r hr hl => (hb.block r (Nat.lt_of_lt_of_le hl h.size)).trans (h.other r hr hl), fun B w0 hB h0 => (h.below B w0 hB h0).trans (hb.mono (Nat.le_trans (Nat.le_of_lt (Nat.lt_of_le_of_lt hB hlt)) h.size))⟩
theorem Later.turn {b : Nat} {w w1 w2 : World} (h : Later b w w1) (t : Turned b w1 w2) : Later b w w2 :=
  ⟨t.size ▸ h.size, fun r hr hl => (t.other r hr).trans (h.other r hr hl), fun B w0 hB h0 => t.below B w0 hB (h.below B w0 hB h0)⟩
theorem Later.turnNew {b c : Nat} {w w1 w2 : World} (h : Later b w w1) (hlt : b < w.heap.size) (t : Turned c w1 w2) (hc : w.heap.size ≤ c) : Later b w w2 :=
  ⟨t.size ▸ h.size, fun r hr hl => (t.other r (Nat.ne_of_lt (Nat.lt_of_lt_of_le hl hc))).trans (h.other r hr hl), fun B w0 hB h0 => t.below B w0 (Nat.le_trans (Nat.le_of_lt (Nat.lt_of_le_of_lt hB hlt)) hc) (h.below B w0 hB h0)⟩
theorem Later.drew {b : Nat} {w w1 : World} (h : Later b w w1) : Later b w w1.drew := ⟨h.size, h.other, fun B w0 hB h0 => below_drewG (h.below B w0 hB h0)⟩
theorem Later.row {b r : Nat} {w w' : World} {t : TypeId} {cs : Array Value} (h : Later b w w') (R : Row t w r cs) (hne : r ≠ b) : Row t w' r cs := (h.other r hne R.lt).trans R
theorem wp_storeF {o : Oper} {a : Act} {w : World} {K : Act → World → Prop} {Q : Exit → Act → World → Prop} {t : TypeId} {b : Nat} {cs : Array Value} (R : Row t w b cs) (x y : Operand) (ho : o.op = .store 3 x y)
    (f : Nat) (hx : a.eval x = .pointer (some ⟨b, f, none⟩)) (n : Int) (hy : a.eval y = .int .i64 n) (m : Int) (hc : cs[f]? = some (.int .i64 m)) (ds : Array Value) (hd : cs.setIfInBounds f (.int .i64 n) = ds)
    (hr : ∀ w', Row t w' b ds → Turned b w w' → K (a.put o.dst undef) w') : o.wp Try.prog a w K Q := by
  have hcell := (R.cell f).trans hc
  have hfr := R.free f
  unfold Oper.wp execOp
  simp only [ho, hx, hy]
  simp [go_sem, hcell, hfr, Try.underlying3]
  exact hr _ (hd ▸ R.set) (turned_cell _ _ _ _)
theorem wpList_boxI {ops : Array Oper} {rest : List Oper} {o : Oper} {a : Act} {w : World} {Q : Exit → Act → World → Prop} (hgd : o.guard = none) (x : Operand) (ho : o.op = .box 3 x) (n : Int) (hx : a.eval x = .int .i64 n)
    (hr : ∀ b w', w.heap.size ≤ b → Row 3 w' b #[.int .i64 n] → Below w.heap.size w w' → wpList Try.prog ops Q rest (a.put o.dst (.pointer (some ⟨b, 0, none⟩))) w') : wpList Try.prog ops Q (o :: rest) a w :=
  wpList_plain hgd fun K hK => by
    have h' := hr w.heap.size (w.alloc (.cells #[.int .i64 n] 3)) (Nat.le_refl _) (Row.new 3 w _) ((Below.refl _ _).alloc (Nat.le_refl _) _)
    unfold Oper.wp execOp
    simp only [ho, hx, Instr.box, newVar, Value.cells]
    simp [go_sem]
    exact hK _ _ h'
set_option maxRecDepth 10000 in
set_option maxHeartbeats 4000000 in
theorem later_any (k : Fl) (s now : Int) (h0 : 0 ≤ now) (h1 : now ≤ 1099511627776) (b4 b7 : Nat) (w : World) (R4 : Row 55 w b4 (fc k)) (R7 : Row 3 w b7 #[.int .i64 now]) (n74 : b7 ≠ b4) :
    Calls Try.prog 57 #[.int .i64 s, .pointer (some ⟨b4, 0, none⟩), .pointer (some ⟨b7, 0, none⟩)] w fun e w' => e = .returned (.agg (fc { k with st := s, du := now + lifeZ k.pr s })) ∧ Row 55 w' b4 (fc { k with st := s, du := now + lifeZ k.pr s }) ∧ Later b4 w w' := by
  have L := Later.refl b4 w
  have hlt := R4.lt
  have hww : wrap64 (now + lifeZ k.pr s) = now + lifeZ k.pr s := by have := life_bd k.pr s; unfold wrap64; omega
  have hwi : IntKind.i64.wrap (now + lifeZ k.pr s) = now + lifeZ k.pr s := by have := life_bd k.pr s; simp [IntKind.wrap, IntKind.bits, IntKind.signed]; omega
  clear h0 h1
  go_enter Try.func57, Try.ntmps57
  go_wp2_with (first | (refine wpList_allocX 4 55 rfl rfl rfl _ flow_zero ?_; intro bN w2 lN RN hb2; have nN : bN ≠ b4 := (R4.ne lN).symm; replace lN := Nat.le_trans L.size lN; replace R4 := R4.below hb2; replace R7 := R7.below hb2; replace L := L.grow hlt hb2) | (refine wpList_storeF R4 rfl _ _ rfl _ rfl _ rfl _ rfl (fc { k with st := s }) rfl ?_; intro w4 R4 t4; replace R7 := t4.row R7 n74; replace RN := t4.row RN nN; replace L := L.turn t4))
  refine wp_region_noPanic ?_
  refine wp_region_held_drew (S := fun W => W.cell? ⟨b4, 0, none⟩ = some (.int .i64 k.pr) ∧ W.cell? ⟨b7, 0, none⟩ = some (.int .i64 now)) (by kernel_rfl) ⟨(R4.cell 0).trans rfl, (R7.cell 0).trans rfl⟩ (fun _ => ?_)
  refine wpAnyH_take (i := 0) (v := .int .i64 now) rfl (by kernel_rfl) (by kernel_rfl) (by kernel_rfl) (fun _ _ _ h => h) (Or.inl ⟨by kernel_rfl, by intro w hS; have hc := hS.2; go_simp⟩) ⟨(R4.cell 0).trans rfl, (R7.cell 0).trans rfl⟩ ?_
  simp only [Act.put, List.getElem_toArray, List.getElem_cons_succ, List.getElem_cons_zero, List.setIfInBounds_toArray, List.set_cons_zero, List.set_cons_succ]
  refine wpAnyH_take (i := 1) (v := .pointer (some ⟨b4, 0, none⟩)) rfl (by kernel_rfl) (by kernel_rfl) (by kernel_rfl) (fun _ _ _ h => h) (Or.inl ⟨by kernel_rfl, by intro w hS; go_simp⟩) ⟨(R4.cell 0).trans rfl, (R7.cell 0).trans rfl⟩ ?_
  simp only [Act.put, List.getElem_toArray, List.getElem_cons_succ, List.getElem_cons_zero, List.setIfInBounds_toArray, List.set_cons_zero, List.set_cons_succ]
  refine wpAnyH_take (i := 2) (v := .pointer (some ⟨b4, 0, none⟩)) rfl (by kernel_rfl) (by kernel_rfl) (by kernel_rfl) (fun _ _ _ h => h) (Or.inl ⟨by kernel_rfl, by intro w hS; go_simp⟩) ⟨(R4.cell 0).trans rfl, (R7.cell 0).trans rfl⟩ ?_
  simp only [Act.put, List.getElem_toArray, List.getElem_cons_succ, List.getElem_cons_zero, List.setIfInBounds_toArray, List.set_cons_zero, List.set_cons_succ]
  refine wpAnyH_take (i := 3) (v := .int .i64 k.pr) rfl (by kernel_rfl) (by kernel_rfl) (by kernel_rfl) (fun _ _ _ h => h) (Or.inl ⟨by kernel_rfl, by intro w hS; have hc := hS.1; go_simp⟩) ⟨(R4.cell 0).trans rfl, (R7.cell 0).trans rfl⟩ ?_
  simp only [Act.put, List.getElem_toArray, List.getElem_cons_succ, List.getElem_cons_zero, List.setIfInBounds_toArray, List.set_cons_zero, List.set_cons_succ]
  refine wpAnyH_take (i := 4) (v := .int .i64 s) rfl (by kernel_rfl) (by kernel_rfl) (by kernel_rfl) (fun _ _ _ h => h) (Or.inl ⟨by kernel_rfl, by intro w hS; go_simp⟩) ⟨(R4.cell 0).trans rfl, (R7.cell 0).trans rfl⟩ ?_
  simp only [Act.put, List.getElem_toArray, List.getElem_cons_succ, List.getElem_cons_zero, List.setIfInBounds_toArray, List.set_cons_zero, List.set_cons_succ]
  refine wpAnyH_ready (rs := [5]) (by kernel_rfl) (by simp) ?_
  refine AllReadyH.cons rfl (fun K hK => ?_) ?_
  · go_simp
    go_at_call 28; refine (lifeRef_any k.pr s _).mono ?_; rintro e w5 ⟨rfl, hw⟩; rw [hw]; clear hw w5
    go_wp2_with fail
    refine hK.out _ _ ⟨(R4.cell 0).trans rfl, (R7.cell 0).trans rfl⟩ (fun _ => ?_)
    clear hK K
    try simp only [Act.put, List.getElem_toArray, List.getElem_cons_succ, List.getElem_cons_zero, List.setIfInBounds_toArray, List.set_cons_zero, List.set_cons_succ]
    refine wpAnyH_take (i := 6) (v := .int .i64 (now + lifeZ k.pr s)) rfl (by kernel_rfl) (by kernel_rfl) (by kernel_rfl) (fun _ _ _ h => h) (Or.inl ⟨by kernel_rfl, by intro w hS; go_simp⟩) ⟨(R4.cell 0).trans rfl, (R7.cell 0).trans rfl⟩ ?_
    simp only [Act.put, List.getElem_toArray, List.getElem_cons_succ, List.getElem_cons_zero, List.setIfInBounds_toArray, List.set_cons_zero, List.set_cons_succ]
    refine wpAnyH_take (i := 7) (v := .pointer (some ⟨b4, 9, none⟩)) rfl (by kernel_rfl) (by kernel_rfl) (by kernel_rfl) (fun _ _ _ h => h) (Or.inl ⟨by kernel_rfl, by intro w hS; go_simp⟩) ⟨(R4.cell 0).trans rfl, (R7.cell 0).trans rfl⟩ ?_
    simp only [Act.put, List.getElem_toArray, List.getElem_cons_succ, List.getElem_cons_zero, List.setIfInBounds_toArray, List.set_cons_zero, List.set_cons_succ]
    refine wpAnyH_ready (rs := [8]) (by kernel_rfl) (by simp) ?_
    refine AllReadyH.cons rfl (fun K hK => ?_) ?_
    · rw [if_pos (by kernel_rfl)]
      refine wp_storeF R4 (.tmp 14) (.tmp 13) rfl 9 rfl (now + lifeZ k.pr s) rfl _ rfl (fc { k with st := s, du := now + lifeZ k.pr s }) rfl ?_; intro w10 R4 t10; replace R7 := t10.row R7 n74; replace RN := t10.row RN nN; (first | replace L := L.turn t10 | replace L := L.drew.turn t10)
      refine hK.out _ _ ⟨(R4.cell 0).trans rfl, (R7.cell 0).trans rfl⟩ (fun _ => ?_)
      clear hK K
      try simp only [Act.put, List.getElem_toArray, List.getElem_cons_succ, List.getElem_cons_zero, List.setIfInBounds_toArray, List.set_cons_zero, List.set_cons_succ]
      refine wpAnyH_done (by kernel_rfl) ?_ _
      refine NoPanic.normal ?_
      go_wp2_with (first | (refine wpList_loadR 55 (.tmp 1) rfl rfl b4 rfl (fc { k with st := s, du := now + lifeZ k.pr s }) R4 _ Try.underlying55 rfl (fc_info _) ?_) | (refine wpList_storeR 55 rfl (.tmp 4) _ rfl bN rfl (fc { k with st := s, du := now + lifeZ k.pr s }) rfl _ RN rfl (fc_info _) (fc_one _) ?_; intro w7 RN t7; replace R4 := t7.row R4 nN.symm; replace L := L.turnNew hlt t7 lN))
      ((try simp only [Exit.inBlock, Exit.then]); refine bodyPost_ret (results_row1 (p := 4) rfl _ _ _ _ rfl RN _ Try.underlying55 rfl (fc_info _)) rfl ⟨rfl, R4, L⟩)
    exact AllReadyH.nil
  exact AllReadyH.nil
theorem next_rst (k : Fl) (x now : Int) (i : Bool) (e6 : k.pr = 6) (h4 : has x 4 = true) (e4 : k.st = 4) : nextF k x i now = k := by
  obtain ⟨c0, c1, c2, c3, c4, c5, c6, c7, c8, c9⟩ := k
  simp only at e6 e4
  subst e6 e4
  simp [nextF, stepF, stepT, h4]
/-- a packet's cells. -/
def pcl (p : Pkt) : Array Value := #[.int .i64 p.proto, .int .i64 p.src, .int .i64 p.sport, .int .i64 p.dst, .int .i64 p.dport, .int .i64 p.ttl, .int .i64 p.id, .int .i64 p.flags, .int .i64 p.seq, .int .i64 p.ack, .int .i64 p.win, .string p.body]
theorem pv_pcl (p : Pkt) : pv p = .agg (pcl p) := rfl
theorem pcl_info (p : Pkt) : (Try.prog.info? 57).map (·.size) = some (pcl p).size := by kernel_rfl
theorem pcl_one (p : Pkt) : (pcl p).all (·.oneCell') = true := by kernel_rfl
theorem hasRef_is (x : Int) (b : Nat) (hb : 63 &&& b = b) (hl : b < 64) (r : Bool) (h : has x b = r) (q : Nat) (w : World) (p : Pkt) (R : Row 57 w q (pcl p)) (hx : p.flags = x) : Calls Try.prog 56 #[.int .i64 (b : Int), .pointer (some ⟨q, 0, none⟩)] w fun e w' => e = .returned (.bool r) ∧ w' = w := by
  subst hx
  rw [← h]
  exact hasRef_any p.flags b hb hl q w _ R rfl
end Go.Proofs.Ythflhaanndnejae
