/-
  Of what BindCloses, BindOpens stands on: part 29.
-/
import Derived.Test.YtmdijjbkjcnbpaaBindCO27
import Derived.Test.YtmdijjbkjcnbpaaBindCO28
namespace Go.Proofs.Ytmdijjbkjcnbpaa
open Go.ChangeShapes Go.WideShapes Go.ChangeAt Go.RowKit
set_option linter.unusedSimpArgs false
set_option linter.unusedVariables false

theorem leftN_any {f h : Nat → Int} {l : List Mp} {m : Mp} (hall : ∀ o ∈ l, Stands f h o) (hs : Stands f h m) : leftN l m (blkQ m.2.2.2.2) = 0 ↔ l.any (fun o => placeM o == placeM m) = false := by
  have key : ∀ o ∈ l, (o.2.2.2.1 == m.2.2.2.1 && blkQ o.2.2.2.2 == blkQ m.2.2.2.2) = (placeM o == placeM m) := by
    intro o ho
    have so := hall o ho
    have := placeN_inj so.2.2.2.2.1 so.2.2.2.1 hs.2.2.2.2.1 hs.2.2.2.1
    rw [Bool.eq_iff_iff, Bool.and_eq_true, beq_iff_eq, beq_iff_eq, beq_iff_eq]
    unfold blkQ placeM
    exact this.symm
  unfold leftN
  rw [List.length_eq_zero_iff, List.filter_eq_nil_iff, List.any_eq_false]
  constructor
  · intro hh o ho; rw [← key o ho]; exact hh o ho
  · intro hh o ho; rw [key o ho]; exact hh o ho
/-- some owner among the first of a row is that one. -/
def anyR (F : Nat → Int) (a k : Nat) (s : Int) : Bool := (List.range k).any fun i => F (6 * a + i) == s + 1
theorem anyR_step (F : Nat → Int) (a k : Nat) (s : Int) : anyR F a (k + 1) s = (anyR F a k s || F (6 * a + k) == s + 1) := by
  unfold anyR; rw [List.range_succ, List.any_append]; simp
theorem row_blocks {f h : Nat → Int} {ms : List Mp} {m : Mp} (G : GoodT f h ms) (hm : m ∈ ms) : anyR (closeF f m) m.2.2.2.1.toNat 6 m.2.1 = true ↔ (blocksL (closeF f m) m.2.1).length ≠ 0 := by
  have st := G.maps.1 m hm
  unfold anyR
  rw [List.any_eq_true, Nat.ne_zero_iff_zero_lt, List.length_pos_iff_exists_mem]
  constructor
  · rintro ⟨i, hi, e⟩
    have hi6 : i < 6 := by simpa using hi
    refine ⟨6 * m.2.2.2.1.toNat + i, (blocksL_mem _ _ _).2 ⟨by have := st.2.2.2.2.1; omega, by simpa using e⟩⟩
  · rintro ⟨k, hk⟩
    rw [blocksL_mem] at hk
    have hf : f k = m.2.1 + 1 := by
      have h2 := hk.2
      unfold closeF upd at h2
      split at h2
      · have := st.2.1.1; omega
      · exact h2
    have ha := G.at st.2.1 ((blocksL_mem f m.2.1 k).2 ⟨hk.1, hf⟩)
    rw [st.2.2.2.2.2.1] at ha
    refine ⟨k % 6, by simp; omega, ?_⟩
    rw [show 6 * m.2.2.2.1.toNat + k % 6 = k by omega]
    simpa using hk.2
theorem Row.six {w : World} {b : Nat} {f : Nat → Int} {g : Nat → Bool} {h : Nat → Int} {sl : Value} (R : Row 30 w b (tc f g h sl)) {a : Nat} (ha : a < 3) : w.rangeAt b (6 * a) (r6 (rowF f a)).toList := R.range (fun j v hv => by
  have hj : j < 6 := (List.getElem?_eq_some_iff.1 hv).1
  have e : v = .int .i64 (rowF f a j) := by
    rcases (show j = 0 ∨ j = 1 ∨ j = 2 ∨ j = 3 ∨ j = 4 ∨ j = 5 by omega) with rfl | rfl | rfl | rfl | rfl | rfl <;> exact (Option.some.inj hv).symm
  subst e
  exact tc_own f g h sl (6 * a + j) (by omega))
theorem r6l_info (h : Nat → Int) : (Try.prog.info? 22).map (·.size) = some (r6 h).toList.length := by kernel_rfl
theorem r6_back (h : Nat → Int) : (r6 h).toList.toArray = r6 h := rfl
theorem meas_six {k : Nat} (h : k < 6) : 6 - ((k : Int) + 1).toNat < 6 - ((k : Int)).toNat := by omega
def closedTo (w : World) (f : Nat → Int) (g : Nat → Bool) (h : Nat → Int) (sl : Value) (ms : List Mp) (m : Mp) (w' : World) (e : Ending) : Prop :=
  (m ∉ ms → e = .returned (.tuple #[.agg (tc f g h sl), .bool false, .int .i64 7])) ∧
  (m ∈ ms → ∃ v, MapsAt w' v (dropM ms m) ∧ (0 < (dropM ms m).length → w.heap.size ≤ mb v) ∧ ((dropM ms m).any (fun o => placeM o == placeM m) = true → e = .returned (.tuple #[.agg (tc f g h v), .bool false, .int .i64 0])) ∧
    ((dropM ms m).any (fun o => placeM o == placeM m) = false → e = .returned (.tuple #[.agg (tc (closeF f m) g (closeH f h m) v), .bool true, .int .i64 0])))
attribute [local irreducible] tc pc
set_option maxRecDepth 1000000 in
set_option maxHeartbeats 8000000 in
theorem closeMap_good (f : Nat → Int) (g : Nat → Bool) (h : Nat → Int) (sl : Value) (ms : List Mp) (m : Mp) (CG : ∀ w, MapsAt w sl ms → Calls Try.prog 15 #[.agg (tc f g h sl)] w fun e w' => ∃ r : Bool, (r = true ↔ GoodT f h ms) ∧ e = .returned (.bool r) ∧ Below w.heap.size w w') (hG : GoodT f h ms) (w : World) (hM : MapsAt w sl ms) :
    Calls Try.prog 21 #[.agg (tc f g h sl), .agg (mc m)] w fun e w' => closedTo w f g h sl ms m w' e ∧ Below w.heap.size w w' := by
  have B := Bd.start w
  have hM0 := hM
  obtain ⟨a0, cap, hsl, -⟩ := hM0
  obtain ⟨n, hn⟩ : ∃ n, n = ms.length := ⟨_, rfl⟩
  have HN : Hid (n = ms.length) := hn
  rw [← hn] at hsl
  subst hsl
  clear hn
  have hlt := hM.lt
  have HG : Hid (GoodT f h ms) := hG
  obtain ⟨i0, hi, hz0, hz1, hz2⟩ := info_parts info_map
  have hl9 : ms.length ≤ 1000 := Nat.le_trans hG.len (by decide)
  obtain ⟨kb, ki, kf, CBm, HKB⟩ : ∃ (kb ki : Int) (kf : Bool), (∀ w, Calls Try.prog 13 #[.int .i64 m.2.2.2.2] w fun e w' => e = .returned (.tuple #[.int .i64 kb, .int .i64 ki, .bool kf]) ∧ w' = w) ∧ Hid (1024 ≤ m.2.2.2.2 ∧ m.2.2.2.2 < 1072 → kb = blkQ m.2.2.2.2) := by
    by_cases hq : 1024 ≤ m.2.2.2.2 ∧ m.2.2.2.2 < 1072
    · exact ⟨_, _, _, fun w => blockOf_in _ w hq, hidB fun _ => rfl⟩
    · exact ⟨_, _, _, fun w => blockOf_out _ w hq, hidB fun h => absurd h hq⟩
  clear hG
  go_enter Try.func21, Try.ntmps21
  go_wp2_with (first | ((with_reducible refine at_opB (.box 30 (.tmp 0)) rfl ?_); refine wpList_boxR 30 rfl (.tmp 0) rfl _ rfl ?_; intro b2 w9 l9 R9 h9; replace B := B.alloc l9 R9 h9; clear R9 h9 l9) | ((with_reducible refine at_opB (.box 32 (.tmp 1)) rfl ?_); refine wpList_boxR 32 rfl (.tmp 1) rfl (mc m) rfl ?_; intro b3 w9 l9 R9 h9; replace B := B.alloc l9 R9 h9; clear R9 h9 l9) | ((with_reducible refine at_opB (.alloc 30) rfl ?_); refine wpList_allocX 4 30 rfl rfl rfl _ table_zero ?_; intro b4 w9 l9 R9 h9; replace B := B.alloc l9 R9 h9; clear R9 h9 l9) | ((with_reducible refine at_opB (.load 30 (.tmp 2)) rfl ?_); refine wpList_loadR 30 (.tmp 2) rfl (by kernel_rfl) b2 rfl (tc f g h (.slice a0 n cap)) (B.row 2 rfl) _ Try.underlying30 rfl (tc_info _ _ _ _) ?_) | (go_at_call 15; go_fit (CG _ (hM.keep B.base hlt)); rintro e w5 ⟨r, hr, rfl, hb5⟩; obtain rfl : r = true := (hr.2 HG.out); clear hr; replace B := B.below hb5; clear hb5) | ((with_reducible refine at_opB (.alloc 30) rfl ?_); refine wpList_allocX 7 30 rfl rfl rfl _ table_zero ?_; intro b7 w9 l9 R9 h9; replace B := B.alloc l9 R9 h9; clear R9 h9 l9) | ((with_reducible refine at_opB (.store 30 (.tmp 7) (.tmp 25)) rfl ?_); refine wpList_storeR 30 rfl (.tmp 7) _ rfl b7 rfl (tc f g h (.slice a0 n cap)) rfl _ (B.row 0 rfl) (tc_sz _ _ _ _ _ _ _ _) (tc_info _ _ _ _) (tc_one _ _ _ _ _ _) ?_; intro w9 R9 t9; replace B := B.turn 0 rfl R9 t9; clear R9 t9) | ((with_reducible refine at_opB (.store 28 (.tmp 26) (.const (.slice none 0 0))) rfl ?_); refine wpList_storeV (B.row 0 rfl) rfl _ _ rfl 29 rfl _ _ _ rfl _ (tc_maps _ _ _ _) (tc f g h (.slice none 0 0)) (tc_setM _ _ _ _ _) ?_; intro w9 R9 t9; replace B := B.turn 0 rfl R9 t9; clear R9 t9; have cM : World.cell? _ ⟨b2, 29, none⟩ = some (.slice a0 n cap) := ((B.row 3 rfl).cell 29).trans (tc_maps _ _ _ _)) | ((with_reducible refine at_opB (.load 3 (.tmp 28)) rfl ?_); refine wpList_loadF (B.row 2 rfl) _ rfl (by kernel_rfl) 4 rfl (m.2.2.2.2) rfl ?_) | (go_at_call 13; go_fit (CBm _); rintro e w6 ⟨rfl, hw⟩; rw [hw]; clear hw w6))
  clear cM CBm
  refine wp_loop (WC w f g h ms m kb b2 b3 b4 b7 a0 n cap) (WCmu n) ?_ ?_
  · unfold WC
    (repeat apply Exists.intro)
    refine ⟨?_, rfl⟩
    exact ⟨0, .slice none 0 0, by omega, rfl, by simp [dropM, leftN], by simp, by simpa [dropM] using B.bo⟩
  · clear B
    intro a W hI
    unfold WC at hI
    obtain ⟨u5, hI⟩ := hI
    obtain ⟨u6, hI⟩ := hI
    obtain ⟨u9, hI⟩ := hI
    obtain ⟨u10, hI⟩ := hI
    obtain ⟨u11, hI⟩ := hI
    obtain ⟨u12, hI⟩ := hI
    obtain ⟨u13, hI⟩ := hI
    obtain ⟨u14, hI⟩ := hI
    obtain ⟨u15, hI⟩ := hI
    obtain ⟨u16, hI⟩ := hI
    obtain ⟨u17, hI⟩ := hI
    obtain ⟨u18, hI⟩ := hI
    obtain ⟨u19, hI⟩ := hI
    obtain ⟨u20, hI⟩ := hI
    obtain ⟨u21, hI⟩ := hI
    obtain ⟨u22, hI⟩ := hI
    obtain ⟨u23, hI⟩ := hI
    obtain ⟨u24, hI⟩ := hI
    obtain ⟨u25, hI⟩ := hI
    obtain ⟨u26, hI⟩ := hI
    obtain ⟨u27, hI⟩ := hI
    obtain ⟨u28, hI⟩ := hI
    obtain ⟨u29, hI⟩ := hI
    obtain ⟨u30, hI⟩ := hI
    obtain ⟨u31, hI⟩ := hI
    obtain ⟨u32, hI⟩ := hI
    obtain ⟨u33, hI⟩ := hI
    obtain ⟨u34, hI⟩ := hI
    obtain ⟨u37, hI⟩ := hI
    obtain ⟨u38, hI⟩ := hI
    obtain ⟨u39, hI⟩ := hI
    obtain ⟨u40, hI⟩ := hI
    obtain ⟨u41, hI⟩ := hI
    obtain ⟨u42, hI⟩ := hI
    obtain ⟨u43, hI⟩ := hI
    obtain ⟨u44, hI⟩ := hI
    obtain ⟨u45, hI⟩ := hI
    obtain ⟨u46, hI⟩ := hI
    obtain ⟨u47, hI⟩ := hI
    obtain ⟨u48, hI⟩ := hI
    obtain ⟨u49, hI⟩ := hI
    obtain ⟨u50, hI⟩ := hI
    obtain ⟨u51, hI⟩ := hI
    obtain ⟨u52, hI⟩ := hI
    obtain ⟨u53, hI⟩ := hI
    obtain ⟨u54, hI⟩ := hI
    obtain ⟨u55, hI⟩ := hI
    obtain ⟨u56, hI⟩ := hI
    obtain ⟨u57, hI⟩ := hI
    obtain ⟨u58, hI⟩ := hI
    obtain ⟨u59, hI⟩ := hI
    obtain ⟨u60, hI⟩ := hI
    obtain ⟨u61, hI⟩ := hI
    obtain ⟨u62, hI⟩ := hI
    obtain ⟨u63, hI⟩ := hI
    obtain ⟨u64, hI⟩ := hI
    obtain ⟨u65, hI⟩ := hI
    obtain ⟨u66, hI⟩ := hI
    obtain ⟨u67, hI⟩ := hI
    obtain ⟨u68, hI⟩ := hI
    obtain ⟨u69, hI⟩ := hI
    obtain ⟨u70, hI⟩ := hI
    obtain ⟨u71, hI⟩ := hI
    obtain ⟨u72, hI⟩ := hI
    obtain ⟨u73, hI⟩ := hI
    obtain ⟨u74, hI⟩ := hI
    obtain ⟨u75, hI⟩ := hI
    obtain ⟨u76, hI⟩ := hI
    obtain ⟨u77, hI⟩ := hI
    obtain ⟨u78, hI⟩ := hI
    obtain ⟨u79, hI⟩ := hI
    obtain ⟨u80, hI⟩ := hI
    obtain ⟨u81, hI⟩ := hI
    obtain ⟨u82, hI⟩ := hI
    obtain ⟨u83, hI⟩ := hI
    obtain ⟨u84, hI⟩ := hI
    obtain ⟨u85, hI⟩ := hI
    obtain ⟨u86, hI⟩ := hI
    obtain ⟨u87, hI⟩ := hI
    obtain ⟨u88, hI⟩ := hI
    obtain ⟨u89, hI⟩ := hI
    obtain ⟨u90, hI⟩ := hI
    obtain ⟨u91, hI⟩ := hI
    obtain ⟨u92, hI⟩ := hI
    obtain ⟨u93, hI⟩ := hI
    obtain ⟨u94, hI⟩ := hI
    obtain ⟨u95, hI⟩ := hI
    obtain ⟨u96, hI⟩ := hI
    obtain ⟨u97, hI⟩ := hI
    obtain ⟨u98, hI⟩ := hI
    obtain ⟨u99, hI⟩ := hI
    obtain ⟨u100, hI⟩ := hI
    obtain ⟨u101, hI⟩ := hI
    obtain ⟨u102, hI⟩ := hI
    obtain ⟨u103, hI⟩ := hI
    obtain ⟨u104, hI⟩ := hI
    obtain ⟨u105, hI⟩ := hI
    obtain ⟨u106, hI⟩ := hI
    obtain ⟨u107, hI⟩ := hI
    obtain ⟨hrel, rfl⟩ := hI
    obtain ⟨j, v, hj, rfl, rfl, rfl, B⟩ := hrel
    by_cases hlj : j < ms.length
    · obtain ⟨q, hm⟩ : ∃ q, ms[j] = q := ⟨_, rfl⟩
      have hst := dropM_step (m := m) hlj hm
      have hme := mem_step (m := m) hlj hm
      have hdl := dropM_le ms m j
      have hqs := HG.out.maps.1 q (hm ▸ List.getElem_mem hlj)
      obtain ⟨D, hD⟩ : ∃ D, D = dropM (ms.take j) m := ⟨_, rfl⟩
      obtain ⟨th, hth⟩ : ∃ th, th = decide (m ∈ ms.take j) := ⟨_, rfl⟩
      obtain ⟨lv, hlv⟩ : ∃ lv : Nat, lv = leftN D m kb := ⟨_, rfl⟩
      have hlv2 : lv ≤ 1000 := by have := left_le D m kb; have := hD ▸ hdl; omega
      rw [← hD] at B hst hdl
      rw [← hD, ← hth, ← hlv]
      rw [← hth] at hme
      obtain ⟨ao, co, hv⟩ := row_slice2 B.own
      obtain ⟨dl, hdl0⟩ : ∃ dl, Hid (dl = D.length) := ⟨_, rfl⟩
      rw [← hdl0.out] at hv
      subst hv
      have CBq := fun w => blockOf_in q.2.2.2.2 w hqs.2.2.2.1
      have hdl2 : dl ≤ 1000 := by have := hdl0.out; omega
      by_cases hqm : q = m
      · rw [if_pos hqm, List.append_nil] at hst
        exact cl_c0 u5 u6 u9 u10 u13 u14 u15 u16 u17 u18 u19 u20 u21 u22 u23 u24 u25 u26 u27 u28 u29 u30 u31 u32 u33 u34 u38 u39 u40 u41 u42 u43 u44 u45 u46 u47 u48 u49 u50 u51 u52 u53 u54 u55 u56 u57 u58 u59 u60 u61 u62 u63 u64 u65 u66 u67 u68 u69 u70 u71 u72 u73 u74 u75 u76 u77 u78 u79 u80 u81 u82 u83 u84 u85 u86 u87 u88 u89 u90 u91 u92 u93 u94 u95 u96 u97 u98 u99 u100 u101 u102 u103 u104 u105 u106 u107 j B hdl0 HN hM hlj hm hdl2 hlv2 (fun w => by rw [eq_map]; simp [hqm]) hst (hidB (by rw [hme]; simp [hqm])) hlv.symm _
      · rw [if_neg hqm] at hst
        have HTH : Hid (decide (m ∈ ms.take (j + 1)) = th) := hidB (by rw [hme]; simp [hqm])
        have EQ : ∀ w, (Op.equalIn 10000 32 (.agg (mc q)) (.agg (mc m))).run Try.prog w = .ok false w := fun w => by rw [eq_map]; simp [hqm]
        by_cases hA : q.2.2.2.1 = m.2.2.2.1
        · have g1 : (q.2.2.2.1 == m.2.2.2.1) = true := by simpa using hA
          by_cases hK : blkQ q.2.2.2.2 = kb
          · have g2 : (blkQ q.2.2.2.2 == kb) = true := by simpa using hK
            exact cl_c1 u5 u6 u9 u10 u13 u14 u15 u16 u17 u18 u19 u20 u21 u22 u23 u24 u25 u26 u27 u28 u29 u30 u31 u32 u33 u34 u38 u39 u40 u41 u42 u43 u44 u45 u46 u47 u48 u49 u50 u51 u52 u53 u54 u55 u56 u57 u58 u59 u60 u61 u62 u63 u64 u65 u66 u67 u68 u69 u70 u71 u72 u73 u74 u75 u76 u77 u78 u79 u80 u81 u82 u83 u84 u85 u86 u87 u88 u89 u90 u91 u92 u93 u94 u95 u96 u97 u98 u99 u100 u101 u102 u103 u104 u105 u106 u107 j B hdl0 HN hM hlj hm hdl2 hlv2 EQ CBq hst HTH (hidB (by rw [left_snoc, g1, g2, ← hlv]; rfl)) g1 g2 _
          · have g2 : (blkQ q.2.2.2.2 == kb) = false := by simpa using hK
            exact cl_c2 u5 u6 u9 u10 u13 u14 u15 u16 u17 u18 u19 u20 u21 u22 u23 u24 u25 u26 u27 u28 u29 u30 u31 u32 u33 u34 u38 u39 u40 u41 u42 u43 u44 u45 u46 u47 u48 u49 u50 u51 u52 u53 u54 u55 u56 u57 u58 u59 u60 u61 u62 u63 u64 u65 u66 u67 u68 u69 u70 u71 u72 u73 u74 u75 u76 u77 u78 u79 u80 u81 u82 u83 u84 u85 u86 u87 u88 u89 u90 u91 u92 u93 u94 u95 u96 u97 u98 u99 u100 u101 u102 u103 u104 u105 u106 u107 j B hdl0 HN hM hlj hm hdl2 hlv2 EQ CBq hst HTH (hidB (by rw [left_snoc, g1, g2, ← hlv]; rfl)) g1 g2 _
        · have g1 : (q.2.2.2.1 == m.2.2.2.1) = false := by simpa using hA
          exact cl_c3 u5 u6 u9 u10 u13 u14 u15 u16 u17 u18 u19 u20 u21 u22 u23 u24 u25 u26 u27 u28 u29 u30 u31 u32 u33 u34 u38 u39 u40 u41 u42 u43 u44 u45 u46 u47 u48 u49 u50 u51 u52 u53 u54 u55 u56 u57 u58 u59 u60 u61 u62 u63 u64 u65 u66 u67 u68 u69 u70 u71 u72 u73 u74 u75 u76 u77 u78 u79 u80 u81 u82 u83 u84 u85 u86 u87 u88 u89 u90 u91 u92 u93 u94 u95 u96 u97 u98 u99 u100 u101 u102 u103 u104 u105 u106 u107 j B hdl0 HN hM hlj hm hdl2 hlv2 EQ CBq hst HTH (hidB (by rw [left_snoc, g1, ← hlv]; rfl)) g1 _
    · have e : j = ms.length := by omega
      subst e
      have hjn : ¬ ((ms.length : Nat) : Int) < (n : Int) := by have := HN.out; omega
      rw [List.take_length] at B ⊢
      have HL9 : Hid ((dropM ms m).length ≤ 140737488355328) := hidB (by have := dropM_le ms m ms.length; rw [List.take_length] at this; omega)
      obtain ⟨ao, co, hv⟩ := row_slice2 B.own
      obtain ⟨dl, hdl0⟩ : ∃ dl, Hid (dl = (dropM ms m).length) := ⟨_, rfl⟩
      rw [← hdl0.out] at hv
      subst hv
      clear hj hlj hi hz0 hz1 hz2 hl9
      by_cases hmm : m ∈ ms
      · have e12 : decide (m ∈ ms) = true := by simpa using hmm
        rw [e12]
        have st := HG.out.maps.1 m hmm
        have hkb := HKB.out st.2.2.2.1
        have hla := leftN_any (fun o ho => HG.out.maps.1 o (drop_sub ho)) st (l := dropM ms m)
        rw [← hkb] at hla
        obtain ⟨lv, hlv⟩ : ∃ lv : Nat, lv = leftN (dropM ms m) m kb := ⟨_, rfl⟩
        rw [← hlv] at hla ⊢
        have HMM : Hid (m ∈ ms) := hmm
        have HLA : Hid (lv = 0 ↔ (dropM ms m).any (fun o => placeM o == placeM m) = false) := hla
        by_cases h0 : lv = 0
        · have HPL : Hid (placeM m = 6 * m.2.2.2.1.toNat + kb.toNat) := hidB (by rw [hkb]; unfold placeM placeN blkQ; rfl)
          obtain ⟨aN, haN⟩ : ∃ aN : Nat, m.2.2.2.1 = (aN : Int) := ⟨m.2.2.2.1.toNat, by have := st.2.2.2.2.1; omega⟩
          obtain ⟨kN, hkN⟩ : ∃ kN : Nat, kb = (kN : Int) := ⟨kb.toNat, by have := st.2.2.2.1; rw [hkb]; unfold blkQ; omega⟩
          obtain ⟨sN, hsN⟩ : ∃ sN : Nat, m.2.1 = (sN : Int) := ⟨m.2.1.toNat, by have := st.2.1; omega⟩
          have HA : Hid (m.2.2.2.1 = (aN : Int)) := haN
          have HS : Hid (m.2.1 = (sN : Int)) := hsN
          have ha3 : aN < 3 := by have := st.2.2.2.2.1; omega
          have hk6 : kN < 6 := by have := st.2.2.2.1; rw [hkb] at hkN; unfold blkQ at hkN; omega
          have hs8 : sN < 8 := by have := st.2.1; omega
          have HP2 : Hid (placeM m = 6 * aN + kN) := hidB (by rw [HPL.out, haN, hkN]; simp)
          have H18 : Hid (6 * aN + kN < 18) := hidB (by omega)
          have HA3 : Hid (aN < 3) := ha3
          have HS8 : Hid (sN < 8) := hs8
          have I3 := fun b w => ix3 b 0 aN ha3 w
          have I6 := fun b w => ix6 b (6 * aN) kN hk6 w
          have I8 := fun b w => ix8 b 21 sN hs8 w
          simp only [Nat.zero_add] at I3
          have hlz : ¬ (0 : Int) < (lv : Int) := by omega
          have hsw : wrap64 ((sN : Int) + 1) = (sN : Int) + 1 := by unfold wrap64; omega
          have HR : Hid (anyR (closeF f m) aN 6 (sN : Int) = true ↔ (blocksL (closeF f m) m.2.1).length ≠ 0) := hidB (by have := row_blocks HG.out hmm; rw [haN, hsN] at this; simp only [Int.toNat_natCast] at this; rw [hsN]; exact this)
          have HLZ : Hid ((dropM ms m).any (fun o => placeM o == placeM m) = false) := hidB (hla.1 h0)
          clear hla hlv h0 st hkb ha3 hk6 hs8 haN hsN hmm e12
          subst hkN
          go_wp2_with (first | ((with_reducible refine at_opB (.load 3 (.tmp 76)) rfl ?_); refine wpList_loadF (B.row 2 rfl) _ rfl (by kernel_rfl) 3 rfl (aN : Int) (by rw [← HA.out]; rfl) ?_) | ((with_reducible refine at_opB (.load 3 (.tmp 83)) rfl ?_); refine wpList_loadF (B.row 2 rfl) _ rfl (by kernel_rfl) 3 rfl (aN : Int) (by rw [← HA.out]; rfl) ?_) | ((with_reducible refine at_opB (.store 3 (.tmp 82) (.const (.int .i64 0))) rfl ?_); refine wpList_storeF (B.row 0 rfl) rfl _ _ rfl (6 * aN + kN) rfl 0 rfl _ (tc_own _ _ _ _ _ H18.out) (tc (closeF f m) g h (.slice ao dl co)) (by rw [tc_set _ _ _ _ _ _ H18.out, ← HP2.out]; rfl) ?_; intro w9 R9 t9; replace B := B.turn 0 rfl R9 t9; clear R9 t9; have hrg := (B.row 0 rfl).six HA3.out) | ((with_reducible refine at_opB (.load 22 (.tmp 87)) rfl ?_); refine wpList_load_mid rfl 22 (.tmp 87) rfl _ _ rfl (r6 (rowF (closeF f m) aN)).toList _ hrg Try.underlying22 rfl (r6l_info _) ?_; rw [r6_back]; clear hrg))
          go_loopw [18, 89] (fun t i W => ∃ k : Nat, k ≤ 6 ∧ i = .int .i64 (k : Int) ∧ t = .bool (anyR (closeF f m) aN k (sN : Int)) ∧ Bo w W [(b7, 30, tc (closeF f m) g h (.slice ao dl co)), (b4, 30, tc (fun _ => 0) (fun _ => false) (fun _ => 0) (.slice none 0 0)), (b3, 32, mc m), (b2, 30, tc f g h (.slice a0 n cap))] (.slice ao dl co) (dropM ms m)) (fun _ i _ => 6 - (intOf i).toNat)
          case atStart => exact ⟨0, by omega, rfl, by simp [anyR], B⟩
          case round =>
            clear B
            obtain ⟨k, hk, rfl, rfl, B⟩ := hrel
            by_cases hk6 : k < 6
            · have hki : (k : Int) < 6 := by omega
              have IX := fun w => index_r6 (rowF (closeF f m) aN) k hk6 w
              have hjw : wrap64 ((k : Int) + 1) = (k : Int) + 1 := by unfold wrap64; omega
              have HST : Hid (anyR (closeF f m) aN (k + 1) (sN : Int) = (anyR (closeF f m) aN k (sN : Int) || rowF (closeF f m) aN k == (sN : Int) + 1)) := hidB (anyR_step _ _ _ _)
              obtain ⟨x, hx⟩ : ∃ x, rowF (closeF f m) aN k = x := ⟨_, rfl⟩
              rw [hx] at IX HST
              clear hx
              obtain ⟨t, ht⟩ : ∃ t, anyR (closeF f m) aN k (sN : Int) = t := ⟨_, rfl⟩
              rw [ht] at HST ⊢
              clear ht
              cases t with
              | true =>
                go_wp2
                go_roundw
                case rel => exact ⟨k + 1, by omega, (by first | exact castB k | exact castBW hjw), by rw [HST.out]; simp, B⟩
                case measure => (first | rw [hjw] | skip); exact meas_six hk6
              | false =>
                go_wp2_with (first | ((with_reducible refine at_opB (.load 3 (.tmp 95)) rfl ?_); refine wpList_loadF (B.row 2 rfl) _ rfl (by kernel_rfl) 1 rfl (sN : Int) (by rw [← HS.out]; rfl) ?_))
                go_roundw
                case rel => exact ⟨k + 1, by omega, (by first | exact castB k | exact castBW hjw), by rw [HST.out]; simp, B⟩
                case measure => (first | rw [hjw] | skip); exact meas_six hk6
            · have e6 : k = 6 := by omega
              subst e6
              cases hr6 : anyR (closeF f m) aN 6 (sN : Int) with
              | true =>
                have HZ : Hid (closeH f h m = h) := hidB (by unfold closeH; rw [if_neg (HR.out.1 hr6)])
                clear hr6
                go_wp2_with (first | ((with_reducible refine at_opB (.load 30 (.tmp 7)) rfl ?_); refine wpList_loadR 30 (.tmp 7) rfl (by kernel_rfl) b7 rfl (tc (closeF f m) g h (.slice ao dl co)) (B.row 0 rfl) _ Try.underlying30 rfl (tc_info _ _ _ _) ?_) | ((with_reducible refine at_opB (.store 30 (.tmp 4) (.tmp 107)) rfl ?_); refine wpList_storeR 30 rfl (.tmp 4) _ rfl b4 rfl (tc (closeF f m) g h (.slice ao dl co)) rfl _ (B.row 1 rfl) (tc_sz _ _ _ _ _ _ _ _) (tc_info _ _ _ _) (tc_one _ _ _ _ _ _) ?_; intro w9 R9 t9; replace B := B.turn 1 rfl R9 t9; clear R9 t9))
                ((try simp only [Exit.inBlock, Exit.then]); refine bodyPost_ret (results_row3 (p := 4) (u := 5) (v := 6) rfl _ _ _ _ rfl (B.row 1 rfl) _ Try.underlying30 rfl (tc_info _ _ _ _)) rfl ⟨⟨fun h => absurd HMM.out h, fun _ => ⟨_, (own_maps B.own HL9.out).1, (own_maps B.own HL9.out).2.2, fun h => absurd (HLZ.out.symm.trans h) (by simp), fun _ => by rw [HZ.out]; try rfl⟩⟩, B.base⟩)
              | false =>
                have HZ : Hid (closeH f h m = upd h sN 0) := hidB (by unfold closeH; rw [if_pos (Classical.byContradiction (fun hq => absurd (HR.out.2 hq) (by simp [hr6]))), HS.out]; rfl)
                clear hr6
                go_wp2_with (first | ((with_reducible refine at_opB (.load 3 (.tmp 103)) rfl ?_); refine wpList_loadF (B.row 2 rfl) _ rfl (by kernel_rfl) 1 rfl (sN : Int) (by rw [← HS.out]; rfl) ?_) | ((with_reducible refine at_opB (.store 3 (.tmp 106) (.const (.int .i64 0))) rfl ?_); refine wpList_storeF (B.row 0 rfl) rfl _ _ rfl (21 + sN) rfl 0 rfl _ (tc_home _ _ _ _ _ HS8.out) (tc (closeF f m) g (upd h sN 0) (.slice ao dl co)) (tc_setH _ _ _ _ _ _ HS8.out) ?_; intro w9 R9 t9; replace B := B.turn 0 rfl R9 t9; clear R9 t9) | ((with_reducible refine at_opB (.load 30 (.tmp 7)) rfl ?_); refine wpList_loadR 30 (.tmp 7) rfl (by kernel_rfl) b7 rfl (tc (closeF f m) g (upd h sN 0) (.slice ao dl co)) (B.row 0 rfl) _ Try.underlying30 rfl (tc_info _ _ _ _) ?_) | ((with_reducible refine at_opB (.store 30 (.tmp 4) (.tmp 107)) rfl ?_); refine wpList_storeR 30 rfl (.tmp 4) _ rfl b4 rfl (tc (closeF f m) g (upd h sN 0) (.slice ao dl co)) rfl _ (B.row 1 rfl) (tc_sz _ _ _ _ _ _ _ _) (tc_info _ _ _ _) (tc_one _ _ _ _ _ _) ?_; intro w9 R9 t9; replace B := B.turn 1 rfl R9 t9; clear R9 t9))
                ((try simp only [Exit.inBlock, Exit.then]); refine bodyPost_ret (results_row3 (p := 4) (u := 5) (v := 6) rfl _ _ _ _ rfl (B.row 1 rfl) _ Try.underlying30 rfl (tc_info _ _ _ _)) rfl ⟨⟨fun h => absurd HMM.out h, fun _ => ⟨_, (own_maps B.own HL9.out).1, (own_maps B.own HL9.out).2.2, fun h => absurd (HLZ.out.symm.trans h) (by simp), fun _ => by rw [HZ.out]; try rfl⟩⟩, B.base⟩)
        · have hlz : (0 : Int) < (lv : Int) := by omega
          have hne : (dropM ms m).any (fun o => placeM o == placeM m) = true := by
            cases hq : (dropM ms m).any (fun o => placeM o == placeM m) with
            | true => rfl
            | false => exact absurd (hla.2 hq) h0
          have HNE : Hid ((dropM ms m).any (fun o => placeM o == placeM m) = true) := hne
          clear hla hlv h0 st hkb hmm e12 hne HLA
          go_wp2_with (first | ((with_reducible refine at_opB (.load 30 (.tmp 7)) rfl ?_); refine wpList_loadR 30 (.tmp 7) rfl (by kernel_rfl) b7 rfl (tc f g h (.slice ao dl co)) (B.row 0 rfl) _ Try.underlying30 rfl (tc_info _ _ _ _) ?_) | ((with_reducible refine at_opB (.store 30 (.tmp 4) (.tmp 75)) rfl ?_); refine wpList_storeR 30 rfl (.tmp 4) _ rfl b4 rfl (tc f g h (.slice ao dl co)) rfl _ (B.row 1 rfl) (tc_sz _ _ _ _ _ _ _ _) (tc_info _ _ _ _) (tc_one _ _ _ _ _ _) ?_; intro w9 R9 t9; replace B := B.turn 1 rfl R9 t9; clear R9 t9))
          ((try simp only [Exit.inBlock, Exit.then]); refine bodyPost_ret (results_row3 (p := 4) (u := 5) (v := 6) rfl _ _ _ _ rfl (B.row 1 rfl) _ Try.underlying30 rfl (tc_info _ _ _ _)) rfl ⟨⟨fun h => absurd HMM.out h, fun _ => ⟨_, (own_maps B.own HL9.out).1, (own_maps B.own HL9.out).2.2, fun _ => rfl, fun h => absurd (HNE.out.symm.trans h) (by simp)⟩⟩, B.base⟩)
      · have e12 : decide (m ∈ ms) = false := by simpa using hmm
        rw [e12]
        have HMM : Hid (m ∉ ms) := hmm
        clear hmm e12
        go_wp2_with (first | ((with_reducible refine at_opB (.load 30 (.tmp 2)) rfl ?_); refine wpList_loadR 30 (.tmp 2) rfl (by kernel_rfl) b2 rfl (tc f g h (.slice a0 n cap)) (B.row 3 rfl) _ Try.underlying30 rfl (tc_info _ _ _ _) ?_) | ((with_reducible refine at_opB (.store 30 (.tmp 4) (.tmp 72)) rfl ?_); refine wpList_storeR 30 rfl (.tmp 4) _ rfl b4 rfl (tc f g h (.slice a0 n cap)) rfl _ (B.row 1 rfl) (tc_sz _ _ _ _ _ _ _ _) (tc_info _ _ _ _) (tc_one _ _ _ _ _ _) ?_; intro w9 R9 t9; replace B := B.turn 1 rfl R9 t9; clear R9 t9))
        ((try simp only [Exit.inBlock, Exit.then]); refine bodyPost_ret (results_row3 (p := 4) (u := 5) (v := 6) rfl _ _ _ _ rfl (B.row 1 rfl) _ Try.underlying30 rfl (tc_info _ _ _ _)) rfl ⟨⟨fun _ => rfl, fun h => absurd h HMM.out⟩, B.base⟩)
end Go.Proofs.Ytmdijjbkjcnbpaa
