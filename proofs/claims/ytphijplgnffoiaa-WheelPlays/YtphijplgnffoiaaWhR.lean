/-
  A wheel of its own: New, Many, Due, Cancel.
-/
import Derived.Test.YtphijplgnffoiaaWhQ
namespace Go.Proofs.Ytphijplgnffoiaa
open Go.ChangeShapes Go.WideShapes Go.ChangeAt Go.RowKit Go.Maps
set_option linter.unusedSimpArgs false
set_option linter.unusedVariables false

section
variable {w : World} {b o : Nat} {t : TypeId} {cs : Array Value} {now : Int} {du : Int → Option Int} {cnt : Nat} {F : Nat → Prop}
theorem many_any (h : Wheel' w b t cs o now du cnt F) : Calls Try.prog 11 #[.pointer (some ⟨b, o, none⟩)] w fun e w' => e = .returned (.int .i64 (cnt : Int)) ∧ w' = w := by
  obtain ⟨mb, D, vs, L, hW, _, _, _, _, hsz, _, _⟩ := h
  have c1 := (hW.cell (o + 1)).trans hW.c1
  rcases hW.map with ⟨rfl, rfl⟩ | ⟨bm, n, rfl, _, hm⟩
  · have hlen := len_nil (P := Try.prog) (w := w) Try.underlying29 3
    have e : cnt = 0 := by rw [← hsz]; rfl
    subst e
    clear hsz
    go_enter Try.func11, Try.ntmps11
    go_wp2
    go_ret
    exact ⟨rfl, rfl⟩
  · have hlen := hm.len Try.underlying29 3
    rw [hsz] at hlen
    clear hsz
    go_enter Try.func11, Try.ntmps11
    go_wp2
    go_ret
    exact ⟨rfl, rfl⟩
theorem due_any (h : Wheel' w b t cs o now du cnt F) (i : Int) (hi : (Lit.int .i64 i).wf = true) : Calls Try.prog 18 #[.pointer (some ⟨b, o, none⟩), .int .i64 i] w fun e w' => e = .returned (.tuple #[.int .i64 (dz du i), .bool (du i).isSome]) ∧ w' = w := by
  obtain ⟨mb, D, vs, L, hW, hrd, _⟩ := h
  have c1 := (hW.cell (o + 1)).trans hW.c1
  have hkey := keyOf_int_mk (P := Try.prog) (q := .i64) (a := i) Try.underlying3 hi
  have hhas := hrd.has i
  have htime := hrd.time i
  rcases hW.map with ⟨rfl, rfl⟩ | ⟨bm, n, rfl, _, hm⟩
  · have hlook := look_nil (w := w) true lawI Try.underlying29 (zeroI _) hkey
    have e := reads_empty hrd i
    have e2 : dz du i = 0 := by unfold dz; rw [e]; rfl
    rw [e2, e]
    clear hhas htime hrd e e2
    go_enter Try.func18, Try.ntmps18
    go_wp2
    go_ret2
    exact ⟨rfl, rfl⟩
  · rw [← hhas]
    clear hhas hrd
    go_enter Try.func18, Try.ntmps18
    go_wp2_with (first
      | (at_lookup; refine wpList_lookup_own_ok_int _ rfl _ _ 29 rfl 3 3 .i64 lawI Try.underlying29 Try.underlying3 (zeroI _) bm n D rfl hm _ _ rfl hkey ?_; intro cv hat hwc; obtain rfl := at_num htime hat; clear hat hwc))
    go_ret2
    exact ⟨rfl, rfl⟩
theorem cancel_none (h : Wheel' w b t cs o now du cnt F) (i : Int) (hi : (Lit.int .i64 i).wf = true) (hn : du i = none) : Calls Try.prog 15 #[.pointer (some ⟨b, o, none⟩), .int .i64 i] w fun e w' => e = .returned (.int .i64 7) ∧ w' = w := by
  obtain ⟨mb, D, vs, L, hW, hrd, _⟩ := h
  have c1 := (hW.cell (o + 1)).trans hW.c1
  have hkey := keyOf_int_mk (P := Try.prog) (q := .i64) (a := i) Try.underlying3 hi
  have hhas : Maps.has D (kI i) = false := by rw [hrd.has, hn]; rfl
  rcases hW.map with ⟨rfl, rfl⟩ | ⟨bm, n, rfl, _, hm⟩
  · have hlook := look_nil (w := w) true lawI Try.underlying29 (zeroI _) hkey
    clear hrd hn hhas
    go_enter Try.func15, Try.ntmps15
    go_wp2
    go_ret
    exact ⟨rfl, rfl⟩
  · clear hrd hn
    go_enter Try.func15, Try.ntmps15
    go_wp2_with (first
      | (at_lookup; refine wpList_lookup_own_ok_int _ rfl _ _ 29 rfl 3 3 .i64 lawI Try.underlying29 Try.underlying3 (zeroI _) bm n D rfl hm _ _ rfl hkey ?_; intro cv hat hwc; clear hat hwc))
    go_ret
    exact ⟨rfl, rfl⟩
set_option maxHeartbeats 2000000 in
theorem cancel_ok (h : Wheel' w b t cs o now du cnt F) (i d0 : Int) (hdi : du i = some d0) : Calls Try.prog 15 #[.pointer (some ⟨b, o, none⟩), .int .i64 i] w fun e w' => e = .returned (.int .i64 0) ∧ ∃ cs' F', Wheel' w' b t cs' o now (delD du i) (cnt - 1) F' ∧ 1 ≤ cnt ∧ SameOut o cs cs' ∧ Gr F w w' ∧ (∀ c, F' c → F c ∨ w.heap.size ≤ c) := by
  have hi := h.wf hdi
  obtain ⟨mb, D, vs, L, hW0, hrd, hwt, hwf, hsum, hsize, hcnt, hF⟩ := h
  have htm := hwt.time
  obtain ⟨nw, rfl⟩ : ∃ nw : Nat, now = nw := ⟨now.toNat, by omega⟩
  have hn : nw ≤ 1099511627776 := by omega
  have hkey := keyOf_int_mk (P := Try.prog) (q := .i64) (a := i) Try.underlying3 hi
  have hhas : Maps.has D (kI i) = true := by rw [hrd.has, hdi]; rfl
  obtain ⟨he1, he2⟩ := hwt.due i d0 hdi
  obtain ⟨e, rfl⟩ : ∃ e : Nat, d0 = e := ⟨d0.toNat, by omega⟩
  have hmem : i ∈ L (pk nw e) := (hwt.mem _ i).2 ⟨e, hdi, by simp⟩
  have hpk : pk nw e < 448 := pk_lt nw e hn (by omega)
  have hle := sumR_le 448 _ L hpk
  have hlp := List.length_pos_of_mem hmem
  rcases mb with _ | bm
  · exfalso
    rcases hW0.map with ⟨_, hD⟩ | ⟨_, _, e2, _⟩
    · rw [hD] at hhas; simp [Maps.has] at hhas
    · cases e2
  have hat0 : at' D i (e : Int) := by have := hrd.time i; unfold dz at this; rw [hdi] at this; exact this
  have CT := takeOut_any hW0 i e hi hat0 hn (by omega) hmem (by omega)
  have hse := sumR_set 448 _ L ((L (pk nw e)).eraseIdx ((L (pk nw e)).idxOf i)) hpk
  rw [List.length_eraseIdx, if_pos (List.idxOf_lt_length_of_mem hmem)] at hse
  have hwd := waits_del hwt i hdi
  simp only [Int.toNat_natCast] at hwd
  have hsd := size_del (k := kI i) hrd.tidy
  rw [hhas] at hsd
  simp only [if_true] at hsd
  obtain ⟨n, hn6, hm⟩ := hW0.theMap
  have HFIN : Hid (∀ w1 cs1 vs1 w2, WM w1 b t cs1 o (nw : Int) (some bm) D vs1 (setL L (pk nw e) ((L (pk nw e)).eraseIdx ((L (pk nw e)).idxOf i))) → SameOut o cs cs1 → Gr (Fp b (some bm) vs) w w1 → (∀ c, Fp b (some bm) vs1 c → Fp b (some bm) vs c ∨ w.heap.size ≤ c) → ∀ n2, n2 ≤ 1000000 → MapI w2 bm n2 (D.del (kI i)) → w1.grownBy w2 (some bm) → ∃ cs' F', Wheel' w2 b t cs' o (nw : Int) (delD du i) (cnt - 1) F' ∧ 1 ≤ cnt ∧ SameOut o cs cs' ∧ Gr F w w2 ∧ (∀ c, F' c → F c ∨ w.heap.size ≤ c)) := by
    refine hid fun w1 cs1 vs1 w2 x1 x2 x3 x4 n2 hn2 m2 g2 => ⟨cs1, Fp b (some bm) vs1, ⟨some bm, _, vs1, _, x1.setMap g2 hn2 m2, hrd.del i, hwd, fun j e' he => ?_, by omega, by omega, by omega, fun c hc => hc⟩, by omega, x2, ?_, fun c hc => (x4 c hc).imp (hF c) id⟩
    · unfold delD at he
      split at he
      · cases he
      · exact hwf j e' he
    · exact (x3.mono hF).trans (Gr.of_grown (F := fun c => c = bm) g2 (fun c hc => by cases hc; rfl)) (fun x hx => by rw [hx]; exact (x4 bm (.inr (.inl rfl))).imp (hF bm) id)
  have k1 := (hW0.cell (o + 1)).trans hW0.c1
  clear hW0 hwt htm hsum hsize hcnt hF hrd hwd hse hle hlp hmem hpk he1 he2 hdi hat0 hsd
  generalize setL L (pk nw e) ((L (pk nw e)).eraseIdx ((L (pk nw e)).idxOf i)) = L1 at *
  go_enter Try.func15, Try.ntmps15
  go_wp2_with (first
    | (at_lookup; refine wpList_lookup_own_ok_int _ rfl _ _ 29 rfl 3 3 .i64 lawI Try.underlying29 Try.underlying3 (zeroI _) bm n D rfl hm _ _ rfl hkey ?_; intro cv hat hwc; clear hat hwc)
    | (go_at_call 21; refine CT.mono ?_; rintro e1 w1 ⟨rfl, cs1, vs1, hW, hso1, hg1, hf1⟩; obtain ⟨n1, hn1, hm1⟩ := hW.theMap; have c1 := (hW.cell (o + 1)).trans hW.c1)
    | (at_delete; refine wpList_delete_own _ rfl _ _ 29 3 rfl 3 lawI Try.underlying29 _ bm n1 _ rfl hm1 _ _ rfl hkey ?_; intro w4 hm4 ht4))
  go_ret
  exact ⟨rfl, HFIN.out w1 cs1 vs1 w4 hW hso1 hg1 hf1 n1 hn1 hm4 ht4.grown⟩
end
def wcs (now : Int) (due : Value) (ls : Nat → Value) : Array Value := #[.int .i64 now, due] ++ ((List.range 448).map ls).toArray
def nilL : Nat → Value := fun _ => .slice none 0 0
theorem wheel_built (n : Int) : Try.prog.built 51 [(0, .int .i64 n)] = some (wcs n (.map none) nilL) := by kernel_rfl
theorem wcs_list (now : Int) (due : Value) (ls : Nat → Value) (k : Nat) (h : k < 448) : (wcs now due ls)[2 + k]? = some (ls k) := by
  unfold wcs
  rw [Array.getElem?_append_right (by simp)]
  simp [h]
theorem wheel_new (w : World) (n : Int) (h : 0 ≤ n ∧ n ≤ 1099511627776) : Wheel' (w.alloc (.cells (wcs n (.map none) nilL) 51)) w.heap.size 51 (wcs n (.map none) nilL) 0 n (fun _ => none) 0 (fun c => c = w.heap.size) := by
  refine ⟨none, .map [], nilL, fun _ => [], ⟨heap_alloc_new w _, by simp [wcs], by simp [wcs], by simp [wcs], fun k hk => by rw [show 0 + 2 + k = 2 + k by omega]; exact wcs_list _ _ _ k hk, fun k hk => World.ownsRow_nil _ _ _ _, fun _ _ _ => rfl, fun j k c _ _ hc => by simp [nilL, Value.ownBlock] at hc, fun k hk hc => by simp [nilL, Value.ownBlock] at hc, .inl ⟨rfl, rfl⟩⟩, reads_nil, ⟨h, fun _ _ h => (by cases h), fun _ => List.nodup_nil, fun k i => (by simp)⟩, fun _ _ h => (by cases h), ?_, rfl, by omega, fun c hc => ?_⟩
  · have : ∀ n, sumR n (fun _ => []) = 0 := fun n => by induction n with | zero => rfl | succ n ih => rw [sumR_succ, ih]; rfl
    exact this 448
  · rcases hc with rfl | hc | ⟨k, hk, hc⟩
    · rfl
    · cases hc
    · simp [nilL, Value.ownBlock] at hc
theorem wpList_build_wheel {ops : Array Oper} {rest : List Oper} {o : Oper} {a : Act} {w : World} {Q : Exit → Act → World → Prop} (hgd : o.guard = none) (x : Operand) (ho : o.op = .build 51 #[(0, x)]) (n : Int) (hx : a.eval x = .int .i64 n)
    (hr : wpList Try.prog ops Q rest (a.put o.dst (.agg (wcs n (.map none) nilL))) w) : wpList Try.prog ops Q (o :: rest) a w :=
  wpList_plain hgd fun K hK => by
    have hb := run_build (P := Try.prog) w 51 #[(0, .int .i64 n)] _ (wheel_built n)
    unfold Oper.wp execOp
    simp only [ho, List.map_toArray, List.map_cons, List.map_nil, hx, Sem.run_bind, hb, Result.andThen_ok, Sem.run_pure]
    exact hK _ _ hr
theorem wpList_box_wheel {ops : Array Oper} {rest : List Oper} {o : Oper} {a : Act} {w : World} {Q : Exit → Act → World → Prop} (hgd : o.guard = none) (x : Operand) (ho : o.op = .box 51 x) (cs : Array Value) (hx : a.eval x = .agg cs)
    (hr : wpList Try.prog ops Q rest (a.put o.dst (.pointer (some ⟨w.heap.size, 0, none⟩))) (w.alloc (.cells cs 51))) : wpList Try.prog ops Q (o :: rest) a w :=
  wpList_plain hgd fun K hK => by
    unfold Oper.wp execOp
    simp only [ho, hx, Instr.box, newVar, Value.cells]
    simp [go_sem]
    exact hK _ _ hr
theorem new_any (w : World) (n : Int) (h : 0 ≤ n ∧ n ≤ 1099511627776) : Calls Try.prog 7 #[.int .i64 n] w fun e w' => e = .returned (.tuple #[.pointer (some ⟨w.heap.size, 0, none⟩), .int .i64 0]) ∧ w' = w.alloc (.cells (wcs n (.map none) nilL) 51) := by
  have CT := fun w => isTime_yes n w h
  clear h
  go_enter Try.func7, Try.ntmps7
  go_wp2_with (first
    | (go_at_call 20; go_fit (CT _); rintro e w' ⟨rfl, hw⟩; rw [hw]; clear hw w')
    | (refine wpList_build_wheel rfl _ rfl n rfl ?_)
    | (refine wpList_box_wheel rfl _ rfl _ rfl ?_))
  go_ret2
  exact ⟨rfl, rfl⟩
theorem new_err (w : World) (n : Int) (h : ¬ (0 ≤ n ∧ n ≤ 1099511627776)) : Calls Try.prog 7 #[.int .i64 n] w fun e w' => e = .returned (.tuple #[.pointer none, .int .i64 2]) ∧ w' = w := by
  have CT := fun w => isTime_no n w h
  clear h
  go_enter Try.func7, Try.ntmps7
  go_wp2_with (first
    | (go_at_call 20; go_fit (CT _); rintro e w' ⟨rfl, hw⟩; rw [hw]; clear hw w'))
  go_ret2
  exact ⟨rfl, rfl⟩
end Go.Proofs.Ytphijplgnffoiaa
