/-
  Of what BindCloses, BindOpens stands on: part 27.
-/
import Derived.Maps.AppendAt
import Derived.Test.YtmdijjbkjcnbpaaBindCO14
import Derived.Test.YtmdijjbkjcnbpaaBindCO26
namespace Go.Proofs.Ytmdijjbkjcnbpaa
open Go.ChangeShapes Go.WideShapes Go.ChangeAt Go.RowKit
set_option linter.unusedSimpArgs false
set_option linter.unusedVariables false
attribute [local irreducible] tc pc
set_option maxRecDepth 20000 in
set_option maxHeartbeats 4000000 in
theorem close_bad (f : Nat → Int) (g : Nat → Bool) (h : Nat → Int) (sl : Value) (ms : List Mp) (m : Mp) (hwH : wfH h) (hG : ¬ GoodT f h ms) (w : World) (hM : MapsAt w sl ms) :
    Calls Try.prog 20 #[.agg (tc f g h sl), .agg (mc m)] w fun e w' => e = .returned (.tuple #[.agg (tc f g h sl), .bool false, .int .i64 2]) ∧ Below w.heap.size w w' := by
  have B := Bd.start w
  have hM0 := hM
  obtain ⟨a0, cap, hsl, -⟩ := hM0
  obtain ⟨n, hn⟩ : ∃ n, n = ms.length := ⟨_, rfl⟩
  have HN : Hid (n = ms.length) := hn
  rw [← hn] at hsl
  subst hsl
  clear hn
  have hlt := hM.lt
  have HG : Hid (¬ GoodT f h ms) := hG
  have CG := fun w hM => goodt_any f g h (.slice a0 n cap) ms hwH w hM
  clear hG
  go_enter Try.func20, Try.ntmps20
  go_wp2_with (first | ((with_reducible refine at_opB (.box 30 (.tmp 0)) rfl ?_); refine wpList_boxR 30 rfl (.tmp 0) rfl _ rfl ?_; intro b2 w9 l9 R9 h9; replace B := B.alloc l9 R9 h9; clear R9 h9 l9) | ((with_reducible refine at_opB (.box 32 (.tmp 1)) rfl ?_); refine wpList_boxR 32 rfl (.tmp 1) rfl (mc m) rfl ?_; intro b3 w9 l9 R9 h9; replace B := B.alloc l9 R9 h9; clear R9 h9 l9) | ((with_reducible refine at_opB (.alloc 30) rfl ?_); refine wpList_allocX 4 30 rfl rfl rfl _ table_zero ?_; intro b4 w9 l9 R9 h9; replace B := B.alloc l9 R9 h9; clear R9 h9 l9) | ((with_reducible refine at_opB (.load 30 (.tmp 2)) rfl ?_); refine wpList_loadR 30 (.tmp 2) rfl (by kernel_rfl) b2 rfl (tc f g h (.slice a0 n cap)) (B.row 2 rfl) _ Try.underlying30 rfl (tc_info _ _ _ _) ?_) | (go_at_call 14; go_fit (CG _ (hM.keep B.base hlt)); rintro e w5 ⟨r, hr, rfl, hb5⟩; obtain rfl : r = false := (by cases r with | false => rfl | true => exact absurd (hr.1 rfl) HG.out); clear hr; replace B := B.below hb5; clear hb5) | ((with_reducible refine at_opB (.store 30 (.tmp 4) (.tmp 14)) rfl ?_); refine wpList_storeR 30 rfl (.tmp 4) _ rfl b4 rfl (tc f g h (.slice a0 n cap)) rfl _ (B.row 0 rfl) (tc_sz _ _ _ _ _ _ _ _) (tc_info _ _ _ _) (tc_one _ _ _ _ _ _) ?_; intro w9 R9 t9; replace B := B.turn 0 rfl R9 t9; clear R9 t9))
  ((try simp only [Exit.inBlock, Exit.then]); refine bodyPost_ret (results_row3 (p := 4) (u := 5) (v := 6) rfl _ _ _ _ rfl (B.row 0 rfl) _ Try.underlying30 rfl (tc_info _ _ _ _)) rfl ⟨rfl, B.base⟩)
set_option maxRecDepth 20000 in
set_option maxHeartbeats 4000000 in
theorem close_none (f : Nat → Int) (g : Nat → Bool) (h : Nat → Int) (sl : Value) (ms : List Mp) (m : Mp) (hwH : wfH h) (hG : GoodT f h ms) (hm : m ∉ ms) (w : World) (hM : MapsAt w sl ms) :
    Calls Try.prog 20 #[.agg (tc f g h sl), .agg (mc m)] w fun e w' => e = .returned (.tuple #[.agg (tc f g h sl), .bool false, .int .i64 7]) ∧ Below w.heap.size w w' := by
  have B := Bd.start w
  have hM0 := hM
  obtain ⟨a0, cap, hsl, -⟩ := hM0
  obtain ⟨n, hn⟩ : ∃ n, n = ms.length := ⟨_, rfl⟩
  have HN : Hid (n = ms.length) := hn
  rw [← hn] at hsl
  subst hsl
  clear hn
  have hlt := hM.lt
  have HG : Hid (GoodT f h ms) := hG
  have HD : Hid (dropM ms m = ms) := hidB (List.Sublist.eq_of_length List.filter_sublist (dropM_len.2 hm))
  have CG := fun w hM => goodt_any f g h (.slice a0 n cap) ms hwH w hM
  have CW := fun w hM => without_any (.slice a0 n cap) ms m w hM (Nat.le_trans hG.len (by decide))
  clear hG hm
  go_enter Try.func20, Try.ntmps20
  go_wp2_with (first | ((with_reducible refine at_opB (.box 30 (.tmp 0)) rfl ?_); refine wpList_boxR 30 rfl (.tmp 0) rfl _ rfl ?_; intro b2 w9 l9 R9 h9; replace B := B.alloc l9 R9 h9; clear R9 h9 l9) | ((with_reducible refine at_opB (.box 32 (.tmp 1)) rfl ?_); refine wpList_boxR 32 rfl (.tmp 1) rfl (mc m) rfl ?_; intro b3 w9 l9 R9 h9; replace B := B.alloc l9 R9 h9; clear R9 h9 l9) | ((with_reducible refine at_opB (.alloc 30) rfl ?_); refine wpList_allocX 4 30 rfl rfl rfl _ table_zero ?_; intro b4 w9 l9 R9 h9; replace B := B.alloc l9 R9 h9; clear R9 h9 l9) | ((with_reducible refine at_opB (.load 30 (.tmp 2)) rfl ?_); refine wpList_loadR 30 (.tmp 2) rfl (by kernel_rfl) b2 rfl (tc f g h (.slice a0 n cap)) (B.row 2 rfl) _ Try.underlying30 rfl (tc_info _ _ _ _) ?_) | (go_at_call 14; go_fit (CG _ (hM.keep B.base hlt)); rintro e w5 ⟨r, hr, rfl, hb5⟩; obtain rfl : r = true := (hr.2 HG.out); clear hr; replace B := B.below hb5; clear hb5; have cM : World.cell? _ ⟨b2, 29, none⟩ = some (.slice a0 n cap) := ((B.row 2 rfl).cell 29).trans (tc_maps _ _ _ _)) | ((with_reducible refine at_opB (.load 32 (.tmp 3)) rfl ?_); refine wpList_loadR 32 (.tmp 3) rfl (by kernel_rfl) b3 rfl (mc m) (B.row 1 rfl) _ Try.underlying32 rfl (mc_info _) ?_) | (go_at_call 45; go_fit (CW _ (hM.keep B.base hlt)); rintro e w6 ⟨v, rfl, hMv, hNv, hbv, hb6⟩; clear cM hNv; replace B := B.addNew hb6 hMv hbv; clear hbv hb6; (obtain ⟨av, cv, hv, -⟩ := id hMv); clear hMv; rw [HD.out, ← HN.out] at hv; subst hv; have cM : World.cell? _ ⟨b2, 29, none⟩ = some (.slice a0 n cap) := ((B.row 2 rfl).cell 29).trans (tc_maps _ _ _ _)) | ((with_reducible refine at_opB (.store 30 (.tmp 4) (.tmp 25)) rfl ?_); refine wpList_storeR 30 rfl (.tmp 4) _ rfl b4 rfl (tc f g h (.slice a0 n cap)) rfl _ (B.row 0 rfl) (tc_sz _ _ _ _ _ _ _ _) (tc_info _ _ _ _) (tc_one _ _ _ _ _ _) ?_; intro w9 R9 t9; replace B := B.turn 0 rfl R9 t9; clear R9 t9))
  ((try simp only [Exit.inBlock, Exit.then]); refine bodyPost_ret (results_row3 (p := 4) (u := 5) (v := 6) rfl _ _ _ _ rfl (B.row 0 rfl) _ Try.underlying30 rfl (tc_info _ _ _ _)) rfl ⟨rfl, B.base⟩)
end Go.Proofs.Ytmdijjbkjcnbpaa

namespace Go.Proofs.Ytmdijjbkjcnbpaa
open Go.ChangeShapes Go.WideShapes Go.ChangeAt Go.RowKit
set_option linter.unusedSimpArgs false
set_option linter.unusedVariables false

/-- rows of one's own, and a list of maps of one's own that lies in none of them. -/
structure Bo (w W : World) (L : List (Nat × TypeId × Array Value)) (v : Value) (D : List Mp) : Prop where
  bd : Bd w W L []
  own : W.ownsRow w.heap.size 32 5 v D.length (flat D)
  off : ∀ b ∈ L.map (·.1), v.ownBlock ≠ some b
section
variable {w W W' : World} {L : List (Nat × TypeId × Array Value)} {v : Value} {D : List Mp}
theorem Bo.row (h : Bo w W L v D) (i : Nat) {b : Nat} {t : TypeId} {cs : Array Value} (hi : L[i]? = some (b, t, cs)) : Row t W b cs := h.bd.row i hi
theorem Bo.base (h : Bo w W L v D) : Below w.heap.size w W := h.bd.base
theorem Bd.bo (h : Bd w W L []) : Bo w W L (.slice none 0 0) [] := ⟨h, by simpa [flat] using World.ownsRow_nil _ _ _ _, fun b _ => by simp [Value.ownBlock]⟩
theorem Bo.below (h : Bo w W L v D) (hb : Below W.heap.size W W') : Bo w W' L v D := ⟨h.bd.below hb, ownG_below h.own hb, h.off⟩
theorem Bo.alloc (h : Bo w W L v D) {b : Nat} {t : TypeId} {cs : Array Value} (hl : W.heap.size ≤ b) (R : Row t W' b cs) (hb : Below W.heap.size W W') : Bo w W' ((b, t, cs) :: L) v D :=
  ⟨h.bd.alloc hl R hb, ownG_below h.own hb, fun c hc => by
    rw [List.map_cons] at hc
    rcases List.mem_cons.1 hc with rfl | hc
    · exact ownG_away h.own hl
    · exact h.off c hc⟩
theorem Bo.turn (h : Bo w W L v D) (i : Nat) {b : Nat} {t : TypeId} {cs cs' : Array Value} (hi : L[i]? = some (b, t, cs)) (R : Row t W' b cs') (T : Turned b W W') : Bo w W' (L.set i (b, t, cs')) v D := by
  have hb : b ∈ L.map (·.1) := List.mem_map.2 ⟨_, List.mem_of_getElem? hi, rfl⟩
  refine ⟨h.bd.turn i hi R T, ownG_turned h.own T (h.off b hb), fun c hc => ?_⟩
  rw [List.map_set] at hc
  rcases List.mem_or_eq_of_mem_set hc with hc | rfl
  · exact h.off c hc
  · exact h.off _ hb
theorem Bo.tail {y : Nat × TypeId × Array Value} (h : Bo w W (y :: L) v D) : Bo w W L v D :=
  ⟨⟨(List.nodup_cons.1 (by simpa using h.bd.nodup)).2, fun z hz => h.bd.rows z (List.mem_cons_of_mem _ hz), by simp, h.bd.base⟩, h.own, fun b hb => h.off b (by rw [List.map_cons]; exact List.mem_cons_of_mem _ hb)⟩
theorem Bo.push (h : Bo w W L v D) {ob : Obj} {m : Mp} {v4 : Value} {w8 : World} (h4 : w8.ownsRow w.heap.size 32 5 v4 (D.length + 1) (flat D ++ mcl m)) (hg : (W.alloc ob).grownBy w8 v.ownBlock) (hloc : v4.ownBlock = v.ownBlock ∨ v4.ownBlock = some (W.alloc ob).heap.size) : Bo w w8 L v4 (D ++ [m]) := by
  have hsz : w.heap.size ≤ (W.alloc ob).heap.size := by have := h.base.size; simp; omega
  refine ⟨⟨h.bd.nodup, fun y hy => ⟨grown_row2 ((h.bd.rows y hy).1.alloc ob) (h.off _ (List.mem_map.2 ⟨y, hy, rfl⟩)) hg, (h.bd.rows y hy).2⟩, by simp, grown_below (h.own.alloc _) (h.base.alloc h.base.size _) hsz hg⟩, ?_, fun b hb => ?_⟩
  · rw [List.length_append, flat_app]; simpa [flat] using h4
  · rcases hloc with e | e
    · rw [e]; exact h.off b hb
    · rw [e]; intro e2; have h1 := h.bd.lt hb; have h2 := Option.some.inj e2; simp at h2; omega
end
/-- of the maps that stay, how many lie in a place. -/
def leftN (l : List Mp) (m : Mp) (kb : Int) : Nat := (l.filter fun o => o.2.2.2.1 == m.2.2.2.1 && blkQ o.2.2.2.2 == kb).length
theorem left_snoc (l : List Mp) (m o : Mp) (kb : Int) : leftN (l ++ [o]) m kb = leftN l m kb + if (o.2.2.2.1 == m.2.2.2.1 && blkQ o.2.2.2.2 == kb) = true then 1 else 0 := by
  unfold leftN; rw [List.filter_append, List.length_append]
  cases hq : (o.2.2.2.1 == m.2.2.2.1 && blkQ o.2.2.2.2 == kb) <;> simp [hq]
theorem left_le (l : List Mp) (m : Mp) (kb : Int) : leftN l m kb ≤ l.length := List.length_filter_le _ _
theorem mem_step {ms : List Mp} {j : Nat} {o m : Mp} (hlj : j < ms.length) (hm : ms[j] = o) : decide (m ∈ ms.take (j + 1)) = (decide (m ∈ ms.take j) || decide (o = m)) := by
  rw [take_next hlj hm]; simp [eq_comm]
attribute [local irreducible] tc pc
set_option maxRecDepth 20000 in
set_option maxHeartbeats 4000000 in
theorem closeMap_bad (f : Nat → Int) (g : Nat → Bool) (h : Nat → Int) (sl : Value) (ms : List Mp) (m : Mp) (CG : ∀ w, MapsAt w sl ms → Calls Try.prog 15 #[.agg (tc f g h sl)] w fun e w' => ∃ r : Bool, (r = true ↔ GoodT f h ms) ∧ e = .returned (.bool r) ∧ Below w.heap.size w w') (hG : ¬ GoodT f h ms) (w : World) (hM : MapsAt w sl ms) :
    Calls Try.prog 21 #[.agg (tc f g h sl), .agg (mc m)] w fun e w' => e = .returned (.tuple #[.agg (tc f g h sl), .bool false, .int .i64 2]) ∧ Below w.heap.size w w' := by
  have B := Bd.start w
  have hM0 := hM
  obtain ⟨a0, cap, hsl, -⟩ := hM0
  obtain ⟨n, hn⟩ : ∃ n, n = ms.length := ⟨_, rfl⟩
  have HN : Hid (n = ms.length) := hn
  rw [← hn] at hsl
  subst hsl
  clear hn
  have hlt := hM.lt
  have HG : Hid (¬ GoodT f h ms) := hG
  clear hG
  go_enter Try.func21, Try.ntmps21
  go_wp2_with (first | ((with_reducible refine at_opB (.box 30 (.tmp 0)) rfl ?_); refine wpList_boxR 30 rfl (.tmp 0) rfl _ rfl ?_; intro b2 w9 l9 R9 h9; replace B := B.alloc l9 R9 h9; clear R9 h9 l9) | ((with_reducible refine at_opB (.box 32 (.tmp 1)) rfl ?_); refine wpList_boxR 32 rfl (.tmp 1) rfl (mc m) rfl ?_; intro b3 w9 l9 R9 h9; replace B := B.alloc l9 R9 h9; clear R9 h9 l9) | ((with_reducible refine at_opB (.alloc 30) rfl ?_); refine wpList_allocX 4 30 rfl rfl rfl _ table_zero ?_; intro b4 w9 l9 R9 h9; replace B := B.alloc l9 R9 h9; clear R9 h9 l9) | ((with_reducible refine at_opB (.load 30 (.tmp 2)) rfl ?_); refine wpList_loadR 30 (.tmp 2) rfl (by kernel_rfl) b2 rfl (tc f g h (.slice a0 n cap)) (B.row 2 rfl) _ Try.underlying30 rfl (tc_info _ _ _ _) ?_) | (go_at_call 15; go_fit (CG _ (hM.keep B.base hlt)); rintro e w5 ⟨r, hr, rfl, hb5⟩; obtain rfl : r = false := (by cases r with | false => rfl | true => exact absurd (hr.1 rfl) HG.out); clear hr; replace B := B.below hb5; clear hb5) | ((with_reducible refine at_opB (.store 30 (.tmp 4) (.tmp 24)) rfl ?_); refine wpList_storeR 30 rfl (.tmp 4) _ rfl b4 rfl (tc f g h (.slice a0 n cap)) rfl _ (B.row 0 rfl) (tc_sz _ _ _ _ _ _ _ _) (tc_info _ _ _ _) (tc_one _ _ _ _ _ _) ?_; intro w9 R9 t9; replace B := B.turn 0 rfl R9 t9; clear R9 t9))
  ((try simp only [Exit.inBlock, Exit.then]); refine bodyPost_ret (results_row3 (p := 4) (u := 5) (v := 6) rfl _ _ _ _ rfl (B.row 0 rfl) _ Try.underlying30 rfl (tc_info _ _ _ _)) rfl ⟨rfl, B.base⟩)
end Go.Proofs.Ytmdijjbkjcnbpaa

namespace Go.Proofs.Ytmdijjbkjcnbpaa
open Go.ChangeShapes Go.WideShapes Go.ChangeAt Go.RowKit
set_option linter.unusedSimpArgs false
set_option linter.unusedVariables false

/-- the body of the first loop. -/
def loopOfC : Code → Option Code
  | .loop c => some c
  | .seq a b => (loopOfC a).or (loopOfC b)
  | .block _ c => loopOfC c
  | .scope c => loopOfC c
  | .cond _ a b => (loopOfC a).or (loopOfC b)
  | _ => none
noncomputable def bodyC : Code := (Try.f21.body.bind loopOfC).getD .skip
set_option maxRecDepth 1000000 in
/-- between two maps. -/
def WC (w : World) (f : Nat → Int) (g : Nat → Bool) (h : Nat → Int) (ms : List Mp) (m : Mp) (kb : Int) (b2 b3 b4 b7 : Nat) (a0 : Option Addr) (n cap : Nat) (a : Act) (W : World) : Prop :=
  ∃ u5 u6 u9 u10 u11 u12 u13 u14 u15 u16 u17 u18 u19 u20 u21 u22 u23 u24 u25 u26 u27 u28 u29 u30 u31 u32 u33 u34 u37 u38 u39 u40 u41 u42 u43 u44 u45 u46 u47 u48 u49 u50 u51 u52 u53 u54 u55 u56 u57 u58 u59 u60 u61 u62 u63 u64 u65 u66 u67 u68 u69 u70 u71 u72 u73 u74 u75 u76 u77 u78 u79 u80 u81 u82 u83 u84 u85 u86 u87 u88 u89 u90 u91 u92 u93 u94 u95 u96 u97 u98 u99 u100 u101 u102 u103 u104 u105 u106 u107 : Value, (∃ (j : Nat) (v : Value), j ≤ ms.length ∧ u37 = .int .i64 (j : Int) ∧ u11 = .int .i64 (leftN (dropM (ms.take j) m) m kb : Int) ∧ u12 = .bool (decide (m ∈ ms.take j)) ∧ Bo w W [(b7, 30, tc f g h v), (b4, 30, tc (fun _ => 0) (fun _ => false) (fun _ => 0) (.slice none 0 0)), (b3, 32, mc m), (b2, 30, tc f g h (.slice a0 n cap))] v (dropM (ms.take j) m)) ∧ a = ⟨#[(.agg (tc f g h (.slice a0 n cap))), (.agg (mc m)), .pointer (some ⟨b2, 0, none⟩), .pointer (some ⟨b3, 0, none⟩), .pointer (some ⟨b4, 0, none⟩), u5, u6, .pointer (some ⟨b7, 0, none⟩), .int .i64 kb, u9, u10, u11, u12, u13, u14, u15, u16, u17, u18, u19, u20, u21, u22, u23, u24, u25, u26, u27, u28, u29, u30, u31, u32, u33, u34, (.slice a0 n cap), .int .i64 (n : Int), u37, u38, u39, u40, u41, u42, u43, u44, u45, u46, u47, u48, u49, u50, u51, u52, u53, u54, u55, u56, u57, u58, u59, u60, u61, u62, u63, u64, u65, u66, u67, u68, u69, u70, u71, u72, u73, u74, u75, u76, u77, u78, u79, u80, u81, u82, u83, u84, u85, u86, u87, u88, u89, u90, u91, u92, u93, u94, u95, u96, u97, u98, u99, u100, u101, u102, u103, u104, u105, u106, u107], []⟩
def WCmu (n : Nat) (a : Act) (_ : World) : Nat := n - (intOf (a.tmps.getD 37 undef)).toNat
end Go.Proofs.Ytmdijjbkjcnbpaa

namespace Go.Proofs.Ytmdijjbkjcnbpaa
open Go.ChangeShapes Go.WideShapes Go.ChangeAt Go.RowKit
set_option linter.unusedSimpArgs false
set_option linter.unusedVariables false

attribute [local irreducible] tc pc
set_option maxRecDepth 1000000 in
set_option maxHeartbeats 8000000 in
theorem cl_c0 {w wr : World} {f : Nat → Int} {g : Nat → Bool} {h : Nat → Int} {ms : List Mp} {m q : Mp} {kb : Int} {b2 b3 b4 b7 : Nat} {a0 ao : Option Addr} {n cap dl co lv : Nat} {th : Bool} {D : List Mp} (u5 u6 u9 u10 u13 u14 u15 u16 u17 u18 u19 u20 u21 u22 u23 u24 u25 u26 u27 u28 u29 u30 u31 u32 u33 u34 u38 u39 u40 u41 u42 u43 u44 u45 u46 u47 u48 u49 u50 u51 u52 u53 u54 u55 u56 u57 u58 u59 u60 u61 u62 u63 u64 u65 u66 u67 u68 u69 u70 u71 u72 u73 u74 u75 u76 u77 u78 u79 u80 u81 u82 u83 u84 u85 u86 u87 u88 u89 u90 u91 u92 u93 u94 u95 u96 u97 u98 u99 u100 u101 u102 u103 u104 u105 u106 u107 : Value) (j : Nat)
    (B : Bo w wr [(b7, 30, tc f g h (.slice ao dl co)), (b4, 30, tc (fun _ => 0) (fun _ => false) (fun _ => 0) (.slice none 0 0)), (b3, 32, mc m), (b2, 30, tc f g h (.slice a0 n cap))] (.slice ao dl co) D) (hdl0 : Hid (dl = D.length)) (HN : Hid (n = ms.length)) (hM : MapsAt w (.slice a0 n cap) ms) (hlj : j < ms.length) (hm : ms[j] = q) (hdl2 : dl ≤ 1000) (hlv2 : lv ≤ 1000)
    (EQ : ∀ w, (Op.equalIn 10000 32 (.agg (mc q)) (.agg (mc m))).run Try.prog w = .ok true w) (HSD : Hid (dropM (ms.take (j + 1)) m = D)) (HTH : Hid (decide (m ∈ ms.take (j + 1)) = true)) (HLV : Hid (leftN D m kb = lv)) (Q0 : Exit → Act → World → Prop) :
    Code.wp Try.prog bodyC (Exit.then (fun a' W => WC w f g h ms m kb b2 b3 b4 b7 a0 n cap a' W ∧ WCmu n a' W < WCmu n ⟨#[(.agg (tc f g h (.slice a0 n cap))), (.agg (mc m)), .pointer (some ⟨b2, 0, none⟩), .pointer (some ⟨b3, 0, none⟩), .pointer (some ⟨b4, 0, none⟩), u5, u6, .pointer (some ⟨b7, 0, none⟩), .int .i64 kb, u9, u10, .int .i64 (lv : Int), .bool th, u13, u14, u15, u16, u17, u18, u19, u20, u21, u22, u23, u24, u25, u26, u27, u28, u29, u30, u31, u32, u33, u34, (.slice a0 n cap), .int .i64 (n : Int), .int .i64 (j : Int), u38, u39, u40, u41, u42, u43, u44, u45, u46, u47, u48, u49, u50, u51, u52, u53, u54, u55, u56, u57, u58, u59, u60, u61, u62, u63, u64, u65, u66, u67, u68, u69, u70, u71, u72, u73, u74, u75, u76, u77, u78, u79, u80, u81, u82, u83, u84, u85, u86, u87, u88, u89, u90, u91, u92, u93, u94, u95, u96, u97, u98, u99, u100, u101, u102, u103, u104, u105, u106, u107], []⟩ wr) Q0) ⟨#[(.agg (tc f g h (.slice a0 n cap))), (.agg (mc m)), .pointer (some ⟨b2, 0, none⟩), .pointer (some ⟨b3, 0, none⟩), .pointer (some ⟨b4, 0, none⟩), u5, u6, .pointer (some ⟨b7, 0, none⟩), .int .i64 kb, u9, u10, .int .i64 (lv : Int), .bool th, u13, u14, u15, u16, u17, u18, u19, u20, u21, u22, u23, u24, u25, u26, u27, u28, u29, u30, u31, u32, u33, u34, (.slice a0 n cap), .int .i64 (n : Int), .int .i64 (j : Int), u38, u39, u40, u41, u42, u43, u44, u45, u46, u47, u48, u49, u50, u51, u52, u53, u54, u55, u56, u57, u58, u59, u60, u61, u62, u63, u64, u65, u66, u67, u68, u69, u70, u71, u72, u73, u74, u75, u76, u77, u78, u79, u80, u81, u82, u83, u84, u85, u86, u87, u88, u89, u90, u91, u92, u93, u94, u95, u96, u97, u98, u99, u100, u101, u102, u103, u104, u105, u106, u107], []⟩ wr := by
  conv => arg 2; whnf
  have hlt := hM.lt
  have hjn : (j : Int) < (n : Int) := by have := HN.out; omega
  have hjw := wrap_next hlj hM.len
  have hMW := hM.keep B.base hlt
  have hrg := hMW.at j hlj hm
  have hlw : wrap64 ((lv : Int) + 1) = (lv : Int) + 1 := by unfold wrap64; omega
  have HJ : Hid (j + 1 ≤ ms.length) := hidB (by omega)
  obtain ⟨i0, hi, hz0, hz1, hz2⟩ := info_parts info_map
  clear hlv2
  go_wp2_with (first | ((with_reducible refine at_opB (.indexAddr 28 (.tmp 35) (.tmp 37)) rfl ?_); refine wpList_indexM rfl (.tmp 35) (.tmp 37) rfl (.slice a0 n cap) ms hMW rfl j rfl hlj ?_) | ((with_reducible refine at_opB (.load 32 (.tmp 39)) rfl ?_); refine wpList_load_mid rfl 32 (.tmp 39) rfl _ _ rfl (mcl q) _ hrg Try.underlying32 rfl (mcl_info q) ?_; rw [mcl_mc]) | ((with_reducible refine at_opB (.alloc 32) rfl ?_); refine wpList_allocX 14 32 rfl rfl rfl _ map_zero ?_; intro b14 w9 l9 R9 h9; replace B := B.alloc l9 R9 h9; clear R9 h9 l9) | ((with_reducible refine at_opB (.store 32 (.tmp 14) (.tmp 40)) rfl ?_); refine wpList_storeR 32 rfl (.tmp 14) _ rfl b14 rfl (mc q) rfl _ (B.row 0 rfl) rfl (mc_info _) (mc_one _) ?_; intro w9 R9 t9; replace B := B.turn 0 rfl R9 t9; clear R9 t9; have cM : World.cell? _ ⟨b7, 29, none⟩ = some (.slice ao dl co) := ((B.row 1 rfl).cell 29).trans (tc_maps _ _ _ _)) | ((with_reducible refine at_opB (.load 32 (.tmp 14)) rfl ?_); refine wpList_loadR 32 (.tmp 14) rfl (by kernel_rfl) b14 rfl (mc q) (B.row 0 rfl) _ Try.underlying32 rfl (mc_info _) ?_) | ((with_reducible refine at_opB (.load 32 (.tmp 3)) rfl ?_); refine wpList_loadR 32 (.tmp 3) rfl (by kernel_rfl) b3 rfl (mc m) (B.row 3 rfl) _ Try.underlying32 rfl (mc_info _) ?_) | ((with_reducible refine at_opB (.binOp .eql 32 (.tmp 41) (.tmp 42) 32) rfl ?_); refine wpList_eqS 32 (.tmp 41) (.tmp 42) rfl (by kernel_rfl) (mc q) (mc m) rfl rfl Try.eqGuardType32 _ true (EQ _) rfl ?_))
  (refine ⟨?_, ?measure⟩; unfold WC; (repeat apply Exists.intro); refine ⟨?rel, rfl⟩)
  case rel => first | exact ⟨j + 1, _, HJ.out, (by first | exact castB j | exact castBW hjw), (by rw [HSD.out, HLV.out]), (by rw [HTH.out]), by rw [HSD.out]; exact B.tail⟩ | exact ⟨j + 1, _, HJ.out, (by first | exact castB j | exact castBW hjw), (by rw [HSD.out, HLV.out]; exact castB lv), (by rw [HTH.out]), by rw [HSD.out]; exact B.tail⟩ | exact ⟨j + 1, _, HJ.out, (by first | exact castB j | exact castBW hjw), (by rw [HSD.out, HLV.out]; exact castBW hlw), (by rw [HTH.out]), by rw [HSD.out]; exact B.tail⟩
  case measure => unfold WCmu; (first | rw [hjw] | skip); exact meas_next (HN.out.symm ▸ hlj)
end Go.Proofs.Ytmdijjbkjcnbpaa
