/-
  The walks of Good and what it asks.
-/
import Derived.Test.YthcedehppflcgabHeads
namespace Go.Proofs.Ythcedehppflcgab
open Go.ChangeShapes Go.WideShapes Go.ChangeAt Go.RowKit

theorem ret_bool {a b : Bool} (h : a = b) : Ending.returned (.bool a) = .returned (.bool b) := by rw [h]
theorem isWord_any (n : Int) (w : World) : Calls Try.prog 31 #[.int .i64 n] w fun e w' => e = .returned (.bool (wordB' n)) ∧ w' = w := by
  go_enter Try.func31, Try.ntmps31
  go_wp2
  all_goals
    go_ret
    exact ⟨ret_bool (by unfold wordB'; simp <;> omega), rfl⟩
theorem isLong_any (n : Int) (w : World) : Calls Try.prog 30 #[.int .i64 n] w fun e w' => e = .returned (.bool (longB n)) ∧ w' = w := by
  go_enter Try.func30, Try.ntmps30
  go_wp2
  all_goals
    go_ret
    exact ⟨ret_bool (by unfold longB; simp <;> omega), rfl⟩
set_option maxHeartbeats 4000000 in
theorem inRange_any (k : Pkt) (w : World) : Calls Try.prog 47 #[pv k] w fun e w' => e = .returned (.bool (rangeB k)) ∧ Below w.heap.size w w' := by
  obtain ⟨proto, src, sport, dst, dport, ttl, id, flags, seq, ack, win, body⟩ := k
  unfold pv
  simp only
  go_enter Try.func47, Try.ntmps47
  go_wp2_with (first
    | (go_at_call 30; refine (isLong_any _ _).mono ?_; rintro e w' ⟨rfl, rfl⟩)
    | (go_at_call 31; refine (isWord_any _ _).mono ?_; rintro e w' ⟨rfl, rfl⟩))
  all_goals
    go_ret
    refine ⟨ret_bool ?_, (Below.refl _ _).alloc (Nat.le_refl _) _⟩
    simp [rangeB, *] <;> omega
set_option maxHeartbeats 2000000 in
theorem inForm_any (k : Pkt) (w : World) : Calls Try.prog 48 #[pv k] w fun e w' => e = .returned (.bool (formB k)) ∧ Below w.heap.size w w' := by
  obtain ⟨proto, src, sport, dst, dport, ttl, id, flags, seq, ack, win, body⟩ := k
  unfold pv
  simp only
  by_cases h1 : proto = 1
  · subst h1
    go_enter Try.func48, Try.ntmps48
    go_wp2_with (go_at_call 31; refine (isWord_any _ _).mono ?_; rintro e w' ⟨rfl, rfl⟩)
    all_goals
      go_ret
      refine ⟨ret_bool ?_, (Below.refl _ _).alloc (Nat.le_refl _) _⟩
      simp_all [formB]
  · by_cases h2 : proto = 17
    · subst h2
      go_enter Try.func48, Try.ntmps48
      go_wp2
      all_goals
        go_ret
        refine ⟨ret_bool ?_, (Below.refl _ _).alloc (Nat.le_refl _) _⟩
        simp_all [formB]
    · go_enter Try.func48, Try.ntmps48
      go_wp2
      go_ret
      refine ⟨ret_bool ?_, (Below.refl _ _).alloc (Nat.le_refl _) _⟩
      simp_all [formB]

theorem below_cells {W w1 : World} (hb : Below W.heap.size W w1) {q : Nat} {cs : Array Value} (hq : q < W.heap.size) (hc : ∀ o, W.cell? ⟨q, o, none⟩ = cs[o]?) : ∀ o, w1.cell? ⟨q, o, none⟩ = cs[o]? :=
  fun o => (hb.cell (p := ⟨q, o, none⟩) hq).trans (hc o)
theorem below_new {w w' : World} {o : Obj} (h : Below (w.alloc o).heap.size (w.alloc o) w') : Below w.heap.size w w' :=
  ((Below.refl _ _).alloc (Nat.le_refl _) o).trans (h.mono (by simp))

set_option maxHeartbeats 1000000 in
theorem good_any (k : Pkt) (w : World) (hsz : k.body.size ≤ 140737488351232) : Calls Try.prog 18 #[pv k] w fun e w' => e = .returned (.int .i64 (good k)) ∧ Below w.heap.size w w' := by
  have P := part_zero k.proto
  have hbox := box_cell w #[.int .i64 k.proto, .int .i64 k.src, .int .i64 k.sport, .int .i64 k.dst, .int .i64 k.dport, .int .i64 k.ttl, .int .i64 k.id, .int .i64 k.flags, .int .i64 k.seq, .int .i64 k.ack, .int .i64 k.win, .string k.body] 23
  have hbel : Below w.heap.size w (w.alloc (.cells #[.int .i64 k.proto, .int .i64 k.src, .int .i64 k.sport, .int .i64 k.dst, .int .i64 k.dport, .int .i64 k.ttl, .int .i64 k.id, .int .i64 k.flags, .int .i64 k.seq, .int .i64 k.ack, .int .i64 k.win, .string k.body] 23)) := (Below.refl _ _).alloc (Nat.le_refl _) _
  have hlt : w.heap.size < (w.alloc (.cells #[.int .i64 k.proto, .int .i64 k.src, .int .i64 k.sport, .int .i64 k.dst, .int .i64 k.dport, .int .i64 k.ttl, .int .i64 k.id, .int .i64 k.flags, .int .i64 k.seq, .int .i64 k.ack, .int .i64 k.win, .string k.body] 23)).heap.size := by simp
  unfold pv
  by_cases h1 : kindB k.proto = false
  · rw [h1] at P
    have G : Hid (good k = 4) := by show _ = _; unfold good; rw [if_pos h1]
    go_enter Try.func18, Try.ntmps18
    go_wp2_with (go_at_call 38; refine (partBytes_any _ _).mono ?_; rintro e w' ⟨rfl, rfl⟩)
    go_ret
    exact ⟨ret_int G.out.symm, hbel⟩
  have h1' : kindB k.proto = true := by simpa using h1
  rw [h1'] at P
  by_cases h2 : rangeB k = false
  · have G : Hid (good k = 2) := by show _ = _; unfold good; rw [if_neg h1, if_pos h2]
    go_enter Try.func18, Try.ntmps18
    go_wp2_with (first
      | (go_at_call 38; refine (partBytes_any _ _).mono ?_; rintro e w' ⟨rfl, rfl⟩)
      | (go_at_call 47; refine (inRange_any k _).mono ?_; rintro e w' ⟨rfl, hb⟩; rw [h2]))
    go_ret
    exact ⟨ret_int G.out.symm, below_new hb⟩
  have h2' : rangeB k = true := by simpa using h2
  by_cases h3 : 64 < k.body.size
  · have G : Hid (good k = 5) := by show _ = _; unfold good; rw [if_neg h1, if_neg h2, if_pos h3]
    go_enter Try.func18, Try.ntmps18
    go_wp2_with (first
      | (go_at_call 38; refine (partBytes_any _ _).mono ?_; rintro e w' ⟨rfl, rfl⟩)
      | (go_at_call 47; refine (inRange_any k _).mono ?_; rintro e w' ⟨rfl, hb⟩; rw [h2']; have hbox2 := below_cells hb hlt hbox))
    go_ret
    exact ⟨ret_int G.out.symm, below_new hb⟩
  by_cases h4 : formB k = false
  · have G : Hid (good k = 1) := by show _ = _; unfold good; rw [if_neg h1, if_neg h2, if_neg h3, if_pos h4]
    go_enter Try.func18, Try.ntmps18
    go_wp2_with (first
      | (go_at_call 38; refine (partBytes_any _ _).mono ?_; rintro e w' ⟨rfl, rfl⟩)
      | (go_at_call 47; refine (inRange_any k _).mono ?_; rintro e w' ⟨rfl, hb⟩; rw [h2']; have hbox2 := below_cells hb hlt hbox)
      | (go_at_call 48; refine (inForm_any k _).mono ?_; rintro e w2 ⟨rfl, hb2⟩; rw [h4]))
    go_ret
    exact ⟨ret_int G.out.symm, (below_new hb).trans (hb2.mono (Nat.le_trans (by simp) hb.size))⟩
  have h4' : formB k = true := by simpa using h4
  have G : Hid (good k = 0) := by show _ = _; unfold good; rw [if_neg h1, if_neg h2, if_neg h3, if_neg h4]
  go_enter Try.func18, Try.ntmps18
  go_wp2_with (first
    | (go_at_call 38; refine (partBytes_any _ _).mono ?_; rintro e w' ⟨rfl, rfl⟩)
    | (go_at_call 47; refine (inRange_any k _).mono ?_; rintro e w' ⟨rfl, hb⟩; rw [h2']; have hbox2 := below_cells hb hlt hbox)
    | (go_at_call 48; refine (inForm_any k _).mono ?_; rintro e w2 ⟨rfl, hb2⟩; rw [h4']))
  go_ret
  exact ⟨ret_int G.out.symm, (below_new hb).trans (hb2.mono (Nat.le_trans (by simp) hb.size))⟩
end Go.Proofs.Ythcedehppflcgab
