/-
  The walks that lay a head and what stands behind it.
-/
import Derived.Test.YthcedehppflcgabAdds
import Derived.Test.YthcedehppflcgabPkt
import Derived.Deep.RegionHeld3
namespace Go.Proofs.Ythcedehppflcgab
open Go.ChangeShapes Go.WideShapes Go.ChangeAt Go.RowKit

theorem partBytes_any (n : Int) (w : World) : Calls Try.prog 38 #[.int .i64 n] w fun e w' => e = .returned (.int .i64 (partN n)) ∧ w' = w := by
  unfold partN
  by_cases h1 : n = 1
  · subst h1
    go_enter Try.func38, Try.ntmps38
    go_wp2
    go_ret
    exact ⟨rfl, rfl⟩
  by_cases h2 : n = 17
  · subst h2
    go_enter Try.func38, Try.ntmps38
    go_wp2
    go_ret
    exact ⟨rfl, rfl⟩
  by_cases h3 : n = 6
  · subst h3
    go_enter Try.func38, Try.ntmps38
    go_wp2
    go_ret
    exact ⟨rfl, rfl⟩
  go_enter Try.func38, Try.ntmps38
  go_wp2
  go_ret
  exact ⟨ret_int (by simp), rfl⟩
theorem checkAt_any (n : Int) (w : World) : Calls Try.prog 52 #[.int .i64 n] w fun e w' => e = .returned (.int .i64 (chkAt n)) ∧ w' = w := by
  unfold chkAt
  by_cases h1 : n = 1
  · subst h1
    go_enter Try.func52, Try.ntmps52
    go_wp2
    go_ret
    exact ⟨rfl, rfl⟩
  by_cases h2 : n = 17
  · subst h2
    go_enter Try.func52, Try.ntmps52
    go_wp2
    go_ret
    exact ⟨rfl, rfl⟩
  go_enter Try.func52, Try.ntmps52
  go_wp2
  go_ret
  exact ⟨ret_int (by simp), rfl⟩

theorem box_cell (w : World) (cs : Array Value) (t : TypeId) : ∀ o, (w.alloc (.cells cs t)).cell? ⟨w.heap.size, o, none⟩ = cs[o]? := fun o => World.cell?_alloc_mark w cs t (0, 0) o
/-- bytes laid in a new block, for any list. -/
theorem new_cells (w : World) (l : List UInt8) (cs : Array Value) (h : cs = (bc l).toArray) : ∀ j u, (bc l)[j]? = some u → (w.alloc (.cells cs 5)).cell? ⟨w.heap.size, j, none⟩ = some u := by
  intro j u hu
  subst h
  rw [box_cell]; simpa using hu

/-- a block beside a frame that holds what it held. -/
structure Inv (b p : Nat) (G : Option Nat) (w : World) (cs : Array Value) : Prop where
  lt : b < w.heap.size
  np : b ≠ p
  nG : some b ≠ G
  cell : ∀ o, w.cell? ⟨b, o, none⟩ = cs[o]?
theorem Inv.step {b p : Nat} {G G' : Option Nat} {w w' : World} {cs : Array Value} (h : Inv b p G w cs) (st : Step p G G' w w') : Inv b p G' w' cs := by
  refine ⟨Nat.lt_of_lt_of_le h.lt st.size, h.np, ?_, fun o => (st.cell h.lt h.np h.nG o).trans (h.cell o)⟩
  rcases st.lies with e | ⟨k, e, hk⟩
  · rw [e]; exact h.nG
  · rw [e]; intro x; have := Option.some.inj x; have := h.lt; omega
theorem Inv.alloc {b p : Nat} {G : Option Nat} {w : World} {cs : Array Value} (h : Inv b p G w cs) (o : Obj) : Inv b p G (w.alloc o) cs :=
  h.step ((Step.refl p G w).alloc o)
theorem inv_box {p : Nat} {G : Option Nat} {l : List UInt8} {w : World} (h : Fr w p G l) (cs : Array Value) (t : TypeId) : Inv w.heap.size p G (w.alloc (.cells cs t)) cs :=
  ⟨by simp, h.ne_new.1, h.ne_new.2, box_cell w cs t⟩

set_option maxHeartbeats 800000 in
theorem addHead_any (p : Nat) (G : Option Nat) (l : List UInt8) (w : World) (h : Fr w p G l) (k : Pkt) (len : Int) (hl : l.length + 20 ≤ 1000000) :
    Calls Try.prog 37 #[.pointer (some ⟨p, 0, none⟩), pv k, .int .i64 len] w fun e w' => e = .returned (.tuple #[]) ∧ ∃ G', Fr w' p G' (l ++ hd k len 0) ∧ Step p G G' w w' := by
  unfold pv
  have H1 : Hid (IntKind.u8.wrap k.ttl = ((b8 k.ttl).toNat : Int)) := by show _ = _; rw [wrap_u8, b8_nat]
  have H2 : Hid (IntKind.u8.wrap k.proto = ((b8 k.proto).toNat : Int)) := by show _ = _; rw [wrap_u8, b8_nat]
  have hI := inv_box h #[.int .i64 k.proto, .int .i64 k.src, .int .i64 k.sport, .int .i64 k.dst, .int .i64 k.dport, .int .i64 k.ttl, .int .i64 k.id, .int .i64 k.flags, .int .i64 k.seq, .int .i64 k.ack, .int .i64 k.win, .string k.body] 23
  have hS := (Step.refl p G w).alloc (.cells #[.int .i64 k.proto, .int .i64 k.src, .int .i64 k.sport, .int .i64 k.dst, .int .i64 k.dport, .int .i64 k.ttl, .int .i64 k.id, .int .i64 k.flags, .int .i64 k.seq, .int .i64 k.ack, .int .i64 k.win, .string k.body] 23)
  replace h := h.alloc (.cells #[.int .i64 k.proto, .int .i64 k.src, .int .i64 k.sport, .int .i64 k.dst, .int .i64 k.dport, .int .i64 k.ttl, .int .i64 k.id, .int .i64 k.flags, .int .i64 k.seq, .int .i64 k.ack, .int .i64 k.win, .string k.body] 23)
  go_enter Try.func37, Try.ntmps37
  go_wp2_with (first
    | (go_at_call 39; (refine (addBytes_any p _ _ _ (h.alloc _) _ 2 [69, 0] (two_cells _ _ (by simp) 69 0 _ _ (by decide) (by decide)) (by (try simp) <;> omega)).mono ?_; rintro e w' ⟨rfl, G1, h, hst⟩; replace hst := step_new hst; replace hI := hI.step hst; replace hS := hS.trans hst; clear hst; have hbox := hI.cell))
    | (go_at_call 61; refine (addWord_any p _ _ _ h _ (by (try simp) <;> omega)).mono ?_; rintro e w' ⟨rfl, G1, h, hst⟩; replace hI := hI.step hst; replace hS := hS.trans hst; clear hst; have hbox := hI.cell)
    | (go_at_call 62; refine (addLong_any p _ _ _ h _ (by (try simp) <;> omega)).mono ?_; rintro e w' ⟨rfl, G1, h, hst⟩; replace hI := hI.step hst; replace hS := hS.trans hst; clear hst; have hbox := hI.cell)
    | (go_at_call 39; (refine (addBytes_any p _ _ _ (h.alloc _) _ 2 [b8 k.ttl, b8 k.proto] (two_cells _ _ (by simp) (b8 k.ttl) (b8 k.proto) _ _ H1.out H2.out) (by (try simp) <;> omega)).mono ?_; rintro e w' ⟨rfl, G1, h, hst⟩; replace hst := step_new hst; replace hI := hI.step hst; replace hS := hS.trans hst; clear hst; have hbox := hI.cell)))
  go_end0
  exact ⟨rfl, _, by simp only [List.append_assoc] at h; simpa only [hd, List.append_assoc] using h, hS⟩
theorem addPart_any (p : Nat) (G : Option Nat) (l : List UInt8) (w : World) (h : Fr w p G l) (k : Pkt) (hk : kindB k.proto = true) (hb : k.body.size ≤ 64) (hr : rangeB k = true) (hl : l.length + 20 ≤ 1000000) :
    Calls Try.prog 46 #[.pointer (some ⟨p, 0, none⟩), pv k] w fun e w' => e = .returned (.tuple #[]) ∧ ∃ G', Fr w' p G' (l ++ pt k 0) ∧ Step p G G' w w' := by
  obtain ⟨proto, src, sport, dst, dport, ttl, id, flags, seq, ack, win, body⟩ := k
  replace hr := (range_iff _).1 hr
  simp only at hk hb hr
  unfold pv
  simp only
  have HW : Hid (IntKind.i64.wrap (partN 17 + (body.size : Int)) = 8 + (body.size : Int)) := by show _ = _; rw [show partN 17 = 8 from rfl, wrap_i64 _ (by omega) (by omega)]
  have H1 : Hid (flags = ((b8 flags).toNat : Int)) := by show _ = _; rw [b8_nat]; omega
  have hI := inv_box h #[.int .i64 proto, .int .i64 src, .int .i64 sport, .int .i64 dst, .int .i64 dport, .int .i64 ttl, .int .i64 id, .int .i64 flags, .int .i64 seq, .int .i64 ack, .int .i64 win, .string body] 23
  have hS := (Step.refl p G w).alloc (.cells #[.int .i64 proto, .int .i64 src, .int .i64 sport, .int .i64 dst, .int .i64 dport, .int .i64 ttl, .int .i64 id, .int .i64 flags, .int .i64 seq, .int .i64 ack, .int .i64 win, .string body] 23)
  replace h := h.alloc (.cells #[.int .i64 proto, .int .i64 src, .int .i64 sport, .int .i64 dst, .int .i64 dport, .int .i64 ttl, .int .i64 id, .int .i64 flags, .int .i64 seq, .int .i64 ack, .int .i64 win, .string body] 23)
  have hk' : proto = 1 ∨ proto = 17 ∨ proto = 6 := by unfold kindB at hk; simp at hk; omega
  clear hk
  rcases hk' with rfl | rfl | rfl
  all_goals
    go_enter Try.func46, Try.ntmps46
    go_wp2_with (first
      | (go_at_call 38; refine (partBytes_any _ _).mono ?_; rintro e w' ⟨rfl, rfl⟩)
      | (go_at_call 61; refine (addWord_any p _ _ _ h _ (by (try simp) <;> omega)).mono ?_; rintro e w' ⟨rfl, G1, h, hst⟩; replace hI := hI.step hst; replace hS := hS.trans hst; clear hst; have hbox := hI.cell)
      | (go_at_call 62; refine (addLong_any p _ _ _ h _ (by (try simp) <;> omega)).mono ?_; rintro e w' ⟨rfl, G1, h, hst⟩; replace hI := hI.step hst; replace hS := hS.trans hst; clear hst; have hbox := hI.cell)
      | (go_at_call 39; (refine (addBytes_any p _ _ _ (h.alloc _) _ 2 [80, b8 flags] (two_cells _ _ (by simp) 80 (b8 flags) _ _ (by decide) H1.out) (by (try simp) <;> omega)).mono ?_; rintro e w' ⟨rfl, G1, h, hst⟩; replace hst := step_new hst; replace hI := hI.step hst; replace hS := hS.trans hst; clear hst; have hbox := hI.cell))
      | (go_at_call 39; (refine (addBytes_any p _ _ _ (h.alloc _) _ 2 [b8 flags, 0] (two_cells _ _ (by simp) (b8 flags) 0 _ _ H1.out (by decide)) (by (try simp) <;> omega)).mono ?_; rintro e w' ⟨rfl, G1, h, hst⟩; replace hst := step_new hst; replace hI := hI.step hst; replace hS := hS.trans hst; clear hst; have hbox := hI.cell)))
    try
      go_region_held3 (fun w' => w'.cell? ⟨w.heap.size, 11, none⟩ = some (.string body)) (first | go_keep | exact hI.cell 11)
        (first
      | (go_at_call 38; refine (partBytes_any _ _).mono ?_; rintro e w' ⟨rfl, rfl⟩)
      | (go_at_call 61; refine (addWord_any p _ _ _ h.drew _ (by (try simp) <;> omega)).mono ?_; rintro e w' ⟨rfl, G1, h, hst⟩; replace hst := step_drew hst; replace hI := hI.step hst; replace hS := hS.trans hst; clear hst; have hbox := hI.cell))
      go_wp2_with (go_at_call 61; refine (addWord_any p _ _ _ h _ (by (try simp) <;> omega)).mono ?_; rintro e w' ⟨rfl, G1, h, hst⟩; replace hI := hI.step hst; replace hS := hS.trans hst; clear hst; have hbox := hI.cell)
    go_end0
    try rw [HW.out] at h
    exact ⟨rfl, _, by simp only [List.append_assoc] at h; simpa [pt, partN, List.append_assoc] using h, hS⟩
end Go.Proofs.Ythcedehppflcgab
