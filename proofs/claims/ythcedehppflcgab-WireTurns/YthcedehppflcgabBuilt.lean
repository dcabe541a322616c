/-
  The plain mathematics of a frame whose checks are laid upon it, and the walk of Build.
-/
import Derived.Test.YthcedehppflcgabSeal
import Derived.Test.YthcedehppflcgabGood
namespace Go.Proofs.Ythcedehppflcgab
open Go.ChangeShapes Go.WideShapes Go.ChangeAt Go.RowKit

theorem setW_head (p : Pkt) (c1 c2 c : Int) : setW (fr p c1 c2) 10 c = fr p c c2 := rfl
theorem take_head (p : Pkt) (c1 c2 : Int) : (fr p c1 c2).take 20 = hd p (flen p) c1 := rfl
theorem drop_head (p : Pkt) (c1 c2 : Int) : (fr p c1 c2).drop 20 = pt p c2 ++ p.body.data.toList := rfl
theorem sealH_fr (p : Pkt) : sealH (fr p 0 0) = fr p (chkH p) 0 := rfl
theorem setW_part (p : Pkt) (c1 c2 c : Int) (h : kindB p.proto = true) : setW (fr p c1 c2) (chkAt p.proto) c = fr p c1 c := by
  rcases (kind_iff _).1 h with h | h | h <;> (unfold fr pt chkAt; simp only [h]; rfl)
theorem chkd_fr (p : Pkt) (c1 c2 : Int) (h : kindB p.proto = true) : chkd (fr p c1 c2) p.proto = ps p.src p.dst p.proto (partN p.proto + p.body.size) ++ (pt p c2 ++ p.body.data.toList) := by
  have hl := fr_len p c1 c2 h
  unfold chkd ps
  rw [drop_head, hl, show flen p - 20 = partN p.proto + p.body.size by unfold flen; omega]
  by_cases h1 : p.proto = 1
  · simp [h1]
  · simp only [h1, if_false, List.append_assoc]; rfl
theorem sealP_fr (p : Pkt) (c1 : Int) (h : kindB p.proto = true) : sealP (fr p c1 0) p.proto = fr p c1 (chkP p) := by
  unfold sealP
  rw [setW_part p _ _ _ h, setW_part p _ _ _ h]
  unfold ckP
  rw [chkd_fr p _ _ h]
  rfl

theorem chkAt_lt (p : Pkt) (c1 c2 : Int) (h : kindB p.proto = true) : chkAt p.proto + 1 < (fr p c1 c2).length := by
  have := fr_len p c1 c2 h
  unfold flen partN at this
  unfold chkAt
  rcases (kind_iff _).1 h with h | h | h <;> simp [h] at * <;> omega
theorem failedS_any (e : Int) (w : World) : Calls Try.prog 29 #[.int .i64 e] w fun r w' => r = .returned (.tuple #[.string ByteArray.empty, .int .i64 e]) ∧ w' = w := by
  go_enter Try.func29, Try.ntmps29
  go_wp2
  go_ret2
  exact ⟨rfl, rfl⟩

theorem good_zero (k : Pkt) (h : good k = 0) : kindB k.proto = true ∧ rangeB k = true ∧ k.body.size ≤ 64 ∧ formB k = true := by
  unfold good at h
  by_cases h1 : kindB k.proto = false
  · rw [if_pos h1] at h; omega
  rw [if_neg h1] at h
  by_cases h2 : rangeB k = false
  · rw [if_pos h2] at h; omega
  rw [if_neg h2] at h
  by_cases h3 : 64 < k.body.size
  · rw [if_pos h3] at h; omega
  rw [if_neg h3] at h
  by_cases h4 : formB k = false
  · rw [if_pos h4] at h; omega
  exact ⟨by simpa using h1, by simpa using h2, by omega, by simpa using h4⟩

theorem ret_two {a b c d : Value} (h1 : a = b) (h2 : c = d) : Ending.returned (.tuple #[a, c]) = .returned (.tuple #[b, d]) := by rw [h1, h2]
/-- what Build answers. -/
def built (k : Pkt) : ByteArray := if good k = 0 then txt (frame k) else ByteArray.empty

set_option maxHeartbeats 2000000 in
theorem build_any (k : Pkt) (w : World) (hsz : k.body.size ≤ 140737488351232) : Calls Try.prog 16 #[pv k] w fun e w' => e = .returned (.tuple #[.string (built k), .int .i64 (good k)]) ∧ Below w.heap.size w w' := by
  have hbox := box_cell w #[.int .i64 k.proto, .int .i64 k.src, .int .i64 k.sport, .int .i64 k.dst, .int .i64 k.dport, .int .i64 k.ttl, .int .i64 k.id, .int .i64 k.flags, .int .i64 k.seq, .int .i64 k.ack, .int .i64 k.win, .string k.body] 23
  have hlt : w.heap.size < (w.alloc (.cells #[.int .i64 k.proto, .int .i64 k.src, .int .i64 k.sport, .int .i64 k.dst, .int .i64 k.dport, .int .i64 k.ttl, .int .i64 k.id, .int .i64 k.flags, .int .i64 k.seq, .int .i64 k.ack, .int .i64 k.win, .string k.body] 23)).heap.size := by simp
  by_cases hg : good k = 0
  · obtain ⟨hk, hr, hb64, hf⟩ := good_zero k hg
    have HB : Hid (built k = txt (frame k)) := by show _ = _; unfold built; rw [if_pos hg]
    have hp2 : 0 ≤ partN k.proto ∧ partN k.proto ≤ 20 := by unfold partN; split <;> (try split) <;> omega
    unfold pv
    go_enter Try.func16, Try.ntmps16
    go_wp2_with (go_at_call 18; refine (good_any k _ hsz).mono ?_; rintro e w1 ⟨rfl, hb1⟩; rw [hg]; have hbox1 := below_cells hb1 hlt hbox)
    have h := fr_new w1
    have hS := (Step.refl w1.heap.size none (w1.alloc (.cells #[.slice none 0 0] 51)))
    have hsz1 : w.heap.size < w1.heap.size := by have := hb1.size; simp at this; omega
    have hI : Inv w.heap.size w1.heap.size none (w1.alloc (.cells #[.slice none 0 0] 51)) #[.int .i64 k.proto, .int .i64 k.src, .int .i64 k.sport, .int .i64 k.dst, .int .i64 k.dport, .int .i64 k.ttl, .int .i64 k.id, .int .i64 k.flags, .int .i64 k.seq, .int .i64 k.ack, .int .i64 k.win, .string k.body] :=
      ⟨by simp; omega, by omega, by simp, below_cells ((Below.refl _ _).alloc (Nat.le_refl _) _) hsz1 hbox1⟩
    have hbox2 := hI.cell
    go_region_held3 (fun w' => w'.cell? ⟨w.heap.size, 0, none⟩ = some (.int .i64 k.proto) ∧ w'.cell? ⟨w.heap.size, 1, none⟩ = some (.int .i64 k.src) ∧ w'.cell? ⟨w.heap.size, 2, none⟩ = some (.int .i64 k.sport) ∧ w'.cell? ⟨w.heap.size, 3, none⟩ = some (.int .i64 k.dst) ∧ w'.cell? ⟨w.heap.size, 4, none⟩ = some (.int .i64 k.dport) ∧ w'.cell? ⟨w.heap.size, 5, none⟩ = some (.int .i64 k.ttl) ∧ w'.cell? ⟨w.heap.size, 6, none⟩ = some (.int .i64 k.id) ∧ w'.cell? ⟨w.heap.size, 7, none⟩ = some (.int .i64 k.flags) ∧ w'.cell? ⟨w.heap.size, 8, none⟩ = some (.int .i64 k.seq) ∧ w'.cell? ⟨w.heap.size, 9, none⟩ = some (.int .i64 k.ack) ∧ w'.cell? ⟨w.heap.size, 10, none⟩ = some (.int .i64 k.win) ∧ w'.cell? ⟨w.heap.size, 11, none⟩ = some (.string k.body))
      (first | exact ⟨hI.cell 0, hI.cell 1, hI.cell 2, hI.cell 3, hI.cell 4, hI.cell 5, hI.cell 6, hI.cell 7, hI.cell 8, hI.cell 9, hI.cell 10, hI.cell 11⟩ | go_keep)
      (first
      | (go_at_call 38; refine (partBytes_any _ _).mono ?_; rintro e w' ⟨rfl, rfl⟩)
      | (go_at_call 37; refine (addHead_any _ _ _ _ h.drew k _ (by (try simp) <;> omega)).mono ?_; rintro e w' ⟨rfl, G1, h, hst⟩; replace hst := step_drew hst; replace hI := hI.step hst; replace hS := hS.trans hst; clear hst; have hbox := hI.cell))
    have hfl := size_lt k hb64
    have HL : Hid (IntKind.i64.wrap (IntKind.i64.wrap (20 + partN k.proto) + (k.body.size : Int)) = flen k) := by
      show _ = _
      rw [wrap_i64 (20 + partN k.proto) (by omega) (by omega), wrap_i64 _ (by omega) (by omega)]; rfl
    go_wp2_with (first
      | (go_at_call 46; refine (addPart_any _ _ _ _ h k hk hb64 hr (by (try simp) <;> omega)).mono ?_; rintro e w' ⟨rfl, G1, h, hst⟩; replace hI := hI.step hst; replace hS := hS.trans hst; clear hst; have hbox := hI.cell)
      | (go_at_call 40; have hpl := pt_len k 0 hk; refine (addText_any _ _ _ _ h _ (by simp <;> omega)).mono ?_; rintro e w' ⟨rfl, G1, h, hst⟩; replace hI := hI.step hst; replace hS := hS.trans hst; clear hst; have hbox := hI.cell; rw [HL.out, List.nil_append, List.append_assoc] at h; change Fr _ _ _ (fr k 0 0) at h)
      | (go_at_call 41; obtain ⟨g, hG, hpg, hrd⟩ := h.rd (by intro e; have := congrArg List.length e; simp [fr] at this); rw [hG] at hS; refine (sealHead_any _ g _ _ hrd (by have := fr_len k 0 0 hk; omega)).mono ?_; rintro e w' ⟨rfl, hrd, hst⟩; rw [hG] at hI; replace hI := hI.step hst; replace hS := hS.trans hst; clear hst; have hbox := hI.cell; rw [sealH_fr] at hrd)
      | (go_at_call 42; refine (sealPart_any _ g _ _ hrd k.proto (chkAt_lt k _ _ hk) (by have := fr_len k (chkH k) 0 hk; omega)).mono ?_; rintro e w' ⟨rfl, hrd, hst⟩; replace hS := hS.trans hst; clear hst; rw [sealP_fr k _ hk] at hrd)
      | (go_at_call 35; refine (text_any _ g _ _ hrd).mono ?_; rintro e w' ⟨rfl, rfl⟩))
    go_ret2
    exact ⟨ret_two (congrArg Value.string HB.out.symm) (congrArg (Value.int .i64) hg.symm), (below_new hb1).trans ((below_of_new hS).mono (by omega))⟩
  · have HB : Hid (built k = ByteArray.empty) := by show _ = _; unfold built; rw [if_neg hg]
    have hg' : (good k == 0) = false := by simpa using hg
    unfold pv
    go_enter Try.func16, Try.ntmps16
    go_wp2_with (first | (go_at_call 18; refine (good_any k _ hsz).mono ?_; rintro e w1 ⟨rfl, hb1⟩) | (go_at_call 29; refine (failedS_any _ _).mono ?_; rintro e w' ⟨rfl, rfl⟩))
    go_ret2
    exact ⟨ret_two (congrArg Value.string HB.out.symm) rfl, below_new hb1⟩
end Go.Proofs.Ythcedehppflcgab
