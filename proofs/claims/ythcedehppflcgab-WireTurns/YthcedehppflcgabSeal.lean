/-
  The walks of what a check is of, and of the checks laid upon a frame.
-/
import Derived.Test.YthcedehppflcgabRd
namespace Go.Proofs.Ythcedehppflcgab
open Go.ChangeShapes Go.WideShapes Go.ChangeAt Go.RowKit

theorem ret_str {a b : ByteArray} (h : a = b) : Ending.returned (.string a) = .returned (.string b) := by rw [h]
theorem ext_list (s : ByteArray) (a b : Nat) : (s.extract a b).data.toList = (s.data.toList.drop a).take (b - a) := by
  rw [ByteArray.data_extract, Array.toList_extract]
theorem ext_txt (s : ByteArray) (a b : Nat) : s.extract a b = txt ((s.data.toList.drop a).take (b - a)) := by
  rw [← ext_list, txt_of]
theorem ext_from (s : ByteArray) (a : Nat) : (s.extract a s.size).data.toList = s.data.toList.drop a := by
  rw [ext_list, List.take_of_length_le]
  rw [List.length_drop]
  have : s.data.toList.length = s.size := by simp
  omega
theorem ext_size (s : ByteArray) (a b : Nat) (h : b ≤ s.size) : (s.extract a b).size = b - a := by
  simp [ByteArray.size_extract]; omega

/-- all that the check behind the head is of. -/
def chkd (l : List UInt8) (proto : Int) : List UInt8 :=
  if proto = 1 then l.drop 20 else (l.drop 12).take 8 ++ (w16 proto ++ (w16 ((l.length : Int) - 20) ++ l.drop 20))
theorem chkd_len (l : List UInt8) (proto : Int) : (chkd l proto).length ≤ l.length + 12 := by
  unfold chkd; split <;> simp <;> omega
theorem fr_new (w : World) : Fr (w.alloc (.cells #[.slice none 0 0] 51)) w.heap.size none [] :=
  ⟨_, heap_alloc_new w _, rfl, World.ownsRow_nil _ _ _ _⟩
theorem below_of_new {w w' : World} {o : Obj} {G' : Option Nat} (h : Step w.heap.size none G' (w.alloc o) w') : Below w.heap.size w w' :=
  ((Below.refl _ _).alloc (Nat.le_refl _) o).trans (h.below (by simp) (Nat.le_refl _) (fun k e => by cases e))
theorem checked_any (s : ByteArray) (proto : Int) (w : World) (h0 : 20 ≤ s.size) (h1 : s.size ≤ 500000) :
    Calls Try.prog 51 #[.string s, .int .i64 proto] w fun e w' => e = .returned (.string (txt (chkd s.data.toList proto))) ∧ Below w.heap.size w w' := by
  by_cases hp : proto = 1
  · subst hp
    go_enter Try.func51, Try.ntmps51
    go_wp2
    go_ret
    exact ⟨ret_str (by rw [← txt_of (s.extract 20 s.size), ext_from]; rfl), Below.refl _ _⟩
  · have h := fr_new w
    have hS := (Step.refl w.heap.size none (w.alloc (.cells #[.slice none 0 0] 51)))
    have z1 : (s.extract 12 20).size = 8 := ext_size s 12 20 h0
    have z2 : (s.extract 20 s.size).size = s.size - 20 := ext_size s 20 s.size (Nat.le_refl _)
    have z3 : ((s.size - 20 : Nat) : Int) = (s.size : Int) - 20 := by omega
    have E : Hid (chkd s.data.toList proto = (s.extract 12 20).data.toList ++ w16 proto ++ w16 ((s.size : Int) - 20) ++ (s.extract 20 s.size).data.toList) := by
      show _ = _
      have e : s.data.toList.length = s.size := by simp
      rw [ext_from, ext_list, chkd, if_neg hp, e]; simp
    go_enter Try.func51, Try.ntmps51
    go_wp2_with (first
      | (go_at_call 40; refine (addText_any _ _ _ _ h _ (by simp [z1, z2] <;> omega)).mono ?_; rintro e w' ⟨rfl, G1, h, hst⟩; replace hS := hS.trans hst; clear hst)
      | (go_at_call 61; refine (addWord_any _ _ _ _ h _ (by (try simp) <;> omega)).mono ?_; rintro e w' ⟨rfl, G1, h, hst⟩; replace hS := hS.trans hst; clear hst)
      | (go_at_call 35; obtain ⟨g, hG, hpg, hrd⟩ := h.rd (by intro e; have := congrArg List.length e; simp at this); refine (text_any _ g _ _ hrd).mono ?_; rintro e w' ⟨rfl, rfl⟩))
    go_ret
    exact ⟨ret_str (by rw [E.out]; simp), below_of_new hS⟩
theorem checkT_any (l : List UInt8) (w : World) (hs : l.length ≤ 562949953421312) :
    Calls Try.prog 64 #[.string (txt l)] w fun e w' => e = .returned (.int .i64 (65535 - bk (tot l))) ∧ w' = w := by
  have := check_any (txt l) w (by rw [txt_size]; exact hs)
  rw [txt_list] at this
  exact this
theorem ofT_any (l : List UInt8) (w : World) (hs : l.length ≤ 562949953421312) :
    Calls Try.prog 50 #[.string (txt l)] w fun e w' => e = .returned (.int .i64 (bk (tot l))) ∧ w' = w := by
  have := of_any (txt l) w (by rw [txt_size]; exact hs)
  rw [txt_list] at this
  exact this
/-- a frame with its head's check laid upon it. -/
def ckH (l : List UInt8) : Int := 65535 - bk (tot (l.take 20))
def sealH (l : List UInt8) : List UInt8 := setW (setW l 10 0) 10 (ckH (setW l 10 0))
theorem sealHead_any (p g : Nat) (l : List UInt8) (w : World) (h : Rd w p g l) (hl : 20 ≤ l.length) :
    Calls Try.prog 41 #[.pointer (some ⟨p, 0, none⟩)] w fun e w' => e = .returned (.tuple #[]) ∧ Rd w' p g (sealH l) ∧ Step p (some g) (some g) w w' := by
  have hS := Step.refl p (some g) w
  go_enter Try.func41, Try.ntmps41
  go_wp2_with (first
    | (go_at_call 63; refine (setWord_any p g _ _ h 10 _ (by (try simp) <;> omega)).mono ?_; rintro e w' ⟨rfl, h, hst⟩; replace hS := hS.trans hst; clear hst; obtain ⟨cap, hpc, _, hcap, hcm, hcv⟩ := h.facts; have hcv20 := hcv 20 (by (try simp) <;> omega); clear hcv; unfold maxLen at hcm; simp only [setW_len] at hcap)
    | (go_at_call 64; refine (checkT_any _ _ (by (try simp) <;> omega)).mono ?_; rintro e w' ⟨rfl, rfl⟩))
  go_end0
  exact ⟨rfl, h, hS⟩
/-- a frame with its other check laid upon it. -/
def ckP (l : List UInt8) (proto : Int) : Int := 65535 - bk (tot (chkd l proto))
def ckQ (c proto : Int) : Int := if proto = 17 ∧ c = 0 then 65535 else c
def sealP (l : List UInt8) (proto : Int) : List UInt8 := setW (setW l (chkAt proto) 0) (chkAt proto) (ckQ (ckP (setW l (chkAt proto) 0) proto) proto)
theorem sealPart_any (p g : Nat) (l : List UInt8) (w : World) (h : Rd w p g l) (proto : Int) (hl : chkAt proto + 1 < l.length) (hm : l.length ≤ 400000) :
    Calls Try.prog 42 #[.pointer (some ⟨p, 0, none⟩), .int .i64 proto] w fun e w' => e = .returned (.tuple #[]) ∧ Rd w' p g (sealP l proto) ∧ Step p (some g) (some g) w w' := by
  have hS := Step.refl p (some g) w
  have h20 : 20 ≤ chkAt proto := by unfold chkAt; split <;> (try split) <;> omega
  have hck : ∀ (l : List UInt8) (w : World), l.length ≤ 500000 → Calls Try.prog 64 #[.string (txt (chkd l proto))] w fun e w' => e = .returned (.int .i64 (ckP l proto)) ∧ w' = w := by
    intro l w h'
    have := chkd_len l proto
    exact checkT_any (chkd l proto) w (by omega)
  by_cases hu : proto = 17
  · by_cases hc : ckP (setW l (chkAt proto) 0) proto = 0
    · have Q : Hid (ckQ (ckP (setW l (chkAt proto) 0) proto) proto = 65535) := by show _ = _; unfold ckQ; rw [if_pos ⟨hu, hc⟩]
      have hc' : (ckP (setW l (chkAt proto) 0) proto == 0) = true := by simpa using hc
      have hu' : (proto == 17) = true := by simpa using hu
      clear hc hu
      go_enter Try.func42, Try.ntmps42
      go_wp2_with (first
        | (go_at_call 52; refine (checkAt_any _ _).mono ?_; rintro e w' ⟨rfl, rfl⟩)
        | (go_at_call 63; refine (setWord_any p g _ _ h (chkAt proto) _ (by (try simp) <;> omega)).mono ?_; rintro e w' ⟨rfl, h, hst⟩; replace hS := hS.trans hst; clear hst)
        | (go_at_call 35; refine (text_any p g _ _ h).mono ?_; rintro e w' ⟨rfl, rfl⟩)
        | (go_at_call 51; refine (checked_any _ _ _ (by rw [txt_size]; (try simp) <;> omega) (by rw [txt_size]; (try simp) <;> omega)).mono ?_; rintro e w' ⟨rfl, hb⟩; rw [txt_list]; replace h := h.below hb; replace hS := hS.trans (Step.ofBelow hb); clear hb)
        | (go_at_call 64; refine (hck _ _ (by (try simp) <;> omega)).mono ?_; rintro e w' ⟨rfl, rfl⟩))
      go_end0
      exact ⟨rfl, by unfold sealP; rw [Q.out]; exact h, hS⟩
    · have Q : Hid (ckQ (ckP (setW l (chkAt proto) 0) proto) proto = ckP (setW l (chkAt proto) 0) proto) := by show _ = _; unfold ckQ; rw [if_neg (fun e => hc e.2)]
      have hc' : (ckP (setW l (chkAt proto) 0) proto == 0) = false := by simpa using hc
      have hu' : (proto == 17) = true := by simpa using hu
      clear hc hu
      go_enter Try.func42, Try.ntmps42
      go_wp2_with (first
        | (go_at_call 52; refine (checkAt_any _ _).mono ?_; rintro e w' ⟨rfl, rfl⟩)
        | (go_at_call 63; refine (setWord_any p g _ _ h (chkAt proto) _ (by (try simp) <;> omega)).mono ?_; rintro e w' ⟨rfl, h, hst⟩; replace hS := hS.trans hst; clear hst)
        | (go_at_call 35; refine (text_any p g _ _ h).mono ?_; rintro e w' ⟨rfl, rfl⟩)
        | (go_at_call 51; refine (checked_any _ _ _ (by rw [txt_size]; (try simp) <;> omega) (by rw [txt_size]; (try simp) <;> omega)).mono ?_; rintro e w' ⟨rfl, hb⟩; rw [txt_list]; replace h := h.below hb; replace hS := hS.trans (Step.ofBelow hb); clear hb)
        | (go_at_call 64; refine (hck _ _ (by (try simp) <;> omega)).mono ?_; rintro e w' ⟨rfl, rfl⟩))
      go_end0
      exact ⟨rfl, by unfold sealP; rw [Q.out]; exact h, hS⟩
  · have Q : Hid (ckQ (ckP (setW l (chkAt proto) 0) proto) proto = ckP (setW l (chkAt proto) 0) proto) := by show _ = _; unfold ckQ; rw [if_neg (fun e => hu e.1)]
    have hu' : (proto == 17) = false := by simpa using hu
    clear hu
    go_enter Try.func42, Try.ntmps42
    go_wp2_with (first
      | (go_at_call 52; refine (checkAt_any _ _).mono ?_; rintro e w' ⟨rfl, rfl⟩)
      | (go_at_call 63; refine (setWord_any p g _ _ h (chkAt proto) _ (by (try simp) <;> omega)).mono ?_; rintro e w' ⟨rfl, h, hst⟩; replace hS := hS.trans hst; clear hst)
      | (go_at_call 35; refine (text_any p g _ _ h).mono ?_; rintro e w' ⟨rfl, rfl⟩)
      | (go_at_call 51; refine (checked_any _ _ _ (by rw [txt_size]; (try simp) <;> omega) (by rw [txt_size]; (try simp) <;> omega)).mono ?_; rintro e w' ⟨rfl, hb⟩; rw [txt_list]; replace h := h.below hb; replace hS := hS.trans (Step.ofBelow hb); clear hb)
      | (go_at_call 64; refine (hck _ _ (by (try simp) <;> omega)).mono ?_; rintro e w' ⟨rfl, rfl⟩))
    go_end0
    exact ⟨rfl, by unfold sealP; rw [Q.out]; exact h, hS⟩
end Go.Proofs.Ythcedehppflcgab
