/-
  The walks of the pool: Drain, Undrain, Empty.
-/
import Derived.Test.YtmdijjbkjcnbpaaPoolIn
namespace Go.Proofs.Ytmdijjbkjcnbpaa
open Go.ChangeShapes Go.WideShapes Go.ChangeAt Go.RowKit
set_option linter.unusedSimpArgs false
set_option linter.unusedVariables false

/-- Drain, Undrain: the error, and what is drained behind it. -/
def drainE (g : Nat → Bool) (a : Int) (b : Bool) : Int := if inR a 3 = true then (if g a.toNat = b then 8 else 0) else 7
def drainG (g : Nat → Bool) (a : Int) (b : Bool) : Nat → Bool := if drainE g a b = 0 then updB g a.toNat b else g
def drainS (f : Nat → Int) (g : Nat → Bool) (a : Int) (b : Bool) : Value := .tuple #[plv f (drainG g a b), .int .i64 (drainE g a b)]
theorem drainS_out {f : Nat → Int} {g : Nat → Bool} {a : Int} {b : Bool} (h : a < 0 ∨ 3 ≤ a) : drainS f g a b = .tuple #[plv f g, .int .i64 7] := by
  have e : drainE g a b = 7 := by unfold drainE; rw [if_neg (by simp [inR_false h])]
  unfold drainS drainG; rw [e]; rfl
theorem drainS_twice {f : Nat → Int} {g : Nat → Bool} {a : Nat} {b : Bool} (h : a < 3) (h1 : g a = b) : drainS f g a b = .tuple #[plv f g, .int .i64 8] := by
  have e : drainE g a b = 8 := by unfold drainE; rw [if_pos (inR_true (by omega) (by omega)), Int.toNat_natCast, if_pos h1]
  unfold drainS drainG; rw [e]; rfl
theorem drainS_ok {f : Nat → Int} {g : Nat → Bool} {a : Nat} {b : Bool} (h : a < 3) (h1 : g a ≠ b) : drainS f g a b = .tuple #[plv f (updB g a b), .int .i64 0] := by
  have e : drainE g a b = 0 := by unfold drainE; rw [if_pos (inR_true (by omega) (by omega)), Int.toNat_natCast, if_neg h1]
  unfold drainS drainG; rw [e, Int.toNat_natCast]; rfl
/-- whether an address is drained, and nobody has a block of it. -/
def emptyP (f : Nat → Int) (g : Nat → Bool) (a : Int) : Bool := inR a 3 && g a.toNat && (leftP f a == 6)
theorem emptyP_out {f : Nat → Int} {g : Nat → Bool} {a : Int} (h : a < 0 ∨ 3 ≤ a) : emptyP f g a = false := by unfold emptyP; rw [inR_false h]; rfl
theorem emptyP_in {f : Nat → Int} {g : Nat → Bool} {a : Nat} (h : a < 3) : emptyP f g a = (g a && (leftP f a == 6)) := by unfold emptyP; rw [inR_true (by omega) (by omega), Int.toNat_natCast]; rfl
set_option maxRecDepth 10000 in
set_option maxHeartbeats 4000000 in
theorem setDr_any (f : Nat → Int) (g : Nat → Bool) (a : Int) (b : Bool) (w : World) :
    Calls Try.prog 49 #[plv f g, .int .i64 a, .bool b] w fun e w' => e = .returned (drainS f g a b) ∧ Below w.heap.size w w' := by
  have T0 : PRow ((w.alloc (.cells (pc f g) 26)).alloc (.cells #[.int .i64 0, .int .i64 0, .int .i64 0, .int .i64 0, .int .i64 0, .int .i64 0, .int .i64 0, .int .i64 0, .int .i64 0, .int .i64 0, .int .i64 0, .int .i64 0, .int .i64 0, .int .i64 0, .int .i64 0, .int .i64 0, .int .i64 0, .int .i64 0, .bool false, .bool false, .bool false] 26)) w.heap.size (pc f g) := (PRow.new _ _).alloc _
  have T8 : PRow ((w.alloc (.cells (pc f g) 26)).alloc (.cells #[.int .i64 0, .int .i64 0, .int .i64 0, .int .i64 0, .int .i64 0, .int .i64 0, .int .i64 0, .int .i64 0, .int .i64 0, .int .i64 0, .int .i64 0, .int .i64 0, .int .i64 0, .int .i64 0, .int .i64 0, .int .i64 0, .int .i64 0, .int .i64 0, .bool false, .bool false, .bool false] 26)) (w.heap.size + 1) (pc (fun _ => 0) (fun _ => false)) := by
    have h8 : PRow ((w.alloc (.cells (pc f g) 26)).alloc (.cells #[.int .i64 0, .int .i64 0, .int .i64 0, .int .i64 0, .int .i64 0, .int .i64 0, .int .i64 0, .int .i64 0, .int .i64 0, .int .i64 0, .int .i64 0, .int .i64 0, .int .i64 0, .int .i64 0, .int .i64 0, .int .i64 0, .int .i64 0, .int .i64 0, .bool false, .bool false, .bool false] 26)) (w.alloc (.cells (pc f g) 26)).heap.size #[.int .i64 0, .int .i64 0, .int .i64 0, .int .i64 0, .int .i64 0, .int .i64 0, .int .i64 0, .int .i64 0, .int .i64 0, .int .i64 0, .int .i64 0, .int .i64 0, .int .i64 0, .int .i64 0, .int .i64 0, .int .i64 0, .int .i64 0, .int .i64 0, .bool false, .bool false, .bool false] := PRow.new _ _
    have e8 : (w.alloc (.cells (pc f g) 26)).heap.size = w.heap.size + 1 := by simp
    rw [e8] at h8
    exact h8
  have hB : Below w.heap.size w ((w.alloc (.cells (pc f g) 26)).alloc (.cells #[.int .i64 0, .int .i64 0, .int .i64 0, .int .i64 0, .int .i64 0, .int .i64 0, .int .i64 0, .int .i64 0, .int .i64 0, .int .i64 0, .int .i64 0, .int .i64 0, .int .i64 0, .int .i64 0, .int .i64 0, .int .i64 0, .int .i64 0, .int .i64 0, .bool false, .bool false, .bool false] 26)) := ((Below.refl _ _).alloc (Nat.le_refl _) _).alloc (by simp) _
  have CA := fun w => isAddress_any a w
  unfold plv
  by_cases hin : 0 ≤ a ∧ a < 3
  rotate_left
  · have HS : Hid (drainS f g a b = _) := drainS_out (by omega)
    rw [inR_false (by omega)] at CA
    clear hin
    go_enter Try.func49, Try.ntmps49
    go_upto_region 1 with fail
    generalize ((w.alloc (.cells (pc f g) 26)).alloc (.cells #[.int .i64 0, .int .i64 0, .int .i64 0, .int .i64 0, .int .i64 0, .int .i64 0, .int .i64 0, .int .i64 0, .int .i64 0, .int .i64 0, .int .i64 0, .int .i64 0, .int .i64 0, .int .i64 0, .int .i64 0, .int .i64 0, .int .i64 0, .int .i64 0, .bool false, .bool false, .bool false] 26)) = w1 at *
    go_wp2_with (first
          | (refine wpList_load_pool _ rfl ?_ _ rfl f g T0 ?_; · rfl)
          | (refine wpList_store_pool rfl _ _ rfl _ rfl f g rfl _ T8 rfl ?_; intro w8 T8 hs8 hk8 hb8; replace T0 := hk8 _ _ (by omega) T0; replace hB := hb8 _ _ (by omega) hB)
          | (go_at_call 55; go_fit (CA _); rintro e w' ⟨rfl, rfl⟩))
    ((try simp only [Exit.inBlock, Exit.then]); refine bodyPost_ret (results_pool2 rfl _ _ _ _ _ rfl T8) rfl ⟨?_, hB⟩)
    rw [HS.out]; rfl
  obtain ⟨n, rfl⟩ : ∃ n : Nat, a = n := ⟨a.toNat, by omega⟩
  have hn : n < 3 := by omega
  rw [inR_true hin.1 hin.2] at CA
  clear hin
  rcases (show n = 0 ∨ n = 1 ∨ n = 2 by omega) with rfl | rfl | rfl
  · have dr : ((w.alloc (.cells (pc f g) 26)).alloc (.cells #[.int .i64 0, .int .i64 0, .int .i64 0, .int .i64 0, .int .i64 0, .int .i64 0, .int .i64 0, .int .i64 0, .int .i64 0, .int .i64 0, .int .i64 0, .int .i64 0, .int .i64 0, .int .i64 0, .int .i64 0, .int .i64 0, .int .i64 0, .int .i64 0, .bool false, .bool false, .bool false] 26)).cell? ⟨w.heap.size, 18, none⟩ = some (.bool (g 0)) := T0.dr 0 (by omega)
    have fr : ((w.alloc (.cells (pc f g) 26)).alloc (.cells #[.int .i64 0, .int .i64 0, .int .i64 0, .int .i64 0, .int .i64 0, .int .i64 0, .int .i64 0, .int .i64 0, .int .i64 0, .int .i64 0, .int .i64 0, .int .i64 0, .int .i64 0, .int .i64 0, .int .i64 0, .int .i64 0, .int .i64 0, .int .i64 0, .bool false, .bool false, .bool false] 26)).frozen? ⟨w.heap.size, 18, none⟩ = false := T0.free 18
    by_cases he : g 0 = b
    · have HS : Hid (drainS f g ((0 : Nat) : Int) b = _) := drainS_twice hn he
      have hq : (g 0 == b) = true := by simpa using he
      clear he
      go_enter Try.func49, Try.ntmps49
      go_upto_region 1 with fail
      generalize ((w.alloc (.cells (pc f g) 26)).alloc (.cells #[.int .i64 0, .int .i64 0, .int .i64 0, .int .i64 0, .int .i64 0, .int .i64 0, .int .i64 0, .int .i64 0, .int .i64 0, .int .i64 0, .int .i64 0, .int .i64 0, .int .i64 0, .int .i64 0, .int .i64 0, .int .i64 0, .int .i64 0, .int .i64 0, .bool false, .bool false, .bool false] 26)) = w1 at *
      go_wp2_with (first
          | (refine wpList_load_pool _ rfl ?_ _ rfl f g T0 ?_; · rfl)
          | (refine wpList_store_pool rfl _ _ rfl _ rfl f g rfl _ T8 rfl ?_; intro w8 T8 hs8 hk8 hb8; replace T0 := hk8 _ _ (by omega) T0; replace hB := hb8 _ _ (by omega) hB)
          | (go_at_call 55; go_fit (CA _); rintro e w' ⟨rfl, rfl⟩))
      ((try simp only [Exit.inBlock, Exit.then]); refine bodyPost_ret (results_pool2 rfl _ _ _ _ _ rfl T8) rfl ⟨?_, hB⟩)
      rw [HS.out]; rfl
    · have HS : Hid (drainS f g ((0 : Nat) : Int) b = _) := drainS_ok hn he
      have hq : (g 0 == b) = false := by simpa using he
      clear he
      go_enter Try.func49, Try.ntmps49
      go_upto_region 1 with fail
      generalize ((w.alloc (.cells (pc f g) 26)).alloc (.cells #[.int .i64 0, .int .i64 0, .int .i64 0, .int .i64 0, .int .i64 0, .int .i64 0, .int .i64 0, .int .i64 0, .int .i64 0, .int .i64 0, .int .i64 0, .int .i64 0, .int .i64 0, .int .i64 0, .int .i64 0, .int .i64 0, .int .i64 0, .int .i64 0, .bool false, .bool false, .bool false] 26)) = w1 at *
      go_wp2_with (first
          | (refine wpList_load_pool _ rfl ?_ _ rfl f g T0 ?_; · rfl)
          | (refine wpList_store_pool rfl _ _ rfl _ rfl f g rfl _ T8 rfl ?_; intro w8 T8 hs8 hk8 hb8; replace T0 := hk8 _ _ (by omega) T0; replace hB := hb8 _ _ (by omega) hB)
          | (replace T0 := T0.updB 0 (b) (by omega); replace T8 := T8.other (o := 18 + 0) (v := .bool (b)) (show w.heap.size + 1 ≠ w.heap.size by omega); replace hB := hB.setCell (p := ⟨w.heap.size, 18 + 0, none⟩) (Nat.le_refl _) (.bool (b)); refine wpList_load_pool _ rfl ?_ _ rfl f (updB g 0 (b)) T0 ?_; · rfl)
          | (refine wpList_store_pool rfl _ _ rfl _ rfl f (updB g 0 (b)) rfl _ T8 rfl ?_; intro w8 T8 hs8 hk8 hb8; replace hB := hb8 _ _ (by omega) hB)
          | (go_at_call 55; go_fit (CA _); rintro e w' ⟨rfl, rfl⟩))
      ((try simp only [Exit.inBlock, Exit.then]); refine bodyPost_ret (results_pool2 rfl _ _ _ _ _ rfl T8) rfl ⟨?_, hB⟩)
      rw [HS.out]; rfl
  · have dr : ((w.alloc (.cells (pc f g) 26)).alloc (.cells #[.int .i64 0, .int .i64 0, .int .i64 0, .int .i64 0, .int .i64 0, .int .i64 0, .int .i64 0, .int .i64 0, .int .i64 0, .int .i64 0, .int .i64 0, .int .i64 0, .int .i64 0, .int .i64 0, .int .i64 0, .int .i64 0, .int .i64 0, .int .i64 0, .bool false, .bool false, .bool false] 26)).cell? ⟨w.heap.size, 19, none⟩ = some (.bool (g 1)) := T0.dr 1 (by omega)
    have fr : ((w.alloc (.cells (pc f g) 26)).alloc (.cells #[.int .i64 0, .int .i64 0, .int .i64 0, .int .i64 0, .int .i64 0, .int .i64 0, .int .i64 0, .int .i64 0, .int .i64 0, .int .i64 0, .int .i64 0, .int .i64 0, .int .i64 0, .int .i64 0, .int .i64 0, .int .i64 0, .int .i64 0, .int .i64 0, .bool false, .bool false, .bool false] 26)).frozen? ⟨w.heap.size, 19, none⟩ = false := T0.free 19
    by_cases he : g 1 = b
    · have HS : Hid (drainS f g ((1 : Nat) : Int) b = _) := drainS_twice hn he
      have hq : (g 1 == b) = true := by simpa using he
      clear he
      go_enter Try.func49, Try.ntmps49
      go_upto_region 1 with fail
      generalize ((w.alloc (.cells (pc f g) 26)).alloc (.cells #[.int .i64 0, .int .i64 0, .int .i64 0, .int .i64 0, .int .i64 0, .int .i64 0, .int .i64 0, .int .i64 0, .int .i64 0, .int .i64 0, .int .i64 0, .int .i64 0, .int .i64 0, .int .i64 0, .int .i64 0, .int .i64 0, .int .i64 0, .int .i64 0, .bool false, .bool false, .bool false] 26)) = w1 at *
      go_wp2_with (first
          | (refine wpList_load_pool _ rfl ?_ _ rfl f g T0 ?_; · rfl)
          | (refine wpList_store_pool rfl _ _ rfl _ rfl f g rfl _ T8 rfl ?_; intro w8 T8 hs8 hk8 hb8; replace T0 := hk8 _ _ (by omega) T0; replace hB := hb8 _ _ (by omega) hB)
          | (go_at_call 55; go_fit (CA _); rintro e w' ⟨rfl, rfl⟩))
      ((try simp only [Exit.inBlock, Exit.then]); refine bodyPost_ret (results_pool2 rfl _ _ _ _ _ rfl T8) rfl ⟨?_, hB⟩)
      rw [HS.out]; rfl
    · have HS : Hid (drainS f g ((1 : Nat) : Int) b = _) := drainS_ok hn he
      have hq : (g 1 == b) = false := by simpa using he
      clear he
      go_enter Try.func49, Try.ntmps49
      go_upto_region 1 with fail
      generalize ((w.alloc (.cells (pc f g) 26)).alloc (.cells #[.int .i64 0, .int .i64 0, .int .i64 0, .int .i64 0, .int .i64 0, .int .i64 0, .int .i64 0, .int .i64 0, .int .i64 0, .int .i64 0, .int .i64 0, .int .i64 0, .int .i64 0, .int .i64 0, .int .i64 0, .int .i64 0, .int .i64 0, .int .i64 0, .bool false, .bool false, .bool false] 26)) = w1 at *
      go_wp2_with (first
          | (refine wpList_load_pool _ rfl ?_ _ rfl f g T0 ?_; · rfl)
          | (refine wpList_store_pool rfl _ _ rfl _ rfl f g rfl _ T8 rfl ?_; intro w8 T8 hs8 hk8 hb8; replace T0 := hk8 _ _ (by omega) T0; replace hB := hb8 _ _ (by omega) hB)
          | (replace T0 := T0.updB 1 (b) (by omega); replace T8 := T8.other (o := 18 + 1) (v := .bool (b)) (show w.heap.size + 1 ≠ w.heap.size by omega); replace hB := hB.setCell (p := ⟨w.heap.size, 18 + 1, none⟩) (Nat.le_refl _) (.bool (b)); refine wpList_load_pool _ rfl ?_ _ rfl f (updB g 1 (b)) T0 ?_; · rfl)
          | (refine wpList_store_pool rfl _ _ rfl _ rfl f (updB g 1 (b)) rfl _ T8 rfl ?_; intro w8 T8 hs8 hk8 hb8; replace hB := hb8 _ _ (by omega) hB)
          | (go_at_call 55; go_fit (CA _); rintro e w' ⟨rfl, rfl⟩))
      ((try simp only [Exit.inBlock, Exit.then]); refine bodyPost_ret (results_pool2 rfl _ _ _ _ _ rfl T8) rfl ⟨?_, hB⟩)
      rw [HS.out]; rfl
  · have dr : ((w.alloc (.cells (pc f g) 26)).alloc (.cells #[.int .i64 0, .int .i64 0, .int .i64 0, .int .i64 0, .int .i64 0, .int .i64 0, .int .i64 0, .int .i64 0, .int .i64 0, .int .i64 0, .int .i64 0, .int .i64 0, .int .i64 0, .int .i64 0, .int .i64 0, .int .i64 0, .int .i64 0, .int .i64 0, .bool false, .bool false, .bool false] 26)).cell? ⟨w.heap.size, 20, none⟩ = some (.bool (g 2)) := T0.dr 2 (by omega)
    have fr : ((w.alloc (.cells (pc f g) 26)).alloc (.cells #[.int .i64 0, .int .i64 0, .int .i64 0, .int .i64 0, .int .i64 0, .int .i64 0, .int .i64 0, .int .i64 0, .int .i64 0, .int .i64 0, .int .i64 0, .int .i64 0, .int .i64 0, .int .i64 0, .int .i64 0, .int .i64 0, .int .i64 0, .int .i64 0, .bool false, .bool false, .bool false] 26)).frozen? ⟨w.heap.size, 20, none⟩ = false := T0.free 20
    by_cases he : g 2 = b
    · have HS : Hid (drainS f g ((2 : Nat) : Int) b = _) := drainS_twice hn he
      have hq : (g 2 == b) = true := by simpa using he
      clear he
      go_enter Try.func49, Try.ntmps49
      go_upto_region 1 with fail
      generalize ((w.alloc (.cells (pc f g) 26)).alloc (.cells #[.int .i64 0, .int .i64 0, .int .i64 0, .int .i64 0, .int .i64 0, .int .i64 0, .int .i64 0, .int .i64 0, .int .i64 0, .int .i64 0, .int .i64 0, .int .i64 0, .int .i64 0, .int .i64 0, .int .i64 0, .int .i64 0, .int .i64 0, .int .i64 0, .bool false, .bool false, .bool false] 26)) = w1 at *
      go_wp2_with (first
          | (refine wpList_load_pool _ rfl ?_ _ rfl f g T0 ?_; · rfl)
          | (refine wpList_store_pool rfl _ _ rfl _ rfl f g rfl _ T8 rfl ?_; intro w8 T8 hs8 hk8 hb8; replace T0 := hk8 _ _ (by omega) T0; replace hB := hb8 _ _ (by omega) hB)
          | (go_at_call 55; go_fit (CA _); rintro e w' ⟨rfl, rfl⟩))
      ((try simp only [Exit.inBlock, Exit.then]); refine bodyPost_ret (results_pool2 rfl _ _ _ _ _ rfl T8) rfl ⟨?_, hB⟩)
      rw [HS.out]; rfl
    · have HS : Hid (drainS f g ((2 : Nat) : Int) b = _) := drainS_ok hn he
      have hq : (g 2 == b) = false := by simpa using he
      clear he
      go_enter Try.func49, Try.ntmps49
      go_upto_region 1 with fail
      generalize ((w.alloc (.cells (pc f g) 26)).alloc (.cells #[.int .i64 0, .int .i64 0, .int .i64 0, .int .i64 0, .int .i64 0, .int .i64 0, .int .i64 0, .int .i64 0, .int .i64 0, .int .i64 0, .int .i64 0, .int .i64 0, .int .i64 0, .int .i64 0, .int .i64 0, .int .i64 0, .int .i64 0, .int .i64 0, .bool false, .bool false, .bool false] 26)) = w1 at *
      go_wp2_with (first
          | (refine wpList_load_pool _ rfl ?_ _ rfl f g T0 ?_; · rfl)
          | (refine wpList_store_pool rfl _ _ rfl _ rfl f g rfl _ T8 rfl ?_; intro w8 T8 hs8 hk8 hb8; replace T0 := hk8 _ _ (by omega) T0; replace hB := hb8 _ _ (by omega) hB)
          | (replace T0 := T0.updB 2 (b) (by omega); replace T8 := T8.other (o := 18 + 2) (v := .bool (b)) (show w.heap.size + 1 ≠ w.heap.size by omega); replace hB := hB.setCell (p := ⟨w.heap.size, 18 + 2, none⟩) (Nat.le_refl _) (.bool (b)); refine wpList_load_pool _ rfl ?_ _ rfl f (updB g 2 (b)) T0 ?_; · rfl)
          | (refine wpList_store_pool rfl _ _ rfl _ rfl f (updB g 2 (b)) rfl _ T8 rfl ?_; intro w8 T8 hs8 hk8 hb8; replace hB := hb8 _ _ (by omega) hB)
          | (go_at_call 55; go_fit (CA _); rintro e w' ⟨rfl, rfl⟩))
      ((try simp only [Exit.inBlock, Exit.then]); refine bodyPost_ret (results_pool2 rfl _ _ _ _ _ rfl T8) rfl ⟨?_, hB⟩)
      rw [HS.out]; rfl
set_option maxRecDepth 10000 in
set_option maxHeartbeats 2000000 in
theorem drain_any (f : Nat → Int) (g : Nat → Bool) (a : Int) (w : World) :
    Calls Try.prog 25 #[plv f g, .int .i64 a] w fun e w' => e = .returned (drainS f g a true) ∧ Below w.heap.size w w' := by
  have T0 : PRow ((w.alloc (.cells (pc f g) 26)).alloc (.cells #[.int .i64 0, .int .i64 0, .int .i64 0, .int .i64 0, .int .i64 0, .int .i64 0, .int .i64 0, .int .i64 0, .int .i64 0, .int .i64 0, .int .i64 0, .int .i64 0, .int .i64 0, .int .i64 0, .int .i64 0, .int .i64 0, .int .i64 0, .int .i64 0, .bool false, .bool false, .bool false] 26)) w.heap.size (pc f g) := (PRow.new _ _).alloc _
  have T8 : PRow ((w.alloc (.cells (pc f g) 26)).alloc (.cells #[.int .i64 0, .int .i64 0, .int .i64 0, .int .i64 0, .int .i64 0, .int .i64 0, .int .i64 0, .int .i64 0, .int .i64 0, .int .i64 0, .int .i64 0, .int .i64 0, .int .i64 0, .int .i64 0, .int .i64 0, .int .i64 0, .int .i64 0, .int .i64 0, .bool false, .bool false, .bool false] 26)) (w.heap.size + 1) (pc (fun _ => 0) (fun _ => false)) := by
    have h8 : PRow ((w.alloc (.cells (pc f g) 26)).alloc (.cells #[.int .i64 0, .int .i64 0, .int .i64 0, .int .i64 0, .int .i64 0, .int .i64 0, .int .i64 0, .int .i64 0, .int .i64 0, .int .i64 0, .int .i64 0, .int .i64 0, .int .i64 0, .int .i64 0, .int .i64 0, .int .i64 0, .int .i64 0, .int .i64 0, .bool false, .bool false, .bool false] 26)) (w.alloc (.cells (pc f g) 26)).heap.size #[.int .i64 0, .int .i64 0, .int .i64 0, .int .i64 0, .int .i64 0, .int .i64 0, .int .i64 0, .int .i64 0, .int .i64 0, .int .i64 0, .int .i64 0, .int .i64 0, .int .i64 0, .int .i64 0, .int .i64 0, .int .i64 0, .int .i64 0, .int .i64 0, .bool false, .bool false, .bool false] := PRow.new _ _
    have e8 : (w.alloc (.cells (pc f g) 26)).heap.size = w.heap.size + 1 := by simp
    rw [e8] at h8
    exact h8
  have hB : Below w.heap.size w ((w.alloc (.cells (pc f g) 26)).alloc (.cells #[.int .i64 0, .int .i64 0, .int .i64 0, .int .i64 0, .int .i64 0, .int .i64 0, .int .i64 0, .int .i64 0, .int .i64 0, .int .i64 0, .int .i64 0, .int .i64 0, .int .i64 0, .int .i64 0, .int .i64 0, .int .i64 0, .int .i64 0, .int .i64 0, .bool false, .bool false, .bool false] 26)) := ((Below.refl _ _).alloc (Nat.le_refl _) _).alloc (by simp) _
  have C := fun w => setDr_any f g a true w
  unfold drainS at *
  generalize drainG g a true = G at *
  generalize drainE g a true = ee at *
  unfold plv at *
  go_enter Try.func25, Try.ntmps25
  go_wp2_with (first
    | (refine wpList_load_pool _ rfl ?_ _ rfl f g T0 ?_; · rfl)
    | (go_at_call 49; go_fit (C _); rintro e w' ⟨rfl, hb⟩; (try replace hb := below_undr' hb); replace T0 := T0.below hb; replace T8 := T8.below hb; replace hB := hB.trans (hb.mono hB.size))
    | (refine wpList_store_pool rfl _ _ rfl _ rfl f G rfl _ T8 rfl ?_; intro w8 T8 hs8 hk8 hb8; replace hB := hb8 _ _ (by omega) hB))
  ((try simp only [Exit.inBlock, Exit.then]); refine bodyPost_ret (results_pool2 rfl _ _ _ _ _ rfl T8) rfl ⟨rfl, hB⟩)
set_option maxRecDepth 10000 in
set_option maxHeartbeats 2000000 in
theorem undrain_any (f : Nat → Int) (g : Nat → Bool) (a : Int) (w : World) :
    Calls Try.prog 26 #[plv f g, .int .i64 a] w fun e w' => e = .returned (drainS f g a false) ∧ Below w.heap.size w w' := by
  have T0 : PRow ((w.alloc (.cells (pc f g) 26)).alloc (.cells #[.int .i64 0, .int .i64 0, .int .i64 0, .int .i64 0, .int .i64 0, .int .i64 0, .int .i64 0, .int .i64 0, .int .i64 0, .int .i64 0, .int .i64 0, .int .i64 0, .int .i64 0, .int .i64 0, .int .i64 0, .int .i64 0, .int .i64 0, .int .i64 0, .bool false, .bool false, .bool false] 26)) w.heap.size (pc f g) := (PRow.new _ _).alloc _
  have T8 : PRow ((w.alloc (.cells (pc f g) 26)).alloc (.cells #[.int .i64 0, .int .i64 0, .int .i64 0, .int .i64 0, .int .i64 0, .int .i64 0, .int .i64 0, .int .i64 0, .int .i64 0, .int .i64 0, .int .i64 0, .int .i64 0, .int .i64 0, .int .i64 0, .int .i64 0, .int .i64 0, .int .i64 0, .int .i64 0, .bool false, .bool false, .bool false] 26)) (w.heap.size + 1) (pc (fun _ => 0) (fun _ => false)) := by
    have h8 : PRow ((w.alloc (.cells (pc f g) 26)).alloc (.cells #[.int .i64 0, .int .i64 0, .int .i64 0, .int .i64 0, .int .i64 0, .int .i64 0, .int .i64 0, .int .i64 0, .int .i64 0, .int .i64 0, .int .i64 0, .int .i64 0, .int .i64 0, .int .i64 0, .int .i64 0, .int .i64 0, .int .i64 0, .int .i64 0, .bool false, .bool false, .bool false] 26)) (w.alloc (.cells (pc f g) 26)).heap.size #[.int .i64 0, .int .i64 0, .int .i64 0, .int .i64 0, .int .i64 0, .int .i64 0, .int .i64 0, .int .i64 0, .int .i64 0, .int .i64 0, .int .i64 0, .int .i64 0, .int .i64 0, .int .i64 0, .int .i64 0, .int .i64 0, .int .i64 0, .int .i64 0, .bool false, .bool false, .bool false] := PRow.new _ _
    have e8 : (w.alloc (.cells (pc f g) 26)).heap.size = w.heap.size + 1 := by simp
    rw [e8] at h8
    exact h8
  have hB : Below w.heap.size w ((w.alloc (.cells (pc f g) 26)).alloc (.cells #[.int .i64 0, .int .i64 0, .int .i64 0, .int .i64 0, .int .i64 0, .int .i64 0, .int .i64 0, .int .i64 0, .int .i64 0, .int .i64 0, .int .i64 0, .int .i64 0, .int .i64 0, .int .i64 0, .int .i64 0, .int .i64 0, .int .i64 0, .int .i64 0, .bool false, .bool false, .bool false] 26)) := ((Below.refl _ _).alloc (Nat.le_refl _) _).alloc (by simp) _
  have C := fun w => setDr_any f g a false w
  unfold drainS at *
  generalize drainG g a false = G at *
  generalize drainE g a false = ee at *
  unfold plv at *
  go_enter Try.func26, Try.ntmps26
  go_wp2_with (first
    | (refine wpList_load_pool _ rfl ?_ _ rfl f g T0 ?_; · rfl)
    | (go_at_call 49; go_fit (C _); rintro e w' ⟨rfl, hb⟩; (try replace hb := below_undr' hb); replace T0 := T0.below hb; replace T8 := T8.below hb; replace hB := hB.trans (hb.mono hB.size))
    | (refine wpList_store_pool rfl _ _ rfl _ rfl f G rfl _ T8 rfl ?_; intro w8 T8 hs8 hk8 hb8; replace hB := hb8 _ _ (by omega) hB))
  ((try simp only [Exit.inBlock, Exit.then]); refine bodyPost_ret (results_pool2 rfl _ _ _ _ _ rfl T8) rfl ⟨rfl, hB⟩)
end Go.Proofs.Ytmdijjbkjcnbpaa
