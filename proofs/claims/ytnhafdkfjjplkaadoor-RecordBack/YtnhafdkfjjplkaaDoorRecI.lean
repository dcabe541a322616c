/-
  The mathematics of reading messages.
-/
import Derived.Test.YtnhafdkfjjplkaaDoorRecT
import Derived.Test.YtnhafdkfjjplkaaDoorRecM0
namespace Go.Proofs.YtnhafdkfjjplkaaDoor
open Go.ChangeShapes Go.WideShapes Go.ChangeAt Go.RowKit
set_option linter.unusedSimpArgs false
set_option linter.unusedVariables false

theorem num_from (l : List UInt8) (n : Int) (h : 0 ≤ n) : 0 ≤ l.foldl (fun n c => 256 * n + (c.toNat : Int)) n ∧ l.foldl (fun n c => 256 * n + (c.toNat : Int)) n < (n + 1) * 256 ^ l.length := by
  induction l generalizing n with
  | nil => simp; omega
  | cons c r ih =>
    have hc := byte_bd c
    have := ih (256 * n + (c.toNat : Int)) (by omega)
    rw [List.foldl_cons, List.length_cons, Int.pow_succ]
    refine ⟨this.1, Int.lt_of_lt_of_le this.2 ?_⟩
    have h1 : (256 * n + (c.toNat : Int) + 1) ≤ (n + 1) * 256 := by omega
    have h2 : (0 : Int) ≤ 256 ^ r.length := Int.pow_nonneg (by decide)
    have := Int.mul_le_mul_of_nonneg_right h1 h2
    rw [Int.mul_comm (256 ^ r.length) 256, ← Int.mul_assoc]
    exact this
theorem num_lt (l : List UInt8) : 0 ≤ num l ∧ num l < 256 ^ l.length := by
  have := num_from l 0 (by omega)
  simpa [num] using this
theorem num_le {l : List UInt8} {k : Nat} (h : l.length ≤ k) (hk : k ≤ 4) : 0 ≤ num l ∧ num l ≤ 4294967295 := by
  have h0 := num_lt l
  refine ⟨h0.1, ?_⟩
  rcases (show l.length = 0 ∨ l.length = 1 ∨ l.length = 2 ∨ l.length = 3 ∨ l.length = 4 by omega) with e | e | e | e | e <;> rw [e] at h0 <;> simp at h0 <;> omega
theorem num_le2 {l : List UInt8} (h : l.length ≤ 2) : num l ≤ 65535 := by
  have h0 := num_lt l
  rcases (show l.length = 0 ∨ l.length = 1 ∨ l.length = 2 by omega) with e | e | e <;> rw [e] at h0 <;> simp at h0 <;> omega
theorem num_le1 {l : List UInt8} (h : l.length ≤ 1) : num l ≤ 255 := by
  have h0 := num_lt l
  rcases (show l.length = 0 ∨ l.length = 1 by omega) with e | e <;> rw [e] at h0 <;> simp at h0 <;> omega
theorem wrap_small {x : Int} (h0 : -9223372036854775808 ≤ x) (h1 : x ≤ 9223372036854775807) : wrap64 x = x := by unfold wrap64; omega
theorem wrap_bd (x : Int) : -9223372036854775808 ≤ wrap64 x ∧ wrap64 x ≤ 9223372036854775807 := by unfold wrap64; omega
theorem num_be (v : Int) (n : Nat) : num (be v n) = v % 256 ^ n := by
  induction n generalizing v with
  | zero => simp [be, num]
  | succ n ih =>
    unfold be
    rw [num_snoc, ih, b8_nat, Int.pow_succ]
    have h2 : (0 : Int) < 256 ^ n := Int.pow_pos (by decide)
    generalize (256 : Int) ^ n = m at *
    have e1 := Int.emod_add_mul_ediv v 256
    have e2 := Int.emod_add_mul_ediv (v / 256) m
    have e3 := Int.emod_nonneg (v / 256) (b := m) (by omega)
    have e4 := Int.emod_lt_of_pos (v / 256) h2
    have e5 := Int.emod_nonneg v (b := 256) (by decide)
    have e6 := Int.emod_lt_of_pos v (b := 256) (by decide)
    have key : v = (256 * ((v / 256) % m) + v % 256) + (m * 256) * ((v / 256) / m) := by
      have : 256 * (v / 256) = 256 * ((v / 256) % m) + (m * 256) * ((v / 256) / m) := by
        conv => lhs; rw [← e2]
        rw [Int.mul_add, Int.mul_comm m 256, Int.mul_assoc]
      omega
    have hb : 0 ≤ 256 * ((v / 256) % m) + v % 256 := by omega
    have hl : 256 * ((v / 256) % m) + v % 256 < m * 256 := by omega
    conv => rhs; rw [key]
    rw [Int.add_mul_emod_self_left, Int.emod_eq_of_lt hb hl]
/-- the number at a place. -/
def nAt (l : List UInt8) (a k : Nat) : Int := num ((l.drop a).take k)
theorem nAt_bd (l : List UInt8) (a k : Nat) (hk : k ≤ 4) : 0 ≤ nAt l a k ∧ nAt l a k ≤ 4294967295 := num_le (k := k) (by rw [List.length_take]; omega) hk
theorem nAt_bd2 (l : List UInt8) (a : Nat) : nAt l a 2 ≤ 65535 := num_le2 (by rw [List.length_take]; omega)
/-- the event that some bytes would be. -/
def rdE (l : List UInt8) : Ev := ⟨wrap64 (nAt l 0 8), nAt l 8 4 - 167772160 - 1, nAt l 12 4 - 3405803776 - 1, (nAt l 16 2 - 1024).tdiv 8, nAt l 20 1 == 2⟩
def okR (l : List UInt8) : Prop := okE (rdE l) ∧ evB (rdE l) = l.take 21
theorem take_app (l r : List UInt8) (a b k n : Nat) (h : l.length = n) (m : List UInt8) (hm : l = m) : True := trivial
theorem nAt_mid (x y z : List UInt8) (k : Nat) (hy : y.length = k) (a : Nat) (ha : x.length = a) : nAt (x ++ (y ++ z)) a k = num y := by
  unfold nAt
  rw [← ha, List.drop_left, ← hy, List.take_left]
theorem rd_ev (e : Ev) (h : okE e) (z : List UInt8) : rdE (evB e ++ z) = e := by
  obtain ⟨⟨t0, t1⟩, ⟨s0, s1⟩, ⟨a0, a1⟩, b0, b1⟩ := h
  have hk := mkE_bd e
  have e0 : nAt (evB e ++ z) 0 8 = e.t := by
    have := nAt_mid [] (be e.t 8) (be (167772161 + e.s) 4 ++ be (3405803777 + e.a) 4 ++ be (1024 + e.b * 8) 2 ++ be (1024 + e.b * 8 + 8 - 1) 2 ++ be (mkE e) 1 ++ z) 8 (be_len _ _) 0 rfl
    rw [num_be] at this
    rw [show evB e ++ z = [] ++ (be e.t 8 ++ (be (167772161 + e.s) 4 ++ be (3405803777 + e.a) 4 ++ be (1024 + e.b * 8) 2 ++ be (1024 + e.b * 8 + 8 - 1) 2 ++ be (mkE e) 1 ++ z)) by simp [evB], this]
    omega
  have e1 : nAt (evB e ++ z) 8 4 = 167772161 + e.s := by
    have := nAt_mid (be e.t 8) (be (167772161 + e.s) 4) (be (3405803777 + e.a) 4 ++ be (1024 + e.b * 8) 2 ++ be (1024 + e.b * 8 + 8 - 1) 2 ++ be (mkE e) 1 ++ z) 4 (be_len _ _) 8 (be_len _ _)
    rw [num_be] at this
    rw [show evB e ++ z = be e.t 8 ++ (be (167772161 + e.s) 4 ++ (be (3405803777 + e.a) 4 ++ be (1024 + e.b * 8) 2 ++ be (1024 + e.b * 8 + 8 - 1) 2 ++ be (mkE e) 1 ++ z)) by simp [evB], this]
    omega
  have e2 : nAt (evB e ++ z) 12 4 = 3405803777 + e.a := by
    have := nAt_mid (be e.t 8 ++ be (167772161 + e.s) 4) (be (3405803777 + e.a) 4) (be (1024 + e.b * 8) 2 ++ be (1024 + e.b * 8 + 8 - 1) 2 ++ be (mkE e) 1 ++ z) 4 (be_len _ _) 12 (by simp [be_len])
    rw [num_be] at this
    rw [show evB e ++ z = be e.t 8 ++ be (167772161 + e.s) 4 ++ (be (3405803777 + e.a) 4 ++ (be (1024 + e.b * 8) 2 ++ be (1024 + e.b * 8 + 8 - 1) 2 ++ be (mkE e) 1 ++ z)) by simp [evB], this]
    omega
  have e3 : nAt (evB e ++ z) 16 2 = 1024 + e.b * 8 := by
    have := nAt_mid (be e.t 8 ++ be (167772161 + e.s) 4 ++ be (3405803777 + e.a) 4) (be (1024 + e.b * 8) 2) (be (1024 + e.b * 8 + 8 - 1) 2 ++ be (mkE e) 1 ++ z) 2 (be_len _ _) 16 (by simp [be_len])
    rw [num_be] at this
    rw [show evB e ++ z = be e.t 8 ++ be (167772161 + e.s) 4 ++ be (3405803777 + e.a) 4 ++ (be (1024 + e.b * 8) 2 ++ (be (1024 + e.b * 8 + 8 - 1) 2 ++ be (mkE e) 1 ++ z)) by simp [evB], this]
    omega
  have e4 : nAt (evB e ++ z) 20 1 = mkE e := by
    have := nAt_mid (be e.t 8 ++ be (167772161 + e.s) 4 ++ be (3405803777 + e.a) 4 ++ be (1024 + e.b * 8) 2 ++ be (1024 + e.b * 8 + 8 - 1) 2) (be (mkE e) 1) z 1 (be_len _ _) 20 (by simp [be_len])
    rw [num_be] at this
    rw [show evB e ++ z = be e.t 8 ++ be (167772161 + e.s) 4 ++ be (3405803777 + e.a) 4 ++ be (1024 + e.b * 8) 2 ++ be (1024 + e.b * 8 + 8 - 1) 2 ++ (be (mkE e) 1 ++ z) by simp [evB], this]
    omega
  unfold rdE
  rw [e0, e1, e2, e3, e4, wrap_small (by omega) (by omega)]
  obtain ⟨t, s, a, b, fr⟩ := e
  simp only at *
  have h5 : (1024 + b * 8 - 1024).tdiv 8 = b := by
    rw [show 1024 + b * 8 - 1024 = 8 * b by omega, Int.mul_tdiv_cancel_left _ (by decide)]
  rw [h5, show 167772161 + s - 167772160 - 1 = s by omega, show 3405803777 + a - 3405803776 - 1 = a by omega]
  cases fr <;> simp [mkE]
theorem okR_of {l : List UInt8} {e : Ev} (h : okE e) (he : evB e = l.take 21) : okR l ∧ rdE l = e := by
  have hl : l = evB e ++ l.drop 21 := by rw [he, List.take_append_drop]
  have hr : rdE l = e := by rw [hl]; exact rd_ev e h _
  exact ⟨by unfold okR; rw [hr]; exact ⟨h, he⟩, hr⟩
/-- is the last event of a later time? -/
def laterE (es : List Ev) (t : Int) : Bool := match es.getLast? with
  | none => false
  | some e => decide (t < e.t)
theorem laterE_nil (t : Int) : laterE [] t = false := rfl
theorem laterE_at {es : List Ev} (h : 0 < es.length) (t : Int) {e : Ev} (he : es[es.length - 1]'(by omega) = e) : laterE es t = decide (t < e.t) := by
  unfold laterE
  have : es.getLast? = some e := by rw [List.getLast?_eq_getElem?, List.getElem?_eq_getElem (by omega), he]
  rw [this]
def evs.dec (time : Int) (l : List UInt8) (es : List Ev) : Decidable (okR l ∧ (rdE l).t % 4294967296 = time ∧ laterE es (rdE l).t = false) := by unfold okR; have := okE.dec; infer_instance
/-- the events of one message. -/
def evs (time : Int) : Nat → List UInt8 → List Ev → Option (List Ev)
  | 0, _, es => some es
  | c + 1, l, es => @ite _ (okR l ∧ (rdE l).t % 4294967296 = time ∧ laterE es (rdE l).t = false) (evs.dec time l es) (evs time c (l.drop 21) (es ++ [rdE l])) none
theorem evs_yes {time : Int} {c : Nat} {l : List UInt8} {es : List Ev} (h : okR l ∧ (rdE l).t % 4294967296 = time ∧ laterE es (rdE l).t = false) : evs time (c + 1) l es = evs time c (l.drop 21) (es ++ [rdE l]) := if_pos h
theorem evs_no {time : Int} {c : Nat} {l : List UInt8} {es : List Ev} (h : ¬ (okR l ∧ (rdE l).t % 4294967296 = time ∧ laterE es (rdE l).t = false)) : evs time (c + 1) l es = none := if_neg h
/-- what is wrong with a head. -/
def headE (l : List UInt8) : Int :=
  if l.length < 16 then 1 else
  if nAt l 0 2 ≠ 10 ∨ nAt l 2 2 < 20 ∨ (l.length : Int) < nAt l 2 2 ∨ nAt l 12 4 ≠ 1 then 1 else
  if (nAt l 16 2 ≠ 2 ∧ nAt l 16 2 ≠ 300) ∨ nAt l 18 2 ≠ nAt l 2 2 - 16 then 1 else 0
/-- one message: an error, or what is left, whether a template was read, the events. -/
def stepM (l : List UInt8) (d : Bool) (es : List Ev) : Int × List UInt8 × Bool × List Ev :=
  if headE l ≠ 0 then (headE l, [], false, []) else
  if nAt l 8 4 ≠ (es.length : Int) then (3, [], false, []) else
  if nAt l 16 2 = 2 then (if l.take (nAt l 2 2).toNat = msgB 0 (es.length : Int) 2 (tplB 6) then (0, l.drop (nAt l 2 2).toNat, true, es) else (4, [], false, [])) else
  if d = false then (7, [], false, []) else
  if nAt l 2 2 = 20 ∨ (nAt l 2 2 - 20) % 21 ≠ 0 then (1, [], false, []) else
  match evs (nAt l 4 4) ((nAt l 2 2 - 20) / 21).toNat (l.drop 20) es with
  | none => (2, [], false, [])
  | some es' => (0, l.drop (nAt l 2 2).toNat, d, es')
def runM : Nat → List UInt8 → Bool → List Ev → Int × List Ev
  | 0, _, _, es => (0, es)
  | n + 1, l, d, es => if l.length = 0 then (0, es) else if (stepM l d es).1 ≠ 0 then ((stepM l d es).1, []) else runM n (stepM l d es).2.1 (stepM l d es).2.2.1 (stepM l d es).2.2.2
theorem runM_end (n : Nat) (l : List UInt8) (d : Bool) (es : List Ev) (h : l.length = 0) : runM n l d es = (0, es) := by
  cases n with
  | zero => rfl
  | succ n => unfold runM; rw [if_pos h]
theorem runM_err (n : Nat) (l : List UInt8) (d : Bool) (es : List Ev) (h : l.length ≠ 0) (hE : (stepM l d es).1 ≠ 0) : runM (n + 1) l d es = ((stepM l d es).1, []) := by
  unfold runM; rw [if_neg h, if_pos hE]
theorem runM_ok (n : Nat) (l : List UInt8) (d : Bool) (es : List Ev) (h : l.length ≠ 0) {l' : List UInt8} {d' : Bool} {es' : List Ev} (hE : stepM l d es = (0, l', d', es')) : runM (n + 1) l d es = runM n l' d' es' := by
  conv => lhs; unfold runM
  rw [if_neg h, hE]; simp
theorem headE_bd (l : List UInt8) : headE l = 0 ∨ headE l = 1 := by unfold headE; split <;> (try split) <;> (try split) <;> simp
theorem headE_ok {l : List UInt8} (h : headE l = 0) : 16 ≤ l.length ∧ nAt l 0 2 = 10 ∧ 20 ≤ nAt l 2 2 ∧ nAt l 2 2 ≤ (l.length : Int) ∧ nAt l 12 4 = 1 ∧ (nAt l 16 2 = 2 ∨ nAt l 16 2 = 300) ∧ nAt l 18 2 = nAt l 2 2 - 16 := by
  unfold headE at h
  split at h
  · simp at h
  · split at h
    · simp at h
    · split at h
      · simp at h
      · omega
theorem evs_len {time : Int} {c : Nat} {l : List UInt8} {es es' : List Ev} (h : evs time c l es = some es') : es'.length = es.length + c := by
  induction c generalizing l es with
  | zero => have : es = es' := by simpa [evs] using h
            subst this; rfl
  | succ c ih =>
    by_cases hk : okR l ∧ (rdE l).t % 4294967296 = time ∧ laterE es (rdE l).t = false
    · rw [evs_yes hk] at h; have := ih h; simp at this; omega
    · rw [evs_no hk] at h; simp at h
end Go.Proofs.YtnhafdkfjjplkaaDoor
