/-
  What is told in messages is read as it was, and not with a byte less.
-/
import Derived.Test.YtnhafdkfjjplkaaDoorRecI
namespace Go.Proofs.YtnhafdkfjjplkaaDoor
open Go.ChangeShapes Go.WideShapes Go.ChangeAt Go.RowKit
set_option linter.unusedSimpArgs false
set_option linter.unusedVariables false

theorem mid_takeB (l : List UInt8) (N a k : Nat) (h : a + k ≤ N) : ((l.take N).drop a).take k = (l.drop a).take k := by
  rw [List.drop_take, List.take_take]; congr 1; omega
theorem msg_at0 (t q k : Int) (l z : List UInt8) (hl : l.length ≤ 60000) (hq0 : 0 ≤ q) (hq1 : q ≤ 4294967295) (hk0 : 0 ≤ k) (hk1 : k ≤ 300) : nAt (msgB t q k l ++ z) 0 2 = 10 := by
  have h := nAt_mid ([]) (be 10 2) (be (20 + (l.length : Int)) 2 ++ (be (t % 4294967296) 4 ++ (be q 4 ++ (be 1 4 ++ (be k 2 ++ (be (4 + (l.length : Int)) 2 ++ (l ++ z))))))) 2 (be_len _ _) 0 (by simp [be_len])
  rw [num_be] at h
  rw [show msgB t q k l ++ z = ([]) ++ (be 10 2 ++ (be (20 + (l.length : Int)) 2 ++ (be (t % 4294967296) 4 ++ (be q 4 ++ (be 1 4 ++ (be k 2 ++ (be (4 + (l.length : Int)) 2 ++ (l ++ z)))))))) by simp [msgB], h]
  omega
theorem msg_at1 (t q k : Int) (l z : List UInt8) (hl : l.length ≤ 60000) (hq0 : 0 ≤ q) (hq1 : q ≤ 4294967295) (hk0 : 0 ≤ k) (hk1 : k ≤ 300) : nAt (msgB t q k l ++ z) 2 2 = 20 + (l.length : Int) := by
  have h := nAt_mid (be 10 2) (be (20 + (l.length : Int)) 2) (be (t % 4294967296) 4 ++ (be q 4 ++ (be 1 4 ++ (be k 2 ++ (be (4 + (l.length : Int)) 2 ++ (l ++ z)))))) 2 (be_len _ _) 2 (by simp [be_len])
  rw [num_be] at h
  rw [show msgB t q k l ++ z = (be 10 2) ++ (be (20 + (l.length : Int)) 2 ++ (be (t % 4294967296) 4 ++ (be q 4 ++ (be 1 4 ++ (be k 2 ++ (be (4 + (l.length : Int)) 2 ++ (l ++ z))))))) by simp [msgB], h]
  omega
theorem msg_at2 (t q k : Int) (l z : List UInt8) (hl : l.length ≤ 60000) (hq0 : 0 ≤ q) (hq1 : q ≤ 4294967295) (hk0 : 0 ≤ k) (hk1 : k ≤ 300) : nAt (msgB t q k l ++ z) 4 4 = t % 4294967296 := by
  have h := nAt_mid (be 10 2 ++ be (20 + (l.length : Int)) 2) (be (t % 4294967296) 4) (be q 4 ++ (be 1 4 ++ (be k 2 ++ (be (4 + (l.length : Int)) 2 ++ (l ++ z))))) 4 (be_len _ _) 4 (by simp [be_len])
  rw [num_be] at h
  rw [show msgB t q k l ++ z = (be 10 2 ++ be (20 + (l.length : Int)) 2) ++ (be (t % 4294967296) 4 ++ (be q 4 ++ (be 1 4 ++ (be k 2 ++ (be (4 + (l.length : Int)) 2 ++ (l ++ z)))))) by simp [msgB], h]
  omega
theorem msg_at3 (t q k : Int) (l z : List UInt8) (hl : l.length ≤ 60000) (hq0 : 0 ≤ q) (hq1 : q ≤ 4294967295) (hk0 : 0 ≤ k) (hk1 : k ≤ 300) : nAt (msgB t q k l ++ z) 8 4 = q := by
  have h := nAt_mid (be 10 2 ++ be (20 + (l.length : Int)) 2 ++ be (t % 4294967296) 4) (be q 4) (be 1 4 ++ (be k 2 ++ (be (4 + (l.length : Int)) 2 ++ (l ++ z)))) 4 (be_len _ _) 8 (by simp [be_len])
  rw [num_be] at h
  rw [show msgB t q k l ++ z = (be 10 2 ++ be (20 + (l.length : Int)) 2 ++ be (t % 4294967296) 4) ++ (be q 4 ++ (be 1 4 ++ (be k 2 ++ (be (4 + (l.length : Int)) 2 ++ (l ++ z))))) by simp [msgB], h]
  omega
theorem msg_at4 (t q k : Int) (l z : List UInt8) (hl : l.length ≤ 60000) (hq0 : 0 ≤ q) (hq1 : q ≤ 4294967295) (hk0 : 0 ≤ k) (hk1 : k ≤ 300) : nAt (msgB t q k l ++ z) 12 4 = 1 := by
  have h := nAt_mid (be 10 2 ++ be (20 + (l.length : Int)) 2 ++ be (t % 4294967296) 4 ++ be q 4) (be 1 4) (be k 2 ++ (be (4 + (l.length : Int)) 2 ++ (l ++ z))) 4 (be_len _ _) 12 (by simp [be_len])
  rw [num_be] at h
  rw [show msgB t q k l ++ z = (be 10 2 ++ be (20 + (l.length : Int)) 2 ++ be (t % 4294967296) 4 ++ be q 4) ++ (be 1 4 ++ (be k 2 ++ (be (4 + (l.length : Int)) 2 ++ (l ++ z)))) by simp [msgB], h]
  omega
theorem msg_at5 (t q k : Int) (l z : List UInt8) (hl : l.length ≤ 60000) (hq0 : 0 ≤ q) (hq1 : q ≤ 4294967295) (hk0 : 0 ≤ k) (hk1 : k ≤ 300) : nAt (msgB t q k l ++ z) 16 2 = k := by
  have h := nAt_mid (be 10 2 ++ be (20 + (l.length : Int)) 2 ++ be (t % 4294967296) 4 ++ be q 4 ++ be 1 4) (be k 2) (be (4 + (l.length : Int)) 2 ++ (l ++ z)) 2 (be_len _ _) 16 (by simp [be_len])
  rw [num_be] at h
  rw [show msgB t q k l ++ z = (be 10 2 ++ be (20 + (l.length : Int)) 2 ++ be (t % 4294967296) 4 ++ be q 4 ++ be 1 4) ++ (be k 2 ++ (be (4 + (l.length : Int)) 2 ++ (l ++ z))) by simp [msgB], h]
  omega
theorem msg_at6 (t q k : Int) (l z : List UInt8) (hl : l.length ≤ 60000) (hq0 : 0 ≤ q) (hq1 : q ≤ 4294967295) (hk0 : 0 ≤ k) (hk1 : k ≤ 300) : nAt (msgB t q k l ++ z) 18 2 = 4 + (l.length : Int) := by
  have h := nAt_mid (be 10 2 ++ be (20 + (l.length : Int)) 2 ++ be (t % 4294967296) 4 ++ be q 4 ++ be 1 4 ++ be k 2) (be (4 + (l.length : Int)) 2) (l ++ z) 2 (be_len _ _) 18 (by simp [be_len])
  rw [num_be] at h
  rw [show msgB t q k l ++ z = (be 10 2 ++ be (20 + (l.length : Int)) 2 ++ be (t % 4294967296) 4 ++ be q 4 ++ be 1 4 ++ be k 2) ++ (be (4 + (l.length : Int)) 2 ++ (l ++ z)) by simp [msgB], h]
  omega
theorem msg_head (t q k : Int) (l z : List UInt8) (hl : l.length ≤ 60000) (hq0 : 0 ≤ q) (hq1 : q ≤ 4294967295) (hk : k = 2 ∨ k = 300) : headE (msgB t q k l ++ z) = 0 := by
  have hk0 : 0 ≤ k := by omega
  have hk1 : k ≤ 300 := by omega
  have hlen : (msgB t q k l ++ z).length = 20 + l.length + z.length := by rw [List.length_append, msgB_len]
  unfold headE
  rw [msg_at0 t q k l z hl hq0 hq1 hk0 hk1, msg_at1 t q k l z hl hq0 hq1 hk0 hk1, msg_at4 t q k l z hl hq0 hq1 hk0 hk1, msg_at5 t q k l z hl hq0 hq1 hk0 hk1, msg_at6 t q k l z hl hq0 hq1 hk0 hk1, hlen]
  rw [if_neg (by omega), if_neg (by omega), if_neg (by omega)]
theorem msg_drop (t q k : Int) (l z : List UInt8) : (msgB t q k l ++ z).drop (20 + l.length) = z := by
  rw [← msgB_len t q k l, List.drop_left]
theorem msg_take (t q k : Int) (l z : List UInt8) : (msgB t q k l ++ z).take (20 + l.length) = msgB t q k l := by
  rw [← msgB_len t q k l, List.take_left]
theorem msg_drop20 (t q k : Int) (l z : List UInt8) : (msgB t q k l ++ z).drop 20 = l ++ z := by
  have : msgB t q k l ++ z = (be 10 2 ++ be (20 + (l.length : Int)) 2 ++ be (t % 4294967296) 4 ++ be q 4 ++ be 1 4 ++ be k 2 ++ be (4 + (l.length : Int)) 2) ++ (l ++ z) := by simp [msgB]
  rw [this]
  have h20 : (be 10 2 ++ be (20 + (l.length : Int)) 2 ++ be (t % 4294967296) 4 ++ be q 4 ++ be 1 4 ++ be k 2 ++ be (4 + (l.length : Int)) 2).length = 20 := by simp [be_len]
  rw [← h20, List.drop_left]
theorem tpl_step (z : List UInt8) : stepM (msgB 0 0 2 (tplB 6) ++ z) false [] = (0, z, true, []) := by
  have hl : (tplB 6).length = 28 := tplB_six
  unfold stepM
  rw [if_neg (by rw [msg_head 0 0 2 (tplB 6) z (by omega) (by omega) (by omega) (.inl rfl)]; decide), msg_at3 0 0 2 (tplB 6) z (by omega) (by omega) (by omega) (by omega) (by omega), msg_at5 0 0 2 (tplB 6) z (by omega) (by omega) (by omega) (by omega) (by omega), msg_at1 0 0 2 (tplB 6) z (by omega) (by omega) (by omega) (by omega) (by omega)]
  rw [if_neg (by simp), if_pos rfl, show (20 + ((tplB 6).length : Int)).toNat = 20 + (tplB 6).length by omega, msg_take, msg_drop, if_pos (by simp)]
/-- the events of one time, behind those that are no later. -/
theorem evs_told (t : Int) (ps : List Ev) (z : List UInt8) (es : List Ev) (hp : ∀ e ∈ ps, okE e ∧ e.t = t) (hla : laterE es t = false) : evs (t % 4294967296) ps.length (setB ps ++ z) es = some (es ++ ps) := by
  induction ps generalizing es with
  | nil => simp [evs]
  | cons e r ih =>
    obtain ⟨hk, ht⟩ := hp e (by simp)
    have e1 : setB (e :: r) ++ z = evB e ++ (setB r ++ z) := by simp [setB]
    have hr := rd_ev e hk (setB r ++ z)
    have hok : okR (evB e ++ (setB r ++ z)) := by
      unfold okR; rw [hr]; exact ⟨hk, by rw [← evB_len e, List.take_left]⟩
    rw [e1, List.length_cons, evs_yes ⟨hok, by rw [hr, ht], by rw [hr, ht]; exact hla⟩, hr, ← evB_len e, List.drop_left, ih (es ++ [e]) (fun x hx => hp x (by simp [hx])) ?_]
    · simp
    · unfold laterE; simp [ht]
theorem ev_step (t : Int) (ps es : List Ev) (z : List UInt8) (hp : ∀ e ∈ ps, okE e ∧ e.t = t) (h0 : 0 < ps.length) (h64 : ps.length ≤ 64) (hes : es.length ≤ 100000) (hla : laterE es t = false) : stepM (msgB t (es.length : Int) 300 (setB ps) ++ z) true es = (0, z, true, es ++ ps) := by
  have hl : (setB ps).length = 21 * ps.length := setB_len ps
  have q0 : (0 : Int) ≤ (es.length : Int) := by omega
  have q1 : (es.length : Int) ≤ 4294967295 := by omega
  have a1 := msg_at1 t (es.length : Int) 300 (setB ps) z (by omega) q0 q1 (by omega) (by omega)
  unfold stepM
  rw [if_neg (by rw [msg_head t _ 300 (setB ps) z (by omega) q0 q1 (.inr rfl)]; decide), msg_at3 t _ 300 (setB ps) z (by omega) q0 q1 (by omega) (by omega), msg_at5 t _ 300 (setB ps) z (by omega) q0 q1 (by omega) (by omega), a1, msg_at2 t _ 300 (setB ps) z (by omega) q0 q1 (by omega) (by omega)]
  rw [if_neg (by simp), if_neg (by decide), if_neg (by simp), if_neg (by omega), show ((20 + ((setB ps).length : Int) - 20) / 21).toNat = ps.length by omega, msg_drop20, evs_told t ps z es hp hla, show (20 + ((setB ps).length : Int)).toNat = 20 + (setB ps).length by omega, msg_drop]
/-- with a byte less it is not of the form that is wanted. -/
theorem msg_less (t q k : Int) (l : List UInt8) (hl : l.length ≤ 60000) (hl1 : 0 < l.length) (hq0 : 0 ≤ q) (hq1 : q ≤ 4294967295) (hk : k = 2 ∨ k = 300) (d : Bool) (es : List Ev) : stepM ((msgB t q k l).take (20 + l.length - 1)) d es = (1, [], false, []) := by
  have a1 := msg_at1 t q k l [] hl hq0 hq1 (by omega) (by omega)
  rw [List.append_nil] at a1
  have e1 : nAt ((msgB t q k l).take (20 + l.length - 1)) 2 2 = 20 + (l.length : Int) := by
    rw [← a1]; unfold nAt; rw [mid_takeB _ _ _ _ (by omega)]
  have hlen : ((msgB t q k l).take (20 + l.length - 1)).length = 20 + l.length - 1 := by rw [List.length_take, msgB_len]; omega
  have hh : headE ((msgB t q k l).take (20 + l.length - 1)) = 1 := by
    unfold headE
    rw [hlen, if_neg (by omega), e1, if_pos (by omega)]
  unfold stepM
  rw [if_pos (by rw [hh]; decide), hh]
/-- what was told: its text, and its events. -/
def ToldS (S : List UInt8) (all : List Ev) : Prop :=
  ∃ P m d0 es0 t q k l, S = P ++ msgB t q k l ∧ m ≤ P.length ∧ (∀ n z, runM (n + m) (P ++ z) false [] = runM n z d0 es0) ∧ (∀ z, stepM (msgB t q k l ++ z) d0 es0 = (0, z, true, all)) ∧ 0 < l.length ∧ l.length ≤ 60000 ∧ 0 ≤ q ∧ q ≤ 4294967295 ∧ (k = 2 ∨ k = 300)
theorem told_nil : ToldS (msgB 0 0 2 (tplB 6)) [] := by
  have hl : (tplB 6).length = 28 := tplB_six
  exact ⟨[], 0, false, [], 0, 0, 2, tplB 6, rfl, Nat.le_refl _, fun n z => rfl, tpl_step, by omega, by omega, by omega, by omega, .inl rfl⟩
theorem runM_msg (t q k : Int) (l z : List UInt8) (d : Bool) (es all : List Ev) (h : stepM (msgB t q k l ++ z) d es = (0, z, true, all)) (n : Nat) : runM (n + 1) (msgB t q k l ++ z) d es = runM n z true all :=
  runM_ok n _ d es (by rw [List.length_append, msgB_len]; omega) h
theorem told_more {S : List UInt8} {all : List Ev} (h : ToldS S all) (t : Int) (ps : List Ev) (hp : ∀ e ∈ ps, okE e ∧ e.t = t) (h0 : 0 < ps.length) (h64 : ps.length ≤ 64) (hes : all.length ≤ 100000) (hla : laterE all t = false) : ToldS (S ++ msgB t (all.length : Int) 300 (setB ps)) (all ++ ps) := by
  obtain ⟨P, m, d0, es0, t0, q0, k0, l0, hS, hm, hP, hst, _⟩ := h
  have hl : (setB ps).length = 21 * ps.length := setB_len ps
  refine ⟨S, m + 1, true, all, t, (all.length : Int), 300, setB ps, rfl, ?_, fun n z => ?_, fun z => ev_step t ps all z hp h0 h64 hes hla, by omega, by omega, by omega, by omega, .inr rfl⟩
  · rw [hS, List.length_append, msgB_len]; omega
  · rw [hS, List.append_assoc, show n + (m + 1) = (n + 1) + m by omega, hP, runM_msg _ _ _ _ _ _ _ _ (hst z)]
theorem told_read {S : List UInt8} {all : List Ev} (h : ToldS S all) : runM S.length S false [] = (0, all) := by
  obtain ⟨P, m, d0, es0, t, q, k, l, hS, hm, hP, hst, _⟩ := h
  have hlen : S.length = P.length + (20 + l.length) := by rw [hS, List.length_append, msgB_len]
  obtain ⟨n, hn⟩ : ∃ n, S.length = (n + 1) + m := ⟨S.length - m - 1, by omega⟩
  rw [hn, hS, hP]
  have := runM_msg t q k l [] d0 es0 all (hst []) n
  rw [List.append_nil] at this
  rw [this, runM_end _ _ _ _ rfl]
theorem told_less {S : List UInt8} {all : List Ev} (h : ToldS S all) : (runM (S.length - 1) (S.take (S.length - 1)) false []).1 = 1 := by
  obtain ⟨P, m, d0, es0, t, q, k, l, hS, hm, hP, hst, hl0, hl1, hq0, hq1, hk⟩ := h
  have hlen : S.length = P.length + (20 + l.length) := by rw [hS, List.length_append, msgB_len]
  obtain ⟨n, hn⟩ : ∃ n, S.length - 1 = (n + 1) + m := ⟨S.length - 1 - m - 1, by omega⟩
  have e1 : S.take (S.length - 1) = P ++ (msgB t q k l).take (20 + l.length - 1) := by
    rw [hS, List.take_append, List.take_of_length_le (by rw [List.length_append, msgB_len]; omega)]
    congr 1
    rw [List.length_append, msgB_len]; congr 1; omega
  have hs := msg_less t q k l hl1 hl0 hq0 hq1 hk d0 es0
  rw [e1, hn, hP, runM_err n _ d0 es0 (by rw [List.length_take, msgB_len]; omega) (by rw [hs]; decide), hs]
end Go.Proofs.YtnhafdkfjjplkaaDoor
