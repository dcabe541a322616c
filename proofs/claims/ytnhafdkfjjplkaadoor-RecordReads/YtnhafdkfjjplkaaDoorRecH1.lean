/-
  Is the last event later; a template that is read.
-/
import Derived.Test.YtnhafdkfjjplkaaDoorRecH0
namespace Go.Proofs.YtnhafdkfjjplkaaDoor
open Go.ChangeShapes Go.WideShapes Go.ChangeAt Go.RowKit
set_option linter.unusedSimpArgs false
set_option linter.unusedVariables false

set_option maxRecDepth 10000 in
theorem isLater_any (p : Nat) (l : List UInt8) (d : Bool) (v : Value) (es : List Ev) (t : Int) (w : World) (R : Rdr w p l d v) (hE : EvAt w v es) :
    Calls Tryd.prog 39 #[.pointer (some ⟨p, 0, none⟩), .int .i64 t] w fun x w' => x = .returned (.bool (laterE es t)) ∧ w' = w := by
  obtain ⟨a0, cap, hsl⟩ := hE.slice
  have hlen := hE.len
  unfold Rdr at R
  by_cases h0 : es.length = 0
  · have HL : Hid (laterE es t = false) := by show _ = _; rw [List.eq_nil_of_length_eq_zero h0]; rfl
    obtain ⟨n, hn⟩ : ∃ n, n = es.length := ⟨_, rfl⟩
    rw [← hn] at hsl
    subst hsl
    have h0' : ¬ 0 < n := by omega
    clear h0 hlen hn
    go_enter Tryd.func39, Tryd.ntmps39
    go_wp2_with (first
      | ((with_reducible refine atOp (.load 22 (.tmp 8)) rfl ?_); refine wpList_loadL R _ rfl rfl 2 rfl (.slice a0 n cap) rfl ?_))
    go_ret
    exact ⟨by rw [HL.out]; rfl, rfl⟩
  · obtain ⟨e, he⟩ : ∃ e, es[es.length - 1]'(by omega) = e := ⟨_, rfl⟩
    have HL : Hid (laterE es t = decide (t < e.t)) := laterE_at (by omega) t he
    have IR := hE.index (es.length - 1) (by omega) w
    have hc := hE.at (es.length - 1) (by omega) he 0 _ rfl
    obtain ⟨n, hn⟩ : ∃ n, n = es.length := ⟨_, rfl⟩
    rw [← hn] at hsl IR hc hlen
    subst hsl
    have h0' : 0 < n := by omega
    have hn1 : (n : Int) - 1 = ((n - 1 : Nat) : Int) := by omega
    rw [← hn1] at IR
    have hw1 : wrap64 ((n : Int) - 1) = (n : Int) - 1 := by unfold wrap64; omega
    clear he h0 hn hn1
    go_enter Tryd.func39, Tryd.ntmps39
    go_wp2_with (first
      | ((with_reducible refine atOp (.load 22 (.tmp 8)) rfl ?_); refine wpList_loadL R _ rfl rfl 2 rfl (.slice a0 n cap) rfl ?_)
      | ((with_reducible refine atOp (.load 22 (.tmp 16)) rfl ?_); refine wpList_loadL R _ rfl ?_ 2 rfl (.slice a0 n cap) rfl ?_; · rfl)
      | ((with_reducible refine atOp (.indexAddr 22 (.tmp 17) (.tmp 19)) rfl ?_); refine wpList_indexG 22 (.tmp 17) (.tmp 19) rfl ?_ _ _ _ rfl rfl IR ?_; · rfl)
      | ((with_reducible refine atOp (.load 3 (.tmp 21)) rfl ?_); refine wpList_loadC (.tmp 21) rfl ?_ _ _ rfl _ hc ?_; · rfl))
    go_ret
    exact ⟨by rw [HL.out]; rfl, rfl⟩
/-- a message's head: how long, its time, its number, its set. -/
def hdc (len time seq kind : Int) : Array Value := #[.int .i64 len, .int .i64 time, .int .i64 seq, .int .i64 kind]
theorem hdc_info (a b c d : Int) : (Tryd.prog.info? 71).map (·.size) = some (hdc a b c d).size := by kernel_rfl
theorem hdc_one (a b c d : Int) : (hdc a b c d).all (·.oneCell') = true := by kernel_rfl
theorem head_zero (w : World) : (zeroValue 71).run Tryd.prog w = .ok (.agg (hdc 0 0 0 0)) w := by kernel_rfl
theorem head_build (w : World) : (Instr.build 71 #[]).run Tryd.prog w = .ok (.agg (hdc 0 0 0 0)) w := by kernel_rfl
set_option maxRecDepth 10000 in
set_option maxHeartbeats 400000 in
theorem template_no (p : Nat) (l m : List UInt8) (d : Bool) (v : Value) (len time seq kind : Int) (w : World) (R : Rdr w p (l.drop 20) d v) (hT : Tab w) (hp : p ≠ 0) (hk0 : 20 ≤ len) (hk1 : len ≤ (l.length : Int)) (hl : l.length ≤ 140737488351232) (hq : longBR seq = true) (hm : m ≠ msgB 0 seq 2 (tplB 6)) :
    Calls Tryd.prog 34 #[.pointer (some ⟨p, 0, none⟩), .string (txt m), .agg (hdc len time seq kind)] w fun x w' => x = .returned (.int .i64 4) ∧ Moved p w w' := by
  have hM := Moved.refl p w
  have CT : ∀ w, Tab w → Calls Tryd.prog 10 #[.int .i64 seq] w fun x w' => x = .returned (.tuple #[.string (txt (msgB 0 seq 2 (tplB 6))), .int .i64 0]) ∧ Below w.heap.size w w' := fun w hT => by have := template_any seq w hT; rw [msgS_yes _ _ _ _ hq] at this; exact this
  have hne : (txt m).toList ≠ (txt (msgB 0 seq 2 (tplB 6))).toList := by rw [ByteArray.toList_eq, ByteArray.toList_eq, txt_list, txt_list]; exact hm
  have hne' : ((txt m).toList == (txt (msgB 0 seq 2 (tplB 6))).toList) = false := by simpa using hne
  clear hm hne
  generalize msgB 0 seq 2 (tplB 6) = M at *
  obtain ⟨k, rfl⟩ : ∃ k : Nat, len = 20 + (k : Int) := ⟨(len - 20).toNat, by omega⟩
  have hkl : 20 + k ≤ l.length := by omega
  have HKT : Hid ((20 + (k : Int)).toNat = 20 + k) := by show _ = _; omega
  have hkk : 20 + (k : Int) - 20 = (k : Int) := by omega
  have hks : (k : Int) ≤ 140737488351232 := by omega
  clear hq hk0 hk1
  go_enter Tryd.func34, Tryd.ntmps34
  go_wp2_with (first
    | ((with_reducible refine atOp (.box 71 (.tmp 2)) rfl ?_); refine wpList_boxR 71 rfl _ rfl (hdc (20 + (k : Int)) time seq kind) rfl ?_; intro b5 w2 g5 R5 hb2; have n5 : b5 ≠ p := (fun e => by have := R.lt; omega); replace R := Row.below R hb2; replace hT := hT.below hb2; replace hM := hM.trans (Moved.ofBelow hb2))
    | ((with_reducible refine atOp (.load 3 (.tmp 10)) rfl ?_); refine wpList_loadF R5 _ rfl rfl 2 rfl _ rfl ?_)
    | ((with_reducible refine atOp (.load 3 (.tmp 19)) rfl ?_); refine wpList_loadF R5 _ rfl rfl 0 rfl _ rfl ?_)
    | (go_at_call 10; go_fit (CT _ hT); rintro x w5 ⟨rfl, hb5⟩; replace R := Row.below R hb5; replace R5 := R5.below hb5; replace hM := hM.trans (Moved.ofBelow hb5))
    | (go_at_call 37; go_fit (takeA_any k _ R hkl hl); rintro x w5 ⟨rfl, R', hM5⟩; replace R := R'; clear R'; replace hM := hM.trans hM5; clear hM5)
    | ((with_reducible refine atOp (.store 4 (.tmp 25) (.const (.bool true))) rfl ?_); refine wpList_storeB R rfl _ _ rfl 1 rfl true rfl _ rfl _ (rc_setd _ _ _ _) ?_; intro w6 R t6; replace hM := hM.trans (Moved.ofTurned t6)))
  go_ret
  exact ⟨rfl, hM⟩
set_option maxRecDepth 10000 in
set_option maxHeartbeats 400000 in
theorem template_yes (p : Nat) (l m : List UInt8) (d : Bool) (v : Value) (len time seq kind : Int) (w : World) (R : Rdr w p (l.drop 20) d v) (hT : Tab w) (hp : p ≠ 0) (hk0 : 20 ≤ len) (hk1 : len ≤ (l.length : Int)) (hl : l.length ≤ 140737488351232) (hq : longBR seq = true) (hm : m = msgB 0 seq 2 (tplB 6)) :
    Calls Tryd.prog 34 #[.pointer (some ⟨p, 0, none⟩), .string (txt m), .agg (hdc len time seq kind)] w fun x w' => (x = .returned (.int .i64 0) ∧ Rdr w' p (l.drop len.toNat) true v) ∧ Moved p w w' := by
  have hM := Moved.refl p w
  have CT : ∀ w, Tab w → Calls Tryd.prog 10 #[.int .i64 seq] w fun x w' => x = .returned (.tuple #[.string (txt (msgB 0 seq 2 (tplB 6))), .int .i64 0]) ∧ Below w.heap.size w w' := fun w hT => by have := template_any seq w hT; rw [msgS_yes _ _ _ _ hq] at this; exact this
  subst hm
  have hne' : ((txt (msgB 0 seq 2 (tplB 6))).toList == (txt (msgB 0 seq 2 (tplB 6))).toList) = true := by simp
  generalize msgB 0 seq 2 (tplB 6) = M at *
  obtain ⟨k, rfl⟩ : ∃ k : Nat, len = 20 + (k : Int) := ⟨(len - 20).toNat, by omega⟩
  have hkl : 20 + k ≤ l.length := by omega
  have HKT : Hid ((20 + (k : Int)).toNat = 20 + k) := by show _ = _; omega
  have hkk : 20 + (k : Int) - 20 = (k : Int) := by omega
  have hks : (k : Int) ≤ 140737488351232 := by omega
  clear hq hk0 hk1
  go_enter Tryd.func34, Tryd.ntmps34
  go_wp2_with (first
    | ((with_reducible refine atOp (.box 71 (.tmp 2)) rfl ?_); refine wpList_boxR 71 rfl _ rfl (hdc (20 + (k : Int)) time seq kind) rfl ?_; intro b5 w2 g5 R5 hb2; have n5 : b5 ≠ p := (fun e => by have := R.lt; omega); replace R := Row.below R hb2; replace hT := hT.below hb2; replace hM := hM.trans (Moved.ofBelow hb2))
    | ((with_reducible refine atOp (.load 3 (.tmp 10)) rfl ?_); refine wpList_loadF R5 _ rfl rfl 2 rfl _ rfl ?_)
    | ((with_reducible refine atOp (.load 3 (.tmp 19)) rfl ?_); refine wpList_loadF R5 _ rfl rfl 0 rfl _ rfl ?_)
    | (go_at_call 10; go_fit (CT _ hT); rintro x w5 ⟨rfl, hb5⟩; replace R := Row.below R hb5; replace R5 := R5.below hb5; replace hM := hM.trans (Moved.ofBelow hb5))
    | (go_at_call 37; go_fit (takeA_any k _ R hkl hl); rintro x w5 ⟨rfl, R', hM5⟩; replace R := R'; clear R'; replace hM := hM.trans hM5; clear hM5)
    | ((with_reducible refine atOp (.store 4 (.tmp 25) (.const (.bool true))) rfl ?_); refine wpList_storeB R rfl _ _ rfl 1 rfl true rfl _ rfl _ (rc_setd _ _ _ _) ?_; intro w6 R t6; replace hM := hM.trans (Moved.ofTurned t6)))
  go_ret
  exact ⟨⟨rfl, by rw [HKT.out]; exact R⟩, hM⟩
end Go.Proofs.YtnhafdkfjjplkaaDoor
