/-
  An act that comes in by value: opened, and shut again; what a road that is nil answers.
-/
import Derived.Test.YtjlcljaoejoapaaGreatDoorNnS
import Derived.ShutString
import Derived.SizedLaws
namespace Go.Proofs.YtjlcljaoejoapaaGreatDoor
open Go.ChangeShapes Go.WideShapes Go.ChangeAt Go.RowKit
set_option linter.unusedSimpArgs false
set_option linter.unusedVariables false

/-- an act: kind, number, draw, frame. -/
structure Ac where
  kd : Int
  n : Int
  dr : Int
  fr : ByteArray
def ac (k : Ac) : Array Value := #[.int .i64 k.kd, .int .i64 k.n, .int .i64 k.dr, .string k.fr]
def Ac.wf (k : Ac) : Prop := (Lit.int .i64 k.kd).wf = true ∧ (Lit.int .i64 k.n).wf = true ∧ (Lit.int .i64 k.dr).wf = true ∧ k.fr.size ≤ maxLen
def Ac.ok (k : Ac) : Prop := (Lit.int .i64 k.kd).wf = true ∧ (Lit.int .i64 k.n).wf = true ∧ (Lit.int .i64 k.dr).wf = true ∧ k.fr.size ≤ 140737488351232
def ad (H : Type) (k : Ac) : DataW H := .agg [.lit (.int .i64 k.kd), .lit (.int .i64 k.n), .lit (.int .i64 k.dr), .lit (.string k.fr.data.toList)]
set_option maxRecDepth 10000 in
theorem open_act {H : Type} {enc : TypeId × Value → H} {w : World} {base : Nat} {sp : Nat → Bool} {held : Bool} {r : Reach} {b0 : Nat} {v : Value} {d : DataW H} {ps : List MemPlace}
    (hval : Value.okWide Tryz.prog w r b0 23 v) (hd : DataW.Trod enc Tryz.prog w base sp held 23 v d ps) (hw : ∀ y ∈ d.weights Tryz.prog 23, y ≤ reachBytes) : ∃ k : Ac, v = .agg (ac k) ∧ d = ad H k ∧ ps = [] ∧ k.wf ∧ k.ok := by
  have hc : Tryz.prog.cellsOf 23 = 4 := by kernel_rfl
  have hcI : Tryz.prog.cellsOf 3 = 1 := by kernel_rfl
  have hcS : Tryz.prog.cellsOf 9 = 1 := by kernel_rfl
  obtain ⟨cs, rfl, hcs⟩ := okWide_struct Tryz.underlying23 hval
  obtain ⟨fuel, hf⟩ := hd
  obtain ⟨ys, m, _, hx, _, hl, hf⟩ := DataW.trod_struct Tryz.underlying23 hf
  rw [hc] at hcs
  obtain ⟨l⟩ := cs
  match l, hcs with
  | [c0, c1, c2, c3], _ =>
  match ys, hl with
  | [y0, y1, y2, y3], _ =>
  have hy0 := hf 0 _ rfl
  have hy1 := hf 1 _ rfl
  have hy2 := hf 2 _ rfl
  have hy3 := hf 3 _ rfl
  simp [hcI, hcS, Value.cells] at hy0 hy1 hy2 hy3
  obtain ⟨n0, e0, rfl, s0⟩ := DataW.trod_int Tryz.underlying3 hy0
  obtain ⟨n1, e1, rfl, s1⟩ := DataW.trod_int Tryz.underlying3 hy1
  obtain ⟨n2, e2, rfl, s2⟩ := DataW.trod_int Tryz.underlying3 hy2
  obtain ⟨n3, e3, rfl, s3⟩ := DataW.trod_string Tryz.underlying9 hy3
  simp at e0 e1 e2 e3
  subst e0 e1 e2 e3
  simp at hx
  obtain ⟨rfl, rfl⟩ := hx
  refine ⟨⟨n0, n1, n2, n3⟩, rfl, rfl, rfl, ⟨s0, s1, s2, s3⟩, s0, s1, s2, ?_⟩
  have := hw n3.data.toList.length (by simp [DataW.weights, DataW.weightsEach, Tryz.underlying23])
  simpa [reachBytes] using this
theorem shut_act {H : Type} {enc : TypeId × Value → H} {w : World} {base : Nat} {sp : Nat → Bool} {held : Bool} {k : Ac} (hw : k.wf) : DataW.Trod enc Tryz.prog w base sp held 23 (.agg (ac k)) (ad H k) [] := by
  have hc : Tryz.prog.cellsOf 23 = 4 := by kernel_rfl
  have hcI : Tryz.prog.cellsOf 3 = 1 := by kernel_rfl
  have hcS : Tryz.prog.cellsOf 9 = 1 := by kernel_rfl
  obtain ⟨s0, s1, s2, s3⟩ := hw
  exact ⟨2, by simp [DataW.trod, Value.cells, ac, ad, Tryz.underlying23, Tryz.underlying3, Tryz.underlying9, hc, hcI, hcS, s0, s1, s2, s3]⟩
/-- a reply: code, frame, inner, log. -/
def rc (c : Int) (fr : ByteArray) (inn : Bool) (lg : ByteArray) : Array Value := #[.int .i64 c, .string fr, .bool inn, .string lg]
/-- a reply of nothing but an error. -/
def rc0 (c : Int) : Array Value := #[.int .i64 c, .string ByteArray.empty, .bool false, .string ByteArray.empty]
theorem reply_zero (w : World) : (zeroValue 27).run Tryz.prog w = .ok (.agg (rc0 0)) w := by kernel_rfl
theorem reply_built (n : Int) (w : World) : (Instr.build 27 #[(0, .int .i64 n)]).run Tryz.prog w = .ok (.agg (rc0 n)) w := by kernel_rfl
theorem reply_info (n : Int) : (Tryz.prog.info? 27).map (·.size) = some (rc0 n).size := by kernel_rfl
theorem eq_reply (n : Int) (w : World) : (Op.equalIn 10000 27 (.agg (rc0 n)) (.agg (rc0 n))).run Tryz.prog w = .ok true w := by
  rw [show (10000 : Nat) = 9999 + 1 from rfl, run_equalIn_struct w 9999 27 _ _ (by kernel_rfl) (by kernel_rfl)]
  unfold rc0
  simp [go_sem, Tryz.underlying27, Tryz.underlying25, Tryz.underlying9, Tryz.underlying4]
theorem wpList_build1 {ops : Array Oper} {rest : List Oper} {o : Oper} {a : Act} {w : World} {Q : Exit → Act → World → Prop} (t : TypeId) (x : Operand) (ho : o.op = .build t #[(0, x)]) (hw : Region.wanted o (yielded ops a.tmps) = true) (u v : Value) (hx : a.eval x = u) (hrun : ∀ w : World, (Instr.build t #[(0, u)]).run Tryz.prog w = .ok v w)
    (hr : wpList Tryz.prog ops Q rest (a.put o.dst v) w) : wpList Tryz.prog ops Q (o :: rest) a w :=
  wpList_step fun K hK => by
    rw [if_pos hw]
    unfold Oper.wp execOp
    simp only [ho, List.map_toArray, List.map_nil, List.map_cons, hx, Sem.run_bind, hrun w, Result.andThen_ok, Sem.run_pure]
    exact hK _ _ hr
theorem wpList_build0 {ops : Array Oper} {rest : List Oper} {o : Oper} {a : Act} {w : World} {Q : Exit → Act → World → Prop} (t : TypeId) (ho : o.op = .build t #[]) (hw : Region.wanted o (yielded ops a.tmps) = true) (v : Value) (hrun : ∀ w : World, (Instr.build t #[]).run Tryz.prog w = .ok v w)
    (hr : wpList Tryz.prog ops Q rest (a.put o.dst v) w) : wpList Tryz.prog ops Q (o :: rest) a w :=
  wpList_step fun K hK => by
    rw [if_pos hw]
    unfold Oper.wp execOp
    simp only [ho, Array.map_empty, List.map_toArray, List.map_nil, Sem.run_bind, hrun w, Result.andThen_ok, Sem.run_pure]
    exact hK _ _ hr
/-- a table that nobody has. -/
def tz : Array Value := tc (fun _ => 0) (fun _ => false) (fun _ => 0) (.slice none 0 0)
theorem table_zeroN (w : World) : (zeroValue 39).run Tryz.prog w = .ok (.agg tz) w := by kernel_rfl
theorem table_built0 (w : World) : (Instr.build 39 #[]).run Tryz.prog w = .ok (.agg tz) w := by kernel_rfl
theorem tz_info : (Tryz.prog.info? 39).map (·.size) = some tz.size := by kernel_rfl
theorem tz_one : tz.all (·.oneCell') = true := by kernel_rfl
attribute [local irreducible] tz
set_option maxHeartbeats 1000000 in
theorem failed_any (n : Int) (w : World) : Calls Tryz.prog 58 #[.int .i64 n] w fun e w' => e = .returned (.agg (rc0 n)) ∧ Below w.heap.size w w' := by
  have hB := Below.refl w.heap.size w
  go_enter Tryz.func58, Tryz.ntmps58
  go_wp2_with (first
    | ((with_reducible refine at_opB (.alloc 27) rfl ?_); refine wpList_allocR 27 rfl rfl _ reply_zero ?_; intro b2 w2 l2 R2 hb2; replace l2 := Nat.le_trans hB.size l2; replace hB := hB.trans (hb2.mono hB.size))
    | ((with_reducible refine at_opB (.build 27 #[(0, .tmp 3)]) rfl ?_); refine wpList_build1 27 (.tmp 3) rfl rfl (.int .i64 n) (.agg (rc0 n)) (by kernel_rfl) (reply_built n) ?_)
    | ((with_reducible refine at_opB (.store 27 (.tmp 2) (.tmp 4)) rfl ?_); refine wpList_storeR 27 rfl _ _ rfl _ (by kernel_rfl) (rc0 n) (by kernel_rfl) _ R2 rfl (by kernel_rfl) (by kernel_rfl) ?_; intro w3 R3 t3; replace hB := t3.below _ _ l2 hB))
  (try simp only [Exit.inBlock, Exit.then])
  refine bodyPost_ret (results_row1 (p := 2) rfl _ _ _ _ rfl R3 _ Tryz.underlying27 rfl (reply_info n)) rfl ⟨rfl, hB⟩
set_option maxHeartbeats 1000000 in
theorem do_nil (a : Ac) (w : World) : Calls Tryz.prog 20 #[.pointer none, .agg (ac a)] w fun e w' => e = .returned (.agg (rc0 7)) ∧ Below w.heap.size w w' := by
  have hB := Below.refl w.heap.size w
  have CF := fun w => failed_any 7 w
  go_enter Tryz.func20, Tryz.ntmps20
  go_wp2_with (first
    | ((with_reducible refine at_opB (.box 23 (.tmp 1)) rfl ?_); refine wpList_boxR 23 rfl (.tmp 1) rfl (ac a) rfl ?_; intro b1 w1 l1 R1 hb1; replace hB := hB.trans (hb1.mono hB.size))
    | ((with_reducible refine at_opB (.alloc 27) rfl ?_); refine wpList_allocR 27 rfl rfl _ reply_zero ?_; intro b2 w2 l2 R2 hb2; replace l2 := Nat.le_trans hB.size l2; replace hB := hB.trans (hb2.mono hB.size))
    | (go_at_call 58; go_fit (CF _); rintro e w5 ⟨rfl, hb5⟩; replace R2 := R2.below hb5; replace hB := hB.trans (hb5.mono hB.size))
    | ((with_reducible refine at_opB (.store 27 (.tmp 4) (.tmp 7)) rfl ?_); refine wpList_storeR 27 rfl _ _ rfl _ (by kernel_rfl) (rc0 7) (by kernel_rfl) _ R2 rfl (by kernel_rfl) (by kernel_rfl) ?_; intro w3 R3 t3; replace hB := t3.below _ _ l2 hB))
  (try simp only [Exit.inBlock, Exit.then])
  refine bodyPost_ret (results_row1 (p := 4) rfl _ _ _ _ rfl R3 _ Tryz.underlying27 rfl (reply_info 7)) rfl ⟨rfl, hB⟩
theorem natNow_nil (w : World) : Calls Tryz.prog 21 #[.pointer none] w fun e w' => e = .returned (.int .i64 0) ∧ w' = w := by
  go_enter Tryz.func21, Tryz.ntmps21
  go_wp2
  go_ret
  exact ⟨rfl, rfl⟩
theorem flows_nil (w : World) : Calls Tryz.prog 24 #[.pointer none] w fun e w' => e = .returned (.slice none 0 0) ∧ w' = w := by
  go_enter Tryz.func24, Tryz.ntmps24
  go_wp2
  go_ret
  exact ⟨rfl, rfl⟩
set_option maxHeartbeats 1000000 in
theorem table_nil (w : World) : Calls Tryz.prog 23 #[.pointer none] w fun e w' => e = .returned (.agg tz) ∧ Below w.heap.size w w' := by
  have hB := Below.refl w.heap.size w
  go_enter Tryz.func23, Tryz.ntmps23
  go_wp2_with (first
    | ((with_reducible refine at_opB (.alloc 39) rfl ?_); refine wpList_allocR 39 rfl rfl _ table_zeroN ?_; intro b2 w2 l2 R2 hb2; replace l2 := Nat.le_trans hB.size l2; replace hB := hB.trans (hb2.mono hB.size))
    | ((with_reducible refine at_opB (.build 39 #[]) rfl ?_); refine wpList_build0 39 rfl rfl (.agg tz) table_built0 ?_)
    | ((with_reducible refine at_opB (.store 39 (.tmp 2) (.tmp 6)) rfl ?_); refine wpList_storeR 39 rfl _ _ rfl _ (by kernel_rfl) tz (by kernel_rfl) _ R2 rfl tz_info tz_one ?_; intro w3 R3 t3; replace hB := t3.below _ _ l2 hB))
  (try simp only [Exit.inBlock, Exit.then])
  refine bodyPost_ret (results_row1 (p := 2) rfl _ _ _ _ rfl R3 _ Tryz.underlying39 rfl tz_info) rfl ⟨rfl, hB⟩
theorem same_nil (w : World) : Calls Tryz.prog 22 #[.agg tz, .agg tz] w fun e w' => e = .returned (.bool true) ∧ Below w.heap.size w w' := by
  unfold tz
  exact same_ref _ _ _ _ _ [] (fun _ _ => rfl) (fun _ _ => rfl) w (MapsAt.nil w) (MapsAt.nil w)
end Go.Proofs.YtjlcljaoejoapaaGreatDoor
