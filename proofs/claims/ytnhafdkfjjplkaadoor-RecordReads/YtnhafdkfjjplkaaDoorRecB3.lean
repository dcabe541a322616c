/-
  The document's ReadLog.
-/
import Derived.Test.YtnhafdkfjjplkaaDoorRecB1
import Derived.Test.YtnhafdkfjjplkaaDoorRecH0
namespace Go.Proofs.YtnhafdkfjjplkaaDoor
open Go.ChangeShapes Go.WideShapes Go.ChangeAt Go.RowKit
set_option linter.unusedSimpArgs false
set_option linter.unusedVariables false

def strN : Value → Nat
  | .string s => s.size
  | _ => 0
theorem mid_take (l : List UInt8) (N a k : Nat) (h : a + k ≤ N) : ((l.take N).drop a).take k = (l.drop a).take k := by
  rw [List.drop_take, List.take_take]; congr 1; omega
theorem ext_take (l : List UInt8) (N a b : Nat) (h : b ≤ N) (hab : a ≤ b) : (txt (l.take N)).extract a b = txt ((l.drop a).take (b - a)) := by
  rw [txt_ext, mid_take _ _ _ _ (by omega)]
theorem yields_mid {ops : Array Oper} {S : World → Prop} {o : Oper} {a : Act} (x : Operand) (i j : Nat) (ho : o.op = .slice 9 x (some (.const (.int .i64 (i : Int)))) (some (.const (.int .i64 (j : Int)))) none) (hw : Region.wanted o (yielded ops a.tmps) = true) (s : ByteArray) (hx : a.eval x = .string s) (hij : i ≤ j) (hj : j ≤ s.size) (u : ByteArray) (hu : s.extract i j = u) : YieldsIf Tryd.prog ops S o (.string u) a :=
  .inl ⟨hw, fun w _ => by
    have h2 : (i : Int) ≤ (j : Int) := by omega
    have h3 : (j : Int) ≤ (s.size : Int) := by omega
    unfold execOp
    simp only [ho, Option.map_some, Option.map_none, hx]
    simp [go_sem, hij, hj, h2, h3, hu, Act.eval]⟩
theorem run_mid (s : ByteArray) (i j : Nat) (hij : i ≤ j) (hj : j ≤ s.size) (u : ByteArray) (hu : s.extract i j = u) (w : World) : (Instr.slice 9 (.string s) (some (.int .i64 (i : Int))) (some (.int .i64 (j : Int))) none).run Tryd.prog w = .ok (.string u) w := by
  have h2 : (i : Int) ≤ (j : Int) := by omega
  have h3 : (j : Int) ≤ (s.size : Int) := by omega
  simp [go_sem, hij, hj, h2, h3, hu]
theorem yields_remI {ops : Array Oper} {S : World → Prop} {o : Oper} {a : Act} (x : Operand) (m : Int) (ho : o.op = .binOp .rem 3 x (.const (.int .i64 4294967296)) 3) (hw : Region.wanted o (yielded ops a.tmps) = true) (hx : a.eval x = .int .i64 m) (h0 : 0 ≤ m) : YieldsIf Tryd.prog ops S o (.int .i64 (m % 4294967296)) a :=
  .inl ⟨hw, fun w _ => by
    have e := Int.tmod_eq_emod_of_nonneg (b := 4294967296) h0
    unfold execOp
    simp only [ho, hx]
    simp [go_sem, e, Act.eval]⟩
theorem yields_fldE0 {ops : Array Oper} {S : World → Prop} {o : Oper} {a : Act} (x : Operand) (ho : o.op = .fieldAddr 29 x 0) (hw : Region.wanted o (yielded ops a.tmps) = true) (b f : Nat) (hx : a.eval x = .pointer (some ⟨b, f, none⟩)) : YieldsIf Tryd.prog ops S o (.pointer (some ⟨b, f, none⟩)) a :=
  .inl ⟨hw, fun w _ => by
    unfold execOp
    simp only [ho, hx]
    simp [go_sem, Tryd.underlying29]⟩
theorem run_lenE (ty : TypeId) (sa : Option Addr) (n c : Nat) (w : World) : (Builtin.len_ #[22] ty #[.slice sa n c]).run Tryd.prog w = .ok (.int .i64 (n : Int)) w := by
  simp [go_sem]
theorem yields_lenE {ops : Array Oper} {S : World → Prop} {o : Oper} {a : Act} (x : Operand) (ho : o.op = .call { callee := .builtin .len, args := #[x], argTypes := #[22] }) (hw : Region.wanted o (yielded ops a.tmps) = true) (sa : Option Addr) (n c : Nat) (hx : a.eval x = .slice sa n c) : YieldsIf Tryd.prog ops S o (.int .i64 (n : Int)) a :=
  .inl ⟨hw, fun w _ => by
    unfold execOp
    simp only [ho, resolve, invoke, builtin, Sem.run_bind, Sem.run_pure, Result.andThen_ok, List.map_toArray, List.map_cons, List.map_nil, hx, run_lenE]⟩
theorem yields_subI {ops : Array Oper} {S : World → Prop} {o : Oper} {a : Act} (x y : Operand) (ho : o.op = .binOp .sub 3 x y 3) (hw : Region.wanted o (yielded ops a.tmps) = true) (m n r : Int) (hx : a.eval x = .int .i64 m) (hy : a.eval y = .int .i64 n) (hr : m - n = r) (h0 : -9223372036854775808 ≤ r) (h1 : r ≤ 9223372036854775807) : YieldsIf Tryd.prog ops S o (.int .i64 r) a :=
  .inl ⟨hw, fun w _ => by
    have e : IntKind.i64.wrap (m - n) = r := by rw [hr]; simp [IntKind.wrap, IntKind.bits, IntKind.signed]; omega
    unfold execOp
    simp only [ho, hx, hy]
    simp [go_sem, e]⟩
theorem yields_lss {ops : Array Oper} {S : World → Prop} {o : Oper} {a : Act} (x y : Operand) (ho : o.op = .binOp .lss 3 x y 3) (hw : Region.wanted o (yielded ops a.tmps) = true) (m n : Int) (b : Bool) (hx : a.eval x = .int .i64 m) (hy : a.eval y = .int .i64 n) (hb : decide (m < n) = b) : YieldsIf Tryd.prog ops S o (.bool b) a :=
  .inl ⟨hw, fun w _ => by unfold execOp; simp only [ho, hx, hy]; simp [go_sem, hb, eqGuard]⟩
theorem yields_gtr {ops : Array Oper} {S : World → Prop} {o : Oper} {a : Act} (x y : Operand) (ho : o.op = .binOp .gtr 3 x y 3) (hw : Region.wanted o (yielded ops a.tmps) = true) (m n : Int) (b : Bool) (hx : a.eval x = .int .i64 m) (hy : a.eval y = .int .i64 n) (hb : decide (n < m) = b) : YieldsIf Tryd.prog ops S o (.bool b) a :=
  .inl ⟨hw, fun w _ => by unfold execOp; simp only [ho, hx, hy]; simp [go_sem, hb, eqGuard]⟩
theorem nAt_take (l : List UInt8) (a k : Nat) (h : a + k ≤ 21) : nAt (l.take 21) a k = nAt l a k := by unfold nAt; rw [mid_take _ _ _ _ h]
theorem rd_take (l : List UInt8) : rdE (l.take 21) = rdE l := by
  unfold rdE
  rw [nAt_take _ 0 8 (by omega), nAt_take _ 8 4 (by omega), nAt_take _ 12 4 (by omega), nAt_take _ 16 2 (by omega), nAt_take _ 20 1 (by omega)]
theorem okR_take (l : List UInt8) : okR (l.take 21) ↔ okR l := by unfold okR; rw [rd_take, List.take_take]; simp
theorem evO_slice {w : World} {base : Nat} {v : Value} {es : List Ev} (h : EvO w base v es) : ∃ a n cap, Hid (n = es.length) ∧ v = .slice a n cap := by
  obtain ⟨a, c, e⟩ := h.slice
  exact ⟨a, _, c, rfl, e⟩
theorem la21 {N A c k : Nat} (h1 : N = 20 + 21 * c) (h2 : A = 20 + 21 * k) (h3 : k < c) : A + 21 ≤ N := by omega
theorem la3 {A k : Nat} (h2 : A = 20 + 21 * k) : A + 21 = 20 + 21 * (k + 1) := by omega
theorem lm1 {c k : Nat} (h : k < c) : c - k = (c - (k + 1)) + 1 := by omega
theorem ls2 {n a e k c : Nat} (h1 : n = a) (h2 : a = e + k) (h3 : e ≤ 4294967295) (h4 : k ≤ c) (h5 : c ≤ 3120) : n ≤ 4294970500 := by omega
theorem lep {a e k c : Nat} (h2 : a = e + k) (h3 : e ≤ 4294967295) (h4 : k ≤ c) (h5 : c ≤ 3120) : a ≤ 3518437208780 := by omega
theorem lpu {a e k c : Nat} (h2 : a = e + k) (h3 : e ≤ 4294967295) (h4 : k ≤ c) (h5 : c ≤ 3120) : a ≤ 5000000000 := by omega
theorem lai {A N : Nat} (h : A + 21 ≤ N) : (A : Int) < (N : Int) := by omega
theorem lwa {A N L : Nat} (h : A + 21 ≤ N) (h2 : N ≤ L) (h3 : L ≤ 140737488351232) : wrap64 ((A : Int) + 21) = (A : Int) + 21 := by unfold wrap64; omega
theorem lq21 {M : List UInt8} {N A : Nat} (h : A + 21 ≤ N) (h2 : N ≤ M.length) : ((M.drop A).take 21).length = 21 := by rw [List.length_take, List.length_drop]; omega
theorem lxA (M : List UInt8) (N A : Nat) (h : A + 21 ≤ N) : (txt (M.take N)).extract A (A + 21) = txt ((M.drop A).take 21) := by rw [ext_take M N A (A + 21) h (by omega)]; congr 2; omega
theorem lsA (M : List UInt8) (N A : Nat) (h : A + 21 ≤ N) (h2 : N ≤ M.length) (w : World) : (Instr.slice 9 (.string (txt (M.take N))) (some (.int .i64 (A : Int))) (some (.int .i64 ((A : Int) + 21))) none).run Tryd.prog w = .ok (.string (txt ((M.drop A).take 21))) w :=
  run_mid (txt (M.take N)) A (A + 21) (by omega) (by rw [txt_size, List.length_take]; omega) _ (lxA M N A h) w
theorem lnl {A N c k : Nat} (h1 : N = 20 + 21 * c) (h2 : A = 20 + 21 * k) (h3 : ¬ k < c) : ¬ (A : Int) < (N : Int) := by omega
theorem lsub {n : Nat} (h : n ≤ 4294970500) : -9223372036854775808 ≤ (n : Int) - 1 ∧ (n : Int) - 1 ≤ 9223372036854775807 := by omega
theorem lpush {a b : List Ev} {x : Ev} {k : Nat} (h : a.length = b.length + k) : (a ++ [x]).length = b.length + (k + 1) := by rw [List.length_append, h]; simp; omega
theorem lat0 (A : Nat) : Value.int .i64 ((A : Int) + 21) = Value.int .i64 ((A + 21 : Nat) : Int) := rfl
theorem lat1 {A : Nat} (h : wrap64 ((A : Int) + 21) = (A : Int) + 21) : Value.int .i64 (wrap64 ((A : Int) + 21)) = Value.int .i64 ((A + 21 : Nat) : Int) := by rw [h]; rfl
theorem lmeas {A N : Nat} (h : A + 21 ≤ N) : N - ((A : Int) + 21).toNat < N - ((A : Int)).toNat := by omega
theorem ldr1 {M : List UInt8} {N n : Nat} (h : M.length ≤ n + 1) (h2 : 20 ≤ N) : (M.drop N).length ≤ n := by rw [List.length_drop]; omega
theorem ldr2 {M : List UInt8} {N L : Nat} (h : M.length ≤ L) : (M.drop N).length ≤ L := by rw [List.length_drop]; omega
theorem lgt {n : Nat} (h : n = 0) : decide ((0 : Int) < (n : Int)) = false := by simp; omega
theorem lgt' {n : Nat} (h : ¬ n = 0) : decide ((0 : Int) < (n : Int)) = true := by simp; omega
theorem lIL {w : World} {base n : Nat} {sa : Option Addr} {sc : Nat} {es : List Ev} (hE : EvO w base (.slice sa n sc) es) (h : n = es.length) (h0 : ¬ n = 0) (hl : es.length ≤ 3518437208780) (w2 : World) : (Instr.indexAt 22 (.slice sa n sc) (.int .i64 ((n : Int) - 1))).run Tryd.prog w2 = .ok (.pointer (some ⟨eb (.slice sa n sc), eo (.slice sa n sc) + 5 * (n - 1), none⟩)) w2 := by
  have := (EvO.at hE hl).index (n - 1) (by omega) w2
  rw [show ((n - 1 : Nat) : Int) = (n : Int) - 1 by omega] at this
  exact this
theorem lCL {w : World} {base n : Nat} {sa : Option Addr} {sc : Nat} {es : List Ev} (hE : EvO w base (.slice sa n sc) es) (h : n = es.length) (h0 : 0 < es.length) (hl : es.length ≤ 3518437208780) {e : Ev} (he : es[es.length - 1]'(by omega) = e) : w.cell? ⟨eb (.slice sa n sc), eo (.slice sa n sc) + 5 * (n - 1), none⟩ = some (.int .i64 e.t) := by
  have := (EvO.at hE hl).at (es.length - 1) (by omega) he 0 _ rfl
  rw [← h] at this
  exact this
theorem meas21 {a b : Nat} (h : b < a) : b < a := h
set_option maxRecDepth 10000 in
set_option maxHeartbeats 16000000 in
theorem readLog_any (l : List UInt8) (w : World) (hl : l.length ≤ 140737488351232) :
    Calls Tryd.prog 16 #[.string (txt l)] w fun x w' => (∃ v, x = .returned (.tuple #[v, .int .i64 (runM l.length l false []).1]) ∧ EvAt w' v (runM l.length l false []).2) ∧ Below w.heap.size w w' := by
  have hB := Below.refl w.heap.size w
  have hE := EvO.nil w w.heap.size
  go_enter Tryd.func16, Tryd.ntmps16
  go_wp2
  go_loopw [0, 4, 5] (fun s v k W => ∃ n m d es, s = .string (txt m) ∧ k = .bool d ∧ m.length ≤ n ∧ m.length ≤ l.length ∧ Hid (runM l.length l false [] = runM n m d es) ∧ EvO W w.heap.size v es ∧ es.length ≤ 4294970500 ∧ Below w.heap.size w W) (fun s _ _ _ => strN s)
  case atStart => exact ⟨l.length, l, false, [], rfl, rfl, Nat.le_refl _, Nat.le_refl _, rfl, hE, by simp, hB⟩
  case round =>
    clear hB hE
    obtain ⟨n, M, d, es, rfl, rfl, hmn, hml, HR, hE, hes, hB⟩ := hrel
    have hsz : (txt M).size = M.length := txt_size M
    have hMl : M.length ≤ 140737488351232 := by omega
    obtain ⟨sa, sc, hsl⟩ := hE.slice
    subst hsl
    by_cases h0 : 0 < M.length
    case neg =>
      have HX : Hid (runM l.length l false [] = (0, es)) := by show _ = _; rw [HR.out, runM_end n M d es (by omega)]
      have h0' : ¬ (0 : Int) < (M.length : Int) := by omega
      have hA := hE.at (by omega)
      clear HR
      go_wp2
      go_ret2
      exact ⟨⟨_, by rw [HX.out]; rfl, by rw [HX.out]; exact hA⟩, hB⟩
    case pos =>
      obtain ⟨n', rfl⟩ : ∃ n', n = n' + 1 := ⟨n - 1, by omega⟩
      have h0' : (0 : Int) < (M.length : Int) := by omega
      have N02 := fun w => numRef4_any ((M.drop 0).take 2) w (by rw [List.length_take]; omega)
      have N22 := fun w => numRef4_any ((M.drop 2).take 2) w (by rw [List.length_take]; omega)
      have N12 := fun w => numRef4_any ((M.drop 12).take 4) w (by rw [List.length_take]; omega)
      have N16 := fun w => numRef4_any ((M.drop 16).take 2) w (by rw [List.length_take]; omega)
      have N18 := fun w => numRef4_any ((M.drop 18).take 2) w (by rw [List.length_take]; omega)
      have N08 := fun w => numRef4_any ((M.drop 8).take 4) w (by rw [List.length_take]; omega)
      have N04 := fun w => numRef4_any ((M.drop 4).take 4) w (by rw [List.length_take]; omega)
      have V02 : Hid (num ((M.drop 0).take 2) = nAt M 0 2) := rfl
      have x02 : (txt M).extract 0 2 = txt ((M.drop 0).take 2) := by rw [txt_ext]
      have x24 : (txt M).extract 2 4 = txt ((M.drop 2).take 2) := by rw [txt_ext]
      have x1216 : (txt M).extract 12 16 = txt ((M.drop 12).take 4) := by rw [txt_ext]
      change ∀ w, Calls Tryd.prog 28 #[.string (txt ((M.drop 0).take 2))] w fun e w' => e = .returned (.int .i64 (nAt M 0 2)) ∧ Below w.heap.size w w' at N02
      change ∀ w, Calls Tryd.prog 28 #[.string (txt ((M.drop 2).take 2))] w fun e w' => e = .returned (.int .i64 (nAt M 2 2)) ∧ Below w.heap.size w w' at N22
      change ∀ w, Calls Tryd.prog 28 #[.string (txt ((M.drop 12).take 4))] w fun e w' => e = .returned (.int .i64 (nAt M 12 4)) ∧ Below w.heap.size w w' at N12
      change ∀ w, Calls Tryd.prog 28 #[.string (txt ((M.drop 16).take 2))] w fun e w' => e = .returned (.int .i64 (nAt M 16 2)) ∧ Below w.heap.size w w' at N16
      change ∀ w, Calls Tryd.prog 28 #[.string (txt ((M.drop 18).take 2))] w fun e w' => e = .returned (.int .i64 (nAt M 18 2)) ∧ Below w.heap.size w w' at N18
      change ∀ w, Calls Tryd.prog 28 #[.string (txt ((M.drop 8).take 4))] w fun e w' => e = .returned (.int .i64 (nAt M 8 4)) ∧ Below w.heap.size w w' at N08
      change ∀ w, Calls Tryd.prog 28 #[.string (txt ((M.drop 4).take 4))] w fun e w' => e = .returned (.int .i64 (nAt M 4 4)) ∧ Below w.heap.size w w' at N04
      have q2 := nAt_bd M 2 2 (by omega)
      obtain ⟨q20, q21⟩ := q2
      have ERR : ∀ E r, E ≠ 0 → stepM M d es = (E, r) → Hid (runM l.length l false [] = (E, [])) := fun E r h h2 => by show _ = _; rw [HR.out, runM_err n' M d es (by omega) (by rw [h2]; exact h), h2]
      by_cases h16 : M.length < 16
      · have g16 : (M.length : Int) < 16 := by omega
        have HX := ERR 1 _ (by decide) (by unfold stepM headE; rw [if_pos h16]; rw [if_pos (by decide)])
        clear ERR HR h16
        go_wp2
        go_ret2
        exact ⟨⟨.slice none 0 0, by rw [HX.out]; rfl, by rw [HX.out]; exact ⟨none, 0, rfl, fun h => absurd h (by simp), fun j hj => absurd hj (by simp), by simp⟩⟩, hB⟩
      have g16 : ¬ (M.length : Int) < 16 := by omega
      have s24 : ∀ w : World, (Instr.slice 9 (.string (txt M)) (some (.int .i64 2)) (some (.int .i64 4)) none).run Tryd.prog w = .ok (.string (txt ((M.drop 2).take 2))) w := fun w => run_mid (txt M) 2 4 (by omega) (by rw [hsz]; omega) _ x24 w
      have s1216 : ∀ w : World, (Instr.slice 9 (.string (txt M)) (some (.int .i64 12)) (some (.int .i64 16)) none).run Tryd.prog w = .ok (.string (txt ((M.drop 12).take 4))) w := fun w => run_mid (txt M) 12 16 (by omega) (by rw [hsz]; omega) _ x1216 w
      by_cases c0 : nAt M 0 2 ≠ 10
      · have t0 : (nAt M 0 2 != 10) = true := by simpa using c0
        have hh : headE M = 1 := by unfold headE; rw [if_neg h16, if_pos (by omega)]
        have HX := ERR 1 _ (by decide) (by unfold stepM; rw [if_pos (by rw [hh]; decide), hh])
        clear ERR HR h16 hh c0
        go_wp2_with (first
          | (go_at_call 28; go_fit (N02 _); rintro x w5 ⟨rfl, hb5⟩; replace hE := hE.below hb5; replace hB := hB.trans (hb5.mono hB.size))
          | (go_at_call 28; go_fit (N22 _); rintro x w5 ⟨rfl, hb5⟩; replace hE := hE.below hb5; replace hB := hB.trans (hb5.mono hB.size))
          | (go_at_call 28; go_fit (N12 _); rintro x w5 ⟨rfl, hb5⟩; replace hE := hE.below hb5; replace hB := hB.trans (hb5.mono hB.size)))
        go_ret2
        exact ⟨⟨.slice none 0 0, by rw [HX.out]; rfl, by rw [HX.out]; exact ⟨none, 0, rfl, fun h => absurd h (by simp), fun j hj => absurd hj (by simp), by simp⟩⟩, hB⟩
      have f0 : (nAt M 0 2 != 10) = false := by simpa using c0
      by_cases c1 : nAt M 2 2 < 20
      · have t1 : decide (nAt M 2 2 < 20) = true := by simpa using c1
        have hh : headE M = 1 := by unfold headE; rw [if_neg h16, if_pos (by omega)]
        have HX := ERR 1 _ (by decide) (by unfold stepM; rw [if_pos (by rw [hh]; decide), hh])
        clear ERR HR h16 hh c0 c1
        go_wp2_with (first
          | (go_at_call 28; go_fit (N02 _); rintro x w5 ⟨rfl, hb5⟩; replace hE := hE.below hb5; replace hB := hB.trans (hb5.mono hB.size))
          | (go_at_call 28; go_fit (N22 _); rintro x w5 ⟨rfl, hb5⟩; replace hE := hE.below hb5; replace hB := hB.trans (hb5.mono hB.size))
          | (go_at_call 28; go_fit (N12 _); rintro x w5 ⟨rfl, hb5⟩; replace hE := hE.below hb5; replace hB := hB.trans (hb5.mono hB.size)))
        go_ret2
        exact ⟨⟨.slice none 0 0, by rw [HX.out]; rfl, by rw [HX.out]; exact ⟨none, 0, rfl, fun h => absurd h (by simp), fun j hj => absurd hj (by simp), by simp⟩⟩, hB⟩
      have f1 : decide (nAt M 2 2 < 20) = false := by simpa using c1
      by_cases c2 : (M.length : Int) < nAt M 2 2
      · have t2 : decide ((M.length : Int) < nAt M 2 2) = true := by simpa using c2
        have hh : headE M = 1 := by unfold headE; rw [if_neg h16, if_pos (by omega)]
        have HX := ERR 1 _ (by decide) (by unfold stepM; rw [if_pos (by rw [hh]; decide), hh])
        clear ERR HR h16 hh c0 c1 c2
        go_wp2_with (first
          | (go_at_call 28; go_fit (N02 _); rintro x w5 ⟨rfl, hb5⟩; replace hE := hE.below hb5; replace hB := hB.trans (hb5.mono hB.size))
          | (go_at_call 28; go_fit (N22 _); rintro x w5 ⟨rfl, hb5⟩; replace hE := hE.below hb5; replace hB := hB.trans (hb5.mono hB.size))
          | (go_at_call 28; go_fit (N12 _); rintro x w5 ⟨rfl, hb5⟩; replace hE := hE.below hb5; replace hB := hB.trans (hb5.mono hB.size)))
        go_ret2
        exact ⟨⟨.slice none 0 0, by rw [HX.out]; rfl, by rw [HX.out]; exact ⟨none, 0, rfl, fun h => absurd h (by simp), fun j hj => absurd hj (by simp), by simp⟩⟩, hB⟩
      have f2 : decide ((M.length : Int) < nAt M 2 2) = false := by simpa using c2
      by_cases c3 : nAt M 12 4 ≠ 1
      · have t3 : (nAt M 12 4 != 1) = true := by simpa using c3
        have hh : headE M = 1 := by unfold headE; rw [if_neg h16, if_pos (by omega)]
        have HX := ERR 1 _ (by decide) (by unfold stepM; rw [if_pos (by rw [hh]; decide), hh])
        clear ERR HR h16 hh c0 c1 c2 c3
        go_wp2_with (first
          | (go_at_call 28; go_fit (N02 _); rintro x w5 ⟨rfl, hb5⟩; replace hE := hE.below hb5; replace hB := hB.trans (hb5.mono hB.size))
          | (go_at_call 28; go_fit (N22 _); rintro x w5 ⟨rfl, hb5⟩; replace hE := hE.below hb5; replace hB := hB.trans (hb5.mono hB.size))
          | (go_at_call 28; go_fit (N12 _); rintro x w5 ⟨rfl, hb5⟩; replace hE := hE.below hb5; replace hB := hB.trans (hb5.mono hB.size)))
        go_ret2
        exact ⟨⟨.slice none 0 0, by rw [HX.out]; rfl, by rw [HX.out]; exact ⟨none, 0, rfl, fun h => absurd h (by simp), fun j hj => absurd hj (by simp), by simp⟩⟩, hB⟩
      have f3 : (nAt M 12 4 != 1) = false := by simpa using c3
      obtain ⟨N, hN⟩ : ∃ N : Nat, nAt M 2 2 = (N : Int) := ⟨(nAt M 2 2).toNat, by omega⟩
      have hN20 : 20 ≤ N := by omega
      have hNl : N ≤ M.length := by omega
      have HTN : Hid ((nAt M 2 2).toNat = N) := by show _ = _; omega
      have h65 := nAt_bd2 M 2
      have h20 : 20 ≤ M.length := by omega
      have HNN : Hid (nAt M 2 2 = (N : Int)) := hN
      have hcN : Hid (∀ {P : Prop}, (M.length < 16 → P) → True) := fun _ => trivial
      have HC : Hid (¬ (nAt M 0 2 ≠ 10 ∨ nAt M 2 2 < 20 ∨ (M.length : Int) < nAt M 2 2 ∨ nAt M 12 4 ≠ 1)) := by show ¬ _; omega
      have H16 : Hid (¬ M.length < 16) := h16
      clear c0 c1 c2 c3 h16
      rw [hN] at N22 f1 f2
      have hNi : (N : Int) ≤ (M.length : Int) := by omega
      have hN65 : (N : Int) ≤ 65535 := by omega
      have hN20i : (20 : Int) ≤ (N : Int) := by omega
      have zL := txt_left M N
      have zR := txt_right M N
      have hszN : (txt (M.take N)).size = N := by rw [txt_size, List.length_take]; omega
      have y16 : (txt (M.take N)).extract 16 18 = txt ((M.drop 16).take 2) := ext_take M N 16 18 (by omega) (by omega)
      have y18 : (txt (M.take N)).extract 18 20 = txt ((M.drop 18).take 2) := ext_take M N 18 20 (by omega) (by omega)
      have y8 : (txt (M.take N)).extract 8 12 = txt ((M.drop 8).take 4) := ext_take M N 8 12 (by omega) (by omega)
      have y4 : (txt (M.take N)).extract 4 8 = txt ((M.drop 4).take 4) := ext_take M N 4 8 (by omega) (by omega)
      have s1618 : ∀ w : World, (Instr.slice 9 (.string (txt (M.take N))) (some (.int .i64 16)) (some (.int .i64 18)) none).run Tryd.prog w = .ok (.string (txt ((M.drop 16).take 2))) w := fun w => run_mid (txt (M.take N)) 16 18 (by omega) (by rw [hszN]; omega) _ y16 w
      have s1820 : ∀ w : World, (Instr.slice 9 (.string (txt (M.take N))) (some (.int .i64 18)) (some (.int .i64 20)) none).run Tryd.prog w = .ok (.string (txt ((M.drop 18).take 2))) w := fun w => run_mid (txt (M.take N)) 18 20 (by omega) (by rw [hszN]; omega) _ y18 w
      have s812 : ∀ w : World, (Instr.slice 9 (.string (txt (M.take N))) (some (.int .i64 8)) (some (.int .i64 12)) none).run Tryd.prog w = .ok (.string (txt ((M.drop 8).take 4))) w := fun w => run_mid (txt (M.take N)) 8 12 (by omega) (by rw [hszN]; omega) _ y8 w
      have s48 : ∀ w : World, (Instr.slice 9 (.string (txt (M.take N))) (some (.int .i64 4)) (some (.int .i64 8)) none).run Tryd.prog w = .ok (.string (txt ((M.drop 4).take 4))) w := fun w => run_mid (txt (M.take N)) 4 8 (by omega) (by rw [hszN]; omega) _ y4 w
      have hw16 : wrap64 ((N : Int) - 16) = (N : Int) - 16 := by unfold wrap64; omega
      have hw20 : wrap64 ((N : Int) - 20) = (N : Int) - 20 := by unfold wrap64; omega
      clear hN hN65
      by_cases k0 : nAt M 16 2 = 2 ∨ nAt M 16 2 = 300
      case neg =>
        have e0 : (nAt M 16 2 != 2) = true := by simp; omega
        have e2 : (nAt M 16 2 != 300) = true := by simp; omega
        have hh : headE M = 1 := by unfold headE; rw [if_neg H16.out, if_neg HC.out, if_pos (by omega)]
        have HX := ERR 1 _ (by decide) (by unfold stepM; rw [if_pos (by rw [hh]; decide), hh])
        clear ERR HR k0 hh
        go_wp2_with (first
            | (go_at_call 28; go_fit (N02 _); rintro x w5 ⟨rfl, hb5⟩; replace hE := hE.below hb5; replace hB := hB.trans (hb5.mono hB.size))
            | (go_at_call 28; go_fit (N22 _); rintro x w5 ⟨rfl, hb5⟩; replace hE := hE.below hb5; replace hB := hB.trans (hb5.mono hB.size))
            | (go_at_call 28; go_fit (N12 _); rintro x w5 ⟨rfl, hb5⟩; replace hE := hE.below hb5; replace hB := hB.trans (hb5.mono hB.size))
            | (go_at_call 28; go_fit (N16 _); rintro x w5 ⟨rfl, hb5⟩; replace hE := hE.below hb5; replace hB := hB.trans (hb5.mono hB.size))
            | (go_at_call 28; go_fit (N18 _); rintro x w5 ⟨rfl, hb5⟩; replace hE := hE.below hb5; replace hB := hB.trans (hb5.mono hB.size))
            | (go_at_call 28; go_fit (N08 _); rintro x w5 ⟨rfl, hb5⟩; replace hE := hE.below hb5; replace hB := hB.trans (hb5.mono hB.size)))
        go_ret2
        exact ⟨⟨.slice none 0 0, by rw [HX.out]; rfl, by rw [HX.out]; exact ⟨none, 0, rfl, fun h => absurd h (by simp), fun j hj => absurd hj (by simp), by simp⟩⟩, hB⟩
      case pos =>
        by_cases k1 : nAt M 18 2 = (N : Int) - 16
        case neg =>
          have e1 : (nAt M 18 2 != (N : Int) - 16) = true := by simpa using k1
          have hh : headE M = 1 := by unfold headE; rw [if_neg H16.out, if_neg HC.out, if_pos (by rw [HNN.out]; omega)]
          have HX := ERR 1 _ (by decide) (by unfold stepM; rw [if_pos (by rw [hh]; decide), hh])
          clear ERR HR k1 hh
          rcases k0 with k0 | k0
          · have e0 : (nAt M 16 2 != 2) = false := by simpa using k0
            clear k0
            go_wp2_with (first
            | (go_at_call 28; go_fit (N02 _); rintro x w5 ⟨rfl, hb5⟩; replace hE := hE.below hb5; replace hB := hB.trans (hb5.mono hB.size))
            | (go_at_call 28; go_fit (N22 _); rintro x w5 ⟨rfl, hb5⟩; replace hE := hE.below hb5; replace hB := hB.trans (hb5.mono hB.size))
            | (go_at_call 28; go_fit (N12 _); rintro x w5 ⟨rfl, hb5⟩; replace hE := hE.below hb5; replace hB := hB.trans (hb5.mono hB.size))
            | (go_at_call 28; go_fit (N16 _); rintro x w5 ⟨rfl, hb5⟩; replace hE := hE.below hb5; replace hB := hB.trans (hb5.mono hB.size))
            | (go_at_call 28; go_fit (N18 _); rintro x w5 ⟨rfl, hb5⟩; replace hE := hE.below hb5; replace hB := hB.trans (hb5.mono hB.size))
            | (go_at_call 28; go_fit (N08 _); rintro x w5 ⟨rfl, hb5⟩; replace hE := hE.below hb5; replace hB := hB.trans (hb5.mono hB.size)))
            go_ret2
            exact ⟨⟨.slice none 0 0, by rw [HX.out]; rfl, by rw [HX.out]; exact ⟨none, 0, rfl, fun h => absurd h (by simp), fun j hj => absurd hj (by simp), by simp⟩⟩, hB⟩
          · have e0 : (nAt M 16 2 != 2) = true := by simp; omega
            have e2 : (nAt M 16 2 != 300) = false := by simpa using k0
            clear k0
            go_wp2_with (first
            | (go_at_call 28; go_fit (N02 _); rintro x w5 ⟨rfl, hb5⟩; replace hE := hE.below hb5; replace hB := hB.trans (hb5.mono hB.size))
            | (go_at_call 28; go_fit (N22 _); rintro x w5 ⟨rfl, hb5⟩; replace hE := hE.below hb5; replace hB := hB.trans (hb5.mono hB.size))
            | (go_at_call 28; go_fit (N12 _); rintro x w5 ⟨rfl, hb5⟩; replace hE := hE.below hb5; replace hB := hB.trans (hb5.mono hB.size))
            | (go_at_call 28; go_fit (N16 _); rintro x w5 ⟨rfl, hb5⟩; replace hE := hE.below hb5; replace hB := hB.trans (hb5.mono hB.size))
            | (go_at_call 28; go_fit (N18 _); rintro x w5 ⟨rfl, hb5⟩; replace hE := hE.below hb5; replace hB := hB.trans (hb5.mono hB.size))
            | (go_at_call 28; go_fit (N08 _); rintro x w5 ⟨rfl, hb5⟩; replace hE := hE.below hb5; replace hB := hB.trans (hb5.mono hB.size)))
            go_ret2
            exact ⟨⟨.slice none 0 0, by rw [HX.out]; rfl, by rw [HX.out]; exact ⟨none, 0, rfl, fun h => absurd h (by simp), fun j hj => absurd hj (by simp), by simp⟩⟩, hB⟩
        case pos =>
          have e1 : (nAt M 18 2 != (N : Int) - 16) = false := by simpa using k1
          have hh : headE M = 0 := by unfold headE; rw [if_neg H16.out, if_neg HC.out, if_neg (by rw [HNN.out]; omega)]
          have HH : Hid (headE M = 0) := hh
          clear hh k1
          have CT0 := fun w => templateRef_any (es.length : Int) w
          by_cases hq : nAt M 8 4 = (es.length : Int)
          case neg =>
            have eq : (nAt M 8 4 != (es.length : Int)) = true := by simpa using hq
            have HX := ERR 3 _ (by decide) (by unfold stepM; rw [if_neg (by rw [HH.out]; decide), if_pos hq])
            clear ERR HR hq CT0
            rcases k0 with k0 | k0
            · have e0 : (nAt M 16 2 != 2) = false := by simpa using k0
              clear k0
              go_wp2_with (first
                | (go_at_call 28; go_fit (N02 _); rintro x w5 ⟨rfl, hb5⟩; replace hE := hE.below hb5; replace hB := hB.trans (hb5.mono hB.size))
                | (go_at_call 28; go_fit (N22 _); rintro x w5 ⟨rfl, hb5⟩; replace hE := hE.below hb5; replace hB := hB.trans (hb5.mono hB.size))
                | (go_at_call 28; go_fit (N12 _); rintro x w5 ⟨rfl, hb5⟩; replace hE := hE.below hb5; replace hB := hB.trans (hb5.mono hB.size))
                | (go_at_call 28; go_fit (N16 _); rintro x w5 ⟨rfl, hb5⟩; replace hE := hE.below hb5; replace hB := hB.trans (hb5.mono hB.size))
                | (go_at_call 28; go_fit (N18 _); rintro x w5 ⟨rfl, hb5⟩; replace hE := hE.below hb5; replace hB := hB.trans (hb5.mono hB.size))
                | (go_at_call 28; go_fit (N08 _); rintro x w5 ⟨rfl, hb5⟩; replace hE := hE.below hb5; replace hB := hB.trans (hb5.mono hB.size)))
              go_ret2
              exact ⟨⟨.slice none 0 0, by rw [HX.out]; rfl, by rw [HX.out]; exact ⟨none, 0, rfl, fun h => absurd h (by simp), fun j hj => absurd hj (by simp), by simp⟩⟩, hB⟩
            · have e0 : (nAt M 16 2 != 2) = true := by simp; omega
              have e2 : (nAt M 16 2 != 300) = false := by simpa using k0
              clear k0
              go_wp2_with (first
                | (go_at_call 28; go_fit (N02 _); rintro x w5 ⟨rfl, hb5⟩; replace hE := hE.below hb5; replace hB := hB.trans (hb5.mono hB.size))
                | (go_at_call 28; go_fit (N22 _); rintro x w5 ⟨rfl, hb5⟩; replace hE := hE.below hb5; replace hB := hB.trans (hb5.mono hB.size))
                | (go_at_call 28; go_fit (N12 _); rintro x w5 ⟨rfl, hb5⟩; replace hE := hE.below hb5; replace hB := hB.trans (hb5.mono hB.size))
                | (go_at_call 28; go_fit (N16 _); rintro x w5 ⟨rfl, hb5⟩; replace hE := hE.below hb5; replace hB := hB.trans (hb5.mono hB.size))
                | (go_at_call 28; go_fit (N18 _); rintro x w5 ⟨rfl, hb5⟩; replace hE := hE.below hb5; replace hB := hB.trans (hb5.mono hB.size))
                | (go_at_call 28; go_fit (N08 _); rintro x w5 ⟨rfl, hb5⟩; replace hE := hE.below hb5; replace hB := hB.trans (hb5.mono hB.size)))
              go_ret2
              exact ⟨⟨.slice none 0 0, by rw [HX.out]; rfl, by rw [HX.out]; exact ⟨none, 0, rfl, fun h => absurd h (by simp), fun j hj => absurd hj (by simp), by simp⟩⟩, hB⟩
          case pos =>
            have eq : (nAt M 8 4 != (es.length : Int)) = false := by simpa using hq
            have hqb := nAt_bd M 8 4 (by omega)
            have hlong : longBR (es.length : Int) = true := by simp [longBR]; omega
            have hes1 : es.length ≤ 4294967295 := by omega
            have HQ : Hid (nAt M 8 4 = (es.length : Int)) := hq
            have CT : ∀ w, Calls Tryd.prog 11 #[.int .i64 (es.length : Int)] w fun x w' => x = .returned (.tuple #[.string (txt (msgB 0 (es.length : Int) 2 (tplB 6))), .int .i64 0]) ∧ Below w.heap.size w w' := fun w => by have := CT0 w; rw [msgS_yes _ _ _ _ hlong] at this; exact this
            clear hq CT0 hqb hlong
            rcases k0 with k0 | k0
            · have e0 : (nAt M 16 2 != 2) = false := by simpa using k0
              have e3 : (nAt M 16 2 == 2) = true := by simpa using k0
              by_cases hm : M.take N = msgB 0 (es.length : Int) 2 (tplB 6)
              · have HST : Hid (stepM M d es = (0, M.drop N, true, es)) := by show _ = _; unfold stepM; rw [if_neg (by rw [HH.out]; decide), if_neg (by simpa using HQ.out), if_pos k0, HTN.out, if_pos hm]
                have gE : ((txt (M.take N)).toList == (txt (msgB 0 (es.length : Int) 2 (tplB 6))).toList) = true := by rw [hm]; simp
                have hlt' : (txt (M.drop N)).size < (txt M).size := by rw [txt_size, txt_size, List.length_drop]; omega
                have HLT : Hid (strN (.string (txt (M.drop N))) < strN (.string (txt M))) := hlt'
                clear ERR hm k0 hlt'
                generalize msgB 0 (es.length : Int) 2 (tplB 6) = MM at *
                go_wp2_with (first
                  | (go_at_call 28; go_fit (N02 _); rintro x w5 ⟨rfl, hb5⟩; replace hE := hE.below hb5; replace hB := hB.trans (hb5.mono hB.size))
                  | (go_at_call 28; go_fit (N22 _); rintro x w5 ⟨rfl, hb5⟩; replace hE := hE.below hb5; replace hB := hB.trans (hb5.mono hB.size))
                  | (go_at_call 28; go_fit (N12 _); rintro x w5 ⟨rfl, hb5⟩; replace hE := hE.below hb5; replace hB := hB.trans (hb5.mono hB.size))
                  | (go_at_call 28; go_fit (N16 _); rintro x w5 ⟨rfl, hb5⟩; replace hE := hE.below hb5; replace hB := hB.trans (hb5.mono hB.size))
                  | (go_at_call 28; go_fit (N18 _); rintro x w5 ⟨rfl, hb5⟩; replace hE := hE.below hb5; replace hB := hB.trans (hb5.mono hB.size))
                  | (go_at_call 28; go_fit (N08 _); rintro x w5 ⟨rfl, hb5⟩; replace hE := hE.below hb5; replace hB := hB.trans (hb5.mono hB.size))
                  | (go_at_call 11; go_fit (CT _); rintro x w5 ⟨rfl, hb5⟩; replace hE := hE.below hb5; replace hB := hB.trans (hb5.mono hB.size)))
                go_roundw
                case rel => first | exact ⟨n', M.drop N, true, es, rfl, rfl, ldr1 hmn hN20, ldr2 hml, (HR.out.trans (runM_ok n' M d es (Nat.ne_of_gt h0) HST.out)), hE, hes, hB⟩ | ((repeat apply Exists.intro); exact ⟨⟨n', M.drop N, true, es, rfl, rfl, ldr1 hmn hN20, ldr2 hml, (HR.out.trans (runM_ok n' M d es (Nat.ne_of_gt h0) HST.out)), hE, hes, hB⟩, rfl⟩)
                case measure => exact HLT.out
              · have gE : ((txt (M.take N)).toList == (txt (msgB 0 (es.length : Int) 2 (tplB 6))).toList) = false := by rw [ByteArray.toList_eq, ByteArray.toList_eq, txt_list, txt_list]; simpa using hm
                have HX := ERR 4 _ (by decide) (by unfold stepM; rw [if_neg (by rw [HH.out]; decide), if_neg (by simpa using HQ.out), if_pos k0, HTN.out, if_neg hm])
                clear ERR HR hm k0
                generalize msgB 0 (es.length : Int) 2 (tplB 6) = MM at *
                go_wp2_with (first
                  | (go_at_call 28; go_fit (N02 _); rintro x w5 ⟨rfl, hb5⟩; replace hE := hE.below hb5; replace hB := hB.trans (hb5.mono hB.size))
                  | (go_at_call 28; go_fit (N22 _); rintro x w5 ⟨rfl, hb5⟩; replace hE := hE.below hb5; replace hB := hB.trans (hb5.mono hB.size))
                  | (go_at_call 28; go_fit (N12 _); rintro x w5 ⟨rfl, hb5⟩; replace hE := hE.below hb5; replace hB := hB.trans (hb5.mono hB.size))
                  | (go_at_call 28; go_fit (N16 _); rintro x w5 ⟨rfl, hb5⟩; replace hE := hE.below hb5; replace hB := hB.trans (hb5.mono hB.size))
                  | (go_at_call 28; go_fit (N18 _); rintro x w5 ⟨rfl, hb5⟩; replace hE := hE.below hb5; replace hB := hB.trans (hb5.mono hB.size))
                  | (go_at_call 28; go_fit (N08 _); rintro x w5 ⟨rfl, hb5⟩; replace hE := hE.below hb5; replace hB := hB.trans (hb5.mono hB.size))
                  | (go_at_call 11; go_fit (CT _); rintro x w5 ⟨rfl, hb5⟩; replace hE := hE.below hb5; replace hB := hB.trans (hb5.mono hB.size)))
                go_ret2
                exact ⟨⟨.slice none 0 0, by rw [HX.out]; rfl, by rw [HX.out]; exact ⟨none, 0, rfl, fun h => absurd h (by simp), fun j hj => absurd hj (by simp), by simp⟩⟩, hB⟩
            · have e0 : (nAt M 16 2 != 2) = true := by simp; omega
              have e2 : (nAt M 16 2 != 300) = false := by simpa using k0
              have e3 : (nAt M 16 2 == 2) = false := by simp; omega
              have K2 : Hid (¬ nAt M 16 2 = 2) := by show ¬ _; omega
              clear k0
              cases d with
              | false =>
                have HX := ERR 7 _ (by decide) (by unfold stepM; rw [if_neg (by rw [HH.out]; decide), if_neg (by simpa using HQ.out), if_neg K2.out, if_pos rfl])
                clear ERR HR CT
                go_wp2_with (first
                  | (go_at_call 28; go_fit (N02 _); rintro x w5 ⟨rfl, hb5⟩; replace hE := hE.below hb5; replace hB := hB.trans (hb5.mono hB.size))
                  | (go_at_call 28; go_fit (N22 _); rintro x w5 ⟨rfl, hb5⟩; replace hE := hE.below hb5; replace hB := hB.trans (hb5.mono hB.size))
                  | (go_at_call 28; go_fit (N12 _); rintro x w5 ⟨rfl, hb5⟩; replace hE := hE.below hb5; replace hB := hB.trans (hb5.mono hB.size))
                  | (go_at_call 28; go_fit (N16 _); rintro x w5 ⟨rfl, hb5⟩; replace hE := hE.below hb5; replace hB := hB.trans (hb5.mono hB.size))
                  | (go_at_call 28; go_fit (N18 _); rintro x w5 ⟨rfl, hb5⟩; replace hE := hE.below hb5; replace hB := hB.trans (hb5.mono hB.size))
                  | (go_at_call 28; go_fit (N08 _); rintro x w5 ⟨rfl, hb5⟩; replace hE := hE.below hb5; replace hB := hB.trans (hb5.mono hB.size))
                  | fail)
                go_ret2
                exact ⟨⟨.slice none 0 0, by rw [HX.out]; rfl, by rw [HX.out]; exact ⟨none, 0, rfl, fun h => absurd h (by simp), fun j hj => absurd hj (by simp), by simp⟩⟩, hB⟩
              | true =>
                clear CT
                by_cases hf1 : N = 20
                · have g1 : ((N : Int) == 20) = true := by simp; omega
                  have HX := ERR 1 _ (by decide) (by unfold stepM; rw [if_neg (by rw [HH.out]; decide), if_neg (by simpa using HQ.out), if_neg K2.out, if_neg (by simp), if_pos (by rw [HNN.out]; omega)])
                  clear ERR HR hf1
                  go_wp2_with (first
                    | (go_at_call 28; go_fit (N02 _); rintro x w5 ⟨rfl, hb5⟩; replace hE := hE.below hb5; replace hB := hB.trans (hb5.mono hB.size))
                    | (go_at_call 28; go_fit (N22 _); rintro x w5 ⟨rfl, hb5⟩; replace hE := hE.below hb5; replace hB := hB.trans (hb5.mono hB.size))
                    | (go_at_call 28; go_fit (N12 _); rintro x w5 ⟨rfl, hb5⟩; replace hE := hE.below hb5; replace hB := hB.trans (hb5.mono hB.size))
                    | (go_at_call 28; go_fit (N16 _); rintro x w5 ⟨rfl, hb5⟩; replace hE := hE.below hb5; replace hB := hB.trans (hb5.mono hB.size))
                    | (go_at_call 28; go_fit (N18 _); rintro x w5 ⟨rfl, hb5⟩; replace hE := hE.below hb5; replace hB := hB.trans (hb5.mono hB.size))
                    | (go_at_call 28; go_fit (N08 _); rintro x w5 ⟨rfl, hb5⟩; replace hE := hE.below hb5; replace hB := hB.trans (hb5.mono hB.size))
                    | (go_at_call 11; go_fit (CT _); rintro x w5 ⟨rfl, hb5⟩; replace hE := hE.below hb5; replace hB := hB.trans (hb5.mono hB.size)))
                  go_ret2
                  exact ⟨⟨.slice none 0 0, by rw [HX.out]; rfl, by rw [HX.out]; exact ⟨none, 0, rfl, fun h => absurd h (by simp), fun j hj => absurd hj (by simp), by simp⟩⟩, hB⟩
                have g1 : ((N : Int) == 20) = false := by simp; omega
                have hrem : ((N : Int) - 20).tmod 21 = ((N : Int) - 20) % 21 := Int.tmod_eq_emod_of_nonneg (by omega)
                by_cases hf2 : ((N : Int) - 20) % 21 = 0
                case neg =>
                  have g2 : (((N : Int) - 20) % 21 != 0) = true := by simpa using hf2
                  have HX := ERR 1 _ (by decide) (by unfold stepM; rw [if_neg (by rw [HH.out]; decide), if_neg (by simpa using HQ.out), if_neg K2.out, if_neg (by simp), if_pos (by rw [HNN.out]; omega)])
                  clear ERR HR hf1 hf2
                  go_wp2_with (first
                    | (go_at_call 28; go_fit (N02 _); rintro x w5 ⟨rfl, hb5⟩; replace hE := hE.below hb5; replace hB := hB.trans (hb5.mono hB.size))
                    | (go_at_call 28; go_fit (N22 _); rintro x w5 ⟨rfl, hb5⟩; replace hE := hE.below hb5; replace hB := hB.trans (hb5.mono hB.size))
                    | (go_at_call 28; go_fit (N12 _); rintro x w5 ⟨rfl, hb5⟩; replace hE := hE.below hb5; replace hB := hB.trans (hb5.mono hB.size))
                    | (go_at_call 28; go_fit (N16 _); rintro x w5 ⟨rfl, hb5⟩; replace hE := hE.below hb5; replace hB := hB.trans (hb5.mono hB.size))
                    | (go_at_call 28; go_fit (N18 _); rintro x w5 ⟨rfl, hb5⟩; replace hE := hE.below hb5; replace hB := hB.trans (hb5.mono hB.size))
                    | (go_at_call 28; go_fit (N08 _); rintro x w5 ⟨rfl, hb5⟩; replace hE := hE.below hb5; replace hB := hB.trans (hb5.mono hB.size))
                    | (go_at_call 11; go_fit (CT _); rintro x w5 ⟨rfl, hb5⟩; replace hE := hE.below hb5; replace hB := hB.trans (hb5.mono hB.size)))
                  go_ret2
                  exact ⟨⟨.slice none 0 0, by rw [HX.out]; rfl, by rw [HX.out]; exact ⟨none, 0, rfl, fun h => absurd h (by simp), fun j hj => absurd hj (by simp), by simp⟩⟩, hB⟩
                case pos =>
                  have g2 : (((N : Int) - 20) % 21 != 0) = false := by simpa using hf2
                  obtain ⟨c, hc⟩ : ∃ c : Nat, N = 20 + 21 * c := ⟨(N - 20) / 21, by omega⟩
                  have HCN : Hid (N = 20 + 21 * c) := hc
                  have hc2 : c ≤ 3120 := by have := HNN.out; omega
                  have HCC : Hid (((nAt M 2 2 - 20) / 21).toNat = c) := by show _ = _; rw [HNN.out]; omega
                  have HF : Hid (¬ (nAt M 2 2 = 20 ∨ (nAt M 2 2 - 20) % 21 ≠ 0)) := by show ¬ _; rw [HNN.out]; omega
                  have HSL : ∀ es', evs (nAt M 4 4) c (M.drop 20) es = some es' → Hid (stepM M true es = (0, M.drop N, true, es')) := fun es' h => by show _ = _; unfold stepM; rw [if_neg (by rw [HH.out]; decide), if_neg (by simpa using HQ.out), if_neg K2.out, if_neg (by simp), if_neg HF.out, HCC.out, HTN.out]; rw [h]
                  have HSN : evs (nAt M 4 4) c (M.drop 20) es = none → Hid (runM l.length l false [] = (2, [])) := fun h => ERR 2 ([], false, []) (by decide) (by unfold stepM; rw [if_neg (by rw [HH.out]; decide), if_neg (by simpa using HQ.out), if_neg K2.out, if_neg (by simp), if_neg HF.out, HCC.out]; rw [h])
                  have hlt' : (txt (M.drop N)).size < (txt M).size := by rw [txt_size, txt_size, List.length_drop]; omega
                  have HLT : Hid (strN (.string (txt (M.drop N))) < strN (.string (txt M))) := hlt'
                  clear ERR hf1 hf2 hlt' hc
                  go_wp2_with (first
                    | (go_at_call 28; go_fit (N02 _); rintro x w5 ⟨rfl, hb5⟩; replace hE := hE.below hb5; replace hB := hB.trans (hb5.mono hB.size))
                    | (go_at_call 28; go_fit (N22 _); rintro x w5 ⟨rfl, hb5⟩; replace hE := hE.below hb5; replace hB := hB.trans (hb5.mono hB.size))
                    | (go_at_call 28; go_fit (N12 _); rintro x w5 ⟨rfl, hb5⟩; replace hE := hE.below hb5; replace hB := hB.trans (hb5.mono hB.size))
                    | (go_at_call 28; go_fit (N16 _); rintro x w5 ⟨rfl, hb5⟩; replace hE := hE.below hb5; replace hB := hB.trans (hb5.mono hB.size))
                    | (go_at_call 28; go_fit (N18 _); rintro x w5 ⟨rfl, hb5⟩; replace hE := hE.below hb5; replace hB := hB.trans (hb5.mono hB.size))
                    | (go_at_call 28; go_fit (N08 _); rintro x w5 ⟨rfl, hb5⟩; replace hE := hE.below hb5; replace hB := hB.trans (hb5.mono hB.size)))
                  clear N02 N22 N12 N16 N18 N08 x02 x24 x1216 s24 s1216 s1618 s1820 s812 f0 f1 f2 f3 y16 y18 y8 e0 e1 e2 e3 eq g1 g2 hrem zL zR hw16 hw20 V02
                  have h8N : 8 ≤ (txt (M.take N)).size := Nat.le_trans (by decide) (Nat.le_trans hN20 (Nat.le_of_eq hszN.symm))
                  have HNd : Hid (M.drop (20 + 21 * c) = M.drop N) := by show _ = _; rw [← HCN.out]
                  go_loopw [11, 4] (fun at' v2 W => ∃ k A es2, k ≤ c ∧ Hid (A = 20 + 21 * k) ∧ at' = .int .i64 (A : Int) ∧ EvO W w.heap.size v2 es2 ∧ Hid (evs (nAt M 4 4) c (M.drop 20) es = evs (nAt M 4 4) (c - k) (M.drop A) es2) ∧ Hid (es2.length = es.length + k) ∧ Below w.heap.size w W) (fun at' _ _ => N - (intOf at').toNat)
                  case atStart => exact ⟨0, 20, es, by omega, rfl, rfl, hE, rfl, rfl, hB⟩
                  case round =>
                    clear hB hE
                    obtain ⟨k, A, es2, hk, HA, rfl, hE, HV, HS, hB⟩ := hrel
                    obtain ⟨sa2, nn, sc2, HNN2, hsl2⟩ := evO_slice hE
                    subst hsl2
                    by_cases hlt : k < c
                    case neg =>
                      obtain rfl : k = c := by omega
                      have hst := HSL es2 (by rw [HV.out, Nat.sub_self]; rfl)
                      have hnl := lnl HCN.out HA.out (Nat.lt_irrefl _)
                      have hs3 : es2.length ≤ 4294970500 := ls2 rfl HS.out hes1 (Nat.le_refl _) hc2
                      go_wp2
                      go_roundw
                      case rel => first | exact ⟨n', M.drop N, true, es2, rfl, rfl, ldr1 hmn hN20, ldr2 hml, (HR.out.trans (runM_ok n' M true es (Nat.ne_of_gt h0) hst.out)), hE, hs3, hB⟩ | ((repeat apply Exists.intro); exact ⟨⟨n', M.drop N, true, es2, rfl, rfl, ldr1 hmn hN20, ldr2 hml, (HR.out.trans (runM_ok n' M true es (Nat.ne_of_gt h0) hst.out)), hE, hs3, hB⟩, rfl⟩)
                      case measure => exact HLT.out
                    case pos =>
                      have HM1 : Hid (c - k = (c - (k + 1)) + 1) := lm1 hlt
                      have hA21 : A + 21 ≤ N := la21 HCN.out HA.out hlt
                      have HA3 : Hid (A + 21 = 20 + 21 * (k + 1)) := la3 HA.out
                      have HV2 : Hid (evs (nAt M 4 4) c (M.drop 20) es = evs (nAt M 4 4) ((c - (k + 1)) + 1) (M.drop A) es2) := by show _ = _; rw [HV.out, ← HM1.out]
                      have HDR : Hid ((M.drop A).drop 21 = M.drop (A + 21)) := by show _ = _; rw [List.drop_drop]
                      have hs2 : nn ≤ 4294970500 := ls2 HNN2.out HS.out hes1 hk hc2
                      have hpu : es2.length ≤ 5000000000 := lpu HS.out hes1 hk hc2
                      have hep : es2.length ≤ 3518437208780 := lep HS.out hes1 hk hc2
                      have hk1 : k + 1 ≤ c := hlt
                      clear HV HM1 hlt hk
                      have hAi := lai hA21
                      have hwA := lwa hA21 hNl hMl
                      obtain ⟨q, hq⟩ : ∃ q, M.drop A = q := ⟨_, rfl⟩
                      have sA := fun w : World => lsA M N A hA21 hNl w
                      have hq21 : ((M.drop A).take 21).length = 21 := lq21 hA21 hNl
                      rw [hq] at sA hq21
                      rw [hq] at HV2 HDR
                      have CRA := fun w => readEvent_any (q.take 21) w hq21
                      rw [okR_take, rd_take] at CRA
                      clear hq
                      have hlen2 : nn = es2.length := HNN2.out
                      obtain ⟨e, bq, HEB, CE⟩ : ∃ e bq, Hid ((okR q ∧ e = rdE q ∧ bq = true) ∨ (¬ okR q ∧ e = noE ∧ bq = false)) ∧ ∀ w, Calls Tryd.prog 29 #[.string (txt (q.take 21))] w fun x w' => x = .returned (.tuple #[.agg (ec e), .bool bq]) ∧ Below w.heap.size w w' := by
                        by_cases hok : okR q
                        · exact ⟨rdE q, true, Or.inl ⟨hok, rfl, rfl⟩, fun w => (CRA w).mono (by rintro x w' ⟨⟨_, h⟩ | ⟨h, _⟩, hb⟩; exact ⟨h, hb⟩; exact absurd hok h)⟩
                        · exact ⟨noE, false, Or.inr ⟨hok, rfl, rfl⟩, fun w => (CRA w).mono (by rintro x w' ⟨⟨h, _⟩ | ⟨_, h⟩, hb⟩; exact absurd h hok; exact ⟨h, hb⟩)⟩
                      clear CRA
                      have HSN2 : Hid (evs (nAt M 4 4) c (M.drop 20) es = none → Hid (runM l.length l false [] = (2, []))) := HSN
                      have HLEN : Hid (nn = es2.length) := hlen2
                      clear hlen2 HSN HSL HR HLT HCN HCC HF HNd
                      (try clear hml); (try clear hmn); (try clear hes); (try clear hMl); (try clear h0'); (try clear q20); (try clear q21); (try clear h65); (try clear h20); (try clear hNl); (try clear hN20); (try clear hes1); (try clear hc2); (try clear hq21); (try clear h0); (try clear hNi); (try clear hN20i); (try clear hsz); (try clear hl)
                      have HA21 : Hid (A + 21 ≤ N) := hA21
                      have HPU : Hid (es2.length ≤ 5000000000) := hpu
                      have HEP : Hid (es2.length ≤ 3518437208780) := hep
                      have HS2 : Hid (nn ≤ 4294970500) := hs2
                      have HK1 : Hid (k + 1 ≤ c) := hk1
                      have H8N : Hid (8 ≤ (txt (M.take N)).size) := h8N
                      clear hA21 hpu hep hs2 hk1 h8N
                      go_upto_region 27 with (first
                        | (go_at_call 29; refine (CE _).mono ?_; rintro x w5 ⟨rfl, hb5⟩; replace hE := hE.below hb5; replace hB := hB.trans (hb5.mono hB.size))
                        | ((with_reducible refine atOp (.alloc 29) rfl ?_); refine wpList_allocX 12 29 rfl rfl rfl _ ev_zero ?_; intro b12 w3 g12 R12 hb3; have hne12 := EvO.new hE g12; replace g12 := Nat.le_trans hB.size g12; replace hE := EvO.below hE hb3; replace hB := hB.trans (hb3.mono hB.size))
                        | ((with_reducible refine atOp (.store 29 (.tmp 12) (.tmp 111)) rfl ?_); refine wpList_storeR 29 rfl (.tmp 12) (.tmp 111) rfl b12 rfl (ec e) rfl _ R12 rfl (ec_info _) (ec_one _) ?_; intro w4 R12 t4; replace hE := EvO.turned hE t4 hne12; replace hB := t4.below _ _ g12 hB))
                      rcases HEB.out with ⟨hok, rfl, rfl⟩ | ⟨hok, rfl, rfl⟩
                      case inr =>
                        have HX := HSN2.out (by rw [HV2.out, evs_no (fun h => hok h.1)])
                        refine wp_region_noPanic ?_
                        refine wp_region_held_drew (S := fun W => Row 29 W b12 (ec noE) ∧ EvO W w.heap.size (.slice sa2 nn sc2) es2) (by kernel_rfl) ⟨R12, hE⟩ (fun _ => ?_)
                        refine wpAnyH_take (i := 0) (v := .bool false) rfl (by kernel_rfl) (by kernel_rfl) (by kernel_rfl) (fun _ _ _ h => h) (yields_move (.tmp 13) (.bool false) rfl (by kernel_rfl) (by kernel_rfl)) ⟨R12, hE⟩ ?_
                        refine wpAnyH_take (i := 1) (v := .bool true) rfl (by kernel_rfl) (by kernel_rfl) (by kernel_rfl) (fun _ _ _ h => h) (yields_not (.tmp 113) false true rfl (by kernel_rfl) (by kernel_rfl) rfl) ⟨R12, hE⟩ ?_
                        refine wpAnyH_take (i := 2) (v := .bool true) rfl (by kernel_rfl) (by kernel_rfl) (by kernel_rfl) (fun _ _ _ h => h) (yields_move (.tmp 114) (.bool true) rfl (by kernel_rfl) (by kernel_rfl)) ⟨R12, hE⟩ ?_
                        try simp only [Act.put, List.getElem_toArray, List.getElem_cons_succ, List.getElem_cons_zero, List.setIfInBounds_toArray, List.set_cons_zero, List.set_cons_succ]
                        refine wpAnyH_take (i := 3) (v := undef) rfl (by kernel_rfl) (by kernel_rfl) (by kernel_rfl) (fun _ _ _ h => h) (Or.inr ⟨by kernel_rfl, rfl⟩) ⟨R12, hE⟩ ?_
                        refine wpAnyH_take (i := 4) (v := undef) rfl (by kernel_rfl) (by kernel_rfl) (by kernel_rfl) (fun _ _ _ h => h) (Or.inr ⟨by kernel_rfl, rfl⟩) ⟨R12, hE⟩ ?_
                        refine wpAnyH_take (i := 5) (v := undef) rfl (by kernel_rfl) (by kernel_rfl) (by kernel_rfl) (fun _ _ _ h => h) (Or.inr ⟨by kernel_rfl, rfl⟩) ⟨R12, hE⟩ ?_
                        try simp only [Act.put, List.getElem_toArray, List.getElem_cons_succ, List.getElem_cons_zero, List.setIfInBounds_toArray, List.set_cons_zero, List.set_cons_succ]
                        refine wpAnyH_take (i := 6) (v := undef) rfl (by kernel_rfl) (by kernel_rfl) (by kernel_rfl) (fun _ _ _ h => h) (Or.inr ⟨by kernel_rfl, rfl⟩) ⟨R12, hE⟩ ?_
                        refine wpAnyH_take (i := 7) (v := undef) rfl (by kernel_rfl) (by kernel_rfl) (by kernel_rfl) (fun _ _ _ h => h) (Or.inr ⟨by kernel_rfl, rfl⟩) ⟨R12, hE⟩ ?_
                        try simp only [Act.put, List.getElem_toArray, List.getElem_cons_succ, List.getElem_cons_zero, List.setIfInBounds_toArray, List.set_cons_zero, List.set_cons_succ]
                        refine wpAnyH_ready (rs := [8]) (by kernel_rfl) (by simp) ?_
                        refine AllReadyH.cons rfl (fun K hK => ?_) ?_
                        · rw [if_neg (ne_true_of_eq_false (by kernel_rfl))]
                          refine hK.out _ _ ⟨R12, hE⟩ (fun _ => ?_)
                          clear hK K
                          try simp only [Act.put, List.getElem_toArray, List.getElem_cons_succ, List.getElem_cons_zero, List.setIfInBounds_toArray, List.set_cons_zero, List.set_cons_succ]
                          refine wpAnyH_take (i := 9) (v := undef) rfl (by kernel_rfl) (by kernel_rfl) (by kernel_rfl) (fun _ _ _ h => h) (Or.inr ⟨by kernel_rfl, rfl⟩) ⟨R12, hE⟩ ?_
                          refine wpAnyH_take (i := 10) (v := .bool true) rfl (by kernel_rfl) (by kernel_rfl) (by kernel_rfl) (fun _ _ _ h => h) (yields_pickt (.tmp 115) (.const (.bool true)) (.tmp 122) (.bool true) rfl (by kernel_rfl) (by kernel_rfl) (by kernel_rfl)) ⟨R12, hE⟩ ?_
                          refine wpAnyH_take (i := 11) (v := .bool true) rfl (by kernel_rfl) (by kernel_rfl) (by kernel_rfl) (fun _ _ _ h => h) (yields_move (.tmp 123) (.bool true) rfl (by kernel_rfl) (by kernel_rfl)) ⟨R12, hE⟩ ?_
                          try simp only [Act.put, List.getElem_toArray, List.getElem_cons_succ, List.getElem_cons_zero, List.setIfInBounds_toArray, List.set_cons_zero, List.set_cons_succ]
                          refine wpAnyH_take (i := 12) (v := undef) rfl (by kernel_rfl) (by kernel_rfl) (by kernel_rfl) (fun _ _ _ h => h) (Or.inr ⟨by kernel_rfl, rfl⟩) ⟨R12, hE⟩ ?_
                          refine wpAnyH_take (i := 13) (v := undef) rfl (by kernel_rfl) (by kernel_rfl) (by kernel_rfl) (fun _ _ _ h => h) (Or.inr ⟨by kernel_rfl, rfl⟩) ⟨R12, hE⟩ ?_
                          refine wpAnyH_take (i := 14) (v := undef) rfl (by kernel_rfl) (by kernel_rfl) (by kernel_rfl) (fun _ _ _ h => h) (Or.inr ⟨by kernel_rfl, rfl⟩) ⟨R12, hE⟩ ?_
                          try simp only [Act.put, List.getElem_toArray, List.getElem_cons_succ, List.getElem_cons_zero, List.setIfInBounds_toArray, List.set_cons_zero, List.set_cons_succ]
                          refine wpAnyH_take (i := 15) (v := undef) rfl (by kernel_rfl) (by kernel_rfl) (by kernel_rfl) (fun _ _ _ h => h) (Or.inr ⟨by kernel_rfl, rfl⟩) ⟨R12, hE⟩ ?_
                          refine wpAnyH_take (i := 16) (v := undef) rfl (by kernel_rfl) (by kernel_rfl) (by kernel_rfl) (fun _ _ _ h => h) (Or.inr ⟨by kernel_rfl, rfl⟩) ⟨R12, hE⟩ ?_
                          refine wpAnyH_take (i := 17) (v := undef) rfl (by kernel_rfl) (by kernel_rfl) (by kernel_rfl) (fun _ _ _ h => h) (Or.inr ⟨by kernel_rfl, rfl⟩) ⟨R12, hE⟩ ?_
                          try simp only [Act.put, List.getElem_toArray, List.getElem_cons_succ, List.getElem_cons_zero, List.setIfInBounds_toArray, List.set_cons_zero, List.set_cons_succ]
                          refine wpAnyH_take (i := 18) (v := undef) rfl (by kernel_rfl) (by kernel_rfl) (by kernel_rfl) (fun _ _ _ h => h) (Or.inr ⟨by kernel_rfl, rfl⟩) ⟨R12, hE⟩ ?_
                          refine wpAnyH_take (i := 19) (v := undef) rfl (by kernel_rfl) (by kernel_rfl) (by kernel_rfl) (fun _ _ _ h => h) (Or.inr ⟨by kernel_rfl, rfl⟩) ⟨R12, hE⟩ ?_
                          refine wpAnyH_take (i := 20) (v := undef) rfl (by kernel_rfl) (by kernel_rfl) (by kernel_rfl) (fun _ _ _ h => h) (Or.inr ⟨by kernel_rfl, rfl⟩) ⟨R12, hE⟩ ?_
                          try simp only [Act.put, List.getElem_toArray, List.getElem_cons_succ, List.getElem_cons_zero, List.setIfInBounds_toArray, List.set_cons_zero, List.set_cons_succ]
                          refine wpAnyH_take (i := 21) (v := undef) rfl (by kernel_rfl) (by kernel_rfl) (by kernel_rfl) (fun _ _ _ h => h) (Or.inr ⟨by kernel_rfl, rfl⟩) ⟨R12, hE⟩ ?_
                          refine wpAnyH_take (i := 22) (v := undef) rfl (by kernel_rfl) (by kernel_rfl) (by kernel_rfl) (fun _ _ _ h => h) (Or.inr ⟨by kernel_rfl, rfl⟩) ⟨R12, hE⟩ ?_
                          refine wpAnyH_take (i := 23) (v := undef) rfl (by kernel_rfl) (by kernel_rfl) (by kernel_rfl) (fun _ _ _ h => h) (Or.inr ⟨by kernel_rfl, rfl⟩) ⟨R12, hE⟩ ?_
                          try simp only [Act.put, List.getElem_toArray, List.getElem_cons_succ, List.getElem_cons_zero, List.setIfInBounds_toArray, List.set_cons_zero, List.set_cons_succ]
                          refine wpAnyH_take (i := 24) (v := undef) rfl (by kernel_rfl) (by kernel_rfl) (by kernel_rfl) (fun _ _ _ h => h) (Or.inr ⟨by kernel_rfl, rfl⟩) ⟨R12, hE⟩ ?_
                          refine wpAnyH_take (i := 25) (v := undef) rfl (by kernel_rfl) (by kernel_rfl) (by kernel_rfl) (fun _ _ _ h => h) (Or.inr ⟨by kernel_rfl, rfl⟩) ⟨R12, hE⟩ ?_
                          refine wpAnyH_take (i := 26) (v := undef) rfl (by kernel_rfl) (by kernel_rfl) (by kernel_rfl) (fun _ _ _ h => h) (Or.inr ⟨by kernel_rfl, rfl⟩) ⟨R12, hE⟩ ?_
                          try simp only [Act.put, List.getElem_toArray, List.getElem_cons_succ, List.getElem_cons_zero, List.setIfInBounds_toArray, List.set_cons_zero, List.set_cons_succ]
                          refine wpAnyH_take (i := 27) (v := .bool true) rfl (by kernel_rfl) (by kernel_rfl) (by kernel_rfl) (fun _ _ _ h => h) (yields_pickt (.tmp 124) (.const (.bool true)) (.tmp 139) (.bool true) rfl (by kernel_rfl) (by kernel_rfl) (by kernel_rfl)) ⟨R12, hE⟩ ?_
                          try simp only [Act.put, List.getElem_toArray, List.getElem_cons_succ, List.getElem_cons_zero, List.setIfInBounds_toArray, List.set_cons_zero, List.set_cons_succ]
                          refine wpAnyH_done (by kernel_rfl) ?_ _
                          refine NoPanic.normal ?_
                          go_wp2
                          go_ret2
                          exact ⟨⟨.slice none 0 0, by rw [HX.out]; rfl, by rw [HX.out]; exact ⟨none, 0, rfl, fun h => absurd h (by simp), fun j hj => absurd hj (by simp), by simp⟩⟩, by first | exact hB | exact below_drewE hB⟩
                        exact AllReadyH.nil
                      case inl =>
                        have ht0 := hok.1.1.1
                        by_cases htm' : (rdE q).t % 4294967296 = nAt M 4 4
                        case neg =>
                          have htm : Hid (((rdE q).t % 4294967296 != nAt M 4 4) = true) := by show _ = _; simpa using htm'
                          have HX := HSN2.out (by rw [HV2.out, evs_no (fun h => htm' h.2.1)])
                          clear hok htm'
                          refine wp_region_noPanic ?_
                          refine wp_region_held_drew (S := fun W => Row 29 W b12 (ec (rdE q)) ∧ EvO W w.heap.size (.slice sa2 nn sc2) es2) (by kernel_rfl) ⟨R12, hE⟩ (fun _ => ?_)
                          refine wpAnyH_take (i := 0) (v := .bool true) rfl (by kernel_rfl) (by kernel_rfl) (by kernel_rfl) (fun _ _ _ h => h) (yields_move (.tmp 13) (.bool true) rfl (by kernel_rfl) (by kernel_rfl)) ⟨R12, hE⟩ ?_
                          refine wpAnyH_take (i := 1) (v := .bool false) rfl (by kernel_rfl) (by kernel_rfl) (by kernel_rfl) (fun _ _ _ h => h) (yields_not (.tmp 113) true false rfl (by kernel_rfl) (by kernel_rfl) rfl) ⟨R12, hE⟩ ?_
                          refine wpAnyH_take (i := 2) (v := .bool false) rfl (by kernel_rfl) (by kernel_rfl) (by kernel_rfl) (fun _ _ _ h => h) (yields_move (.tmp 114) (.bool false) rfl (by kernel_rfl) (by kernel_rfl)) ⟨R12, hE⟩ ?_
                          try simp only [Act.put, List.getElem_toArray, List.getElem_cons_succ, List.getElem_cons_zero, List.setIfInBounds_toArray, List.set_cons_zero, List.set_cons_succ]
                          refine wpAnyH_take (i := 3) (v := .pointer (some ⟨b12, 0, none⟩)) rfl (by kernel_rfl) (by kernel_rfl) (by kernel_rfl) (fun _ _ _ h => h) (yields_fldE0 (.tmp 12) rfl (by kernel_rfl) _ _ (by kernel_rfl)) ⟨R12, hE⟩ ?_
                          refine wpAnyH_take (i := 4) (v := .int .i64 (rdE q).t) rfl (by kernel_rfl) (by kernel_rfl) (by kernel_rfl) (fun _ _ _ h => h) (yields_loadI (.tmp 116) rfl (by kernel_rfl) b12 0 (by kernel_rfl) (rdE q).t (fun w h => (h.1.cell 0).trans rfl)) ⟨R12, hE⟩ ?_
                          refine wpAnyH_take (i := 5) (v := .int .i64 ((rdE q).t % 4294967296)) rfl (by kernel_rfl) (by kernel_rfl) (by kernel_rfl) (fun _ _ _ h => h) (yields_remI (.tmp 117) (rdE q).t rfl (by kernel_rfl) (by kernel_rfl) ht0) ⟨R12, hE⟩ ?_
                          try simp only [Act.put, List.getElem_toArray, List.getElem_cons_succ, List.getElem_cons_zero, List.setIfInBounds_toArray, List.set_cons_zero, List.set_cons_succ]
                          refine wpAnyH_take (i := 6) (v := .string (txt (M.take N))) rfl (by kernel_rfl) (by kernel_rfl) (by kernel_rfl) (fun _ _ _ h => h) (yields_move (.tmp 7) (.string (txt (M.take N))) rfl (by kernel_rfl) (by kernel_rfl)) ⟨R12, hE⟩ ?_
                          refine wpAnyH_take (i := 7) (v := .string (txt ((M.drop 4).take 4))) rfl (by kernel_rfl) (by kernel_rfl) (by kernel_rfl) (fun _ _ _ h => h) (yields_mid (.tmp 119) 4 8 rfl (by kernel_rfl) (txt (M.take N)) (by kernel_rfl) (by decide) H8N.out _ y4) ⟨R12, hE⟩ ?_
                          try simp only [Act.put, List.getElem_toArray, List.getElem_cons_succ, List.getElem_cons_zero, List.setIfInBounds_toArray, List.set_cons_zero, List.set_cons_succ]
                          refine wpAnyH_ready (rs := [8]) (by kernel_rfl) (by simp) ?_
                          refine AllReadyH.cons rfl (fun K hK => ?_) ?_
                          · go_simp
                            go_at_call 28; refine (N04 _).mono ?_; rintro x w5 ⟨rfl, hb5⟩; replace hb5 := below_undrE hb5; replace R12 := R12.below hb5; replace hE := EvO.below hE hb5; replace hB := hB.trans (hb5.mono hB.size)
                            go_wp2_with fail
                            refine hK.out _ _ ⟨R12, hE⟩ (fun _ => ?_)
                            clear hK K
                            try simp only [Act.put, List.getElem_toArray, List.getElem_cons_succ, List.getElem_cons_zero, List.setIfInBounds_toArray, List.set_cons_zero, List.set_cons_succ]
                            refine wpAnyH_take (i := 9) (v := .bool true) rfl (by kernel_rfl) (by kernel_rfl) (by kernel_rfl) (fun _ _ _ h => h) (yields_nei 3 (.tmp 118) (.tmp 121) ((rdE q).t % 4294967296) (nAt M 4 4) true rfl (by kernel_rfl) (by kernel_rfl) (by kernel_rfl) htm.out) ⟨R12, hE⟩ ?_
                            refine wpAnyH_take (i := 10) (v := .bool true) rfl (by kernel_rfl) (by kernel_rfl) (by kernel_rfl) (fun _ _ _ h => h) (yields_pickf (.tmp 115) (.const (.bool true)) (.tmp 122) (.bool true) rfl (by kernel_rfl) (by kernel_rfl) (by kernel_rfl)) ⟨R12, hE⟩ ?_
                            refine wpAnyH_take (i := 11) (v := .bool true) rfl (by kernel_rfl) (by kernel_rfl) (by kernel_rfl) (fun _ _ _ h => h) (yields_move (.tmp 123) (.bool true) rfl (by kernel_rfl) (by kernel_rfl)) ⟨R12, hE⟩ ?_
                            try simp only [Act.put, List.getElem_toArray, List.getElem_cons_succ, List.getElem_cons_zero, List.setIfInBounds_toArray, List.set_cons_zero, List.set_cons_succ]
                            refine wpAnyH_take (i := 12) (v := undef) rfl (by kernel_rfl) (by kernel_rfl) (by kernel_rfl) (fun _ _ _ h => h) (Or.inr ⟨by kernel_rfl, rfl⟩) ⟨R12, hE⟩ ?_
                            refine wpAnyH_take (i := 13) (v := undef) rfl (by kernel_rfl) (by kernel_rfl) (by kernel_rfl) (fun _ _ _ h => h) (Or.inr ⟨by kernel_rfl, rfl⟩) ⟨R12, hE⟩ ?_
                            refine wpAnyH_take (i := 14) (v := undef) rfl (by kernel_rfl) (by kernel_rfl) (by kernel_rfl) (fun _ _ _ h => h) (Or.inr ⟨by kernel_rfl, rfl⟩) ⟨R12, hE⟩ ?_
                            try simp only [Act.put, List.getElem_toArray, List.getElem_cons_succ, List.getElem_cons_zero, List.setIfInBounds_toArray, List.set_cons_zero, List.set_cons_succ]
                            refine wpAnyH_take (i := 15) (v := undef) rfl (by kernel_rfl) (by kernel_rfl) (by kernel_rfl) (fun _ _ _ h => h) (Or.inr ⟨by kernel_rfl, rfl⟩) ⟨R12, hE⟩ ?_
                            refine wpAnyH_take (i := 16) (v := undef) rfl (by kernel_rfl) (by kernel_rfl) (by kernel_rfl) (fun _ _ _ h => h) (Or.inr ⟨by kernel_rfl, rfl⟩) ⟨R12, hE⟩ ?_
                            refine wpAnyH_take (i := 17) (v := undef) rfl (by kernel_rfl) (by kernel_rfl) (by kernel_rfl) (fun _ _ _ h => h) (Or.inr ⟨by kernel_rfl, rfl⟩) ⟨R12, hE⟩ ?_
                            try simp only [Act.put, List.getElem_toArray, List.getElem_cons_succ, List.getElem_cons_zero, List.setIfInBounds_toArray, List.set_cons_zero, List.set_cons_succ]
                            refine wpAnyH_take (i := 18) (v := undef) rfl (by kernel_rfl) (by kernel_rfl) (by kernel_rfl) (fun _ _ _ h => h) (Or.inr ⟨by kernel_rfl, rfl⟩) ⟨R12, hE⟩ ?_
                            refine wpAnyH_take (i := 19) (v := undef) rfl (by kernel_rfl) (by kernel_rfl) (by kernel_rfl) (fun _ _ _ h => h) (Or.inr ⟨by kernel_rfl, rfl⟩) ⟨R12, hE⟩ ?_
                            refine wpAnyH_take (i := 20) (v := undef) rfl (by kernel_rfl) (by kernel_rfl) (by kernel_rfl) (fun _ _ _ h => h) (Or.inr ⟨by kernel_rfl, rfl⟩) ⟨R12, hE⟩ ?_
                            try simp only [Act.put, List.getElem_toArray, List.getElem_cons_succ, List.getElem_cons_zero, List.setIfInBounds_toArray, List.set_cons_zero, List.set_cons_succ]
                            refine wpAnyH_take (i := 21) (v := undef) rfl (by kernel_rfl) (by kernel_rfl) (by kernel_rfl) (fun _ _ _ h => h) (Or.inr ⟨by kernel_rfl, rfl⟩) ⟨R12, hE⟩ ?_
                            refine wpAnyH_take (i := 22) (v := undef) rfl (by kernel_rfl) (by kernel_rfl) (by kernel_rfl) (fun _ _ _ h => h) (Or.inr ⟨by kernel_rfl, rfl⟩) ⟨R12, hE⟩ ?_
                            refine wpAnyH_take (i := 23) (v := undef) rfl (by kernel_rfl) (by kernel_rfl) (by kernel_rfl) (fun _ _ _ h => h) (Or.inr ⟨by kernel_rfl, rfl⟩) ⟨R12, hE⟩ ?_
                            try simp only [Act.put, List.getElem_toArray, List.getElem_cons_succ, List.getElem_cons_zero, List.setIfInBounds_toArray, List.set_cons_zero, List.set_cons_succ]
                            refine wpAnyH_take (i := 24) (v := undef) rfl (by kernel_rfl) (by kernel_rfl) (by kernel_rfl) (fun _ _ _ h => h) (Or.inr ⟨by kernel_rfl, rfl⟩) ⟨R12, hE⟩ ?_
                            refine wpAnyH_take (i := 25) (v := undef) rfl (by kernel_rfl) (by kernel_rfl) (by kernel_rfl) (fun _ _ _ h => h) (Or.inr ⟨by kernel_rfl, rfl⟩) ⟨R12, hE⟩ ?_
                            refine wpAnyH_take (i := 26) (v := undef) rfl (by kernel_rfl) (by kernel_rfl) (by kernel_rfl) (fun _ _ _ h => h) (Or.inr ⟨by kernel_rfl, rfl⟩) ⟨R12, hE⟩ ?_
                            try simp only [Act.put, List.getElem_toArray, List.getElem_cons_succ, List.getElem_cons_zero, List.setIfInBounds_toArray, List.set_cons_zero, List.set_cons_succ]
                            refine wpAnyH_take (i := 27) (v := .bool true) rfl (by kernel_rfl) (by kernel_rfl) (by kernel_rfl) (fun _ _ _ h => h) (yields_pickt (.tmp 124) (.const (.bool true)) (.tmp 139) (.bool true) rfl (by kernel_rfl) (by kernel_rfl) (by kernel_rfl)) ⟨R12, hE⟩ ?_
                            try simp only [Act.put, List.getElem_toArray, List.getElem_cons_succ, List.getElem_cons_zero, List.setIfInBounds_toArray, List.set_cons_zero, List.set_cons_succ]
                            refine wpAnyH_done (by kernel_rfl) ?_ _
                            refine NoPanic.normal ?_
                            go_wp2
                            go_ret2
                            exact ⟨⟨.slice none 0 0, by rw [HX.out]; rfl, by rw [HX.out]; exact ⟨none, 0, rfl, fun h => absurd h (by simp), fun j hj => absurd hj (by simp), by simp⟩⟩, by first | exact hB | exact below_drewE hB⟩
                          exact AllReadyH.nil
                        case pos =>
                          have htm : Hid (((rdE q).t % 4294967296 != nAt M 4 4) = false) := by show _ = _; simpa using htm'
                          by_cases h00 : nn = 0
                          case pos =>
                            have hz : Hid (decide ((0 : Int) < (nn : Int)) = false) := lgt h00
                            have hgood : Hid (okR q ∧ (rdE q).t % 4294967296 = nAt M 4 4 ∧ laterE es2 (rdE q).t = false) := ⟨hok, htm', by rw [List.eq_nil_of_length_eq_zero (HLEN.out.symm.trans h00)]; rfl⟩
                            clear hok htm' h00
                            refine wp_region_noPanic ?_
                            refine wp_region_held_drew (S := fun W => Row 29 W b12 (ec (rdE q)) ∧ EvO W w.heap.size (.slice sa2 nn sc2) es2) (by kernel_rfl) ⟨R12, hE⟩ (fun _ => ?_)
                            refine wpAnyH_take (i := 0) (v := .bool true) rfl (by kernel_rfl) (by kernel_rfl) (by kernel_rfl) (fun _ _ _ h => h) (yields_move (.tmp 13) (.bool true) rfl (by kernel_rfl) (by kernel_rfl)) ⟨R12, hE⟩ ?_
                            refine wpAnyH_take (i := 1) (v := .bool false) rfl (by kernel_rfl) (by kernel_rfl) (by kernel_rfl) (fun _ _ _ h => h) (yields_not (.tmp 113) true false rfl (by kernel_rfl) (by kernel_rfl) rfl) ⟨R12, hE⟩ ?_
                            refine wpAnyH_take (i := 2) (v := .bool false) rfl (by kernel_rfl) (by kernel_rfl) (by kernel_rfl) (fun _ _ _ h => h) (yields_move (.tmp 114) (.bool false) rfl (by kernel_rfl) (by kernel_rfl)) ⟨R12, hE⟩ ?_
                            try simp only [Act.put, List.getElem_toArray, List.getElem_cons_succ, List.getElem_cons_zero, List.setIfInBounds_toArray, List.set_cons_zero, List.set_cons_succ]
                            refine wpAnyH_take (i := 3) (v := .pointer (some ⟨b12, 0, none⟩)) rfl (by kernel_rfl) (by kernel_rfl) (by kernel_rfl) (fun _ _ _ h => h) (yields_fldE0 (.tmp 12) rfl (by kernel_rfl) _ _ (by kernel_rfl)) ⟨R12, hE⟩ ?_
                            refine wpAnyH_take (i := 4) (v := .int .i64 (rdE q).t) rfl (by kernel_rfl) (by kernel_rfl) (by kernel_rfl) (fun _ _ _ h => h) (yields_loadI (.tmp 116) rfl (by kernel_rfl) b12 0 (by kernel_rfl) (rdE q).t (fun w h => (h.1.cell 0).trans rfl)) ⟨R12, hE⟩ ?_
                            refine wpAnyH_take (i := 5) (v := .int .i64 ((rdE q).t % 4294967296)) rfl (by kernel_rfl) (by kernel_rfl) (by kernel_rfl) (fun _ _ _ h => h) (yields_remI (.tmp 117) (rdE q).t rfl (by kernel_rfl) (by kernel_rfl) ht0) ⟨R12, hE⟩ ?_
                            try simp only [Act.put, List.getElem_toArray, List.getElem_cons_succ, List.getElem_cons_zero, List.setIfInBounds_toArray, List.set_cons_zero, List.set_cons_succ]
                            refine wpAnyH_take (i := 6) (v := .string (txt (M.take N))) rfl (by kernel_rfl) (by kernel_rfl) (by kernel_rfl) (fun _ _ _ h => h) (yields_move (.tmp 7) (.string (txt (M.take N))) rfl (by kernel_rfl) (by kernel_rfl)) ⟨R12, hE⟩ ?_
                            refine wpAnyH_take (i := 7) (v := .string (txt ((M.drop 4).take 4))) rfl (by kernel_rfl) (by kernel_rfl) (by kernel_rfl) (fun _ _ _ h => h) (yields_mid (.tmp 119) 4 8 rfl (by kernel_rfl) (txt (M.take N)) (by kernel_rfl) (by decide) H8N.out _ y4) ⟨R12, hE⟩ ?_
                            try simp only [Act.put, List.getElem_toArray, List.getElem_cons_succ, List.getElem_cons_zero, List.setIfInBounds_toArray, List.set_cons_zero, List.set_cons_succ]
                            refine wpAnyH_ready (rs := [8]) (by kernel_rfl) (by simp) ?_
                            refine AllReadyH.cons rfl (fun K hK => ?_) ?_
                            · go_simp
                              go_at_call 28; refine (N04 _).mono ?_; rintro x w5 ⟨rfl, hb5⟩; replace hb5 := below_undrE hb5; replace R12 := R12.below hb5; replace hE := EvO.below hE hb5; replace hB := hB.trans (hb5.mono hB.size)
                              go_wp2_with fail
                              refine hK.out _ _ ⟨R12, hE⟩ (fun _ => ?_)
                              clear hK K
                              try simp only [Act.put, List.getElem_toArray, List.getElem_cons_succ, List.getElem_cons_zero, List.setIfInBounds_toArray, List.set_cons_zero, List.set_cons_succ]
                              refine wpAnyH_take (i := 9) (v := .bool false) rfl (by kernel_rfl) (by kernel_rfl) (by kernel_rfl) (fun _ _ _ h => h) (yields_nei 3 (.tmp 118) (.tmp 121) ((rdE q).t % 4294967296) (nAt M 4 4) false rfl (by kernel_rfl) (by kernel_rfl) (by kernel_rfl) htm.out) ⟨R12, hE⟩ ?_
                              refine wpAnyH_take (i := 10) (v := .bool false) rfl (by kernel_rfl) (by kernel_rfl) (by kernel_rfl) (fun _ _ _ h => h) (yields_pickf (.tmp 115) (.const (.bool true)) (.tmp 122) (.bool false) rfl (by kernel_rfl) (by kernel_rfl) (by kernel_rfl)) ⟨R12, hE⟩ ?_
                              refine wpAnyH_take (i := 11) (v := .bool false) rfl (by kernel_rfl) (by kernel_rfl) (by kernel_rfl) (fun _ _ _ h => h) (yields_move (.tmp 123) (.bool false) rfl (by kernel_rfl) (by kernel_rfl)) ⟨R12, hE⟩ ?_
                              try simp only [Act.put, List.getElem_toArray, List.getElem_cons_succ, List.getElem_cons_zero, List.setIfInBounds_toArray, List.set_cons_zero, List.set_cons_succ]
                              refine wpAnyH_take (i := 12) (v := .slice sa2 nn sc2) rfl (by kernel_rfl) (by kernel_rfl) (by kernel_rfl) (fun _ _ _ h => h) (yields_move (.tmp 4) (.slice sa2 nn sc2) rfl (by kernel_rfl) (by kernel_rfl)) ⟨R12, hE⟩ ?_
                              refine wpAnyH_take (i := 13) (v := .int .i64 (nn : Int)) rfl (by kernel_rfl) (by kernel_rfl) (by kernel_rfl) (fun _ _ _ h => h) (yields_lenE (.tmp 125) rfl (by kernel_rfl) sa2 nn sc2 (by kernel_rfl)) ⟨R12, hE⟩ ?_
                              refine wpAnyH_take (i := 14) (v := .bool false) rfl (by kernel_rfl) (by kernel_rfl) (by kernel_rfl) (fun _ _ _ h => h) (yields_gtr (.tmp 126) (.const (.int .i64 0)) rfl (by kernel_rfl) (nn : Int) 0 false (by kernel_rfl) (by kernel_rfl) hz.out) ⟨R12, hE⟩ ?_
                              try simp only [Act.put, List.getElem_toArray, List.getElem_cons_succ, List.getElem_cons_zero, List.setIfInBounds_toArray, List.set_cons_zero, List.set_cons_succ]
                              refine wpAnyH_take (i := 15) (v := .bool false) rfl (by kernel_rfl) (by kernel_rfl) (by kernel_rfl) (fun _ _ _ h => h) (yields_move (.tmp 127) (.bool false) rfl (by kernel_rfl) (by kernel_rfl)) ⟨R12, hE⟩ ?_
                              refine wpAnyH_take (i := 16) (v := undef) rfl (by kernel_rfl) (by kernel_rfl) (by kernel_rfl) (fun _ _ _ h => h) (Or.inr ⟨by kernel_rfl, rfl⟩) ⟨R12, hE⟩ ?_
                              refine wpAnyH_take (i := 17) (v := undef) rfl (by kernel_rfl) (by kernel_rfl) (by kernel_rfl) (fun _ _ _ h => h) (Or.inr ⟨by kernel_rfl, rfl⟩) ⟨R12, hE⟩ ?_
                              try simp only [Act.put, List.getElem_toArray, List.getElem_cons_succ, List.getElem_cons_zero, List.setIfInBounds_toArray, List.set_cons_zero, List.set_cons_succ]
                              refine wpAnyH_take (i := 18) (v := undef) rfl (by kernel_rfl) (by kernel_rfl) (by kernel_rfl) (fun _ _ _ h => h) (Or.inr ⟨by kernel_rfl, rfl⟩) ⟨R12, hE⟩ ?_
                              refine wpAnyH_take (i := 19) (v := undef) rfl (by kernel_rfl) (by kernel_rfl) (by kernel_rfl) (fun _ _ _ h => h) (Or.inr ⟨by kernel_rfl, rfl⟩) ⟨R12, hE⟩ ?_
                              refine wpAnyH_take (i := 20) (v := undef) rfl (by kernel_rfl) (by kernel_rfl) (by kernel_rfl) (fun _ _ _ h => h) (Or.inr ⟨by kernel_rfl, rfl⟩) ⟨R12, hE⟩ ?_
                              try simp only [Act.put, List.getElem_toArray, List.getElem_cons_succ, List.getElem_cons_zero, List.setIfInBounds_toArray, List.set_cons_zero, List.set_cons_succ]
                              refine wpAnyH_take (i := 21) (v := undef) rfl (by kernel_rfl) (by kernel_rfl) (by kernel_rfl) (fun _ _ _ h => h) (Or.inr ⟨by kernel_rfl, rfl⟩) ⟨R12, hE⟩ ?_
                              refine wpAnyH_take (i := 22) (v := undef) rfl (by kernel_rfl) (by kernel_rfl) (by kernel_rfl) (fun _ _ _ h => h) (Or.inr ⟨by kernel_rfl, rfl⟩) ⟨R12, hE⟩ ?_
                              refine wpAnyH_take (i := 23) (v := undef) rfl (by kernel_rfl) (by kernel_rfl) (by kernel_rfl) (fun _ _ _ h => h) (Or.inr ⟨by kernel_rfl, rfl⟩) ⟨R12, hE⟩ ?_
                              try simp only [Act.put, List.getElem_toArray, List.getElem_cons_succ, List.getElem_cons_zero, List.setIfInBounds_toArray, List.set_cons_zero, List.set_cons_succ]
                              refine wpAnyH_take (i := 24) (v := undef) rfl (by kernel_rfl) (by kernel_rfl) (by kernel_rfl) (fun _ _ _ h => h) (Or.inr ⟨by kernel_rfl, rfl⟩) ⟨R12, hE⟩ ?_
                              refine wpAnyH_take (i := 25) (v := undef) rfl (by kernel_rfl) (by kernel_rfl) (by kernel_rfl) (fun _ _ _ h => h) (Or.inr ⟨by kernel_rfl, rfl⟩) ⟨R12, hE⟩ ?_
                              refine wpAnyH_take (i := 26) (v := .bool false) rfl (by kernel_rfl) (by kernel_rfl) (by kernel_rfl) (fun _ _ _ h => h) (yields_pickf (.tmp 128) (.tmp 138) (.const (.bool false)) (.bool false) rfl (by kernel_rfl) (by kernel_rfl) (by kernel_rfl)) ⟨R12, hE⟩ ?_
                              try simp only [Act.put, List.getElem_toArray, List.getElem_cons_succ, List.getElem_cons_zero, List.setIfInBounds_toArray, List.set_cons_zero, List.set_cons_succ]
                              refine wpAnyH_take (i := 27) (v := .bool false) rfl (by kernel_rfl) (by kernel_rfl) (by kernel_rfl) (fun _ _ _ h => h) (yields_pickf (.tmp 124) (.const (.bool true)) (.tmp 139) (.bool false) rfl (by kernel_rfl) (by kernel_rfl) (by kernel_rfl)) ⟨R12, hE⟩ ?_
                              try simp only [Act.put, List.getElem_toArray, List.getElem_cons_succ, List.getElem_cons_zero, List.setIfInBounds_toArray, List.set_cons_zero, List.set_cons_succ]
                              refine wpAnyH_done (by kernel_rfl) ?_ _
                              refine NoPanic.normal ?_
                              go_wp2_with (first
                              | ((with_reducible refine atOp (.load 29 (.tmp 12)) rfl ?_); refine wpList_loadR 29 (.tmp 12) rfl rfl b12 rfl (ec (rdE q)) R12 _ Tryd.underlying29 rfl (ec_info _) ?_)
                              | ((with_reducible refine atOp (.buildSlice 22 1 #[(0, .tmp 142)]) rfl ?_); refine wpList_buildE rfl (.tmp 142) rfl (rdE q) rfl ?_; intro b9 w7 g9 R9 hb7; replace hE := EvO.below hE hb7; replace hB := hB.trans (hb7.mono hB.size))
                              | (at_builtin; refine wpList_pushE rfl (.tmp 141) (.tmp 143) rfl hE R9 rfl rfl HPU.out hB.size ?_; intro v8 w8 hE8 hG8; replace hB := hB.trans (hG8.below hB.size (fun g hg => (EvO.ge hE g hg).1))))
                              go_roundw
                              case rel => first | exact ⟨k + 1, A + 21, es2 ++ [rdE q], HK1.out, HA3, lat0 A, hE8, (by show _ = _; rw [HV2.out, evs_yes hgood.out, HDR.out]), (lpush HS.out), hB⟩ | exact ⟨k + 1, A + 21, es2 ++ [rdE q], HK1.out, HA3, lat1 hwA, hE8, (by show _ = _; rw [HV2.out, evs_yes hgood.out, HDR.out]), (lpush HS.out), hB⟩ | ((repeat apply Exists.intro); first | exact ⟨⟨k + 1, A + 21, es2 ++ [rdE q], HK1.out, HA3, lat0 A, hE8, (by show _ = _; rw [HV2.out, evs_yes hgood.out, HDR.out]), (lpush HS.out), hB⟩, rfl⟩ | exact ⟨⟨k + 1, A + 21, es2 ++ [rdE q], HK1.out, HA3, lat1 hwA, hE8, (by show _ = _; rw [HV2.out, evs_yes hgood.out, HDR.out]), (lpush HS.out), hB⟩, rfl⟩)
                              case measure => first | exact lmeas HA21.out | (rw [hwA]; exact lmeas HA21.out)
                            exact AllReadyH.nil
                          case neg =>
                            have hz : Hid (decide ((0 : Int) < (nn : Int)) = true) := lgt' h00
                            have hep0 : 0 < es2.length := Nat.pos_of_ne_zero (fun e => h00 (HLEN.out.trans e))
                            obtain ⟨eL, heL⟩ : ∃ e, es2[es2.length - 1]'(Nat.sub_lt hep0 Nat.one_pos) = e := ⟨_, rfl⟩
                            have hL := laterE_at (es := es2) hep0 (rdE q).t heL
                            have IL := fun w2 : World => lIL hE HLEN.out h00 HEP.out w2
                            have CL := fun (w2 : World) (h : EvO w2 w.heap.size (.slice sa2 nn sc2) es2) => lCL h HLEN.out hep0 HEP.out heL
                            cases hla' : laterE es2 (rdE q).t with
                            | false =>
                              have hla : Hid (decide ((rdE q).t < eL.t) = false) := by show _ = _; rw [← hL]; exact hla'
                              have hgood : Hid (okR q ∧ (rdE q).t % 4294967296 = nAt M 4 4 ∧ laterE es2 (rdE q).t = false) := ⟨hok, htm', hla'⟩
                              clear hok htm' h00 hL hla' heL
                              refine wp_region_noPanic ?_
                              refine wp_region_held_drew (S := fun W => Row 29 W b12 (ec (rdE q)) ∧ EvO W w.heap.size (.slice sa2 nn sc2) es2) (by kernel_rfl) ⟨R12, hE⟩ (fun _ => ?_)
                              refine wpAnyH_take (i := 0) (v := .bool true) rfl (by kernel_rfl) (by kernel_rfl) (by kernel_rfl) (fun _ _ _ h => h) (yields_move (.tmp 13) (.bool true) rfl (by kernel_rfl) (by kernel_rfl)) ⟨R12, hE⟩ ?_
                              refine wpAnyH_take (i := 1) (v := .bool false) rfl (by kernel_rfl) (by kernel_rfl) (by kernel_rfl) (fun _ _ _ h => h) (yields_not (.tmp 113) true false rfl (by kernel_rfl) (by kernel_rfl) rfl) ⟨R12, hE⟩ ?_
                              refine wpAnyH_take (i := 2) (v := .bool false) rfl (by kernel_rfl) (by kernel_rfl) (by kernel_rfl) (fun _ _ _ h => h) (yields_move (.tmp 114) (.bool false) rfl (by kernel_rfl) (by kernel_rfl)) ⟨R12, hE⟩ ?_
                              try simp only [Act.put, List.getElem_toArray, List.getElem_cons_succ, List.getElem_cons_zero, List.setIfInBounds_toArray, List.set_cons_zero, List.set_cons_succ]
                              refine wpAnyH_take (i := 3) (v := .pointer (some ⟨b12, 0, none⟩)) rfl (by kernel_rfl) (by kernel_rfl) (by kernel_rfl) (fun _ _ _ h => h) (yields_fldE0 (.tmp 12) rfl (by kernel_rfl) _ _ (by kernel_rfl)) ⟨R12, hE⟩ ?_
                              refine wpAnyH_take (i := 4) (v := .int .i64 (rdE q).t) rfl (by kernel_rfl) (by kernel_rfl) (by kernel_rfl) (fun _ _ _ h => h) (yields_loadI (.tmp 116) rfl (by kernel_rfl) b12 0 (by kernel_rfl) (rdE q).t (fun w h => (h.1.cell 0).trans rfl)) ⟨R12, hE⟩ ?_
                              refine wpAnyH_take (i := 5) (v := .int .i64 ((rdE q).t % 4294967296)) rfl (by kernel_rfl) (by kernel_rfl) (by kernel_rfl) (fun _ _ _ h => h) (yields_remI (.tmp 117) (rdE q).t rfl (by kernel_rfl) (by kernel_rfl) ht0) ⟨R12, hE⟩ ?_
                              try simp only [Act.put, List.getElem_toArray, List.getElem_cons_succ, List.getElem_cons_zero, List.setIfInBounds_toArray, List.set_cons_zero, List.set_cons_succ]
                              refine wpAnyH_take (i := 6) (v := .string (txt (M.take N))) rfl (by kernel_rfl) (by kernel_rfl) (by kernel_rfl) (fun _ _ _ h => h) (yields_move (.tmp 7) (.string (txt (M.take N))) rfl (by kernel_rfl) (by kernel_rfl)) ⟨R12, hE⟩ ?_
                              refine wpAnyH_take (i := 7) (v := .string (txt ((M.drop 4).take 4))) rfl (by kernel_rfl) (by kernel_rfl) (by kernel_rfl) (fun _ _ _ h => h) (yields_mid (.tmp 119) 4 8 rfl (by kernel_rfl) (txt (M.take N)) (by kernel_rfl) (by decide) H8N.out _ y4) ⟨R12, hE⟩ ?_
                              try simp only [Act.put, List.getElem_toArray, List.getElem_cons_succ, List.getElem_cons_zero, List.setIfInBounds_toArray, List.set_cons_zero, List.set_cons_succ]
                              refine wpAnyH_ready (rs := [8]) (by kernel_rfl) (by simp) ?_
                              refine AllReadyH.cons rfl (fun K hK => ?_) ?_
                              · go_simp
                                go_at_call 28; refine (N04 _).mono ?_; rintro x w5 ⟨rfl, hb5⟩; replace hb5 := below_undrE hb5; replace R12 := R12.below hb5; replace hE := EvO.below hE hb5; replace hB := hB.trans (hb5.mono hB.size)
                                go_wp2_with fail
                                refine hK.out _ _ ⟨R12, hE⟩ (fun _ => ?_)
                                clear hK K
                                try simp only [Act.put, List.getElem_toArray, List.getElem_cons_succ, List.getElem_cons_zero, List.setIfInBounds_toArray, List.set_cons_zero, List.set_cons_succ]
                                refine wpAnyH_take (i := 9) (v := .bool false) rfl (by kernel_rfl) (by kernel_rfl) (by kernel_rfl) (fun _ _ _ h => h) (yields_nei 3 (.tmp 118) (.tmp 121) ((rdE q).t % 4294967296) (nAt M 4 4) false rfl (by kernel_rfl) (by kernel_rfl) (by kernel_rfl) htm.out) ⟨R12, hE⟩ ?_
                                refine wpAnyH_take (i := 10) (v := .bool false) rfl (by kernel_rfl) (by kernel_rfl) (by kernel_rfl) (fun _ _ _ h => h) (yields_pickf (.tmp 115) (.const (.bool true)) (.tmp 122) (.bool false) rfl (by kernel_rfl) (by kernel_rfl) (by kernel_rfl)) ⟨R12, hE⟩ ?_
                                refine wpAnyH_take (i := 11) (v := .bool false) rfl (by kernel_rfl) (by kernel_rfl) (by kernel_rfl) (fun _ _ _ h => h) (yields_move (.tmp 123) (.bool false) rfl (by kernel_rfl) (by kernel_rfl)) ⟨R12, hE⟩ ?_
                                try simp only [Act.put, List.getElem_toArray, List.getElem_cons_succ, List.getElem_cons_zero, List.setIfInBounds_toArray, List.set_cons_zero, List.set_cons_succ]
                                refine wpAnyH_take (i := 12) (v := .slice sa2 nn sc2) rfl (by kernel_rfl) (by kernel_rfl) (by kernel_rfl) (fun _ _ _ h => h) (yields_move (.tmp 4) (.slice sa2 nn sc2) rfl (by kernel_rfl) (by kernel_rfl)) ⟨R12, hE⟩ ?_
                                refine wpAnyH_take (i := 13) (v := .int .i64 (nn : Int)) rfl (by kernel_rfl) (by kernel_rfl) (by kernel_rfl) (fun _ _ _ h => h) (yields_lenE (.tmp 125) rfl (by kernel_rfl) sa2 nn sc2 (by kernel_rfl)) ⟨R12, hE⟩ ?_
                                refine wpAnyH_take (i := 14) (v := .bool true) rfl (by kernel_rfl) (by kernel_rfl) (by kernel_rfl) (fun _ _ _ h => h) (yields_gtr (.tmp 126) (.const (.int .i64 0)) rfl (by kernel_rfl) (nn : Int) 0 true (by kernel_rfl) (by kernel_rfl) hz.out) ⟨R12, hE⟩ ?_
                                try simp only [Act.put, List.getElem_toArray, List.getElem_cons_succ, List.getElem_cons_zero, List.setIfInBounds_toArray, List.set_cons_zero, List.set_cons_succ]
                                refine wpAnyH_take (i := 15) (v := .bool true) rfl (by kernel_rfl) (by kernel_rfl) (by kernel_rfl) (fun _ _ _ h => h) (yields_move (.tmp 127) (.bool true) rfl (by kernel_rfl) (by kernel_rfl)) ⟨R12, hE⟩ ?_
                                refine wpAnyH_take (i := 16) (v := .pointer (some ⟨b12, 0, none⟩)) rfl (by kernel_rfl) (by kernel_rfl) (by kernel_rfl) (fun _ _ _ h => h) (yields_fldE0 (.tmp 12) rfl (by kernel_rfl) _ _ (by kernel_rfl)) ⟨R12, hE⟩ ?_
                                refine wpAnyH_take (i := 17) (v := .int .i64 (rdE q).t) rfl (by kernel_rfl) (by kernel_rfl) (by kernel_rfl) (fun _ _ _ h => h) (yields_loadI (.tmp 129) rfl (by kernel_rfl) b12 0 (by kernel_rfl) (rdE q).t (fun w h => (h.1.cell 0).trans rfl)) ⟨R12, hE⟩ ?_
                                try simp only [Act.put, List.getElem_toArray, List.getElem_cons_succ, List.getElem_cons_zero, List.setIfInBounds_toArray, List.set_cons_zero, List.set_cons_succ]
                                refine wpAnyH_take (i := 18) (v := .slice sa2 nn sc2) rfl (by kernel_rfl) (by kernel_rfl) (by kernel_rfl) (fun _ _ _ h => h) (yields_move (.tmp 4) (.slice sa2 nn sc2) rfl (by kernel_rfl) (by kernel_rfl)) ⟨R12, hE⟩ ?_
                                refine wpAnyH_take (i := 19) (v := .slice sa2 nn sc2) rfl (by kernel_rfl) (by kernel_rfl) (by kernel_rfl) (fun _ _ _ h => h) (yields_move (.tmp 4) (.slice sa2 nn sc2) rfl (by kernel_rfl) (by kernel_rfl)) ⟨R12, hE⟩ ?_
                                refine wpAnyH_take (i := 20) (v := .int .i64 (nn : Int)) rfl (by kernel_rfl) (by kernel_rfl) (by kernel_rfl) (fun _ _ _ h => h) (yields_lenE (.tmp 132) rfl (by kernel_rfl) sa2 nn sc2 (by kernel_rfl)) ⟨R12, hE⟩ ?_
                                try simp only [Act.put, List.getElem_toArray, List.getElem_cons_succ, List.getElem_cons_zero, List.setIfInBounds_toArray, List.set_cons_zero, List.set_cons_succ]
                                refine wpAnyH_take (i := 21) (v := .int .i64 ((nn : Int) - 1)) rfl (by kernel_rfl) (by kernel_rfl) (by kernel_rfl) (fun _ _ _ h => h) (yields_subI (.tmp 133) (.const (.int .i64 1)) rfl (by kernel_rfl) (nn : Int) 1 ((nn : Int) - 1) (by kernel_rfl) (by kernel_rfl) rfl (lsub HS2.out).1 (lsub HS2.out).2) ⟨R12, hE⟩ ?_
                                refine wpAnyH_take (i := 22) (v := .pointer (some ⟨eb (.slice sa2 nn sc2), eo (.slice sa2 nn sc2) + 5 * (nn - 1), none⟩)) rfl (by kernel_rfl) (by kernel_rfl) (by kernel_rfl) (fun _ _ _ h => h) (yields_indexG 22 (.tmp 131) (.tmp 134) rfl (by kernel_rfl) _ _ _ (by kernel_rfl) (by kernel_rfl) IL) ⟨R12, hE⟩ ?_
                                refine wpAnyH_take (i := 23) (v := .pointer (some ⟨eb (.slice sa2 nn sc2), eo (.slice sa2 nn sc2) + 5 * (nn - 1), none⟩)) rfl (by kernel_rfl) (by kernel_rfl) (by kernel_rfl) (fun _ _ _ h => h) (yields_fldE0 (.tmp 135) rfl (by kernel_rfl) _ _ (by kernel_rfl)) ⟨R12, hE⟩ ?_
                                try simp only [Act.put, List.getElem_toArray, List.getElem_cons_succ, List.getElem_cons_zero, List.setIfInBounds_toArray, List.set_cons_zero, List.set_cons_succ]
                                refine wpAnyH_take (i := 24) (v := .int .i64 eL.t) rfl (by kernel_rfl) (by kernel_rfl) (by kernel_rfl) (fun _ _ _ h => h) (yields_loadI (.tmp 136) rfl (by kernel_rfl) (eb (.slice sa2 nn sc2)) (eo (.slice sa2 nn sc2) + 5 * (nn - 1)) (by kernel_rfl) eL.t (fun w h => CL w h.2)) ⟨R12, hE⟩ ?_
                                refine wpAnyH_take (i := 25) (v := .bool false) rfl (by kernel_rfl) (by kernel_rfl) (by kernel_rfl) (fun _ _ _ h => h) (yields_lss (.tmp 130) (.tmp 137) rfl (by kernel_rfl) (rdE q).t eL.t false (by kernel_rfl) (by kernel_rfl) hla.out) ⟨R12, hE⟩ ?_
                                refine wpAnyH_take (i := 26) (v := .bool false) rfl (by kernel_rfl) (by kernel_rfl) (by kernel_rfl) (fun _ _ _ h => h) (yields_pickt (.tmp 128) (.tmp 138) (.const (.bool false)) (.bool false) rfl (by kernel_rfl) (by kernel_rfl) (by kernel_rfl)) ⟨R12, hE⟩ ?_
                                try simp only [Act.put, List.getElem_toArray, List.getElem_cons_succ, List.getElem_cons_zero, List.setIfInBounds_toArray, List.set_cons_zero, List.set_cons_succ]
                                refine wpAnyH_take (i := 27) (v := .bool false) rfl (by kernel_rfl) (by kernel_rfl) (by kernel_rfl) (fun _ _ _ h => h) (yields_pickf (.tmp 124) (.const (.bool true)) (.tmp 139) (.bool false) rfl (by kernel_rfl) (by kernel_rfl) (by kernel_rfl)) ⟨R12, hE⟩ ?_
                                try simp only [Act.put, List.getElem_toArray, List.getElem_cons_succ, List.getElem_cons_zero, List.setIfInBounds_toArray, List.set_cons_zero, List.set_cons_succ]
                                refine wpAnyH_done (by kernel_rfl) ?_ _
                                refine NoPanic.normal ?_
                                go_wp2_with (first
                              | ((with_reducible refine atOp (.load 29 (.tmp 12)) rfl ?_); refine wpList_loadR 29 (.tmp 12) rfl rfl b12 rfl (ec (rdE q)) R12 _ Tryd.underlying29 rfl (ec_info _) ?_)
                              | ((with_reducible refine atOp (.buildSlice 22 1 #[(0, .tmp 142)]) rfl ?_); refine wpList_buildE rfl (.tmp 142) rfl (rdE q) rfl ?_; intro b9 w7 g9 R9 hb7; replace hE := EvO.below hE hb7; replace hB := hB.trans (hb7.mono hB.size))
                              | (at_builtin; refine wpList_pushE rfl (.tmp 141) (.tmp 143) rfl hE R9 rfl rfl HPU.out hB.size ?_; intro v8 w8 hE8 hG8; replace hB := hB.trans (hG8.below hB.size (fun g hg => (EvO.ge hE g hg).1))))
                                go_roundw
                                case rel => first | exact ⟨k + 1, A + 21, es2 ++ [rdE q], HK1.out, HA3, lat0 A, hE8, (by show _ = _; rw [HV2.out, evs_yes hgood.out, HDR.out]), (lpush HS.out), hB⟩ | exact ⟨k + 1, A + 21, es2 ++ [rdE q], HK1.out, HA3, lat1 hwA, hE8, (by show _ = _; rw [HV2.out, evs_yes hgood.out, HDR.out]), (lpush HS.out), hB⟩ | ((repeat apply Exists.intro); first | exact ⟨⟨k + 1, A + 21, es2 ++ [rdE q], HK1.out, HA3, lat0 A, hE8, (by show _ = _; rw [HV2.out, evs_yes hgood.out, HDR.out]), (lpush HS.out), hB⟩, rfl⟩ | exact ⟨⟨k + 1, A + 21, es2 ++ [rdE q], HK1.out, HA3, lat1 hwA, hE8, (by show _ = _; rw [HV2.out, evs_yes hgood.out, HDR.out]), (lpush HS.out), hB⟩, rfl⟩)
                                case measure => first | exact lmeas HA21.out | (rw [hwA]; exact lmeas HA21.out)
                              exact AllReadyH.nil
                            | true =>
                              have hla : Hid (decide ((rdE q).t < eL.t) = true) := by show _ = _; rw [← hL]; exact hla'
                              have HX := HSN2.out (by rw [HV2.out, evs_no (fun h => by rw [hla'] at h; simp at h)])
                              clear hok htm' h00 hL hla' heL
                              refine wp_region_noPanic ?_
                              refine wp_region_held_drew (S := fun W => Row 29 W b12 (ec (rdE q)) ∧ EvO W w.heap.size (.slice sa2 nn sc2) es2) (by kernel_rfl) ⟨R12, hE⟩ (fun _ => ?_)
                              refine wpAnyH_take (i := 0) (v := .bool true) rfl (by kernel_rfl) (by kernel_rfl) (by kernel_rfl) (fun _ _ _ h => h) (yields_move (.tmp 13) (.bool true) rfl (by kernel_rfl) (by kernel_rfl)) ⟨R12, hE⟩ ?_
                              refine wpAnyH_take (i := 1) (v := .bool false) rfl (by kernel_rfl) (by kernel_rfl) (by kernel_rfl) (fun _ _ _ h => h) (yields_not (.tmp 113) true false rfl (by kernel_rfl) (by kernel_rfl) rfl) ⟨R12, hE⟩ ?_
                              refine wpAnyH_take (i := 2) (v := .bool false) rfl (by kernel_rfl) (by kernel_rfl) (by kernel_rfl) (fun _ _ _ h => h) (yields_move (.tmp 114) (.bool false) rfl (by kernel_rfl) (by kernel_rfl)) ⟨R12, hE⟩ ?_
                              try simp only [Act.put, List.getElem_toArray, List.getElem_cons_succ, List.getElem_cons_zero, List.setIfInBounds_toArray, List.set_cons_zero, List.set_cons_succ]
                              refine wpAnyH_take (i := 3) (v := .pointer (some ⟨b12, 0, none⟩)) rfl (by kernel_rfl) (by kernel_rfl) (by kernel_rfl) (fun _ _ _ h => h) (yields_fldE0 (.tmp 12) rfl (by kernel_rfl) _ _ (by kernel_rfl)) ⟨R12, hE⟩ ?_
                              refine wpAnyH_take (i := 4) (v := .int .i64 (rdE q).t) rfl (by kernel_rfl) (by kernel_rfl) (by kernel_rfl) (fun _ _ _ h => h) (yields_loadI (.tmp 116) rfl (by kernel_rfl) b12 0 (by kernel_rfl) (rdE q).t (fun w h => (h.1.cell 0).trans rfl)) ⟨R12, hE⟩ ?_
                              refine wpAnyH_take (i := 5) (v := .int .i64 ((rdE q).t % 4294967296)) rfl (by kernel_rfl) (by kernel_rfl) (by kernel_rfl) (fun _ _ _ h => h) (yields_remI (.tmp 117) (rdE q).t rfl (by kernel_rfl) (by kernel_rfl) ht0) ⟨R12, hE⟩ ?_
                              try simp only [Act.put, List.getElem_toArray, List.getElem_cons_succ, List.getElem_cons_zero, List.setIfInBounds_toArray, List.set_cons_zero, List.set_cons_succ]
                              refine wpAnyH_take (i := 6) (v := .string (txt (M.take N))) rfl (by kernel_rfl) (by kernel_rfl) (by kernel_rfl) (fun _ _ _ h => h) (yields_move (.tmp 7) (.string (txt (M.take N))) rfl (by kernel_rfl) (by kernel_rfl)) ⟨R12, hE⟩ ?_
                              refine wpAnyH_take (i := 7) (v := .string (txt ((M.drop 4).take 4))) rfl (by kernel_rfl) (by kernel_rfl) (by kernel_rfl) (fun _ _ _ h => h) (yields_mid (.tmp 119) 4 8 rfl (by kernel_rfl) (txt (M.take N)) (by kernel_rfl) (by decide) H8N.out _ y4) ⟨R12, hE⟩ ?_
                              try simp only [Act.put, List.getElem_toArray, List.getElem_cons_succ, List.getElem_cons_zero, List.setIfInBounds_toArray, List.set_cons_zero, List.set_cons_succ]
                              refine wpAnyH_ready (rs := [8]) (by kernel_rfl) (by simp) ?_
                              refine AllReadyH.cons rfl (fun K hK => ?_) ?_
                              · go_simp
                                go_at_call 28; refine (N04 _).mono ?_; rintro x w5 ⟨rfl, hb5⟩; replace hb5 := below_undrE hb5; replace R12 := R12.below hb5; replace hE := EvO.below hE hb5; replace hB := hB.trans (hb5.mono hB.size)
                                go_wp2_with fail
                                refine hK.out _ _ ⟨R12, hE⟩ (fun _ => ?_)
                                clear hK K
                                try simp only [Act.put, List.getElem_toArray, List.getElem_cons_succ, List.getElem_cons_zero, List.setIfInBounds_toArray, List.set_cons_zero, List.set_cons_succ]
                                refine wpAnyH_take (i := 9) (v := .bool false) rfl (by kernel_rfl) (by kernel_rfl) (by kernel_rfl) (fun _ _ _ h => h) (yields_nei 3 (.tmp 118) (.tmp 121) ((rdE q).t % 4294967296) (nAt M 4 4) false rfl (by kernel_rfl) (by kernel_rfl) (by kernel_rfl) htm.out) ⟨R12, hE⟩ ?_
                                refine wpAnyH_take (i := 10) (v := .bool false) rfl (by kernel_rfl) (by kernel_rfl) (by kernel_rfl) (fun _ _ _ h => h) (yields_pickf (.tmp 115) (.const (.bool true)) (.tmp 122) (.bool false) rfl (by kernel_rfl) (by kernel_rfl) (by kernel_rfl)) ⟨R12, hE⟩ ?_
                                refine wpAnyH_take (i := 11) (v := .bool false) rfl (by kernel_rfl) (by kernel_rfl) (by kernel_rfl) (fun _ _ _ h => h) (yields_move (.tmp 123) (.bool false) rfl (by kernel_rfl) (by kernel_rfl)) ⟨R12, hE⟩ ?_
                                try simp only [Act.put, List.getElem_toArray, List.getElem_cons_succ, List.getElem_cons_zero, List.setIfInBounds_toArray, List.set_cons_zero, List.set_cons_succ]
                                refine wpAnyH_take (i := 12) (v := .slice sa2 nn sc2) rfl (by kernel_rfl) (by kernel_rfl) (by kernel_rfl) (fun _ _ _ h => h) (yields_move (.tmp 4) (.slice sa2 nn sc2) rfl (by kernel_rfl) (by kernel_rfl)) ⟨R12, hE⟩ ?_
                                refine wpAnyH_take (i := 13) (v := .int .i64 (nn : Int)) rfl (by kernel_rfl) (by kernel_rfl) (by kernel_rfl) (fun _ _ _ h => h) (yields_lenE (.tmp 125) rfl (by kernel_rfl) sa2 nn sc2 (by kernel_rfl)) ⟨R12, hE⟩ ?_
                                refine wpAnyH_take (i := 14) (v := .bool true) rfl (by kernel_rfl) (by kernel_rfl) (by kernel_rfl) (fun _ _ _ h => h) (yields_gtr (.tmp 126) (.const (.int .i64 0)) rfl (by kernel_rfl) (nn : Int) 0 true (by kernel_rfl) (by kernel_rfl) hz.out) ⟨R12, hE⟩ ?_
                                try simp only [Act.put, List.getElem_toArray, List.getElem_cons_succ, List.getElem_cons_zero, List.setIfInBounds_toArray, List.set_cons_zero, List.set_cons_succ]
                                refine wpAnyH_take (i := 15) (v := .bool true) rfl (by kernel_rfl) (by kernel_rfl) (by kernel_rfl) (fun _ _ _ h => h) (yields_move (.tmp 127) (.bool true) rfl (by kernel_rfl) (by kernel_rfl)) ⟨R12, hE⟩ ?_
                                refine wpAnyH_take (i := 16) (v := .pointer (some ⟨b12, 0, none⟩)) rfl (by kernel_rfl) (by kernel_rfl) (by kernel_rfl) (fun _ _ _ h => h) (yields_fldE0 (.tmp 12) rfl (by kernel_rfl) _ _ (by kernel_rfl)) ⟨R12, hE⟩ ?_
                                refine wpAnyH_take (i := 17) (v := .int .i64 (rdE q).t) rfl (by kernel_rfl) (by kernel_rfl) (by kernel_rfl) (fun _ _ _ h => h) (yields_loadI (.tmp 129) rfl (by kernel_rfl) b12 0 (by kernel_rfl) (rdE q).t (fun w h => (h.1.cell 0).trans rfl)) ⟨R12, hE⟩ ?_
                                try simp only [Act.put, List.getElem_toArray, List.getElem_cons_succ, List.getElem_cons_zero, List.setIfInBounds_toArray, List.set_cons_zero, List.set_cons_succ]
                                refine wpAnyH_take (i := 18) (v := .slice sa2 nn sc2) rfl (by kernel_rfl) (by kernel_rfl) (by kernel_rfl) (fun _ _ _ h => h) (yields_move (.tmp 4) (.slice sa2 nn sc2) rfl (by kernel_rfl) (by kernel_rfl)) ⟨R12, hE⟩ ?_
                                refine wpAnyH_take (i := 19) (v := .slice sa2 nn sc2) rfl (by kernel_rfl) (by kernel_rfl) (by kernel_rfl) (fun _ _ _ h => h) (yields_move (.tmp 4) (.slice sa2 nn sc2) rfl (by kernel_rfl) (by kernel_rfl)) ⟨R12, hE⟩ ?_
                                refine wpAnyH_take (i := 20) (v := .int .i64 (nn : Int)) rfl (by kernel_rfl) (by kernel_rfl) (by kernel_rfl) (fun _ _ _ h => h) (yields_lenE (.tmp 132) rfl (by kernel_rfl) sa2 nn sc2 (by kernel_rfl)) ⟨R12, hE⟩ ?_
                                try simp only [Act.put, List.getElem_toArray, List.getElem_cons_succ, List.getElem_cons_zero, List.setIfInBounds_toArray, List.set_cons_zero, List.set_cons_succ]
                                refine wpAnyH_take (i := 21) (v := .int .i64 ((nn : Int) - 1)) rfl (by kernel_rfl) (by kernel_rfl) (by kernel_rfl) (fun _ _ _ h => h) (yields_subI (.tmp 133) (.const (.int .i64 1)) rfl (by kernel_rfl) (nn : Int) 1 ((nn : Int) - 1) (by kernel_rfl) (by kernel_rfl) rfl (lsub HS2.out).1 (lsub HS2.out).2) ⟨R12, hE⟩ ?_
                                refine wpAnyH_take (i := 22) (v := .pointer (some ⟨eb (.slice sa2 nn sc2), eo (.slice sa2 nn sc2) + 5 * (nn - 1), none⟩)) rfl (by kernel_rfl) (by kernel_rfl) (by kernel_rfl) (fun _ _ _ h => h) (yields_indexG 22 (.tmp 131) (.tmp 134) rfl (by kernel_rfl) _ _ _ (by kernel_rfl) (by kernel_rfl) IL) ⟨R12, hE⟩ ?_
                                refine wpAnyH_take (i := 23) (v := .pointer (some ⟨eb (.slice sa2 nn sc2), eo (.slice sa2 nn sc2) + 5 * (nn - 1), none⟩)) rfl (by kernel_rfl) (by kernel_rfl) (by kernel_rfl) (fun _ _ _ h => h) (yields_fldE0 (.tmp 135) rfl (by kernel_rfl) _ _ (by kernel_rfl)) ⟨R12, hE⟩ ?_
                                try simp only [Act.put, List.getElem_toArray, List.getElem_cons_succ, List.getElem_cons_zero, List.setIfInBounds_toArray, List.set_cons_zero, List.set_cons_succ]
                                refine wpAnyH_take (i := 24) (v := .int .i64 eL.t) rfl (by kernel_rfl) (by kernel_rfl) (by kernel_rfl) (fun _ _ _ h => h) (yields_loadI (.tmp 136) rfl (by kernel_rfl) (eb (.slice sa2 nn sc2)) (eo (.slice sa2 nn sc2) + 5 * (nn - 1)) (by kernel_rfl) eL.t (fun w h => CL w h.2)) ⟨R12, hE⟩ ?_
                                refine wpAnyH_take (i := 25) (v := .bool true) rfl (by kernel_rfl) (by kernel_rfl) (by kernel_rfl) (fun _ _ _ h => h) (yields_lss (.tmp 130) (.tmp 137) rfl (by kernel_rfl) (rdE q).t eL.t true (by kernel_rfl) (by kernel_rfl) hla.out) ⟨R12, hE⟩ ?_
                                refine wpAnyH_take (i := 26) (v := .bool true) rfl (by kernel_rfl) (by kernel_rfl) (by kernel_rfl) (fun _ _ _ h => h) (yields_pickt (.tmp 128) (.tmp 138) (.const (.bool false)) (.bool true) rfl (by kernel_rfl) (by kernel_rfl) (by kernel_rfl)) ⟨R12, hE⟩ ?_
                                try simp only [Act.put, List.getElem_toArray, List.getElem_cons_succ, List.getElem_cons_zero, List.setIfInBounds_toArray, List.set_cons_zero, List.set_cons_succ]
                                refine wpAnyH_take (i := 27) (v := .bool true) rfl (by kernel_rfl) (by kernel_rfl) (by kernel_rfl) (fun _ _ _ h => h) (yields_pickf (.tmp 124) (.const (.bool true)) (.tmp 139) (.bool true) rfl (by kernel_rfl) (by kernel_rfl) (by kernel_rfl)) ⟨R12, hE⟩ ?_
                                try simp only [Act.put, List.getElem_toArray, List.getElem_cons_succ, List.getElem_cons_zero, List.setIfInBounds_toArray, List.set_cons_zero, List.set_cons_succ]
                                refine wpAnyH_done (by kernel_rfl) ?_ _
                                refine NoPanic.normal ?_
                                go_wp2
                                go_ret2
                                exact ⟨⟨.slice none 0 0, by rw [HX.out]; rfl, by rw [HX.out]; exact ⟨none, 0, rfl, fun h => absurd h (by simp), fun j hj => absurd hj (by simp), by simp⟩⟩, by first | exact hB | exact below_drewE hB⟩
                              exact AllReadyH.nil
end Go.Proofs.YtnhafdkfjjplkaaDoor
