/-
  Numbers put behind bytes.
-/
import Derived.Test.YtnhafdkfjjplkaaDoorMemG
import Derived.Test.YtnhafdkfjjplkaaDoorBe
import Derived.Test.YtnhafdkfjjplkaaDoorRecG
import Derived.Laws.AppendOwn
namespace Go.Proofs.YtnhafdkfjjplkaaDoor
open Go.ChangeShapes Go.WideShapes Go.ChangeAt Go.RowKit
set_option linter.unusedSimpArgs false
set_option linter.unusedVariables false

/-- a list of bytes of the call's own. -/
def Bys (w : World) (base : Nat) (v : Value) (l : List UInt8) : Prop := w.ownsRow base 5 1 v l.length (bc l)
theorem Bys.nil (w : World) (base : Nat) : Bys w base (.slice none 0 0) [] := World.ownsRow_nil w base 5 1
theorem Bys.below {w w' : World} {base : Nat} {v : Value} {l : List UInt8} (h : Bys w base v l) (hb : Below w.heap.size w w') : Bys w' base v l := by
  refine ⟨h.1, ?_⟩
  rcases h.2 with e | ⟨b, cap, cur, hv, hbb, hh, r⟩
  · exact .inl e
  · exact .inr ⟨b, cap, cur, hv, hbb, (hb.block b (Array.getElem?_eq_some_iff.1 hh).1).trans hh, r⟩
theorem Bys.slice {w : World} {base : Nat} {v : Value} {l : List UInt8} (h : Bys w base v l) : ∃ a cap, v = .slice a l.length cap := by
  rcases h.2 with ⟨e, n0⟩ | ⟨b, cap, cur, hv, _⟩
  · exact ⟨none, 0, by rw [e, n0]⟩
  · exact ⟨_, _, hv⟩
/-- what adding to them leaves: no other old block has turned. -/
structure Grew (v v' : Value) (w w' : World) : Prop where
  by' : w.grownBy w' v.ownBlock
  lies : v'.ownBlock = v.ownBlock ∨ ∃ k, v'.ownBlock = some k ∧ w.heap.size ≤ k
theorem Grew.refl (v : Value) (w : World) : Grew v v w w := ⟨⟨rfl, rfl, rfl, Nat.le_refl _, fun _ _ _ => rfl⟩, .inl rfl⟩
theorem Grew.trans {v v' v'' : Value} {a b c : World} (h : Grew v v' a b) (k : Grew v' v'' b c) : Grew v v'' a c := by
  refine ⟨⟨k.by'.os.trans h.by'.os, k.by'.tape.trans h.by'.tape, k.by'.output.trans h.by'.output, Nat.le_trans h.by'.size k.by'.size, fun i hi hG => ?_⟩, ?_⟩
  · refine (k.by'.block i (Nat.lt_of_lt_of_le hi h.by'.size) ?_).trans (h.by'.block i hi hG)
    rcases h.lies with e | ⟨j, e, hj⟩
    · rw [e]; exact hG
    · rw [e]; intro x; have := Option.some.inj x; omega
  · rcases k.lies with e | ⟨j, e, hj⟩
    · rw [e]; exact h.lies
    · exact .inr ⟨j, e, Nat.le_trans h.by'.size hj⟩
theorem Grew.ofBelow {v : Value} {a b : World} (h : Below a.heap.size a b) : Grew v v a b := ⟨⟨h.os, h.tape, h.output, h.size, fun k hk _ => h.block k hk⟩, .inl rfl⟩
theorem Grew.below {v v' : Value} {a b : World} {B : Nat} (h : Grew v v' a b) (hB : B ≤ a.heap.size) (hv : ∀ k, v.ownBlock = some k → B ≤ k) : Below B a b :=
  ⟨h.by'.os, h.by'.tape, h.by'.output, h.by'.size, fun k hk => h.by'.block k (by omega) (fun e => by have := hv k e.symm; omega)⟩
theorem Bys.ge {w : World} {base : Nat} {v : Value} {l : List UInt8} (h : Bys w base v l) : ∀ k, v.ownBlock = some k → base ≤ k ∧ k < w.heap.size := fun k hk => h.lt k hk
theorem Grew.row {v v' : Value} {a b : World} {t : TypeId} {r : Nat} {cs : Array Value} (h : Grew v v' a b) (R : Row t a r cs) (hne : v.ownBlock ≠ some r) : Row t b r cs := (h.by'.block r R.lt (fun e => hne e.symm)).trans R
theorem Grew.bys {v v' u : Value} {a b : World} {base : Nat} {l : List UInt8} (h : Grew v v' a b) (U : Bys a base u l) (hne : ∀ k, u.ownBlock = some k → v.ownBlock ≠ some k) : Bys b base u l := by
  refine ⟨U.1, ?_⟩
  rcases U.2 with e | ⟨g, cap, cur, hv, hbb, hh, r⟩
  · exact .inl e
  · exact .inr ⟨g, cap, cur, hv, hbb, (h.by'.block g (Array.getElem?_eq_some_iff.1 hh).1 (fun e => hne g (by rw [hv]; rfl) e.symm)).trans hh, r⟩
theorem Grew.ne {v v' : Value} {a b : World} {r : Nat} (h : Grew v v' a b) (hne : v.ownBlock ≠ some r) (hr : r < a.heap.size) : v'.ownBlock ≠ some r := by
  rcases h.lies with e | ⟨k, e, hk⟩
  · rw [e]; exact hne
  · rw [e]; intro x; have := Option.some.inj x; omega
theorem own_new {w : World} {base b : Nat} {v : Value} {l : List UInt8} (h : Bys w base v l) (hb : w.heap.size ≤ b) : v.ownBlock ≠ some b := fun e => by have := (h.ge b e).2; omega
theorem bys_turned {w w' : World} {base b : Nat} {v : Value} {l : List UInt8} (h : Bys w base v l) (hne : v.ownBlock ≠ some b) (t : Turned b w w') : Bys w' base v l := by
  refine ⟨h.1, ?_⟩
  rcases h.2 with e | ⟨g, cap, cur, hv, hbb, hh, r⟩
  · exact .inl e
  · exact .inr ⟨g, cap, cur, hv, hbb, (t.other g (fun e => hne (by rw [hv, e]; rfl))).trans hh, r⟩
theorem grew_turned {v v' : Value} {w0 w w' : World} {b : Nat} (h : Grew v v' w0 w) (hb : w0.heap.size ≤ b) (t : Turned b w w') : Grew v v' w0 w' := by
  have hB := t.below w0.heap.size w (by omega) ⟨rfl, rfl, rfl, by have := h.by'.size; omega, fun _ _ => rfl⟩
  refine ⟨⟨hB.os.trans h.by'.os, hB.tape.trans h.by'.tape, hB.output.trans h.by'.output, Nat.le_trans h.by'.size hB.size, fun k hk hG => ?_⟩, h.lies⟩
  exact (t.other k (by omega)).trans (h.by'.block k hk hG)
theorem hi_pow (v : Int) (k : Nat) : hi v k = v / 256 ^ k := by
  induction k with
  | zero => simp [hi]
  | succ k ih => unfold hi; rw [ih, Int.pow_succ, Int.ediv_ediv_of_nonneg (Int.pow_nonneg (by decide))]
theorem hi_shr (v : Int) (k : Nat) (h : k < 8) : hi v k = v / 2 ^ (8 * k) := by
  rw [hi_pow]
  rcases (show k = 0 ∨ k = 1 ∨ k = 2 ∨ k = 3 ∨ k = 4 ∨ k = 5 ∨ k = 6 ∨ k = 7 by omega) with rfl | rfl | rfl | rfl | rfl | rfl | rfl | rfl <;> rfl
theorem one_src (w : World) (c : UInt8) (x : Int) (hx : x = (c.toNat : Int)) : Src Tryd.prog 1 48 (.slice (some ⟨w.heap.size, 0, none⟩) 1 1) 1 (bc [c]) (w.alloc (.cells #[.int .u8 x] 5)) := by
  subst hx
  refine Src.ofSlice _ Tryd.underlying48 ⟨w.heap.size, 0, none⟩ 1 1 (bc [c]) (by simp [bc]) (fun j u hu => ?_) (bc_one _)
  rw [Addr.add_lit, Nat.zero_add]
  have hj : j = 0 := by have := (List.getElem?_eq_some_iff.1 hu).1; simp [bc] at this; omega
  subst hj
  have e := World.cell?_alloc_mark w #[.int .u8 (c.toNat : Int)] 5 (0, 0) 0
  rw [show u = .int .u8 (c.toNat : Int) by simpa [bc] using hu.symm]
  exact e
theorem put_next (n : Int) (size j : Nat) (hj : j < size) : be (hi n j) (size - j) = be (hi n (j + 1)) (size - (j + 1)) ++ [b8 (hi n j)] := by
  obtain ⟨m, hm⟩ : ∃ m, size - j = m + 1 := ⟨size - j - 1, by omega⟩
  have hm' : size - (j + 1) = m := by omega
  rw [hm, hm']
  rfl
set_option maxRecDepth 10000 in
set_option maxHeartbeats 4000000 in
theorem put_any (base : Nat) (v : Value) (l : List UInt8) (n : Int) (size : Nat) (w : World) (hv : Bys w base v l) (hbase : base ≤ w.heap.size) (hs : size ≤ 8) (hl : l.length ≤ 1000000) (h0 : -9223372036854775808 ≤ n) (h1 : n ≤ 9223372036854775807) :
    Calls Tryd.prog 25 #[v, .int .i64 n, .int .i64 (size : Int)] w fun x w' => ∃ v', x = .returned v' ∧ Bys w' base v' (l ++ be n size) ∧ Grew v v' w w' := by
  obtain ⟨i0, hi0, hz0, hz1, hz2⟩ := info_parts info_u8
  have hw1 : wrap64 ((size : Int) - 1) = (size : Int) - 1 := by unfold wrap64; omega
  go_enter Tryd.func25, Tryd.ntmps25
  go_wp2
  go_loopw [0, 7] (fun b i W => ∃ j : Nat, j ≤ size ∧ i = .int .i64 ((j : Int) - 1) ∧ Bys W base b (l ++ be (hi n j) (size - j)) ∧ Grew v b w W) (fun _ i _ => ((intOf i) + 1).toNat)
  case atStart => exact ⟨size, Nat.le_refl _, rfl, by simpa [be] using hv, Grew.refl _ _⟩
  case round =>
    obtain ⟨j, hj, rfl, hO, hG⟩ := hrel
    by_cases hlt : 0 < j
    · obtain ⟨k, rfl⟩ : ∃ k, j = k + 1 := ⟨j - 1, by omega⟩
      have hk8 : k < 8 := by omega
      have hx : IntKind.u8.wrap (n / 2 ^ (8 * (k : Int)).toNat) = ((b8 (hi n k)).toNat : Int) := by
        rw [wrap_u8, b8_nat, hi_shr n k hk8, show (8 * (k : Int)).toNat = 8 * k by omega]
      have ek : (((k + 1 : Nat) : Int) - 1) = (k : Int) := by omega
      rw [ek]
      have hk0 : (0 : Int) ≤ (k : Int) := by omega
      have hk7 : (k : Int) ≤ 7 := by omega
      have hbl : (be (hi n (k + 1)) (size - (k + 1))).length = size - (k + 1) := be_len _ _
      have HN : Hid (be (hi n k) (size - k) = be (hi n (k + 1)) (size - (k + 1)) ++ [b8 (hi n k)]) := put_next n size k (by omega)
      have hlen : (l ++ be (hi n (k + 1)) (size - (k + 1))).length ≤ 1000008 := by rw [List.length_append]; omega
      have hge := hG.by'.size
      clear ek
      go_wp2_with (at_builtin; refine wpList_append_src _ rfl (.tmp 14) (.tmp 20) 48 48 rfl base 5 i0 (.int .u8 0) Tryd.underlying48 hi0 hz0 hz1 hz2 rfl _ _ _ rfl (hO.alloc _) _ 1 (bc [b8 (hi n k)]) rfl (one_src _ _ _ hx) (by omega) (by simp; omega) ?_; intro v2 w2 hown hgrow hat)
      go_roundw
      case rel =>
        refine ⟨k, by omega, rfl, ?_, ?_⟩
        · rw [HN.out, ← List.append_assoc]
          unfold Bys
          rw [List.length_append, bc_app]
          exact hown
        · refine hG.trans (Grew.trans (Grew.ofBelow ((Below.refl _ _).alloc (Nat.le_refl _) _)) ⟨hgrow, ?_⟩)
          rcases hat with e | e
          · exact .inl e
          · exact .inr ⟨_, e, Nat.le_refl _⟩
      case measure => simp [intOf]
    · obtain rfl : j = 0 := by omega
      go_wp2
      go_ret
      exact ⟨_, rfl, by simpa [hi] using hO, hG⟩
theorem put1_any {base : Nat} {v : Value} {l : List UInt8} (n : Int) (w : World) (hv : Bys w base v l) (hbase : base ≤ w.heap.size) (hl : l.length ≤ 1000000) (h0 : -9223372036854775808 ≤ n) (h1 : n ≤ 9223372036854775807) :
    Calls Tryd.prog 25 #[v, .int .i64 n, .int .i64 1] w fun x w' => ∃ v', x = .returned v' ∧ Bys w' base v' (l ++ be n 1) ∧ Grew v v' w w' := put_any base v l n 1 w hv hbase (by omega) hl h0 h1
theorem put2_any {base : Nat} {v : Value} {l : List UInt8} (n : Int) (w : World) (hv : Bys w base v l) (hbase : base ≤ w.heap.size) (hl : l.length ≤ 1000000) (h0 : -9223372036854775808 ≤ n) (h1 : n ≤ 9223372036854775807) :
    Calls Tryd.prog 25 #[v, .int .i64 n, .int .i64 2] w fun x w' => ∃ v', x = .returned v' ∧ Bys w' base v' (l ++ be n 2) ∧ Grew v v' w w' := put_any base v l n 2 w hv hbase (by omega) hl h0 h1
theorem put4_any {base : Nat} {v : Value} {l : List UInt8} (n : Int) (w : World) (hv : Bys w base v l) (hbase : base ≤ w.heap.size) (hl : l.length ≤ 1000000) (h0 : -9223372036854775808 ≤ n) (h1 : n ≤ 9223372036854775807) :
    Calls Tryd.prog 25 #[v, .int .i64 n, .int .i64 4] w fun x w' => ∃ v', x = .returned v' ∧ Bys w' base v' (l ++ be n 4) ∧ Grew v v' w w' := put_any base v l n 4 w hv hbase (by omega) hl h0 h1
theorem put8_any {base : Nat} {v : Value} {l : List UInt8} (n : Int) (w : World) (hv : Bys w base v l) (hbase : base ≤ w.heap.size) (hl : l.length ≤ 1000000) (h0 : -9223372036854775808 ≤ n) (h1 : n ≤ 9223372036854775807) :
    Calls Tryd.prog 25 #[v, .int .i64 n, .int .i64 8] w fun x w' => ∃ v', x = .returned v' ∧ Bys w' base v' (l ++ be n 8) ∧ Grew v v' w w' := put_any base v l n 8 w hv hbase (by omega) hl h0 h1
end Go.Proofs.YtnhafdkfjjplkaaDoor
