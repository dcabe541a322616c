/-
  An event's bytes; a message; the template.
-/
import Derived.Test.YtnhafdkfjjplkaaDoorRecP
namespace Go.Proofs.YtnhafdkfjjplkaaDoor
open Go.ChangeShapes Go.WideShapes Go.ChangeAt Go.RowKit
set_option linter.unusedSimpArgs false
set_option linter.unusedVariables false

/-- an event's bytes. -/
def evB (e : Ev) : List UInt8 := be e.t 8 ++ be (167772161 + e.s) 4 ++ be (3405803777 + e.a) 4 ++ be (1024 + e.b * 8) 2 ++ be (1024 + e.b * 8 + 8 - 1) 2 ++ be (mkE e) 1
theorem evB_len (e : Ev) : (evB e).length = 21 := by simp [evB, be_len]
theorem evB_app (l : List UInt8) (e : Ev) : l ++ be e.t 8 ++ be (167772161 + e.s) 4 ++ be (3405803777 + e.a) 4 ++ be (1024 + e.b * 8) 2 ++ be (1024 + e.b * 8 + 8 - 1) 2 ++ be (mkE e) 1 = l ++ evB e := by simp [evB]
set_option maxRecDepth 10000 in
set_option maxHeartbeats 4000000 in
theorem putEvent_any {base : Nat} {v : Value} {l : List UInt8} (e : Ev) (w : World) (hv : Bys w base v l) (hbase : base ≤ w.heap.size) (hl : l.length ≤ 900000) (he : okE e) :
    Calls Tryd.prog 21 #[v, .agg (ec e)] w fun x w' => ∃ v', x = .returned v' ∧ Bys w' base v' (l ++ evB e) ∧ Grew v v' w w' := by
  have HA : Hid (_ = l ++ evB e) := evB_app l e
  obtain ⟨⟨t0, t1⟩, ⟨s0, s1⟩, ⟨a0, a1⟩, b0, b1⟩ := he
  have hO := hv
  have hG := Grew.refl v w
  have hge := hbase
  have hk := mkE_bd e
  go_enter Tryd.func21, Tryd.ntmps21
  go_wp2_with (first
    | ((with_reducible refine atOp (.box 29 (.tmp 1)) rfl ?_); refine wpList_boxR 29 rfl _ rfl (ec e) rfl ?_; intro b3 w2 l3 R3 hb2; have hne : v.ownBlock ≠ some b3 := (fun ee => by have := (hv.ge _ ee).2; omega); replace hO := hO.below hb2; replace hge := Nat.le_trans hge hb2.size; replace hG := hG.trans (Grew.ofBelow hb2))
    | ((with_reducible refine atOp (.load 3 (.tmp 6)) rfl ?_); refine wpList_loadF R3 _ rfl rfl 3 rfl _ rfl ?_)
    | ((with_reducible refine atOp (.load 3 (.tmp 11)) rfl ?_); refine wpList_loadF R3 _ rfl rfl 0 rfl _ rfl ?_)
    | ((with_reducible refine atOp (.load 3 (.tmp 15)) rfl ?_); refine wpList_loadF R3 _ rfl rfl 1 rfl _ rfl ?_)
    | ((with_reducible refine atOp (.load 3 (.tmp 20)) rfl ?_); refine wpList_loadF R3 _ rfl rfl 2 rfl _ rfl ?_)
    | ((with_reducible refine atOp (.load 29 (.tmp 3)) rfl ?_); refine wpList_loadR 29 _ rfl rfl b3 rfl (ec e) R3 _ Tryd.underlying29 rfl (ec_info e) ?_)
    | (go_at_call 31; go_fit (mark_any e _); rintro x w5 ⟨rfl, hb5⟩; replace hO := hO.below hb5; replace hge := Nat.le_trans hge hb5.size; replace hG := hG.trans (Grew.ofBelow hb5); replace R3 := R3.below hb5)
    | (go_at_call 25; go_fit (put8_any _ _ hO (by omega) (by first | omega | (simp only [List.length_append, List.length_nil, be_len]; omega)) (by omega) (by omega)); rintro x w5 ⟨v5, rfl, hO5, hG5⟩; have hne5 := hG5.ne hne R3.lt; replace R3 := hG5.row R3 hne; replace hne := hne5; clear hne5; replace hO := hO5; replace hge := Nat.le_trans hge hG5.by'.size; replace hG := hG.trans hG5; clear hO5 hG5)
    | (go_at_call 25; go_fit (put4_any _ _ hO (by omega) (by first | omega | (simp only [List.length_append, List.length_nil, be_len]; omega)) (by omega) (by omega)); rintro x w5 ⟨v5, rfl, hO5, hG5⟩; have hne5 := hG5.ne hne R3.lt; replace R3 := hG5.row R3 hne; replace hne := hne5; clear hne5; replace hO := hO5; replace hge := Nat.le_trans hge hG5.by'.size; replace hG := hG.trans hG5; clear hO5 hG5)
    | (go_at_call 25; go_fit (put2_any _ _ hO (by omega) (by first | omega | (simp only [List.length_append, List.length_nil, be_len]; omega)) (by omega) (by omega)); rintro x w5 ⟨v5, rfl, hO5, hG5⟩; have hne5 := hG5.ne hne R3.lt; replace R3 := hG5.row R3 hne; replace hne := hne5; clear hne5; replace hO := hO5; replace hge := Nat.le_trans hge hG5.by'.size; replace hG := hG.trans hG5; clear hO5 hG5)
    | (go_at_call 25; go_fit (put1_any _ _ hO (by omega) (by first | omega | (simp only [List.length_append, List.length_nil, be_len]; omega)) (by omega) (by omega)); rintro x w5 ⟨v5, rfl, hO5, hG5⟩; have hne5 := hG5.ne hne R3.lt; replace R3 := hG5.row R3 hne; replace hne := hne5; clear hne5; replace hO := hO5; replace hge := Nat.le_trans hge hG5.by'.size; replace hG := hG.trans hG5; clear hO5 hG5))
  go_ret
  exact ⟨_, rfl, by rw [← HA.out]; exact hO, hG⟩
theorem conv_bys {w : World} {base : Nat} {v : Value} {l : List UInt8} (h : Bys w base v l) (hl : 0 < l.length) : (convert 48 9 v).run Tryd.prog w = .ok (.string (txt l)) w := by
  rcases h.2 with ⟨e, n0⟩ | ⟨b, cap, cur, hv, hbb, hh, hnc, hcm, hcs, ht⟩
  · omega
  · subst hv
    refine run_convert_bytes_back (P := Tryd.prog) w 48 9 5 ⟨b, 0, none⟩ cap l Tryd.underlying48 Tryd.underlying5 Tryd.underlying9 ?_
    intro j hj
    have e : (bc l)[j]? = some (.int .u8 (l[j].toNat : Int)) := by simp [bc, hj]
    rw [← ht] at e
    rw [List.getElem?_take_of_lt (by omega)] at e
    rw [Addr.add_lit, Nat.zero_add]
    simpa [World.cell?, hh] using e
theorem src_bys {w : World} {base : Nat} {v : Value} {l : List UInt8} (h : Bys w base v l) (hl : 0 < l.length) : Src Tryd.prog 1 48 v l.length (bc l) w := by
  rcases h.2 with ⟨e, n0⟩ | ⟨b, cap, cur, hv, hbb, hh, hnc, hcm, hcs, ht⟩
  · omega
  · subst hv
    refine Src.ofSlice _ Tryd.underlying48 ⟨b, 0, none⟩ l.length cap (bc l) (by simp [bc]) (fun j u hu => ?_) (bc_one _)
    rw [Addr.add_lit, Nat.zero_add]
    have hj : j < l.length := by have := (List.getElem?_eq_some_iff.1 hu).1; simpa [bc] using this
    rw [← ht] at hu
    rw [List.getElem?_take_of_lt (by omega)] at hu
    simpa [World.cell?, hh] using hu
/-- a message. -/
def msgB (time seq kind : Int) (l : List UInt8) : List UInt8 := be 10 2 ++ be (20 + (l.length : Int)) 2 ++ be (time % 4294967296) 4 ++ be seq 4 ++ be 1 4 ++ be kind 2 ++ be (4 + (l.length : Int)) 2 ++ l
theorem msgB_len (time seq kind : Int) (l : List UInt8) : (msgB time seq kind l).length = 20 + l.length := by simp [msgB, be_len]; omega
def longBR (n : Int) : Bool := decide (0 ≤ n) && decide (n ≤ 4294967295)
theorem longB_yes {n : Int} (h : longBR n = true) : 0 ≤ n ∧ n ≤ 4294967295 := by simpa [longBR] using h
theorem longB_no {n : Int} (h : longBR n = false) : n < 0 ∨ 4294967295 < n := by
  simp [longBR] at h
  omega
/-- what message answers. -/
def msgT (time seq kind : Int) (l : List UInt8) : ByteArray := if longBR seq then txt (msgB time seq kind l) else ByteArray.empty
def msgE (seq : Int) : Int := if longBR seq then 0 else 2
def msgS (time seq kind : Int) (l : List UInt8) : Value := .tuple #[.string (msgT time seq kind l), .int .i64 (msgE seq)]
theorem msgS_yes (time seq kind : Int) (l : List UInt8) (h : longBR seq = true) : msgS time seq kind l = .tuple #[.string (txt (msgB time seq kind l)), .int .i64 0] := by simp [msgS, msgT, msgE, h]
theorem msgS_no (time seq kind : Int) (l : List UInt8) (h : longBR seq = false) : msgS time seq kind l = .tuple #[.string ByteArray.empty, .int .i64 2] := by simp [msgS, msgT, msgE, h]
set_option maxRecDepth 10000 in
set_option maxHeartbeats 4000000 in
theorem message_any {v : Value} {l : List UInt8} (base : Nat) (time seq kind : Int) (w : World) (hv : Bys w base v l) (hl0 : 0 < l.length) (hl : l.length ≤ 900000) (ht0 : 0 ≤ time) (ht1 : time ≤ 1099511627776) (hk0 : 0 ≤ kind) (hk1 : kind ≤ 300) :
    Calls Tryd.prog 22 #[.int .i64 time, .int .i64 seq, .int .i64 kind, v] w fun x w' => x = .returned (msgS time seq kind l) ∧ Below w.heap.size w w' := by
  rcases hb : longBR seq with _ | _
  · have HS : Hid (msgS time seq kind l = _) := msgS_no _ _ _ _ hb
    have hB := Below.refl w.heap.size w
    rcases longB_no hb with h | h
    · have g0 : decide (seq < 0) = true := by simpa using h
      clear h hb
      go_enter Tryd.func22, Tryd.ntmps22
      go_wp2
      go_ret2
      exact ⟨by rw [HS.out]; rfl, hB⟩
    · have g0 : decide (seq < 0) = false := by simp; omega
      have g1 : decide (4294967295 < seq) = true := by simpa using h
      clear h hb
      go_enter Tryd.func22, Tryd.ntmps22
      go_wp2
      go_ret2
      exact ⟨by rw [HS.out]; rfl, hB⟩
  · have HS : Hid (msgS time seq kind l = _) := msgS_yes _ _ _ _ hb
    obtain ⟨q0, q1⟩ := longB_yes hb
    clear hb
    have g0 : decide (seq < 0) = false := by simp; omega
    have g1 : decide (4294967295 < seq) = false := by simp; omega
    have HM : Hid ([] ++ be 10 2 ++ be (20 + (l.length : Int)) 2 ++ be (time % 4294967296) 4 ++ be seq 4 ++ be 1 4 ++ be kind 2 ++ be (4 + (l.length : Int)) 2 ++ l = msgB time seq kind l) := by show _ = _; simp [msgB]
    obtain ⟨sa, sc, rfl⟩ := hv.slice
    have hO := Bys.nil w w.heap.size
    have hG := Grew.refl (.slice none 0 0) w
    have hge := Nat.le_refl w.heap.size
    have hne : ∀ k, Value.ownBlock (.slice sa l.length sc) = some k → Value.ownBlock (.slice none 0 0) ≠ some k := fun k _ => by simp [Value.ownBlock]
    obtain ⟨i0, hi0, hz0, hz1, hz2⟩ := info_parts info_u8
    have hlow : 0 ≤ time % 4294967296 ∧ time % 4294967296 < 4294967296 := by omega
    go_enter Tryd.func22, Tryd.ntmps22
    go_wp2_with (first
      | (go_at_call 32; go_fit (lowest_any _ _ ht0 ht1); rintro x w5 ⟨rfl, hw⟩; rw [hw]; clear hw w5)
      | (go_at_call 25; go_fit (put4_any _ _ hO (by omega) (by first | omega | (simp only [List.length_append, List.length_nil, be_len]; omega)) (by omega) (by omega)); rintro x w5 ⟨v5, rfl, hO5, hG5⟩; have hne5 : ∀ k, Value.ownBlock (.slice sa l.length sc) = some k → v5.ownBlock ≠ some k := fun k hk => hG5.ne (hne k hk) (hv.ge k hk).2; replace hv := hG5.bys hv hne; replace hne := hne5; clear hne5; replace hO := hO5; replace hge := Nat.le_trans hge hG5.by'.size; replace hG := hG.trans hG5; clear hO5 hG5)
      | (go_at_call 25; go_fit (put2_any _ _ hO (by omega) (by first | omega | (simp only [List.length_append, List.length_nil, be_len]; omega)) (by omega) (by omega)); rintro x w5 ⟨v5, rfl, hO5, hG5⟩; have hne5 : ∀ k, Value.ownBlock (.slice sa l.length sc) = some k → v5.ownBlock ≠ some k := fun k hk => hG5.ne (hne k hk) (hv.ge k hk).2; replace hv := hG5.bys hv hne; replace hne := hne5; clear hne5; replace hO := hO5; replace hge := Nat.le_trans hge hG5.by'.size; replace hG := hG.trans hG5; clear hO5 hG5)
      | (at_builtin; refine wpList_append_src _ rfl (.tmp 40) (.tmp 41) 48 48 rfl w.heap.size 5 i0 (.int .u8 0) Tryd.underlying48 hi0 hz0 hz1 hz2 rfl _ _ _ rfl hO _ l.length (bc l) rfl (src_bys hv hl0) (by simp [be_len]; omega) hge ?_; intro v2 w2 hown hgrow hat; have hO2 := conv_bys (l := [] ++ be 10 2 ++ be (20 + (l.length : Int)) 2 ++ be (time % 4294967296) 4 ++ be seq 4 ++ be 1 4 ++ be kind 2 ++ be (4 + (l.length : Int)) 2 ++ l) (by unfold Bys; rw [List.length_append, bc_app]; exact hown) (by rw [HM.out, msgB_len]; omega); rw [HM.out] at hO2; replace hG := hG.trans ⟨hgrow, by rcases hat with e | e; exact .inl e; exact .inr ⟨_, e, Nat.le_refl _⟩⟩))
    go_ret2
    exact ⟨by rw [HS.out]; rfl, hG.below (Nat.le_refl _) (fun k hk => by simp [Value.ownBlock] at hk)⟩
end Go.Proofs.YtnhafdkfjjplkaaDoor
