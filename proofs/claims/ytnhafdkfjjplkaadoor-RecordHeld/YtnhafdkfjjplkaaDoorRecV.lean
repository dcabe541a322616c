/-
  The walk of RecordHeld.
-/
import Derived.Test.YtnhafdkfjjplkaaDoorRecC
import Derived.Test.YtnhafdkfjjplkaaDoorRecL
import Derived.Test.YtnhafdkfjjplkaaDoorRecQ
import Derived.Test.YtnhafdkfjjplkaaDoorPoolQ
import Derived.Test.YtnhafdkfjjplkaaDoorRecW0
namespace Go.Proofs.YtnhafdkfjjplkaaDoor
open Go.ChangeShapes Go.WideShapes Go.ChangeAt Go.RowKit
set_option linter.unusedSimpArgs false
set_option linter.unusedVariables false

def stepW (a k : Int) (x : Int) (e : Ev) : Int := if e.a = a ∧ e.b = k then ownN e else x
def lastW (es : List Ev) (a k : Int) (j : Nat) : Int := (es.take j).foldl (stepW a k) 0
theorem lastW_step {es : List Ev} {a k : Int} {j : Nat} (h : j < es.length) {e : Ev} (he : es[j] = e) : lastW es a k (j + 1) = stepW a k (lastW es a k j) e := by
  unfold lastW
  rw [List.take_succ_eq_append_getElem h, List.foldl_append, he]; rfl
theorem stepW_yes {a k x : Int} {e : Ev} (h : e.a = a ∧ e.b = k) : stepW a k x e = ownN e := if_pos h
theorem stepW_no {a k x : Int} {e : Ev} (h : ¬ (e.a = a ∧ e.b = k)) : stepW a k x e = x := if_neg h
theorem held (es : List Ev) (f F : Nat → Int) (h : walkO f es = (0, F)) : (∀ e ∈ es, okE e) ∧ ∀ A K : Nat, A < 3 → K < 6 → F (6 * A + K) = es.foldl (stepW A K) (f (6 * A + K)) := by
  induction es generalizing f with
  | nil =>
    have : f = F := by have := congrArg Prod.snd h; exact this
    subst this
    exact ⟨fun e he => by simp at he, fun A K _ _ => rfl⟩
  | cons e r ih =>
    unfold walkO at h
    by_cases hk : okE e
    · rw [if_pos hk] at h
      by_cases hE : bhE (f (at6 e)) e = 0
      · rw [if_pos hE] at h
        obtain ⟨h1, h2⟩ := ih _ h
        refine ⟨fun x hx => ?_, fun A K hA hK => ?_⟩
        · rcases List.mem_cons.1 hx with rfl | hx
          · exact hk
          · exact h1 x hx
        · rw [h2 A K hA hK, List.foldl_cons]
          congr 1
          have hk' := hk
          unfold okE at hk'
          by_cases hs : e.a = (A : Int) ∧ e.b = (K : Int)
          · rw [stepW_yes hs]
            have : 6 * A + K = at6 e := by unfold at6; omega
            unfold upd; rw [if_pos this]
          · rw [stepW_no hs]
            have : 6 * A + K ≠ at6 e := by unfold at6; omega
            unfold upd; rw [if_neg this]
      · rw [if_neg hE] at h
        exact absurd (congrArg Prod.fst h) hE
    · rw [if_neg hk] at h
      exact absurd (congrArg Prod.fst h) (by simp)
theorem held_at {es : List Ev} {F : Nat → Int} (h : walkO z0 es = (0, F)) (A K : Nat) (hA : A < 3) (hK : K < 6) (j : Nat) (hj : es.length ≤ j) : F (6 * A + K) = lastW es A K j := by
  rw [(held es z0 F h).2 A K hA hK]; unfold lastW; rw [List.take_of_length_le hj]; rfl
theorem held_ok {es : List Ev} {F : Nat → Int} (h : walkO z0 es = (0, F)) {j : Nat} (hj : j < es.length) {e : Ev} (he : es[j] = e) : okE e := (held es z0 F h).1 e (by rw [← he]; exact List.getElem_mem hj)
theorem wf_z0 : wfF z0 := fun i _ => by simp [z0, Lit.wf, IntKind.min, IntKind.max, IntKind.bits, IntKind.signed]
theorem walkO_cases (es : List Ev) (f : Nat → Int) : (walkO f es).1 = 0 ∨ ((walkO f es).1 ≠ 0 ∧ (walkO f es).2 = z0) := by
  induction es generalizing f with
  | nil => exact .inl rfl
  | cons e r ih =>
    unfold walkO
    by_cases hk : okE e
    · rw [if_pos hk]
      by_cases hE : bhE (f (at6 e)) e = 0
      · rw [if_pos hE]; exact ih _
      · rw [if_neg hE]; exact .inr ⟨hE, rfl⟩
    · rw [if_neg hk]; exact .inr ⟨by decide, rfl⟩
set_option maxRecDepth 10000 in
set_option maxHeartbeats 8000000 in
theorem recordHeld_walk (sl : Value) (es : List Ev) (w : World) (hM : EvAt w sl es) (hT : Tab w) : Calls Tryd.prog 7 #[sl] w fun x w' => x = .returned (.bool true) ∧ Below w.heap.size w w' := by
  have hB := Below.refl w.heap.size w
  have C1 := fun (sl : Value) (w : World) (h : EvAt w sl es) => owners_any sl es w h
  unfold ownS at C1
  obtain ⟨a0, cap, hsl⟩ := hM.slice
  subst hsl
  obtain ⟨n, hn⟩ : ∃ n, n = es.length := ⟨_, rfl⟩
  rw [← hn] at hM ⊢
  have HN : Hid (n = es.length) := hn
  clear hn
  have hlt := hM.lt
  rcases walkO_cases es z0 with hc | ⟨hc, hz⟩
  · obtain ⟨F, hF⟩ : ∃ F, walkO z0 es = (0, F) := ⟨(walkO z0 es).2, by rw [← hc]⟩
    rw [hF] at C1
    have HH : Hid (walkO z0 es = (0, F)) := hF
    clear hc hF
    simp only at C1
    go_enter Tryd.func7, Tryd.ntmps7
    go_wp2_with (first
      | (go_at_call 17; refine (C1 _ _ hM).mono ?_; rintro x w5 ⟨rfl, hb5⟩; replace hB := hB.trans (hb5.mono hB.size))
      | ((with_reducible refine atOp (.alloc 39) rfl ?_); refine wpList_allocX 3 39 rfl rfl rfl _ pool_zero ?_; intro b3 w3 l3 R3 hb3; replace l3 := Nat.le_trans hB.size l3; replace hB := hB.trans (hb3.mono hB.size))
      | ((with_reducible refine atOp (.store 39 (.tmp 3) (.tmp 13)) rfl ?_); refine wpList_storeR 39 rfl (.tmp 3) (.tmp 13) rfl b3 rfl (pc F g0') rfl _ R3 rfl (pc_info _ _) (pc_one _ _) ?_; intro w6 R3 t6; replace hB := t6.below _ _ l3 hB)
      | (go_at_call 19; refine (tellsKeep_any _ (hT.keep hB hT.lt)).mono ?_; rintro x w5 ⟨rfl, hb5⟩; replace R3 := R3.below hb5; replace hB := hB.trans (hb5.mono hB.size)))
    go_loopw [5] (fun i W => ∃ A : Nat, A ≤ 3 ∧ i = .int .i64 (A : Int) ∧ Below w.heap.size w W ∧ Row 39 W b3 (pc F g0')) (fun i _ => 3 - (intOf i).toNat)
    case atStart => exact ⟨0, by omega, rfl, hB, R3⟩
    case round =>
      clear hB R3
      obtain ⟨A, hA, rfl, hB, R3⟩ := hrel
      by_cases hA3 : A < 3
      · have hA' : (A : Int) < 3 := by omega
        have hAw : wrap64 ((A : Int) + 1) = (A : Int) + 1 := by unfold wrap64; omega
        go_wp2
        go_loopw [6] (fun i W => ∃ K : Nat, K ≤ 6 ∧ i = .int .i64 (K : Int) ∧ Below w.heap.size w W ∧ Row 39 W b3 (pc F g0')) (fun i _ => 6 - (intOf i).toNat)
        case atStart => exact ⟨0, by omega, rfl, hB, R3⟩
        case round =>
          clear hB R3
          obtain ⟨Z, hZ, rfl, hB, R3⟩ := hrel
          by_cases hZ6 : Z < 6
          · have hZ' : (Z : Int) < 6 := by omega
            have hZw : wrap64 ((Z : Int) + 1) = (Z : Int) + 1 := by unfold wrap64; omega
            go_wp2
            go_loopw [7, 37] (fun x i W => ∃ j : Nat, j ≤ es.length ∧ i = .int .i64 (j : Int) ∧ x = .int .i64 (lastW es A Z j) ∧ Below w.heap.size w W ∧ Row 39 W b3 (pc F g0')) (fun _ i _ => n - (intOf i).toNat)
            case atStart => exact ⟨0, by omega, rfl, rfl, hB, R3⟩
            case round =>
              clear hB R3
              obtain ⟨j, hj, rfl, rfl, hB, R3⟩ := hrel
              by_cases hlj : j < es.length
              · have hjn : (j : Int) < (n : Int) := by have := HN.out; omega
                have hjw := ev_next hlj hM.len
                obtain ⟨e, he⟩ : ∃ e, es[j] = e := ⟨_, rfl⟩
                have hMW := hM.keep hB hlt
                have hrg := hMW.at j hlj he
                have IR := fun w2 => hM.index j hlj w2
                have hk := held_ok HH.out hlj he
                have hs0 := hk.2.1.1
                have hs1 := hk.2.1.2
                have hws : wrap64 (e.s + 1) = e.s + 1 := by unfold wrap64; omega
                have HL : Hid (lastW es A Z (j + 1) = stepW A Z (lastW es A Z j) e) := lastW_step hlj he
                clear hk he
                by_cases ha : e.a = (A : Int)
                · by_cases hb : e.b = (Z : Int)
                  · cases hfr : e.fr with
                    | false =>
                      have HX : Hid (stepW A Z (lastW es A Z j) e = e.s + 1) := by show _ = _; rw [stepW_yes ⟨ha, hb⟩]; unfold ownN; rw [hfr]; rfl
                      have cF : (ec e)[4]? = some (.bool false) := by rw [← hfr]; rfl
                      have g0 : (e.a == (A : Int)) = true := by simpa using ha
                      have g1 : (e.b == (Z : Int)) = true := by simpa using hb
                      clear ha hb hfr
                      go_wp2_with (first
                        | ((with_reducible refine atOp (.indexAddr 22 (.tmp 35) (.tmp 37)) rfl ?_); refine wpList_indexG 22 (.tmp 35) (.tmp 37) rfl rfl _ _ _ rfl rfl (IR _) ?_)
                        | ((with_reducible refine atOp (.load 29 (.tmp 39)) rfl ?_); refine wpList_loadE (.tmp 39) rfl rfl _ _ rfl e hrg ?_)
                        | ((with_reducible refine atOp (.alloc 29) rfl ?_); refine wpList_allocX 9 29 rfl rfl rfl _ ev_zero ?_; intro b9 w3 l9 R9 hb3; have n39 := R3.ne l9; replace l9 := Nat.le_trans hB.size l9; replace R3 := R3.below hb3; replace hB := hB.trans (hb3.mono hB.size); clear hrg hMW)
                        | ((with_reducible refine atOp (.store 29 (.tmp 9) (.tmp 40)) rfl ?_); refine wpList_storeR 29 rfl (.tmp 9) (.tmp 40) rfl b9 rfl (ec e) rfl _ R9 rfl (ec_info e) (ec_one e) ?_; intro w4 R9 t4; replace R3 := t4.row R3 n39; replace hB := t4.below _ _ l9 hB)
                        | ((with_reducible refine atOp (.load 3 (.tmp 41)) rfl ?_); refine wpList_loadF R9 _ rfl rfl 2 rfl _ rfl ?_)
                        | ((with_reducible refine atOp (.load 3 (.tmp 46)) rfl ?_); refine wpList_loadF R9 _ rfl rfl 3 rfl _ rfl ?_)
                        | ((with_reducible refine atOp (.load 3 (.tmp 51)) rfl ?_); refine wpList_loadF R9 _ rfl rfl 1 rfl _ rfl ?_)
                        | ((with_reducible refine atOp (.load 4 (.tmp 54)) rfl ?_); refine wpList_loadB R9 _ rfl rfl 4 rfl _ cF ?_))
                      go_roundw
                      case rel => first | exact ⟨j + 1, by omega, by go_num, by rw [HL.out, HX.out], hB, R3⟩ | ((repeat apply Exists.intro); exact ⟨⟨j + 1, by omega, by go_num, by rw [HL.out, HX.out], hB, R3⟩, rfl⟩)
                      case measure => (first | rw [hjw] | skip); exact ev_meas (HN.out.symm ▸ hlj)
                    | true =>
                      have HX : Hid (stepW A Z (lastW es A Z j) e = 0) := by show _ = _; rw [stepW_yes ⟨ha, hb⟩]; unfold ownN; rw [hfr]; rfl
                      have cF : (ec e)[4]? = some (.bool true) := by rw [← hfr]; rfl
                      have g0 : (e.a == (A : Int)) = true := by simpa using ha
                      have g1 : (e.b == (Z : Int)) = true := by simpa using hb
                      clear ha hb hfr
                      go_wp2_with (first
                        | ((with_reducible refine atOp (.indexAddr 22 (.tmp 35) (.tmp 37)) rfl ?_); refine wpList_indexG 22 (.tmp 35) (.tmp 37) rfl rfl _ _ _ rfl rfl (IR _) ?_)
                        | ((with_reducible refine atOp (.load 29 (.tmp 39)) rfl ?_); refine wpList_loadE (.tmp 39) rfl rfl _ _ rfl e hrg ?_)
                        | ((with_reducible refine atOp (.alloc 29) rfl ?_); refine wpList_allocX 9 29 rfl rfl rfl _ ev_zero ?_; intro b9 w3 l9 R9 hb3; have n39 := R3.ne l9; replace l9 := Nat.le_trans hB.size l9; replace R3 := R3.below hb3; replace hB := hB.trans (hb3.mono hB.size); clear hrg hMW)
                        | ((with_reducible refine atOp (.store 29 (.tmp 9) (.tmp 40)) rfl ?_); refine wpList_storeR 29 rfl (.tmp 9) (.tmp 40) rfl b9 rfl (ec e) rfl _ R9 rfl (ec_info e) (ec_one e) ?_; intro w4 R9 t4; replace R3 := t4.row R3 n39; replace hB := t4.below _ _ l9 hB)
                        | ((with_reducible refine atOp (.load 3 (.tmp 41)) rfl ?_); refine wpList_loadF R9 _ rfl rfl 2 rfl _ rfl ?_)
                        | ((with_reducible refine atOp (.load 3 (.tmp 46)) rfl ?_); refine wpList_loadF R9 _ rfl rfl 3 rfl _ rfl ?_)
                        | ((with_reducible refine atOp (.load 3 (.tmp 51)) rfl ?_); refine wpList_loadF R9 _ rfl rfl 1 rfl _ rfl ?_)
                        | ((with_reducible refine atOp (.load 4 (.tmp 54)) rfl ?_); refine wpList_loadB R9 _ rfl rfl 4 rfl _ cF ?_))
                      go_roundw
                      case rel => first | exact ⟨j + 1, by omega, by go_num, by rw [HL.out, HX.out], hB, R3⟩ | ((repeat apply Exists.intro); exact ⟨⟨j + 1, by omega, by go_num, by rw [HL.out, HX.out], hB, R3⟩, rfl⟩)
                      case measure => (first | rw [hjw] | skip); exact ev_meas (HN.out.symm ▸ hlj)
                  · have HX : Hid (stepW A Z (lastW es A Z j) e = lastW es A Z j) := stepW_no (fun h => hb h.2)
                    have g0 : (e.a == (A : Int)) = true := by simpa using ha
                    have g1 : (e.b == (Z : Int)) = false := by simpa using hb
                    clear ha hb
                    go_wp2_with (first
                        | ((with_reducible refine atOp (.indexAddr 22 (.tmp 35) (.tmp 37)) rfl ?_); refine wpList_indexG 22 (.tmp 35) (.tmp 37) rfl rfl _ _ _ rfl rfl (IR _) ?_)
                        | ((with_reducible refine atOp (.load 29 (.tmp 39)) rfl ?_); refine wpList_loadE (.tmp 39) rfl rfl _ _ rfl e hrg ?_)
                        | ((with_reducible refine atOp (.alloc 29) rfl ?_); refine wpList_allocX 9 29 rfl rfl rfl _ ev_zero ?_; intro b9 w3 l9 R9 hb3; have n39 := R3.ne l9; replace l9 := Nat.le_trans hB.size l9; replace R3 := R3.below hb3; replace hB := hB.trans (hb3.mono hB.size); clear hrg hMW)
                        | ((with_reducible refine atOp (.store 29 (.tmp 9) (.tmp 40)) rfl ?_); refine wpList_storeR 29 rfl (.tmp 9) (.tmp 40) rfl b9 rfl (ec e) rfl _ R9 rfl (ec_info e) (ec_one e) ?_; intro w4 R9 t4; replace R3 := t4.row R3 n39; replace hB := t4.below _ _ l9 hB)
                        | ((with_reducible refine atOp (.load 3 (.tmp 41)) rfl ?_); refine wpList_loadF R9 _ rfl rfl 2 rfl _ rfl ?_)
                        | ((with_reducible refine atOp (.load 3 (.tmp 46)) rfl ?_); refine wpList_loadF R9 _ rfl rfl 3 rfl _ rfl ?_)
                        | ((with_reducible refine atOp (.load 3 (.tmp 51)) rfl ?_); refine wpList_loadF R9 _ rfl rfl 1 rfl _ rfl ?_))
                    go_roundw
                    case rel => first | exact ⟨j + 1, by omega, by go_num, by rw [HL.out, HX.out], hB, R3⟩ | ((repeat apply Exists.intro); exact ⟨⟨j + 1, by omega, by go_num, by rw [HL.out, HX.out], hB, R3⟩, rfl⟩)
                    case measure => (first | rw [hjw] | skip); exact ev_meas (HN.out.symm ▸ hlj)
                · have HX : Hid (stepW A Z (lastW es A Z j) e = lastW es A Z j) := stepW_no (fun h => ha h.1)
                  have g0 : (e.a == (A : Int)) = false := by simpa using ha
                  clear ha
                  go_wp2_with (first
                        | ((with_reducible refine atOp (.indexAddr 22 (.tmp 35) (.tmp 37)) rfl ?_); refine wpList_indexG 22 (.tmp 35) (.tmp 37) rfl rfl _ _ _ rfl rfl (IR _) ?_)
                        | ((with_reducible refine atOp (.load 29 (.tmp 39)) rfl ?_); refine wpList_loadE (.tmp 39) rfl rfl _ _ rfl e hrg ?_)
                        | ((with_reducible refine atOp (.alloc 29) rfl ?_); refine wpList_allocX 9 29 rfl rfl rfl _ ev_zero ?_; intro b9 w3 l9 R9 hb3; have n39 := R3.ne l9; replace l9 := Nat.le_trans hB.size l9; replace R3 := R3.below hb3; replace hB := hB.trans (hb3.mono hB.size); clear hrg hMW)
                        | ((with_reducible refine atOp (.store 29 (.tmp 9) (.tmp 40)) rfl ?_); refine wpList_storeR 29 rfl (.tmp 9) (.tmp 40) rfl b9 rfl (ec e) rfl _ R9 rfl (ec_info e) (ec_one e) ?_; intro w4 R9 t4; replace R3 := t4.row R3 n39; replace hB := t4.below _ _ l9 hB)
                        | ((with_reducible refine atOp (.load 3 (.tmp 41)) rfl ?_); refine wpList_loadF R9 _ rfl rfl 2 rfl _ rfl ?_)
                        | ((with_reducible refine atOp (.load 3 (.tmp 46)) rfl ?_); refine wpList_loadF R9 _ rfl rfl 3 rfl _ rfl ?_)
                        | ((with_reducible refine atOp (.load 3 (.tmp 51)) rfl ?_); refine wpList_loadF R9 _ rfl rfl 1 rfl _ rfl ?_))
                  go_roundw
                  case rel => first | exact ⟨j + 1, by omega, by go_num, by rw [HL.out, HX.out], hB, R3⟩ | ((repeat apply Exists.intro); exact ⟨⟨j + 1, by omega, by go_num, by rw [HL.out, HX.out], hB, R3⟩, rfl⟩)
                  case measure => (first | rw [hjw] | skip); exact ev_meas (HN.out.symm ▸ hlj)
              · have hjn : ¬ (j : Int) < (n : Int) := by have := HN.out; omega
                have HE : Hid (F (6 * A + Z) = lastW es A Z j) := held_at HH.out A Z hA3 hZ6 j (by omega)
                have h18 : 6 * A + Z < 18 := by omega
                rw [← HE.out]
                go_wp2_with (first
                  | ((with_reducible refine atOp (.indexAddr 36 (.tmp 59) (.tmp 57)) rfl ?_); refine wpList_indexG 36 (.tmp 59) (.tmp 57) rfl rfl _ _ _ rfl rfl (idxA b3 A hA3 _) ?_)
                  | ((with_reducible refine atOp (.indexAddr 35 (.tmp 60) (.tmp 58)) rfl ?_); refine wpList_indexG 35 (.tmp 60) (.tmp 58) rfl rfl _ _ _ rfl rfl (idxK b3 A Z hZ6 _) ?_)
                  | ((with_reducible refine atOp (.load 3 (.tmp 61)) rfl ?_); refine wpList_loadF R3 _ rfl rfl (6 * A + Z) rfl _ (pc_own F g0' _ h18) ?_))
                go_roundw
                case rel => first | exact ⟨Z + 1, by omega, by go_num, hB, R3⟩ | ((repeat apply Exists.intro); exact ⟨⟨Z + 1, by omega, by go_num, hB, R3⟩, rfl⟩)
                case measure => (first | rw [hZw] | skip); exact ev_meas hZ6
          · have hZ' : ¬ (Z : Int) < 6 := by omega
            go_wp2
            go_roundw
            case rel => first | exact ⟨A + 1, by omega, by go_num, hB, R3⟩ | ((repeat apply Exists.intro); exact ⟨⟨A + 1, by omega, by go_num, hB, R3⟩, rfl⟩)
            case measure => (first | rw [hAw] | skip); exact ev_meas hA3
      · have hA' : ¬ (A : Int) < 3 := by omega
        go_wp2
        go_ret
        exact ⟨rfl, hB⟩
  · rw [hz] at C1
    obtain ⟨E, hE⟩ : ∃ E, (walkO z0 es).1 = E := ⟨_, rfl⟩
    rw [hE] at C1 hc
    have hE0 : (E != 0) = true := by simpa using hc
    clear hc hz hE
    go_enter Tryd.func7, Tryd.ntmps7
    go_wp2_with (first
      | (go_at_call 17; refine (C1 _ _ hM).mono ?_; rintro x w5 ⟨rfl, hb5⟩; replace hB := hB.trans (hb5.mono hB.size))
      | ((with_reducible refine atOp (.alloc 39) rfl ?_); refine wpList_allocX 3 39 rfl rfl rfl _ pool_zero ?_; intro b3 w3 l3 R3 hb3; replace l3 := Nat.le_trans hB.size l3; replace hB := hB.trans (hb3.mono hB.size))
      | ((with_reducible refine atOp (.store 39 (.tmp 3) (.tmp 13)) rfl ?_); refine wpList_storeR 39 rfl (.tmp 3) (.tmp 13) rfl b3 rfl (pc z0 g0') rfl _ R3 rfl (pc_info _ _) (pc_one _ _) ?_; intro w6 R3 t6; replace hB := t6.below _ _ l3 hB)
      | (go_at_call 19; refine (tellsKeep_any _ (hT.keep hB hT.lt)).mono ?_; rintro x w5 ⟨rfl, hb5⟩; replace R3 := R3.below hb5; replace hB := hB.trans (hb5.mono hB.size))
      | ((with_reducible refine atOp (.load 39 (.tmp 3)) rfl ?_); refine wpList_loadR 39 (.tmp 3) rfl rfl b3 rfl (pc z0 g0') R3 _ Tryd.underlying39 rfl (pc_info _ _) ?_)
      | ((with_reducible refine atOp (.build 39 #[]) rfl ?_); refine wpList_buildZ 39 rfl rfl _ pool_build ?_)
      | ((with_reducible refine atOp (.binOp .eql 39 (.tmp 21) (.tmp 22) 39) rfl ?_); refine wpList_eqS 39 (.tmp 21) (.tmp 22) rfl rfl (pc z0 g0') (pc z0 g0') rfl rfl Tryd.eqGuardType39 _ true (run_eqp z0 g0' wf_z0 _) rfl ?_))
    go_ret
    exact ⟨rfl, hB⟩
end Go.Proofs.YtnhafdkfjjplkaaDoor
