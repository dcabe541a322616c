/-
  RecordBack's walk.
-/
import Derived.Test.YtnhafdkfjjplkaaDoorRecBk1
import Derived.Test.YtnhafdkfjjplkaaDoorRecH5
import Derived.Test.YtnhafdkfjjplkaaDoorRecM
import Derived.Test.YtnhafdkfjjplkaaDoorRecL
import Derived.Test.YtnhafdkfjjplkaaDoorRecS0
namespace Go.Proofs.YtnhafdkfjjplkaaDoor
open Go.ChangeShapes Go.WideShapes Go.ChangeAt Go.RowKit
set_option linter.unusedSimpArgs false
set_option linter.unusedVariables false

theorem EvAt.drew {w : World} {sl : Value} {es : List Ev} (h : EvAt w sl es) : EvAt w.drew sl es := h
theorem tab_drewK {w : World} (h : Tab w) : Tab w.drew := h
theorem told_len {L : List UInt8} {all : List Ev} (h : ToldS L all) : 20 ≤ L.length := by
  obtain ⟨P, m, d0, es0, t, q, k, l, hS, _⟩ := h
  rw [hS, List.length_append, msgB_len]; omega
/-- what Read answers to what was told, and to it with a byte less. -/
theorem back_reads {L : List UInt8} {all : List Ev} (h : ToldS L all) (hl : L.length ≤ 100000) :
    (∀ W, Tab W → Calls Tryd.prog 15 #[.string (txt L)] W fun x w' => (∃ v, x = .returned (.tuple #[v, .int .i64 0]) ∧ EvAt w' v all) ∧ Below W.heap.size W w') ∧
    ((∀ W, Tab W → Calls Tryd.prog 15 #[.string (txt (L.take (L.length - 1)))] W fun x w' => (∃ v, x = .returned (.tuple #[v, .int .i64 1])) ∧ Below W.heap.size W w')) ∧ ∃ k : Nat, (L.length : Int) = (k : Int) + 1 ∧ k = L.length - 1 := by
  have h20 := told_len h
  refine ⟨fun W hT => (read_any L W hT (by omega)).mono ?_, fun W hT => (read_any (L.take (L.length - 1)) W hT (by rw [List.length_take]; omega)).mono ?_, L.length - 1, by omega, rfl⟩
  · rintro x w' ⟨⟨v, rfl, hv⟩, hb⟩
    rw [told_read h] at hv ⊢
    exact ⟨⟨v, rfl, hv⟩, hb⟩
  · rintro x w' ⟨⟨v, rfl, hv⟩, hb⟩
    have e : (L.take (L.length - 1)).length = L.length - 1 := by rw [List.length_take]; omega
    rw [e, told_less h]
    exact ⟨⟨v, rfl⟩, hb⟩
theorem hidR {p : Prop} (h : p) : Hid p := h
theorem cast1R (m : Nat) : Value.int .i64 ((m : Int) + 1) = .int .i64 ((m + 1 : Nat) : Int) := by simp
theorem castW {m : Nat} (h : wrap64 ((m : Int) + 1) = (m : Int) + 1) : Value.int .i64 (wrap64 ((m : Int) + 1)) = .int .i64 ((m + 1 : Nat) : Int) := by rw [h]; simp
theorem bk_meas {j : Nat} (h : j < 20) : 20 - ((j : Int) + 1).toNat < 20 - ((j : Int)).toNat := by omega
theorem bk_next {j : Nat} (h : j < 20) : wrap64 ((j : Int) + 1) = (j : Int) + 1 := by unfold wrap64; omega
set_option maxRecDepth 20000 in
set_option maxHeartbeats 8000000 in
theorem recordBack_walk (sl : Value) (ts : List Td) (w : World) (hM : ToldAt w sl ts) (hT : Tab w) : Calls Tryd.prog 6 #[sl] w fun x w' => x = .returned (.bool true) ∧ Below w.heap.size w w' := by
  have hB := Below.refl w.heap.size w
  have hw0 := hT.lt
  have hT0 := hT
  have CT : ∀ w, Tab w → Calls Tryd.prog 10 #[.int .i64 0] w fun x w' => x = .returned (.tuple #[.string (txt (msgB 0 0 2 (tplB 6))), .int .i64 0]) ∧ Below w.heap.size w w' := fun w hT => by have := template_any 0 w hT; rw [msgS_yes _ _ _ _ longB_zero] at this; exact this
  obtain ⟨a0, cap, hsl⟩ := hM.slice
  obtain ⟨N, hN⟩ : ∃ N, N = ts.length := ⟨_, rfl⟩
  rw [← hN] at hsl
  subst hsl
  have HN : Hid (N = ts.length) := hN
  clear hN
  go_enter Tryd.func6, Tryd.ntmps6
  go_wp2_with (first
    | (go_at_call 19; refine (tellsKeep_any _ hT).mono ?_; rintro x w5 ⟨rfl, hb5⟩; replace hT := hT.below hb5; replace hB := hB.trans (hb5.mono hB.size))
    | (go_at_call 10; refine (CT _ hT).mono ?_; rintro x w5 ⟨rfl, hb5⟩; replace hB := hB.trans (hb5.mono hB.size)))
  have S0 : BkO w 0 (msgB 0 0 2 (tplB 6)) [] 0 (.slice none 0 0) _ := ⟨told_nil, EvO.nil _ _, by omega, by simp, by simp, by simp, by rw [msgB_len, tplB_six]; omega, hB⟩
  clear hT hB CT
  go_loopw [3, 5, 6, 7] (fun s v n i W => ∃ (j : Nat) (L : List UInt8) (all : List Ev) (tm : Int) (aa : Option Addr) (n1 ca : Nat), i = .int .i64 (j : Int) ∧ s = .string (txt L) ∧ n = .int .i64 tm ∧ v = .slice aa n1 ca ∧ Hid (n1 = all.length) ∧ Hid (j ≤ 20) ∧ BkO w j L all tm (.slice aa n1 ca) W) (fun _ _ _ i _ => 20 - (intOf i).toNat)
  case atStart => exact ⟨0, _, [], 0, none, 0, 0, rfl, rfl, rfl, rfl, rfl, Nat.zero_le _, S0⟩
  case round =>
    clear S0
    obtain ⟨j, L, all, tm, aa, n1, ca, rfl, rfl, rfl, rfl, HA, Hj, S⟩ := hrel
    by_cases hin : j < ts.length ∧ j < 20
    · have g1 : (j : Int) < (N : Int) := by have := HN.out; omega
      have g2 : (j : Int) < 20 := by omega
      have HJ : Hid (j < 20) := hin.2
      have hjw := bk_next hin.2
      obtain ⟨tj, vj, ej, he⟩ : ∃ t v es, ts[j]'hin.1 = (t, v, es) := ⟨_, _, _, rfl⟩
      obtain ⟨c0, c1, -⟩ := (hM.keep S.below).at j hin.1 he
      have hE := (hM.at j hin.1 he).2.2
      have IT := fun w2 => hM.index j hin.1 w2
      obtain ⟨nb, hnb⟩ : ∃ n, n = ej.length := ⟨_, rfl⟩
      obtain ⟨ab, cb, eb1⟩ := hE.slice
      rw [← hnb] at eb1
      subst eb1
      have HB : Hid (nb = ej.length) := hnb
      clear hnb he
      obtain ⟨r, hr⟩ : ∃ r, r = tj % 1000 := ⟨_, rfl⟩
      have CP : ∀ w, Calls Tryd.prog 20 #[.int .i64 tj, .int .i64 1000] w fun e w' => e = .returned (.int .i64 r) ∧ w' = w := fun w => by rw [hr]; exact pickR_any tj 1000 w (by omega) (by omega)
      obtain ⟨tm2, htm⟩ : ∃ x, x = tm + r := ⟨_, rfl⟩
      have HT : Hid (tm ≤ tm2 ∧ tm2 ≤ tm + 1000 ∧ 0 ≤ tm2 ∧ tm2 ≤ 100000) := by have := S.t0; have := S.t1; have := hin.2; exact hidR (by omega)
      have hwr : wrap64 (tm + r) = tm2 := by rw [← htm]; have := HT.out; unfold wrap64; omega
      clear htm hr hin
      obtain ⟨B, SI⟩ : ∃ B, BkI w B all [] tm2 (.slice aa n1 ca) (.slice none 0 0) _ := ⟨_, S.start⟩
      go_wp2_with (go_at_call 20; go_fit (CP _); rintro e w' ⟨rfl, hw⟩; rw [hw]; clear hw w')
      (try simp only [hwr])
      clear c0 c1 IT CP hwr
      go_loopw [8, 46] (fun v k W => ∃ (m : Nat) (ps : List Ev) (ap : Option Addr) (np cp : Nat), k = .int .i64 (m : Int) ∧ v = .slice ap np cp ∧ Hid (np = ps.length) ∧ Hid (m ≤ ej.length) ∧ BkI w B all ps tm2 (.slice aa n1 ca) (.slice ap np cp) W) (fun _ k _ => nb - (intOf k).toNat)
      case atStart => exact ⟨0, [], none, 0, 0, rfl, rfl, rfl, Nat.zero_le _, SI⟩
      case round =>
        clear SI
        obtain ⟨m, ps, ap, np, cp, rfl, rfl, HP, Hm, SI⟩ := hrel
        by_cases hml : m < ej.length
        · have mn : (m : Int) < (nb : Int) := by have := HB.out; omega
          have hmw := ev_next hml hE.len
          have HM : Hid (m < ej.length) := hml
          obtain ⟨e, hee⟩ : ∃ e, ej[m] = e := ⟨_, rfl⟩
          have IE := fun w2 => hE.index m hml w2
          have rE := (hE.below SI.below).at m hml hee
          clear hee hml g1 g2
          by_cases hk : okE (putT e tm2)
          · have CG : ∀ w, Calls Tryd.prog 12 #[.agg (ec (putT e tm2))] w fun x w' => x = .returned (.int .i64 0) ∧ Below w.heap.size w w' := fun w => by have := goodEv_any (putT e tm2) w; rw [goodE_yes hk] at this; exact this
            have HK : Hid (okE (putT e tm2)) := hk
            clear hk
            by_cases h20 : ps.length < 20
            · have g3 : decide ((np : Int) < 20) = true := by have := HP.out; simp; omega
              have H20 : Hid (ps.length < 20) := h20
              have HL : Hid (ps.length ≤ 5000000000) := hidR (by omega)
              clear h20
              go_wp2_with (first
              | ((with_reducible refine atOp (.load 29 (.tmp 48)) rfl ?_); refine wpList_loadE (.tmp 48) rfl rfl _ _ rfl e rE ?_)
              | ((with_reducible refine atOp (.alloc 29) rfl ?_); refine wpList_allocR 29 rfl rfl _ ev_zero ?_; intro b1 w1 l1 R1 hb1; have n1p := SI.own.new l1; have n1a := SI.all.new l1; have lw := Nat.le_trans SI.below.size l1; replace SI := SI.later hb1)
              | ((with_reducible refine atOp (.store 29 (.tmp 10) (.tmp 49)) rfl ?_); refine wpList_storeR 29 rfl _ _ rfl b1 (by kernel_rfl) (ec e) (by kernel_rfl) _ R1 rfl (ec_info e) (ec_one e) ?_; intro w2 R2 t2; replace SI := SI.turned t2 n1p n1a lw)
              | ((with_reducible refine atOp (.store 3 (.tmp 51) (.tmp 50)) rfl ?_); refine wpList_storeF R2 rfl _ _ rfl 0 (by kernel_rfl) tm2 (by kernel_rfl) _ rfl (ec (putT e tm2)) rfl ?_; intro w3 R3 t3; replace SI := SI.turned t3 n1p n1a lw)
              | ((with_reducible refine atOp (.load 29 (.tmp 10)) rfl ?_); refine wpList_loadR 29 (.tmp 10) rfl rfl b1 (by kernel_rfl) (ec (putT e tm2)) R3 _ Tryd.underlying29 rfl (ec_info _) ?_)
              | (go_at_call 12; go_fit (CG _); rintro x w5 ⟨rfl, hb5⟩; replace R3 := R3.below hb5; replace SI := SI.later hb5)
              | ((with_reducible refine atOp (.buildSlice 22 1 #[(0, .tmp 61)]) rfl ?_); refine wpList_buildE rfl (.tmp 61) rfl (putT e tm2) (by kernel_rfl) ?_; intro b6 w6 l6 R6 hb6; replace SI := SI.later hb6)
              | ((with_reducible refine atOp (.call { callee := .builtin .append, args := #[.tmp 60, .tmp 62], argTypes := #[22, 22] }) rfl ?_); refine wpList_pushE rfl (.tmp 60) (.tmp 62) rfl SI.own R6 (by kernel_rfl) (by kernel_rfl) HL.out SI.sz ?_; intro v8 w8 hE8 hG8; replace SI := SI.push hE8 hG8 HK.out rfl H20.out; obtain ⟨n8, hn8⟩ : ∃ n, n = (ps ++ [putT e tm2]).length := ⟨_, rfl⟩; obtain ⟨a8, c8, e8⟩ := hE8.slice; rw [← hn8] at e8; have H8 : Hid (n8 = (ps ++ [putT e tm2]).length) := hn8; clear hn8; subst e8; clear hE8 hG8))
              go_roundw
              case rel => first | exact ⟨m + 1, ps ++ [putT e tm2], _, _, _, cast1R m, rfl, H8, hidR (Nat.succ_le_of_lt HM.out), SI⟩ | exact ⟨m + 1, ps ++ [putT e tm2], _, _, _, castW hmw, rfl, H8, hidR (Nat.succ_le_of_lt HM.out), SI⟩ | ((repeat apply Exists.intro); first | exact ⟨⟨m + 1, ps ++ [putT e tm2], _, _, _, cast1R m, rfl, H8, hidR (Nat.succ_le_of_lt HM.out), SI⟩, rfl⟩ | exact ⟨⟨m + 1, ps ++ [putT e tm2], _, _, _, castW hmw, rfl, H8, hidR (Nat.succ_le_of_lt HM.out), SI⟩, rfl⟩)
              case measure => (first | rw [hmw] | skip); exact ev_meas (HB.out.symm ▸ HM.out)
            · have g3 : decide ((np : Int) < 20) = false := by have := HP.out; simp; omega
              clear h20
              go_wp2_with (first
              | ((with_reducible refine atOp (.load 29 (.tmp 48)) rfl ?_); refine wpList_loadE (.tmp 48) rfl rfl _ _ rfl e rE ?_)
              | ((with_reducible refine atOp (.alloc 29) rfl ?_); refine wpList_allocR 29 rfl rfl _ ev_zero ?_; intro b1 w1 l1 R1 hb1; have n1p := SI.own.new l1; have n1a := SI.all.new l1; have lw := Nat.le_trans SI.below.size l1; replace SI := SI.later hb1)
              | ((with_reducible refine atOp (.store 29 (.tmp 10) (.tmp 49)) rfl ?_); refine wpList_storeR 29 rfl _ _ rfl b1 (by kernel_rfl) (ec e) (by kernel_rfl) _ R1 rfl (ec_info e) (ec_one e) ?_; intro w2 R2 t2; replace SI := SI.turned t2 n1p n1a lw)
              | ((with_reducible refine atOp (.store 3 (.tmp 51) (.tmp 50)) rfl ?_); refine wpList_storeF R2 rfl _ _ rfl 0 (by kernel_rfl) tm2 (by kernel_rfl) _ rfl (ec (putT e tm2)) rfl ?_; intro w3 R3 t3; replace SI := SI.turned t3 n1p n1a lw)
              | ((with_reducible refine atOp (.load 29 (.tmp 10)) rfl ?_); refine wpList_loadR 29 (.tmp 10) rfl rfl b1 (by kernel_rfl) (ec (putT e tm2)) R3 _ Tryd.underlying29 rfl (ec_info _) ?_)
              | (go_at_call 12; go_fit (CG _); rintro x w5 ⟨rfl, hb5⟩; replace R3 := R3.below hb5; replace SI := SI.later hb5))
              go_roundw
              case rel => first | exact ⟨m + 1, ps, _, _, _, cast1R m, rfl, HP, hidR (Nat.succ_le_of_lt HM.out), SI⟩ | exact ⟨m + 1, ps, _, _, _, castW hmw, rfl, HP, hidR (Nat.succ_le_of_lt HM.out), SI⟩ | ((repeat apply Exists.intro); first | exact ⟨⟨m + 1, ps, _, _, _, cast1R m, rfl, HP, hidR (Nat.succ_le_of_lt HM.out), SI⟩, rfl⟩ | exact ⟨⟨m + 1, ps, _, _, _, castW hmw, rfl, HP, hidR (Nat.succ_le_of_lt HM.out), SI⟩, rfl⟩)
              case measure => (first | rw [hmw] | skip); exact ev_meas (HB.out.symm ▸ HM.out)
          · have CG : ∀ w, Calls Tryd.prog 12 #[.agg (ec (putT e tm2))] w fun x w' => x = .returned (.int .i64 2) ∧ Below w.heap.size w w' := fun w => by have := goodEv_any (putT e tm2) w; rw [goodE_no hk] at this; exact this
            clear hk
            go_wp2_with (first
              | ((with_reducible refine atOp (.load 29 (.tmp 48)) rfl ?_); refine wpList_loadE (.tmp 48) rfl rfl _ _ rfl e rE ?_)
              | ((with_reducible refine atOp (.alloc 29) rfl ?_); refine wpList_allocR 29 rfl rfl _ ev_zero ?_; intro b1 w1 l1 R1 hb1; have n1p := SI.own.new l1; have n1a := SI.all.new l1; have lw := Nat.le_trans SI.below.size l1; replace SI := SI.later hb1)
              | ((with_reducible refine atOp (.store 29 (.tmp 10) (.tmp 49)) rfl ?_); refine wpList_storeR 29 rfl _ _ rfl b1 (by kernel_rfl) (ec e) (by kernel_rfl) _ R1 rfl (ec_info e) (ec_one e) ?_; intro w2 R2 t2; replace SI := SI.turned t2 n1p n1a lw)
              | ((with_reducible refine atOp (.store 3 (.tmp 51) (.tmp 50)) rfl ?_); refine wpList_storeF R2 rfl _ _ rfl 0 (by kernel_rfl) tm2 (by kernel_rfl) _ rfl (ec (putT e tm2)) rfl ?_; intro w3 R3 t3; replace SI := SI.turned t3 n1p n1a lw)
              | ((with_reducible refine atOp (.load 29 (.tmp 10)) rfl ?_); refine wpList_loadR 29 (.tmp 10) rfl rfl b1 (by kernel_rfl) (ec (putT e tm2)) R3 _ Tryd.underlying29 rfl (ec_info _) ?_)
              | (go_at_call 12; go_fit (CG _); rintro x w5 ⟨rfl, hb5⟩; replace R3 := R3.below hb5; replace SI := SI.later hb5))
            go_roundw
            case rel => first | exact ⟨m + 1, ps, _, _, _, cast1R m, rfl, HP, hidR (Nat.succ_le_of_lt HM.out), SI⟩ | exact ⟨m + 1, ps, _, _, _, castW hmw, rfl, HP, hidR (Nat.succ_le_of_lt HM.out), SI⟩ | ((repeat apply Exists.intro); first | exact ⟨⟨m + 1, ps, _, _, _, cast1R m, rfl, HP, hidR (Nat.succ_le_of_lt HM.out), SI⟩, rfl⟩ | exact ⟨⟨m + 1, ps, _, _, _, castW hmw, rfl, HP, hidR (Nat.succ_le_of_lt HM.out), SI⟩, rfl⟩)
            case measure => (first | rw [hmw] | skip); exact ev_meas (HB.out.symm ▸ HM.out)
        · have mn : ¬ (m : Int) < (nb : Int) := by have := HB.out; omega
          clear hml Hm g1 g2
          have HS : Hid (0 ≤ (n1 : Int) ∧ (n1 : Int) ≤ 4294967295 ∧ all.length ≤ 100000) := by have := S.n; have := HA.out; have := HJ.out; exact hidR (by omega)
          have HQ : Hid (ps.length ≤ 3518437208780 ∧ ps.length ≤ 100000) := by have := SI.n; exact hidR (by omega)
          by_cases h0 : 0 < ps.length
          · have hnz : ((np : Int) == 0) = false := by have := HP.out; simp; omega
            have H0 : Hid (0 < ps.length) := h0
            obtain ⟨M, hMM⟩ : ∃ M, M = msgB tm2 (n1 : Int) 300 (setB ps) := ⟨_, rfl⟩
            have CM : ∀ W, EvAt W (.slice ap np cp) ps → Calls Tryd.prog 8 #[.int .i64 (n1 : Int), .slice ap np cp] W fun x w' => x = .returned (.tuple #[.string (txt M), .int .i64 0]) ∧ Below W.heap.size W w' := fun W hE => by have := messageS_any (n1 : Int) _ ps W hE; rw [mes_ps SI.ok h0 SI.n ⟨HS.out.1, HS.out.2.1⟩, ← hMM] at this; exact this
            have HMM : Hid (M = msgB tm2 (n1 : Int) 300 (setB ps)) := hMM
            have hsz := txt_size L
            have hszM := txt_size M
            have hLl : L.length ≤ 100000 := by have := S.len; have := HJ.out; omega
            have hMl : M.length ≤ 100000 := by rw [HMM.out, msgB_len, setB_len]; have := SI.n; omega
            clear hMM h0
            go_wp2_with (first
              | (go_at_call 8; refine (CM _ (SI.own.at HQ.out.1)).mono ?_; rintro x w5 ⟨rfl, hb5⟩; replace SI := SI.later hb5)
              | ((with_reducible refine atOp (.call { callee := .builtin .append, args := #[.tmp 86, .tmp 87], argTypes := #[22, 22] }) rfl ?_); refine wpList_appE rfl (.tmp 86) (.tmp 87) rfl SI.all (SI.own.at HQ.out.1) (by kernel_rfl) (by kernel_rfl) H0.out HS.out.2.2 HQ.out.2 SI.below.size ?_; intro v8 w8 hE8 hG8; obtain ⟨n8, hn8⟩ : ∃ n, n = (all ++ ps).length := ⟨_, rfl⟩; obtain ⟨a8, c8, e8⟩ := hE8.slice; rw [← hn8] at e8; have H8 : Hid (n8 = (all ++ ps).length) := hn8; clear hn8; subst e8))
            have S2 := SI.more S (Nat.le_of_lt HJ.out) HT.out.1 HT.out.2.1 H0.out hE8 hG8
            rw [← HA.out, ← HMM.out] at S2
            go_roundw
            case rel => first | exact ⟨j + 1, L ++ M, all ++ ps, tm2, _, _, _, cast1R j, congrArg Value.string (txt_app L M), rfl, rfl, H8, hidR (Nat.succ_le_of_lt HJ.out), S2⟩ | exact ⟨j + 1, L ++ M, all ++ ps, tm2, _, _, _, castW hjw, congrArg Value.string (txt_app L M), rfl, rfl, H8, hidR (Nat.succ_le_of_lt HJ.out), S2⟩ | ((repeat apply Exists.intro); first | exact ⟨⟨j + 1, L ++ M, all ++ ps, tm2, _, _, _, cast1R j, congrArg Value.string (txt_app L M), rfl, rfl, H8, hidR (Nat.succ_le_of_lt HJ.out), S2⟩, rfl⟩ | exact ⟨⟨j + 1, L ++ M, all ++ ps, tm2, _, _, _, castW hjw, congrArg Value.string (txt_app L M), rfl, rfl, H8, hidR (Nat.succ_le_of_lt HJ.out), S2⟩, rfl⟩)
            case measure => (first | rw [hjw] | skip); exact bk_meas HJ.out
          · have hnp : np = 0 := by have := HP.out; omega
            have hnz : ((np : Int) == 0) = true := by rw [hnp]; rfl
            have CM : ∀ W, EvAt W (.slice ap np cp) ps → Calls Tryd.prog 8 #[.int .i64 (n1 : Int), .slice ap np cp] W fun x w' => x = .returned (.tuple #[.string ByteArray.empty, .int .i64 7]) ∧ Below W.heap.size W w' := fun W hE => by have := messageS_any (n1 : Int) _ ps W hE; rw [mesS_none (by omega)] at this; exact this
            clear h0 hnp
            go_wp2_with (go_at_call 8; refine (CM _ (SI.own.at HQ.out.1)).mono ?_; rintro x w5 ⟨rfl, hb5⟩; replace SI := SI.later hb5)
            have S2 := SI.none S HT.out.1 HT.out.2.1
            go_roundw
            case rel => first | exact ⟨j + 1, L, all, tm2, _, _, _, cast1R j, rfl, rfl, rfl, HA, hidR (Nat.succ_le_of_lt HJ.out), S2⟩ | exact ⟨j + 1, L, all, tm2, _, _, _, castW hjw, rfl, rfl, rfl, HA, hidR (Nat.succ_le_of_lt HJ.out), S2⟩ | ((repeat apply Exists.intro); first | exact ⟨⟨j + 1, L, all, tm2, _, _, _, cast1R j, rfl, rfl, rfl, HA, hidR (Nat.succ_le_of_lt HJ.out), S2⟩, rfl⟩ | exact ⟨⟨j + 1, L, all, tm2, _, _, _, castW hjw, rfl, rfl, rfl, HA, hidR (Nat.succ_le_of_lt HJ.out), S2⟩, rfl⟩)
            case measure => (first | rw [hjw] | skip); exact bk_meas HJ.out
    · have hex : (¬ (j : Int) < (N : Int)) ∨ ((j : Int) < (N : Int) ∧ ¬ (j : Int) < 20) := by have := HN.out; omega
      clear hin
      rcases hex with g1 | ⟨g1, g2⟩
      all_goals (
      have hsz : (txt L).size = L.length := txt_size L
      have hE2 := S.own.at (by have := S.n; have := Hj.out; omega)
      have hnn : ((n1 : Int) != (n1 : Int)) = false := by simp
      obtain ⟨CR, CR2, k, hk, hkl⟩ := back_reads S.told (by have := S.len; have := Hj.out; omega)
      have HKK : Hid ((L.length : Int) = (k : Int) + 1 ∧ k = L.length - 1 ∧ k ≤ 100000) := ⟨hk, hkl, by have := S.len; have := Hj.out; omega⟩
      clear hk hkl
      have hTW := hT0.keep S.below hw0
      have hB := S.below
      clear S
      go_wp2_with (go_at_call 15; refine (CR _ hTW).mono ?_; rintro x w5 ⟨⟨v1, rfl, h1⟩, hb5⟩; obtain ⟨b1, d1, e1⟩ := h1.slice; rw [← HA.out] at e1; subst e1; have h2 := hE2.below hb5; replace hTW := hTW.below hb5; replace hB := hB.trans (hb5.mono hB.size))
      clear hE2 CR
      go_loopw [105] (fun i W => ∃ q : Nat, q ≤ all.length ∧ i = .int .i64 (q : Int) ∧ EvAt W (.slice b1 n1 d1) all ∧ EvAt W (.slice aa n1 ca) all ∧ Tab W ∧ Below w.heap.size w W) (fun i _ => n1 - (intOf i).toNat)
      case atStart => exact ⟨0, Nat.zero_le _, rfl, h1, h2, hTW, hB⟩
      case round =>
        clear h1 h2 hTW hB
        obtain ⟨q, hq, rfl, h1, h2, hT, hB⟩ := hrel
        by_cases hlq : q < all.length
        · have hqn : (q : Int) < (n1 : Int) := by have := HA.out; omega
          have hqw := ev_next hlq h1.len
          obtain ⟨e, he⟩ : ∃ e, all[q] = e := ⟨_, rfl⟩
          have I1 := fun w2 => h1.index q hlq w2
          have I2 := fun w2 => h2.index q hlq w2
          go_upto_region 31 with fail
          refine wp_region_noPanic ?_
          refine wp_region_held_drew (S := fun W => EvAt W (.slice b1 n1 d1) all ∧ EvAt W (.slice aa n1 ca) all) (by kernel_rfl) ⟨h1, h2⟩ (fun _ => ?_)
          refine wpAnyH_take (i := 0) (v := .slice b1 n1 d1) rfl (by kernel_rfl) (by kernel_rfl) (by kernel_rfl) (fun _ _ _ h => h) (Or.inl ⟨by kernel_rfl, by intro w hS; go_simp⟩) ⟨h1, h2⟩ ?_
          simp only [Act.put, List.getElem_toArray, List.getElem_cons_succ, List.getElem_cons_zero, List.setIfInBounds_toArray, List.set_cons_zero, List.set_cons_succ]
          refine wpAnyH_take (i := 1) (v := .int .i64 (q : Int)) rfl (by kernel_rfl) (by kernel_rfl) (by kernel_rfl) (fun _ _ _ h => h) (Or.inl ⟨by kernel_rfl, by intro w hS; go_simp⟩) ⟨h1, h2⟩ ?_
          simp only [Act.put, List.getElem_toArray, List.getElem_cons_succ, List.getElem_cons_zero, List.setIfInBounds_toArray, List.set_cons_zero, List.set_cons_succ]
          refine wpAnyH_take (i := 2) (v := .pointer (some ⟨eb (.slice b1 n1 d1), eo (.slice b1 n1 d1) + 5 * q, none⟩)) rfl (by kernel_rfl) (by kernel_rfl) (by kernel_rfl) (fun _ _ _ h => h) (yields_indexG 22 (.tmp 108) (.tmp 109) rfl (by kernel_rfl) _ _ _ (by kernel_rfl) (by kernel_rfl) I1) ⟨h1, h2⟩ ?_
          simp only [Act.put, List.getElem_toArray, List.getElem_cons_succ, List.getElem_cons_zero, List.setIfInBounds_toArray, List.set_cons_zero, List.set_cons_succ]
          refine wpAnyH_take (i := 3) (v := .agg (ec e)) rfl (by kernel_rfl) (by kernel_rfl) (by kernel_rfl) (fun _ _ _ h => h) (yields_loadE (.tmp 110) rfl (by kernel_rfl) _ _ (by kernel_rfl) e (fun w h => h.1.at q hlq he)) ⟨h1, h2⟩ ?_
          simp only [Act.put, List.getElem_toArray, List.getElem_cons_succ, List.getElem_cons_zero, List.setIfInBounds_toArray, List.set_cons_zero, List.set_cons_succ]
          refine wpAnyH_take (i := 4) (v := .slice aa n1 ca) rfl (by kernel_rfl) (by kernel_rfl) (by kernel_rfl) (fun _ _ _ h => h) (Or.inl ⟨by kernel_rfl, by intro w hS; go_simp⟩) ⟨h1, h2⟩ ?_
          simp only [Act.put, List.getElem_toArray, List.getElem_cons_succ, List.getElem_cons_zero, List.setIfInBounds_toArray, List.set_cons_zero, List.set_cons_succ]
          refine wpAnyH_take (i := 5) (v := .int .i64 (q : Int)) rfl (by kernel_rfl) (by kernel_rfl) (by kernel_rfl) (fun _ _ _ h => h) (Or.inl ⟨by kernel_rfl, by intro w hS; go_simp⟩) ⟨h1, h2⟩ ?_
          simp only [Act.put, List.getElem_toArray, List.getElem_cons_succ, List.getElem_cons_zero, List.setIfInBounds_toArray, List.set_cons_zero, List.set_cons_succ]
          refine wpAnyH_take (i := 6) (v := .pointer (some ⟨eb (.slice aa n1 ca), eo (.slice aa n1 ca) + 5 * q, none⟩)) rfl (by kernel_rfl) (by kernel_rfl) (by kernel_rfl) (fun _ _ _ h => h) (yields_indexG 22 (.tmp 112) (.tmp 113) rfl (by kernel_rfl) _ _ _ (by kernel_rfl) (by kernel_rfl) I2) ⟨h1, h2⟩ ?_
          simp only [Act.put, List.getElem_toArray, List.getElem_cons_succ, List.getElem_cons_zero, List.setIfInBounds_toArray, List.set_cons_zero, List.set_cons_succ]
          refine wpAnyH_take (i := 7) (v := .agg (ec e)) rfl (by kernel_rfl) (by kernel_rfl) (by kernel_rfl) (fun _ _ _ h => h) (yields_loadE (.tmp 114) rfl (by kernel_rfl) _ _ (by kernel_rfl) e (fun w h => h.2.at q hlq he)) ⟨h1, h2⟩ ?_
          simp only [Act.put, List.getElem_toArray, List.getElem_cons_succ, List.getElem_cons_zero, List.setIfInBounds_toArray, List.set_cons_zero, List.set_cons_succ]
          refine wpAnyH_take (i := 8) (v := .bool false) rfl (by kernel_rfl) (by kernel_rfl) (by kernel_rfl) (fun _ _ _ h => h) (yields_neE (.tmp 111) (.tmp 115) rfl (by kernel_rfl) e (by kernel_rfl) (by kernel_rfl)) ⟨h1, h2⟩ ?_
          simp only [Act.put, List.getElem_toArray, List.getElem_cons_succ, List.getElem_cons_zero, List.setIfInBounds_toArray, List.set_cons_zero, List.set_cons_succ]
          refine wpAnyH_done (by kernel_rfl) ?_ _
          refine NoPanic.normal ?_
          go_wp2
          go_roundw
          case rel => first | exact ⟨q + 1, Nat.succ_le_of_lt hlq, cast1R q, h1.drew, h2.drew, tab_drewK hT, below_drewE hB⟩ | exact ⟨q + 1, Nat.succ_le_of_lt hlq, castW hqw, h1.drew, h2.drew, tab_drewK hT, below_drewE hB⟩ | ((repeat apply Exists.intro); first | exact ⟨⟨q + 1, Nat.succ_le_of_lt hlq, cast1R q, h1.drew, h2.drew, tab_drewK hT, below_drewE hB⟩, rfl⟩ | exact ⟨⟨q + 1, Nat.succ_le_of_lt hlq, castW hqw, h1.drew, h2.drew, tab_drewK hT, below_drewE hB⟩, rfl⟩)
          case measure => (first | rw [hqw] | skip); exact ev_meas (HA.out.symm ▸ hlq)
        · have hqn : ¬ (q : Int) < (n1 : Int) := by have := HA.out; omega
          clear hlq hq
          have hx := txt_left L k
          have hkw : wrap64 ((L.length : Int) - 1) = (k : Int) := by rw [HKK.out.1]; have := HKK.out.2.2; unfold wrap64; omega
          have hkb : (k : Int) ≤ (L.length : Int) := by have := HKK.out.1; omega
          rw [← HKK.out.2.1] at CR2
          go_wp2_with (go_at_call 15; refine (CR2 _ hT).mono ?_; rintro x w5 ⟨⟨v2, rfl⟩, hb5⟩; replace hB := hB.trans (hb5.mono hB.size))
          go_ret
          exact ⟨rfl, hB⟩)
end Go.Proofs.YtnhafdkfjjplkaaDoor
