/-
  A number is looked for in a list, and taken out of it.
-/
import Derived.Test.YtphijplgnffoiaaWhC
import Derived.Deep.RegionLaw
import Derived.Lib.SlicesDelete
import Derived.Lib.SliceRun
namespace Go.Proofs.Ytphijplgnffoiaa
open Go.ChangeShapes Go.WideShapes Go.ChangeAt Go.RowKit Go.Maps
set_option linter.unusedSimpArgs false
set_option linter.unusedVariables false

theorem Own.shape {w : World} {v : Value} {l : List Int} (h : Own w v l) (hl : 0 < l.length) : ∃ g cap cur, v = .slice (some ⟨g, 0, none⟩) l.length cap ∧ w.heap[g]? = some (.cells cur 3 (0, 0)) ∧ l.length ≤ cap ∧ cap ≤ maxLen ∧ cur.size = cap ∧ cur.toList.take l.length = l.map (Value.int .i64) := by
  rcases h.2 with ⟨_, e⟩ | ⟨g, cap, cur, e, _, h1, h2, h3, h4, h5⟩
  · omega
  · exact ⟨g, cap, cur, e, h1, h2, h3, by simpa using h4, by simpa using h5⟩
theorem cur_at {cur : Array Value} {l : List Int} (h : cur.toList.take l.length = l.map (Value.int .i64)) (j : Nat) (hj : j < l.length) : cur[j]? = some (.int .i64 l[j]) := by
  have e : (cur.toList.take l.length)[j]? = some (.int .i64 l[j]) := by rw [h]; simp [hj]
  rw [List.getElem?_take, if_pos hj] at e
  simpa using e
theorem ret_int {k : IntKind} {a b : Int} (h : a = b) : Ending.returned (.int k a) = .returned (.int k b) := by rw [h]
theorem ixI (g n cap j : Nat) (hj : j < n) (w : World) : (Instr.indexAt 22 (.slice (some ⟨g, 0, none⟩) n cap) (.int .i64 (j : Int))).run Try.prog w = .ok (.pointer (some ⟨g, j, none⟩)) w := by
  have hs : (sizeOf 3).run Try.prog w = .ok 1 w := by kernel_rfl
  have h1 : (j : Int) < (n : Int) := by omega
  simp [go_sem, Try.underlying22, h1, hj, hs]
set_option maxRecDepth 10000 in
set_option maxHeartbeats 2000000 in
theorem index_any {w : World} {v : Value} {l : List Int} (h : Own w v l) (x : Int) (hx : x ∈ l) (hm : l.length ≤ 1000000000) :
    Calls Try.prog 29 #[v, .int .i64 x] w fun e w' => e = .returned (.int .i64 (l.idxOf x : Int)) ∧ w' = w := by
  have hlen : 0 < l.length := List.length_pos_of_mem hx
  obtain ⟨g, cap, cur, rfl, hg, _, _, _, ht⟩ := h.shape hlen
  have hix := List.idxOf_lt_length_of_mem hx
  have hcell : ∀ j (hj : j < l.length), w.cell? ⟨g, j, none⟩ = some (.int .i64 l[j]) := fun j hj => by simp [World.cell?, hg]; exact cur_at ht j hj
  obtain ⟨n, hn⟩ : ∃ n, n = l.length := ⟨_, rfl⟩
  rw [← hn]
  have HN : Hid (n = l.length) := hn
  have hI := fun j (hj : j < n) w => ixI g n cap j hj w
  clear hn h hg ht hlen
  go_enter Try.func29, Try.ntmps29
  go_wp2
  go_loop [8] (fun i => ∃ j : Nat, j ≤ l.idxOf x ∧ i = .int .i64 (j : Int)) (fun i => n - (intOf i).toNat)
  case atStart => exact ⟨0, Nat.zero_le _, rfl⟩
  case round =>
    obtain ⟨j, hj, rfl⟩ := hrel
    have hjl : j < l.length := by omega
    have hjn : (j : Int) < (n : Int) := by have := HN.out; omega
    have hI' := fun w => hI j (by have := HN.out; omega) w
    have hc := hcell j hjl
    by_cases he : l[j] = x
    · have hb : (x == l[j]) = true := by simp [he]
      have hji : j = l.idxOf x := by
        by_cases hlt : j < l.idxOf x
        · exact absurd he (by have := List.not_of_lt_findIdx (p := (· == x)) (xs := l) hlt; simpa using this)
        · omega
      have HJ : Hid (j = l.idxOf x) := hji
      clear hji he hI hcell
      go_wp2
      go_ret
      refine ⟨ret_int ?_, rfl⟩
      have := HJ.out
      omega
    · have hb : (x == l[j]) = false := by simp; exact fun e => he e.symm
      have hlt : j < l.idxOf x := by
        by_cases e : j = l.idxOf x
        · subst e; exact absurd (List.getElem_idxOf hjl) he
        · omega
      have hwr : wrap64 ((j : Int) + 1) = (j : Int) + 1 := by unfold wrap64; omega
      have HL : Hid (j < l.idxOf x) := hlt
      have hmn : Hid (n - ((j : Int) + 1).toNat < n - ((j : Int)).toNat) := by have := HN.out; show _ < _; omega
      clear he hlt hI hcell
      go_wp2
      go_round
      case rel => exact ⟨j + 1, HL.out, by go_num⟩
      case measure => first | exact hmn.out | (rw [hwr]; exact hmn.out) | (simp [intOf]; exact hmn.out)
/-- cells, laid over those of a row. -/
def putA (cur : Array Value) (o : Nat) (vs : List Value) : Array Value := match vs with
  | [] => cur
  | v :: r => putA (cur.setIfInBounds o v) (o + 1) r
theorem putA_size (vs : List Value) (cur : Array Value) (o : Nat) : (putA cur o vs).size = cur.size := by
  induction vs generalizing cur o with
  | nil => rfl
  | cons v r ih => unfold putA; rw [ih]; simp
theorem putA_get (vs : List Value) (cur : Array Value) (o i : Nat) (hs : o + vs.length ≤ cur.size) : (putA cur o vs)[i]? = if o ≤ i ∧ i < o + vs.length then vs[i - o]? else cur[i]? := by
  induction vs generalizing cur o with
  | nil => unfold putA; rw [if_neg (by simp)]
  | cons v r ih =>
    unfold putA
    simp only [List.length_cons] at hs ⊢
    rw [ih _ _ (by simp; omega)]
    by_cases e : i = o
    · subst e
      rw [if_neg (by omega), if_pos (by omega), Array.getElem?_setIfInBounds_self_of_lt (by omega)]
      simp
    · by_cases h1 : o + 1 ≤ i ∧ i < o + 1 + r.length
      · rw [if_pos h1, if_pos (by omega)]
        obtain ⟨q, rfl⟩ := Nat.exists_eq_add_of_le h1.1
        rw [show o + 1 + q - (o + 1) = q by omega, show o + 1 + q - o = q + 1 by omega]
        simp
      · rw [if_neg h1, if_neg (by omega), Array.getElem?_setIfInBounds_ne (by omega)]
theorem heap_setCells (vs : List Value) (w : World) (g o : Nat) (cur : Array Value) (t : TypeId) (h : w.heap[g]? = some (.cells cur t (0, 0))) : (w.setCells g o vs).heap[g]? = some (.cells (putA cur o vs) t (0, 0)) := by
  induction vs generalizing w cur o with
  | nil => exact h
  | cons v r ih => unfold putA World.setCells; exact ih _ _ _ (heap_setCell_same w g o _ t _ h)
theorem grown_setCells (vs : List Value) (w : World) (g o : Nat) : w.grownBy (w.setCells g o vs) (some g) := by
  induction vs generalizing w o with
  | nil => exact ⟨rfl, rfl, rfl, Nat.le_refl _, fun _ _ _ => rfl⟩
  | cons v r ih =>
    unfold World.setCells
    have h1 : w.grownBy (w.setCell ⟨g, o, none⟩ v) (some g) := ⟨rfl, rfl, rfl, by simp [World.setCell], fun k _ hk => Below.heap_setCell _ _ _ _ (fun e => hk (by rw [e]))⟩
    exact h1.trans (ih _ _)
set_option maxRecDepth 1000000 in
set_option maxHeartbeats 4000000 in
theorem delete_any {w : World} {v : Value} {l : List Int} (h : Own w v l) (j : Nat) (hj : j < l.length) (hm : l.length ≤ 1000000000) :
    Calls Try.prog 30 #[v, .int .i64 (j : Int), .int .i64 ((j : Int) + 1)] w fun e w' => ∃ v', e = .returned v' ∧ Own w' v' (l.eraseIdx j) ∧ w.grownBy w' v.ownBlock ∧ v'.ownBlock = v.ownBlock ∧ ∃ a c, v' = .slice a (l.length - 1) c := by
  obtain ⟨g, cap, cur, rfl, hg, hlc, hcm, hcs, ht⟩ := h.shape (by omega)
  obtain ⟨i0, hi0, hz0, hz1, hz2⟩ := info_parts info_i
  unfold maxLen at hcm
  have hcell : ∀ k (hk : k < l.length), w.cell? ⟨g, k, none⟩ = some (.int .i64 l[k]) := fun k hk => by simp [World.cell?, hg]; exact cur_at ht k hk
  have hfree : ∀ k, w.frozen? ⟨g, k, none⟩ = false := fun k => by simp [World.frozen?, hg]
  obtain ⟨n, hn⟩ : ∃ n, n = l.length := ⟨_, rfl⟩
  obtain ⟨news, hnews⟩ : ∃ news, news = (l.drop (j + 1)).map (Value.int .i64) := ⟨_, rfl⟩
  have hnl : news.length = n - (j + 1) := by rw [hnews, hn]; simp
  obtain ⟨A, hA, hsrc⟩ : ∃ A : Addr, (if cap = j + 1 then some (⟨g, 0, none⟩ : Addr) else some ⟨g, j + 1, none⟩) = some A ∧ Hid (∀ t u, news[t]? = some u → w.drew.cell? (A.add t) = some u) := by
    by_cases hc : cap = j + 1
    · refine ⟨⟨g, 0, none⟩, by simp [hc], fun t u hu => ?_⟩
      have h0 : news.length = 0 := by rw [hnl]; omega
      rw [List.length_eq_zero_iff.1 h0] at hu
      simp at hu
    · refine ⟨⟨g, j + 1, none⟩, by simp [hc], fun t u hu => ?_⟩
      rw [Addr.add_lit]
      rw [hnews, List.getElem?_map, List.getElem?_drop] at hu
      have hlt : j + 1 + t < l.length := by
        by_cases hlt : j + 1 + t < l.length
        · exact hlt
        · rw [List.getElem?_eq_none (by omega)] at hu; simp at hu
      rw [List.getElem?_eq_getElem hlt] at hu
      have hu' : Value.int .i64 l[j + 1 + t] = u := by simpa using hu
      exact (hcell _ hlt).trans (by rw [hu'])
  have s1 : Hid (news.length = (n - (j + 1)) * 1) := by rw [Nat.mul_one]; exact hnl
  have s2 : Hid (∀ u ∈ news, u.oneCell' = true) := by
    intro u hu
    rw [hnews] at hu
    obtain ⟨x, _, rfl⟩ := List.mem_map.1 hu
    rfl
  have s3 : Hid (∀ t, t < news.length → (w.drew.cell? ⟨g, 0 + j * 1 + t, none⟩).isSome = true ∧ w.drew.frozen? ⟨g, 0 + j * 1 + t, none⟩ = false) := by
    intro t ht'
    rw [hnl] at ht'
    rw [Nat.mul_one, Nat.zero_add]
    exact ⟨by show (w.cell? _).isSome = true; rw [hcell (j + t) (by omega)]; rfl, hfree (j + t)⟩
  obtain ⟨W1, hW1⟩ : ∃ W1, W1 = w.drew.setCells g (0 + j * 1) news := ⟨_, rfl⟩
  have hg1 : W1.heap[g]? = some (.cells (putA cur j news) 3 (0, 0)) := by rw [hW1, Nat.mul_one, Nat.zero_add]; exact heap_setCells news w.drew g j cur _ hg
  have hgr : w.grownBy W1 (some g) := by rw [hW1]; have q := grown_setCells news w.drew g (0 + j * 1); exact ⟨q.os, q.tape, q.output, q.size, q.block⟩
  have hps : (putA cur j news).size = cap := by rw [putA_size, hcs]
  have hcl : ∀ ty, (Builtin.clear_ #[22] ty #[.slice (some ⟨g, j + (n - (j + 1)), none⟩) (n - (j + (n - (j + 1)))) (cap - (j + (n - (j + 1))))]).run Try.prog W1 = .ok (.tuple #[]) (W1.setCells g (j + (n - (j + 1))) (List.replicate (n - (j + (n - (j + 1)))) (.int .i64 0))) :=
    fun ty => Lib.run_clear_slice W1 _ _ ty _ Try.underlying22 zeroI rfl rfl g (j + (n - (j + 1))) _ _ (by omega) (fun t ht' => by simp [World.cell?, hg1]; omega) (fun t ht' => by simp [World.frozen?, hg1])
  have hfin : Own (W1.setCells g (j + (n - (j + 1))) (List.replicate (n - (j + (n - (j + 1)))) (.int .i64 0))) (.slice (some ⟨g, 0, none⟩) (j + (n - (j + 1))) cap) (l.eraseIdx j) := by
    have e1 : j + (n - (j + 1)) = n - 1 := by omega
    rw [e1, show n - (n - 1) = 1 by omega]
    have hel : (l.eraseIdx j).length = n - 1 := by rw [List.length_eraseIdx, if_pos hj, hn]
    refine ⟨by simp, .inr ⟨g, cap, _, by rw [hel], Nat.zero_le _, heap_setCells _ W1 g (n - 1) _ _ hg1, by omega, by unfold maxLen; omega, by rw [putA_size, hps, Nat.mul_one], ?_⟩⟩
    apply List.ext_getElem?
    intro i
    rw [List.getElem?_take, Nat.mul_one, hel, List.getElem?_map]
    by_cases hi : i < n - 1
    · rw [if_pos hi, Array.getElem?_toList, putA_get _ _ _ _ (by simp [hps]; omega), if_neg (by omega), putA_get _ _ _ _ (by rw [hnl, hcs]; omega), hnl]
      by_cases hji : j ≤ i
      · rw [if_pos (by omega), hnews, List.getElem?_map, List.getElem?_drop, List.getElem?_eraseIdx_of_ge hji]
        rw [show j + 1 + (i - j) = i + 1 by omega]
      · rw [if_neg (by omega), List.getElem?_eraseIdx_of_lt (by omega), cur_at ht i (by omega), List.getElem?_eq_getElem (by omega)]
        rfl
    · rw [if_neg hi, List.getElem?_eq_none (by omega)]
      rfl
  have hgr2 := hgr.trans (grown_setCells (List.replicate (n - (j + (n - (j + 1)))) (.int .i64 0)) W1 g (j + (n - (j + 1))))
  have HF : Hid (Own (W1.setCells g (j + (n - (j + 1))) (List.replicate (n - (j + (n - (j + 1)))) (.int .i64 0))) (.slice (some ⟨g, 0, none⟩) (j + (n - (j + 1))) cap) (l.eraseIdx j)) := hfin
  have HG : Hid (w.grownBy (W1.setCells g (j + (n - (j + 1))) (List.replicate (n - (j + (n - (j + 1)))) (.int .i64 0))) (some g)) := hgr2
  have hW : Hid (W1 = w.drew.setCells g (0 + j * 1) news) := hW1
  have hN : Hid (n = l.length) := hn
  have hnb : n ≤ 1000000000 := by omega
  have hjn : j < n := by omega
  have hnc : n ≤ cap := by omega
  rw [← hn]
  have hij : ((j : Int) == (j : Int) + 1) = false := by simp; omega
  have hjc : j ≤ cap := by omega
  have hj1c : j + 1 ≤ cap := by omega
  have hp0 : (0 : Int) ≤ (j : Int) + 1 := by omega
  have hp1 : (j : Int) + 1 ≤ (n : Int) := by omega
  have hp2 : ((j : Int) + 1).toNat = j + 1 := by omega
  clear hfin hgr2 hgr hW1 hn hg1 hps hnl hnews hcell hfree ht hg hlc hm hj hcs h
  go_enter Try.func30, Try.ntmps30
  go_wp2_with fail
  go_region_law (refine step_append_room rfl (.tmp 22) (.tmp 25) 22 rfl 3 i0 1 Try.underlying22 hi0 hz1 g 0 j cap (by simp [Act.eval, Act.put]) A (n - (j + 1)) (cap - (j + 1)) news (by simp [Act.eval, Act.put]) s1.out hsrc.out s2.out (by omega) s3.out ?_; rw [← hW.out])
  go_wp2
  go_ret
  exact ⟨_, rfl, HF.out, HG.out, rfl, some ⟨g, 0, none⟩, cap, congrArg (fun q => Value.slice (some ⟨g, 0, none⟩) q cap) (show j + (n - (j + 1)) = n - 1 by omega)⟩
end Go.Proofs.Ytphijplgnffoiaa
