/-
  For every packet, rentrollkeep.WireBack returns true: its frame is read as it was, and not with a byte more or less; no condition but the form's own reach.
-/
import Derived.Test.YtkgpnmbljhcciabRows
import Derived.WalkKit
import Derived.ProofKit
import Derived.OpenShut
import Derived.ShutString
import Derived.SizedLaws
import Derived.Below
import Derived.Test.YtkgpnmbljhcciabKeepW
import Derived.Test.YtkgpnmbljhcciabPktIn
namespace Go.Proofs.Ytkgpnmbljhcciab.wireBack
open Go.ChangeShapes Go.WideShapes Go.ChangeAt Go.RowKit
open Go.ChangeMaps (open_string shut_string)
set_option linter.unusedVariables false

theorem own : ownKnob Try.prog.godebug = none := by kernel_rfl

theorem walk (a0 : Pkt) (w0 : a0.body.size ≤ 140737488351232) (w : World) :
    Calls Try.prog 6 #[pv a0] w fun e w' => e = .returned (.bool true) ∧ Below w.heap.size w w' := by
  have T0 : Twelve (w.alloc (.cells #[.int .i64 a0.proto, .int .i64 a0.src, .int .i64 a0.sport, .int .i64 a0.dst, .int .i64 a0.dport, .int .i64 a0.ttl, .int .i64 a0.id, .int .i64 a0.flags, .int .i64 a0.seq, .int .i64 a0.ack, .int .i64 a0.win, .string a0.body] 23)) w.heap.size #[.int .i64 a0.proto, .int .i64 a0.src, .int .i64 a0.sport, .int .i64 a0.dst, .int .i64 a0.dport, .int .i64 a0.ttl, .int .i64 a0.id, .int .i64 a0.flags, .int .i64 a0.seq, .int .i64 a0.ack, .int .i64 a0.win, .string a0.body] := heap_alloc_new w _
  have hB : Below w.heap.size w (w.alloc (.cells #[.int .i64 a0.proto, .int .i64 a0.src, .int .i64 a0.sport, .int .i64 a0.dst, .int .i64 a0.dport, .int .i64 a0.ttl, .int .i64 a0.id, .int .i64 a0.flags, .int .i64 a0.seq, .int .i64 a0.ack, .int .i64 a0.win, .string a0.body] 23)) := (Below.refl _ _).alloc (Nat.le_refl _) _
  have c0 := T0.cell
  by_cases hg : good a0 = 0
  · have hk := (good_zero a0 hg).1
    have h64 := (good_zero a0 hg).2.2.1
    have hfl := size_lt a0 h64
    have hpn := part_least _ hk
    have hsz := frame_size a0 hg
    have hbk := frame_back a0 hg
    have CB : ∀ w, Calls Try.prog 16 #[pv a0] w fun e w' => e = .returned (.tuple #[.string (txt (frame a0)), .int .i64 0]) ∧ Below w.heap.size w w' := by
      intro w
      have := build_any a0 w w0
      rw [built_ok a0 hg, hg] at this; exact this
    have P1 : ∀ w, Calls Try.prog 9 #[.string (txt (frame a0))] w fun e w' => e = .returned (.tuple #[pv a0, .int .i64 0]) ∧ Below w.heap.size w w' := by
      intro w
      have := parse_any (txt (frame a0)) w (by omega)
      rw [txt_list, hbk.1, hbk.2] at this; exact this
    have P2 : ∀ w, Calls Try.prog 9 #[.string (txt (frame a0) ++ ⟨#[120]⟩)] w fun e w' => e = .returned (.tuple #[pv p0, .int .i64 1]) ∧ Below w.heap.size w w' := by
      intro w
      have e1 : (txt (frame a0) ++ (⟨#[120]⟩ : ByteArray)).data.toList = frame a0 ++ [120] := by simp [txt]
      have e2 := frame_more a0 hg [120] (by simp)
      have := parse_any (txt (frame a0) ++ ⟨#[120]⟩) w (by rw [ByteArray.size_append]; show _ + 1 ≤ _; omega)
      rw [e1, e2, parsed, e2, if_neg (by omega)] at this; exact this
    have P3 : ∀ w, Calls Try.prog 9 #[.string ((txt (frame a0)).extract 0 ((txt (frame a0)).size - 1))] w fun e w' => e = .returned (.tuple #[pv p0, .int .i64 1]) ∧ Below w.heap.size w w' := by
      intro w
      have hl := txt_size (frame a0)
      have e1 : ((txt (frame a0)).extract 0 ((txt (frame a0)).size - 1)).data.toList = (frame a0).take ((txt (frame a0)).size - 1) := by rw [ext_list, txt_list]; simp
      have e2 := frame_less a0 hg ((txt (frame a0)).size - 1) (by omega)
      have := parse_any ((txt (frame a0)).extract 0 ((txt (frame a0)).size - 1)) w (by rw [ext_size _ _ _ (by omega)]; omega)
      rw [e1, e2, parsed, e2, if_neg (by omega)] at this; exact this
    have hs1 : (txt (frame a0)).size ≤ 104 := by omega
    have hs2 : 20 ≤ (txt (frame a0)).size := by omega
    clear hsz hbk hfl hpn hk h64
    generalize txt (frame a0) = t0 at *
    have hs3 : ((t0.size - 1 : Nat) : Int) = (t0.size : Int) - 1 := by omega
    have hs4 : ((t0.size : Int) - 1).toNat = t0.size - 1 := by omega
    unfold pv
    go_enter Try.func6, Try.ntmps6
    go_wp2_with (first
      | (go_at_call 16; refine (CB _).mono ?_; rintro e w' ⟨rfl, hb⟩; replace T0 := T0.below hb; have c0 := T0.cell; replace hB := hB.trans (hb.mono hB.size))
      | (go_at_call 17; refine (buildsKeep_any _).mono ?_; rintro e w' ⟨rfl, hb⟩; replace T0 := T0.below hb; have c0 := T0.cell; replace hB := hB.trans (hb.mono hB.size))
      | (go_at_call 9; go_fit (P1 _); rintro e w3 ⟨rfl, hb⟩; replace T0 := T0.below hb; have c0 := T0.cell; replace hB := hB.trans (hb.mono hB.size); unfold pv; have T1 : Twelve (w3.alloc (.cells #[.int .i64 a0.proto, .int .i64 a0.src, .int .i64 a0.sport, .int .i64 a0.dst, .int .i64 a0.dport, .int .i64 a0.ttl, .int .i64 a0.id, .int .i64 a0.flags, .int .i64 a0.seq, .int .i64 a0.ack, .int .i64 a0.win, .string a0.body] 23)) w3.heap.size #[.int .i64 a0.proto, .int .i64 a0.src, .int .i64 a0.sport, .int .i64 a0.dst, .int .i64 a0.dport, .int .i64 a0.ttl, .int .i64 a0.id, .int .i64 a0.flags, .int .i64 a0.seq, .int .i64 a0.ack, .int .i64 a0.win, .string a0.body] := heap_alloc_new w3 _; replace T0 := T0.more (o := .cells #[.int .i64 a0.proto, .int .i64 a0.src, .int .i64 a0.sport, .int .i64 a0.dst, .int .i64 a0.dport, .int .i64 a0.ttl, .int .i64 a0.id, .int .i64 a0.flags, .int .i64 a0.seq, .int .i64 a0.ack, .int .i64 a0.win, .string a0.body] 23); replace hB := hB.alloc (by have := hB.size; omega) (.cells #[.int .i64 a0.proto, .int .i64 a0.src, .int .i64 a0.sport, .int .i64 a0.dst, .int .i64 a0.dport, .int .i64 a0.ttl, .int .i64 a0.id, .int .i64 a0.flags, .int .i64 a0.seq, .int .i64 a0.ack, .int .i64 a0.win, .string a0.body] 23))
      | (go_at_call 9; go_fit (P2 _); rintro e w4 ⟨rfl, hb⟩; replace T0 := T0.below hb; have c0 := T0.cell; replace hB := hB.trans (hb.mono hB.size); replace T1 := T1.below hb; unfold pv p0)
      | (go_at_call 9; go_fit (P3 _); rintro e w5 ⟨rfl, hb⟩; replace T0 := T0.next hb; replace T1 := T1.next hb; have c0 := T0.cell; have c1 := T1.cell; have l0 := T0.lt; have l1 := T1.lt; replace hB := below_next hB (by have := hB.size; omega) hb; unfold pv p0))
    go_ret
    exact ⟨rfl, hB.alloc (by have := hB.size; omega) _⟩
  · have hg' : (good a0 == 0) = false := by simpa using hg
    have CB : ∀ w, Calls Try.prog 16 #[pv a0] w fun e w' => e = .returned (.tuple #[.string ByteArray.empty, .int .i64 (good a0)]) ∧ Below w.heap.size w w' := by
      intro w
      have := build_any a0 w w0
      rw [built_no a0 hg] at this; exact this
    unfold pv
    go_enter Try.func6, Try.ntmps6
    go_wp2_with (first
      | (go_at_call 16; refine (CB _).mono ?_; rintro e w' ⟨rfl, hb⟩; replace T0 := T0.below hb; have c0 := T0.cell; replace hB := hB.trans (hb.mono hB.size))
      | (go_at_call 18; refine (good_any a0 _ w0).mono ?_; rintro e w' ⟨rfl, hb⟩; replace T0 := T0.below hb; have c0 := T0.cell; replace hB := hB.trans (hb.mono hB.size))
      | (go_at_call 17; refine (buildsKeep_any _).mono ?_; rintro e w' ⟨rfl, hb⟩; replace T0 := T0.below hb; have c0 := T0.cell; replace hB := hB.trans (hb.mono hB.size)))
    go_ret
    exact ⟨rfl, hB⟩

set_option maxRecDepth 100000 in
theorem lifted (os : Os) (started : os.Started) (H : Type) (enc : TypeId × Value → H) :
    ReturnsInHanded {} Try.checked os 6 .any (Rows.wireBackSpec.pre6 enc Try.prog Try.f6 Rows.wireBackRow.domain false) (Rows.wireBackSpec.post enc Try.prog Try.f6 false true false false) := by
  refine returnsInHanded_of_change_sized (C := Try.checked) own started (by kernel_rfl) Try.func6
    (ChangeSpec.witness6 (enc := enc) (C := Try.checked) false ⟨#[], #[.agg #[.int .i64 0, .int .i64 0, .int .i64 0, .int .i64 0, .int .i64 0, .int .i64 0, .int .i64 0, .int .i64 0, .int .i64 0, .int .i64 0, .int .i64 0, .string ByteArray.empty]], []⟩ 8 (by kernel_rfl) (by kernel_rfl) (by kernel_rfl) (by kernel_rfl)) ?_
  intro W base args ds gs before hval0 hW hcnd hsz0 _
  have hval : ∀ (j : Nat) t v, Try.f6.params[j]? = some t → args[j]? = some v → Value.okWide Try.prog W .any base t v := hval0
  have hW' := hW
  obtain ⟨p, q, hA0, hV, rfl, hfz, hnd⟩ := hW
  have hA : DataW.TrodAll enc Try.prog W 0 (fun _ => true) true Try.f6.params.toList args.toList ds p := hA0
  have hsz : (DataW.weightsEach Try.prog (Try.f6.params.toList ++ Rows.wireBackSpec.plain.varTypes Try.prog) (ds ++ gs)).all (· ≤ reachBytes) = true := hsz0
  rw [Try.params6] at hA hval hsz
  obtain ⟨v0, vs0, d0, ds0, p0, q0, hargs, rfl, rfl, h0, r0⟩ := trodAll_cons hA
  obtain ⟨rfl, rfl, rfl⟩ := trodAll_nil r0
  obtain rfl : args = #[v0] := by cases args; simp_all
  obtain ⟨rfl, rfl⟩ := trodVars_none hV
  obtain ⟨a0, rfl, rfl, rfl, f0, m0⟩ := open_pkt (hval 0 23 v0 rfl rfl) h0
  have w0 : a0.body.size ≤ 140737488351232 := sized_pkt hsz (j := 0) rfl rfl
  clear hA0 hval0
  simp only [List.append_nil] at hW'
  refine (walk a0 w0 W).mono fun e W' ⟨he, bel⟩ => ?_
  subst he
  exact ⟨_, rfl, _, _, _, [], [], [], hW', trodAll_mk1 (shut_bool Try.underlying4 _), (trodAll_cons_mk (shut_pkt f0 m0) trodAll_mk0), rfl, bel.frame _, fun h => by cases h⟩

theorem over : Rows.wireBackRow.holds Try.pinned (OpenSpec.ofChange Rows.wireBackSpec) :=
  OpenClaim.holds_of_wide 6 Try.f6 rfl rfl rfl rfl rfl rfl rfl ⟨rfl, rfl, rfl, rfl, rfl⟩ rfl rfl rfl rfl rfl (by kernel_rfl) Try.func6 (by kernel_rfl)
    (of_decide_eq_true (by kernel_rfl)) (by unfold Func.isWrapper; first | (rw [if_pos (by decide +kernel)]; kernel_rfl) | (rw [if_neg (by decide +kernel)]; exact ⟨rfl, rfl⟩))
    (fun os started H enc _ => lifted os started H enc)

end Go.Proofs.Ytkgpnmbljhcciab.wireBack
namespace Go.Proofs.Ytkgpnmbljhcciab
theorem wireBack_holds : Rows.WireBackSaid := wireBack.over
#print axioms wireBack_holds
end Go.Proofs.Ytkgpnmbljhcciab
