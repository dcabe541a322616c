/-
  Small laws.
-/
import Derived.Maps.AppendAt
import Derived.Test.YtmdijjbkjcnbpaaBindX
namespace Go.Proofs.Ytmdijjbkjcnbpaa
open Go.ChangeShapes Go.WideShapes Go.ChangeAt Go.RowKit
set_option linter.unusedSimpArgs false
set_option linter.unusedVariables false

theorem maps_turned3 {w w' : World} {b : Nat} {v : Value} {ms : List Mp} (h : MapsAt w v ms) (hne : 0 < ms.length → mb v ≠ b) (t : Turned b w w') : MapsAt w' v ms := by
  obtain ⟨a, cap, e, h1, h2, h3⟩ := h
  refine ⟨a, cap, e, h1, fun j hj i u hu => ?_, h3⟩
  have := h2 j hj i u hu
  unfold World.cell? at *
  rw [t.other _ (hne (by omega))]
  exact this
theorem MapsAt.away3 {w : World} {v : Value} {ms : List Mp} {b : Nat} (h : MapsAt w v ms) (hb : w.heap.size ≤ b) : 0 < ms.length → mb v ≠ b := fun hl => Nat.ne_of_lt (Nat.lt_of_lt_of_le (h.lt hl) hb)
theorem at_opB {ops : Array Oper} {rest : List Oper} {o : Oper} {a : Act} {w : World} {Q : Exit → Act → World → Prop} (p : Op) (ho : o.op = p) (h : wpList Try.prog ops Q (o :: rest) a w) : wpList Try.prog ops Q (o :: rest) a w := h
theorem at_consB {ops : Array Oper} {rest : List Oper} {o : Oper} {a : Act} {w : World} {Q : Exit → Act → World → Prop} (h : wpList Try.prog ops Q (o :: rest) a w) : wpList Try.prog ops Q (o :: rest) a w := h
theorem ownG_below {w w' : World} {base : Nat} {e : TypeId} {size n : Nat} {v : Value} {xs : List Value} (h : w.ownsRow base e size v n xs) (hb : Below w.heap.size w w') : w'.ownsRow base e size v n xs := by
  refine ⟨h.1, ?_⟩
  rcases h.2 with e | ⟨b, cap, cur, hv, hbb, hh, r⟩
  · exact .inl e
  · exact .inr ⟨b, cap, cur, hv, hbb, (hb.block b (Array.getElem?_eq_some_iff.1 hh).1).trans hh, r⟩
theorem ownG_turned {w w' : World} {base b7 : Nat} {e : TypeId} {size n : Nat} {v : Value} {xs : List Value} (h : w.ownsRow base e size v n xs) (t : Turned b7 w w') (hn : v.ownBlock ≠ some b7) : w'.ownsRow base e size v n xs := by
  refine ⟨h.1, ?_⟩
  rcases h.2 with e | ⟨b, cap, cur, hv, hbb, hh, r⟩
  · exact .inl e
  · exact .inr ⟨b, cap, cur, hv, hbb, (t.other b (fun e => hn (by rw [hv, e]; rfl))).trans hh, r⟩
theorem ownG_away {w : World} {base b7 : Nat} {e : TypeId} {size n : Nat} {v : Value} {xs : List Value} (h : w.ownsRow base e size v n xs) (hb : w.heap.size ≤ b7) : v.ownBlock ≠ some b7 := by
  rcases h.2 with ⟨e, _⟩ | ⟨b, cap, cur, hv, hbb, hh, r⟩
  · rw [e]; simp [Value.ownBlock]
  · rw [hv]
    intro e
    have e' : b = b7 := Option.some.inj e
    have := (Array.getElem?_eq_some_iff.1 hh).1
    omega
theorem grown_row2 {t : TypeId} {w w' : World} {b : Nat} {cs : Array Value} {v : Value} (R : Row t w b cs) (hne : v.ownBlock ≠ some b) (hg : w.grownBy w' v.ownBlock) : Row t w' b cs := (hg.block b R.lt (fun e => hne e.symm)).trans R
theorem dropM_step {ms : List Mp} {j : Nat} {o m : Mp} (hlj : j < ms.length) (hm : ms[j] = o) : dropM (ms.take (j + 1)) m = dropM (ms.take j) m ++ if o = m then [] else [o] := by
  unfold dropM; rw [take_next hlj hm, List.filter_append]
  by_cases e : o = m
  · simp [e]
  · simp [e]
theorem dropM_le (ms : List Mp) (m : Mp) (j : Nat) : (dropM (ms.take j) m).length ≤ ms.length := by
  unfold dropM; exact Nat.le_trans (List.length_filter_le _ _) (by rw [List.length_take]; omega)
end Go.Proofs.Ytmdijjbkjcnbpaa
