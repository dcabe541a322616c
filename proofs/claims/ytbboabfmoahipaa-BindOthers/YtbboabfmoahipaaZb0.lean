/-
  Short words for what the walks through regions that draw their order say often.
-/
import Derived.Test.YtbboabfmoahipaaRows
import Derived.WalkKit
import Derived.ProofKit
import Derived.OrdersHeld
import Derived.Deep.RegionHeld3
namespace Go.Proofs.Ytbboabfmoahipaa
open Go.ChangeShapes Go.WideShapes Go.ChangeAt Go.RowKit
variable {α:Type}{fuel i:Nat}{rs:List Nat}{p:Prop}{P:Program}{md:Region.Mode}{ops:Array Oper}{Q:Exit -> Act -> World -> Prop}{S:World -> Prop}{oi:Oper}{listed:Array Bool}{a:Act}{w:World}
theorem Z1{xs : List α}(h : i < xs.toArray.size): xs.toArray[i] = xs[i]'(by simpa using h) := List.getElem_toArray h
theorem Z2(a : α)(r : List α)(i : Nat)(h : i + 1 < (a::r).length): (a::r)[i + 1] = r[i]'(by simpa using h) := List.getElem_cons_succ a r i h
theorem Z3(a : α)(r : List α)(h : 0 < (a::r).length): (a::r)[0] = a := List.getElem_cons_zero a r h
theorem Z4(l : List α)(i : Nat)(a : α): l.toArray.setIfInBounds i a = (l.set i a).toArray := List.setIfInBounds_toArray l i a
theorem Z5{x : α}{xs : List α}{a : α}: (x::xs).set 0 a = a::xs := List.set_cons_zero
theorem Z6{x : α}{xs : List α}{a : α}: (x::xs).set (i + 1) a = x::xs.set i a := List.set_cons_succ
set_option linter.unusedVariables false
theorem ZZ : (∀(a : Act) (v : Value), a.put none v = a) /\ (∀(a : Act) (i : Nat) (v : Value), a.put (some i) v = { a with tmps := a.tmps.setIfInBounds i v }) /\ (∀ {α : Type} {xs : List α} {i : Nat} (h : i < xs.toArray.size), xs.toArray[i] = xs[i]'(by simpa using h)) /\ (∀ {α : Type} (a : α) (r : List α) (i : Nat) (h : i + 1 < (a::r).length), (a::r)[i + 1] = r[i]'(by simpa using h)) /\ (∀ {α : Type} (a : α) (r : List α) (h : 0 < (a::r).length), (a::r)[0] = a) /\ (∀ {α : Type} (l : List α) (i : Nat) (a : α), l.toArray.setIfInBounds i a = (l.set i a).toArray) /\ (∀ {α : Type} {x : α} {xs : List α} {a : α}, (x::xs).set 0 a = a::xs) /\ (∀ {α : Type} {x : α} {xs : List α} {i : Nat} {a : α}, (x::xs).set (i + 1) a = x::xs.set i a) :=
  ⟨fun _ _ => rfl, fun _ _ _ => rfl, fun h => List.getElem_toArray h, fun a r i h => List.getElem_cons_succ a r i h, fun a r h => List.getElem_cons_zero a r h, fun l i a => List.setIfInBounds_toArray l i a, List.set_cons_zero, List.set_cons_succ⟩
section
variable {P : Program} {md : Region.Mode} {ops : Array Oper} {Q : Exit -> Act -> World -> Prop} {S : World -> Prop} {fuel : Nat} {listed : Array Bool} {a : Act} {w : World} {o : Oper} {rest : List Oper} {id i : Nat}
theorem AR(rs : List Nat)(h : AllReadyH P md ops Q S fuel listed a w rs)(hr : Region.ready md ops listed = rs := by kernel_rfl)(hne : rs ≠ [] := by simp): wpAnyH P md ops Q S (fuel + 1) listed a w := wpAnyH_ready hr hne h
theorem AN(h : Q .normal a w)(hr : Region.ready md ops listed = [] := by kernel_rfl): wpAnyH P md ops (NoPanic Q) S fuel listed a w := wpAnyH_done hr (NoPanic.normal h) _
theorem RD(S : World -> Prop)(hS : S w.drew)(h : S w.drew -> wpAnyH P .any ops (NoPanic Q) S ops.size (Array.replicate ops.size false) a w.drew)(hm : P.follows .mixedOrders = true := by kernel_rfl): (Code.region id ops true).wp P Q a w := wp_region_noPanic (wp_region_held_drew hm hS h)
theorem AC(h : ∀K' : Act -> World -> Prop, Shut (∀a w, S w -> (S w -> wpAnyH P md ops Q S fuel (listed.setIfInBounds i true) a w) -> K' a w) -> if Region.wanted o (yielded ops a.tmps) = true then Oper.wp P o a w K' Q else K' (a.put o.dst undef) w)(hs : AllReadyH P md ops Q S fuel listed a w rs)(ho : ops[i]? = some o := by exact rfl): AllReadyH P md ops Q S fuel listed a w (i::rs) := AllReadyH.cons ho h hs
theorem AP  (h : ∀ K' : Act → World → Prop, Shut (∀ a w, S w → (S w → wpAnyH P md ops Q S fuel (listed.setIfInBounds i true) a w) → K' a w) → Oper.wp P o a w K' Q) (hs : AllReadyH P md ops Q S fuel listed a w rs) (ho : ops[i]? = some o := by exact rfl) (hw : Region.wanted o (yielded ops a.tmps) = true := by kernel_rfl) : AllReadyH P md ops Q S fuel listed a w (i :: rs) := AC (fun K hK => by rw [if_pos hw]; exact h K hK) hs ho
theorem AZ : AllReadyH P md ops Q S fuel listed a w [] := AllReadyH.nil
theorem gO(p : Op)(h : wpList P ops Q (o::rest) a w)(ho : o.op = p := by exact rfl): wpList P ops Q (o::rest) a w := h
theorem gL(t : TypeId)(n : Nat)(h : wpList P ops Q (o::rest) a w)(ho : o.op = .load t (.tmp n) := by exact rfl): wpList P ops Q (o::rest) a w := h
theorem gA(t : TypeId)(h : wpList P ops Q (o::rest) a w)(ho : o.op = .alloc t := by exact rfl): wpList P ops Q (o::rest) a w := h
theorem gB(t : TypeId)(n : Nat)(h : wpList P ops Q (o::rest) a w)(ho : o.op = .box t (.tmp n) := by exact rfl): wpList P ops Q (o::rest) a w := h
theorem gS(t : TypeId)(n m : Nat)(h : wpList P ops Q (o::rest) a w)(ho : o.op = .store t (.tmp n) (.tmp m) := by exact rfl): wpList P ops Q (o::rest) a w := h
end
theorem kr(h : p := by kernel_rfl): p := h
theorem om(h : p := by omega): p := h
theorem zm(h : p := by simp): p := h
theorem tk(i : Nat)(v : Value)(hi : ops[i]? = some oi)(hy : YieldsIf P ops S oi v a)(hS : S w)(h : wpAnyH P md ops Q S fuel (listed.setIfInBounds i true) (a.put oi.dst v) w)(hs : Region.noSelect ops = true := by kernel_rfl)(hf : Region.free md ops listed i = true := by kernel_rfl)(hr : (Region.ready md ops listed).contains i = true := by kernel_rfl)(hQ : ∀c a w, Q (.panic c) (a.put oi.dst v) w -> Q (.panic c) a w := by exact fun _ _ _ h => h): wpAnyH P md ops Q S (fuel + 1) listed a w :=
  wpAnyH_take hi hs hf hr hQ hy hS h
theorem tq(i : Nat)(v : Value)(hi : ops[i]? = some oi)(hS : S w)(h : wpAnyH P md ops Q S fuel (listed.setIfInBounds i true) (a.put oi.dst v) w)(hs : Region.noSelect ops = true := by kernel_rfl)(hf : Region.free md ops listed i = true := by kernel_rfl)(hr : (Region.ready md ops listed).contains i = true := by kernel_rfl)(hQ : ∀c a w, Q (.panic c) (a.put oi.dst v) w -> Q (.panic c) a w := by exact fun _ _ _ h => h)(hy : YieldsIf P ops S oi v a := by exact Or.inl ⟨by kernel_rfl, by intro w hS;go_simp⟩): wpAnyH P md ops Q S (fuel + 1) listed a w :=
  wpAnyH_take hi hs hf hr hQ hy hS h
end Go.Proofs.Ytbboabfmoahipaa
