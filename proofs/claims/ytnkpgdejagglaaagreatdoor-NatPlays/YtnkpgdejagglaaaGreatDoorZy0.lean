/-
  Short words for what the walks through regions that draw their order say often.
-/
import Derived.Test.YtnkpgdejagglaaaGreatDoorProg
import Derived.WalkKit
import Derived.ProofKit
import Derived.OrdersHeld
import Derived.Deep.RegionHeld3
set_option linter.all false
namespace Go.Proofs.YtnkpgdejagglaaaGreatDoor
open _root_.Go renaming AllReadyH->ou,Value->ag,World->af,wpList->aM
open _root_.Go.Region renaming noSelect->oZ,ready->dV,wanted->bj
open _root_.List renaming setIfInBounds_toArray->aW,set_cons_succ->aR,set_cons_zero->aQ
open Go.ChangeShapes Go.WideShapes Go.ChangeAt Go.RowKit
variable {α:Type}{fuel i:Nat}{rs:List Nat}{p:Prop}{P:Program}{md:Region.Mode}{ops:Array Oper}{Q:Exit -> Act -> World -> Prop}{S:World -> Prop}{oi:Oper}{listed:Array Bool}{a:Act}{w:World}
def Z1{xs : List α}(h : i < xs.toArray.size): xs.toArray[i] = xs[i]'(by simpa using h) := List.getElem_toArray h
def Z2(a : α)(r : List α)(i : Nat)(h : i + 1 < (a::r).length): (a::r)[i + 1] = r[i]'(by simpa using h) := List.getElem_cons_succ a r i h
def Z3(a : α)(r : List α)(h : 0 < (a::r).length): (a::r)[0] = a := List.getElem_cons_zero a r h
def Z4(l : List α)(i : Nat)(a : α): l.toArray.setIfInBounds i a = (l.set i a).toArray := aW l i a
def Z5{x : α}{xs : List α}{a : α}: (x::xs).set 0 a = a::xs := aQ
def Z6{x : α}{xs : List α}{a : α}: (x::xs).set (i + 1) a = x::xs.set i a := aR
theorem ZZ : (∀(a : Act) (v : ag), a.put none v = a) /\ (∀(a : Act) (i : Nat) (v : ag), a.put (some i) v = { a with tmps := a.tmps.setIfInBounds i v }) /\ (∀ {α : Type} {xs : List α} {i : Nat} (h : i < xs.toArray.size), xs.toArray[i] = xs[i]'(by simpa using h)) /\ (∀ {α : Type} (a : α) (r : List α) (i : Nat) (h : i + 1 < (a::r).length), (a::r)[i + 1] = r[i]'(by simpa using h)) /\ (∀ {α : Type} (a : α) (r : List α) (h : 0 < (a::r).length), (a::r)[0] = a) /\ (∀ {α : Type} (l : List α) (i : Nat) (a : α), l.toArray.setIfInBounds i a = (l.set i a).toArray) /\ (∀ {α : Type} {x : α} {xs : List α} {a : α}, (x::xs).set 0 a = a::xs) /\ (∀ {α : Type} {x : α} {xs : List α} {i : Nat} {a : α}, (x::xs).set (i + 1) a = x::xs.set i a) :=
  ⟨fun _ _ => rfl, fun _ _ _ => rfl, fun h => List.getElem_toArray h, fun a r i h => List.getElem_cons_succ a r i h, fun a r h => List.getElem_cons_zero a r h, fun l i a => aW l i a, aQ, aR⟩
section
variable {P : Program} {md : Region.Mode} {ops : Array Oper} {Q : Exit -> Act -> World -> Prop} {S : World -> Prop} {fuel : Nat} {listed : Array Bool} {a : Act} {w : World} {o : Oper} {rest : List Oper} {id i : Nat}
def AR(rs : List Nat)(h : ou P md ops Q S fuel listed a w rs)(hr : dV md ops listed = rs := by kernel_rfl)(hne : rs ≠ [] := by simp): wpAnyH P md ops Q S (fuel + 1) listed a w := wpAnyH_ready hr hne h
def AN(h : Q .normal a w)(hr : dV md ops listed = [] := by kernel_rfl): wpAnyH P md ops (NoPanic Q) S fuel listed a w := wpAnyH_done hr (NoPanic.normal h) _
def RD(S : af -> Prop)(hS : S w.drew)(h : S w.drew -> wpAnyH P .any ops (NoPanic Q) S ops.size (Array.replicate ops.size false) a w.drew)(hm : P.follows .mixedOrders = true := by kernel_rfl): (Code.region id ops true).wp P Q a w := wp_region_noPanic (wp_region_held_drew hm hS h)
def AC(h : ∀K' : Act -> af -> Prop, Shut (∀a w, S w -> (S w -> wpAnyH P md ops Q S fuel (listed.setIfInBounds i true) a w) -> K' a w) -> if bj o (yielded ops a.tmps) = true then Oper.wp P o a w K' Q else K' (a.put o.dst undef) w)(hs : ou P md ops Q S fuel listed a w rs)(ho : ops[i]? = some o := by exact rfl): ou P md ops Q S fuel listed a w (i::rs) := AllReadyH.cons ho h hs
def AP  (h : ∀ K' : Act → af → Prop, Shut (∀ a w, S w → (S w → wpAnyH P md ops Q S fuel (listed.setIfInBounds i true) a w) → K' a w) → Oper.wp P o a w K' Q) (hs : ou P md ops Q S fuel listed a w rs) (ho : ops[i]? = some o := by exact rfl) (hw : bj o (yielded ops a.tmps) = true := by kernel_rfl) : ou P md ops Q S fuel listed a w (i :: rs) := AC (fun K hK => by rw [if_pos hw]; exact h K hK) hs ho
def AZ : ou P md ops Q S fuel listed a w [] := AllReadyH.nil
def gO(p : Op)(h : aM P ops Q (o::rest) a w)(ho : o.op = p := by exact rfl): aM P ops Q (o::rest) a w := h
def qQ(q:Op)(p:Prop):Prop:=∃(P:Program)(ops:Array Oper)(Q:Exit->Act->af->Prop)(o:Oper)(rest:List Oper)(a:Act)(w:af),p=aM P ops Q (o::rest) a w/\o.op=q
theorem rz{q:Op}{p:Prop}{P:Program}{ops:Array Oper}{Q:Exit->Act->af->Prop}{o:Oper}{rest:List Oper}{a:Act}{w:af}(h:p=aM P ops Q (o::rest) a w)(k:o.op=q):qQ q p:=⟨P,ops,Q,o,rest,a,w,h,k⟩
def gL(t : TypeId)(n : Nat){pz:Prop}(h:pz)(c:qQ (.load t (.tmp n)) pz:=by with_reducible exact rz rfl rfl):pz:=h
def gA(t : TypeId){pz:Prop}(h:pz)(c:qQ (.alloc t) pz:=by with_reducible exact rz rfl rfl):pz:=h
theorem gB(t : TypeId)(n : Nat){pz:Prop}(h:pz)(c:qQ (.box t (.tmp n)) pz:=by with_reducible exact rz rfl rfl):pz:=h
def gS(t : TypeId)(n m : Nat){pz:Prop}(h:pz)(c:qQ (.store t (.tmp n) (.tmp m)) pz:=by with_reducible exact rz rfl rfl):pz:=h
end
theorem kr(h : p := by kernel_rfl): p := h
theorem om(h : p := by omega): p := h
theorem zm(h : p := by simp): p := h
def tk(i : Nat)(v : ag)(hi : ops[i]? = some oi)(hy : YieldsIf P ops S oi v a)(hS : S w)(h : wpAnyH P md ops Q S fuel (listed.setIfInBounds i true) (a.put oi.dst v) w)(hs : oZ ops = true := by kernel_rfl)(hf : Region.free md ops listed i = true := by kernel_rfl)(hr : (dV md ops listed).contains i = true := by kernel_rfl)(hQ : ∀c a w, Q (.panic c) (a.put oi.dst v) w -> Q (.panic c) a w := by exact fun _ _ _ h => h): wpAnyH P md ops Q S (fuel + 1) listed a w :=
  wpAnyH_take hi hs hf hr hQ hy hS h
def tq(i : Nat)(v : ag)(hi : ops[i]? = some oi)(hS : S w)(h : wpAnyH P md ops Q S fuel (listed.setIfInBounds i true) (a.put oi.dst v) w)(hs : oZ ops = true := by kernel_rfl)(hf : Region.free md ops listed i = true := by kernel_rfl)(hr : (dV md ops listed).contains i = true := by kernel_rfl)(hQ : ∀c a w, Q (.panic c) (a.put oi.dst v) w -> Q (.panic c) a w := by exact fun _ _ _ h => h)(hy : YieldsIf P ops S oi v a := by exact Or.inl ⟨by kernel_rfl, by intro w hS;go_simp⟩): wpAnyH P md ops Q S (fuel + 1) listed a w :=
  wpAnyH_take hi hs hf hr hQ hy hS h
theorem aZ{c:Prop}{h:Decidable c}(hc:c){α:Sort _}{t e:α}:ite c t e=t:=if_pos hc
theorem aT{c:Prop}{h:Decidable c}(hc:¬c){α:Sort _}{t e:α}:ite c t e=e:=if_neg hc
end Go.Proofs.YtnkpgdejagglaaaGreatDoor
