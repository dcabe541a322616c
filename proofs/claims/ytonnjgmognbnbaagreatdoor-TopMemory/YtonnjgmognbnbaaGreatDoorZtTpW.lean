/-
  Of what a law stands on.
-/
import Derived.Test.YtonnjgmognbnbaaGreatDoorZtTpZ
import Derived.Test.YtonnjgmognbnbaaGreatDoorZtTpL
import Derived.Test.YtonnjgmognbnbaaGreatDoorZtTpR
import Derived.Test.YtonnjgmognbnbaaGreatDoorZtTpO
set_option linter.unusedSimpArgs false
set_option linter.unusedVariables false
namespace Go.Proofs.YtonnjgmognbnbaaGreatDoor
open _root_.Go.Proofs.Tryz Go.ChangeShapes Go.WideShapes Go.ChangeAt Go.RowKit Go.Maps
set_option maxHeartbeats 16000000
set_option maxRecDepth 100000
theorem Pl.nb{loose:Bool}{J:List Ac->(Nat->Prop)->World->Prop}{G0 F G:Nat->Prop}{w0 w W:World}{b:Nat}{l:List Ac}{L:List (Nat×Obj)}(h:Pl loose J G0 w W b l F G)(hB:Below w0.heap.size w0 w)(hG:∀c,G0 c->w0.heap.size<=c)(hd:(L.map (·.1)).Nodup)(hr:∀y∈L,w.heap[y.1]?=some y.2/\w0.heap.size<=y.1/\¬G0 y.1):
  Nb w0 W b ((nt0 loose).runs l) (duF ((nt0 loose).runs l).fs) (fun _=>False) F L:=by
 refine⟨h.nat,(Gr.of_below (F:=fun _=>False) hB).trans h.gr (fun c hc=>.inr (hG c hc)),fun c hc=>.inr (Nat.le_trans hB.size (h.new c hc)),h.bd,hd,fun y hy=>?_⟩
 obtain⟨h1,h2,h3⟩:=hr y hy;have hl:y.1<w.heap.size:=(Array.getElem?_eq_some_iff.1 h1).1
 exact⟨(h.gr.block _ hl h3).trans h1,h2,fun hf=>by have:=h.new _ hf;omega⟩
structure Cp(W:World)(F:Nat->Prop)(v:Value)(ms:List Mp)(u:Value)(ks:List Fl):Prop where
 maps:qaz W v ms
 mf:0<ms.length->¬F (mb v)
 flows:FlAt W u ks
 ff:0<ks.length->¬F (eb u)
section
variable {W W':World} {F F':Nat->Prop} {v u:Value} {ms:List Mp} {ks:List Fl}
theorem Cp.below(h:Cp W F v ms u ks)(hb:Below W.heap.size W W'):Cp W' F v ms u ks:=⟨h.maps.below hb,h.mf,h.flows.below hb,h.ff⟩
theorem Cp.drew(h:Cp W F v ms u ks):Cp W.drew F v ms u ks:=h.below (Below.refl _ _).drew
theorem Cp.call(h:Cp W F v ms u ks)(hg:Gr F W W')(hF:∀c,F' c->F c\/W.heap.size<=c):Cp W' (fun c=>F' c/\c<W'.heap.size) v ms u ks:=by
 refine⟨qc4 h.maps (fun h0=>hg.block _ (h.maps.lt h0) (h.mf h0)),fun h0 hf=>?_,h.flows.keepGr hg h.ff,fun h0 hf=>?_⟩
 ·rcases hF _ hf.1 with h1|h1
  ·exact h.mf h0 h1
  ·have:=h.maps.lt h0;omega
 ·rcases hF _ hf.1 with h1|h1
  ·exact h.ff h0 h1
  ·have:=h.flows.lt h0;omega
theorem Cp.turn{c:Nat}(h:Cp W F v ms u ks)(T:qbl c W W')(hm:0<ms.length->mb v≠c)(hf:0<ks.length->eb u≠c):Cp W' F v ms u ks:=by
 have hB:Below c W W':=T.below c W (Nat.le_refl _) (Below.refl _ _)
 exact⟨qc4 h.maps (fun h0=>T.other _ (hm h0)),h.mf,h.flows.keepGr ⟨hB.os,hB.tape,hB.output,hB.size,fun x hx hn=>T.other x hn⟩ (F:=fun x=>x=c) (fun h0=>hf h0),h.ff⟩
end
theorem qx5(s:Nt):(s.fs.map (·.2)).length=s.fs.length:=by simp
end Go.Proofs.YtonnjgmognbnbaaGreatDoor
