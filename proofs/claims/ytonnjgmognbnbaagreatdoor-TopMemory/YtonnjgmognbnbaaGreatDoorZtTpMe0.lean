/-
  Of what a law stands on.
-/
import Derived.Test.YtonnjgmognbnbaaGreatDoorZtNtZo
import Derived.Test.YtonnjgmognbnbaaGreatDoorZtTpW
set_option linter.unusedSimpArgs false
set_option linter.unusedVariables false
namespace Go.Proofs.YtonnjgmognbnbaaGreatDoor
open Go.Value renaming int → I,pointer → V
open Go.IntKind renaming i64 → Z
open _root_.Go.Proofs.Tryz Go.ChangeShapes Go.WideShapes Go.ChangeAt Go.RowKit Go.Maps
set_option maxHeartbeats 16000000
set_option maxRecDepth 100000
variable {w w':World}{v:Value}{c n:Nat}{cs:Array Value}{t:TypeId}
def OwnF(w:World)(v:Value)(n:Nat):Prop:=0<n->∃b c cs,v=.slice (some ⟨b,0,none⟩) n c/\w.heap[b]?=some (.cells cs 52 (0,0))/\10*n<=cs.size
theorem OwnF.keep(h:OwnF w v n)(hs:0<n->w'.heap[eb v]?=w.heap[eb v]?):OwnF w' v n:=fun h0=>by
 obtain⟨b,c,cs,h1,h2,h3⟩:=h h0
 subst h1
 exact⟨b,c,cs,rfl,(hs h0).trans h2,h3⟩
theorem OwnF.turn(h:OwnF w v n)(T:qbl c w w')(hn:0<n->eb v≠c):OwnF w' v n:=h.keep (fun h0=>T.other _ (hn h0))
theorem OwnF.lt(h:OwnF w v n)(h0:0<n):eb v<w.heap.size:=by
 obtain⟨b,c,cs,h1,h2,h3⟩:=h h0
 subst h1
 exact(Array.getElem?_eq_some_iff.1 h2).1
theorem OwnF.below(h:OwnF w v n)(hb:Below w.heap.size w w'):OwnF w' v n:=h.keep (fun h0=>hb.block _ (h.lt h0))
theorem OwnF.at{W:World}(h:OwnF W v n)(q:Nat)(hq:q<n):∃cs,Row 52 W (eb v) cs/\10*n<=cs.size/\∀w2:World,(Instr.indexAt 41 v (I Z (q:Int))).run prog w2=.ok (V (some ⟨eb v,10*q,none⟩)) w2:=by
 obtain⟨b,c,cs,h1,h2,h3⟩:=h om
 subst h1
 refine⟨cs,h2,h3,fun w2=>?_⟩
 (have hn:((q:Int)).toNat<n:=by simpa using hq);(have hjl:(q:Int)<(n:Int):=by omega);(have hs:(sizeOf 52).run prog w2=.ok 10 w2:=by kernel_rfl);have hb:eb (.slice (some ⟨b,0,none⟩) n c)=b:=rfl;rw[hb]
 simp[go_sem,hq,hn,hjl,underlying41,hs]
theorem OwnF.set(h:OwnF w v n)(R:Row 52 w' (eb v) cs)(hc:10*n<=cs.size):OwnF w' v n:=fun h0=>by
 obtain⟨b,c,cs0,h1,h2,h3⟩:=h h0
 subst h1
 exact⟨b,c,cs,rfl,R,hc⟩
theorem qjbb{base:Nat}{ks:List Fl}(h:FlO w base v ks):OwnF w v ks.length:=fun h0=>by
 rcases h.2 with⟨e,n0⟩|⟨b,cap,cur,hv,hbb,hh,hnc,hcm,hcs,ht⟩
 ·omega
 ·subst hv
  exact⟨b,cap,cur,rfl,hh,by rw[hcs];omega⟩
section
variable {w0 W W':World} {b:Nat} {s:Nt} {tm:Int->Option Int} {F0 F:Nat->Prop} {L:List (Nat×Obj)}
theorem Nb.turnX(h:Nb w0 W b s tm F0 F L)(T:qbl c W W')(h1:w0.heap.size<=c)(h2:¬F c)(h3:c ∉ L.map (·.1)):Nb w0 W' b s tm F0 F L:=by
 have hG:=qcq T
 refine⟨h.nat.keep hG (fun x hx e=>h2 (e▸hx)),h.gr.trans hG (fun x hx=>.inr (hx▸h1)),h.sub,fun x hx=>Nat.lt_of_lt_of_le (h.bd x hx) hG.size,h.nodup,fun y hy=>⟨(T.other _ (fun e=>h3 (e▸List.mem_map.2 ⟨y,hy,rfl⟩))).trans (h.rows y hy).1,(h.rows y hy).2⟩⟩
end
structure Mm(w W:World)(bo b:Nat)(s:Nt)(G F:Nat->Prop)(L:List (Nat×Obj)):Prop where
 nb:Nb w W b s (duF s.fs) G F L
 ro:Row 24 W bo #[V (some ⟨b,0,none⟩)]
 rf:¬F bo
 rl:bo<w.heap.size
section
variable {w W W':World} {bo b:Nat} {s:Nt} {G F:Nat->Prop} {L:List (Nat×Obj)}
theorem Mm.below(h:Mm w W bo b s G F L)(hb:Below W.heap.size W W'):Mm w W' bo b s G F L:=⟨h.nb.below hb,(hb.block _ (Row.lt h.ro)).trans h.ro,h.rf,h.rl⟩
theorem Mm.drew(h:Mm w W bo b s G F L):Mm w W.drew bo b s G F L:=h.below (Below.refl _ _).drew
theorem Mm.alloc(h:Mm w W bo b s G F L){o:Obj}(hl:W.heap.size<=c)(R:W'.heap[c]?=some o)(hb:Below W.heap.size W W'):Mm w W' bo b s G F ((c,o)::L):=⟨h.nb.alloc hl R hb,(hb.block _ (Row.lt h.ro)).trans h.ro,h.rf,h.rl⟩
theorem Mm.turn(h:Mm w W bo b s G F L)(i:Nat){cs':Array Value}(hi:L[i]?=some (c,ob t cs))(R:Row t W' c cs')(T:qbl c W W'):Mm w W' bo b s G F (L.set i (c,ob t cs')):=
 ⟨h.nb.turn i hi R T,T.row h.ro (fun e=>by have:=(h.nb.rows _ (List.mem_of_getElem? hi)).2.1;have:=h.rl;simp only at *;omega),h.rf,h.rl⟩
theorem Mm.call(h:Mm w W bo b s G F L){s':Nt}{F':Nat->Prop}(hn:qaw W' b s' (duF s'.fs) F')(hg:Gr F W W')(hF:∀c,F' c->F c\/W.heap.size<=c):Mm w W' bo b s' G (fun c=>F' c/\c<W'.heap.size) L:=
 ⟨h.nb.call hn hg hF,(hg.block _ (Row.lt h.ro) h.rf).trans h.ro,fun hc=>(hF _ hc.1).elim h.rf (fun h2=>by have:=Row.lt h.ro;omega),h.rl⟩
theorem Mm.turnX(h:Mm w W bo b s G F L)(T:qbl c W W')(h1:w.heap.size<=c)(h2:¬F c)(h3:c ∉ L.map (·.1)):Mm w W' bo b s G F L:=
 ⟨h.nb.turnX T h1 h2 h3,T.row h.ro (fun e=>by have:=h.rl;omega),h.rf,h.rl⟩
end
structure Cw(W:World)(v:Value)(n:Nat)(u:Value)(m:Nat):Prop where
 om:OwnM W v n
 of:OwnF W u m
section
variable {W W':World} {v u:Value} {n m:Nat}
theorem Cw.below(h:Cw W v n u m)(hb:Below W.heap.size W W'):Cw W' v n u m:=⟨h.om.below hb,h.of.below hb⟩
theorem Cw.drew(h:Cw W v n u m):Cw W.drew v n u m:=h.below (Below.refl _ _).drew
theorem Cw.turn(h:Cw W v n u m)(T:qbl c W W')(h1:0<n->mb v≠c)(h2:0<m->eb u≠c):Cw W' v n u m:=⟨h.om.turn T h1,h.of.turn T h2⟩
theorem Cw.call{F:Nat->Prop}(h:Cw W v n u m)(hg:Gr F W W')(h1:0<n->¬F (mb v))(h2:0<m->¬F (eb u)):Cw W' v n u m:=⟨h.om.keep (fun h0=>hg.block _ (h.om.lt h0) (h1 h0)),h.of.keep (fun h0=>hg.block _ (h.of.lt h0) (h2 h0))⟩
end
theorem qhrb{ops:Array Oper}{rest:List Oper}{o:Oper}{a:Act}{Q:Exit->Act->World->Prop}{b:Nat}(R:Row t w b cs)(hgd:o.guard=none)(x:Operand)(n:Int)(ho:o.op=.store 3 x (.const (I Z n)))(f:Nat)(hx:a.eval x=V (some ⟨b,f,none⟩))(hf:f<cs.size)(hr:∀w',Row t w' b (cs.setIfInBounds f (I Z n))->qbl b w w'->wpList prog ops Q rest (a.put o.dst undef) w'):wpList prog ops Q (o::rest) a w:=
 wpList_plain hgd fun K hK=>by
  have hcell:=(R.cell f).trans (Array.getElem?_eq_getElem hf);have hfr:=R.free f;have hz:a.eval (.const (I Z n))=I Z n:=rfl
  unfold Oper.wp execOp
  simp only[ho,hx,hz]
  simp[go_sem,hcell,hfr,underlying3]
  exact hK _ _ (hr _ R.set (qfx _ _ _ _))
end Go.Proofs.YtonnjgmognbnbaaGreatDoor
