/-
  Of what a law stands on.
-/
import Derived.Test.YtnkpgdejagglaaaGreatDoorZyn10
set_option linter.all false
namespace Go.Proofs.YtnkpgdejagglaaaGreatDoor
open _root_.Go renaming Operand->aU,Value->ag,World->af,wpList->aM,wpList_plain->bP
open _root_.Go.World renaming cell?->cS,ownsRow_nil->oy
open _root_.List renaming flatMap_append->nD,length_append->aY,length_cons->bU,map_cons->aB,map_nil->aI,map_toArray->dx
open _root_.Nat renaming le_refl->au,zero_add->bX
open Go.Value renaming int → I,pointer → V
open Go.IntKind renaming i64 → Z
open _root_.Go.Proofs.Tryz Go.ChangeShapes Go.WideShapes Go.ChangeAt Go.RowKit
set_option maxHeartbeats 16000000
set_option maxRecDepth 100000
variable {w w':World}{b base:Nat}{tm:Int->Option Int}{F:Nat->Prop}{v:Value}{p:Prop}{k:Fl}{ops:Array Oper}{rest:List Oper}{o:Oper}{a:Act}{Q:Exit->Act->World->Prop}{es:List Ac}
section
open Go.Maps
def qj(w:af)(base:Nat)(v:ag)(ks:List Fl):Prop:=w.ownsRow base 75 10 v ks.length (ks.flatMap fun k=>(fc k).toList)
def qj.nil(w:af)(base:Nat):qj w base (.slice none 0 0) []:=oy w base 75 10
def qj.keep{ks:List Fl}(h:qj w base v ks)(hk:∀g,v.ownBlock=some g->w'.heap[g]?=w.heap[g]?):qj w' base v ks:=yy h hk
def qj.ge{ks:List Fl}(h:qj w base v ks):∀k,v.ownBlock=some k->base<=k/\k<w.heap.size:=fun k hk=>World.ownsRow.lt h k hk
def qj.below{ks:List Fl}(h:qj w base v ks)(hb:Below w.heap.size w w'):qj w' base v ks:=h.keep (fun g hg=>hb.block g (h.ge g hg).2)
def xx(h:p:=by
 rcases h.2 with⟨e,n0⟩|⟨b,cap,cur,hv,_⟩
 .exact⟨none,0,by rw[e,n0]⟩
 .exact⟨_,_,hv⟩):p:=h
def qj.slice{ks:List Fl}(h:qj w base v ks):∃a cap,v=.slice a ks.length cap:=by
 exact xx
def qzr:(prog.info? 75).map (fun i=>(i.zero,i.size,i.bytes))=some (some (.agg (fc uo)),10,80):=by kernel_rfl
theorem q2k(k:Fl)(w:af):(Instr.buildSlice 43 1 #[(0,.agg (fc k))]).run prog w=.ok (.slice (some ⟨w.heap.size,0,none⟩) 1 1) (w.alloc (.cells (fc k) 75)):=by
 obtain⟨a,b,c,d,e,f,g,h,i,j⟩:=k
 kernel_rfl
def xy(h:p:=by
 unfold Oper.wp execOp
 simp only[ho,resolve,invoke,builtin,Sem.run_bind,Sem.run_pure,Result.andThen_ok,List.map_toArray,List.map_cons,List.map_nil,hs,hx,h1]
 exact hK _ _ (hr v' w' h2 h3)):p:=h
def qz1{w0:af}{v':ag}(hb:Below w0.heap.size w0 w)(hg:dC v v' w w')(hv:∀k,v.ownBlock=some k->w0.heap.size<=k):Below w0.heap.size w0 w':=
 hb.trans ⟨hg.ii.os,hg.ii.tape,hg.ii.output,hg.ii.size,fun k hk=>hg.ii.block k (Nat.lt_of_lt_of_le hk hb.size) (fun e=>by have:=hv k e.symm;omega)⟩
def rk(k:Ac):List ag:=[I Z k.kd,I Z k.n,I Z k.dr,.string k.fr]
def eX(w:af)(sl:ag)(es:List Ac):Prop:=
 ∃a cap,sl=.slice a es.length cap/\(0<es.length->a=some ⟨eb sl,eo sl,none⟩)/\(∀j (hj:j<es.length),w.rangeAt (eb sl) (eo sl+4*j) (rk es[j]))/\es.length<=4398046511104
def eX.lt{sl:ag}(h:eX w sl es)(hl:0<es.length):eb sl<w.heap.size:=by
 obtain⟨a,cap,e,h1,h2,h3⟩:=h
 have:=h2 0 hl 0 _ rfl
 unfold cS at this
 by_cases hlt:eb sl<w.heap.size
 .exact hlt
 .have h3:w.heap[eb sl]?=none:=Array.getElem?_eq_none om
  simp[h3] at this
def eX.keep{sl:ag}{B:Nat}(h:eX w sl es)(hb:Below B w w')(hlt:0<es.length->eb sl<B):eX w' sl es:=by
 obtain⟨a,cap,e,h1,h2,h3⟩:=h
 refine⟨a,cap,e,h1,fun j hj i v hv=>?_,h3⟩
 have:=h2 j hj i v hv
 unfold cS at *
 rw[hb.block _ (hlt om)]
 exact this
def eX.below{sl:ag}(h:eX w sl es)(hb:Below w.heap.size w w'):eX w' sl es:=h.keep hb h.lt
theorem eX.len{sl:ag}(h:eX w sl es):es.length<=4398046511104:=by
 obtain⟨a,cap,e,h1,h2,h3⟩:=h
 exact h3
theorem eX.at{sl:ag}(h:eX w sl es)(j:Nat)(hj:j<es.length){e:Ac}(he:es[j]=e):w.rangeAt (eb sl) (eo sl+4*j) (rk e):=by
 obtain⟨a,cap,_,h1,h2,h3⟩:=h
 rw[←he];exact h2 j hj
def eX.slice{sl:ag}(h:eX w sl es):∃a cap,sl=.slice a es.length cap:=by
 obtain⟨a,cap,e,_⟩:=h
 exact⟨a,cap,e⟩
def eX.index{sl:ag}(h:eX w sl es)(j:Nat)(hj:j<es.length)(w2:af):(Instr.indexAt 22 sl (I Z (j:Int))).run prog w2=.ok (V (some ⟨eb sl,eo sl+4*j,none⟩)) w2:=by
 obtain⟨a0,cap,e,h1,h2,h3⟩:=h;have e1:=h1 om
 generalize eb sl=B at *
 generalize eo sl=O at *
 subst e1
 subst e
 (have hn:((j:Int)).toNat<es.length:=by simpa using hj);(have iu:(j:Int)<(es.length:Int):=by omega);(have hs:(sizeOf 32).run prog w2=.ok 4 w2:=by kernel_rfl)
 simp[go_sem,hj,hn,iu,underlying22,hs]
def eX.ib{sl:ag}(h:eX w sl es)(hg:Gr F w w')(hn:0<es.length->¬F (eb sl)):eX w' sl es:=by
 have hlt:=h.lt;obtain⟨a,cap,e,h1,h2,h3⟩:=h
 refine⟨a,cap,e,h1,fun j hj i v hv=>?_,h3⟩
 have:=h2 j hj i v hv
 unfold cS at *
 rw[hg.block _ (hlt om) (hn om)]
 exact this
def Nt.runs(s:Nt)(l:List Ac):Nt:=l.foldl (fun s a=>(s.act a).2) s
theorem qih(s:Nt)(l:List Ac)(a:Ac):s.runs (l++[a])=((s.runs l).act a).2:=by unfold Nt.runs;rw[List.foldl_append];rfl
def kh.runs{s:Nt}{k:Nat}(h:kh s k)(l:List Ac)(hl:k+l.length<=300):kh (s.runs l) (k+l.length):=by
 induction l generalizing s k with
 | nil=>exact h
 | cons a r ih=>
  rw[bU] at hl ⊢
  have:=ih (h.act om a) om
  (rw[show k+(r.length+1)=k+1+r.length by omega])
  exact this
end
section
open Go.Maps
def nK(w:af)(base:Nat)(v:ag)(ks:List Rp):Prop:=w.ownsRow base 29 4 v ks.length (ks.flatMap fun k:Rp=>k.cells.toList)
def nK.nil(w:af)(base:Nat):nK w base (.slice none 0 0) []:=oy w base 29 4
def nK.keep{ks:List Rp}(h:nK w base v ks)(hk:∀g,v.ownBlock=some g->w'.heap[g]?=w.heap[g]?):nK w' base v ks:=yy h hk
def nK.ge{ks:List Rp}(h:nK w base v ks):∀k,v.ownBlock=some k->base<=k/\k<w.heap.size:=fun k hk=>World.ownsRow.lt h k hk
def nK.below{ks:List Rp}(h:nK w base v ks)(hb:Below w.heap.size w w'):nK w' base v ks:=h.keep (fun g hg=>hb.block g (h.ge g hg).2)
def nK.slice{ks:List Rp}(h:nK w base v ks):∃a cap,v=.slice a ks.length cap:=by
 exact xx
end
end Go.Proofs.YtnkpgdejagglaaaGreatDoor
