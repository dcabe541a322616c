/-
  Of what a law stands on.
-/
import Derived.Test.YtonnjgmognbnbaaGreatDoorZtn10
set_option linter.unusedSimpArgs false
set_option linter.unusedVariables false
namespace Go.Proofs.YtonnjgmognbnbaaGreatDoor
open _root_.Go.Proofs.Tryz Go.ChangeShapes Go.WideShapes Go.ChangeAt Go.RowKit
set_option maxHeartbeats 16000000
set_option maxRecDepth 100000
variable {H:Type}{w:World}{sp:Nat->Bool}{held:Bool}{fuel:Nat}{l:List Value}
theorem qmb{P:Program}{e:TypeId}:∀ {l:List (DataW H)} {d:DataW H},d∈l->∀n∈d.weights P e,n∈DataW.weightsAll P e l
 | [],_,h,_,_=>by cases h
 | x::r,d,h,n,hn=>by
  simp only[DataW.weightsAll,List.mem_append]
  rcases List.mem_cons.1 h with rfl|h
  ·exact .inl hn
  ·exact .inr (qmb h n hn)
theorem qr2{enc:TypeId×Value->H}{base:Nat}{x:DataW H×List MemPlace}(hl0:l.length=4)(hf0:DataW.trod enc prog w base sp held fuel 23 l=some x)(hw:∀y∈x.1.weights prog 23,y<=reachBytes):∃k:Ac,l=acl k/\k.ok:=by
 refine m8p ?_;intro hcI hcS
 obtain⟨ys,m,_,hx,_,hl,hf⟩:=DataW.trod_struct underlying23 hf0
 match l,hl0 with
 | [c0,c1,c2,c3],_=>
 match ys,hl with
 | [y0,y1,y2,y3],_=>
 have hy0:=hf 0 _ rfl;have hy1:=hf 1 _ rfl;have hy2:=hf 2 _ rfl;have hy3:=hf 3 _ rfl
 simp[hcI,hcS] at hy0 hy1 hy2 hy3
 obtain⟨n0,e0,rfl,s0⟩:=DataW.trod_int underlying3 hy0
 obtain⟨n1,e1,rfl,s1⟩:=DataW.trod_int underlying3 hy1
 obtain⟨n2,e2,rfl,s2⟩:=DataW.trod_int underlying3 hy2
 obtain⟨n3,e3,rfl,s3⟩:=DataW.trod_string underlying9 hy3
 simp at e0 e1 e2 e3
 subst e0 e1 e2 e3
 subst hx
 refine⟨⟨n0,n1,n2,n3⟩,rfl,s0,s1,s2,?_⟩
 have:=hw n3.data.toList.length (by simp[DataW.weights,DataW.weightsEach,underlying23])
 simpa[reachBytes] using this
def AcIn(w:World)(sl:Value)(es:List Ac):Prop:=AcAt w sl es/\∀k∈es,k.ok
theorem qik{enc:TypeId×Value->H}{x:DataW H×List MemPlace}(hf0:DataW.trod enc prog w 0 sp held fuel 44 l=some x)(hw:∀y∈x.1.weights prog 44,y<=reachBytes):∃sl,∃es:List Ac,l=[sl]/\AcIn w sl es:=by
 (have c4:prog.cellsOf 23=4:=by kernel_rfl);(have hby:prog.bytesOf 23=40:=by kernel_rfl)
 rcases Go.Deep.open_slice underlying44 hf0 with⟨rfl,rfl⟩|⟨a,len,cap,m,n,D,Pl,rfl,hb,hl,hm,hmm,rfl,hx⟩
 ·exact⟨_,[],rfl,⟨none,0,rfl,fun h=>absurd h zm,fun j hj=>absurd hj zm,by simp⟩,fun k hk=>absurd hk zm⟩
 ·(have hlm:len<=m:=by rw[hmm];split<;>omega)
  have hbd:len<=4398046511104:=by
   have h1:=hw _ (by simp only[DataW.weights,underlying44];exact List.mem_cons_self)
   rw[hby] at h1
   simp[reachBytes] at h1
   omega
  have hwi:∀i,i<len->∀y∈(D i).weights prog 23,y<=reachBytes:=by
   intro i hi y hy;refine hw y ?_
   simp only[DataW.weights,underlying44]
   exact List.mem_cons_of_mem _ (List.mem_append.2 (.inl (qmb (List.mem_map.2 ⟨i,List.mem_range.2 hi,rfl⟩) y hy)))
  have each:∀i,i<len->∃q:Ac,q.ok/\∀k v,(acl q)[k]?=some v->w.cell? (a.add (4*i+k))=some v:=by
   intro i hi;obtain⟨cs',h1,h2⟩:=hx i om
   rw[c4] at h1
   obtain⟨_,hlen,hcell⟩:=World.cells?_some h1
   obtain⟨q,rfl,hq⟩:=qr2 hlen h2 (hwi i hi)
   refine⟨q,hq,fun k v hv=>?_⟩
   (have hk:k<4:=by have:=(List.getElem?_eq_some_iff.1 hv).1;simpa[acl] using this)
   have:=hcell k hk
   rw[Go.Deep.add_add,Nat.mul_comm i 4] at this
   first|exact this.trans hv|(rw[this];simpa using hv)
  haveI:Inhabited Ac:=⟨⟨0,0,0,ByteArray.empty⟩⟩
  obtain⟨q,hq⟩:=Go.Deep.choose_lt each
  have hsp:0<len->a=⟨a.block,a.off,none⟩:=by
   intro h0
   have:=(hq 0 h0).2 0 _ rfl
   obtain⟨b,off,spot⟩:=a;(have hspot:spot=none:=by simpa[Addr.add] using World.cell?_spot this)
   subst hspot
   rfl
  refine⟨_,(List.range len).map q,rfl,⟨some a,cap,by simp,fun h0=>?_,fun j hj k v hv=>?_,by simpa using hbd⟩,fun k hk=>?_⟩
  ·rw[hsp (by simpa using h0)];rfl
  ·(have hj':j<len:=by simpa using hj);(have e1:((List.range len).map q)[j]=q j:=by simp)
   rw[e1] at hv
   have:=(hq j hj').2 k v hv
   rw[hsp om,Addr.add_lit] at this
   show w.cell? ⟨a.block,a.off+4*j+k,none⟩=some v
   rw[Nat.add_assoc]
   exact this
  ·obtain⟨i,hi,rfl⟩:=List.mem_map.1 hk
   exact(hq i (List.mem_range.1 hi)).1
end Go.Proofs.YtonnjgmognbnbaaGreatDoor
