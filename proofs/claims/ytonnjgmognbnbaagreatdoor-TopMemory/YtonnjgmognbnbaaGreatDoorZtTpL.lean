/-
  Of what a law stands on.
-/
import Derived.Test.YtonnjgmognbnbaaGreatDoorZtn10
set_option linter.unusedSimpArgs false
set_option linter.unusedVariables false
namespace Go.Proofs.YtonnjgmognbnbaaGreatDoor
open Go.Value renaming int → I,pointer → V
open Go.IntKind renaming i64 → Z
open _root_.Go.Proofs.Tryz Go.ChangeShapes Go.WideShapes Go.ChangeAt Go.RowKit Go.Maps
set_option maxHeartbeats 16000000
set_option maxRecDepth 100000
variable {w w':World}{sl v:Value}{ks:List Fl}{base:Nat}
def fcl(k:Fl):List Value:=(fc k).toList
theorem qamb(k:Fl):(fcl k).toArray=fc k:=by unfold fcl;simp
theorem quj(k:Fl):(prog.info? 52).map (·.size)=some (fcl k).length:=by kernel_rfl
theorem q95(k:Fl)(w:World):(Op.equalIn 10000 52 (.agg (fcl k).toArray) (.agg (fcl k).toArray)).run prog w=.ok true w:=by rw[qamb];exact q7u k w
def FlAt(w:World)(sl:Value)(ks:List Fl):Prop:=
 ∃a cap,sl=.slice a ks.length cap/\(0<ks.length->a=some ⟨eb sl,eo sl,none⟩)/\(∀j (hj:j<ks.length),w.rangeAt (eb sl) (eo sl+10*j) (fcl ks[j]))/\ks.length<=100000
theorem FlAt.lt(h:FlAt w sl ks)(hl:0<ks.length):eb sl<w.heap.size:=by
 obtain⟨a,cap,e,h1,h2,h3⟩:=h
 have:=h2 0 hl 0 _ rfl
 unfold World.cell? at this
 by_cases hlt:eb sl<w.heap.size
 ·exact hlt
 ·have h3:w.heap[eb sl]?=none:=Array.getElem?_eq_none om
  simp[h3] at this
theorem FlAt.keep{B:Nat}(h:FlAt w sl ks)(hb:Below B w w')(hlt:0<ks.length->eb sl<B):FlAt w' sl ks:=by
 obtain⟨a,cap,e,h1,h2,h3⟩:=h
 refine⟨a,cap,e,h1,fun j hj i v hv=>?_,h3⟩
 have:=h2 j hj i v hv
 unfold World.cell? at *
 rw[hb.block _ (hlt om)]
 exact this
theorem FlAt.below(h:FlAt w sl ks)(hb:Below w.heap.size w w'):FlAt w' sl ks:=h.keep hb h.lt
theorem FlAt.at(h:FlAt w sl ks)(j:Nat)(hj:j<ks.length){e:Fl}(he:ks[j]=e):w.rangeAt (eb sl) (eo sl+10*j) (fcl e):=by
 obtain⟨a,cap,_,h1,h2,h3⟩:=h
 rw[←he];exact h2 j hj
theorem FlAt.slice(h:FlAt w sl ks):∃a cap,sl=.slice a ks.length cap:=by
 obtain⟨a,cap,e,_⟩:=h
 exact⟨a,cap,e⟩
theorem FlAt.len(h:FlAt w sl ks):ks.length<=100000:=by
 obtain⟨a,cap,e,h1,h2,h3⟩:=h
 exact h3
theorem FlAt.index(h:FlAt w sl ks)(j:Nat)(hj:j<ks.length)(w2:World):(Instr.indexAt 41 sl (I Z (j:Int))).run prog w2=.ok (V (some ⟨eb sl,eo sl+10*j,none⟩)) w2:=by
 obtain⟨a0,cap,e,h1,h2,h3⟩:=h;have e1:=h1 om
 generalize eb sl=B at *
 generalize eo sl=O at *
 subst e1
 subst e
 (have hn:((j:Int)).toNat<ks.length:=by simpa using hj);(have hjl:(j:Int)<(ks.length:Int):=by omega);(have hs:(sizeOf 52).run prog w2=.ok 10 w2:=by kernel_rfl)
 simp[go_sem,hj,hn,hjl,underlying41,hs]
theorem FlAt.keepGr{F:Nat->Prop}(h:FlAt w sl ks)(hg:Gr F w w')(hn:0<ks.length->¬F (eb sl)):FlAt w' sl ks:=by
 have hlt:=h.lt;obtain⟨a,cap,e,h1,h2,h3⟩:=h
 refine⟨a,cap,e,h1,fun j hj i v hv=>?_,h3⟩
 have:=h2 j hj i v hv
 unfold World.cell? at *
 rw[hg.block _ (hlt om) (hn om)]
 exact this
theorem quw{α:Type}(g:α->List Value)(c:Nat)(hg:∀x,(g x).length=c):∀(l:List α) (j i:Nat) (hj:j<l.length) (_:i<c),(l.flatMap g)[c*j+i]?=(g l[j])[i]?
 | [],_,_,hj,_=>absurd hj zm
 | x::r,0,i,hj,hi=>by rw[List.flatMap_cons,List.getElem?_append_left (by rw[hg];omega)];simp
 | x::r,j+1,i,hj,hi=>by
  rw[List.flatMap_cons,List.getElem?_append_right (by rw[hg,Nat.mul_succ];omega),hg,show c*(j+1)+i-c=c*j+i by rw[Nat.mul_succ];omega,quw g c hg r j i (by simpa using hj) hi]
  rfl
theorem FlO.at(h:FlO w base v ks)(hl:ks.length<=100000):FlAt w v ks:=by
 rcases h.2 with⟨e,n0⟩|⟨b,cap,cur,hv,hbb,hh,hnc,hcm,hcs,ht⟩
 ·have:ks=[]:=List.eq_nil_of_length_eq_zero n0
  subst this
  exact⟨none,0,e,fun h=>absurd h zm,fun j hj=>absurd hj zm,by simp⟩
 ·subst hv
  refine⟨_,_,rfl,fun _=>rfl,fun j hj i u hu=>?_,hl⟩
  (have hi5:i<10:=by have:=(List.getElem?_eq_some_iff.1 hu).1;simpa[fcl,fc] using this)
  show w.cell? ⟨b,0+10*j+i,none⟩=some u
  (have e:=(quw (fun k=>(fc k).toList) 10 (fun k=>rfl) ks j i hj hi5).trans hu)
  rw[←ht,List.getElem?_take_of_lt om] at e
  simp only[World.cell?,hh,Nat.zero_add]
  simpa using e
theorem FlO.fresh(h:FlO w base v ks)(hl:0<ks.length):base<=eb v:=by
 rcases h.2 with⟨e,n0⟩|⟨b,cap,cur,hv,hbb,hh,hnc,hcm,hcs,ht⟩
 ·omega
 ·subst hv
  exact(h.ge b rfl).1
theorem qme(sl sl2:Value)(ks:List Fl)(w:World)(hM:FlAt w sl ks)(hM2:FlAt w sl2 ks):Calls prog 40 #[sl,sl2] w fun e w'=>e=.returned (.bool true)/\Below w.heap.size w w':=by
 refine m2a ?_;intro hB;have hlt:=hM.lt;have hlt2:=hM2.lt;obtain⟨a0,cap,hsl⟩:=hM.slice;obtain⟨a1,c1,hsl2⟩:=hM2.slice
 obtain⟨n,hn⟩:∃n,n=ks.length:=⟨_,rfl⟩
 rw[←hn] at hsl hsl2
 subst hsl hsl2
 have HN:Hid (n=ks.length):=hn;have HL:Hid (n<=100000):=hidN (by have:=hM.len;omega);(have hnn:((n:Int) != (n:Int))=false:=by simp);clear hn
 go_enter func40,ntmps40
 go_wp2_with fail
 go_loopw [5] (fun i W=>∃j:Nat,j<=n/\i=I Z j/\Below w.heap.size w W) (fun i _=>n-(intOf i).toNat)
 case atStart=>exact⟨0,Nat.zero_le _,rfl,hB⟩
 case round=>
  clear hB
  obtain⟨j,hj,rfl,hB⟩:=hrel
  by_cases hlj:j<n
  ·(have hjn:(j:Int)<(n:Int):=by omega);(have hjl:j<ks.length:=by have:=HN.out;omega);have HM:=qha hlj;have hjw:=qhl (p:=j) (by have:=HL.out;omega)
   obtain⟨o,hm⟩:∃o,ks[j]=o:=⟨_,rfl⟩
   have r2:=(hM.keep hB hlt).at j hjl hm;have r3:=(hM2.keep hB hlt2).at j hjl hm;(have I2:=fun w2=>hM.index j hjl w2);(have I3:=fun w2=>hM2.index j hjl w2);have kS:=And.intro r2 r3;clear hm r2 r3
   go_upto_region 6 with fail
   refine RD (fun W=>W.rangeAt (eb (.slice a0 n cap)) (eo (.slice a0 n cap)+10*j) (fcl o)/\W.rangeAt (eb (.slice a1 n c1)) (eo (.slice a1 n c1)+10*j) (fcl o)) kS (fun _=>?_)
   refine tq 0 (.slice a0 n cap) rfl kS (tq 1 (I Z (j:Int)) rfl kS (tk 2 (V (some ⟨eb (.slice a0 n cap),eo (.slice a0 n cap)+10*j,none⟩)) rfl (qgk 41 (.tmp 17) (.tmp 18) rfl kr _ _ _ kr kr I2) kS ?_));refine m5i ?_
   refine tk 3 (.agg (fcl o).toArray) rfl (qgw 52 (.tmp 19) rfl kr _ _ kr (fcl o) (fun _ h=>h.1) _ underlying52 rfl (quj o)) kS (tq 4 (.slice a1 n c1) rfl kS (tq 5 (I Z (j:Int)) rfl kS ?_))
   refine m5i ?_
   refine tk 6 (V (some ⟨eb (.slice a1 n c1),eo (.slice a1 n c1)+10*j,none⟩)) rfl (qgk 41 (.tmp 21) (.tmp 22) rfl kr _ _ _ kr kr I3) kS (tk 7 (.agg (fcl o).toArray) rfl (qgw 52 (.tmp 23) rfl kr _ _ kr (fcl o) (fun _ h=>h.2) _ underlying52 rfl (quj o)) kS (tk 8 (.bool false) rfl (qry 52 (.tmp 20) (.tmp 24) rfl kr (fcl o).toArray (fcl o).toArray kr kr eqGuardType52 _ _ (fun w=>q95 o w) zm) kS ?_))
   refine m1f ?_;replace hB:=qpv hB
   go_wp2
   go_roundw
   case rel=>first|exact⟨j+1,by omega,by go_num,hB⟩|((repeat apply Exists.intro);exact⟨⟨j+1,by omega,by go_num,hB⟩,rfl⟩)
   case measure=>first|exact HM.out|(rw[hjw];exact HM.out)
  ·(have hjn:¬(j:Int)<(n:Int):=by omega);clear hj hlj
   go_wp2_with fail
   go_ret
   exact⟨rfl,hB⟩
end Go.Proofs.YtonnjgmognbnbaaGreatDoor
