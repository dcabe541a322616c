/-
  Of what a law stands on.
-/
import Derived.Test.YtnicenfgemkdnaaGreatDoorZxd3
set_option linter.unusedSimpArgs false
set_option linter.unusedVariables false
namespace Go.Proofs.YtnicenfgemkdnaaGreatDoor
open _root_.Go.Proofs.Tryz
set_option maxHeartbeats 16000000
set_option maxRecDepth 100000
open Go.ChangeShapes Go.WideShapes Go.ChangeAt Go.RowKit
theorem q5r{w w':World}{base:Nat}{v:Value}{l:List Nat}(h:Plc w base v l)(hb:Below w.heap.size w w'):Plc w' base v l:=qst h hb
def pl2(n:Nat):List Value:=[.int .i64 ((n/6:Nat):Int),.int .i64 ((n%6:Nat):Int)]
theorem q8v(l:List Nat)(j i:Nat)(hj:j<l.length)(hi:i<2):(plc l)[2*j+i]?=(pl2 l[j])[i]?:=by
 induction l generalizing j with
 | nil=>simp at hj
 | cons m r ih=>
  have e:plc (m::r)=pl2 m++plc r:=by unfold plc pl2;rw[List.flatMap_cons]
  rw[e]
  cases j with
  | zero=>rw[List.getElem?_append_left (by simp[pl2];omega)];simp
  | succ j=>
   rw[List.getElem?_append_right (by simp[pl2];omega)]
   have:2*(j+1)+i-(pl2 m).length=2*j+i:=by simp[pl2];omega
   rw[this,ih j (by simpa using hj)]
   simp
theorem Plc.at{w:World}{base:Nat}{v:Value}{l:List Nat}(h:Plc w base v l)(j:Nat)(hj:j<l.length){n:Nat}(hn:l[j]=n):w.rangeAt (mb v) (2*j) (pl2 n):=by
 rcases h.2 with⟨e,n0⟩|⟨b,cap,cur,hv,hbb,hh,hnc,hcm,hcs,ht⟩
 ·omega
 ·have hc:=World.ownsRow.cells h (g:=b) (by rw[hv];rfl)
  intro i u hu
  have hi:i<2:=(List.getElem?_eq_some_iff.1 hu).1
  have hg:=q8v l j i hj hi
  rw[hn,hu] at hg
  have:=hc _ _ hg
  rw[Addr.add_lit] at this
  rw[hv]
  simpa[mb] using this
theorem qua{ops:Array Oper}{rest:List Oper}{o:Oper}{a:Act}{w:World}{Q:Exit->Act->World->Prop}(hgd:o.guard=none)(x y:Operand)(ho:o.op=.indexAddr 134 x y)(base:Nat)(v:Value)(l:List Nat)(hP:Plc w base v l)(hx:a.eval x=v)(j:Nat)(hy:a.eval y=.int .i64 (j:Int))(hj:j<l.length)(hr:wpList prog ops Q rest (a.put o.dst (.pointer (some ⟨mb v,2*j,none⟩))) w):wpList prog ops Q (o::rest) a w:=
 wpList_plain hgd fun K hK=>by
  rcases hP.2 with⟨e,n0⟩|⟨b,cap,cur,hv,hbb,hh,hnc,hcm,hcs,ht⟩
  ·omega
  ·subst hv
   have hn:((j:Int)).toNat<l.length:=by simpa using hj
   have hjl:(j:Int)<(l.length:Int):=by omega
   have hs:(sizeOf 97).run prog w=.ok 2 w:=by kernel_rfl
   have hrun:(Instr.indexAt 134 (.slice (some ⟨b,0,none⟩) l.length cap) (.int .i64 (j:Int))).run prog w=.ok (.pointer (some ⟨b,2*j,none⟩)) w:=by
    simp[go_sem,hj,hn,hjl,underlying134,hs]
   unfold Oper.wp execOp
   simp only[ho,hx,hy,Sem.run_bind,hrun,Result.andThen_ok,Sem.run_pure]
   exact hK _ _ hr
def unS:Option (Nat×Nat)->Value
 | some x=>.tuple #[.int .i64 (qe5 x.1 x.2),.bool true]
 | none=>.tuple #[.int .i64 0,.bool false]
theorem q6n(n:Nat):(prog.info? 97).map (·.size)=some (pl2 n).length:=by kernel_rfl
theorem qq5(ms:List Mp)(p a q:Int):qk7 ms p a q=(ms.find? (outS p a q)).isSome:=by
 unfold qk7;rw[List.isSome_find?]
theorem qyq{ms:List Mp}{p:Int}{n i:Nat}(hi:i<8)(hb:∀i',i'<i->qk7 ms p ((n/6:Nat):Int) (qe5 n i')=true)(hu:qk7 ms p ((n/6:Nat):Int) (qe5 n i)=false):qie ms p n=some i:=by
 unfold qie
 rw[List.find?_range_eq_some]
 exact⟨by rw[hu];rfl,List.mem_range.2 hi,fun j hj=>by rw[hb j hj];rfl⟩
theorem qxj{ms:List Mp}{p:Int}{n:Nat}(hb:∀i',i'<8->qk7 ms p ((n/6:Nat):Int) (qe5 n i')=true):qie ms p n=none:=by
 unfold qie
 rw[List.find?_eq_none]
 intro i hi
 rw[hb i (List.mem_range.1 hi)];simp
theorem qqj{ms:List Mp}{p:Int}{l:List Nat}{j n i:Nat}(hlj:j<l.length)(hn:l[j]=n)(h:qie ms p n=some i):qcy ms p (l.drop j)=some (n,i):=by
 rw[List.drop_eq_getElem_cons hlj,hn];unfold qcy;rw[h]
theorem qpp{ms:List Mp}{p:Int}{l:List Nat}{j n:Nat}(hlj:j<l.length)(hn:l[j]=n)(h:qie ms p n=none):qcy ms p (l.drop j)=qcy ms p (l.drop (j+1)):=by
 rw[List.drop_eq_getElem_cons hlj,hn]
 conv=>lhs;unfold qcy
 rw[h]
theorem q0y(f:Nat->Int)(g:Nat->Bool)(h:Nat->Int)(sl:Value)(ms:List Mp)(p:Int)(base:Nat)(v:Value)(l:List Nat)(w:World)(hM:qaz w sl ms)(hP:Plc w base v l)(hl18:l.length<=18):
  Calls prog 186 #[.agg (tc f g h sl),.int .i64 p,v] w fun e w'=>e=.returned (unS (qcy ms p l))/\Below w.heap.size w w':=by
 have hB:=Below.refl w.heap.size w
 have hM0:=hM
 obtain⟨a0,cap,hsl,-⟩:=hM0
 obtain⟨n,hn⟩:∃n,n=ms.length:=⟨_,rfl⟩
 rw[←hn] at hsl
 subst hsl
 have HN:Hid (n=ms.length):=hn
 clear hn
 have hlt:=hM.lt
 obtain⟨a1,c1,hv⟩:=hP.slice
 obtain⟨L,hL⟩:∃L,L=l.length:=⟨_,rfl⟩
 rw[←hL] at hv
 subst hv
 have HL:Hid (L=l.length):=hL
 clear hL
 go_enter func186,ntmps186
 go_wp2_with (refine bx 39 _ _ ?_;intro bT w1 lT RT hb1;replace lT:=Nat.le_trans hB.size lT;replace hB:=hB.trans (hb1.mono hB.size))
 go_loopw [16] (fun i W=>∃j:Nat,j<=l.length/\i=.int .i64 j/\qcy ms p l=qcy ms p (l.drop j)/\Below w.heap.size w W/\Row 39 W bT (tc f g h (.slice a0 n cap))) (fun i _=>L-(intOf i).toNat)
 case atStart=>exact⟨0,by omega,rfl,by rw[List.drop_zero],hB,RT⟩
 case round=>
  clear hB RT hb1
  obtain⟨j,hj,rfl,hun,hB,RT⟩:=hrel
  by_cases hlj:j<l.length
  ·have hjn:(j:Int)<(L:Int):=by have:=HL.out;omega
   have hjw:wrap64 ((j:Int)+1)=(j:Int)+1:=by unfold wrap64;omega
   obtain⟨N,hN⟩:∃N,l[j]=N:=⟨_,rfl⟩
   have hPW:Plc _ base (.slice a1 L c1) l:=q5r hP hB
   have hrg:=hPW.at j hlj hN
   have HU:Hid (qcy ms p l=qcy ms p (l.drop j)):=hun
   clear hun
   have hN6:(0:Int)<=((N%6:Nat):Int):=by omega
   have hN6':((N%6:Nat):Int)<=6:=by omega
   obtain⟨kA,hkA⟩:∃kA:Int,Hid (kA=((N/6:Nat):Int)):=⟨_,rfl⟩
   obtain⟨kB,hkB⟩:∃kB:Int,Hid (kB=((N%6:Nat):Int)):=⟨_,rfl⟩
   rw[←hkB.out] at hN6 hN6'
   have C1:=fun w=>qkm kB hN6 hN6' w
   have hpi:(pl2 N).toArray=ic2 kA kB:=by rw[hkA.out,hkB.out];rfl
   go_wp2_with (first|(refine qua rfl (.tmp 14) (.tmp 16) rfl base (.slice a1 L c1) l hPW rfl j rfl hlj ?_)|(refine wpList_load_mid rfl 97 _ rfl _ _ rfl (pl2 N) _ hrg underlying97 rfl (q6n N) ?_;rw[hpi])|(refine ay 97 qcn ?_;intro b9 w3 l9 R9 hb3;have nT:=RT.ne l9;replace l9:=Nat.le_trans hB.size l9;replace RT:=RT.below hb3;replace hB:=hB.trans (hb3.mono hB.size))|(refine sx 97 _ _ (ic2 kA kB) R9 ?_;intro w4 R9 t4;replace RT:=t4.row RT nT;replace hB:=t4.below _ _ l9 hB))
   go_loopw [20] (fun i W=>∃k:Nat,k<=8/\i=.int .i64 k/\(∀i',i'<k->qk7 ms p ((N/6:Nat):Int) (qe5 N i')=true)/\Below w.heap.size w W/\Row 39 W bT (tc f g h (.slice a0 n cap))/\Row 97 W b9 (ic2 kA kB)) (fun i _=>8-(intOf i).toNat)
   case atStart=>exact⟨0,by omega,rfl,fun i' hi'=>absurd hi' om,hB,RT,R9⟩
   case round=>
    clear hB RT R9 hPW hrg
    obtain⟨k,hk,rfl,hused,hB,RT,R9⟩:=hrel
    by_cases hk8:k<8
    ·have d0:=p0B R9
     have d1:=p1 R9
     have hPQ:Hid (1024+kB*8+(k:Int)=qe5 N k):=by
      show _=_
      have:=hkB.out;unfold qe5;omega
     have CB:=fun w hM=>qqr f g h (.slice a0 n cap) ms p kA (1024+kB*8+(k:Int)) w hM
     cases hfd:ms.find? (outS p kA (1024+kB*8+(k:Int))) with
     | none=>
      have HF:Hid (qcy ms p l=some (N,k)):=by
       show _=_
       rw[HU.out]
       exact qqj hlj hN (qyq hk8 hused (by rw[qq5,←hPQ.out,←hkA.out,hfd];rfl))
      rw[hfd] at CB
      unfold qhw at CB
      clear hN hfd hused hpi
      go_wp2_with (first|(go_at_call 65;go_fit (C1 _);rintro e w' ⟨rfl,hw⟩;rw[hw];clear hw w')|(refine lx 39 _ (tc f g h (.slice a0 n cap)) RT ?_)|(go_at_call 31;go_fit (CB _ (hM.keep hB hlt));rintro e w5 ⟨rfl,hb5⟩;clear d0 d1;replace RT:=RT.below hb5;replace R9:=R9.below hb5;replace hB:=hB.trans (hb5.mono hB.size))|(refine ay 46 qa4 ?_;intro b12 w6 l12 R12 hb6;have nT2:=RT.ne l12;have n92:=R9.ne l12;replace l12:=Nat.le_trans hB.size l12;replace RT:=RT.below hb6;replace R9:=R9.below hb6;replace hB:=hB.trans (hb6.mono hB.size))|(refine sx 46 _ _ (mc noM) R12 ?_;intro w7 R12 t7;replace RT:=t7.row RT nT2;replace R9:=t7.row R9 n92;replace hB:=t7.below _ _ l12 hB))
      go_ret2
      exact⟨by rw[HF.out];show _=Ending.returned (.tuple #[.int .i64 (qe5 N k),.bool true]);rw[←hPQ.out];rfl,hB⟩
     | some mm=>
      have HF:Hid (∀i',i'<k+1->qk7 ms p ((N/6:Nat):Int) (qe5 N i')=true):=by
       show ∀i',_
       intro i' hi'
       by_cases e:i'=k
       ·subst e;rw[qq5,←hPQ.out,←hkA.out,hfd];rfl
       ·exact hused i' om
      rw[hfd] at CB
      unfold qhw at CB
      clear hfd hused hpi
      go_wp2_with (first|(go_at_call 65;go_fit (C1 _);rintro e w' ⟨rfl,hw⟩;rw[hw];clear hw w')|(refine lx 39 _ (tc f g h (.slice a0 n cap)) RT ?_)|(go_at_call 31;go_fit (CB _ (hM.keep hB hlt));rintro e w5 ⟨rfl,hb5⟩;clear d0 d1;replace RT:=RT.below hb5;replace R9:=R9.below hb5;replace hB:=hB.trans (hb5.mono hB.size))|(refine ay 46 qa4 ?_;intro b12 w6 l12 R12 hb6;have nT2:=RT.ne l12;have n92:=R9.ne l12;replace l12:=Nat.le_trans hB.size l12;replace RT:=RT.below hb6;replace R9:=R9.below hb6;replace hB:=hB.trans (hb6.mono hB.size))|(refine sx 46 _ _ (mc mm) R12 ?_;intro w7 R12 t7;replace RT:=t7.row RT nT2;replace R9:=t7.row R9 n92;replace hB:=t7.below _ _ l12 hB))
      go_roundw
      case rel=>exact⟨k+1,by omega,by go_num,HF.out,hB,RT,R9⟩
      case measure=>simp[intOf];omega
    ·have e:k=8:=by omega
     subst e
     have HF:Hid (qcy ms p l=qcy ms p (l.drop (j+1))):=by
      show _=_
      rw[HU.out]
      exact qpp hlj hN (qxj hused)
     clear hused hpi
     go_wp2
     go_roundw
     case rel=>exact⟨j+1,by omega,by go_num,HF.out,hB,RT⟩
     case measure=>(first|rw[hjw]|skip);exact qek (HL.out.symm▸hlj)
  ·have e:j=l.length:=by omega
   have hjn:(L:Int)<=(j:Int):=by have:=HL.out;omega
   have HF:Hid (qcy ms p l=none):=by
    show _=_
    rw[hun,e,List.drop_length];rfl
   clear e hj hlj hun
   go_wp2
   go_ret2
   exact⟨by rw[HF.out];rfl,hB⟩
theorem qxp(f:Nat->Int)(g:Nat->Bool)(h:Nat->Int)(sl:Value)(s d:Int)(hs0:0<=s)(hs8:s<8)(hh0:0<=h s.toNat)(hh3:h s.toNat<=3)(hd:(Lit.int .i64 d).wf=true)(w:World):
  Calls prog 187 #[.agg (tc f g h sl),.int .i64 s,.int .i64 d] w fun e w'=>e=.returned (.tuple #[.int .i64 (qdn f g h s d),.int .i64 (qgv f g h s)])/\Below w.heap.size w w':=by
 have hB:=Below.refl w.heap.size w
 have C:=fun w=>q6b f g d hd w
 unfold plv at C
 by_cases hz:h s.toNat=0
 ·have HA:Hid (qdn f g h s d=qkr f g d):=if_pos hz
  have HE:Hid (qgv f g h s=qk1 f g):=if_pos hz
  have dz:(h s.toNat != 0)=false:=by simp[hz]
  clear hz
  go_enter func187,ntmps187
  go_wp2_with (first|(refine bx 39 _ _ ?_;intro b3 w1 l3 R3 hb1;replace hB:=hB.trans (hb1.mono hB.size);have cH:w1.cell? ⟨b3,21+s.toNat,none⟩=some (.int .i64 (h s.toNat)):=(R3.cell _).trans (qhc f g h sl s.toNat om);have hrp:=R3.pool)|(refine wpList_load_mid rfl 35 _ rfl _ _ rfl _ _ hrp underlying35 rfl (qkh f g) ?_;rw[Array.toArray_toList])|(go_at_call 205;go_fit (C _);rintro e w5 ⟨rfl,hb5⟩;replace hB:=hB.trans (hb5.mono hB.size)))
  go_ret2
  exact⟨by rw[HA.out,HE.out];rfl,hB⟩
 ·have HA:Hid (qdn f g h s d=h s.toNat-1):=if_neg hz
  have HE:Hid (qgv f g h s=0):=if_neg hz
  have dz:(h s.toNat != 0)=true:=by simp[hz]
  have hw1:wrap64 (h s.toNat-1)=h s.toNat-1:=by unfold wrap64;omega
  clear hz
  go_enter func187,ntmps187
  go_wp2_with (refine bx 39 _ _ ?_;intro b3 w1 l3 R3 hb1;replace hB:=hB.trans (hb1.mono hB.size);have cH:w1.cell? ⟨b3,21+s.toNat,none⟩=some (.int .i64 (h s.toNat)):=(R3.cell _).trans (qhc f g h sl s.toNat om))
  go_ret2
  exact⟨by rw[HA.out,HE.out];rfl,hB⟩
def qc8(cs:Array Value):Nat->List Value->Array Value
 | _,[]=>cs
 | o,v::r=>qc8 (cs.setIfInBounds o v) (o+1) r
theorem Row.setAll{t:TypeId}{b:Nat}:∀(vs:List Value) (o:Nat) (w:World) (cs:Array Value),Row t w b cs->Row t (w.setCells b o vs) b (qc8 cs o vs)
 | [],_,_,_,h=>h
 | v::r,o,w,cs,h=>by unfold World.setCells qc8;exact Row.setAll r (o+1) _ _ h.set
theorem qi4(b:Nat):∀(vs:List Value) (o:Nat) (w:World),qbl b w (w.setCells b o vs)
 | [],_,w=>⟨rfl,fun _ _=>rfl,fun _ _ _ h=>h⟩
 | v::r,o,w=>by
  have h:=qi4 b r (o+1) (w.setCell ⟨b,o,none⟩ v)
  unfold World.setCells
  exact⟨h.size.trans zm,fun k hk=>(h.other k hk).trans (Below.heap_setCell _ _ _ _ hk),fun B w0 hB hb=>h.below B w0 hB (hb.setCell (p:=⟨b,o,none⟩) hB v)⟩
theorem qr1(f f':Nat->Int)(g g':Nat->Bool)(h:Nat->Int)(sl:Value):qc8 (tc f g h sl) 0 (pc f' g').toList=tc f' g' h sl:=by kernel_rfl
theorem qkk{ops:Array Oper}{rest:List Oper}{o:Oper}{a:Act}{w:World}{Q:Exit->Act->World->Prop}(hgd:o.guard=none)(x y:Operand)(ho:o.op=.store 35 x y)(b:Nat)(hx:a.eval x=.pointer (some ⟨b,0,none⟩))(f':Nat->Int)(g':Nat->Bool)(hy:a.eval y=.agg (pc f' g'))(f:Nat->Int)(g:Nat->Bool)(h:Nat->Int)(sl:Value)(R:Row 39 w b (tc f g h sl))(hr:∀w',Row 39 w' b (tc f' g' h sl)->qbl b w w'->wpList prog ops Q rest (a.put o.dst undef) w'):wpList prog ops Q (o::rest) a w:=by
 have ht:w.there b 0 (pc f' g').size:=fun j hj=>by
  have hj':j<21:=hj
  refine⟨?_,R.free _⟩
  rw[R.cell,Nat.zero_add,Array.getElem?_eq_getElem (by rw[qcr];omega)];rfl
 refine wpList_store_mid hgd 35 x y ho b 0 (pc f' g') hx hy ht (qfg f' g') (qoq f' g') ?_
 have R':=Row.setAll (pc f' g').toList 0 w _ R
 rw[qr1] at R'
 exact hr _ R' (qi4 b _ 0 w)
theorem qg0{fn:Func}{p u v x:Tmp}{t:TypeId}(hf:fn.results=#[.cell p t,.tmp u,.tmp v,.tmp x])(tmps:Array Value)(w:World)(b:Nat)(cs:Array Value)(hp:tmps.getD p undef=.pointer (some ⟨b,0,none⟩))(h:Row t w b cs)(d:TypeDesc)(hu:prog.underlying t=some d)(hd:d.isRow=true)(hi:(prog.info? t).map (·.size)=some cs.size):
  (results fn tmps).run prog w=.ok (.tuple #[.agg cs,tmps.getD u undef,tmps.getD v undef,tmps.getD x undef]) w:=by
 have hp':tmps[p]?.getD undef=.pointer (some ⟨b,0,none⟩):=by simpa using hp
 have hl:=run_loadVar_mid (P:=prog) w b 0 t cs.toList d (h.range (fun j v hv=>by rw[Nat.zero_add];simpa using hv)) hu hd (by simpa using hi)
 simp only[Array.toArray_toList] at hl
 simp[results,hf,hp',asAddr,hl]
theorem qrj(w:World):(zeroValue 35).run prog w=.ok (.agg (pc (fun _=>0) (fun _=>false))) w:=by kernel_rfl
theorem qhp{b:Nat}{w w':World}(h:qbl b w.drew w'):qbl b w w':=⟨h.size,h.other,fun B w0 hB hb=>h.below B w0 hB (qea hb)⟩
def q00(g:Nat->Bool)(sl:Value)(r:qzo):Value:=.tuple #[.agg (tc r.f g r.h sl),.int .i64 r.q,.bool r.took,.int .i64 r.e]
theorem q7j(f f':Nat->Int)(g g':Nat->Bool):(pc f g).size=(pc f' g').size:=by rw[qf1,qf1]
theorem qen(f f':Nat->Int)(g g':Nat->Bool)(h h':Nat->Int)(sl sl':Value):(tc f g h sl).size=(tc f' g' h' sl').size:=by rw[qcr,qcr]
attribute [local irreducible] tc pc
theorem sZxd41{p:Prop}(h:p:=by
 go_enter func166,ntmps166
 go_wp2_with (first|(refine bx 39 _ _ ?_;intro b4 w1 l4 R4 hb1;replace l4:=Nat.le_trans hB.size l4;replace hB:=hB.trans (hb1.mono hB.size))|(refine ay 39 qb8 ?_;intro b8 w2 l8 R8 hb2;have n48:=R4.ne l8;replace l8:=Nat.le_trans hB.size l8;replace R4:=R4.below hb2;replace hB:=hB.trans (hb2.mono hB.size))|(refine lx 39 (.tmp 4) (tc f g h (.slice a0 n cap)) R4 ?_)|(go_at_call 86;go_fit (C1 _);rintro e w5 ⟨v,rfl,⟨a1,c1,rfl⟩,hP,hb5⟩;replace R4:=R4.below hb5;replace R8:=R8.below hb5;replace hB:=hB.trans (hb5.mono hB.size))|(go_at_call 186;go_fit (C2 _ _ _ (hM.keep hB hlt) hP);rintro e w5 ⟨rfl,hb5⟩;replace R4:=R4.below hb5;replace R8:=R8.below hb5;replace hB:=hB.trans (hb5.mono hB.size))|(refine qab 39 rfl (.tmp 8) _ rfl b8 rfl (tc f g h (.slice a0 n cap)) rfl _ R8 (qen _ _ _ _ _ _ _ _) (qaq _ _ _ _) (qbm _ _ _ _ _ _) ?_;intro w6 R8 t6;replace hB:=t6.below _ _ l8 hB))
 ((try simp only[Exit.inBlock,Exit.then]);refine bodyPost_ret (qg0 rfl _ _ _ _ rfl R8 _ underlying39 rfl (qaq _ _ _ _)) rfl ⟨?_,hB⟩)
 rw[HR.out];rfl):p:=h
theorem qwa(f:Nat->Int)(g:Nat->Bool)(h:Nat->Int)(sl:Value)(ms:List Mp)(p s d:Int)(w:World)(hM:qaz w sl ms)(G:qbq f h ms)(hs:0<=s/\s<8)(hd:(Lit.int .i64 d).wf=true):
  Calls prog 166 #[.agg (tc f g h sl),.int .i64 p,.int .i64 s,.int .i64 d] w fun e w'=>e=.returned (q00 g sl (qbe f g h ms p s d))/\Below w.heap.size w w':=by
 have hB:=Below.refl w.heap.size w
 have hM0:=hM
 obtain⟨a0,cap,hsl,-⟩:=hM0
 obtain⟨n,hn⟩:∃n,n=ms.length:=⟨_,rfl⟩
 rw[←hn] at hsl
 subst hsl
 have HN:Hid (n=ms.length):=hn
 clear hn
 have hlt:=hM.lt
 have hs0:0<=s:=hs.1
 have hs8:s<8:=hs.2
 have hs8n:s.toNat<8:=by omega
 have hhome:=G.homeIn hs
 have C1:=fun w=>qiq f g h (.slice a0 n cap) s hs0 hs8 w
 have hbl:(qbk f s).length<=18:=qoy f s 18
 have C2:=fun base v w hM hP=>q0y f g h (.slice a0 n cap) ms p base v (qbk f s) w hM hP hbl
 have C3:=fun w=>qxp f g h (.slice a0 n cap) s d hs0 hs8 hhome.1 hhome.2 hd w
 clear hhome G
 cases hu:qcy ms p (qbk f s) with
 | some x=>
  have HR:Hid (qbe f g h ms p s d=_):=qq1 hu
  rw[hu] at C2
  unfold unS at C2
  obtain⟨LL,hLL⟩:∃LL,LL=(qbk f s).length:=⟨_,rfl⟩
  rw[←hLL] at C1
  clear hLL hbl hu
  exact sZxd41
 | none=>
  rw[hu] at C2
  unfold unS at C2
  obtain⟨LL,hLL⟩:∃LL,LL=(qbk f s).length:=⟨_,rfl⟩
  rw[←hLL] at C1
  by_cases h2:(qbk f s).length=2
  ·have HR:Hid (qbe f g h ms p s d=_):=qq6 hu h2
   have dL:((LL:Int)==2)=true:=by simp;omega
   clear hLL hbl hu h2
   exact sZxd41
  ·have dL:((LL:Int)==2)=false:=by simp;omega
   by_cases hE:qgv f g h s=0
   rotate_left
   ·have HR:Hid (qbe f g h ms p s d=_):=qrd hu h2 hE
    have dE:(qgv f g h s != 0)=true:=by simp[hE]
    clear hLL hbl hu h2 hE
    generalize qgv f g h s=EE at *
    generalize qdn f g h s d=aa at *
    go_enter func166,ntmps166
    go_wp2_with (first|(refine bx 39 _ _ ?_;intro b4 w1 l4 R4 hb1;replace l4:=Nat.le_trans hB.size l4;replace hB:=hB.trans (hb1.mono hB.size))|(refine ay 39 qb8 ?_;intro b8 w2 l8 R8 hb2;have n48:=R4.ne l8;replace l8:=Nat.le_trans hB.size l8;replace R4:=R4.below hb2;replace hB:=hB.trans (hb2.mono hB.size))|(refine lx 39 (.tmp 4) (tc f g h (.slice a0 n cap)) R4 ?_)|(go_at_call 86;go_fit (C1 _);rintro e w5 ⟨v,rfl,⟨a1,c1,rfl⟩,hP,hb5⟩;replace R4:=R4.below hb5;replace R8:=R8.below hb5;replace hB:=hB.trans (hb5.mono hB.size))|(go_at_call 186;go_fit (C2 _ _ _ (hM.keep hB hlt) hP);rintro e w5 ⟨rfl,hb5⟩;replace R4:=R4.below hb5;replace R8:=R8.below hb5;replace hB:=hB.trans (hb5.mono hB.size))|(refine qab 39 rfl (.tmp 8) _ rfl b8 rfl (tc f g h (.slice a0 n cap)) rfl _ R8 (qen _ _ _ _ _ _ _ _) (qaq _ _ _ _) (qbm _ _ _ _ _ _) ?_;intro w6 R8 t6;replace hB:=t6.below _ _ l8 hB)|(go_at_call 187;go_fit (C3 _);rintro e w5 ⟨rfl,hb5⟩;clear hP;replace R4:=R4.below hb5;replace R8:=R8.below hb5;replace hB:=hB.trans (hb5.mono hB.size);have hrp:=R4.pool))
    ((try simp only[Exit.inBlock,Exit.then]);refine bodyPost_ret (qg0 rfl _ _ _ _ rfl R8 _ underlying39 rfl (qaq _ _ _ _)) rfl ⟨?_,hB⟩)
    rw[HR.out];rfl
   ·by_cases hT:qdh f g s (qdn f g h s d)=0
    rotate_left
    ·have HR:Hid (qbe f g h ms p s d=_):=qq2 hu h2 hE hT
     rw[hE] at C3
     have C4:=fun w=>qtm f g s (qdn f g h s d) d hd w
     unfold qet plv at C4
     have dT:(qdh f g s (qdn f g h s d) != 0)=true:=by simp[hT]
     clear hLL hbl hu h2 hE hT
     generalize qdn f g h s d=aa at *
     generalize qdh f g s aa=EE at *
     generalize qi1 f g s aa d=FF at *
     generalize qft f g s aa d=KK at *
     go_enter func166,ntmps166
     go_wp2_with (first|(refine bx 39 _ _ ?_;intro b4 w1 l4 R4 hb1;replace l4:=Nat.le_trans hB.size l4;replace hB:=hB.trans (hb1.mono hB.size))|(refine ay 39 qb8 ?_;intro b8 w2 l8 R8 hb2;have n48:=R4.ne l8;replace l8:=Nat.le_trans hB.size l8;replace R4:=R4.below hb2;replace hB:=hB.trans (hb2.mono hB.size))|(refine lx 39 (.tmp 4) (tc f g h (.slice a0 n cap)) R4 ?_)|(go_at_call 86;go_fit (C1 _);rintro e w5 ⟨v,rfl,⟨a1,c1,rfl⟩,hP,hb5⟩;replace R4:=R4.below hb5;replace R8:=R8.below hb5;replace hB:=hB.trans (hb5.mono hB.size))|(go_at_call 186;go_fit (C2 _ _ _ (hM.keep hB hlt) hP);rintro e w5 ⟨rfl,hb5⟩;replace R4:=R4.below hb5;replace R8:=R8.below hb5;replace hB:=hB.trans (hb5.mono hB.size))|(refine qab 39 rfl (.tmp 8) _ rfl b8 rfl (tc f g h (.slice a0 n cap)) rfl _ R8 (qen _ _ _ _ _ _ _ _) (qaq _ _ _ _) (qbm _ _ _ _ _ _) ?_;intro w6 R8 t6;replace hB:=t6.below _ _ l8 hB)|(go_at_call 187;go_fit (C3 _);rintro e w5 ⟨rfl,hb5⟩;clear hP;replace R4:=R4.below hb5;replace R8:=R8.below hb5;replace hB:=hB.trans (hb5.mono hB.size);have hrp:=R4.pool)|(refine wpList_load_mid rfl 35 (.tmp 48) rfl b4 0 rfl _ _ hrp underlying35 rfl (qkh f g) ?_;rw[Array.toArray_toList])|(go_at_call 188;go_fit (C4 _);rintro e w5 ⟨rfl,hb5⟩;clear hrp;replace R4:=R4.below hb5;replace R8:=R8.below hb5;replace hB:=hB.trans (hb5.mono hB.size))|(refine ay 35 qrj ?_;intro b17 w7 l17 R17 hb7;have n417:=R4.ne l17;have n817:=R8.ne l17;replace l17:=Nat.le_trans hB.size l17;replace R4:=R4.below hb7;replace R8:=R8.below hb7;replace hB:=hB.trans (hb7.mono hB.size))|(refine qab 35 rfl (.tmp 17) _ rfl b17 rfl (pc FF g) rfl _ R17 (q7j _ _ _ _) (qfg _ _) (qoq _ _) ?_;intro w8 R17 t8;replace R4:=t8.row R4 n417;replace R8:=t8.row R8 n817;replace hB:=t8.below _ _ l17 hB))
     ((try simp only[Exit.inBlock,Exit.then]);refine bodyPost_ret (qg0 rfl _ _ _ _ rfl R8 _ underlying39 rfl (qaq _ _ _ _)) rfl ⟨?_,hB⟩)
     rw[HR.out];rfl
    ·have HR:Hid (qbe f g h ms p s d=_):=quo hu h2 hE hT
     rw[hE] at C3
     have C4:=fun w=>qtm f g s (qdn f g h s d) d hd w
     unfold qet plv at C4
     rw[hT] at C4
     obtain⟨_,haR,_,_,hfr⟩:=qtj hT
     have hKm:=qj8 _ _ (qiu (qbo (rowF f (qdn f g h s d).toNat)) d hfr)
     have hKe:qft f g s (qdn f g h s d) d=qep (qbo (rowF f (qdn f g h s d).toNat)) d:=by unfold qft;rw[if_pos hT]
     rw[←hKe] at hKm
     have hK6:=hKm.1
     clear hLL hbl hu h2 hE hT hfr hKm hKe
     generalize qdn f g h s d=aa at *
     generalize qi1 f g s aa d=FF at *
     obtain⟨kk,hkk⟩:∃kk:Int,kk=((qft f g s aa d:Nat):Int):=⟨_,rfl⟩
     rw[←hkk] at C4 HR
     have hk0:0<=kk:=by omega
     have hk6:kk<=6:=by omega
     have haw:wrap64 (aa+1)=aa+1:=by unfold wrap64;omega
     have e8:1024+8*kk=1024+kk*8:=by omega
     rw[e8] at HR
     clear hkk hK6 e8 haR
     go_enter func166,ntmps166
     go_wp2_with (first|(refine bx 39 _ _ ?_;intro b4 w1 l4 R4 hb1;replace l4:=Nat.le_trans hB.size l4;replace hB:=hB.trans (hb1.mono hB.size))|(refine ay 39 qb8 ?_;intro b8 w2 l8 R8 hb2;have n48:=R4.ne l8;replace l8:=Nat.le_trans hB.size l8;replace R4:=R4.below hb2;replace hB:=hB.trans (hb2.mono hB.size))|(refine lx 39 (.tmp 4) (tc f g h (.slice a0 n cap)) R4 ?_)|(go_at_call 86;go_fit (C1 _);rintro e w5 ⟨v,rfl,⟨a1,c1,rfl⟩,hP,hb5⟩;replace R4:=R4.below hb5;replace R8:=R8.below hb5;replace hB:=hB.trans (hb5.mono hB.size))|(go_at_call 186;go_fit (C2 _ _ _ (hM.keep hB hlt) hP);rintro e w5 ⟨rfl,hb5⟩;replace R4:=R4.below hb5;replace R8:=R8.below hb5;replace hB:=hB.trans (hb5.mono hB.size))|(refine qab 39 rfl (.tmp 8) _ rfl b8 rfl (tc f g h (.slice a0 n cap)) rfl _ R8 (qen _ _ _ _ _ _ _ _) (qaq _ _ _ _) (qbm _ _ _ _ _ _) ?_;intro w6 R8 t6;replace hB:=t6.below _ _ l8 hB)|(go_at_call 187;go_fit (C3 _);rintro e w5 ⟨rfl,hb5⟩;clear hP;replace R4:=R4.below hb5;replace R8:=R8.below hb5;replace hB:=hB.trans (hb5.mono hB.size);have hrp:=R4.pool)|(refine wpList_load_mid rfl 35 (.tmp 48) rfl b4 0 rfl _ _ hrp underlying35 rfl (qkh f g) ?_;rw[Array.toArray_toList])|(go_at_call 188;go_fit (C4 _);rintro e w5 ⟨rfl,hb5⟩;clear hrp;replace R4:=R4.below hb5;replace R8:=R8.below hb5;replace hB:=hB.trans (hb5.mono hB.size))|(refine ay 35 qrj ?_;intro b17 w7 l17 R17 hb7;have n417:=R4.ne l17;have n817:=R8.ne l17;replace l17:=Nat.le_trans hB.size l17;replace R4:=R4.below hb7;replace R8:=R8.below hb7;replace hB:=hB.trans (hb7.mono hB.size))|(refine qab 35 rfl (.tmp 17) _ rfl b17 rfl (pc FF g) rfl _ R17 (q7j _ _ _ _) (qfg _ _) (qoq _ _) ?_;intro w8 R17 t8;replace R4:=t8.row R4 n417;replace R8:=t8.row R8 n817;replace hB:=t8.below _ _ l17 hB)|(refine lx 35 (.tmp 17) (pc FF g) R17 ?_)|(refine qkk rfl (.tmp 62) (.tmp 61) rfl b4 rfl FF g rfl f g h (.slice a0 n cap) R4 ?_;intro w9 R4 t9;replace R8:=t9.row R8 n48.symm;clear R17;replace hB:=t9.below _ _ l4 hB;have f4:=R4.free (21+s.toNat);have c4:World.cell? _ ⟨b4,21+s.toNat,none⟩=some (.int .i64 (h s.toNat)):=(R4.cell _).trans (qhc _ _ _ _ _ hs8n)))
     replace R4:=R4.set (o:=21+s.toNat) (v:=.int .i64 (aa+1))
     rw[qsk _ _ _ _ _ _ hs8n] at R4
     replace R8:=R8.other (b:=b4) (o:=21+s.toNat) (v:=.int .i64 (aa+1)) n48.symm
     replace hB:=hB.setCell (p:=⟨b4,21+s.toNat,none⟩) l4 (.int .i64 (aa+1))
     refine RD (fun W=>Row 39 W b4 (tc FF g (upd h s.toNat (aa+1)) (.slice a0 n cap))) R4 (fun _=>?_)
     refine tk 0 (.agg (tc FF g (upd h s.toNat (aa+1)) (.slice a0 n cap))) rfl (yx 39 (.tmp 4) (tc FF g (upd h s.toNat (aa+1)) (.slice a0 n cap)) (fun _ h=>h)) R4 (tq 1 (.int .i64 kk) rfl R4 ?_)
     simp only[ZZ]
     refine AR [2] ?_
     refine AC (fun K hK=>?_) ?_
     ·go_simp
      go_at_call 65;refine(qkm kk hk0 hk6 _).mono ?_;rintro e w5 ⟨rfl,hw⟩;rw[hw];clear hw w5
      go_wp2_with fail
      refine hK.out _ _ R4 (fun _=>?_)
      clear hK K
      try simp only[ZZ]
      refine AR [3] ?_
      refine AC (fun K hK=>?_) ?_
      ·rw[if_pos kr]
       refine qau 39 (.tmp 8) (.tmp 68) rfl b8 rfl (tc FF g (upd h s.toNat (aa+1)) (.slice a0 n cap)) rfl _ R8 (qen _ _ _ _ _ _ _ _) (qaq _ _ _ _) (qbm _ _ _ _ _ _) ?_;intro w10 R8 t10;(try replace t10:=qhp t10);replace R4:=t10.row R4 n48;replace hB:=t10.below _ _ l8 hB
       refine hK.out _ _ R4 (fun _=>?_)
       clear hK K
       try simp only[ZZ]
       refine tq 4 (.int .i64 (1024+kk*8)) rfl R4 (tq 5 (.bool true) rfl R4 (tq 6 (.int .i64 0) rfl R4 ?_))
       simp only[ZZ]
       refine AN ?_
       go_wp2
       ((try simp only[Exit.inBlock,Exit.then]);refine bodyPost_ret (qg0 rfl _ _ _ _ rfl R8 _ underlying39 rfl (qaq _ _ _ _)) rfl ⟨?_,by first|exact hB|exact qea hB⟩)
       rw[HR.out];rfl
      exact AZ
     exact AZ
end Go.Proofs.YtnicenfgemkdnaaGreatDoor
namespace Go.Proofs.YtnicenfgemkdnaaGreatDoor
open _root_.Go.Proofs.Tryz
set_option maxHeartbeats 16000000
set_option maxRecDepth 100000
open Go.ChangeShapes Go.WideShapes Go.ChangeAt Go.RowKit
theorem qzm{j n:Nat}(h:j<=n)(hn:n<=140737488355328):wrap64 ((j:Int)+1)=(j:Int)+1:=by unfold wrap64;omega
theorem q08{ms:List Mp}{j:Nat}{m:Mp}{s:Int}(hlj:j<ms.length)(hm:ms[j]=m):cntM (ms.take (j+1)) s=cntM (ms.take j) s+if m.2.1=s then 1 else 0:=by
 unfold cntM;rw[qic hlj hm,List.filter_append,List.length_append]
 by_cases e:m.2.1=s
 ·simp[e]
 ·simp[e]
theorem q7n(ms:List Mp)(s:Int)(j:Nat):cntM (ms.take j) s<=ms.length:=by
 unfold cntM;exact Nat.le_trans (List.length_filter_le _ _) (by rw[List.length_take];omega)
theorem qh5(f:Nat->Int)(g:Nat->Bool)(h:Nat->Int)(sl:Value)(ms:List Mp)(s:Int)(w:World)(hM:qaz w sl ms):
  Calls prog 87 #[.agg (tc f g h sl),.int .i64 s] w fun e w'=>e=.returned (.int .i64 ((cntM ms s:Nat):Int))/\Below w.heap.size w w':=by
 have hB:=Below.refl w.heap.size w
 have hM0:=hM
 obtain⟨a0,cap,hsl,-⟩:=hM0
 obtain⟨n,hn⟩:∃n,n=ms.length:=⟨_,rfl⟩
 rw[←hn] at hsl
 subst hsl
 have HN:Hid (n=ms.length):=hn
 clear hn
 have hlt:=hM.lt
 have hml:=hM.len
 go_enter func87,ntmps87
 go_wp2_with (refine bx 39 _ _ ?_;intro bT w1 lT RT hb1;replace lT:=Nat.le_trans hB.size lT;replace hB:=hB.trans (hb1.mono hB.size);have cM:w1.cell? ⟨bT,29,none⟩=some (.slice a0 n cap):=RT.cell 29)
 clear hml
 go_loopw [5,11] (fun c i W=>∃j:Nat,j<=ms.length/\i=.int .i64 j/\c=.int .i64 ((cntM (ms.take j) s:Nat):Int)/\Below w.heap.size w W) (fun _ i _=>n-(intOf i).toNat)
 case atStart=>exact⟨0,by omega,rfl,by simp[cntM],hB⟩
 case round=>
  clear hB cM RT hb1
  obtain⟨j,hj,rfl,rfl,hB⟩:=hrel
  by_cases hlj:j<ms.length
  ·have hjn:(j:Int)<(n:Int):=by have:=HN.out;omega
   have hjw:=qga hlj hM.len
   obtain⟨m,hm⟩:∃m,ms[j]=m:=⟨_,rfl⟩
   have hMW:=hM.keep hB hlt
   have hrg:=hMW.at j hlj hm
   have hcs:=q08 (s:=s) hlj hm
   have hcw:wrap64 (((cntM (ms.take j) s:Nat):Int)+1)=((cntM (ms.take j) s:Nat):Int)+1:=qzm (q7n ms s j) hM.len
   by_cases hs:m.2.1=s
   ·rw[if_pos hs] at hcs
    have HC:Hid (cntM (ms.take (j+1)) s=cntM (ms.take j) s+1):=hcs
    have dz:(m.2.1==s)=true:=by simpa using hs
    clear hcs hs
    generalize cntM (ms.take j) s=c at *
    go_wp2_with (first|(refine qb5 rfl (.tmp 9) (.tmp 11) rfl (.slice a0 n cap) ms hMW rfl j rfl hlj ?_)|(refine wpList_load_mid rfl 46 _ rfl _ _ rfl (mcl m) _ hrg underlying46 rfl (qby m) ?_;rw[qc2])|(refine ay 46 qa4 ?_;intro b7 w3 l7 R7 hb3;replace l7:=Nat.le_trans hB.size l7;replace hB:=hB.trans (hb3.mono hB.size))|(refine qab 46 rfl _ _ rfl b7 rfl (mc m) rfl _ R7 rfl (qak m) (qa3 m) ?_;intro w4 R7 t4;have c1:=m1 R7;replace hB:=t4.below _ _ l7 hB))
    go_roundw
    case rel=>
     first
      | exact⟨j+1,by omega,by go_num,by rw[HC.out];go_num,hB⟩
      | ((repeat apply Exists.intro);exact⟨⟨j+1,by omega,by go_num,by rw[HC.out];go_num,hB⟩,rfl⟩)
    case measure=>rw[hjw];exact qek (HN.out.symm▸hlj)
   ·rw[if_neg hs] at hcs
    have HC:Hid (cntM (ms.take (j+1)) s=cntM (ms.take j) s):=hcs
    have dz:(m.2.1==s)=false:=by simpa using hs
    clear hcs hs
    generalize cntM (ms.take j) s=c at *
    go_wp2_with (first|(refine qb5 rfl (.tmp 9) (.tmp 11) rfl (.slice a0 n cap) ms hMW rfl j rfl hlj ?_)|(refine wpList_load_mid rfl 46 _ rfl _ _ rfl (mcl m) _ hrg underlying46 rfl (qby m) ?_;rw[qc2])|(refine ay 46 qa4 ?_;intro b7 w3 l7 R7 hb3;replace l7:=Nat.le_trans hB.size l7;replace hB:=hB.trans (hb3.mono hB.size))|(refine qab 46 rfl _ _ rfl b7 rfl (mc m) rfl _ R7 rfl (qak m) (qa3 m) ?_;intro w4 R7 t4;have c1:=m1 R7;replace hB:=t4.below _ _ l7 hB))
    go_roundw
    case rel=>
     first
      | exact⟨j+1,by omega,by go_num,by rw[HC.out],hB⟩
      | ((repeat apply Exists.intro);exact⟨⟨j+1,by omega,by go_num,by rw[HC.out],hB⟩,rfl⟩)
    case measure=>rw[hjw];exact qek (HN.out.symm▸hlj)
  ·have e:j=ms.length:=by omega
   have hjn:(n:Int)<=(j:Int):=by have:=HN.out;omega
   have HC:Hid (cntM (ms.take j) s=cntM ms s):=by show _=_;rw[e,List.take_length]
   clear e hj hlj
   generalize cntM (ms.take j) s=c at *
   go_wp2
   go_ret
   exact⟨by rw[←HC.out];rfl,hB⟩
def qi2(f:Nat->Int)(ms:List Mp)(N:Nat):Prop:=∀s:Nat,s<N->(qbk f s).length<=2/\cntM ms s<=12
theorem qzk{f:Nat->Int}{ms:List Mp}{N:Nat}(h:qi2 f ms N)(h1:(qbk f N).length<=2)(h2:cntM ms N<=12):qi2 f ms (N+1):=fun s hs=>by
 by_cases e:s=N
 ·subst e;exact⟨h1,h2⟩
 ·exact h s om
theorem sZxd42{p:Prop}(h:p:=by
 go_ret
 first|exact⟨_,by first|exact HF.out|simpa using HF.out,rfl,hB⟩|exact Or.inr ⟨by simpa using HF.out,rfl,hB⟩|exact Or.inl ⟨by simpa using HF.out,rfl,hB⟩):p:=h
theorem qkt(f:Nat->Int)(g:Nat->Bool)(h:Nat->Int)(sl:Value)(ms:List Mp)(w:World)(hM:qaz w sl ms):
  Calls prog 56 #[.agg (tc f g h sl)] w fun e w'=>∃r:Bool,(r=true↔qi2 f ms 8)/\e=.returned (.bool r)/\Below w.heap.size w w':=by
 have hB:=Below.refl w.heap.size w
 have hM0:=hM
 obtain⟨a0,cap,hsl,-⟩:=hM0
 obtain⟨n,hn⟩:∃n,n=ms.length:=⟨_,rfl⟩
 rw[←hn] at hsl
 subst hsl
 have HN:Hid (n=ms.length):=hn
 clear hn
 have hlt:=hM.lt
 have C2:=fun s w hM=>qh5 f g h (.slice a0 n cap) ms s w hM
 go_enter func56,ntmps56
 go_wp2_with (refine bx 39 _ _ ?_;intro bT w1 lT RT hb1;replace lT:=Nat.le_trans hB.size lT;replace hB:=hB.trans (hb1.mono hB.size))
 go_loopw [4] (fun i W=>∃j:Nat,j<=8/\i=.int .i64 j/\qi2 f ms j/\Below w.heap.size w W/\Row 39 W bT (tc f g h (.slice a0 n cap))) (fun i _=>8-(intOf i).toNat)
 case atStart=>exact⟨0,by omega,rfl,fun s hs=>absurd hs om,hB,RT⟩
 case round=>
  clear hB RT hb1
  obtain⟨j,hj,rfl,hfew,hB,RT⟩:=hrel
  by_cases hlj:j<8
  ·have C1:=fun w=>qiq f g h (.slice a0 n cap) (j:Int) om om w
   obtain⟨l,hl⟩:∃l,l=(qbk f (j:Int)).length:=⟨_,rfl⟩
   obtain⟨c,hc⟩:∃c,c=cntM ms (j:Int):=⟨_,rfl⟩
   rw[←hl] at C1
   have C2j:=C2 (j:Int)
   rw[←hc] at C2j
   by_cases h2:l<=2
   ·have h2':decide ((2:Int)<(l:Int))=false:=decide_eq_false om
    by_cases h12:c<=12
    ·have h12':decide ((12:Int)<(c:Int))=false:=decide_eq_false om
     have HF:Hid (qi2 f ms (j+1)):=qzk hfew (hl▸h2) (hc▸h12)
     clear hl hc h2 h12
     go_wp2_with (first|(refine qac 39 _ rfl ?_ _ rfl (tc f g h (.slice a0 n cap)) RT _ underlying39 rfl (qaq _ _ _ _) ?_;· rfl)|(go_at_call 86;go_fit (C1 _);rintro e w5 ⟨v,rfl,⟨a1,c1,rfl⟩,hP,hb5⟩;clear hP;replace RT:=RT.below hb5;replace hB:=hB.trans (hb5.mono hB.size))|(go_at_call 87;refine(C2j _ (hM.keep hB hlt)).mono ?_;rintro e w5 ⟨rfl,hb5⟩;replace RT:=RT.below hb5;replace hB:=hB.trans (hb5.mono hB.size)))
     go_roundw
     case rel=>exact⟨j+1,by omega,by go_num,HF.out,hB,RT⟩
     case measure=>simp[intOf];omega
    ·have h12':(12:Int)<(c:Int):=by omega
     have HF:Hid ((false=true)↔qi2 f ms 8):=by
      show _↔_
      exact⟨fun h=>by simp at h,fun h=>by have:=(h j hlj).2;omega⟩
     clear hl hc h2 h12
     go_wp2_with (first|(refine qac 39 _ rfl ?_ _ rfl (tc f g h (.slice a0 n cap)) RT _ underlying39 rfl (qaq _ _ _ _) ?_;· rfl)|(go_at_call 86;go_fit (C1 _);rintro e w5 ⟨v,rfl,⟨a1,c1,rfl⟩,hP,hb5⟩;clear hP;replace RT:=RT.below hb5;replace hB:=hB.trans (hb5.mono hB.size))|(go_at_call 87;refine(C2j _ (hM.keep hB hlt)).mono ?_;rintro e w5 ⟨rfl,hb5⟩;replace RT:=RT.below hb5;replace hB:=hB.trans (hb5.mono hB.size)))
     exact sZxd42
   ·have h2':(2:Int)<(l:Int):=by omega
    have HF:Hid ((false=true)↔qi2 f ms 8):=by
     show _↔_
     exact⟨fun h=>by simp at h,fun h=>by have:=(h j hlj).1;omega⟩
    clear hl hc h2
    go_wp2_with (first|(refine qac 39 _ rfl ?_ _ rfl (tc f g h (.slice a0 n cap)) RT _ underlying39 rfl (qaq _ _ _ _) ?_;· rfl)|(go_at_call 86;go_fit (C1 _);rintro e w5 ⟨v,rfl,⟨a1,c1,rfl⟩,hP,hb5⟩;clear hP;replace RT:=RT.below hb5;replace hB:=hB.trans (hb5.mono hB.size)))
    exact sZxd42
  ·have e:j=8:=by omega
   subst e
   have HF:Hid ((true=true)↔qi2 f ms 8):=by
    show _↔_
    exact⟨fun _=>hfew,fun _=>rfl⟩
   clear hj hlj hfew
   go_wp2
   exact sZxd42
end Go.Proofs.YtnicenfgemkdnaaGreatDoor
