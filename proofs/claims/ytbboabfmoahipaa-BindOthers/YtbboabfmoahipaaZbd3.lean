/-
  Of what a law stands on.
-/
import Derived.Deep.Slices
import Derived.Test.YtbboabfmoahipaaZbd2
set_option linter.unusedSimpArgs false
set_option linter.unusedVariables false
namespace Go.Proofs.Ytbboabfmoahipaa
open Go.Value renaming int → I,pointer → V
open Go.IntKind renaming i64 → Z
open _root_.Go.Proofs.Try Go.ChangeShapes Go.WideShapes Go.ChangeAt Go.RowKit
set_option maxHeartbeats 16000000
set_option maxRecDepth 100000
variable {w w':World}{b base fuel i j n:Nat}{v:Value}{l:List Nat}{ops:Array Oper}{rest:List Oper}{o:Oper}{a:Act}{Q:Exit->Act->World->Prop}{ms:List Mp}{p:Prop}{t:TypeId}{H:Type}{sp:Nat->Bool}{held:Bool}
theorem q5r(h:Plc w base v l)(hb:Below w.heap.size w w'):Plc w' base v l:=qst h hb
def pl2(n:Nat):List Value:=[I Z ((n/6:Nat):Int),I Z ((n%6:Nat):Int)]
theorem q8v(l:List Nat)(j i:Nat)(hj:j<l.length)(hi:i<2):(plc l)[2*j+i]?=(pl2 l[j])[i]?:=by
 induction l generalizing j with
 | nil=>simp at hj
 | cons m r ih=>
  (have e:plc (m::r)=pl2 m++plc r:=by unfold plc pl2;rw[List.flatMap_cons]);rw[e]
  cases j with
  | zero=>rw[List.getElem?_append_left (by simp[pl2];omega)];simp
  | succ j=>
   rw[List.getElem?_append_right (by simp[pl2];omega)]
   have:2*(j+1)+i-(pl2 m).length=2*j+i:=by simp[pl2];omega
   rw[this,ih j (by simpa using hj)]
   simp
theorem Plc.at(h:Plc w base v l)(j:Nat)(hj:j<l.length)(hn:l[j]=n):w.rangeAt (mb v) (2*j) (pl2 n):=by
 rcases h.2 with⟨e,n0⟩|⟨b,cap,cur,hv,hbb,hh,hnc,hcm,hcs,ht⟩
 ·omega
 ·have hc:=World.ownsRow.cells h (g:=b) (by rw[hv];rfl);intro i u hu;have hi:i<2:=(List.getElem?_eq_some_iff.1 hu).1;have hg:=q8v l j i hj hi
  rw[hn,hu] at hg
  have:=hc _ _ hg
  rw[Addr.add_lit] at this
  rw[hv]
  simpa[mb] using this
theorem qua(hgd:o.guard=none)(x y:Operand)(ho:o.op=.indexAddr 90 x y)(base:Nat)(v:Value)(l:List Nat)(hP:Plc w base v l)(hx:a.eval x=v)(j:Nat)(hy:a.eval y=I Z (j:Int))(hj:j<l.length)(hr:wpList prog ops Q rest (a.put o.dst (V (some ⟨mb v,2*j,none⟩))) w):wpList prog ops Q (o::rest) a w:=
 wpList_plain hgd fun K hK=>by
  rcases hP.2 with⟨e,n0⟩|⟨b,cap,cur,hv,hbb,hh,hnc,hcm,hcs,ht⟩
  ·omega
  ·subst hv
   (have hn:((j:Int)).toNat<l.length:=by simpa using hj);(have hjl:(j:Int)<(l.length:Int):=by omega);(have hs:(sizeOf 67).run prog w=.ok 2 w:=by kernel_rfl)
   have hrun:(Instr.indexAt 90 (.slice (some ⟨b,0,none⟩) l.length cap) (I Z (j:Int))).run prog w=.ok (V (some ⟨b,2*j,none⟩)) w:=by
    simp[go_sem,hj,hn,hjl,underlying90,hs]
   unfold Oper.wp execOp
   simp only[ho,hx,hy,Sem.run_bind,hrun,Result.andThen_ok,Sem.run_pure]
   exact hK _ _ hr
def unS:Option (Nat×Nat)->Value
 | some x=>.tuple #[I Z (qe5 x.1 x.2),.bool true]
 | none=>.tuple #[I Z 0,.bool false]
theorem q6n(n:Nat):(prog.info? 67).map (·.size)=some (pl2 n).length:=by kernel_rfl
theorem qq5(ms:List Mp)(p a q:Int):qk7 ms p a q=(ms.find? (outS p a q)).isSome:=by
 unfold qk7;rw[List.isSome_find?]
theorem qyq{p:Int}(hi:i<8)(hb:∀i',i'<i->qk7 ms p ((n/6:Nat):Int) (qe5 n i')=true)(hu:qk7 ms p ((n/6:Nat):Int) (qe5 n i)=false):qie ms p n=some i:=by
 unfold qie
 rw[List.find?_range_eq_some]
 exact⟨by rw[hu];rfl,List.mem_range.2 hi,fun j hj=>by rw[hb j hj];rfl⟩
theorem qxj{p:Int}(hb:∀i',i'<8->qk7 ms p ((n/6:Nat):Int) (qe5 n i')=true):qie ms p n=none:=by
 unfold qie
 rw[List.find?_eq_none];intro i hi
 rw[hb i (List.mem_range.1 hi)];simp
theorem qqj{p:Int}(hlj:j<l.length)(hn:l[j]=n)(h:qie ms p n=some i):qcy ms p (l.drop j)=some (n,i):=by
 rw[List.drop_eq_getElem_cons hlj,hn];unfold qcy;rw[h]
theorem qpp{p:Int}(hlj:j<l.length)(hn:l[j]=n)(h:qie ms p n=none):qcy ms p (l.drop j)=qcy ms p (l.drop (j+1)):=by
 rw[List.drop_eq_getElem_cons hlj,hn]
 conv=>lhs;unfold qcy
 rw[h]
theorem q0y(f:Nat->Int)(g:Nat->Bool)(h:Nat->Int)(sl:Value)(ms:List Mp)(p:Int)(base:Nat)(v:Value)(l:List Nat)(w:World)(hM:qaz w sl ms)(hP:Plc w base v l)(hl18:l.length<=18):
  Calls prog 52 #[.agg (tc f g h sl),I Z p,v] w fun e w'=>e=.returned (unS (qcy ms p l))/\Below w.heap.size w w':=by
 refine m1t ?_;intro hB hM0
 obtain⟨a0,cap,hsl,-⟩:=hM0
 obtain⟨n,hn⟩:∃n,n=ms.length:=⟨_,rfl⟩
 rw[←hn] at hsl
 subst hsl
 refine m2d ?_;clear hn;intro HN hlt;obtain⟨a1,c1,hv⟩:=hP.slice
 obtain⟨L,hL⟩:∃L,L=l.length:=⟨_,rfl⟩
 rw[←hL] at hv
 subst hv
 have HL:Hid (L=l.length):=hL;clear hL
 go_enter func52,ntmps52
 go_wp2_with (refine m1b ?_;clear hB;intro bT w1 RT hb1 lT hB)
 go_loopw [16] (fun i W=>∃j:Nat,j<=l.length/\i=I Z j/\qcy ms p l=qcy ms p (l.drop j)/\Below w.heap.size w W/\Row 30 W bT (tc f g h (.slice a0 n cap))) (fun i _=>L-(intOf i).toNat)
 case atStart=>exact⟨0,by omega,rfl,by rw[List.drop_zero],hB,RT⟩
 case round=>
  clear hB RT hb1
  obtain⟨j,hj,rfl,hun,hB,RT⟩:=hrel
  by_cases hlj:j<l.length
  ·(have hjn:(j:Int)<(L:Int):=by have:=HL.out;omega);(have hjw:wrap64 ((j:Int)+1)=(j:Int)+1:=by unfold wrap64;omega)
   obtain⟨N,hN⟩:∃N,l[j]=N:=⟨_,rfl⟩
   have hPW:Plc _ base (.slice a1 L c1) l:=q5r hP hB;have hrg:=hPW.at j hlj hN;have HU:Hid (qcy ms p l=qcy ms p (l.drop j)):=hun;clear hun;(have hN6:(0:Int)<=((N%6:Nat):Int):=by omega);(have hN6':((N%6:Nat):Int)<=6:=by omega)
   obtain⟨kA,hkA⟩:∃kA:Int,Hid (kA=((N/6:Nat):Int)):=⟨_,rfl⟩
   obtain⟨kB,hkB⟩:∃kB:Int,Hid (kB=((N%6:Nat):Int)):=⟨_,rfl⟩
   rw[←hkB.out] at hN6 hN6'
   (have C1:=fun w=>qkm kB hN6 hN6' w);(have hpi:(pl2 N).toArray=ic2 kA kB:=by rw[hkA.out,hkB.out];rfl)
   go_wp2_with (first|(refine qua rfl (.tmp 14) (.tmp 16) rfl base (.slice a1 L c1) l hPW rfl j rfl hlj ?_)|(refine wpList_load_mid rfl 67 _ rfl _ _ rfl (pl2 N) _ hrg underlying67 rfl (q6n N) ?_;rw[hpi])|(refine ay 67 qcn ?_;intro b9 w3 l9 R9 hb3;have nT:=RT.ne l9;replace l9:=Nat.le_trans hB.size l9;replace RT:=RT.below hb3;replace hB:=hB.trans (hb3.mono hB.size))|(refine sx 67 _ _ (ic2 kA kB) R9 ?_;intro w4 R9 t4;replace RT:=t4.row RT nT;replace hB:=t4.below _ _ l9 hB))
   go_loopw [20] (fun i W=>∃k:Nat,k<=8/\i=I Z k/\(∀i',i'<k->qk7 ms p ((N/6:Nat):Int) (qe5 N i')=true)/\Below w.heap.size w W/\Row 30 W bT (tc f g h (.slice a0 n cap))/\Row 67 W b9 (ic2 kA kB)) (fun i _=>8-(intOf i).toNat)
   case atStart=>exact⟨0,by omega,rfl,fun i' hi'=>absurd hi' om,hB,RT,R9⟩
   case round=>
    clear hB RT R9 hPW hrg
    obtain⟨k,hk,rfl,hused,hB,RT,R9⟩:=hrel
    by_cases hk8:k<8
    ·have d0:=p0B R9;have d1:=p1 R9
     have hPQ:Hid (1024+kB*8+(k:Int)=qe5 N k):=by
      show _=_
      have:=hkB.out;unfold qe5;omega
     (have CB:=fun w hM=>qqr f g h (.slice a0 n cap) ms p kA (1024+kB*8+(k:Int)) w hM)
     cases hfd:ms.find? (outS p kA (1024+kB*8+(k:Int))) with
     | none=>
      have HF:Hid (qcy ms p l=some (N,k)):=by
       show _=_
       rw[HU.out]
       exact qqj hlj hN (qyq hk8 hused (by rw[qq5,←hPQ.out,←hkA.out,hfd];rfl))
      rw[hfd] at CB
      unfold qhw at CB
      clear hN hfd hused hpi
      go_wp2_with (first|(go_at_call 31;go_fit (C1 _);refine m03 ?_)|(refine lx 30 _ (tc f g h (.slice a0 n cap)) RT ?_)|(go_at_call 12;go_fit (CB _ (hM.keep hB hlt));rintro e w5 ⟨rfl,hb5⟩;clear d0 d1;replace RT:=RT.below hb5;replace R9:=R9.below hb5;refine m40 ?_;clear hB;intro hB)|(refine m5f ?_;intro b12 w6 l12 R12 hb6;have nT2:=RT.ne l12;have n92:=R9.ne l12;replace l12:=Nat.le_trans hB.size l12;replace RT:=RT.below hb6;replace R9:=R9.below hb6;replace hB:=hB.trans (hb6.mono hB.size))|(refine sx 32 _ _ (mc noM) R12 ?_;intro w7 R12 t7;replace RT:=t7.row RT nT2;replace R9:=t7.row R9 n92;replace hB:=t7.below _ _ l12 hB))
      go_ret2
      exact⟨by rw[HF.out];show _=Ending.returned (.tuple #[I Z (qe5 N k),.bool true]);rw[←hPQ.out];rfl,hB⟩
     | some mm=>
      have HF:Hid (∀i',i'<k+1->qk7 ms p ((N/6:Nat):Int) (qe5 N i')=true):=by
       show ∀i',_
       intro i' hi'
       by_cases e:i'=k
       ·subst e;rw[qq5,←hPQ.out,←hkA.out,hfd];rfl
       ·exact hused i' om
      rw[hfd] at CB
      unfold qhw at CB
      clear hfd hused hpi
      go_wp2_with (first|(go_at_call 31;go_fit (C1 _);refine m03 ?_)|(refine lx 30 _ (tc f g h (.slice a0 n cap)) RT ?_)|(go_at_call 12;go_fit (CB _ (hM.keep hB hlt));rintro e w5 ⟨rfl,hb5⟩;clear d0 d1;replace RT:=RT.below hb5;replace R9:=R9.below hb5;refine m40 ?_;clear hB;intro hB)|(refine m5f ?_;intro b12 w6 l12 R12 hb6;have nT2:=RT.ne l12;have n92:=R9.ne l12;replace l12:=Nat.le_trans hB.size l12;replace RT:=RT.below hb6;replace R9:=R9.below hb6;replace hB:=hB.trans (hb6.mono hB.size))|(refine sx 32 _ _ (mc mm) R12 ?_;intro w7 R12 t7;replace RT:=t7.row RT nT2;replace R9:=t7.row R9 n92;replace hB:=t7.below _ _ l12 hB))
      go_roundw
      case rel=>exact⟨k+1,by omega,by go_num,HF.out,hB,RT,R9⟩
      case measure=>simp[intOf];omega
    ·(have e:k=8:=by omega)
     subst e
     have HF:Hid (qcy ms p l=qcy ms p (l.drop (j+1))):=by
      show _=_
      rw[HU.out]
      exact qpp hlj hN (qxj hused)
     clear hused hpi
     go_wp2
     go_roundw
     case rel=>exact⟨j+1,by omega,by go_num,HF.out,hB,RT⟩
     case measure=>(first|rw[hjw]|skip);exact qek (HL.out.symm▸hlj)
  ·(have e:j=l.length:=by omega);(have hjn:(L:Int)<=(j:Int):=by have:=HL.out;omega)
   have HF:Hid (qcy ms p l=none):=by
    show _=_
    rw[hun,e,List.drop_length];rfl
   clear e hj hlj hun
   go_wp2
   go_ret2
   exact⟨by rw[HF.out];rfl,hB⟩
theorem qxp(f:Nat->Int)(g:Nat->Bool)(h:Nat->Int)(sl:Value)(s d:Int)(hs0:0<=s)(hs8:s<8)(hh0:0<=h s.toNat)(hh3:h s.toNat<=3)(hd:(Lit.int .i64 d).wf=true)(w:World):
  Calls prog 53 #[.agg (tc f g h sl),.int .i64 s,.int .i64 d] w fun e w'=>e=.returned (.tuple #[.int .i64 (qdn f g h s d),.int .i64 (qgv f g h s)])/\Below w.heap.size w w':=by
 have hB:=Below.refl w.heap.size w;(have C:=fun w=>q6b f g d hd w)
 unfold plv at C
 by_cases hz:h s.toNat=0
 ·have HA:Hid (qdn f g h s d=qkr f g d):=if_pos hz;have HE:Hid (qgv f g h s=qk1 f g):=if_pos hz;(have dz:(h s.toNat != 0)=false:=by simp[hz]);clear hz
  go_enter func53,ntmps53
  go_wp2_with (first|(refine bx 30 _ _ ?_;intro b3 w1 l3 R3 hb1;replace hB:=hB.trans (hb1.mono hB.size);have cH:w1.cell? ⟨b3,21+s.toNat,none⟩=some (.int .i64 (h s.toNat)):=(R3.cell _).trans (qhc f g h sl s.toNat om);have hrp:=R3.pool)|(refine m33 ?_)|(go_at_call 60;go_fit (C _);rintro e w5 ⟨rfl,hb5⟩;refine m40 ?_;clear hB;intro hB))
  go_ret2
  exact⟨by rw[HA.out,HE.out];rfl,hB⟩
 ·have HA:Hid (qdn f g h s d=h s.toNat-1):=if_neg hz;have HE:Hid (qgv f g h s=0):=if_neg hz;(have dz:(h s.toNat != 0)=true:=by simp[hz]);(have hw1:wrap64 (h s.toNat-1)=h s.toNat-1:=by unfold wrap64;omega);clear hz
  go_enter func53,ntmps53
  go_wp2_with (refine bx 30 _ _ ?_;intro b3 w1 l3 R3 hb1;replace hB:=hB.trans (hb1.mono hB.size);have cH:w1.cell? ⟨b3,21+s.toNat,none⟩=some (.int .i64 (h s.toNat)):=(R3.cell _).trans (qhc f g h sl s.toNat om))
  go_ret2
  exact⟨by rw[HA.out,HE.out];rfl,hB⟩
def qc8(cs:Array Value):Nat->List Value->Array Value
 | _,[]=>cs
 | o,v::r=>qc8 (cs.setIfInBounds o v) (o+1) r
theorem Row.setAll:∀(vs:List Value) (o:Nat) (w:World) (cs:Array Value),Row t w b cs->Row t (w.setCells b o vs) b (qc8 cs o vs)
 | [],_,_,_,h=>h
 | v::r,o,w,cs,h=>by unfold World.setCells qc8;exact Row.setAll r (o+1) _ _ h.set
theorem qi4(b:Nat):∀(vs:List Value) (o:Nat) (w:World),qbl b w (w.setCells b o vs)
 | [],_,w=>⟨rfl,fun _ _=>rfl,fun _ _ _ h=>h⟩
 | v::r,o,w=>by
  have h:=qi4 b r (o+1) (w.setCell ⟨b,o,none⟩ v)
  unfold World.setCells
  exact⟨h.size.trans zm,fun k hk=>(h.other k hk).trans (Below.heap_setCell _ _ _ _ hk),fun B w0 hB hb=>h.below B w0 hB (hb.setCell (p:=⟨b,o,none⟩) hB v)⟩
theorem qr1(f f':Nat->Int)(g g':Nat->Bool)(h:Nat->Int)(sl:Value):qc8 (tc f g h sl) 0 (pc f' g').toList=tc f' g' h sl:=by kernel_rfl
theorem sZbd35(h:p:=by
 have hj':j<21:=hj
 refine⟨?_,R.free _⟩
 rw[R.cell,Nat.zero_add,Array.getElem?_eq_getElem (by rw[qcr];omega)];rfl):p:=h
theorem qkk(hgd:o.guard=none)(x y:Operand)(ho:o.op=.store 26 x y)(b:Nat)(hx:a.eval x=V (some ⟨b,0,none⟩))(f':Nat->Int)(g':Nat->Bool)(hy:a.eval y=.agg (pc f' g'))(f:Nat->Int)(g:Nat->Bool)(h:Nat->Int)(sl:Value)(R:Row 30 w b (tc f g h sl))(hr:∀w',Row 30 w' b (tc f' g' h sl)->qbl b w w'->wpList prog ops Q rest (a.put o.dst undef) w'):wpList prog ops Q (o::rest) a w:=by
 have ht:w.there b 0 (pc f' g').size:=fun j hj=>by
  exact sZbd35
 refine wpList_store_mid hgd 26 x y ho b 0 (pc f' g') hx hy ht (qfg f' g') (qoq f' g') ?_;have R':=Row.setAll (pc f' g').toList 0 w _ R
 rw[qr1] at R'
 exact hr _ R' (qi4 b _ 0 w)
theorem qg0{fn:Func}{p u v x:Tmp}(hf:fn.results=#[.cell p t,.tmp u,.tmp v,.tmp x])(tmps:Array Value)(w:World)(b:Nat)(cs:Array Value)(hp:tmps.getD p undef=V (some ⟨b,0,none⟩))(h:Row t w b cs)(d:TypeDesc)(hu:prog.underlying t=some d)(hd:d.isRow=true)(hi:(prog.info? t).map (·.size)=some cs.size):
  (results fn tmps).run prog w=.ok (.tuple #[.agg cs,tmps.getD u undef,tmps.getD v undef,tmps.getD x undef]) w:=by
 refine m14 ?_;intro hp' hl
 simp only[Array.toArray_toList] at hl
 simp[results,hf,hp',asAddr,hl]
theorem qrj(w:World):(zeroValue 26).run prog w=.ok (.agg (pc (fun _=>0) (fun _=>false))) w:=by kernel_rfl
theorem qhp(h:qbl b w.drew w'):qbl b w w':=⟨h.size,h.other,fun B w0 hB hb=>h.below B w0 hB (qea hb)⟩
def q00(g:Nat->Bool)(sl:Value)(r:qzo):Value:=.tuple #[.agg (tc r.f g r.h sl),I Z r.q,.bool r.took,I Z r.e]
theorem q7j(f f':Nat->Int)(g g':Nat->Bool):(pc f g).size=(pc f' g').size:=by rw[qf1,qf1]
theorem qen(f f':Nat->Int)(g g':Nat->Bool)(h h':Nat->Int)(sl sl':Value):(tc f g h sl).size=(tc f' g' h' sl').size:=by rw[qcr,qcr]
theorem sZbd32(h:p:=by
 go_enter func43,ntmps43
 go_wp2_with (first|(refine m3w ?_;intro b4 w1 R4 hb1 l4 hB)|(refine m2p ?_;clear R4 hB;intro b8 w2 R8 hb2 n48 l8 R4 hB)|(refine lx 30 (.tmp 4) (tc f g h (.slice a0 n cap)) R4 ?_)|(go_at_call 50;go_fit (C1 _);rintro e w5 ⟨v,rfl,⟨a1,c1,rfl⟩,hP,hb5⟩;refine m1d ?_;clear R4 R8 hB;intro R4 R8 hB)|(go_at_call 52;go_fit (C2 _ _ _ (hM.keep hB hlt) hP);rintro e w5 ⟨rfl,hb5⟩;refine m1d ?_;clear R4 R8 hB;intro R4 R8 hB)|(refine m1p ?_;clear hB;intro w6 R8 t6 hB))
 (refine m06 ?_;refine bodyPost_ret (qg0 rfl _ _ _ _ rfl R8 _ underlying30 rfl (qaq _ _ _ _)) rfl ⟨?_,hB⟩)
 rw[HR.out];rfl):p:=h
theorem qwa(f:Nat->Int)(g:Nat->Bool)(h:Nat->Int)(sl:Value)(ms:List Mp)(p s d:Int)(w:World)(hM:qaz w sl ms)(G:qbq f h ms)(hs:0<=s/\s<8)(hd:(Lit.int .i64 d).wf=true):
  Calls prog 43 #[.agg (tc f g h sl),.int .i64 p,.int .i64 s,.int .i64 d] w fun e w'=>e=.returned (q00 g sl (qbe f g h ms p s d))/\Below w.heap.size w w':=by
 refine m1t ?_;intro hB hM0
 obtain⟨a0,cap,hsl,-⟩:=hM0
 obtain⟨n,hn⟩:∃n,n=ms.length:=⟨_,rfl⟩
 rw[←hn] at hsl
 subst hsl
 refine m2d ?_;clear hn;intro HN hlt;have hs0:0<=s:=hs.1;have hs8:s<8:=hs.2;(have hs8n:s.toNat<8:=by omega);have hhome:=G.homeIn hs;(have C1:=fun w=>qiq f g h (.slice a0 n cap) s hs0 hs8 w);have hbl:(qbk f s).length<=18:=qoy f s 18;(have C2:=fun base v w hM hP=>q0y f g h (.slice a0 n cap) ms p base v (qbk f s) w hM hP hbl);(have C3:=fun w=>qxp f g h (.slice a0 n cap) s d hs0 hs8 hhome.1 hhome.2 hd w);clear hhome G
 cases hu:qcy ms p (qbk f s) with
 | some x=>
  have HR:Hid (qbe f g h ms p s d=_):=qq1 hu
  rw[hu] at C2
  unfold unS at C2
  obtain⟨LL,hLL⟩:∃LL,LL=(qbk f s).length:=⟨_,rfl⟩
  rw[←hLL] at C1
  clear hLL hbl hu
  exact sZbd32
 | none=>
  rw[hu] at C2
  unfold unS at C2
  obtain⟨LL,hLL⟩:∃LL,LL=(qbk f s).length:=⟨_,rfl⟩
  rw[←hLL] at C1
  by_cases h2:(qbk f s).length=2
  ·have HR:Hid (qbe f g h ms p s d=_):=qq6 hu h2;(have dL:((LL:Int)==2)=true:=by simp;omega);clear hLL hbl hu h2
   exact sZbd32
  ·(have dL:((LL:Int)==2)=false:=by simp;omega)
   by_cases hE:qgv f g h s=0
   rotate_left
   ·have HR:Hid (qbe f g h ms p s d=_):=qrd hu h2 hE;(have dE:(qgv f g h s != 0)=true:=by simp[hE]);clear hLL hbl hu h2 hE
    generalize qgv f g h s=EE at *
    generalize qdn f g h s d=aa at *
    go_enter func43,ntmps43
    go_wp2_with (first|(refine m3w ?_;clear hB;intro b4 w1 R4 hb1 l4 hB)|(refine m2p ?_;clear R4 hB;intro b8 w2 R8 hb2 n48 l8 R4 hB)|(refine lx 30 (.tmp 4) (tc f g h (.slice a0 n cap)) R4 ?_)|(go_at_call 50;go_fit (C1 _);rintro e w5 ⟨v,rfl,⟨a1,c1,rfl⟩,hP,hb5⟩;refine m1d ?_;clear R4 R8 hB;intro R4 R8 hB)|(go_at_call 52;go_fit (C2 _ _ _ (hM.keep hB hlt) hP);rintro e w5 ⟨rfl,hb5⟩;refine m1d ?_;clear R4 R8 hB;intro R4 R8 hB)|(refine m1p ?_;clear hB;intro w6 R8 t6 hB)|(go_at_call 53;go_fit (C3 _);rintro e w5 ⟨rfl,hb5⟩;clear hP;refine m1d ?_;clear R4 R8 hB;intro R4 R8 hB;have hrp:=R4.pool))
    (refine m06 ?_;refine bodyPost_ret (qg0 rfl _ _ _ _ rfl R8 _ underlying30 rfl (qaq _ _ _ _)) rfl ⟨?_,hB⟩)
    rw[HR.out];rfl
   ·by_cases hT:qdh f g s (qdn f g h s d)=0
    rotate_left
    ·have HR:Hid (qbe f g h ms p s d=_):=qq2 hu h2 hE hT
     rw[hE] at C3
     (have C4:=fun w=>qtm f g s (qdn f g h s d) d hd w)
     unfold qet plv at C4
     (have dT:(qdh f g s (qdn f g h s d) != 0)=true:=by simp[hT]);clear hLL hbl hu h2 hE hT
     generalize qdn f g h s d=aa at *
     generalize qdh f g s aa=EE at *
     generalize qi1 f g s aa d=FF at *
     generalize qft f g s aa d=KK at *
     go_enter func43,ntmps43
     go_wp2_with (first|(refine m3w ?_;clear hB;intro b4 w1 R4 hb1 l4 hB)|(refine m2p ?_;clear R4 hB;intro b8 w2 R8 hb2 n48 l8 R4 hB)|(refine lx 30 (.tmp 4) (tc f g h (.slice a0 n cap)) R4 ?_)|(go_at_call 50;go_fit (C1 _);rintro e w5 ⟨v,rfl,⟨a1,c1,rfl⟩,hP,hb5⟩;refine m1d ?_;clear R4 R8 hB;intro R4 R8 hB)|(go_at_call 52;go_fit (C2 _ _ _ (hM.keep hB hlt) hP);rintro e w5 ⟨rfl,hb5⟩;refine m1d ?_;clear R4 R8 hB;intro R4 R8 hB)|(refine m1p ?_;clear hB;intro w6 R8 t6 hB)|(go_at_call 53;go_fit (C3 _);rintro e w5 ⟨rfl,hb5⟩;clear hP;refine m1d ?_;clear R4 R8 hB;intro R4 R8 hB;have hrp:=R4.pool)|(refine m5n ?_)|(go_at_call 54;go_fit (C4 _);rintro e w5 ⟨rfl,hb5⟩;clear hrp;refine m1d ?_;clear R4 R8 hB;intro R4 R8 hB)|(refine ay 26 qrj ?_;intro b17 w7 l17 R17 hb7;have n417:=R4.ne l17;have n817:=R8.ne l17;replace l17:=Nat.le_trans hB.size l17;replace R4:=R4.below hb7;replace R8:=R8.below hb7;replace hB:=hB.trans (hb7.mono hB.size))|(refine qab 26 rfl (.tmp 17) _ rfl b17 rfl (pc FF g) rfl _ R17 (q7j _ _ _ _) (qfg _ _) (qoq _ _) ?_;intro w8 R17 t8;replace R4:=t8.row R4 n417;replace R8:=t8.row R8 n817;replace hB:=t8.below _ _ l17 hB))
     (refine m06 ?_;refine bodyPost_ret (qg0 rfl _ _ _ _ rfl R8 _ underlying30 rfl (qaq _ _ _ _)) rfl ⟨?_,hB⟩)
     rw[HR.out];rfl
    ·have HR:Hid (qbe f g h ms p s d=_):=quo hu h2 hE hT
     rw[hE] at C3
     (have C4:=fun w=>qtm f g s (qdn f g h s d) d hd w)
     unfold qet plv at C4
     rw[hT] at C4
     obtain⟨_,haR,_,_,hfr⟩:=qtj hT
     have hKm:=qj8 _ _ (qiu (qbo (rowF f (qdn f g h s d).toNat)) d hfr);(have hKe:qft f g s (qdn f g h s d) d=qep (qbo (rowF f (qdn f g h s d).toNat)) d:=by unfold qft;rw[if_pos hT])
     rw[←hKe] at hKm
     have hK6:=hKm.1;clear hLL hbl hu h2 hE hT hfr hKm hKe
     generalize qdn f g h s d=aa at *
     generalize qi1 f g s aa d=FF at *
     obtain⟨kk,hkk⟩:∃kk:Int,kk=((qft f g s aa d:Nat):Int):=⟨_,rfl⟩
     rw[←hkk] at C4 HR
     (have hk0:0<=kk:=by omega);(have hk6:kk<=6:=by omega);(have haw:wrap64 (aa+1)=aa+1:=by unfold wrap64;omega);(have e8:1024+8*kk=1024+kk*8:=by omega)
     rw[e8] at HR
     clear hkk hK6 e8 haR
     go_enter func43,ntmps43
     go_wp2_with (first|(refine m3w ?_;clear hB;intro b4 w1 R4 hb1 l4 hB)|(refine m2p ?_;clear R4 hB;intro b8 w2 R8 hb2 n48 l8 R4 hB)|(refine lx 30 (.tmp 4) (tc f g h (.slice a0 n cap)) R4 ?_)|(go_at_call 50;go_fit (C1 _);rintro e w5 ⟨v,rfl,⟨a1,c1,rfl⟩,hP,hb5⟩;refine m1d ?_;clear R4 R8 hB;intro R4 R8 hB)|(go_at_call 52;go_fit (C2 _ _ _ (hM.keep hB hlt) hP);rintro e w5 ⟨rfl,hb5⟩;refine m1d ?_;clear R4 R8 hB;intro R4 R8 hB)|(refine m1p ?_;clear hB;intro w6 R8 t6 hB)|(go_at_call 53;go_fit (C3 _);rintro e w5 ⟨rfl,hb5⟩;clear hP;refine m1d ?_;clear R4 R8 hB;intro R4 R8 hB;have hrp:=R4.pool)|(refine m5n ?_)|(go_at_call 54;go_fit (C4 _);rintro e w5 ⟨rfl,hb5⟩;clear hrp;refine m1d ?_;clear R4 R8 hB;intro R4 R8 hB)|(refine ay 26 qrj ?_;intro b17 w7 l17 R17 hb7;have n417:=R4.ne l17;have n817:=R8.ne l17;replace l17:=Nat.le_trans hB.size l17;replace R4:=R4.below hb7;replace R8:=R8.below hb7;replace hB:=hB.trans (hb7.mono hB.size))|(refine qab 26 rfl (.tmp 17) _ rfl b17 rfl (pc FF g) rfl _ R17 (q7j _ _ _ _) (qfg _ _) (qoq _ _) ?_;intro w8 R17 t8;replace R4:=t8.row R4 n417;replace R8:=t8.row R8 n817;replace hB:=t8.below _ _ l17 hB)|(refine lx 26 (.tmp 17) (pc FF g) R17 ?_)|(refine qkk rfl (.tmp 62) (.tmp 61) rfl b4 rfl FF g rfl f g h (.slice a0 n cap) R4 ?_;intro w9 R4 t9;replace R8:=t9.row R8 n48.symm;clear R17;replace hB:=t9.below _ _ l4 hB;have f4:=R4.free (21+s.toNat);have c4:World.cell? _ ⟨b4,21+s.toNat,none⟩=some (.int .i64 (h s.toNat)):=(R4.cell _).trans (qhc _ _ _ _ _ hs8n)))
     replace R4:=R4.set (o:=21+s.toNat) (v:=.int .i64 (aa+1))
     rw[qsk _ _ _ _ _ _ hs8n] at R4
     replace R8:=R8.other (b:=b4) (o:=21+s.toNat) (v:=.int .i64 (aa+1)) n48.symm;replace hB:=hB.setCell (p:=⟨b4,21+s.toNat,none⟩) l4 (.int .i64 (aa+1))
     refine RD (fun W=>Row 30 W b4 (tc FF g (upd h s.toNat (aa+1)) (.slice a0 n cap))) R4 (fun _=>?_)
     refine tk 0 (.agg (tc FF g (upd h s.toNat (aa+1)) (.slice a0 n cap))) rfl (yx 30 (.tmp 4) (tc FF g (upd h s.toNat (aa+1)) (.slice a0 n cap)) (fun _ h=>h)) R4 (tq 1 (.int .i64 kk) rfl R4 ?_)
     refine m3a ?_
     refine AC (fun K hK=>?_) AZ
     go_simp;go_at_call 31;refine(qkm kk hk0 hk6 _).mono ?_;rintro e w5 ⟨rfl,hw⟩;rw[hw];clear hw w5
     go_wp2_with fail
     refine hK.out _ _ R4 (fun _=>?_)
     clear hK K;(try simp only[ZZ]);refine AR [3] ?_
     refine AP (fun K hK=>?_) AZ
     refine qau 30 (.tmp 8) (.tmp 68) rfl b8 rfl (tc FF g (upd h s.toNat (aa+1)) (.slice a0 n cap)) rfl _ R8 (qen _ _ _ _ _ _ _ _) (qaq _ _ _ _) (qbm _ _ _ _ _ _) ?_;intro w10 R8 t10;(try replace t10:=qhp t10);replace R4:=t10.row R4 n48;replace hB:=t10.below _ _ l8 hB
     refine hK.out _ _ R4 (fun _=>?_)
     clear hK K;(try simp only[ZZ]);refine tq 4 (.int .i64 (1024+kk*8)) rfl R4 (tq 5 (.bool true) rfl R4 (tq 6 (.int .i64 0) rfl R4 ?_));refine m2c ?_
     go_wp2
     (refine m06 ?_;refine bodyPost_ret (qg0 rfl _ _ _ _ rfl R8 _ underlying30 rfl (qaq _ _ _ _)) rfl ⟨?_,by first|exact hB|exact qea hB⟩)
     rw[HR.out];rfl
theorem qycb{enc:TypeId×Value->H}{l:List Value}{x:DataW H×List MemPlace}(hl0:l.length=21)(hf0:DataW.trod enc prog w base sp held fuel 26 l=some x):∃k:qz1b,l=(pc k.f k.g).toList/\wfF k.f:=by
 refine m5b ?_;intro c44 c43;(have c45:prog.cellsOf 24=3:=by kernel_rfl);(have cI:prog.cellsOf 3=1:=by kernel_rfl);(have cO:prog.cellsOf 4=1:=by kernel_rfl)
 obtain⟨ys,m,_,hx,_,hl,hf⟩:=DataW.trod_struct underlying26 hf0
 match l,hl0 with
 | [c0,c1,c2,c3,c4,c5,c6,c7,c8,c9,c10,c11,c12,c13,c14,c15,c16,c17,c18,c19,c20],_=>
 match ys,hl with
 | [y0,y1],_=>
 have hy0:=hf 0 _ rfl;have hy1:=hf 1 _ rfl
 simp[c44,c45,Value.cells] at hy0 hy1
 obtain⟨zs,m1,_,hz,_,hzl,hzf⟩:=DataW.trod_array underlying23 hy0
 match zs,hzl with
 | [z0,z1,z2],_=>
 have hz0:=hzf 0 om;have hz1:=hzf 1 om;have hz2:=hzf 2 om
 simp[c43] at hz0 hz1 hz2
 obtain⟨ws0,n0,_,hw0,_,hwl0,hwf0⟩:=DataW.trod_array underlying22 hz0
 match ws0,hwl0 with
 | [w00,w01,w02,w03,w04,w05],_=>
 have hv0:=hwf0 0 om;have hv1:=hwf0 1 om;have hv2:=hwf0 2 om;have hv3:=hwf0 3 om;have hv4:=hwf0 4 om;have hv5:=hwf0 5 om
 simp[cI] at hv0 hv1 hv2 hv3 hv4 hv5
 obtain⟨x0,e0,rfl,s0⟩:=DataW.trod_int underlying3 hv0
 obtain⟨x1,e1,rfl,s1⟩:=DataW.trod_int underlying3 hv1
 obtain⟨x2,e2,rfl,s2⟩:=DataW.trod_int underlying3 hv2
 obtain⟨x3,e3,rfl,s3⟩:=DataW.trod_int underlying3 hv3
 obtain⟨x4,e4,rfl,s4⟩:=DataW.trod_int underlying3 hv4
 obtain⟨x5,e5,rfl,s5⟩:=DataW.trod_int underlying3 hv5
 obtain⟨ws1,n1,_,hw1,_,hwl1,hwf1⟩:=DataW.trod_array underlying22 hz1
 match ws1,hwl1 with
 | [w10,w11,w12,w13,w14,w15],_=>
 have hv6:=hwf1 0 om;have hv7:=hwf1 1 om;have hv8:=hwf1 2 om;have hv9:=hwf1 3 om;have hv10:=hwf1 4 om;have hv11:=hwf1 5 om
 simp[cI] at hv6 hv7 hv8 hv9 hv10 hv11
 obtain⟨x6,e6,rfl,s6⟩:=DataW.trod_int underlying3 hv6
 obtain⟨x7,e7,rfl,s7⟩:=DataW.trod_int underlying3 hv7
 obtain⟨x8,e8,rfl,s8⟩:=DataW.trod_int underlying3 hv8
 obtain⟨x9,e9,rfl,s9⟩:=DataW.trod_int underlying3 hv9
 obtain⟨x10,e10,rfl,s10⟩:=DataW.trod_int underlying3 hv10
 obtain⟨x11,e11,rfl,s11⟩:=DataW.trod_int underlying3 hv11
 obtain⟨ws2,n2,_,hw2,_,hwl2,hwf2⟩:=DataW.trod_array underlying22 hz2
 match ws2,hwl2 with
 | [w20,w21,w22,w23,w24,w25],_=>
 have hv12:=hwf2 0 om;have hv13:=hwf2 1 om;have hv14:=hwf2 2 om;have hv15:=hwf2 3 om;have hv16:=hwf2 4 om;have hv17:=hwf2 5 om
 simp[cI] at hv12 hv13 hv14 hv15 hv16 hv17
 obtain⟨x12,e12,rfl,s12⟩:=DataW.trod_int underlying3 hv12
 obtain⟨x13,e13,rfl,s13⟩:=DataW.trod_int underlying3 hv13
 obtain⟨x14,e14,rfl,s14⟩:=DataW.trod_int underlying3 hv14
 obtain⟨x15,e15,rfl,s15⟩:=DataW.trod_int underlying3 hv15
 obtain⟨x16,e16,rfl,s16⟩:=DataW.trod_int underlying3 hv16
 obtain⟨x17,e17,rfl,s17⟩:=DataW.trod_int underlying3 hv17
 obtain⟨us,q1,_,hu,_,hul,huf⟩:=DataW.trod_array underlying24 hy1
 match us,hul with
 | [u0,u1,u2],_=>
 have hg0:=huf 0 om;have hg1:=huf 1 om;have hg2:=huf 2 om
 simp[cO] at hg0 hg1 hg2
 obtain⟨b0,t0,rfl⟩:=DataW.trod_bool underlying4 hg0
 obtain⟨b1,t1,rfl⟩:=DataW.trod_bool underlying4 hg1
 obtain⟨b2,t2,rfl⟩:=DataW.trod_bool underlying4 hg2
 simp at e0 e1 e2 e3 e4 e5 e6 e7 e8 e9 e10 e11 e12 e13 e14 e15 e16 e17 t0 t1 t2
 subst e0 e1 e2 e3 e4 e5 e6 e7 e8 e9 e10 e11 e12 e13 e14 e15 e16 e17 t0 t1 t2
 simp at hw0 hw1 hw2 hu
 subst hw0 hw1 hw2 hu
 refine⟨⟨fun i=>[x0,x1,x2,x3,x4,x5,x6,x7,x8,x9,x10,x11,x12,x13,x14,x15,x16,x17].getD i 0,fun i=>[b0,b1,b2].getD i false⟩,rfl,fun i hi=>?_⟩
 rcases(show i=0\/i=1\/i=2\/i=3\/i=4\/i=5\/i=6\/i=7\/i=8\/i=9\/i=10\/i=11\/i=12\/i=13\/i=14\/i=15\/i=16\/i=17 by omega) with rfl|rfl|rfl|rfl|rfl|rfl|rfl|rfl|rfl|rfl|rfl|rfl|rfl|rfl|rfl|rfl|rfl|rfl
 ·exact s0
 ·exact s1
 ·exact s2
 ·exact s3
 ·exact s4
 ·exact s5
 ·exact s6
 ·exact s7
 ·exact s8
 ·exact s9
 ·exact s10
 ·exact s11
 ·exact s12
 ·exact s13
 ·exact s14
 ·exact s15
 ·exact s16
 ·exact s17
theorem qydb{enc:TypeId×Value->H}{l:List Value}{x:DataW H×List MemPlace}(hl0:l.length=8)(hf0:DataW.trod enc prog w base sp held fuel 27 l=some x):∃h:Nat->Int,l=hcl h/\wfH h:=by
 (have cI:prog.cellsOf 3=1:=by kernel_rfl)
 obtain⟨ws,n0,_,hw,_,hwl,hwf⟩:=DataW.trod_array underlying27 hf0
 match l,hl0 with
 | [c0,c1,c2,c3,c4,c5,c6,c7],_=>
 match ws,hwl with
 | [w0,w1,w2,w3,w4,w5,w6,w7],_=>
 have hv0:=hwf 0 om;have hv1:=hwf 1 om;have hv2:=hwf 2 om;have hv3:=hwf 3 om;have hv4:=hwf 4 om;have hv5:=hwf 5 om;have hv6:=hwf 6 om;have hv7:=hwf 7 om
 simp[cI] at hv0 hv1 hv2 hv3 hv4 hv5 hv6 hv7
 obtain⟨x0,e0,rfl,s0⟩:=DataW.trod_int underlying3 hv0
 obtain⟨x1,e1,rfl,s1⟩:=DataW.trod_int underlying3 hv1
 obtain⟨x2,e2,rfl,s2⟩:=DataW.trod_int underlying3 hv2
 obtain⟨x3,e3,rfl,s3⟩:=DataW.trod_int underlying3 hv3
 obtain⟨x4,e4,rfl,s4⟩:=DataW.trod_int underlying3 hv4
 obtain⟨x5,e5,rfl,s5⟩:=DataW.trod_int underlying3 hv5
 obtain⟨x6,e6,rfl,s6⟩:=DataW.trod_int underlying3 hv6
 obtain⟨x7,e7,rfl,s7⟩:=DataW.trod_int underlying3 hv7
 simp at e0 e1 e2 e3 e4 e5 e6 e7
 subst e0 e1 e2 e3 e4 e5 e6 e7
 refine⟨fun i=>[x0,x1,x2,x3,x4,x5,x6,x7].getD i 0,rfl,fun i hi=>?_⟩
 rcases(show i=0\/i=1\/i=2\/i=3\/i=4\/i=5\/i=6\/i=7 by omega) with rfl|rfl|rfl|rfl|rfl|rfl|rfl|rfl
 ·exact s0
 ·exact s1
 ·exact s2
 ·exact s3
 ·exact s4
 ·exact s5
 ·exact s6
 ·exact s7
theorem q30{enc:TypeId×Value->H}{l:List Value}{x:DataW H×List MemPlace}(hl0:l.length=5)(hf0:DataW.trod enc prog w base sp held fuel 32 l=some x):∃m:Mp,l=mcl m:=by
 (have cI:prog.cellsOf 3=1:=by kernel_rfl)
 obtain⟨ys,m,_,hx,_,hl,hf⟩:=DataW.trod_struct underlying32 hf0
 match l,hl0 with
 | [c0,c1,c2,c3,c4],_=>
 match ys,hl with
 | [y0,y1,y2,y3,y4],_=>
 have hv0:=hf 0 _ rfl;have hv1:=hf 1 _ rfl;have hv2:=hf 2 _ rfl;have hv3:=hf 3 _ rfl;have hv4:=hf 4 _ rfl
 simp[cI] at hv0 hv1 hv2 hv3 hv4
 obtain⟨x0,e0,rfl,s0⟩:=DataW.trod_int underlying3 hv0
 obtain⟨x1,e1,rfl,s1⟩:=DataW.trod_int underlying3 hv1
 obtain⟨x2,e2,rfl,s2⟩:=DataW.trod_int underlying3 hv2
 obtain⟨x3,e3,rfl,s3⟩:=DataW.trod_int underlying3 hv3
 obtain⟨x4,e4,rfl,s4⟩:=DataW.trod_int underlying3 hv4
 simp at e0 e1 e2 e3 e4
 subst e0 e1 e2 e3 e4
 exact⟨(x0,x1,x2,x3,x4),rfl⟩
theorem qzgb{enc:TypeId×Value->H}{l:List Value}{x:DataW H×List MemPlace}(hf0:DataW.trod enc prog w 0 sp held fuel 28 l=some x)(hw:∀y∈x.1.weights prog 28,y<=reachBytes):∃sl ms,l=[sl]/\qaz w sl ms/\qcs sl:=by
 (have c5:prog.cellsOf 32=5:=by kernel_rfl);(have hby:prog.bytesOf 32=40:=by kernel_rfl)
 rcases Go.Deep.open_slice underlying28 hf0 with⟨rfl,rfl⟩|⟨a,len,cap,m,n,D,Pl,rfl,hb,hl,hm,hmm,rfl,hx⟩
 ·exact⟨_,[],rfl,qaz.nil w,fun n c e=>by injection e with _ _ e3;exact e3.symm⟩
 ·(have hlm:len<=m:=by rw[hmm];split<;>omega)
  have hbd:len<=140737488355328:=by
   have h1:=hw _ (by simp only[DataW.weights,underlying28];exact List.mem_cons_self)
   rw[hby] at h1
   simp[reachBytes] at h1
   omega
  have each:∀i,i<len->∃q:Mp,∀k v,(mcl q)[k]?=some v->w.cell? (a.add (5*i+k))=some v:=by
   intro i hi;obtain⟨cs',h1,h2⟩:=hx i om
   rw[c5] at h1
   obtain⟨_,hlen,hcell⟩:=World.cells?_some h1
   obtain⟨q,rfl⟩:=q30 hlen h2
   refine⟨q,fun k v hv=>?_⟩
   (have hk:k<5:=by have:=(List.getElem?_eq_some_iff.1 hv).1;simpa[mcl] using this)
   have:=hcell k hk
   rw[Go.Deep.add_add,Nat.mul_comm i 5] at this
   first|exact this.trans hv|(rw[this];simpa using hv)
  obtain⟨q,hq⟩:=Go.Deep.choose_lt each
  have hsp:0<len->a=⟨a.block,a.off,none⟩:=by
   intro h0
   have:=hq 0 h0 0 _ rfl
   obtain⟨b,off,spot⟩:=a;(have hspot:spot=none:=by simpa[Addr.add] using World.cell?_spot this)
   subst hspot
   rfl
  refine⟨_,(List.range len).map q,rfl,⟨some a,cap,by simp,fun h0=>?_,fun j hj k v hv=>?_,by simpa using hbd,cap,by simp,by simpa using hl⟩,fun n c e=>(by injection e with e1;simp at e1)⟩
  ·rw[hsp (by simpa using h0)];rfl
  ·refine m3c ?_;intro hj' e1
   rw[e1] at hv
   have:=hq j hj' k v hv
   rw[hsp om,Addr.add_lit] at this
   show w.cell? ⟨a.block,a.off+5*j+k,none⟩=some v
   rw[Nat.add_assoc]
   exact this
theorem qywb{enc:TypeId×Value->H}{r:Reach}{b0:Nat}{d:DataW H}{ps:List MemPlace}(hval:Value.okWide prog w r b0 30 v)(hd:DataW.Trod enc prog w 0 sp held 30 v d ps)(hw:∀y∈d.weights prog 30,y<=reachBytes):
  ∃(f:Nat->Int) (g:Nat->Bool) (h:Nat->Int) (sl:Value) (ms:List Mp),v=.agg (tc f g h sl)/\wfF f/\wfH h/\qcs sl/\qaz w sl ms:=by
 (have c30:prog.cellsOf 30=30:=by kernel_rfl);(have c21:prog.cellsOf 26=21:=by kernel_rfl);(have c8:prog.cellsOf 27=8:=by kernel_rfl);(have c1:prog.cellsOf 28=1:=by kernel_rfl)
 obtain⟨cs,rfl,hcs⟩:=okWide_struct underlying30 hval
 obtain⟨fuel,hf⟩:=hd
 obtain⟨ys,m,_,hx,_,hl,hf⟩:=DataW.trod_struct underlying30 hf
 rw[c30] at hcs
 match ys,hl with
 | [y0,y1,y2],_=>
 (have hy0:DataW.trod enc prog w 0 sp held m 26 ((cs.toList.drop 0).take 21)=some y0:=by have:=hf 0 _ rfl;simpa[c21,Value.cells] using this);(have hy1:DataW.trod enc prog w 0 sp held m 27 ((cs.toList.drop 21).take 8)=some y1:=by have:=hf 1 _ rfl;simpa[c8,Value.cells] using this);(have hy2:DataW.trod enc prog w 0 sp held m 28 ((cs.toList.drop 29).take 1)=some y2:=by have:=hf 2 _ rfl;simpa[c1,Value.cells] using this);(have hlen:cs.toList.length=30:=by simpa using hcs);obtain⟨k,e0,wk⟩:=qycb (by simp[hlen]) hy0;obtain⟨h,e1,wh⟩:=qydb (by simp[hlen]) hy1
 have hw2:∀y∈y2.1.weights prog 28,y<=reachBytes:=by
  intro y hy
  apply hw
  injection hx with hx1 hx2
  rw[hx1]
  simp only[DataW.weights,underlying30,List.map_cons,List.map_nil,DataW.weightsEach]
  simp[DataW.weightsEach,hy]
 obtain⟨sl,ms,e2,hM,hno⟩:=qzgb hy2 hw2
 refine⟨k.f,k.g,h,sl,ms,?_,wk,wh,hno,hM⟩
 have e3:cs.toList=(cs.toList.drop 0).take 21++((cs.toList.drop 21).take 8++(cs.toList.drop 29).take 1):=by
  rw[List.drop_zero]
  conv=>lhs;rw[←List.take_append_drop 21 cs.toList]
  congr 1
  conv=>lhs;rw[←List.take_append_drop 8 (cs.toList.drop 21)]
  congr 1
  rw[List.drop_drop]
  rw[List.take_of_length_le (by simp[hlen])]
 rw[e0,e1,e2] at e3
 (have e4:cs=(cs.toList).toArray:=by simp);rw[e4,e3]
 congr 1
 kernel_rfl
theorem qyqb(m:Mp):(prog.info? 52).map (·.size)=some (mc m).size:=by kernel_rfl
theorem qylb(m:Mp):(prog.info? 52).map (·.size)=some (mcl m).length:=by kernel_rfl
theorem qypb(w:World):(zeroValue 52).run prog w=.ok (.agg (mc noM)) w:=by kernel_rfl
theorem qykb{sl:Value}(hM:qaz w sl ms)(j:Nat)(hj:j<ms.length)(w2:World):(Instr.indexAt 49 sl (I Z (j:Int))).run prog w2=.ok (V (some ⟨mb sl,mo sl+5*j,none⟩)) w2:=by
 obtain⟨a0,cap,e,h1,h2,h3⟩:=hM;have e1:=h1 om
 generalize mb sl=B at *
 generalize mo sl=O at *
 subst e1
 subst e
 refine m5s ?_;intro hn hjl;(have hs:(sizeOf 52).run prog w2=.ok 5 w2:=by kernel_rfl)
 simp[go_sem,hj,hn,hjl,underlying49,hs]
theorem qyrb{K:Act->World->Prop}(x y:Operand)(ho:o.op=.store 26 x y)(b:Nat)(hx:a.eval x=V (some ⟨b,0,none⟩))(f':Nat->Int)(g':Nat->Bool)(hy:a.eval y=.agg (pc f' g'))(f:Nat->Int)(g:Nat->Bool)(h:Nat->Int)(sl:Value)(R:Row 30 w b (tc f g h sl))(hr:∀w',Row 30 w' b (tc f' g' h sl)->qbl b w w'->K (a.put o.dst undef) w'):o.wp prog a w K Q:=by
 have ht:w.there b 0 (pc f' g').size:=fun j hj=>by
  exact sZbd35
 refine wp_store_mid 26 x y ho b 0 (pc f' g') hx hy ht (qfg f' g') (qoq f' g') ?_;have R':=Row.setAll (pc f' g').toList 0 w _ R
 rw[qr1] at R'
 exact hr _ R' (qi4 b _ 0 w)
theorem qzm(h:j<=n)(hn:n<=140737488355328):wrap64 ((j:Int)+1)=(j:Int)+1:=by unfold wrap64;omega
theorem q08{m:Mp}{s:Int}(hlj:j<ms.length)(hm:ms[j]=m):cntM (ms.take (j+1)) s=cntM (ms.take j) s+if m.2.1=s then 1 else 0:=by
 unfold cntM;rw[qic hlj hm,List.filter_append,List.length_append]
 by_cases e:m.2.1=s
 ·simp[e]
 ·simp[e]
theorem q7n(ms:List Mp)(s:Int)(j:Nat):cntM (ms.take j) s<=ms.length:=by
 unfold cntM;exact Nat.le_trans (List.length_filter_le _ _) (by rw[List.length_take];omega)
theorem qh5(f:Nat->Int)(g:Nat->Bool)(h:Nat->Int)(sl:Value)(ms:List Mp)(s:Int)(w:World)(hM:qaz w sl ms):
  Calls prog 42 #[.agg (tc f g h sl),I Z s] w fun e w'=>e=.returned (I Z ((cntM ms s:Nat):Int))/\Below w.heap.size w w':=by
 refine m1t ?_;intro hB hM0
 obtain⟨a0,cap,hsl,-⟩:=hM0
 obtain⟨n,hn⟩:∃n,n=ms.length:=⟨_,rfl⟩
 rw[←hn] at hsl
 subst hsl
 refine m2d ?_;clear hn;intro HN hlt;have hml:=hM.len
 go_enter func42,ntmps42
 go_wp2_with (refine m1b ?_;clear hB;intro bT w1 RT hb1 lT hB;have cM:w1.cell? ⟨bT,29,none⟩=some (.slice a0 n cap):=(RT.cell 29).trans (qdw _ _ _ _))
 clear hml
 go_loopw [5,11] (fun c i W=>∃j:Nat,j<=ms.length/\i=I Z j/\c=I Z ((cntM (ms.take j) s:Nat):Int)/\Below w.heap.size w W) (fun _ i _=>n-(intOf i).toNat)
 case atStart=>exact⟨0,by omega,rfl,by simp[cntM],hB⟩
 case round=>
  clear hB cM RT hb1
  obtain⟨j,hj,rfl,rfl,hB⟩:=hrel
  by_cases hlj:j<ms.length
  ·refine m0h ?_;intro hjn hjw
   obtain⟨m,hm⟩:∃m,ms[j]=m:=⟨_,rfl⟩
   refine m59 ?_;intro hMW hrg;have hcs:=q08 (s:=s) hlj hm;have hcw:wrap64 (((cntM (ms.take j) s:Nat):Int)+1)=((cntM (ms.take j) s:Nat):Int)+1:=qzm (q7n ms s j) hM.len
   by_cases hs:m.2.1=s
   ·rw[if_pos hs] at hcs
    have HC:Hid (cntM (ms.take (j+1)) s=cntM (ms.take j) s+1):=hcs;(have dz:(m.2.1==s)=true:=by simpa using hs);clear hcs hs
    generalize cntM (ms.take j) s=c at *
    go_wp2_with (first|(refine m54 ?_)|(refine m0i ?_)|(refine m5f ?_;intro b7 w3 l7 R7 hb3;replace l7:=Nat.le_trans hB.size l7;replace hB:=hB.trans (hb3.mono hB.size))|(refine qab 32 rfl _ _ rfl b7 rfl (mc m) rfl _ R7 rfl (qak m) (qa3 m) ?_;intro w4 R7 t4;have c1:=m1 R7;replace hB:=t4.below _ _ l7 hB))
    go_roundw
    case rel=>
     first
      | exact⟨j+1,by omega,by go_num,by rw[HC.out];go_num,hB⟩
      | ((repeat apply Exists.intro);exact⟨⟨j+1,by omega,by go_num,by rw[HC.out];go_num,hB⟩,rfl⟩)
    case measure=>rw[hjw];exact qek (HN.out.symm▸hlj)
   ·rw[if_neg hs] at hcs
    have HC:Hid (cntM (ms.take (j+1)) s=cntM (ms.take j) s):=hcs;(have dz:(m.2.1==s)=false:=by simpa using hs);clear hcs hs
    generalize cntM (ms.take j) s=c at *
    go_wp2_with (first|(refine m54 ?_)|(refine m0i ?_)|(refine m5f ?_;intro b7 w3 l7 R7 hb3;replace l7:=Nat.le_trans hB.size l7;replace hB:=hB.trans (hb3.mono hB.size))|(refine qab 32 rfl _ _ rfl b7 rfl (mc m) rfl _ R7 rfl (qak m) (qa3 m) ?_;intro w4 R7 t4;have c1:=m1 R7;replace hB:=t4.below _ _ l7 hB))
    go_roundw
    case rel=>
     first
      | exact⟨j+1,by omega,by go_num,by rw[HC.out],hB⟩
      | ((repeat apply Exists.intro);exact⟨⟨j+1,by omega,by go_num,by rw[HC.out],hB⟩,rfl⟩)
    case measure=>rw[hjw];exact qek (HN.out.symm▸hlj)
  ·(have e:j=ms.length:=by omega);refine m3r ?_;intro hjn;(have HC:Hid (cntM (ms.take j) s=cntM ms s):=by show _=_;rw[e,List.take_length]);clear e hj hlj
   generalize cntM (ms.take j) s=c at *
   go_wp2
   go_ret
   exact⟨by rw[←HC.out];rfl,hB⟩
def qi2(f:Nat->Int)(ms:List Mp)(N:Nat):Prop:=∀s:Nat,s<N->(qbk f s).length<=2/\cntM ms s<=12
theorem qzk{f:Nat->Int}{N:Nat}(h:qi2 f ms N)(h1:(qbk f N).length<=2)(h2:cntM ms N<=12):qi2 f ms (N+1):=fun s hs=>by
 by_cases e:s=N
 ·subst e;exact⟨h1,h2⟩
 ·exact h s om
theorem sZbd31(h:p:=by
 go_ret
 first|exact⟨_,by first|exact HF.out|simpa using HF.out,rfl,hB⟩|exact Or.inr ⟨by simpa using HF.out,rfl,hB⟩|exact Or.inl ⟨by simpa using HF.out,rfl,hB⟩):p:=h
theorem qkt(f:Nat->Int)(g:Nat->Bool)(h:Nat->Int)(sl:Value)(ms:List Mp)(w:World)(hM:qaz w sl ms):
  Calls prog 36 #[.agg (tc f g h sl)] w fun e w'=>∃r:Bool,(r=true↔qi2 f ms 8)/\e=.returned (.bool r)/\Below w.heap.size w w':=by
 refine m1t ?_;intro hB hM0
 obtain⟨a0,cap,hsl,-⟩:=hM0
 obtain⟨n,hn⟩:∃n,n=ms.length:=⟨_,rfl⟩
 rw[←hn] at hsl
 subst hsl
 refine m2d ?_;clear hn;intro HN hlt;(have C2:=fun s w hM=>qh5 f g h (.slice a0 n cap) ms s w hM)
 go_enter func36,ntmps36
 go_wp2_with (refine m1b ?_;clear hB;intro bT w1 RT hb1 lT hB)
 go_loopw [4] (fun i W=>∃j:Nat,j<=8/\i=I Z j/\qi2 f ms j/\Below w.heap.size w W/\Row 30 W bT (tc f g h (.slice a0 n cap))) (fun i _=>8-(intOf i).toNat)
 case atStart=>exact⟨0,by omega,rfl,fun s hs=>absurd hs om,hB,RT⟩
 case round=>
  clear hB RT hb1
  obtain⟨j,hj,rfl,hfew,hB,RT⟩:=hrel
  by_cases hlj:j<8
  ·(have C1:=fun w=>qiq f g h (.slice a0 n cap) (j:Int) om om w)
   obtain⟨l,hl⟩:∃l,l=(qbk f (j:Int)).length:=⟨_,rfl⟩
   obtain⟨c,hc⟩:∃c,c=cntM ms (j:Int):=⟨_,rfl⟩
   rw[←hl] at C1
   have C2j:=C2 (j:Int)
   rw[←hc] at C2j
   by_cases h2:l<=2
   ·have h2':decide ((2:Int)<(l:Int))=false:=decide_eq_false om
    by_cases h12:c<=12
    ·have h12':decide ((12:Int)<(c:Int))=false:=decide_eq_false om;have HF:Hid (qi2 f ms (j+1)):=qzk hfew (hl▸h2) (hc▸h12);clear hl hc h2 h12
     go_wp2_with (first|(refine qac 30 _ rfl ?_ _ rfl (tc f g h (.slice a0 n cap)) RT _ underlying30 rfl (qaq _ _ _ _) ?_;· rfl)|(go_at_call 50;go_fit (C1 _);rintro e w5 ⟨v,rfl,⟨a1,c1,rfl⟩,hP,hb5⟩;clear hP;replace RT:=RT.below hb5;refine m40 ?_;clear hB;intro hB)|(go_at_call 42;refine(C2j _ (hM.keep hB hlt)).mono ?_;rintro e w5 ⟨rfl,hb5⟩;replace RT:=RT.below hb5;refine m40 ?_;clear hB;intro hB))
     go_roundw
     case rel=>exact⟨j+1,by omega,by go_num,HF.out,hB,RT⟩
     case measure=>simp[intOf];omega
    ·(have h12':(12:Int)<(c:Int):=by omega)
     have HF:Hid ((false=true)↔qi2 f ms 8):=by
      show _↔_
      exact⟨fun h=>by simp at h,fun h=>by have:=(h j hlj).2;omega⟩
     clear hl hc h2 h12
     go_wp2_with (first|(refine qac 30 _ rfl ?_ _ rfl (tc f g h (.slice a0 n cap)) RT _ underlying30 rfl (qaq _ _ _ _) ?_;· rfl)|(go_at_call 50;go_fit (C1 _);rintro e w5 ⟨v,rfl,⟨a1,c1,rfl⟩,hP,hb5⟩;clear hP;replace RT:=RT.below hb5;refine m40 ?_;clear hB;intro hB)|(go_at_call 42;refine(C2j _ (hM.keep hB hlt)).mono ?_;rintro e w5 ⟨rfl,hb5⟩;replace RT:=RT.below hb5;refine m40 ?_;clear hB;intro hB))
     exact sZbd31
   ·(have h2':(2:Int)<(l:Int):=by omega)
    have HF:Hid ((false=true)↔qi2 f ms 8):=by
     show _↔_
     exact⟨fun h=>by simp at h,fun h=>by have:=(h j hlj).1;omega⟩
    clear hl hc h2
    go_wp2_with (first|(refine qac 30 _ rfl ?_ _ rfl (tc f g h (.slice a0 n cap)) RT _ underlying30 rfl (qaq _ _ _ _) ?_;· rfl)|(go_at_call 50;go_fit (C1 _);rintro e w5 ⟨v,rfl,⟨a1,c1,rfl⟩,hP,hb5⟩;clear hP;replace RT:=RT.below hb5;refine m40 ?_;clear hB;intro hB))
    exact sZbd31
  ·(have e:j=8:=by omega)
   subst e
   have HF:Hid ((true=true)↔qi2 f ms 8):=by
    show _↔_
    exact⟨fun _=>hfew,fun _=>rfl⟩
   clear hj hlj hfew
   go_wp2
   exact sZbd31
theorem qe0(t:TypeId)(x:Operand)(ho:o.op=.load t x)(hw:Region.wanted o (yielded ops a.tmps)=true)(b off:Nat)(hx:a.eval x=V (some ⟨b,off,none⟩))(cs:List Value)(d:TypeDesc)(h:w.rangeAt b off cs)(hu:prog.underlying t=some d)(hd:d.isRow=true)(hi:(prog.info? t).map (·.size)=some cs.length)(hr:wpList prog ops Q rest (a.put o.dst (.agg cs.toArray)) w):wpList prog ops Q (o::rest) a w:=
 wpList_step fun K hK=>by
  rw[if_pos hw]
  exact wp_load_mid t x ho b off hx cs d h hu hd hi (hK _ _ hr)
theorem sZbd33(h:p:=by
 go_wp2_with (first|(refine wpList_load_mid ?_ 23 _ rfl bN 0 rfl (ocl (qd0 f ms)) _ RN.owners underlying23 rfl (qhm _) ?_;(· rfl);rw[qip])|(refine wpList_load_mid ?_ 23 _ rfl bT 0 rfl (ocl f) _ RT.owners underlying23 rfl (qhm _) ?_;(· rfl);rw[qip])|(refine qb1 23 _ _ rfl rfl (oc (qd0 f ms)) (oc f) rfl rfl eqGuardType23 _ _ (qq8 _ _ hwN hwF _) hEO.out ?_)|(refine qe0 27 _ rfl ?_ bN 21 rfl (hcl (qdq h ms)) _ RN.homes underlying27 rfl (qfd _) ?_;(· rfl);rw[qkf])|(refine qe0 27 _ rfl ?_ bT 21 rfl (hcl h) _ RT.homes underlying27 rfl (qfd _) ?_;(· rfl);rw[qkf])|(refine qb1 27 _ _ rfl ?_ (hc8 (qdq h ms)) (hc8 h) rfl rfl eqGuardType27 _ _ (qmy _ _ hwM hwH _) hEH.out ?_;· rfl)|(refine qac 30 _ rfl ?_ _ rfl (tc f g h (.slice a0 n cap)) RT _ underlying30 rfl (qaq _ _ _ _) ?_;· rfl)|(go_at_call 36;refine m6h ?_;rintro e w5 ⟨r,hr,rfl,hb5⟩;obtain rfl:r=true:=zm;clear hr;refine m40 ?_;clear hB;intro hB))
 exact sZbd31):p:=h
theorem sZbd34(h:p:=by
 refine hK.out _ _ ⟨RT,R5⟩ (fun _=>?_)
 clear hK K;(try simp only[ZZ]);refine tq 11 (.bool true) rfl ⟨RT,R5⟩ ?_;refine m2c ?_
 go_wp2
 exact sZbd31):p:=h
theorem qf8(f:Nat->Int)(g:Nat->Bool)(h:Nat->Int)(sl:Value)(ms:List Mp)(hwH:wfH h)(w:World)(hM:qaz w sl ms):
  Calls prog 16 #[.agg (tc f g h sl)] w fun e w'=>∃r:Bool,(r=true↔qbq f h ms)/\e=.returned (.bool r)/\Below w.heap.size w w':=by
 refine m1t ?_;intro hB hM0
 obtain⟨a0,cap,hsl,-⟩:=hM0
 obtain⟨n,hn⟩:∃n,n=ms.length:=⟨_,rfl⟩
 rw[←hn] at hsl
 subst hsl
 refine m2d ?_;clear hn;intro HN hlt;(have C0:=fun w=>qni f g w)
 unfold plv at C0
 cases hgp:qcv f with
 | false=>
  rw[hgp] at C0
  have HF:Hid ((false=true)↔qbq f h ms):=by
   show _↔_
   exact⟨fun h=>by simp at h,fun h=>by have:=h.pool;rw[hgp] at this;exact this⟩
  clear hgp
  go_enter func16,ntmps16
  go_wp2_with (first|(refine m1b ?_;clear hB;intro bT w1 RT hb1 lT hB;have hrp:=RT.pool)|(refine m33 ?_)|(go_at_call 32;go_fit (C0 _);rintro e w5 ⟨rfl,hb5⟩;refine m40 ?_;clear hB;intro hB))
  exact sZbd31
 | true=>
  rw[hgp] at C0
  have HG:Hid (qcv f=true):=hgp;have hwF:=qpn hgp;clear hgp
  go_enter func16,ntmps16
  go_wp2_with (first|(refine m1b ?_;clear hB;intro bT w1 RT hb1 lT hB;have hrp:=RT.pool)|(refine m33 ?_)|(go_at_call 32;go_fit (C0 _);rintro e w5 ⟨rfl,hb5⟩;clear hrp;replace RT:=RT.below hb5;refine m40 ?_;clear hB;intro hB)|(refine ay 30 qb8 ?_;intro bN w2 lN RN hb2;have nTN:=RT.ne lN;replace lN:=Nat.le_trans hB.size lN;replace RT:=RT.below hb2;refine m4a ?_;clear hB;intro hB cM))
  go_loopw [15] (fun i W=>∃j:Nat,j<=ms.length/\i=I Z j/\MsOk f h (ms.take j)/\Below w.heap.size w W/\Row 30 W bT (tc f g h (.slice a0 n cap))/\Row 30 W bN (tc (qd0 f (ms.take j)) (fun _=>false) (qdq h (ms.take j)) (.slice none 0 0))) (fun i _=>n-(intOf i).toNat)
  case atStart=>exact⟨0,by omega,rfl,qvg f h,hB,RT,by rw[List.take_zero,q09,q3t];exact RN⟩
  case round=>
   clear hB RT RN cM hb1
   obtain⟨j,hj,rfl,hok,hB,RT,RN⟩:=hrel
   by_cases hlj:j<ms.length
   ·(have hjn:(j:Int)<(n:Int):=by have:=HN.out;omega);(have hjc:(j:Int)<=(cap:Int):=by have:=hM.cap;omega);(have hj0:(0:Int)<=(j:Int):=by omega);have hjw:=qga hlj hM.len
    obtain⟨⟨p,s,i,a,q⟩,hm⟩:∃m,ms[j]=m:=⟨_,rfl⟩
    refine m59 ?_;intro hMW hrg;have hmem:(p,s,i,a,q)∈ms:=hm▸List.getElem_mem hlj;have htk:=qic hlj hm
    by_cases hst0:qdb f h (p,s,i,a,q)
    rotate_left
    ·have hst:Hid (¬qdb f h (p,s,i,a,q)):=hst0
     have HF:Hid ((false=true)↔qbq f h ms):=by
      show _↔_
      exact⟨fun h=>by simp at h,fun h=>absurd (h.maps.1 _ hmem) hst0⟩
     clear hst0 hmem htk hm hok
     go_wp2_with (first|(refine qb5 rfl (.tmp 13) (.tmp 15) rfl (.slice a0 n cap) ms hMW rfl j rfl hlj ?_)|(refine m39 ?_)|(refine m3j ?_;clear RT RN hB;intro b5 w3 R5 hb3 nT nN l5 RT RN hB)|(refine m5y ?_;clear RT RN hB;intro w4 R5 t4 RT RN hB))
     refine RD (fun W=>Row 30 W bT (tc f g h (.slice a0 n cap))/\Row 32 W b5 (mc (p,s,i,a,q))) ⟨RT,R5⟩ (fun _=>?_)
     refine tk 0 (.agg (tc f g h (.slice a0 n cap))) rfl (yx 30 (.tmp 1) (tc f g h (.slice a0 n cap)) (fun _ h=>h.1)) ⟨RT,R5⟩ (tk 1 (.agg (mc (p,s,i,a,q))) rfl (qav 32 (.tmp 5) rfl kr b5 kr (mc (p,s,i,a,q)) (fun _ h=>h.2) _ underlying32 rfl (qak (p,s,i,a,q))) ⟨RT,R5⟩ ?_)
     refine m3a ?_
     refine AC (fun K hK=>?_) AZ
     go_simp
     go_at_call 33;refine(qnw f g h (.slice a0 n cap) p s i a q _).mono ?_;rintro e w5 ⟨r,hr,rfl,hb5⟩;(try replace hb5:=qa1 hb5);obtain rfl:r=false:=(by cases r with|false=>rfl|true=>exact absurd (hr.1 rfl) hst.out);refine m2q ?_;clear RT RN R5 hB;intro RT RN R5 hB;clear hr
     go_wp2_with fail
     refine hK.out _ _ ⟨RT,R5⟩ (fun _=>?_)
     clear hK K;(try simp only[ZZ]);refine tq 3 (.bool true) rfl ⟨RT,R5⟩ (tq 4 (.bool true) rfl ⟨RT,R5⟩ (tk 5 undef rfl (Or.inr ⟨by kernel_rfl,rfl⟩) ⟨RT,R5⟩ ?_));simp only[ZZ];refine tk 6 undef rfl (Or.inr ⟨by kernel_rfl,rfl⟩) ⟨RT,R5⟩ (tk 7 undef rfl (Or.inr ⟨by kernel_rfl,rfl⟩) ⟨RT,R5⟩ (tk 8 undef rfl (Or.inr ⟨by kernel_rfl,rfl⟩) ⟨RT,R5⟩ ?_));simp only[ZZ];refine tk 9 undef rfl (Or.inr ⟨by kernel_rfl,rfl⟩) ⟨RT,R5⟩ ?_;simp only[ZZ];refine AR [10] ?_
     refine AC (fun K hK=>?_) AZ
     rw[if_neg (ne_true_of_eq_false kr)]
     exact sZbd34
    have hst:Hid (qdb f h (p,s,i,a,q)):=hst0
    cases hmt:qc0 (ms.take j) (p,s,i,a,q) with
    | true=>
     have hmeet:Hid (qc0 (ms.take j) (p,s,i,a,q)=true):=hmt
     have HF:Hid ((false=true)↔qbq f h ms):=by
      show _↔_
      refine⟨fun h=>by simp at h,fun h=>?_⟩
      have h1:=h.maps.2.sublist (List.take_sublist (j+1) ms)
      rw[htk,List.pairwise_append] at h1
      (have h2:qc0 (ms.take j) (p,s,i,a,q)=false:=qi6.2 (fun o ho=>h1.2.2 o ho (p,s,i,a,q) zm))
      rw[hmt] at h2
      exact absurd h2 zm
     clear hst0 hmem htk hm hok hmt
     go_wp2_with (first|(refine qb5 rfl (.tmp 13) (.tmp 15) rfl (.slice a0 n cap) ms hMW rfl j rfl hlj ?_)|(refine m39 ?_)|(refine m3j ?_;clear RT RN hB;intro b5 w3 R5 hb3 nT nN l5 RT RN hB)|(refine m5y ?_;clear RT RN hB;intro w4 R5 t4 RT RN hB))
     refine RD (fun W=>Row 30 W bT (tc f g h (.slice a0 n cap))/\Row 32 W b5 (mc (p,s,i,a,q))) ⟨RT,R5⟩ (fun _=>?_)
     refine tk 0 (.agg (tc f g h (.slice a0 n cap))) rfl (yx 30 (.tmp 1) (tc f g h (.slice a0 n cap)) (fun _ h=>h.1)) ⟨RT,R5⟩ (tk 1 (.agg (mc (p,s,i,a,q))) rfl (qav 32 (.tmp 5) rfl kr b5 kr (mc (p,s,i,a,q)) (fun _ h=>h.2) _ underlying32 rfl (qak (p,s,i,a,q))) ⟨RT,R5⟩ ?_)
     refine m3a ?_
     refine AC (fun K hK=>?_) AZ
     go_simp
     go_at_call 33;refine(qnw f g h (.slice a0 n cap) p s i a q _).mono ?_;rintro e w5 ⟨r,hr,rfl,hb5⟩;(try replace hb5:=qa1 hb5);obtain rfl:r=true:=hr.2 hst.out;refine m2q ?_;clear RT RN R5 hB;intro RT RN R5 hB;clear hr
     go_wp2_with fail
     refine hK.out _ _ ⟨RT,R5⟩ (fun _=>?_)
     clear hK K;(try simp only[ZZ]);refine m1k ?_
     refine tk 9 (.agg (mc (p,s,i,a,q))) rfl (qav 32 (.tmp 5) rfl kr b5 kr (mc (p,s,i,a,q)) (fun _ h=>h.2) _ underlying32 rfl (qak (p,s,i,a,q))) ⟨RT,R5⟩ ?_
     simp only[ZZ];refine AR [10] ?_
     refine AC (fun K hK=>?_) AZ
     refine m50 ?_;intro w5 hb5;refine m2q ?_;clear RT RN R5 hB;intro RT RN R5 hB
     go_wp2_with fail
     exact sZbd34
    | false=>
     have hmeet:Hid (qc0 (ms.take j) (p,s,i,a,q)=false):=hmt
     have HF:Hid (MsOk f h (ms.take (j+1))):=by
      show MsOk _ _ _
      rw[htk];exact(qof f h _ _).2 ⟨hok,hst0,hmt⟩
     (have C4:=fun w=>qgp (p,s,i,a,q) w);have hsb:0<=s/\s<8:=hst0.2.1;have hin:(1024<=q/\q<1072)/\0<=a/\a<3:=⟨hst0.2.2.2.1,hst0.2.2.2.2.1⟩;have hI:inP (p,s,i,a,q)=true:=decide_eq_true hin;have hA:plA (p,s,i,a,q)=a:=if_pos hI;have hQ:plB (p,s,i,a,q)=(q-1024)/8:=if_pos hI
     rw[hI,hA,hQ] at C4
     obtain⟨kk,hK⟩:∃kk,kk=(q-1024)/8:=⟨_,rfl⟩
     rw[←hK] at C4
     (have hpl:qdi a q=a.toNat*6+kk.toNat:=by unfold qdi;rw[hK];omega);(have hK0:0<=kk:=by omega);(have hK6:kk<6:=by omega);have ha0:0<=a:=hin.2.1;have ha3:a<3:=hin.2.2;have hs0:0<=s:=hsb.1;have hs8:s<8:=hsb.2;(have hoff:a.toNat*6+kk.toNat<18:=by omega);(have hs8n:s.toNat<8:=by omega);refine m48 ?_;intro hsw haw hsw2 haw2
     have hup:Hid (upd (qd0 f (ms.take j)) (a.toNat*6+kk.toNat) (s+1)=qd0 f (ms.take (j+1))):=by
      show _=_
      have:=qyv (ms:=ms.take j) hst0
      rw[←htk] at this
      rw[←hpl];exact this
     have hupH:Hid (upd (qdq h (ms.take j)) s.toNat (a+1)=qdq h (ms.take (j+1))):=by
      show _=_
      have:=qy1 (ms:=ms.take j) hst0
      rw[←htk] at this
      exact this
     clear hst0 hmem htk hm hok hmt hI hA hQ hK hpl hin hsb
     go_wp2_with (first|(refine qb5 rfl (.tmp 13) (.tmp 15) rfl (.slice a0 n cap) ms hMW rfl j rfl hlj ?_)|(refine m39 ?_)|(refine m3j ?_;clear RT RN hB;intro b5 w3 R5 hb3 nT nN l5 RT RN hB)|(refine m5y ?_;clear RT RN hB;intro w4 R5 t4 RT RN hB))
     refine RD (fun W=>Row 30 W bT (tc f g h (.slice a0 n cap))/\Row 32 W b5 (mc (p,s,i,a,q))) ⟨RT,R5⟩ (fun _=>?_)
     refine tk 0 (.agg (tc f g h (.slice a0 n cap))) rfl (yx 30 (.tmp 1) (tc f g h (.slice a0 n cap)) (fun _ h=>h.1)) ⟨RT,R5⟩ (tk 1 (.agg (mc (p,s,i,a,q))) rfl (qav 32 (.tmp 5) rfl kr b5 kr (mc (p,s,i,a,q)) (fun _ h=>h.2) _ underlying32 rfl (qak (p,s,i,a,q))) ⟨RT,R5⟩ ?_)
     refine m3a ?_
     refine AC (fun K hK=>?_) AZ
     go_simp
     go_at_call 33;refine(qnw f g h (.slice a0 n cap) p s i a q _).mono ?_;rintro e w5 ⟨r,hr,rfl,hb5⟩;(try replace hb5:=qa1 hb5);obtain rfl:r=true:=hr.2 hst.out;refine m2q ?_;clear RT RN R5 hB;intro RT RN R5 hB;clear hr
     go_wp2_with fail
     refine hK.out _ _ ⟨RT,R5⟩ (fun _=>?_)
     clear hK K;(try simp only[ZZ]);refine m1k ?_
     refine tk 9 (.agg (mc (p,s,i,a,q))) rfl (qav 32 (.tmp 5) rfl kr b5 kr (mc (p,s,i,a,q)) (fun _ h=>h.2) _ underlying32 rfl (qak (p,s,i,a,q))) ⟨RT,R5⟩ ?_
     simp only[ZZ];refine AR [10] ?_
     refine AC (fun K hK=>?_) AZ
     refine m50 ?_;intro w5 hb5;refine m2q ?_;clear RT RN R5 hB;intro RT RN R5 hB
     go_wp2_with fail
     refine hK.out _ _ ⟨RT,R5⟩ (fun _=>?_)
     clear hK K;(try simp only[ZZ]);refine tq 11 (.bool false) rfl ⟨RT,R5⟩ ?_;refine m2c ?_
     go_wp2_with (first|(refine lx 32 _ (mc (p,s,i,a,q)) R5 ?_)|(go_at_call 35;go_fit (C4 _);rintro e w5 ⟨rfl,hb5⟩;(try replace hb5:=qa1 hb5);refine m2q ?_;clear RT RN R5 hB;intro RT RN R5 hB)|(refine ay 67 qcn ?_;intro b6 w6 l6 R6 hb6;have m5:=R5.ne l6;have n6:=RN.ne l6;have mT:=RT.ne l6;replace l6:=Nat.le_trans hB.size l6;replace R5:=R5.below hb6;replace RT:=RT.below hb6;replace RN:=RN.below hb6;replace hB:=hB.trans (hb6.mono hB.size))|(refine sx 67 _ _ (ic2 a kk) R6 ?_;intro w7 R6 t7;replace R5:=t7.row R5 m5;replace RT:=t7.row RT mT;replace RN:=t7.row RN n6;replace hB:=t7.below _ _ l6 hB))
     refine RD (fun W=>Row 32 W b5 (mc (p,s,i,a,q))/\Row 67 W b6 (ic2 a kk)) ⟨R5,R6⟩ (fun _=>?_)
     refine tq 0 ((V (some ⟨b6,0,none⟩))) rfl ⟨R5,R6⟩ (tk 1 (I Z a) rfl (Or.inl ⟨by kernel_rfl,by intro w hS;have hc:=p0B hS.2;go_simp⟩) ⟨R5,R6⟩ (tq 2 ((V (some ⟨b6,1,none⟩))) rfl ⟨R5,R6⟩ ?_));simp only[ZZ];refine tk 3 (I Z kk) rfl (Or.inl ⟨by kernel_rfl,by intro w hS;have hc:=p1 hS.2;go_simp⟩) ⟨R5,R6⟩ (tq 4 ((V (some ⟨b5,1,none⟩))) rfl ⟨R5,R6⟩ (tk 5 (I Z s) rfl (Or.inl ⟨by kernel_rfl,by intro w hS;have hc:=m1 hS.1;go_simp⟩) ⟨R5,R6⟩ ?_));simp only[ZZ];refine tq 6 (I Z (s+1)) rfl ⟨R5,R6⟩ (tq 7 ((V (some ⟨bN,0,none⟩))) rfl ⟨R5,R6⟩ (tq 8 ((V (some ⟨bN,0,none⟩))) rfl ⟨R5,R6⟩ ?_));simp only[ZZ];refine tq 9 ((V (some ⟨bN,a.toNat*6,none⟩))) rfl ⟨R5,R6⟩ (tq 10 ((V (some ⟨bN,a.toNat*6+kk.toNat,none⟩))) rfl ⟨R5,R6⟩ ?_);simp only[ZZ];refine AR [11] ?_
     refine AP (fun K hK=>?_) AZ
     have fz:=RN.free (a.toNat*6+kk.toNat);have hc:World.cell? _ ⟨bN,a.toNat*6+kk.toNat,none⟩=some (I Z (qd0 f (ms.take j) (a.toNat*6+kk.toNat))):=(RN.cell _).trans (qvl _ _ _ _ _ hoff);(unfold Oper.wp execOp;go_simp);replace R5:=R5.other (b:=bN) (o:=a.toNat*6+kk.toNat) (v:=I Z (s+1)) nN.symm;replace R6:=R6.other (b:=bN) (o:=a.toNat*6+kk.toNat) (v:=I Z (s+1)) n6.symm;replace RT:=RT.other (b:=bN) (o:=a.toNat*6+kk.toNat) (v:=I Z (s+1)) nTN;replace RN:=RN.set (o:=a.toNat*6+kk.toNat) (v:=I Z (s+1));rw[q9h _ _ _ _ _ _ hoff] at RN;replace hB:=hB.setCell (p:=⟨bN,a.toNat*6+kk.toNat,none⟩) lN (I Z (s+1));clear fz hc
     refine hK.out _ _ ⟨R5,R6⟩ (fun _=>?_)
     clear hK K;(try simp only[ZZ]);refine AN ?_;have d1:=m1 R5;have d3:=m3 R5;have fN:=RN.free (21+s.toNat);have cN:World.cell? _ ⟨bN,21+s.toNat,none⟩=some (I Z (qdq h (ms.take j) s.toNat)):=(RN.cell _).trans (qhc _ _ _ _ _ hs8n)
     go_wp2
     replace RT:=RT.other (b:=bN) (o:=21+s.toNat) (v:=I Z (a+1)) nTN;replace RN:=RN.set (o:=21+s.toNat) (v:=I Z (a+1))
     rw[qsk _ _ _ _ _ _ hs8n,hup.out,hupH.out] at RN
     replace hB:=hB.setCell (p:=⟨bN,21+s.toNat,none⟩) lN (I Z (a+1))
     go_roundw
     case rel=>exact⟨j+1,by omega,by go_num,HF.out,by first|exact hB|exact qea hB|exact qea (qea hB),RT,RN⟩
     case measure=>rw[hjw];exact qek (HN.out.symm▸hlj)
   ·(have e:j=ms.length:=by omega);refine m3r ?_;intro hjn
    rw[e,List.take_length] at hok RN
    have hwN:=q5z ms HG.out;have hwM:=q5e ms hwH;have hokH:Hid (MsOk f h ms):=hok;clear e hj hlj hok
    cases hEO0:eqTo (qd0 f ms) f 18 with
    | false=>
     have hEO:Hid (eqTo (qd0 f ms) f 18=false):=hEO0;have hEH:Hid (eqTo (qdq h ms) h 8=eqTo (qdq h ms) h 8):=(rfl:_=_)
     have HF:Hid ((false=true)↔qbq f h ms):=by
      show _↔_
      refine⟨fun h=>by simp at h,fun G=>?_⟩
      have:=(qjn _ _ _).2 (ql6.1 G).2.2.1
      rw[hEO0] at this
      exact this
     clear hEO0
     exact sZbd33
    | true=>
     have hEO:Hid (eqTo (qd0 f ms) f 18=true):=hEO0
     cases hEH0:eqTo (qdq h ms) h 8 with
     | false=>
      have hEH:Hid (eqTo (qdq h ms) h 8=false):=hEH0
      have HF:Hid ((false=true)↔qbq f h ms):=by
       show _↔_
       refine⟨fun h=>by simp at h,fun G=>?_⟩
       have:=(qjn _ _ _).2 (ql6.1 G).2.2.2.1
       rw[hEH0] at this
       exact this
      clear hEO0 hEH0
      exact sZbd33
     | true=>
      have hEH:Hid (eqTo (qdq h ms) h 8=true):=hEH0
      by_cases hfew:qi2 f ms 8
      ·have HF:Hid ((true=true)↔qbq f h ms):=by
        show _↔_
        exact⟨fun _=>ql6.2 ⟨HG.out,hokH.out,(qjn _ _ _).1 hEO0,(qjn _ _ _).1 hEH0,hfew⟩,fun _=>rfl⟩
       have hfw:Hid (qi2 f ms 8):=hfew;clear hEO0 hEH0 hfew
       go_wp2_with (first|(refine wpList_load_mid ?_ 23 _ rfl bN 0 rfl (ocl (qd0 f ms)) _ RN.owners underlying23 rfl (qhm _) ?_;(· rfl);rw[qip])|(refine wpList_load_mid ?_ 23 _ rfl bT 0 rfl (ocl f) _ RT.owners underlying23 rfl (qhm _) ?_;(· rfl);rw[qip])|(refine qb1 23 _ _ rfl rfl (oc (qd0 f ms)) (oc f) rfl rfl eqGuardType23 _ _ (qq8 _ _ hwN hwF _) hEO.out ?_)|(refine qe0 27 _ rfl ?_ bN 21 rfl (hcl (qdq h ms)) _ RN.homes underlying27 rfl (qfd _) ?_;(· rfl);rw[qkf])|(refine qe0 27 _ rfl ?_ bT 21 rfl (hcl h) _ RT.homes underlying27 rfl (qfd _) ?_;(· rfl);rw[qkf])|(refine qb1 27 _ _ rfl ?_ (hc8 (qdq h ms)) (hc8 h) rfl rfl eqGuardType27 _ _ (qmy _ _ hwM hwH _) hEH.out ?_;· rfl)|(refine qac 30 _ rfl ?_ _ rfl (tc f g h (.slice a0 n cap)) RT _ underlying30 rfl (qaq _ _ _ _) ?_;· rfl)|(go_at_call 36;refine m6h ?_;rintro e w5 ⟨r,hr,rfl,hb5⟩;obtain rfl:r=true:=(hr.2 hfw.out);clear hr;refine m40 ?_;clear hB;intro hB))
       exact sZbd31
      ·have HF:Hid ((false=true)↔qbq f h ms):=by
        show _↔_
        exact⟨fun h=>by simp at h,fun G=>absurd (ql6.1 G).2.2.2.2 hfew⟩
       have hfw:Hid (¬qi2 f ms 8):=hfew;clear hEO0 hEH0 hfew
       go_wp2_with (first|(refine wpList_load_mid ?_ 23 _ rfl bN 0 rfl (ocl (qd0 f ms)) _ RN.owners underlying23 rfl (qhm _) ?_;(· rfl);rw[qip])|(refine wpList_load_mid ?_ 23 _ rfl bT 0 rfl (ocl f) _ RT.owners underlying23 rfl (qhm _) ?_;(· rfl);rw[qip])|(refine qb1 23 _ _ rfl rfl (oc (qd0 f ms)) (oc f) rfl rfl eqGuardType23 _ _ (qq8 _ _ hwN hwF _) hEO.out ?_)|(refine qe0 27 _ rfl ?_ bN 21 rfl (hcl (qdq h ms)) _ RN.homes underlying27 rfl (qfd _) ?_;(· rfl);rw[qkf])|(refine qe0 27 _ rfl ?_ bT 21 rfl (hcl h) _ RT.homes underlying27 rfl (qfd _) ?_;(· rfl);rw[qkf])|(refine qb1 27 _ _ rfl ?_ (hc8 (qdq h ms)) (hc8 h) rfl rfl eqGuardType27 _ _ (qmy _ _ hwM hwH _) hEH.out ?_;· rfl)|(refine qac 30 _ rfl ?_ _ rfl (tc f g h (.slice a0 n cap)) RT _ underlying30 rfl (qaq _ _ _ _) ?_;· rfl)|(go_at_call 36;refine m6h ?_;rintro e w5 ⟨r,hr,rfl,hb5⟩;obtain rfl:r=false:=(by cases r with|false=>rfl|true=>exact absurd (hr.1 rfl) hfw.out);clear hr;refine m40 ?_;clear hB;intro hB))
       exact sZbd31
end Go.Proofs.Ytbboabfmoahipaa
