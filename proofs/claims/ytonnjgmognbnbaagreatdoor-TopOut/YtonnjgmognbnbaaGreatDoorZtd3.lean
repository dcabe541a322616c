/-
  Of what a law stands on.
-/
import Derived.Test.YtonnjgmognbnbaaGreatDoorZtd2
set_option linter.unusedSimpArgs false
set_option linter.unusedVariables false
namespace Go.Proofs.YtonnjgmognbnbaaGreatDoor
open Go.Value renaming int → I,pointer → V
open Go.IntKind renaming i64 → Z
open _root_.Go.Proofs.Tryz Go.ChangeShapes Go.WideShapes Go.ChangeAt Go.RowKit
set_option maxHeartbeats 16000000
set_option maxRecDepth 100000
variable {t:TypeId}{b j:Nat}{ops:Array Oper}{rest:List Oper}{o:Oper}{a:Act}{w:World}{Q:Exit->Act->World->Prop}{fn:Func}{p:Prop}{x:Tmp}{ms:List Mp}
def qc8(cs:Array Value):Nat->List Value->Array Value
 | _,[]=>cs
 | o,v::r=>qc8 (cs.setIfInBounds o v) (o+1) r
theorem Row.setAll:∀(vs:List Value) (o:Nat) (w:World) (cs:Array Value),Row t w b cs->Row t (w.setCells b o vs) b (qc8 cs o vs)
 | [],_,_,_,h=>h
 | v::r,o,w,cs,h=>by unfold World.setCells qc8;exact Row.setAll r (o+1) _ _ h.set
theorem qi4(b:Nat):∀(vs:List Value) (o:Nat) (w:World),qbl b w (w.setCells b o vs)
 | [],_,w=>⟨rfl,fun _ _=>rfl,fun _ _ _ h=>h⟩
 | v::r,o,w=>by
  have h:=qi4 b r (o+1) (w.setCell ⟨b,o,none⟩ v)
  unfold World.setCells
  exact⟨h.size.trans zm,fun k hk=>(h.other k hk).trans (Below.heap_setCell _ _ _ _ hk),fun B w0 hB hb=>h.below B w0 hB (hb.setCell (p:=⟨b,o,none⟩) hB v)⟩
theorem qr1(f f':Nat->Int)(g g':Nat->Bool)(h:Nat->Int)(sl:Value):qc8 (tc f g h sl) 0 (pc f' g').toList=tc f' g' h sl:=by kernel_rfl
theorem qkk(hgd:o.guard=none)(x y:Operand)(ho:o.op=.store 35 x y)(b:Nat)(hx:a.eval x=V (some ⟨b,0,none⟩))(f':Nat->Int)(g':Nat->Bool)(hy:a.eval y=.agg (pc f' g'))(f:Nat->Int)(g:Nat->Bool)(h:Nat->Int)(sl:Value)(R:Row 39 w b (tc f g h sl))(hr:∀w',Row 39 w' b (tc f' g' h sl)->qbl b w w'->wpList prog ops Q rest (a.put o.dst undef) w'):wpList prog ops Q (o::rest) a w:=by
 have ht:w.there b 0 (pc f' g').size:=fun j hj=>by
  have hj':j<21:=hj
  refine⟨?_,R.free _⟩
  rw[R.cell,Nat.zero_add,Array.getElem?_eq_getElem (by rw[qcr];omega)];rfl
 refine wpList_store_mid hgd 35 x y ho b 0 (pc f' g') hx hy ht (qfg f' g') (qoq f' g') ?_;have R':=Row.setAll (pc f' g').toList 0 w _ R
 rw[qr1] at R'
 exact hr _ R' (qi4 b _ 0 w)
theorem qg0{p u v:Tmp}(hf:fn.results=#[.cell p t,.tmp u,.tmp v,.tmp x])(tmps:Array Value)(w:World)(b:Nat)(cs:Array Value)(hp:tmps.getD p undef=V (some ⟨b,0,none⟩))(h:Row t w b cs)(d:TypeDesc)(hu:prog.underlying t=some d)(hd:d.isRow=true)(hi:(prog.info? t).map (·.size)=some cs.size):
  (results fn tmps).run prog w=.ok (.tuple #[.agg cs,tmps.getD u undef,tmps.getD v undef,tmps.getD x undef]) w:=by
 refine m1o ?_;intro hp' hl
 simp only[Array.toArray_toList] at hl
 simp[results,hf,hp',asAddr,hl]
theorem qrj(w:World):(zeroValue 35).run prog w=.ok (.agg (pc (fun _=>0) (fun _=>false))) w:=by kernel_rfl
theorem qhp{w':World}(h:qbl b w.drew w'):qbl b w w':=⟨h.size,h.other,fun B w0 hB hb=>h.below B w0 hB (qea hb)⟩
def q00(g:Nat->Bool)(sl:Value)(r:qzo):Value:=.tuple #[.agg (tc r.f g r.h sl),I Z r.q,.bool r.took,I Z r.e]
theorem q7j(f f':Nat->Int)(g g':Nat->Bool):(pc f g).size=(pc f' g').size:=by rw[qf1,qf1]
theorem qen(f f':Nat->Int)(g g':Nat->Bool)(h h':Nat->Int)(sl sl':Value):(tc f g h sl).size=(tc f' g' h' sl').size:=by rw[qcr,qcr]
theorem sZtd33(h:p:=by
 go_enter func165,ntmps165
 go_wp2_with (first|(refine m8x ?_;intro b4 w1 R4 hb1 l4;refine m5a ?_;clear hB;intro hB)|(refine m44 ?_;clear R4 hB;intro b8 w2 R8 hb2 n48 l8 R4 hB)|(refine lx 39 (.tmp 4) (tc f g h (.slice a0 n cap)) R4 ?_)|(go_at_call 104;go_fit (C1 _);rintro e w5 ⟨v,rfl,⟨a1,c1,rfl⟩,hP,hb5⟩;refine m20 ?_;clear R4 R8 hB;intro R4 R8 hB)|(go_at_call 187;go_fit (C2 _ _ _ (hM.keep hB hlt) hP);rintro e w5 ⟨rfl,hb5⟩;refine m20 ?_;clear R4 R8 hB;intro R4 R8 hB)|(refine m2g ?_;clear hB;intro w6 R8 t6 hB))
 (refine m03 ?_;refine bodyPost_ret (qg0 rfl _ _ _ _ rfl R8 _ underlying39 rfl (qaq _ _ _ _)) rfl ⟨?_,hB⟩)
 rw[HR.out];rfl):p:=h
theorem qwa(f:Nat->Int)(g:Nat->Bool)(h:Nat->Int)(sl:Value)(ms:List Mp)(p s d:Int)(w:World)(hM:qaz w sl ms)(G:qbq f h ms)(hs:0<=s/\s<8)(hd:(Lit.int .i64 d).wf=true):
  Calls prog 165 #[.agg (tc f g h sl),.int .i64 p,.int .i64 s,.int .i64 d] w fun e w'=>e=.returned (q00 g sl (qbe f g h ms p s d))/\Below w.heap.size w w':=by
 refine m2a ?_;intro hB;have hM0:=hM
 obtain⟨a0,cap,hsl,-⟩:=hM0
 obtain⟨n,hn⟩:∃n,n=ms.length:=⟨_,rfl⟩
 rw[←hn] at hsl
 subst hsl
 refine m4n ?_;clear hn;intro HN hlt;have hs0:0<=s:=hs.1;have hs8:s<8:=hs.2;(have hs8n:s.toNat<8:=by omega);have hhome:=G.homeIn hs;(have C1:=fun w=>qiq f g h (.slice a0 n cap) s hs0 hs8 w);have hbl:(qbk f s).length<=18:=qoy f s 18;(have C2:=fun base v w hM hP=>q0y f g h (.slice a0 n cap) ms p base v (qbk f s) w hM hP hbl);(have C3:=fun w=>qxp f g h (.slice a0 n cap) s d hs0 hs8 hhome.1 hhome.2 hd w);clear hhome G
 cases hu:qcy ms p (qbk f s) with
 | some x=>
  have HR:Hid (qbe f g h ms p s d=_):=qq1 hu
  rw[hu] at C2
  unfold unS at C2
  obtain⟨LL,hLL⟩:∃LL,LL=(qbk f s).length:=⟨_,rfl⟩
  rw[←hLL] at C1
  clear hLL hbl hu
  exact sZtd33
 | none=>
  rw[hu] at C2
  unfold unS at C2
  obtain⟨LL,hLL⟩:∃LL,LL=(qbk f s).length:=⟨_,rfl⟩
  rw[←hLL] at C1
  by_cases h2:(qbk f s).length=2
  ·have HR:Hid (qbe f g h ms p s d=_):=qq6 hu h2;(have dL:((LL:Int)==2)=true:=by simp;omega);clear hLL hbl hu h2
   exact sZtd33
  ·(have dL:((LL:Int)==2)=false:=by simp;omega)
   by_cases hE:qgv f g h s=0
   rotate_left
   ·have HR:Hid (qbe f g h ms p s d=_):=qrd hu h2 hE;(have dE:(qgv f g h s != 0)=true:=by simp[hE]);clear hLL hbl hu h2 hE
    generalize qgv f g h s=EE at *
    generalize qdn f g h s d=aa at *
    go_enter func165,ntmps165
    go_wp2_with (first|(refine m8x ?_;intro b4 w1 R4 hb1 l4;refine m5a ?_;clear hB;intro hB)|(refine m44 ?_;clear R4 hB;intro b8 w2 R8 hb2 n48 l8 R4 hB)|(refine lx 39 (.tmp 4) (tc f g h (.slice a0 n cap)) R4 ?_)|(go_at_call 104;go_fit (C1 _);rintro e w5 ⟨v,rfl,⟨a1,c1,rfl⟩,hP,hb5⟩;refine m20 ?_;clear R4 R8 hB;intro R4 R8 hB)|(go_at_call 187;go_fit (C2 _ _ _ (hM.keep hB hlt) hP);rintro e w5 ⟨rfl,hb5⟩;refine m20 ?_;clear R4 R8 hB;intro R4 R8 hB)|(refine m2g ?_;clear hB;intro w6 R8 t6 hB)|(go_at_call 188;go_fit (C3 _);rintro e w5 ⟨rfl,hb5⟩;clear hP;refine m20 ?_;clear R4 R8 hB;intro R4 R8 hB;have hrp:=R4.pool))
    (refine m03 ?_;refine bodyPost_ret (qg0 rfl _ _ _ _ rfl R8 _ underlying39 rfl (qaq _ _ _ _)) rfl ⟨?_,hB⟩)
    rw[HR.out];rfl
   ·by_cases hT:qdh f g s (qdn f g h s d)=0
    rotate_left
    ·have HR:Hid (qbe f g h ms p s d=_):=qq2 hu h2 hE hT
     rw[hE] at C3
     (have C4:=fun w=>qtm f g s (qdn f g h s d) d hd w)
     unfold qet plv at C4
     (have dT:(qdh f g s (qdn f g h s d) != 0)=true:=by simp[hT]);clear hLL hbl hu h2 hE hT
     generalize qdn f g h s d=aa at *
     generalize qdh f g s aa=EE at *
     generalize qi1 f g s aa d=FF at *
     generalize qft f g s aa d=KK at *
     go_enter func165,ntmps165
     go_wp2_with (first|(refine m8x ?_;intro b4 w1 R4 hb1 l4;refine m5a ?_;clear hB;intro hB)|(refine m44 ?_;clear R4 hB;intro b8 w2 R8 hb2 n48 l8 R4 hB)|(refine lx 39 (.tmp 4) (tc f g h (.slice a0 n cap)) R4 ?_)|(go_at_call 104;go_fit (C1 _);rintro e w5 ⟨v,rfl,⟨a1,c1,rfl⟩,hP,hb5⟩;refine m20 ?_;clear R4 R8 hB;intro R4 R8 hB)|(go_at_call 187;go_fit (C2 _ _ _ (hM.keep hB hlt) hP);rintro e w5 ⟨rfl,hb5⟩;refine m20 ?_;clear R4 R8 hB;intro R4 R8 hB)|(refine m2g ?_;clear hB;intro w6 R8 t6 hB)|(go_at_call 188;go_fit (C3 _);rintro e w5 ⟨rfl,hb5⟩;clear hP;refine m20 ?_;clear R4 R8 hB;intro R4 R8 hB;have hrp:=R4.pool)|(refine m8a ?_)|(go_at_call 189;go_fit (C4 _);rintro e w5 ⟨rfl,hb5⟩;clear hrp;refine m20 ?_;clear R4 R8 hB;intro R4 R8 hB)|(refine ay 35 qrj ?_;intro b17 w7 l17 R17 hb7;have n417:=R4.ne l17;have n817:=R8.ne l17;replace l17:=Nat.le_trans hB.size l17;replace R4:=R4.below hb7;replace R8:=R8.below hb7;replace hB:=hB.trans (hb7.mono hB.size))|(refine qab 35 rfl (.tmp 17) _ rfl b17 rfl (pc FF g) rfl _ R17 (q7j _ _ _ _) (qfg _ _) (qoq _ _) ?_;intro w8 R17 t8;replace R4:=t8.row R4 n417;replace R8:=t8.row R8 n817;replace hB:=t8.below _ _ l17 hB))
     (refine m03 ?_;refine bodyPost_ret (qg0 rfl _ _ _ _ rfl R8 _ underlying39 rfl (qaq _ _ _ _)) rfl ⟨?_,hB⟩)
     rw[HR.out];rfl
    ·have HR:Hid (qbe f g h ms p s d=_):=quo hu h2 hE hT
     rw[hE] at C3
     (have C4:=fun w=>qtm f g s (qdn f g h s d) d hd w)
     unfold qet plv at C4
     rw[hT] at C4
     obtain⟨_,haR,_,_,hfr⟩:=qtj hT
     have hKm:=qj8 _ _ (qiu (qbo (rowF f (qdn f g h s d).toNat)) d hfr);(have hKe:qft f g s (qdn f g h s d) d=qep (qbo (rowF f (qdn f g h s d).toNat)) d:=by unfold qft;rw[if_pos hT])
     rw[←hKe] at hKm
     have hK6:=hKm.1;clear hLL hbl hu h2 hE hT hfr hKm hKe
     generalize qdn f g h s d=aa at *
     generalize qi1 f g s aa d=FF at *
     obtain⟨kk,hkk⟩:∃kk:Int,kk=((qft f g s aa d:Nat):Int):=⟨_,rfl⟩
     rw[←hkk] at C4 HR
     (have hk0:0<=kk:=by omega);(have hk6:kk<=6:=by omega);(have haw:wrap64 (aa+1)=aa+1:=by unfold wrap64;omega);(have e8:1024+8*kk=1024+kk*8:=by omega)
     rw[e8] at HR
     clear hkk hK6 e8 haR
     go_enter func165,ntmps165
     go_wp2_with (first|(refine m8x ?_;intro b4 w1 R4 hb1 l4;refine m5a ?_;clear hB;intro hB)|(refine m44 ?_;clear R4 hB;intro b8 w2 R8 hb2 n48 l8 R4 hB)|(refine lx 39 (.tmp 4) (tc f g h (.slice a0 n cap)) R4 ?_)|(go_at_call 104;go_fit (C1 _);rintro e w5 ⟨v,rfl,⟨a1,c1,rfl⟩,hP,hb5⟩;refine m20 ?_;clear R4 R8 hB;intro R4 R8 hB)|(go_at_call 187;go_fit (C2 _ _ _ (hM.keep hB hlt) hP);rintro e w5 ⟨rfl,hb5⟩;refine m20 ?_;clear R4 R8 hB;intro R4 R8 hB)|(refine m2g ?_;clear hB;intro w6 R8 t6 hB)|(go_at_call 188;go_fit (C3 _);rintro e w5 ⟨rfl,hb5⟩;clear hP;refine m20 ?_;clear R4 R8 hB;intro R4 R8 hB;have hrp:=R4.pool)|(refine m8a ?_)|(go_at_call 189;go_fit (C4 _);rintro e w5 ⟨rfl,hb5⟩;clear hrp;refine m20 ?_;clear R4 R8 hB;intro R4 R8 hB)|(refine ay 35 qrj ?_;intro b17 w7 l17 R17 hb7;have n417:=R4.ne l17;have n817:=R8.ne l17;replace l17:=Nat.le_trans hB.size l17;replace R4:=R4.below hb7;replace R8:=R8.below hb7;replace hB:=hB.trans (hb7.mono hB.size))|(refine qab 35 rfl (.tmp 17) _ rfl b17 rfl (pc FF g) rfl _ R17 (q7j _ _ _ _) (qfg _ _) (qoq _ _) ?_;intro w8 R17 t8;replace R4:=t8.row R4 n417;replace R8:=t8.row R8 n817;replace hB:=t8.below _ _ l17 hB)|(refine lx 35 (.tmp 17) (pc FF g) R17 ?_)|(refine qkk rfl (.tmp 62) (.tmp 61) rfl b4 rfl FF g rfl f g h (.slice a0 n cap) R4 ?_;intro w9 R4 t9;replace R8:=t9.row R8 n48.symm;clear R17;replace hB:=t9.below _ _ l4 hB;have f4:=R4.free (21+s.toNat);have c4:World.cell? _ ⟨b4,21+s.toNat,none⟩=some (.int .i64 (h s.toNat)):=(R4.cell _).trans (qhc _ _ _ _ _ hs8n)))
     replace R4:=R4.set (o:=21+s.toNat) (v:=.int .i64 (aa+1))
     rw[qsk _ _ _ _ _ _ hs8n] at R4
     replace R8:=R8.other (b:=b4) (o:=21+s.toNat) (v:=.int .i64 (aa+1)) n48.symm;replace hB:=hB.setCell (p:=⟨b4,21+s.toNat,none⟩) l4 (.int .i64 (aa+1))
     refine RD (fun W=>Row 39 W b4 (tc FF g (upd h s.toNat (aa+1)) (.slice a0 n cap))) R4 (fun _=>?_)
     refine tk 0 (.agg (tc FF g (upd h s.toNat (aa+1)) (.slice a0 n cap))) rfl (yx 39 (.tmp 4) (tc FF g (upd h s.toNat (aa+1)) (.slice a0 n cap)) (fun _ h=>h)) R4 (tq 1 (.int .i64 kk) rfl R4 ?_)
     refine m5i ?_;refine AR [2] ?_
     refine AC (fun K hK=>?_) AZ
     go_simp;go_at_call 74;refine(qkm kk hk0 hk6 _).mono ?_;refine m0h ?_
     go_wp2_with fail
     refine hK.out _ _ R4 (fun _=>?_)
     clear hK K;(try simp only[ZZ]);refine AR [3] ?_
     refine AP (fun K hK=>?_) AZ
     refine qau 39 (.tmp 8) (.tmp 68) rfl b8 rfl (tc FF g (upd h s.toNat (aa+1)) (.slice a0 n cap)) rfl _ R8 (qen _ _ _ _ _ _ _ _) (qaq _ _ _ _) (qbm _ _ _ _ _ _) ?_;intro w10 R8 t10;(try replace t10:=qhp t10);replace R4:=t10.row R4 n48;replace hB:=t10.below _ _ l8 hB
     refine hK.out _ _ R4 (fun _=>?_)
     clear hK K;(try simp only[ZZ]);refine tq 4 (.int .i64 (1024+kk*8)) rfl R4 (tq 5 (.bool true) rfl R4 (tq 6 (.int .i64 0) rfl R4 ?_));refine m1f ?_
     go_wp2
     (refine m03 ?_;refine bodyPost_ret (qg0 rfl _ _ _ _ rfl R8 _ underlying39 rfl (qaq _ _ _ _)) rfl ⟨?_,by first|exact hB|exact qea hB⟩)
     rw[HR.out];rfl
theorem qzm{n:Nat}(h:j<=n)(hn:n<=140737488355328):wrap64 ((j:Int)+1)=(j:Int)+1:=by unfold wrap64;omega
theorem q08{m:Mp}{s:Int}(hlj:j<ms.length)(hm:ms[j]=m):cntM (ms.take (j+1)) s=cntM (ms.take j) s+if m.2.1=s then 1 else 0:=by
 unfold cntM;rw[qic hlj hm,List.filter_append,List.length_append]
 by_cases e:m.2.1=s
 ·simp[e]
 ·simp[e]
theorem q7n(ms:List Mp)(s:Int)(j:Nat):cntM (ms.take j) s<=ms.length:=by
 unfold cntM;exact Nat.le_trans (List.length_filter_le _ _) (by rw[List.length_take];omega)
theorem qh5(f:Nat->Int)(g:Nat->Bool)(h:Nat->Int)(sl:Value)(ms:List Mp)(s:Int)(w:World)(hM:qaz w sl ms):
  Calls prog 105 #[.agg (tc f g h sl),I Z s] w fun e w'=>e=.returned (I Z ((cntM ms s:Nat):Int))/\Below w.heap.size w w':=by
 refine m2a ?_;intro hB;have hM0:=hM
 obtain⟨a0,cap,hsl,-⟩:=hM0
 obtain⟨n,hn⟩:∃n,n=ms.length:=⟨_,rfl⟩
 rw[←hn] at hsl
 subst hsl
 refine m4n ?_;clear hn;intro HN hlt;have hml:=hM.len
 go_enter func105,ntmps105
 go_wp2_with (refine m1x ?_;clear hB;intro bT w1 RT hb1 lT hB;have cM:w1.cell? ⟨bT,29,none⟩=some (.slice a0 n cap):=(RT.cell 29).trans (qdw _ _ _ _))
 clear hml
 go_loopw [5,11] (fun c i W=>∃j:Nat,j<=ms.length/\i=I Z j/\c=I Z ((cntM (ms.take j) s:Nat):Int)/\Below w.heap.size w W) (fun _ i _=>n-(intOf i).toNat)
 case atStart=>exact⟨0,by omega,rfl,by simp[cntM],hB⟩
 case round=>
  clear hB cM RT hb1
  obtain⟨j,hj,rfl,rfl,hB⟩:=hrel
  by_cases hlj:j<ms.length
  ·refine m3l ?_;intro hjn hjw
   obtain⟨m,hm⟩:∃m,ms[j]=m:=⟨_,rfl⟩
   refine m96 ?_;intro hMW hrg;have hcs:=q08 (s:=s) hlj hm;have hcw:wrap64 (((cntM (ms.take j) s:Nat):Int)+1)=((cntM (ms.take j) s:Nat):Int)+1:=qzm (q7n ms s j) hM.len
   by_cases hs:m.2.1=s
   ·rw[if_pos hs] at hcs
    have HC:Hid (cntM (ms.take (j+1)) s=cntM (ms.take j) s+1):=hcs;(have dz:(m.2.1==s)=true:=by simpa using hs);clear hcs hs
    generalize cntM (ms.take j) s=c at *
    go_wp2_with (first|(refine m7n ?_)|(refine m1y ?_)|(refine m7z ?_;intro b7 w3 l7 R7 hb3;replace l7:=Nat.le_trans hB.size l7;replace hB:=hB.trans (hb3.mono hB.size))|(refine qab 50 rfl _ _ rfl b7 rfl (mc m) rfl _ R7 rfl (qak m) (qa3 m) ?_;intro w4 R7 t4;have c1:=m1 R7;replace hB:=t4.below _ _ l7 hB))
    go_roundw
    case rel=>
     first
      | exact⟨j+1,by omega,by go_num,by rw[HC.out];go_num,hB⟩
      | ((repeat apply Exists.intro);exact⟨⟨j+1,by omega,by go_num,by rw[HC.out];go_num,hB⟩,rfl⟩)
    case measure=>rw[hjw];exact qek (HN.out.symm▸hlj)
   ·rw[if_neg hs] at hcs
    have HC:Hid (cntM (ms.take (j+1)) s=cntM (ms.take j) s):=hcs;(have dz:(m.2.1==s)=false:=by simpa using hs);clear hcs hs
    generalize cntM (ms.take j) s=c at *
    go_wp2_with (first|(refine m7n ?_)|(refine m1y ?_)|(refine m7z ?_;intro b7 w3 l7 R7 hb3;replace l7:=Nat.le_trans hB.size l7;replace hB:=hB.trans (hb3.mono hB.size))|(refine qab 50 rfl _ _ rfl b7 rfl (mc m) rfl _ R7 rfl (qak m) (qa3 m) ?_;intro w4 R7 t4;have c1:=m1 R7;replace hB:=t4.below _ _ l7 hB))
    go_roundw
    case rel=>
     first
      | exact⟨j+1,by omega,by go_num,by rw[HC.out],hB⟩
      | ((repeat apply Exists.intro);exact⟨⟨j+1,by omega,by go_num,by rw[HC.out],hB⟩,rfl⟩)
    case measure=>rw[hjw];exact qek (HN.out.symm▸hlj)
  ·(have e:j=ms.length:=by omega);refine m6c ?_;intro hjn;(have HC:Hid (cntM (ms.take j) s=cntM ms s):=by show _=_;rw[e,List.take_length]);clear e hj hlj
   generalize cntM (ms.take j) s=c at *
   go_wp2
   go_ret
   exact⟨by rw[←HC.out];rfl,hB⟩
def qi2(f:Nat->Int)(ms:List Mp)(N:Nat):Prop:=∀s:Nat,s<N->(qbk f s).length<=2/\cntM ms s<=12
theorem qzk{f:Nat->Int}{N:Nat}(h:qi2 f ms N)(h1:(qbk f N).length<=2)(h2:cntM ms N<=12):qi2 f ms (N+1):=fun s hs=>by
 by_cases e:s=N
 ·subst e;exact⟨h1,h2⟩
 ·exact h s om
theorem sZtd32(h:p:=by
 go_ret
 first|exact⟨_,by first|exact HF.out|simpa using HF.out,rfl,hB⟩|exact Or.inr ⟨by simpa using HF.out,rfl,hB⟩|exact Or.inl ⟨by simpa using HF.out,rfl,hB⟩):p:=h
theorem qkt(f:Nat->Int)(g:Nat->Bool)(h:Nat->Int)(sl:Value)(ms:List Mp)(w:World)(hM:qaz w sl ms):
  Calls prog 66 #[.agg (tc f g h sl)] w fun e w'=>∃r:Bool,(r=true↔qi2 f ms 8)/\e=.returned (.bool r)/\Below w.heap.size w w':=by
 refine m2a ?_;intro hB;have hM0:=hM
 obtain⟨a0,cap,hsl,-⟩:=hM0
 obtain⟨n,hn⟩:∃n,n=ms.length:=⟨_,rfl⟩
 rw[←hn] at hsl
 subst hsl
 refine m4n ?_;clear hn;intro HN hlt;(have C2:=fun s w hM=>qh5 f g h (.slice a0 n cap) ms s w hM)
 go_enter func66,ntmps66
 go_wp2_with (refine m1x ?_;clear hB;intro bT w1 RT hb1 lT hB)
 go_loopw [4] (fun i W=>∃j:Nat,j<=8/\i=I Z j/\qi2 f ms j/\Below w.heap.size w W/\Row 39 W bT (tc f g h (.slice a0 n cap))) (fun i _=>8-(intOf i).toNat)
 case atStart=>exact⟨0,by omega,rfl,fun s hs=>absurd hs om,hB,RT⟩
 case round=>
  clear hB RT hb1
  obtain⟨j,hj,rfl,hfew,hB,RT⟩:=hrel
  by_cases hlj:j<8
  ·(have C1:=fun w=>qiq f g h (.slice a0 n cap) (j:Int) om om w)
   obtain⟨l,hl⟩:∃l,l=(qbk f (j:Int)).length:=⟨_,rfl⟩
   obtain⟨c,hc⟩:∃c,c=cntM ms (j:Int):=⟨_,rfl⟩
   rw[←hl] at C1
   have C2j:=C2 (j:Int)
   rw[←hc] at C2j
   by_cases h2:l<=2
   ·have h2':decide ((2:Int)<(l:Int))=false:=decide_eq_false om
    by_cases h12:c<=12
    ·have h12':decide ((12:Int)<(c:Int))=false:=decide_eq_false om;have HF:Hid (qi2 f ms (j+1)):=qzk hfew (hl▸h2) (hc▸h12);clear hl hc h2 h12
     go_wp2_with (first|(refine qac 39 _ rfl ?_ _ rfl (tc f g h (.slice a0 n cap)) RT _ underlying39 rfl (qaq _ _ _ _) ?_;· rfl)|(go_at_call 104;go_fit (C1 _);rintro e w5 ⟨v,rfl,⟨a1,c1,rfl⟩,hP,hb5⟩;clear hP;replace RT:=RT.below hb5;refine m2s ?_;clear hB;intro hB)|(go_at_call 105;refine(C2j _ (hM.keep hB hlt)).mono ?_;rintro e w5 ⟨rfl,hb5⟩;replace RT:=RT.below hb5;refine m2s ?_;clear hB;intro hB))
     go_roundw
     case rel=>exact⟨j+1,by omega,by go_num,HF.out,hB,RT⟩
     case measure=>simp[intOf];omega
    ·(have h12':(12:Int)<(c:Int):=by omega)
     have HF:Hid ((false=true)↔qi2 f ms 8):=by
      show _↔_
      exact⟨fun h=>by simp at h,fun h=>by have:=(h j hlj).2;omega⟩
     clear hl hc h2 h12
     go_wp2_with (first|(refine qac 39 _ rfl ?_ _ rfl (tc f g h (.slice a0 n cap)) RT _ underlying39 rfl (qaq _ _ _ _) ?_;· rfl)|(go_at_call 104;go_fit (C1 _);rintro e w5 ⟨v,rfl,⟨a1,c1,rfl⟩,hP,hb5⟩;clear hP;replace RT:=RT.below hb5;refine m2s ?_;clear hB;intro hB)|(go_at_call 105;refine(C2j _ (hM.keep hB hlt)).mono ?_;rintro e w5 ⟨rfl,hb5⟩;replace RT:=RT.below hb5;refine m2s ?_;clear hB;intro hB))
     exact sZtd32
   ·(have h2':(2:Int)<(l:Int):=by omega)
    have HF:Hid ((false=true)↔qi2 f ms 8):=by
     show _↔_
     exact⟨fun h=>by simp at h,fun h=>by have:=(h j hlj).1;omega⟩
    clear hl hc h2
    go_wp2_with (first|(refine qac 39 _ rfl ?_ _ rfl (tc f g h (.slice a0 n cap)) RT _ underlying39 rfl (qaq _ _ _ _) ?_;· rfl)|(go_at_call 104;go_fit (C1 _);rintro e w5 ⟨v,rfl,⟨a1,c1,rfl⟩,hP,hb5⟩;clear hP;replace RT:=RT.below hb5;refine m2s ?_;clear hB;intro hB))
    exact sZtd32
  ·(have e:j=8:=by omega)
   subst e
   have HF:Hid ((true=true)↔qi2 f ms 8):=by
    show _↔_
    exact⟨fun _=>hfew,fun _=>rfl⟩
   clear hj hlj hfew
   go_wp2
   exact sZtd32
theorem qe0(t:TypeId)(x:Operand)(ho:o.op=.load t x)(hw:Region.wanted o (yielded ops a.tmps)=true)(b off:Nat)(hx:a.eval x=V (some ⟨b,off,none⟩))(cs:List Value)(d:TypeDesc)(h:w.rangeAt b off cs)(hu:prog.underlying t=some d)(hd:d.isRow=true)(hi:(prog.info? t).map (·.size)=some cs.length)(hr:wpList prog ops Q rest (a.put o.dst (.agg cs.toArray)) w):wpList prog ops Q (o::rest) a w:=
 wpList_step fun K hK=>by
  rw[if_pos hw]
  exact wp_load_mid t x ho b off hx cs d h hu hd hi (hK _ _ hr)
theorem sZtd34(h:p:=by
 go_wp2_with (first|(refine wpList_load_mid ?_ 32 _ rfl bN 0 rfl (ocl (qd0 f ms)) _ RN.owners underlying32 rfl (qhm _) ?_;(· rfl);rw[qip])|(refine wpList_load_mid ?_ 32 _ rfl bT 0 rfl (ocl f) _ RT.owners underlying32 rfl (qhm _) ?_;(· rfl);rw[qip])|(refine qb1 32 _ _ rfl rfl (oc (qd0 f ms)) (oc f) rfl rfl eqGuardType32 _ _ (qq8 _ _ hwN hwF _) hEO.out ?_)|(refine qe0 36 _ rfl ?_ bN 21 rfl (hcl (qdq h ms)) _ RN.homes underlying36 rfl (qfd _) ?_;(· rfl);rw[qkf])|(refine qe0 36 _ rfl ?_ bT 21 rfl (hcl h) _ RT.homes underlying36 rfl (qfd _) ?_;(· rfl);rw[qkf])|(refine qb1 36 _ _ rfl ?_ (hc8 (qdq h ms)) (hc8 h) rfl rfl eqGuardType36 _ _ (qmy _ _ hwM hwH _) hEH.out ?_;· rfl)|(refine qac 39 _ rfl ?_ _ rfl (tc f g h (.slice a0 n cap)) RT _ underlying39 rfl (qaq _ _ _ _) ?_;· rfl)|(go_at_call 66;refine m9a ?_;rintro e w5 ⟨r,hr,rfl,hb5⟩;obtain rfl:r=true:=zm;clear hr;refine m2s ?_;clear hB;intro hB))
 exact sZtd32):p:=h
theorem sZtd35(h:p:=by
 refine hK.out _ _ ⟨RT,R5⟩ (fun _=>?_)
 clear hK K;(try simp only[ZZ]);refine tq 11 (.bool true) rfl ⟨RT,R5⟩ ?_;refine m1f ?_
 go_wp2
 exact sZtd32):p:=h
theorem qf8(f:Nat->Int)(g:Nat->Bool)(h:Nat->Int)(sl:Value)(ms:List Mp)(hwH:wfH h)(w:World)(hM:qaz w sl ms):
  Calls prog 25 #[.agg (tc f g h sl)] w fun e w'=>∃r:Bool,(r=true↔qbq f h ms)/\e=.returned (.bool r)/\Below w.heap.size w w':=by
 refine m2a ?_;intro hB;have hM0:=hM
 obtain⟨a0,cap,hsl,-⟩:=hM0
 obtain⟨n,hn⟩:∃n,n=ms.length:=⟨_,rfl⟩
 rw[←hn] at hsl
 subst hsl
 refine m4n ?_;clear hn;intro HN hlt;(have C0:=fun w=>qni f g w)
 unfold plv at C0
 cases hgp:qcv f with
 | false=>
  rw[hgp] at C0
  have HF:Hid ((false=true)↔qbq f h ms):=by
   show _↔_
   exact⟨fun h=>by simp at h,fun h=>by have:=h.pool;rw[hgp] at this;exact this⟩
  clear hgp
  go_enter func25,ntmps25
  go_wp2_with (first|(refine m1x ?_;clear hB;intro bT w1 RT hb1 lT hB;have hrp:=RT.pool)|(refine m4r ?_)|(go_at_call 62;go_fit (C0 _);rintro e w5 ⟨rfl,hb5⟩;refine m2s ?_;clear hB;intro hB))
  exact sZtd32
 | true=>
  rw[hgp] at C0
  have HG:Hid (qcv f=true):=hgp;have hwF:=qpn hgp;clear hgp
  go_enter func25,ntmps25
  go_wp2_with (first|(refine m1x ?_;clear hB;intro bT w1 RT hb1 lT hB;have hrp:=RT.pool)|(refine m4r ?_)|(go_at_call 62;go_fit (C0 _);rintro e w5 ⟨rfl,hb5⟩;clear hrp;replace RT:=RT.below hb5;refine m2s ?_;clear hB;intro hB)|(refine ay 39 qb8 ?_;intro bN w2 lN RN hb2;have nTN:=RT.ne lN;replace lN:=Nat.le_trans hB.size lN;replace RT:=RT.below hb2;refine m6x ?_;clear hB;intro hB cM))
  go_loopw [15] (fun i W=>∃j:Nat,j<=ms.length/\i=I Z j/\MsOk f h (ms.take j)/\Below w.heap.size w W/\Row 39 W bT (tc f g h (.slice a0 n cap))/\Row 39 W bN (tc (qd0 f (ms.take j)) (fun _=>false) (qdq h (ms.take j)) (.slice none 0 0))) (fun i _=>n-(intOf i).toNat)
  case atStart=>exact⟨0,by omega,rfl,qvg f h,hB,RT,by rw[List.take_zero,q09,q3t];exact RN⟩
  case round=>
   clear hB RT RN cM hb1
   obtain⟨j,hj,rfl,hok,hB,RT,RN⟩:=hrel
   by_cases hlj:j<ms.length
   ·(have hjn:(j:Int)<(n:Int):=by have:=HN.out;omega);(have hjc:(j:Int)<=(cap:Int):=by have:=hM.cap;omega);(have hj0:(0:Int)<=(j:Int):=by omega);have hjw:=qga hlj hM.len
    obtain⟨⟨p,s,i,a,q⟩,hm⟩:∃m,ms[j]=m:=⟨_,rfl⟩
    refine m96 ?_;intro hMW hrg;have hmem:(p,s,i,a,q)∈ms:=hm▸List.getElem_mem hlj;have htk:=qic hlj hm
    by_cases hst0:qdb f h (p,s,i,a,q)
    rotate_left
    ·have hst:Hid (¬qdb f h (p,s,i,a,q)):=hst0
     have HF:Hid ((false=true)↔qbq f h ms):=by
      show _↔_
      exact⟨fun h=>by simp at h,fun h=>absurd (h.maps.1 _ hmem) hst0⟩
     clear hst0 hmem htk hm hok
     go_wp2_with (first|(refine qb5 rfl (.tmp 13) (.tmp 15) rfl (.slice a0 n cap) ms hMW rfl j rfl hlj ?_)|(refine m51 ?_)|(refine m5j ?_;clear RT RN hB;intro b5 w3 R5 hb3 nT nN l5 RT RN hB)|(refine m8r ?_;clear RT RN hB;intro w4 R5 t4 RT RN hB))
     refine RD (fun W=>Row 39 W bT (tc f g h (.slice a0 n cap))/\Row 50 W b5 (mc (p,s,i,a,q))) ⟨RT,R5⟩ (fun _=>?_)
     refine tk 0 (.agg (tc f g h (.slice a0 n cap))) rfl (yx 39 (.tmp 1) (tc f g h (.slice a0 n cap)) (fun _ h=>h.1)) ⟨RT,R5⟩ (tk 1 (.agg (mc (p,s,i,a,q))) rfl (qav 50 (.tmp 5) rfl kr b5 kr (mc (p,s,i,a,q)) (fun _ h=>h.2) _ underlying50 rfl (qak (p,s,i,a,q))) ⟨RT,R5⟩ ?_)
     refine m5i ?_;refine AR [2] ?_
     refine AC (fun K hK=>?_) AZ
     go_simp
     go_at_call 63;refine(qnw f g h (.slice a0 n cap) p s i a q _).mono ?_;rintro e w5 ⟨r,hr,rfl,hb5⟩;(try replace hb5:=qa1 hb5);obtain rfl:r=false:=(by cases r with|false=>rfl|true=>exact absurd (hr.1 rfl) hst.out);replace RT:=RT.below hb5;replace RN:=RN.below hb5;replace R5:=R5.below hb5;refine m2s ?_;clear hB;intro hB;clear hr
     go_wp2_with fail
     refine hK.out _ _ ⟨RT,R5⟩ (fun _=>?_)
     clear hK K;(try simp only[ZZ]);refine tq 3 (.bool true) rfl ⟨RT,R5⟩ (tq 4 (.bool true) rfl ⟨RT,R5⟩ (tk 5 undef rfl (Or.inr ⟨by kernel_rfl,rfl⟩) ⟨RT,R5⟩ ?_));refine m5i ?_;refine tk 6 undef rfl (Or.inr ⟨by kernel_rfl,rfl⟩) ⟨RT,R5⟩ (tk 7 undef rfl (Or.inr ⟨by kernel_rfl,rfl⟩) ⟨RT,R5⟩ (tk 8 undef rfl (Or.inr ⟨by kernel_rfl,rfl⟩) ⟨RT,R5⟩ ?_));refine m5i ?_;refine tk 9 undef rfl (Or.inr ⟨by kernel_rfl,rfl⟩) ⟨RT,R5⟩ ?_;refine m5i ?_;refine AR [10] ?_
     refine AC (fun K hK=>?_) AZ
     rw[if_neg (ne_true_of_eq_false kr)]
     exact sZtd35
    have hst:Hid (qdb f h (p,s,i,a,q)):=hst0
    cases hmt:qc0 (ms.take j) (p,s,i,a,q) with
    | true=>
     have hmeet:Hid (qc0 (ms.take j) (p,s,i,a,q)=true):=hmt
     have HF:Hid ((false=true)↔qbq f h ms):=by
      show _↔_
      refine⟨fun h=>by simp at h,fun h=>?_⟩
      have h1:=h.maps.2.sublist (List.take_sublist (j+1) ms)
      rw[htk,List.pairwise_append] at h1
      (have h2:qc0 (ms.take j) (p,s,i,a,q)=false:=qi6.2 (fun o ho=>h1.2.2 o ho (p,s,i,a,q) zm))
      rw[hmt] at h2
      exact absurd h2 zm
     clear hst0 hmem htk hm hok hmt
     go_wp2_with (first|(refine qb5 rfl (.tmp 13) (.tmp 15) rfl (.slice a0 n cap) ms hMW rfl j rfl hlj ?_)|(refine m51 ?_)|(refine m5j ?_;clear RT RN hB;intro b5 w3 R5 hb3 nT nN l5 RT RN hB)|(refine m8r ?_;clear RT RN hB;intro w4 R5 t4 RT RN hB))
     refine RD (fun W=>Row 39 W bT (tc f g h (.slice a0 n cap))/\Row 50 W b5 (mc (p,s,i,a,q))) ⟨RT,R5⟩ (fun _=>?_)
     refine tk 0 (.agg (tc f g h (.slice a0 n cap))) rfl (yx 39 (.tmp 1) (tc f g h (.slice a0 n cap)) (fun _ h=>h.1)) ⟨RT,R5⟩ (tk 1 (.agg (mc (p,s,i,a,q))) rfl (qav 50 (.tmp 5) rfl kr b5 kr (mc (p,s,i,a,q)) (fun _ h=>h.2) _ underlying50 rfl (qak (p,s,i,a,q))) ⟨RT,R5⟩ ?_)
     refine m5i ?_;refine AR [2] ?_
     refine AC (fun K hK=>?_) AZ
     go_simp
     go_at_call 63;refine(qnw f g h (.slice a0 n cap) p s i a q _).mono ?_;rintro e w5 ⟨r,hr,rfl,hb5⟩;(try replace hb5:=qa1 hb5);obtain rfl:r=true:=hr.2 hst.out;replace RT:=RT.below hb5;replace RN:=RN.below hb5;replace R5:=R5.below hb5;refine m2s ?_;clear hB;intro hB;clear hr
     go_wp2_with fail
     refine hK.out _ _ ⟨RT,R5⟩ (fun _=>?_)
     clear hK K;(try simp only[ZZ]);refine m2c ?_
     refine tk 9 (.agg (mc (p,s,i,a,q))) rfl (qav 50 (.tmp 5) rfl kr b5 kr (mc (p,s,i,a,q)) (fun _ h=>h.2) _ underlying50 rfl (qak (p,s,i,a,q))) ⟨RT,R5⟩ ?_
     refine m5i ?_;refine AR [10] ?_
     refine AC (fun K hK=>?_) AZ
     refine m6t ?_;clear RT RN R5;intro w5 hb5 RT RN R5;refine m2s ?_;clear hB;intro hB
     go_wp2_with fail
     exact sZtd35
    | false=>
     have hmeet:Hid (qc0 (ms.take j) (p,s,i,a,q)=false):=hmt
     have HF:Hid (MsOk f h (ms.take (j+1))):=by
      show MsOk _ _ _
      rw[htk];exact(qof f h _ _).2 ⟨hok,hst0,hmt⟩
     (have C4:=fun w=>qgp (p,s,i,a,q) w);have hsb:0<=s/\s<8:=hst0.2.1;have hin:(1024<=q/\q<1072)/\0<=a/\a<3:=⟨hst0.2.2.2.1,hst0.2.2.2.2.1⟩;have hI:inP (p,s,i,a,q)=true:=decide_eq_true hin;have hA:plA (p,s,i,a,q)=a:=if_pos hI;have hQ:plB (p,s,i,a,q)=(q-1024)/8:=if_pos hI
     rw[hI,hA,hQ] at C4
     obtain⟨kk,hK⟩:∃kk,kk=(q-1024)/8:=⟨_,rfl⟩
     rw[←hK] at C4
     (have hpl:qdi a q=a.toNat*6+kk.toNat:=by unfold qdi;rw[hK];omega);(have hK0:0<=kk:=by omega);(have hK6:kk<6:=by omega);have ha0:0<=a:=hin.2.1;have ha3:a<3:=hin.2.2;have hs0:0<=s:=hsb.1;have hs8:s<8:=hsb.2;(have hoff:a.toNat*6+kk.toNat<18:=by omega);(have hs8n:s.toNat<8:=by omega);refine m6p ?_;intro hsw haw hsw2 haw2
     have hup:Hid (upd (qd0 f (ms.take j)) (a.toNat*6+kk.toNat) (s+1)=qd0 f (ms.take (j+1))):=by
      show _=_
      have:=qyv (ms:=ms.take j) hst0
      rw[←htk] at this
      rw[←hpl];exact this
     have hupH:Hid (upd (qdq h (ms.take j)) s.toNat (a+1)=qdq h (ms.take (j+1))):=by
      show _=_
      have:=qy1 (ms:=ms.take j) hst0
      rw[←htk] at this
      exact this
     clear hst0 hmem htk hm hok hmt hI hA hQ hK hpl hin hsb
     go_wp2_with (first|(refine qb5 rfl (.tmp 13) (.tmp 15) rfl (.slice a0 n cap) ms hMW rfl j rfl hlj ?_)|(refine m51 ?_)|(refine m5j ?_;clear RT RN hB;intro b5 w3 R5 hb3 nT nN l5 RT RN hB)|(refine m8r ?_;clear RT RN hB;intro w4 R5 t4 RT RN hB))
     refine RD (fun W=>Row 39 W bT (tc f g h (.slice a0 n cap))/\Row 50 W b5 (mc (p,s,i,a,q))) ⟨RT,R5⟩ (fun _=>?_)
     refine tk 0 (.agg (tc f g h (.slice a0 n cap))) rfl (yx 39 (.tmp 1) (tc f g h (.slice a0 n cap)) (fun _ h=>h.1)) ⟨RT,R5⟩ (tk 1 (.agg (mc (p,s,i,a,q))) rfl (qav 50 (.tmp 5) rfl kr b5 kr (mc (p,s,i,a,q)) (fun _ h=>h.2) _ underlying50 rfl (qak (p,s,i,a,q))) ⟨RT,R5⟩ ?_)
     refine m5i ?_;refine AR [2] ?_
     refine AC (fun K hK=>?_) AZ
     go_simp
     go_at_call 63;refine(qnw f g h (.slice a0 n cap) p s i a q _).mono ?_;rintro e w5 ⟨r,hr,rfl,hb5⟩;(try replace hb5:=qa1 hb5);obtain rfl:r=true:=hr.2 hst.out;replace RT:=RT.below hb5;replace RN:=RN.below hb5;replace R5:=R5.below hb5;refine m2s ?_;clear hB;intro hB;clear hr
     go_wp2_with fail
     refine hK.out _ _ ⟨RT,R5⟩ (fun _=>?_)
     clear hK K;(try simp only[ZZ]);refine m2c ?_
     refine tk 9 (.agg (mc (p,s,i,a,q))) rfl (qav 50 (.tmp 5) rfl kr b5 kr (mc (p,s,i,a,q)) (fun _ h=>h.2) _ underlying50 rfl (qak (p,s,i,a,q))) ⟨RT,R5⟩ ?_
     refine m5i ?_;refine AR [10] ?_
     refine AC (fun K hK=>?_) AZ
     refine m6t ?_;clear RT RN R5;intro w5 hb5 RT RN R5;refine m2s ?_;clear hB;intro hB
     go_wp2_with fail
     refine hK.out _ _ ⟨RT,R5⟩ (fun _=>?_)
     clear hK K;(try simp only[ZZ]);refine tq 11 (.bool false) rfl ⟨RT,R5⟩ ?_;refine m1f ?_
     go_wp2_with (first|(refine lx 50 _ (mc (p,s,i,a,q)) R5 ?_)|(go_at_call 65;go_fit (C4 _);rintro e w5 ⟨rfl,hb5⟩;(try replace hb5:=qa1 hb5);replace RT:=RT.below hb5;replace RN:=RN.below hb5;replace R5:=R5.below hb5;refine m2s ?_;clear hB;intro hB)|(refine ay 104 qcn ?_;intro b6 w6 l6 R6 hb6;have m5:=R5.ne l6;have n6:=RN.ne l6;have mT:=RT.ne l6;replace l6:=Nat.le_trans hB.size l6;replace R5:=R5.below hb6;replace RT:=RT.below hb6;replace RN:=RN.below hb6;replace hB:=hB.trans (hb6.mono hB.size))|(refine sx 104 _ _ (ic2 a kk) R6 ?_;intro w7 R6 t7;replace R5:=t7.row R5 m5;replace RT:=t7.row RT mT;replace RN:=t7.row RN n6;replace hB:=t7.below _ _ l6 hB))
     refine RD (fun W=>Row 50 W b5 (mc (p,s,i,a,q))/\Row 104 W b6 (ic2 a kk)) ⟨R5,R6⟩ (fun _=>?_)
     refine tq 0 ((V (some ⟨b6,0,none⟩))) rfl ⟨R5,R6⟩ (tk 1 (I Z a) rfl (Or.inl ⟨by kernel_rfl,by intro w hS;have hc:=p0B hS.2;go_simp⟩) ⟨R5,R6⟩ (tq 2 ((V (some ⟨b6,1,none⟩))) rfl ⟨R5,R6⟩ ?_));refine m5i ?_;refine tk 3 (I Z kk) rfl (Or.inl ⟨by kernel_rfl,by intro w hS;have hc:=p1 hS.2;go_simp⟩) ⟨R5,R6⟩ (tq 4 ((V (some ⟨b5,1,none⟩))) rfl ⟨R5,R6⟩ (tk 5 (I Z s) rfl (Or.inl ⟨by kernel_rfl,by intro w hS;have hc:=m1 hS.1;go_simp⟩) ⟨R5,R6⟩ ?_));refine m5i ?_;refine tq 6 (I Z (s+1)) rfl ⟨R5,R6⟩ (tq 7 ((V (some ⟨bN,0,none⟩))) rfl ⟨R5,R6⟩ (tq 8 ((V (some ⟨bN,0,none⟩))) rfl ⟨R5,R6⟩ ?_));refine m5i ?_;refine tq 9 ((V (some ⟨bN,a.toNat*6,none⟩))) rfl ⟨R5,R6⟩ (tq 10 ((V (some ⟨bN,a.toNat*6+kk.toNat,none⟩))) rfl ⟨R5,R6⟩ ?_);refine m5i ?_;refine AR [11] ?_
     refine AP (fun K hK=>?_) AZ
     have fz:=RN.free (a.toNat*6+kk.toNat);have hc:World.cell? _ ⟨bN,a.toNat*6+kk.toNat,none⟩=some (I Z (qd0 f (ms.take j) (a.toNat*6+kk.toNat))):=(RN.cell _).trans (qvl _ _ _ _ _ hoff);(unfold Oper.wp execOp;go_simp);replace R5:=R5.other (b:=bN) (o:=a.toNat*6+kk.toNat) (v:=I Z (s+1)) nN.symm;replace R6:=R6.other (b:=bN) (o:=a.toNat*6+kk.toNat) (v:=I Z (s+1)) n6.symm;replace RT:=RT.other (b:=bN) (o:=a.toNat*6+kk.toNat) (v:=I Z (s+1)) nTN;replace RN:=RN.set (o:=a.toNat*6+kk.toNat) (v:=I Z (s+1));rw[q9h _ _ _ _ _ _ hoff] at RN;replace hB:=hB.setCell (p:=⟨bN,a.toNat*6+kk.toNat,none⟩) lN (I Z (s+1));clear fz hc
     refine hK.out _ _ ⟨R5,R6⟩ (fun _=>?_)
     clear hK K;(try simp only[ZZ]);refine AN ?_;have d1:=m1 R5;have d3:=m3 R5;have fN:=RN.free (21+s.toNat);have cN:World.cell? _ ⟨bN,21+s.toNat,none⟩=some (I Z (qdq h (ms.take j) s.toNat)):=(RN.cell _).trans (qhc _ _ _ _ _ hs8n)
     go_wp2
     replace RT:=RT.other (b:=bN) (o:=21+s.toNat) (v:=I Z (a+1)) nTN;replace RN:=RN.set (o:=21+s.toNat) (v:=I Z (a+1))
     rw[qsk _ _ _ _ _ _ hs8n,hup.out,hupH.out] at RN
     replace hB:=hB.setCell (p:=⟨bN,21+s.toNat,none⟩) lN (I Z (a+1))
     go_roundw
     case rel=>exact⟨j+1,by omega,by go_num,HF.out,by first|exact hB|exact qea hB|exact qea (qea hB),RT,RN⟩
     case measure=>rw[hjw];exact qek (HN.out.symm▸hlj)
   ·(have e:j=ms.length:=by omega);refine m6c ?_;intro hjn
    rw[e,List.take_length] at hok RN
    have hwN:=q5z ms HG.out;have hwM:=q5e ms hwH;have hokH:Hid (MsOk f h ms):=hok;clear e hj hlj hok
    cases hEO0:eqTo (qd0 f ms) f 18 with
    | false=>
     have hEO:Hid (eqTo (qd0 f ms) f 18=false):=hEO0;have hEH:Hid (eqTo (qdq h ms) h 8=eqTo (qdq h ms) h 8):=(rfl:_=_)
     have HF:Hid ((false=true)↔qbq f h ms):=by
      show _↔_
      refine⟨fun h=>by simp at h,fun G=>?_⟩
      have:=(qjn _ _ _).2 (ql6.1 G).2.2.1
      rw[hEO0] at this
      exact this
     clear hEO0
     exact sZtd34
    | true=>
     have hEO:Hid (eqTo (qd0 f ms) f 18=true):=hEO0
     cases hEH0:eqTo (qdq h ms) h 8 with
     | false=>
      have hEH:Hid (eqTo (qdq h ms) h 8=false):=hEH0
      have HF:Hid ((false=true)↔qbq f h ms):=by
       show _↔_
       refine⟨fun h=>by simp at h,fun G=>?_⟩
       have:=(qjn _ _ _).2 (ql6.1 G).2.2.2.1
       rw[hEH0] at this
       exact this
      clear hEO0 hEH0
      exact sZtd34
     | true=>
      have hEH:Hid (eqTo (qdq h ms) h 8=true):=hEH0
      by_cases hfew:qi2 f ms 8
      ·have HF:Hid ((true=true)↔qbq f h ms):=by
        show _↔_
        exact⟨fun _=>ql6.2 ⟨HG.out,hokH.out,(qjn _ _ _).1 hEO0,(qjn _ _ _).1 hEH0,hfew⟩,fun _=>rfl⟩
       have hfw:Hid (qi2 f ms 8):=hfew;clear hEO0 hEH0 hfew
       go_wp2_with (first|(refine wpList_load_mid ?_ 32 _ rfl bN 0 rfl (ocl (qd0 f ms)) _ RN.owners underlying32 rfl (qhm _) ?_;(· rfl);rw[qip])|(refine wpList_load_mid ?_ 32 _ rfl bT 0 rfl (ocl f) _ RT.owners underlying32 rfl (qhm _) ?_;(· rfl);rw[qip])|(refine qb1 32 _ _ rfl rfl (oc (qd0 f ms)) (oc f) rfl rfl eqGuardType32 _ _ (qq8 _ _ hwN hwF _) hEO.out ?_)|(refine qe0 36 _ rfl ?_ bN 21 rfl (hcl (qdq h ms)) _ RN.homes underlying36 rfl (qfd _) ?_;(· rfl);rw[qkf])|(refine qe0 36 _ rfl ?_ bT 21 rfl (hcl h) _ RT.homes underlying36 rfl (qfd _) ?_;(· rfl);rw[qkf])|(refine qb1 36 _ _ rfl ?_ (hc8 (qdq h ms)) (hc8 h) rfl rfl eqGuardType36 _ _ (qmy _ _ hwM hwH _) hEH.out ?_;· rfl)|(refine qac 39 _ rfl ?_ _ rfl (tc f g h (.slice a0 n cap)) RT _ underlying39 rfl (qaq _ _ _ _) ?_;· rfl)|(go_at_call 66;refine m9a ?_;rintro e w5 ⟨r,hr,rfl,hb5⟩;obtain rfl:r=true:=(hr.2 hfw.out);clear hr;refine m2s ?_;clear hB;intro hB))
       exact sZtd32
      ·have HF:Hid ((false=true)↔qbq f h ms):=by
        show _↔_
        exact⟨fun h=>by simp at h,fun G=>absurd (ql6.1 G).2.2.2.2 hfew⟩
       have hfw:Hid (¬qi2 f ms 8):=hfew;clear hEO0 hEH0 hfew
       go_wp2_with (first|(refine wpList_load_mid ?_ 32 _ rfl bN 0 rfl (ocl (qd0 f ms)) _ RN.owners underlying32 rfl (qhm _) ?_;(· rfl);rw[qip])|(refine wpList_load_mid ?_ 32 _ rfl bT 0 rfl (ocl f) _ RT.owners underlying32 rfl (qhm _) ?_;(· rfl);rw[qip])|(refine qb1 32 _ _ rfl rfl (oc (qd0 f ms)) (oc f) rfl rfl eqGuardType32 _ _ (qq8 _ _ hwN hwF _) hEO.out ?_)|(refine qe0 36 _ rfl ?_ bN 21 rfl (hcl (qdq h ms)) _ RN.homes underlying36 rfl (qfd _) ?_;(· rfl);rw[qkf])|(refine qe0 36 _ rfl ?_ bT 21 rfl (hcl h) _ RT.homes underlying36 rfl (qfd _) ?_;(· rfl);rw[qkf])|(refine qb1 36 _ _ rfl ?_ (hc8 (qdq h ms)) (hc8 h) rfl rfl eqGuardType36 _ _ (qmy _ _ hwM hwH _) hEH.out ?_;· rfl)|(refine qac 39 _ rfl ?_ _ rfl (tc f g h (.slice a0 n cap)) RT _ underlying39 rfl (qaq _ _ _ _) ?_;· rfl)|(go_at_call 66;refine m9a ?_;rintro e w5 ⟨r,hr,rfl,hb5⟩;obtain rfl:r=false:=(by cases r with|false=>rfl|true=>exact absurd (hr.1 rfl) hfw.out);clear hr;refine m2s ?_;clear hB;intro hB))
       exact sZtd32
def qjy(f h:Nat->Int)(ms:List Mp)(p s i:Int):Prop:=qbq f h ms/\isP p=true/\(0<=s/\s<8)/\0<=i/\i<=65535
def qpm(f:Nat->Int)(g:Nat->Bool)(h:Nat->Int)(sl:Value)(m:Mp)(took:Bool)(e:Int):Value:=.tuple #[.agg (tc f g h sl),.agg (mc m),.bool took,I Z e]
theorem qej{p q y:Tmp}{u:TypeId}(hf:fn.results=#[.cell p t,.cell q u,.tmp x,.tmp y])(tmps:Array Value)(w:World)(b c:Nat)(cs ds:Array Value)(hp:tmps.getD p undef=V (some ⟨b,0,none⟩))(hq:tmps.getD q undef=V (some ⟨c,0,none⟩))(h:Row t w b cs)(h':Row u w c ds)(d d':TypeDesc)(hu:prog.underlying t=some d)(hu':prog.underlying u=some d')(hd:d.isRow=true)(hd':d'.isRow=true)(hi:(prog.info? t).map (·.size)=some cs.size)(hi':(prog.info? u).map (·.size)=some ds.size):
  (results fn tmps).run prog w=.ok (.tuple #[.agg cs,.agg ds,tmps.getD x undef,tmps.getD y undef]) w:=by
 (have hp':tmps[p]?.getD undef=V (some ⟨b,0,none⟩):=by simpa using hp);(have hq':tmps[q]?.getD undef=V (some ⟨c,0,none⟩):=by simpa using hq);have hl:=run_loadVar_mid (P:=prog) w b 0 t cs.toList d (h.range (fun j v hv=>by rw[Nat.zero_add];simpa using hv)) hu hd (by simpa using hi);have hl':=run_loadVar_mid (P:=prog) w c 0 u ds.toList d' (h'.range (fun j v hv=>by rw[Nat.zero_add];simpa using hv)) hu' hd' (by simpa using hi')
 simp only[Array.toArray_toList] at hl hl'
 simp[results,hf,hp',hq',asAddr,hl,hl']
theorem sZtd31(h:p:=by
 go_enter func130,ntmps130
 go_wp2_with (first|(refine m30 ?_;intro b5 w1 R5 hb1 l5 hB)|(refine m1u ?_;clear R5 hB;intro b10 w2 R10 hb2 n5a l10 R5 hB)|(refine m19 ?_;clear R5 R10 hB;intro b11 w3 R11 hb3 n5b nab l11 R5 R10 hB)|(refine lx 39 (.tmp 5) (tc f g h (.slice a0 n cap)) R5 ?_)|(go_at_call 25;refine m7a ?_;rintro e w5 ⟨r,hr,rfl,hb5⟩;obtain rfl:r=true:=(hr.2 HG.out);clear hr;refine m0v ?_;clear R5 R10 R11 hB;intro R5 R10 R11 hB)|(go_at_call 101;go_fit (C1 _);refine m04 ?_)|(go_at_call 102;go_fit (C2 _);refine m04 ?_)|(go_at_call 103;go_fit (C3 _);refine m04 ?_)|(refine m10 ?_;intro w6 R10 t6;replace R11:=t6.row R11 nab.symm;replace hB:=t6.below _ _ l10 hB)|(refine m6i ?_;clear R10 hB;intro w7 R11 t7 R10 hB))
 (refine m03 ?_;refine bodyPost_ret (qej rfl _ _ _ _ _ _ rfl rfl R10 R11 _ _ underlying39 underlying50 rfl rfl (qaq _ _ _ _) (qak _)) rfl ⟨rfl,hB⟩)):p:=h
theorem q6m(f:Nat->Int)(g:Nat->Bool)(h:Nat->Int)(sl:Value)(ms:List Mp)(p s i d:Int)(w:World)(hM:qaz w sl ms)(hwH:wfH h)(hP:¬qjy f h ms p s i):
  Calls prog 130 #[.agg (tc f g h sl),I Z p,I Z s,I Z i,I Z d] w fun e w'=>e=.returned (qpm f g h sl noM false 2)/\Below w.heap.size w w':=by
 refine m2a ?_;intro hB;have hM0:=hM
 obtain⟨a0,cap,hsl,-⟩:=hM0
 obtain⟨n,hn⟩:∃n,n=ms.length:=⟨_,rfl⟩
 rw[←hn] at hsl
 subst hsl
 refine m4n ?_;clear hn;intro HN hlt;(have CG:=fun w hM=>qf8 f g h (.slice a0 n cap) ms hwH w hM);(have C1:=fun w=>qfh p w);(have C2:=fun w=>qig s w);(have C3:=fun w=>qhe i w)
 by_cases G:qbq f h ms
 rotate_left
 ·have HG:Hid (¬qbq f h ms):=G;clear G hP
  go_enter func130,ntmps130
  go_wp2_with (first|(refine m30 ?_;clear hB;intro b5 w1 R5 hb1 l5 hB)|(refine m1u ?_;clear R5 hB;intro b10 w2 R10 hb2 n5a l10 R5 hB)|(refine m19 ?_;clear R5 R10 hB;intro b11 w3 R11 hb3 n5b nab l11 R5 R10 hB)|(refine lx 39 (.tmp 5) (tc f g h (.slice a0 n cap)) R5 ?_)|(go_at_call 25;refine m7a ?_;rintro e w5 ⟨r,hr,rfl,hb5⟩;obtain rfl:r=false:=(by cases r with|false=>rfl|true=>exact absurd (hr.1 rfl) HG.out);clear hr;refine m0v ?_;clear R5 R10 R11 hB;intro R5 R10 R11 hB)|(go_at_call 101;go_fit (C1 _);refine m04 ?_)|(go_at_call 102;go_fit (C2 _);refine m04 ?_)|(go_at_call 103;go_fit (C3 _);refine m04 ?_)|(refine m10 ?_;intro w6 R10 t6;replace R11:=t6.row R11 nab.symm;replace hB:=t6.below _ _ l10 hB)|(refine m6i ?_;clear R10 hB;intro w7 R11 t7 R10 hB))
  (refine m03 ?_;refine bodyPost_ret (qej rfl _ _ _ _ _ _ rfl rfl R10 R11 _ _ underlying39 underlying50 rfl rfl (qaq _ _ _ _) (qak _)) rfl ⟨rfl,hB⟩)
 have HG:Hid (qbq f h ms):=G
 cases hp:isP p with
 | false=>
  rw[hp] at C1
  clear G hP hp
  exact sZtd31
 | true=>
  rw[hp] at C1
  by_cases hs:0<=s/\s<8
  rotate_left
  ·(have e2:(decide (0<=s)&&decide (s<8))=false:=by rw[Bool.eq_false_iff];intro h;simp at h;exact hs h)
   rw[e2] at C2
   clear G hP hp hs e2
   exact sZtd31
  (have e2:(decide (0<=s)&&decide (s<8))=true:=by simp[hs.1,hs.2])
  rw[e2] at C2
  (have e3:(decide (0<=i)&&decide (i<=65535))=false:=by rw[Bool.eq_false_iff];intro h;simp at h;exact hP ⟨G,hp,hs,h⟩)
  rw[e3] at C3
  clear G hP hp hs e2 e3
  exact sZtd31
theorem q0s(f:Nat->Int)(g:Nat->Bool)(h:Nat->Int)(sl:Value)(ms:List Mp)(p s i d:Int)(w:World)(hM:qaz w sl ms)(hwH:wfH h)(hP:qjy f h ms p s i)(m:Mp)(hf:ms.find? (inS p s i)=some m):
  Calls prog 130 #[.agg (tc f g h sl),I Z p,I Z s,I Z i,I Z d] w fun e w'=>e=.returned (qpm f g h sl m false 0)/\Below w.heap.size w w':=by
 refine m2a ?_;intro hB;have hM0:=hM
 obtain⟨a0,cap,hsl,-⟩:=hM0
 obtain⟨n,hn⟩:∃n,n=ms.length:=⟨_,rfl⟩
 rw[←hn] at hsl
 subst hsl
 refine m0t ?_;clear hn;intro HN hlt CG G hp hs hi0 hi1 hs0 hs8 hs8n C1 C2 C3 e2 e3
 rw[hp] at C1
 rw[e2] at C2
 rw[e3] at C3
 refine m6a ?_;intro HG CF
 rw[hf] at CF
 unfold qhw at CF
 clear G hp hs hi0 hi1 e2 e3 hf
 go_enter func130,ntmps130
 go_wp2_with (first|(refine m30 ?_;clear hB;intro b5 w1 R5 hb1 l5 hB)|(refine m1u ?_;clear R5 hB;intro b10 w2 R10 hb2 n5a l10 R5 hB)|(refine m19 ?_;clear R5 R10 hB;intro b11 w3 R11 hb3 n5b nab l11 R5 R10 hB)|(refine lx 39 (.tmp 5) (tc f g h (.slice a0 n cap)) R5 ?_)|(go_at_call 25;refine m7a ?_;rintro e w5 ⟨r,hr,rfl,hb5⟩;obtain rfl:r=true:=(hr.2 HG.out);clear hr;refine m0v ?_;clear R5 R10 R11 hB;intro R5 R10 R11 hB)|(go_at_call 101;go_fit (C1 _);refine m04 ?_)|(go_at_call 102;go_fit (C2 _);refine m04 ?_)|(go_at_call 103;go_fit (C3 _);refine m04 ?_)|(go_at_call 32;go_fit (CF _ (hM.keep hB hlt));rintro e w5 ⟨rfl,hb5⟩;refine m0v ?_;clear R5 R10 R11 hB;intro R5 R10 R11 hB)|(refine m28 ?_;clear R5 R10 R11 hB;intro b14 w8 R14 hb8 n5c nac nbc l14 R5 R10 R11 hB)|(refine sx 50 (.tmp 14) _ (mc m) R14 ?_;intro w9 R14 t9;replace R5:=t9.row R5 n5c;replace R10:=t9.row R10 nac;replace R11:=t9.row R11 nbc;replace hB:=t9.below _ _ l14 hB))
 refine RD (fun W=>Row 39 W b5 (tc f g h (.slice a0 n cap))/\Row 50 W b14 (mc m)) ⟨R5,R14⟩ (fun _=>?_)
 refine tk 0 (.agg (tc f g h (.slice a0 n cap))) rfl (yx 39 (.tmp 5) (tc f g h (.slice a0 n cap)) (fun _ h=>h.1)) ⟨R5,R14⟩ (tk 1 (.agg (mc m)) rfl (qav 50 (.tmp 14) rfl kr b14 kr (mc m) (fun _ h=>h.2) _ underlying50 rfl (qak m)) ⟨R5,R14⟩ ?_)
 refine m5i ?_;refine AR [2] ?_
 refine AP (fun K hK=>?_) AZ
 refine qau 39 (.tmp 10) (.tmp 50) rfl b10 rfl (tc f g h (.slice a0 n cap)) rfl _ R10 (qen _ _ _ _ _ _ _ _) (qaq _ _ _ _) (qbm _ _ _ _ _ _) ?_;intro w16 R10 t16;(try replace t16:=qhp t16);replace R5:=t16.row R5 n5a;replace R11:=t16.row R11 nab.symm;replace R14:=t16.row R14 nac.symm;replace hB:=t16.below _ _ l10 hB
 refine hK.out _ _ ⟨R5,R14⟩ (fun _=>?_)
 clear hK K;(try simp only[ZZ]);refine AR [3] ?_
 refine AP (fun K hK=>?_) AZ
 refine sy 50 (.tmp 11) (.tmp 51) (mc m) R11 ?_;intro w17 R11 t17;(try replace t17:=qhp t17);replace R5:=t17.row R5 n5b;replace R10:=t17.row R10 nab;replace R14:=t17.row R14 nbc.symm;replace hB:=t17.below _ _ l11 hB
 refine hK.out _ _ ⟨R5,R14⟩ (fun _=>?_)
 clear hK K;(try simp only[ZZ]);refine tq 4 (.bool false) rfl ⟨R5,R14⟩ (tq 5 (I Z 0) rfl ⟨R5,R14⟩ ?_);refine m1f ?_
 go_wp2
 (refine m03 ?_;refine bodyPost_ret (qej rfl _ _ _ _ _ _ rfl rfl R10 R11 _ _ underlying39 underlying50 rfl rfl (qaq _ _ _ _) (qak _)) rfl ⟨rfl,by first|exact hB|exact qea hB⟩)
theorem q2q(f:Nat->Int)(g:Nat->Bool)(h:Nat->Int)(sl:Value)(ms:List Mp)(p s i d:Int)(w:World)(hM:qaz w sl ms)(hwH:wfH h)(hP:qjy f h ms p s i)(hf:ms.find? (inS p s i)=none)(hc:cntM ms s=12):
  Calls prog 130 #[.agg (tc f g h sl),I Z p,I Z s,I Z i,I Z d] w fun e w'=>e=.returned (qpm f g h sl noM false 6)/\Below w.heap.size w w':=by
 refine m2a ?_;intro hB;have hM0:=hM
 obtain⟨a0,cap,hsl,-⟩:=hM0
 obtain⟨n,hn⟩:∃n,n=ms.length:=⟨_,rfl⟩
 rw[←hn] at hsl
 subst hsl
 refine m0t ?_;clear hn;intro HN hlt CG G hp hs hi0 hi1 hs0 hs8 hs8n C1 C2 C3 e2 e3
 rw[hp] at C1
 rw[e2] at C2
 rw[e3] at C3
 refine m6a ?_;intro HG CF
 rw[hf] at CF
 unfold qhw at CF
 (have CC:=fun w hM=>qh5 f g h (.slice a0 n cap) ms s w hM)
 rw[hc] at CC
 clear G hp hs hi0 hi1 e2 e3 hf hc
 go_enter func130,ntmps130
 go_wp2_with (first|(refine m30 ?_;clear hB;intro b5 w1 R5 hb1 l5 hB)|(refine m1u ?_;clear R5 hB;intro b10 w2 R10 hb2 n5a l10 R5 hB)|(refine m19 ?_;clear R5 R10 hB;intro b11 w3 R11 hb3 n5b nab l11 R5 R10 hB)|(refine lx 39 (.tmp 5) (tc f g h (.slice a0 n cap)) R5 ?_)|(go_at_call 25;refine m7a ?_;rintro e w5 ⟨r,hr,rfl,hb5⟩;obtain rfl:r=true:=(hr.2 HG.out);clear hr;refine m0v ?_;clear R5 R10 R11 hB;intro R5 R10 R11 hB)|(go_at_call 101;go_fit (C1 _);refine m04 ?_)|(go_at_call 102;go_fit (C2 _);refine m04 ?_)|(go_at_call 103;go_fit (C3 _);refine m04 ?_)|(go_at_call 32;go_fit (CF _ (hM.keep hB hlt));rintro e w5 ⟨rfl,hb5⟩;refine m0v ?_;clear R5 R10 R11 hB;intro R5 R10 R11 hB)|(refine m28 ?_;clear R5 R10 R11 hB;intro b14 w8 R14 hb8 n5c nac nbc l14 R5 R10 R11 hB)|(refine m78 ?_;clear R5 R10 R11 hB;intro w9 R14 t9 R5 R10 R11 hB)|(go_at_call 105;go_fit (CC _ (hM.keep hB hlt));rintro e w5 ⟨rfl,hb5⟩;(try clear R14);refine m0v ?_;clear R5 R10 R11 hB;intro R5 R10 R11 hB)|(refine m10 ?_;intro w6 R10 t6;replace R11:=t6.row R11 nab.symm;replace hB:=t6.below _ _ l10 hB)|(refine m6i ?_;clear R10 hB;intro w7 R11 t7 R10 hB))
 (refine m03 ?_;refine bodyPost_ret (qej rfl _ _ _ _ _ _ rfl rfl R10 R11 _ _ underlying39 underlying50 rfl rfl (qaq _ _ _ _) (qak _)) rfl ⟨rfl,hB⟩)
theorem q4y(f:Nat->Int)(g:Nat->Bool)(h:Nat->Int)(sl:Value)(ms:List Mp)(p s i d:Int)(w:World)(hM:qaz w sl ms)(hwH:wfH h)(hd:(Lit.int .i64 d).wf=true)(hP:qjy f h ms p s i)(hf:ms.find? (inS p s i)=none)(hc:cntM ms s≠12)(he:(qbe f g h ms p s d).e≠0):
  Calls prog 130 #[.agg (tc f g h sl),.int .i64 p,.int .i64 s,.int .i64 i,.int .i64 d] w fun e w'=>e=.returned (qpm f g h sl noM false (qbe f g h ms p s d).e)/\Below w.heap.size w w':=by
 refine m2a ?_;intro hB;have hM0:=hM
 obtain⟨a0,cap,hsl,-⟩:=hM0
 obtain⟨n,hn⟩:∃n,n=ms.length:=⟨_,rfl⟩
 rw[←hn] at hsl
 subst hsl
 refine m0t ?_;clear hn;intro HN hlt CG G hp hs hi0 hi1 hs0 hs8 hs8n C1 C2 C3 e2 e3
 rw[hp] at C1
 rw[e2] at C2
 rw[e3] at C3
 refine m6a ?_;intro HG CF
 rw[hf] at CF
 unfold qhw at CF
 refine m81 ?_;intro CC dc CR
 unfold q00 at CR
 (have dE:((qbe f g h ms p s d).e != 0)=true:=by simp[he])
 generalize qbe f g h ms p s d=r at *
 obtain⟨rf,rh,rq,rt,re⟩:=r
 simp only at CR dE he ⊢
 generalize cntM ms s=cc at *
 clear G hp hs hi0 hi1 e2 e3 hf hc he
 go_enter func130,ntmps130
 go_wp2_with (first|(refine m30 ?_;clear hB;intro b5 w1 R5 hb1 l5 hB)|(refine m1u ?_;clear R5 hB;intro b10 w2 R10 hb2 n5a l10 R5 hB)|(refine m19 ?_;clear R5 R10 hB;intro b11 w3 R11 hb3 n5b nab l11 R5 R10 hB)|(refine lx 39 (.tmp 5) (tc f g h (.slice a0 n cap)) R5 ?_)|(go_at_call 25;refine m7a ?_;rintro e w5 ⟨r,hr,rfl,hb5⟩;obtain rfl:r=true:=(hr.2 HG.out);clear hr;refine m0v ?_;clear R5 R10 R11 hB;intro R5 R10 R11 hB)|(go_at_call 101;go_fit (C1 _);refine m04 ?_)|(go_at_call 102;go_fit (C2 _);refine m04 ?_)|(go_at_call 103;go_fit (C3 _);refine m04 ?_)|(go_at_call 32;go_fit (CF _ (hM.keep hB hlt));rintro e w5 ⟨rfl,hb5⟩;refine m0v ?_;clear R5 R10 R11 hB;intro R5 R10 R11 hB)|(refine m28 ?_;clear R5 R10 R11 hB;intro b14 w8 R14 hb8 n5c nac nbc l14 R5 R10 R11 hB)|(refine m78 ?_;clear R5 R10 R11 hB;intro w9 R14 t9 R5 R10 R11 hB)|(go_at_call 105;go_fit (CC _ (hM.keep hB hlt));rintro e w5 ⟨rfl,hb5⟩;(try clear R14);refine m0v ?_;clear R5 R10 R11 hB;intro R5 R10 R11 hB)|(go_at_call 165;go_fit (CR _ (hM.keep hB hlt));rintro e w5 ⟨rfl,hb5⟩;refine m0v ?_;clear R5 R10 R11 hB;intro R5 R10 R11 hB)|(refine ax 16 39 qb8 ?_;intro b16 w10 l16 R16 hb10;have n5d:=R5.ne l16;have nad:=R10.ne l16;have nbd:=R11.ne l16;replace l16:=Nat.le_trans hB.size l16;replace R5:=R5.below hb10;replace R10:=R10.below hb10;replace R11:=R11.below hb10;replace hB:=hB.trans (hb10.mono hB.size))|(refine m4g ?_;clear R5 R10 R11 hB;intro w11 R16 t11 R5 R10 R11 hB c16)|(refine m10 ?_;intro w6 R10 t6;replace R11:=t6.row R11 nab.symm;replace hB:=t6.below _ _ l10 hB)|(refine m6i ?_;clear R10 hB;intro w7 R11 t7 R10 hB))
 (refine m03 ?_;refine bodyPost_ret (qej rfl _ _ _ _ _ _ rfl rfl R10 R11 _ _ underlying39 underlying50 rfl rfl (qaq _ _ _ _) (qak _)) rfl ⟨rfl,hB⟩)
end Go.Proofs.YtonnjgmognbnbaaGreatDoor
