/-
  Of what a law stands on.
-/
import Derived.Test.YtnhafdkfjjplkaaDoorZrr3
set_option linter.unusedSimpArgs false
set_option linter.unusedVariables false
namespace Go.Proofs.YtnhafdkfjjplkaaDoor
open Go.Value renaming int → I,pointer → V
open Go.IntKind renaming i64 → Z
open _root_.Go.Proofs.Tryd Go.ChangeShapes Go.WideShapes Go.ChangeAt Go.RowKit
set_option maxHeartbeats 16000000
set_option maxRecDepth 100000
variable {ops:Array Oper}{o:Oper}{a:Act}{w w':World}{b p:Nat}{v:Value}{es:List Ev}{l:List UInt8}{d:Bool}
theorem qdtb{S:World->Prop}(x y:Operand)(ho:o.op=.slice 9 x none (some y) none)(hw:Region.wanted o (yielded ops a.tmps)=true)(l:List UInt8)(n:Nat)(hx:a.eval x=.string (txt l))(hy:a.eval y=I Z (n:Int))(hn:n<=l.length):YieldsIf prog ops S o (.string (txt (l.take n))) a:=
 .inl ⟨hw,fun w _=>by
  have hsz:(txt l).size=l.length:=qck l;have h1:=qdmb l n;(have h2:(n:Int)<=(l.length:Int):=by omega)
  unfold execOp
  simp only[ho,Option.map_some,Option.map_none,hx,hy]
  simp[go_sem,hsz,h1,h2,hn]⟩
theorem qezb(p:Nat)(l:List UInt8)(d:Bool)(v:Value)(w:World)(R:Rdr w p l d v)(hl:l.length<=140737488351232)(hh:qctb l=1):
  Calls prog 33 #[V (some ⟨p,0,none⟩)] w fun x w'=>x=.returned (.tuple #[.agg (hdc 0 0 0 0),I Z 1])/\qfb p w w':=by
 refine(qeib p l d v w R hl).mono ?_
 rintro x w' ⟨hM,⟨_,h,_⟩|⟨h,_⟩⟩
 ·exact⟨h,hM⟩
 ·rw[hh] at h;simp at h
theorem qc7b(p:Nat)(l:List UInt8)(d:Bool)(v:Value)(w:World)(R:Rdr w p l d v)(hl:l.length<=140737488351232)(hh:qctb l=0):
  Calls prog 33 #[V (some ⟨p,0,none⟩)] w fun x w'=>x=.returned (.tuple #[.agg (hdc (nAt l 2 2) (nAt l 4 4) (nAt l 8 4) (nAt l 16 2)),I Z 0])/\Rdr w' p (l.drop 20) d v/\qfb p w w':=by
 refine(qeib p l d v w R hl).mono ?_
 rintro x w' ⟨hM,⟨h,_,_⟩|⟨_,h,R'⟩⟩
 ·rw[hh] at h;simp at h
 ·exact⟨h,R',hM⟩
theorem qerb{t:TypeId}{cs:Array Value}(h:Row t w b cs):Row t w.drew b cs:=h
theorem qc8b(h:Tab w):Tab w.drew:=h
theorem qddb{base:Nat}(h:EvO w base v es):EvO w.drew base v es:=h
theorem qdob(h:qfb p w.drew w'):qfb p w w':=⟨h.os,h.tape,h.output,h.size,h.block⟩
def qgmb(p:Nat)(l:List UInt8)(d:Bool)(es:List Ev)(w:World)(x:Ending)(w':World):Prop:=
 Below p w w'/\((x=.returned (I Z (qcsb l d es).1)/\(qcsb l d es).1≠0)\/(x=.returned (I Z 0)/\∃l' d' v' es',qcsb l d es=(0,l',d',es')/\Rdr w' p l' d' v'/\EvO w' (p+1) v' es'/\l'.length<l.length/\es'.length<=4294970500))
theorem qdgb{E:Int}{r:List UInt8×Bool×List Ev}(h:qcsb l d es=(E,r))(h0:E≠0)(hB:Below p w w'):qgmb p l d es w (.returned (I Z E)) w':=
 ⟨hB,.inl ⟨by rw[h],by rw[h];exact h0⟩⟩
theorem qc6b(h:Tab w)(t:qbl b w w')(hb:b≠0):Tab w':=fun j v hv=>by
 have:=h j v hv
 unfold World.cell? at *
 rw[t.other 0 (fun e=>hb e.symm)]
 exact this
theorem sZrr42{p:Prop}(h:p:=by
 go_ret
 exact qdgb HS.out (by decide) hB):p:=h
theorem qehb(p:Nat)(l:List UInt8)(d:Bool)(v:Value)(es:List Ev)(w:World)(R:Rdr w p l d v)(hE:EvO w (p+1) v es)(hT:Tab w)(hp:p≠0)(hl:l.length<=140737488351232)(hes:es.length<=4294970500):
  Calls prog 27 #[V (some ⟨p,0,none⟩)] w (qgmb p l d es w):=by
 have hB:=Below.refl p w;have hpl:p<=w.heap.size:=Nat.le_of_lt R.lt;(have hp0:0<p:=by omega);obtain⟨sa,sc,hsl⟩:=hE.slice
 rcases qghb l with hh|hh
 case inr=>
  (have HS:Hid (qcsb l d es=(1,[],false,[])):=by show _=_;unfold qcsb;rw[if_pos (by rw[hh];decide),hh])
  go_enter func27,ntmps27
  go_wp2_with (first|((with_reducible refine gL 9 8 ?_);refine m13 ?_)|(go_at_call 33;refine(qezb p l _ _ _ R hl hh).mono ?_;rintro x w5 ⟨rfl,hM5⟩;have hRl:=Nat.lt_of_lt_of_le R.lt hM5.size;replace hE:=hE.moved hM5 om;replace hT:=hM5.tab hT hp;replace hB:=hB.trans (hM5.below (Nat.le_trans hpl hB.size) (Nat.le_refl _));clear hM5)|((with_reducible refine gA 71 ?_);refine ax 4 71 qcrb ?_;intro b4 w2 g4 R4 hb2;have n4:b4≠p:=(fun e=>by have:=hRl;omega);have gp4:p<=b4:=om;have hne4:=hE.new g4;replace hE:=hE.below hb2;replace hT:=hT.below hb2;replace hB:=hB.trans (hb2.mono (Nat.le_trans hpl hB.size)))|((with_reducible refine gS 71 4 13 ?_);refine sx 71 (.tmp 4) (.tmp 13) (hdc 0 0 0 0) R4 ?_;intro w4 R4 t4;replace hE:=hE.turned t4 hne4;replace hT:=qc6b hT t4 om;replace hB:=t4.below _ _ gp4 hB))
  exact sZrr42
 case inl=>
  obtain⟨h16,n10,n20,nle,n1,nk,n18⟩:=qf5b hh;have n65:=qgsb l 2;have nseq:=qc2b l 8 4 om
  obtain⟨N,hN⟩:∃N:Nat,nAt l 2 2=(N:Int):=⟨(nAt l 2 2).toNat,by omega⟩
  (have hNl:N<=l.length:=by omega);(have HN:Hid ((nAt l 2 2).toNat=N):=by show _=_;omega);(have hN20:20<=N:=by omega);have HNN:Hid (nAt l 2 2=(N:Int)):=hN;clear hN
  subst hsl
  by_cases hq:nAt l 8 4=(es.length:Int)
  ·(have hsq:(nAt l 8 4 != (es.length:Int))=false:=by simpa using hq);(have hlong:qi0 (nAt l 8 4)=true:=by simp[qi0];omega);(have hes1:es.length<=4294967295:=by omega)
   by_cases hk2:nAt l 16 2=2
   ·(have gk:(nAt l 16 2==2)=true:=by simpa using hk2)
    by_cases hm:l.take N=msgB 0 (es.length:Int) 2 (tplB 6)
    ·(have HS:Hid (qcsb l d es=(0,l.drop N,true,es)):=by show _=_;unfold qcsb;rw[if_neg (by rw[hh];decide),if_neg (by simpa using hq),if_pos hk2,HN.out,if_pos hm]);(have CY:=fun(w:World) (R:Rdr w p (l.drop 20) d (.slice sa es.length sc)) (hT:Tab w)=>qejb p l (l.take N) d (.slice sa es.length sc) (nAt l 2 2) (nAt l 4 4) (nAt l 8 4) (nAt l 16 2) w R hT hp n20 nle hl hlong (by rw[hm,hq]))
     rw[HN.out] at CY
     clear hq hk2 hm n10 n1 n18 nk
     go_enter func27,ntmps27
     go_upto_region 5 with(first|((with_reducible refine gL 9 8 ?_);refine m13 ?_)|(go_at_call 33;refine m04 ?_;clear R hE hT hB;intro w5 R hRl hE hT hB)|((with_reducible refine gA 71 ?_);refine m05 ?_;clear R hE hT hB;intro b4 w2 g4 R4 hb2 n4 gp4 hne4 R hE hT hB)|((with_reducible refine gS 71 4 13 ?_);refine m07 ?_;clear R hE hT hB;intro w4 R4 t4 R hE hT hB))
     refine RD (fun W=>Row 71 W b4 (hdc (nAt l 2 2) (nAt l 4 4) (nAt l 8 4) (nAt l 16 2))/\Row 61 W p (rc (l.drop 20) d (.slice sa es.length sc))) ⟨R4,R⟩ (fun _=>?_)
     refine tq 0 (V (some ⟨b4,2,none⟩)) rfl ⟨R4,R⟩ (tk 1 (I Z (nAt l 8 4)) rfl (qim (.tmp 20) rfl kr b4 2 kr (nAt l 8 4) (fun w h=>(h.1.cell 2).trans rfl)) ⟨R4,R⟩ (tq 2 (V (some ⟨p,0,none⟩)) rfl ⟨R4,R⟩ ?_))
     simp only[ZZ]
     refine tq 3 (V (some ⟨p,0,none⟩)) rfl ⟨R4,R⟩ (tq 4 (V (some ⟨p,2,none⟩)) rfl ⟨R4,R⟩ (tk 5 (.slice sa es.length sc) rfl (qc3b (.tmp 24) rfl kr p 2 kr (.slice sa es.length sc) (fun w h=>(h.2.cell 2).trans rfl)) ⟨R4,R⟩ ?_))
     refine m00 ?_;clear R4 R hB hE hT;intro R4 R hB hE hT
     go_upto_region 8 with(first|((with_reducible refine gL 3 29 ?_);refine fx R4 _ 3 _ ?_))
     refine RD (fun W=>Row 71 W b4 (hdc (nAt l 2 2) (nAt l 4 4) (nAt l 8 4) (nAt l 16 2))) R4 (fun _=>?_)
     refine m2f ?_
     refine tk 3 (I Z (nAt l 2 2)) rfl (qim (.tmp 34) rfl kr b4 0 kr (nAt l 2 2) (fun w h=>(h.cell 0).trans rfl)) R4 (tk 4 (.string (txt (l.take N))) rfl (qdtb (.tmp 33) (.tmp 35) rfl kr l N kr (by rw[←HNN.out];kernel_rfl) hNl) R4 (tk 5 (.agg (hdc (nAt l 2 2) (nAt l 4 4) (nAt l 8 4) (nAt l 16 2))) rfl (yx 71 (.tmp 4) _ (fun w h=>h)) R4 ?_))
     simp only[ZZ];refine AR [6] ?_
     refine AC (fun K hK=>?_) AZ
     go_simp
     go_at_call 34;refine(CY _ (qerb R) (qc8b hT)).mono ?_;rintro x w5 ⟨⟨rfl,R⟩,hM5⟩;replace hM5:=qdob hM5;replace R4:=hM5.row R4 n4;refine m1d ?_;clear hE hB;intro hE hB
     go_wp2_with fail
     refine hK.out _ _ R4 (fun _=>?_)
     clear hK K;(try simp only[ZZ]);refine tq 7 (I Z 0) rfl R4 ?_;refine m1r ?_
     go_wp2
     go_ret
     exact⟨hB,.inr ⟨rfl,_,_,_,_,HS.out,R,hE,by rw[List.length_drop];omega,by omega⟩⟩
    ·(have HS:Hid (qcsb l d es=(4,[],false,[])):=by show _=_;unfold qcsb;rw[if_neg (by rw[hh];decide),if_neg (by simpa using hq),if_pos hk2,HN.out,if_neg hm]);(have CN:=fun(w:World) (R:Rdr w p (l.drop 20) d (.slice sa es.length sc)) (hT:Tab w)=>qewb p l (l.take N) d (.slice sa es.length sc) (nAt l 2 2) (nAt l 4 4) (nAt l 8 4) (nAt l 16 2) w R hT hp n20 nle hl hlong (by rw[hq];exact hm));clear hq hk2 hm n10 n1 n18 nk
     go_enter func27,ntmps27
     go_upto_region 5 with(first|((with_reducible refine gL 9 8 ?_);refine m13 ?_)|(go_at_call 33;refine m04 ?_;clear R hE hT hB;intro w5 R hRl hE hT hB)|((with_reducible refine gA 71 ?_);refine m05 ?_;clear R hE hT hB;intro b4 w2 g4 R4 hb2 n4 gp4 hne4 R hE hT hB)|((with_reducible refine gS 71 4 13 ?_);refine m07 ?_;clear R hE hT hB;intro w4 R4 t4 R hE hT hB))
     refine RD (fun W=>Row 71 W b4 (hdc (nAt l 2 2) (nAt l 4 4) (nAt l 8 4) (nAt l 16 2))/\Row 61 W p (rc (l.drop 20) d (.slice sa es.length sc))) ⟨R4,R⟩ (fun _=>?_)
     refine tq 0 (V (some ⟨b4,2,none⟩)) rfl ⟨R4,R⟩ (tk 1 (I Z (nAt l 8 4)) rfl (qim (.tmp 20) rfl kr b4 2 kr (nAt l 8 4) (fun w h=>(h.1.cell 2).trans rfl)) ⟨R4,R⟩ (tq 2 (V (some ⟨p,0,none⟩)) rfl ⟨R4,R⟩ ?_))
     simp only[ZZ]
     refine tq 3 (V (some ⟨p,0,none⟩)) rfl ⟨R4,R⟩ (tq 4 (V (some ⟨p,2,none⟩)) rfl ⟨R4,R⟩ (tk 5 (.slice sa es.length sc) rfl (qc3b (.tmp 24) rfl kr p 2 kr (.slice sa es.length sc) (fun w h=>(h.2.cell 2).trans rfl)) ⟨R4,R⟩ ?_))
     refine m00 ?_;clear R4 R hB hE hT;intro R4 R hB hE hT
     go_upto_region 8 with(first|((with_reducible refine gL 3 29 ?_);refine fx R4 _ 3 _ ?_))
     refine RD (fun W=>Row 71 W b4 (hdc (nAt l 2 2) (nAt l 4 4) (nAt l 8 4) (nAt l 16 2))) R4 (fun _=>?_)
     refine m2f ?_
     refine tk 3 (I Z (nAt l 2 2)) rfl (qim (.tmp 34) rfl kr b4 0 kr (nAt l 2 2) (fun w h=>(h.cell 0).trans rfl)) R4 (tk 4 (.string (txt (l.take N))) rfl (qdtb (.tmp 33) (.tmp 35) rfl kr l N kr (by rw[←HNN.out];kernel_rfl) hNl) R4 (tk 5 (.agg (hdc (nAt l 2 2) (nAt l 4 4) (nAt l 8 4) (nAt l 16 2))) rfl (yx 71 (.tmp 4) _ (fun w h=>h)) R4 ?_))
     simp only[ZZ];refine AR [6] ?_
     refine AC (fun K hK=>?_) AZ
     go_simp;go_at_call 34;refine(CN _ (qerb R) (qc8b hT)).mono ?_;rintro x w5 ⟨rfl,hM5⟩;replace hM5:=qdob hM5;replace R4:=hM5.row R4 n4;refine m1d ?_;clear hE hB;intro hE hB
     go_wp2_with fail
     refine hK.out _ _ R4 (fun _=>?_)
     clear hK K;(try simp only[ZZ]);refine tq 7 (I Z 4) rfl R4 ?_;refine m1r ?_
     go_wp2
     exact sZrr42
   ·(have gk:(nAt l 16 2==2)=false:=by simpa using hk2)
    cases d with
    | false=>
     (have HS:Hid (qcsb l false es=(7,[],false,[])):=by show _=_;unfold qcsb;rw[if_neg (by rw[hh];decide),if_neg (by simpa using hq),if_neg hk2,if_pos rfl]);clear hq hk2 n10 n1 n18 nk
     go_enter func27,ntmps27
     go_upto_region 5 with(first|((with_reducible refine gL 9 8 ?_);refine m13 ?_)|(go_at_call 33;refine m04 ?_;clear R hE hT hB;intro w5 R hRl hE hT hB)|((with_reducible refine gA 71 ?_);refine m05 ?_;clear R hE hT hB;intro b4 w2 g4 R4 hb2 n4 gp4 hne4 R hE hT hB)|((with_reducible refine gS 71 4 13 ?_);refine m07 ?_;clear R hE hT hB;intro w4 R4 t4 R hE hT hB))
     refine RD (fun W=>Row 71 W b4 (hdc (nAt l 2 2) (nAt l 4 4) (nAt l 8 4) (nAt l 16 2))/\Row 61 W p (rc (l.drop 20) false (.slice sa es.length sc))) ⟨R4,R⟩ (fun _=>?_)
     refine tq 0 (V (some ⟨b4,2,none⟩)) rfl ⟨R4,R⟩ (tk 1 (I Z (nAt l 8 4)) rfl (qim (.tmp 20) rfl kr b4 2 kr (nAt l 8 4) (fun w h=>(h.1.cell 2).trans rfl)) ⟨R4,R⟩ (tq 2 (V (some ⟨p,0,none⟩)) rfl ⟨R4,R⟩ ?_))
     simp only[ZZ]
     refine tq 3 (V (some ⟨p,0,none⟩)) rfl ⟨R4,R⟩ (tq 4 (V (some ⟨p,2,none⟩)) rfl ⟨R4,R⟩ (tk 5 (.slice sa es.length sc) rfl (qc3b (.tmp 24) rfl kr p 2 kr (.slice sa es.length sc) (fun w h=>(h.2.cell 2).trans rfl)) ⟨R4,R⟩ ?_))
     refine m00 ?_;clear R4 R hB hE hT;intro R4 R hB hE hT
     go_wp2_with (first|((with_reducible refine gL 3 29 ?_);refine fx R4 _ 3 _ ?_)|((with_reducible refine gL 4 42 ?_);refine qv3 R _ rfl rfl 1 rfl _ rfl ?_))
     exact sZrr42
    | true=>
     by_cases hf:nAt l 2 2=20\/(nAt l 2 2-20)%21≠0
     ·(have HS:Hid (qcsb l true es=(1,[],false,[])):=by show _=_;unfold qcsb;rw[if_neg (by rw[hh];decide),if_neg (by simpa using hq),if_neg hk2,if_neg zm,if_pos hf]);(have CF:=fun(w:World) (R:Rdr w p (l.drop 20) true (.slice sa es.length sc)) (hE:EvO w (p+1) (.slice sa es.length sc) es)=>qfeb p l true (.slice sa es.length sc) es (nAt l 2 2) (nAt l 4 4) (nAt l 8 4) (nAt l 16 2) w R hE n20 nle n65 hl hes1 hf);clear hq hk2 n10 n1 n18 nk hf
      go_enter func27,ntmps27
      go_upto_region 5 with(first|((with_reducible refine gL 9 8 ?_);refine m13 ?_)|(go_at_call 33;refine m04 ?_;clear R hE hT hB;intro w5 R hRl hE hT hB)|((with_reducible refine gA 71 ?_);refine m05 ?_;clear R hE hT hB;intro b4 w2 g4 R4 hb2 n4 gp4 hne4 R hE hT hB)|((with_reducible refine gS 71 4 13 ?_);refine m07 ?_;clear R hE hT hB;intro w4 R4 t4 R hE hT hB))
      refine RD (fun W=>Row 71 W b4 (hdc (nAt l 2 2) (nAt l 4 4) (nAt l 8 4) (nAt l 16 2))/\Row 61 W p (rc (l.drop 20) true (.slice sa es.length sc))) ⟨R4,R⟩ (fun _=>?_)
      refine tq 0 (V (some ⟨b4,2,none⟩)) rfl ⟨R4,R⟩ (tk 1 (I Z (nAt l 8 4)) rfl (qim (.tmp 20) rfl kr b4 2 kr (nAt l 8 4) (fun w h=>(h.1.cell 2).trans rfl)) ⟨R4,R⟩ (tq 2 (V (some ⟨p,0,none⟩)) rfl ⟨R4,R⟩ ?_))
      simp only[ZZ]
      refine tq 3 (V (some ⟨p,0,none⟩)) rfl ⟨R4,R⟩ (tq 4 (V (some ⟨p,2,none⟩)) rfl ⟨R4,R⟩ (tk 5 (.slice sa es.length sc) rfl (qc3b (.tmp 24) rfl kr p 2 kr (.slice sa es.length sc) (fun w h=>(h.2.cell 2).trans rfl)) ⟨R4,R⟩ ?_))
      refine m00 ?_;clear R4 R hB hE hT;intro R4 R hB hE hT
      go_wp2_with (first|((with_reducible refine gL 3 29 ?_);refine fx R4 _ 3 _ ?_)|((with_reducible refine gL 4 42 ?_);refine qv3 R _ rfl rfl 1 rfl _ rfl ?_)|((with_reducible refine gL 71 4 ?_);refine lx 71 (.tmp 4) _ R4 ?_)|(go_at_call 35;refine(CF _ R hE).mono ?_;rintro x w5 ⟨rfl,hb5⟩;replace hB:=hB.trans (hb5.mono (Nat.le_refl _))))
      exact sZrr42
     ·have hdum:True:=trivial;(have CL:=fun(w:World) (R:Rdr w p (l.drop 20) true (.slice sa es.length sc)) (hE:EvO w (p+1) (.slice sa es.length sc) es)=>qgjb p l true (.slice sa es.length sc) es (nAt l 2 2) (nAt l 4 4) (nAt l 8 4) (nAt l 16 2) w R hE n20 nle n65 hl hes1 hf)
      rw[HN.out] at CL
      (have hcnt:((nAt l 2 2-20)/21).toNat<=3200:=by omega)
      rcases hev:evs (nAt l 4 4) ((nAt l 2 2-20)/21).toNat (l.drop 20) es with _|es'
      ·(have HS:Hid (qcsb l true es=(2,[],false,[])):=by show _=_;unfold qcsb;rw[if_neg (by rw[hh];decide),if_neg (by simpa using hq),if_neg hk2,if_neg zm,if_neg hf,hev])
       have CL2:∀w,Rdr w p (l.drop 20) true (.slice sa es.length sc)->EvO w (p+1) (.slice sa es.length sc) es->Calls prog 35 #[V (some ⟨p,0,none⟩),.agg (hdc (nAt l 2 2) (nAt l 4 4) (nAt l 8 4) (nAt l 16 2))] w fun x w'=>x=.returned (I Z 2)/\Below p w w':=fun w R hE=>(CL w R hE).mono (by
        rintro x w' ⟨⟨h,_⟩|⟨_,_,_,h,_⟩,hB⟩
        ·exact⟨h,hB⟩
        ·rw[hev] at h;simp at h)
       clear hq hk2 n10 n1 n18 nk hf CL hev
       go_enter func27,ntmps27
       go_upto_region 5 with(first|((with_reducible refine gL 9 8 ?_);refine m13 ?_)|(go_at_call 33;refine m04 ?_;clear R hE hT hB;intro w5 R hRl hE hT hB)|((with_reducible refine gA 71 ?_);refine m05 ?_;clear R hE hT hB;intro b4 w2 g4 R4 hb2 n4 gp4 hne4 R hE hT hB)|((with_reducible refine gS 71 4 13 ?_);refine m07 ?_;clear R hE hT hB;intro w4 R4 t4 R hE hT hB))
       refine RD (fun W=>Row 71 W b4 (hdc (nAt l 2 2) (nAt l 4 4) (nAt l 8 4) (nAt l 16 2))/\Row 61 W p (rc (l.drop 20) true (.slice sa es.length sc))) ⟨R4,R⟩ (fun _=>?_)
       refine tq 0 (V (some ⟨b4,2,none⟩)) rfl ⟨R4,R⟩ (tk 1 (I Z (nAt l 8 4)) rfl (qim (.tmp 20) rfl kr b4 2 kr (nAt l 8 4) (fun w h=>(h.1.cell 2).trans rfl)) ⟨R4,R⟩ (tq 2 (V (some ⟨p,0,none⟩)) rfl ⟨R4,R⟩ ?_))
       simp only[ZZ]
       refine tq 3 (V (some ⟨p,0,none⟩)) rfl ⟨R4,R⟩ (tq 4 (V (some ⟨p,2,none⟩)) rfl ⟨R4,R⟩ (tk 5 (.slice sa es.length sc) rfl (qc3b (.tmp 24) rfl kr p 2 kr (.slice sa es.length sc) (fun w h=>(h.2.cell 2).trans rfl)) ⟨R4,R⟩ ?_))
       refine m00 ?_;clear R4 R hB hE hT;intro R4 R hB hE hT
       go_wp2_with (first|((with_reducible refine gL 3 29 ?_);refine fx R4 _ 3 _ ?_)|((with_reducible refine gL 4 42 ?_);refine qv3 R _ rfl rfl 1 rfl _ rfl ?_)|((with_reducible refine gL 71 4 ?_);refine lx 71 (.tmp 4) _ R4 ?_)|(go_at_call 35;refine(CL2 _ R hE).mono ?_;rintro x w5 ⟨rfl,hb5⟩;replace hB:=hB.trans (hb5.mono (Nat.le_refl _))))
       exact sZrr42
      ·(have HS:Hid (qcsb l true es=(0,l.drop N,true,es')):=by show _=_;unfold qcsb;rw[if_neg (by rw[hh];decide),if_neg (by simpa using hq),if_neg hk2,if_neg zm,if_neg hf,hev,HN.out]);have hlen':=qgob hev
       have CL3:∀w,Rdr w p (l.drop 20) true (.slice sa es.length sc)->EvO w (p+1) (.slice sa es.length sc) es->Calls prog 35 #[V (some ⟨p,0,none⟩),.agg (hdc (nAt l 2 2) (nAt l 4 4) (nAt l 8 4) (nAt l 16 2))] w fun x w'=>x=.returned (I Z 0)/\(∃v',Rdr w' p (l.drop N) true v'/\EvO w' (p+1) v' es')/\Below p w w':=fun w R hE=>(CL w R hE).mono (by
        rintro x w' ⟨⟨_,h⟩|⟨h,v',e2,h2,R',E'⟩,hB⟩
        ·rw[hev] at h;simp at h
        ·rw[hev] at h2
         obtain rfl:es'=e2:=by simpa using h2
         exact⟨h,⟨v',R',E'⟩,hB⟩)
       clear hq hk2 n10 n1 n18 nk hf CL hev
       go_enter func27,ntmps27
       go_upto_region 5 with(first|((with_reducible refine gL 9 8 ?_);refine m13 ?_)|(go_at_call 33;refine m04 ?_;clear R hE hT hB;intro w5 R hRl hE hT hB)|((with_reducible refine gA 71 ?_);refine m05 ?_;clear R hE hT hB;intro b4 w2 g4 R4 hb2 n4 gp4 hne4 R hE hT hB)|((with_reducible refine gS 71 4 13 ?_);refine m07 ?_;clear R hE hT hB;intro w4 R4 t4 R hE hT hB))
       refine RD (fun W=>Row 71 W b4 (hdc (nAt l 2 2) (nAt l 4 4) (nAt l 8 4) (nAt l 16 2))/\Row 61 W p (rc (l.drop 20) true (.slice sa es.length sc))) ⟨R4,R⟩ (fun _=>?_)
       refine tq 0 (V (some ⟨b4,2,none⟩)) rfl ⟨R4,R⟩ (tk 1 (I Z (nAt l 8 4)) rfl (qim (.tmp 20) rfl kr b4 2 kr (nAt l 8 4) (fun w h=>(h.1.cell 2).trans rfl)) ⟨R4,R⟩ (tq 2 (V (some ⟨p,0,none⟩)) rfl ⟨R4,R⟩ ?_))
       simp only[ZZ]
       refine tq 3 (V (some ⟨p,0,none⟩)) rfl ⟨R4,R⟩ (tq 4 (V (some ⟨p,2,none⟩)) rfl ⟨R4,R⟩ (tk 5 (.slice sa es.length sc) rfl (qc3b (.tmp 24) rfl kr p 2 kr (.slice sa es.length sc) (fun w h=>(h.2.cell 2).trans rfl)) ⟨R4,R⟩ ?_))
       refine m00 ?_;clear R4 R hB hE hT;intro R4 R hB hE hT
       go_wp2_with (first|((with_reducible refine gL 3 29 ?_);refine fx R4 _ 3 _ ?_)|((with_reducible refine gL 4 42 ?_);refine qv3 R _ rfl rfl 1 rfl _ rfl ?_)|((with_reducible refine gL 71 4 ?_);refine lx 71 (.tmp 4) _ R4 ?_)|(go_at_call 35;refine(CL3 _ R hE).mono ?_;rintro x w5 ⟨rfl,⟨v',R',hE'⟩,hb5⟩;replace hB:=hB.trans (hb5.mono (Nat.le_refl _))))
       go_ret
       exact⟨hB,.inr ⟨rfl,_,_,_,_,HS.out,R',hE',by rw[List.length_drop];omega,by omega⟩⟩
  ·(have hsq:(nAt l 8 4 != (es.length:Int))=true:=by simpa using hq);(have HS:Hid (qcsb l d es=(3,[],false,[])):=by show _=_;unfold qcsb;rw[if_neg (by rw[hh];decide),if_pos hq]);clear hq n10 n1 n18 nk
   go_enter func27,ntmps27
   go_upto_region 5 with(first|((with_reducible refine gL 9 8 ?_);refine m13 ?_)|(go_at_call 33;refine m04 ?_;clear R hE hT hB;intro w5 R hRl hE hT hB)|((with_reducible refine gA 71 ?_);refine m05 ?_;clear R hE hT hB;intro b4 w2 g4 R4 hb2 n4 gp4 hne4 R hE hT hB)|((with_reducible refine gS 71 4 13 ?_);refine m07 ?_;clear R hE hT hB;intro w4 R4 t4 R hE hT hB))
   refine RD (fun W=>Row 71 W b4 (hdc (nAt l 2 2) (nAt l 4 4) (nAt l 8 4) (nAt l 16 2))/\Row 61 W p (rc (l.drop 20) d (.slice sa es.length sc))) ⟨R4,R⟩ (fun _=>?_)
   refine tq 0 (V (some ⟨b4,2,none⟩)) rfl ⟨R4,R⟩ (tk 1 (I Z (nAt l 8 4)) rfl (qim (.tmp 20) rfl kr b4 2 kr (nAt l 8 4) (fun w h=>(h.1.cell 2).trans rfl)) ⟨R4,R⟩ (tq 2 (V (some ⟨p,0,none⟩)) rfl ⟨R4,R⟩ ?_))
   simp only[ZZ]
   refine tq 3 (V (some ⟨p,0,none⟩)) rfl ⟨R4,R⟩ (tq 4 (V (some ⟨p,2,none⟩)) rfl ⟨R4,R⟩ (tk 5 (.slice sa es.length sc) rfl (qc3b (.tmp 24) rfl kr p 2 kr (.slice sa es.length sc) (fun w h=>(h.2.cell 2).trans rfl)) ⟨R4,R⟩ ?_))
   simp only[ZZ];refine tq 6 (I Z (es.length:Int)) rfl ⟨R4,R⟩ (tk 7 (.bool true) rfl (qrk 3 (.tmp 21) (.tmp 26) (nAt l 8 4) (es.length:Int) true rfl kr kr kr hsq) ⟨R4,R⟩ (tq 8 (.bool true) rfl ⟨R4,R⟩ ?_));refine m1r ?_;replace R4:Row 71 (World.drew _) b4 _:=R4;replace R:Row 61 (World.drew _) p _:=R;replace hB:=qcxb hB;replace hE:=qddb hE;replace hT:=qc8b hT
   go_wp2
   exact sZrr42
def qegb(w:World)(p:Nat):Nat:=match w.cell? ⟨p,0,none⟩ with
 | some (.string s)=>s.size
 | _=>0
theorem qekb(R:Rdr w p l d v):qegb w p=l.length:=by
 unfold qegb
 rw[Row.cell R 0]
 simp[rc,qck]
def qg7b(base:Nat)(l:List UInt8)(x:Ending)(w':World):Prop:=∃v,x=.returned (.tuple #[v,I Z (runM l.length l false []).1])/\EvAt w' v (runM l.length l false []).2
theorem qf2b(l:List UInt8)(w:World)(hT:Tab w)(hl:l.length<=140737488351232):
  Calls prog 15 #[.string (txt l)] w fun x w'=>qg7b w.heap.size l x w'/\Below w.heap.size w w':=by
 refine m2b ?_;intro hB;have hw0:=hT.lt
 go_enter func15,ntmps15
 go_wp2_with (first|((with_reducible refine gB 61 7 ?_);refine bx 61 _ (rc l false (.slice none 0 0)) ?_;intro p w2 gp R hb2;have hE:=EvO.nil w2 (p+1);replace hB:=hB.trans (hb2.mono hB.size)))
 (have hp:p≠0:=by omega)
 go_loopw [5] (fun _ W=>∃n m d v es,m.length<=n/\m.length<=l.length/\Hid (runM l.length l false []=runM n m d es)/\Rdr W p m d v/\EvO W (p+1) v es/\es.length<=4294970500/\Below w.heap.size w W) (fun _ W=>qegb W p)
 case atStart=>exact⟨l.length,l,false,_,[],Nat.le_refl _,Nat.le_refl _,rfl,R,hE,by simp,hB⟩
 case round=>
  clear hB R hE;obtain⟨n,m,d,v,es,hmn,hml,HR,R,hE,hes,hB⟩:=hrel;have hsz:(txt m).size=m.length:=qck m;have hTW:=hT.keep hB hw0
  by_cases h0:0<m.length
  ·obtain⟨n',rfl⟩:∃n',n=n'+1:=⟨n-1,by omega⟩
   (have h0':(0:Int)<(m.length:Int):=by omega);have CM:=qehb p m d v es _ R hE hTW hp om hes
   by_cases hs:(qcsb m d es).1=0
   ·have CO:Calls prog 27 #[V (some ⟨p,0,none⟩)] _ fun x w'=>x=.returned (I Z 0)/\(∃l' d' v' es',qcsb m d es=(0,l',d',es')/\Rdr w' p l' d' v'/\EvO w' (p+1) v' es'/\l'.length<m.length/\es'.length<=4294970500)/\Below p _ w':=CM.mono (by
     rintro x w' ⟨hb,⟨_,h⟩|⟨h,r⟩⟩
     ·exact absurd hs h
     ·exact⟨h,r,hb⟩)
    clear CM hs;have HM:Hid (qegb _ p=m.length):=qekb R
    go_wp2_with (first|((with_reducible refine gL 9 11 ?_);refine qcm R _ rfl rfl 0 rfl (txt m) rfl ?_)|(go_at_call 27;refine CO.mono ?_;rintro x w5 ⟨rfl,⟨l',d',v',es',hst,R',hE',hlt',hes'⟩,hb5⟩;replace hB:=hB.trans (hb5.mono gp)))
    go_roundw
    case rel=>first|exact⟨n',l',d',v',es',by omega,by omega,(by show _=_;rw[HR.out,qd9b n' m d es om hst]),R',hE',hes',hB⟩|((repeat apply Exists.intro);exact⟨⟨n',l',d',v',es',by omega,by omega,(by show _=_;rw[HR.out,qd9b n' m d es om hst]),R',hE',hes',hB⟩,rfl⟩)
    case measure=>rw[HM.out,qekb R'];exact hlt'
   ·obtain⟨E,hEE⟩:∃E,(qcsb m d es).1=E:=⟨_,rfl⟩
    have CE:Calls prog 27 #[V (some ⟨p,0,none⟩)] _ fun x w'=>x=.returned (I Z E)/\Below p _ w':=CM.mono (by
     rintro x w' ⟨hb,⟨h,_⟩|⟨_,_,_,_,_,h,_⟩⟩
     ·rw[hEE] at h;exact⟨h,hb⟩
     ·rw[h] at hs;exact absurd rfl hs)
    (have HX:Hid (runM l.length l false []=(E,[])):=by show _=_;rw[HR.out,qgbb n' m d es om hs,hEE])
    rw[hEE] at hs
    (have hE0:(E != 0)=true:=by simpa using hs);clear CM hs hEE HR
    go_wp2_with (first|((with_reducible refine gL 9 11 ?_);refine qcm R _ rfl rfl 0 rfl (txt m) rfl ?_)|(go_at_call 27;refine CE.mono ?_;rintro x w5 ⟨rfl,hb5⟩;replace hB:=hB.trans (hb5.mono gp)))
    go_ret2
    exact⟨⟨.slice none 0 0,by rw[HX.out];rfl,by rw[HX.out];exact⟨none,0,rfl,fun h=>absurd h zm,fun j hj=>absurd hj zm,by simp⟩⟩,hB⟩
  ·(have HX:Hid (runM l.length l false []=(0,es)):=by show _=_;rw[HR.out,qelb n m d es om]);(have h0':¬(0:Int)<(m.length:Int):=by omega);have hA:=hE.at om;clear HR;obtain⟨sa,sc,hsl⟩:=hE.slice
   subst hsl
   go_wp2_with (first|((with_reducible refine gL 9 11 ?_);refine qcm R _ rfl rfl 0 rfl (txt m) rfl ?_)|((with_reducible refine gL 22 22 ?_);refine qdfb R _ rfl rfl 2 rfl (.slice sa es.length sc) rfl ?_))
   go_ret2
   exact⟨⟨_,by rw[HX.out];rfl,by rw[HX.out];exact hA⟩,hB⟩
theorem q1mb(x c:Int):wrap64 (wrap64 (256*wrap64 x)+c)=wrap64 (256*x+c):=by unfold wrap64;omega
theorem q0mb(l:List UInt8)(w:World)(hs:l.length<=8):
  Calls prog 28 #[.string (txt l)] w fun e w'=>e=.returned (I Z (wrap64 (num l)))/\Below w.heap.size w w':=by
 obtain⟨C,cap,hconv,hcell⟩:=qfjb (txt l) w;have hsz:(txt l).size=l.length:=qck l
 rw[hsz] at hconv
 go_enter func28,ntmps28
 go_wp2
 go_loop [3,9] (fun t i=>∃k:Nat,k<=l.length/\i=I Z k/\t=I Z (wrap64 (num (l.take k)))) (fun _ i=>l.length-(intOf i).toNat)
 case atStart=>exact⟨0,by omega,rfl,by simp[num,wrap64]⟩
 case round=>
  obtain⟨k,hk,rfl,rfl⟩:=hrel
  by_cases hlt:k<l.length
  ·have HS:Hid (num (l.take (k+1))=256*num (l.take k)+(l[k].toNat:Int)):=qefb l k hlt;have c0:=qje l[k]
   have hc:World.cell? (w.alloc (.cells C 5 (C.size,C.size+1))) ⟨w.heap.size,k,none⟩=some (.int .u8 (l[k].toNat:Int)):=by
    have h5:=hcell k (by rw[hsz];exact hlt)
    rw[q1xb l k hlt (by rw[hsz];exact hlt)] at h5
    exact h5
   have HW:Hid (wrap64 (wrap64 (256*wrap64 (num (l.take k)))+(l[k].toNat:Int))=_):=q1mb _ _;(have hjw:wrap64 ((k:Int)+1)=(k:Int)+1:=by unfold wrap64;omega);clear hcell
   go_wp2
   go_round
   case rel=>exact⟨k+1,by omega,by go_num,by rw[HW.out,HS.out]⟩
   case measure=>simp[intOf];omega
  ·have HA:Hid (wrap64 (num (l.take k))=wrap64 (num l)):=by
    show _=_
    rw[List.take_of_length_le om]
   go_wp2
   go_ret
   exact⟨by rw[←HA.out];rfl,((Below.refl _ _).alloc (Nat.le_refl _) _).drew⟩
theorem qz7b(l:List UInt8)(w:World)(hs:l.length<=4):
  Calls prog 28 #[.string (txt l)] w fun e w'=>e=.returned (I Z (num l))/\Below w.heap.size w w':=by
 have:=q0mb l w om
 have hb:=qg1b (k:=4) hs om
 rw[qdkb om om] at this
 exact this
def evN(t:Int)(n:Nat):Ev:=⟨t,(n%8:Nat),(n/8%3:Nat),(n/24%6:Nat),n/144==1⟩
theorem q18b{t:Int}(h0:0<=t)(h1:t<=1099511627776)(n:Nat):okE (evN t n):=by unfold okE evN;simp;omega
theorem q13b(T:Int)(n:Nat):evN T n=⟨T,(n:Int)%8,(n:Int)/8%3,(n:Int)/24%6,(n:Int)/144==1⟩:=by
 unfold evN
 (have h:(n/144==1)=((n:Int)/144==1):=by rw[Bool.eq_iff_iff];simp;omega)
 rw[h];congr 1
theorem q10b{e:Ev}(h:okE e):∃n,n<288/\evN e.t n=e:=by
 obtain⟨t,s,a,b,fr⟩:=e
 obtain⟨_,⟨s0,s1⟩,⟨a0,a1⟩,b0,b1⟩:=h
 simp at s0 s1 a0 a1 b0 b1
 obtain⟨s,rfl⟩:∃k:Nat,s=k:=⟨s.toNat,by omega⟩
 obtain⟨a,rfl⟩:∃k:Nat,a=k:=⟨a.toNat,by omega⟩
 obtain⟨b,rfl⟩:∃k:Nat,b=k:=⟨b.toNat,by omega⟩
 cases fr
 ·refine⟨s+8*a+24*b,by omega,?_⟩
  unfold evN
  (have e1:(s+8*a+24*b)%8=s:=by omega);(have e2:(s+8*a+24*b)/8%3=a:=by omega);(have e3:(s+8*a+24*b)/24%6=b:=by omega);(have e4:(s+8*a+24*b)/144=0:=by omega)
  rw[e1,e2,e3,e4];rfl
 ·refine⟨s+8*a+24*b+144,by omega,?_⟩
  unfold evN
  (have e1:(s+8*a+24*b+144)%8=s:=by omega);(have e2:(s+8*a+24*b+144)/8%3=a:=by omega);(have e3:(s+8*a+24*b+144)/24%6=b:=by omega);(have e4:(s+8*a+24*b+144)/144=1:=by omega)
  rw[e1,e2,e3,e4];rfl
theorem q1jb(t s a b:Int)(fr:Bool)(w:World):(Instr.build 29 #[(0,I Z t),(1,I Z s),(2,I Z a),(3,I Z b),(4,.bool fr)]).run prog w=.ok (.agg (ec ⟨t,s,a,b,fr⟩)) w:=by kernel_rfl
theorem q0tb{rest:List Oper}{Q:Exit->Act->World->Prop}(x0 x1 x2 x3 x4:Operand)(ho:o.op=.build 29 #[(0,x0),(1,x1),(2,x2),(3,x3),(4,x4)])(hw:Region.wanted o (yielded ops a.tmps)=true)(t s b c:Int)(fr:Bool)(h0:a.eval x0=I Z t)(h1:a.eval x1=I Z s)(h2:a.eval x2=I Z b)(h3:a.eval x3=I Z c)(h4:a.eval x4=.bool fr)(hr:wpList prog ops Q rest (a.put o.dst (.agg (ec ⟨t,s,b,c,fr⟩))) w):wpList prog ops Q (o::rest) a w:=
 wpList_step fun K hK=>by
  rw[if_pos hw]
  unfold Oper.wp execOp
  simp only[ho,List.map_toArray,List.map_cons,List.map_nil,h0,h1,h2,h3,h4,Sem.run_bind,q1jb,Result.andThen_ok,Sem.run_pure]
  exact hK _ _ hr
theorem q0ub(w:World):(Instr.build 29 #[]).run prog w=.ok (.agg (ec noE)) w:=by kernel_rfl
theorem q15b{n:Nat}(h:n<288):288-((n:Int)+1).toNat<288-((n:Int)).toNat:=by omega
theorem sZrr41{p:Prop}(h:p:=by
 go_enter func29,ntmps29
 go_wp2_with (first|((with_reducible refine gA 29 ?_);refine ax 2 29 qr3 ?_;intro b2 w2 g2 R2 hb2;replace hB:=hB.trans (hb2.mono hB.size))|(go_at_call 28;go_fit (q0mb (l.take 8) _ h8);rintro x w5 ⟨rfl,hb5⟩;replace R2:=R2.below hb5;replace hB:=hB.trans (hb5.mono hB.size))|((with_reducible refine atOp (.build 29 #[]) rfl ?_);refine qcvb 29 rfl rfl _ q0ub ?_)|((with_reducible refine gS 29 2 16 ?_);refine sx 29 (.tmp 2) (.tmp 16) (ec noE) R2 ?_;intro w6 R2 t6;replace hB:=t6.below _ _ g2 hB))
 (refine m0r ?_;refine m22 ?_)
 exact⟨Or.inr ⟨HN.out,rfl⟩,hB⟩):p:=h
theorem q03b(l:List UInt8)(w:World)(hl:l.length=21):
  Calls prog 29 #[.string (txt l)] w fun x w'=>((okR l/\x=.returned (.tuple #[.agg (ec (rdE l)),.bool true]))\/(¬okR l/\x=.returned (.tuple #[.agg (ec noE),.bool false])))/\Below w.heap.size w w':=by
 refine m2b ?_;intro hB;(have hsz:(txt l).size=21:=by rw[qck,hl]);have h1:=qdmb l 8;(have h8:(l.take 8).length<=8:=by rw[List.length_take];omega)
 obtain⟨T,hT⟩:∃T,wrap64 (num (l.take 8))=T:=⟨_,rfl⟩
 have HT:Hid (wrap64 (num (l.take 8))=T):=hT;have HR:Hid ((rdE l).t=T):=hT;have h21:l.take 21=l:=List.take_of_length_le om
 by_cases t0:T<0
 ·(have HN:Hid (¬okR l):=fun h=>by have:=h.1.1.1;rw[HR.out] at this;omega);(have g0:decide (T<0)=true:=by simpa using t0);clear t0 h21
  exact sZrr41
 by_cases t1:1099511627776<T
 ·(have HN:Hid (¬okR l):=fun h=>by have:=h.1.1.2;rw[HR.out] at this;omega);(have g0:decide (T<0)=false:=by simpa using t0);(have g1:decide (1099511627776<T)=true:=by simpa using t1);clear t0 t1 h21
  exact sZrr41
 (have g0:decide (T<0)=false:=by simpa using t0);(have g1:decide (1099511627776<T)=false:=by simpa using t1);(have HOK:Hid (∀n,okE (evN T n)):=fun n=>q18b om om n);have H21:Hid (l.take 21=l):=h21;clear t0 t1 h21
 go_enter func29,ntmps29
 go_wp2_with (first|((with_reducible refine gA 29 ?_);refine ax 2 29 qr3 ?_;intro b2 w2 g2 R2 hb2;replace hB:=hB.trans (hb2.mono hB.size))|(go_at_call 28;go_fit (q0mb (l.take 8) _ h8);rintro x w5 ⟨rfl,hb5⟩;replace R2:=R2.below hb5;replace hB:=hB.trans (hb5.mono hB.size)))
 go_loopw [17] (fun i W=>∃n:Nat,n<=288/\i=I Z (n:Int)/\Hid (∀k,k<n->evB (evN T k)≠l)/\Below w.heap.size w W/\Row 29 W b2 (ec noE)) (fun i _=>288-(intOf i).toNat)
 case atStart=>exact⟨0,by omega,rfl,fun k hk=>absurd hk (Nat.not_lt_zero k),hB,R2⟩
 case round=>
  clear hB R2
  obtain⟨n,hn,rfl,HF,hB,R2⟩:=hrel
  by_cases hlt:n<288
  ·(have hi:(n:Int)<288:=by omega);(have hw1:wrap64 ((n:Int)+1)=(n:Int)+1:=by unfold wrap64;omega);have HEV:Hid (evN T n=⟨T,(n:Int)%8,(n:Int)/8%3,(n:Int)/24%6,(n:Int)/144==1⟩):=q13b T n;(have hok:okE ⟨T,(n:Int)%8,(n:Int)/8%3,(n:Int)/24%6,(n:Int)/144==1⟩:=by rw[←HEV.out];exact HOK.out n)
   by_cases heq:evB ⟨T,(n:Int)%8,(n:Int)/8%3,(n:Int)/24%6,(n:Int)/144==1⟩=l
   ·have HQ:=q19b (l:=l) hok (by rw[heq];exact H21.out.symm);have HQ1:Hid (okR l):=HQ.1;have HQ2:Hid (rdE l=⟨T,(n:Int)%8,(n:Int)/8%3,(n:Int)/24%6,(n:Int)/144==1⟩):=HQ.2;(have gE:((txt (evB ⟨T,(n:Int)%8,(n:Int)/8%3,(n:Int)/24%6,(n:Int)/144==1⟩)).toList==(txt l).toList)=true:=by rw[heq];simp);clear HQ heq
    go_wp2_with (first|((with_reducible refine atOp (.build 29 #[(0,.tmp 20),(1,.tmp 22),(2,.tmp 25),(3,.tmp 28),(4,.tmp 31)]) rfl ?_);refine q0tb _ _ _ _ _ rfl rfl T ((n:Int)%8) ((n:Int)/8%3) ((n:Int)/24%6) ((n:Int)/144==1) rfl rfl rfl rfl rfl ?_)|((with_reducible refine gA 29 ?_);refine ax 6 29 qr3 ?_;intro b6 w2 g6 R6 hb2;have n26:=R2.ne g6;replace g6:=Nat.le_trans hB.size g6;replace R2:=R2.below hb2;replace hB:=hB.trans (hb2.mono hB.size))|((with_reducible refine gS 29 6 32 ?_);refine sx 29 (.tmp 6) (.tmp 32) (ec ⟨T,(n:Int)%8,(n:Int)/8%3,(n:Int)/24%6,(n:Int)/144==1⟩) R6 ?_;intro w6 R6 t6;replace R2:=t6.row R2 n26;replace hB:=t6.below _ _ g6 hB)|((with_reducible refine gL 29 6 ?_);refine lx 29 (.tmp 6) (ec ⟨T,(n:Int)%8,(n:Int)/8%3,(n:Int)/24%6,(n:Int)/144==1⟩) R6 ?_)|(go_at_call 23;go_fit (qsib ⟨T,(n:Int)%8,(n:Int)/8%3,(n:Int)/24%6,(n:Int)/144==1⟩ _ hok);rintro x w5 ⟨rfl,hb5⟩;replace R2:=R2.below hb5;replace R6:=R6.below hb5;replace hB:=hB.trans (hb5.mono hB.size))|((with_reducible refine gS 29 2 37 ?_);refine sx 29 (.tmp 2) (.tmp 37) (ec ⟨T,(n:Int)%8,(n:Int)/8%3,(n:Int)/24%6,(n:Int)/144==1⟩) R2 ?_;intro w6 R2 t6;replace hB:=t6.below _ _ g2 hB))
    (refine m0r ?_;refine m22 ?_)
    exact⟨Or.inl ⟨HQ1.out,by rw[HQ2.out];rfl⟩,hB⟩
   ·(have gE:((txt (evB ⟨T,(n:Int)%8,(n:Int)/8%3,(n:Int)/24%6,(n:Int)/144==1⟩)).toList==(txt l).toList)=false:=by rw[ByteArray.toList_eq,ByteArray.toList_eq,qds,qds];simpa using heq)
    have HF2:Hid (∀k,k<n+1->evB (evN T k)≠l):=fun k hk=>by
     by_cases hkn:k=n
     ·subst hkn;rw[HEV.out];exact heq
     ·exact HF.out k om
    clear heq
    go_wp2_with (first|((with_reducible refine atOp (.build 29 #[(0,.tmp 20),(1,.tmp 22),(2,.tmp 25),(3,.tmp 28),(4,.tmp 31)]) rfl ?_);refine q0tb _ _ _ _ _ rfl rfl T ((n:Int)%8) ((n:Int)/8%3) ((n:Int)/24%6) ((n:Int)/144==1) rfl rfl rfl rfl rfl ?_)|((with_reducible refine gA 29 ?_);refine ax 6 29 qr3 ?_;intro b6 w2 g6 R6 hb2;have n26:=R2.ne g6;replace g6:=Nat.le_trans hB.size g6;replace R2:=R2.below hb2;replace hB:=hB.trans (hb2.mono hB.size))|((with_reducible refine gS 29 6 32 ?_);refine sx 29 (.tmp 6) (.tmp 32) (ec ⟨T,(n:Int)%8,(n:Int)/8%3,(n:Int)/24%6,(n:Int)/144==1⟩) R6 ?_;intro w6 R6 t6;replace R2:=t6.row R2 n26;replace hB:=t6.below _ _ g6 hB)|((with_reducible refine gL 29 6 ?_);refine lx 29 (.tmp 6) (ec ⟨T,(n:Int)%8,(n:Int)/8%3,(n:Int)/24%6,(n:Int)/144==1⟩) R6 ?_)|(go_at_call 23;go_fit (qsib ⟨T,(n:Int)%8,(n:Int)/8%3,(n:Int)/24%6,(n:Int)/144==1⟩ _ hok);rintro x w5 ⟨rfl,hb5⟩;replace R2:=R2.below hb5;replace R6:=R6.below hb5;replace hB:=hB.trans (hb5.mono hB.size))|((with_reducible refine gS 29 2 37 ?_);refine sx 29 (.tmp 2) (.tmp 37) (ec ⟨T,(n:Int)%8,(n:Int)/8%3,(n:Int)/24%6,(n:Int)/144==1⟩) R2 ?_;intro w6 R2 t6;replace hB:=t6.below _ _ g2 hB))
    go_roundw
    case rel=>first|exact⟨n+1,by omega,by go_num,HF2,hB,R2⟩|((repeat apply Exists.intro);exact⟨⟨n+1,by omega,by go_num,HF2,hB,R2⟩,rfl⟩)
    case measure=>(first|rw[hw1]|skip);exact q15b hlt
  ·obtain rfl:n=288:=by omega
   have HN:Hid (¬okR l):=fun h=>by
    obtain⟨k,hk,he⟩:=q10b h.1
    rw[HR.out] at he
    exact HF.out k hk (by rw[he,h.2];exact H21.out)
   go_wp2_with (first|((with_reducible refine atOp (.build 29 #[]) rfl ?_);refine qcvb 29 rfl rfl _ q0ub ?_)|((with_reducible refine gS 29 2 39 ?_);refine sx 29 (.tmp 2) (.tmp 39) (ec noE) R2 ?_;intro w6 R2 t6;replace hB:=t6.below _ _ g2 hB))
   (refine m0r ?_;refine m22 ?_)
   exact⟨Or.inr ⟨HN.out,rfl⟩,hB⟩
end Go.Proofs.YtnhafdkfjjplkaaDoor
