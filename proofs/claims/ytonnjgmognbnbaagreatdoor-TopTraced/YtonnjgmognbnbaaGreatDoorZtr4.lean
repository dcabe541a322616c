/-
  Of what a law stands on.
-/
import Derived.Test.YtonnjgmognbnbaaGreatDoorZtr3
set_option linter.unusedSimpArgs false
set_option linter.unusedVariables false
namespace Go.Proofs.YtonnjgmognbnbaaGreatDoor
open Go.Value renaming int → I,pointer → V
open Go.IntKind renaming i64 → Z
open _root_.Go.Proofs.Tryz Go.ChangeShapes Go.WideShapes Go.ChangeAt Go.RowKit
set_option maxHeartbeats 16000000
set_option maxRecDepth 100000
variable {w w':World}{b p:Nat}{v:Value}{es:List Ev}{l:List UInt8}{d:Bool}
theorem qdtb{ops:Array Oper}{S:World->Prop}{o:Oper}{a:Act}(x y:Operand)(ho:o.op=.slice 9 x none (some y) none)(hw:Region.wanted o (yielded ops a.tmps)=true)(l:List UInt8)(n:Nat)(hx:a.eval x=.string (txt l))(hy:a.eval y=I Z (n:Int))(hn:n<=l.length):YieldsIf prog ops S o (.string (txt (l.take n))) a:=
 .inl ⟨hw,fun w _=>by
  have hsz:(txt l).size=l.length:=qck l;have h1:=qdmb l n;(have h2:(n:Int)<=(l.length:Int):=by omega)
  unfold execOp
  simp only[ho,Option.map_some,Option.map_none,hx,hy]
  simp[go_sem,hsz,h1,h2,hn]⟩
theorem qezb(p:Nat)(l:List UInt8)(d:Bool)(v:Value)(w:World)(R:Rdr w p l d v)(hl:l.length<=140737488351232)(hh:qctb l=1):
  Calls prog 106 #[V (some ⟨p,0,none⟩)] w fun x w'=>x=.returned (.tuple #[.agg (hdc 0 0 0 0),I Z 1])/\qfb p w w':=by
 refine(qeib p l d v w R hl).mono ?_
 rintro x w' ⟨hM,⟨_,h,_⟩|⟨h,_⟩⟩
 ·exact⟨h,hM⟩
 ·rw[hh] at h;simp at h
theorem qc7b(p:Nat)(l:List UInt8)(d:Bool)(v:Value)(w:World)(R:Rdr w p l d v)(hl:l.length<=140737488351232)(hh:qctb l=0):
  Calls prog 106 #[V (some ⟨p,0,none⟩)] w fun x w'=>x=.returned (.tuple #[.agg (hdc (nAt l 2 2) (nAt l 4 4) (nAt l 8 4) (nAt l 16 2)),I Z 0])/\Rdr w' p (l.drop 20) d v/\qfb p w w':=by
 refine(qeib p l d v w R hl).mono ?_
 rintro x w' ⟨hM,⟨h,_,_⟩|⟨_,h,R'⟩⟩
 ·rw[hh] at h;simp at h
 ·exact⟨h,R',hM⟩
theorem qerb{t:TypeId}{cs:Array Value}(h:Row t w b cs):Row t w.drew b cs:=h
theorem qc8b(h:Tab w):Tab w.drew:=h
theorem qddb{base:Nat}(h:EvO w base v es):EvO w.drew base v es:=h
theorem qdob(h:qfb p w.drew w'):qfb p w w':=⟨h.os,h.tape,h.output,h.size,h.block⟩
def qgmb(p:Nat)(l:List UInt8)(d:Bool)(es:List Ev)(w:World)(x:Ending)(w':World):Prop:=
 Below p w w'/\((x=.returned (I Z (qcsb l d es).1)/\(qcsb l d es).1≠0)\/(x=.returned (I Z 0)/\∃l' d' v' es',qcsb l d es=(0,l',d',es')/\Rdr w' p l' d' v'/\EvO w' (p+1) v' es'/\l'.length<l.length/\es'.length<=4294970500))
theorem qdgb{E:Int}{r:List UInt8×Bool×List Ev}(h:qcsb l d es=(E,r))(h0:E≠0)(hB:Below p w w'):qgmb p l d es w (.returned (I Z E)) w':=
 ⟨hB,.inl ⟨by rw[h],by rw[h];exact h0⟩⟩
theorem qc6b(h:Tab w)(t:qbl b w w')(hb:b≠0):Tab w':=fun j v hv=>by
 have:=h j v hv
 unfold World.cell? at *
 rw[t.other 0 (fun e=>hb e.symm)]
 exact this
theorem sZtr41{p:Prop}(h:p:=by
 go_ret
 exact qdgb HS.out (by decide) hB):p:=h
theorem qehb(p:Nat)(l:List UInt8)(d:Bool)(v:Value)(es:List Ev)(w:World)(R:Rdr w p l d v)(hE:EvO w (p+1) v es)(hT:Tab w)(hp:p≠0)(hl:l.length<=140737488351232)(hes:es.length<=4294970500):
  Calls prog 67 #[V (some ⟨p,0,none⟩)] w (qgmb p l d es w):=by
 have hB:=Below.refl p w;have hpl:p<=w.heap.size:=Nat.le_of_lt R.lt;(have hp0:0<p:=by omega);obtain⟨sa,sc,hsl⟩:=hE.slice
 rcases qghb l with hh|hh
 case inr=>
  (have HS:Hid (qcsb l d es=(1,[],false,[])):=by show _=_;unfold qcsb;rw[if_pos (by rw[hh];decide),hh])
  go_enter func67,ntmps67
  go_wp2_with (first|((with_reducible refine gL 9 8 ?_);refine m2y ?_)|(go_at_call 106;refine(qezb p l _ _ _ R hl hh).mono ?_;rintro x w5 ⟨rfl,hM5⟩;have hRl:=Nat.lt_of_lt_of_le R.lt hM5.size;replace hE:=hE.moved hM5 om;replace hT:=hM5.tab hT hp;replace hB:=hB.trans (hM5.below (Nat.le_trans hpl hB.size) (Nat.le_refl _));clear hM5)|((with_reducible refine gA 157 ?_);refine ax 4 157 qcrb ?_;intro b4 w2 g4 R4 hb2;have n4:b4≠p:=(fun e=>by have:=hRl;omega);have gp4:p<=b4:=om;have hne4:=hE.new g4;replace hE:=hE.below hb2;replace hT:=hT.below hb2;replace hB:=hB.trans (hb2.mono (Nat.le_trans hpl hB.size)))|((with_reducible refine gS 157 4 13 ?_);refine sx 157 (.tmp 4) (.tmp 13) (hdc 0 0 0 0) R4 ?_;intro w4 R4 t4;replace hE:=hE.turned t4 hne4;replace hT:=qc6b hT t4 om;replace hB:=t4.below _ _ gp4 hB))
  exact sZtr41
 case inl=>
  obtain⟨h16,n10,n20,nle,n1,nk,n18⟩:=qf5b hh;have n65:=qgsb l 2;have nseq:=qc2b l 8 4 om
  obtain⟨N,hN⟩:∃N:Nat,nAt l 2 2=(N:Int):=⟨(nAt l 2 2).toNat,by omega⟩
  (have hNl:N<=l.length:=by omega);(have HN:Hid ((nAt l 2 2).toNat=N):=by show _=_;omega);(have hN20:20<=N:=by omega);have HNN:Hid (nAt l 2 2=(N:Int)):=hN;clear hN
  subst hsl
  by_cases hq:nAt l 8 4=(es.length:Int)
  ·(have hsq:(nAt l 8 4 != (es.length:Int))=false:=by simpa using hq);(have hlong:qi0 (nAt l 8 4)=true:=by simp[qi0];omega);(have hes1:es.length<=4294967295:=by omega)
   by_cases hk2:nAt l 16 2=2
   ·(have gk:(nAt l 16 2==2)=true:=by simpa using hk2)
    by_cases hm:l.take N=msgB 0 (es.length:Int) 2 (tplB 6)
    ·(have HS:Hid (qcsb l d es=(0,l.drop N,true,es)):=by show _=_;unfold qcsb;rw[if_neg (by rw[hh];decide),if_neg (by simpa using hq),if_pos hk2,HN.out,if_pos hm]);(have CY:=fun(w:World) (R:Rdr w p (l.drop 20) d (.slice sa es.length sc)) (hT:Tab w)=>qejb p l (l.take N) d (.slice sa es.length sc) (nAt l 2 2) (nAt l 4 4) (nAt l 8 4) (nAt l 16 2) w R hT hp n20 nle hl hlong (by rw[hm,hq]))
     rw[HN.out] at CY
     clear hq hk2 hm n10 n1 n18 nk
     go_enter func67,ntmps67
     go_upto_region 5 with(first|((with_reducible refine gL 9 8 ?_);refine m2y ?_)|(go_at_call 106;refine m0l ?_;clear R hE hT hB;intro w5 R hRl hE hT hB)|((with_reducible refine gA 157 ?_);refine m0m ?_;clear R hE hT hB;intro b4 w2 g4 R4 hb2 n4 gp4 hne4 R hE hT hB)|((with_reducible refine gS 157 4 13 ?_);refine m0o ?_;clear R hE hT hB;intro w4 R4 t4 R hE hT hB))
     refine RD (fun W=>Row 157 W b4 (hdc (nAt l 2 2) (nAt l 4 4) (nAt l 8 4) (nAt l 16 2))/\Row 109 W p (rc (l.drop 20) d (.slice sa es.length sc))) ⟨R4,R⟩ (fun _=>?_)
     refine tq 0 (V (some ⟨b4,2,none⟩)) rfl ⟨R4,R⟩ (tk 1 (I Z (nAt l 8 4)) rfl (qim (.tmp 20) rfl kr b4 2 kr (nAt l 8 4) (fun w h=>(h.1.cell 2).trans rfl)) ⟨R4,R⟩ (tq 2 (V (some ⟨p,0,none⟩)) rfl ⟨R4,R⟩ ?_))
     refine m5i ?_
     refine tq 3 (V (some ⟨p,0,none⟩)) rfl ⟨R4,R⟩ (tq 4 (V (some ⟨p,2,none⟩)) rfl ⟨R4,R⟩ (tk 5 (.slice sa es.length sc) rfl (qc3b (.tmp 24) rfl kr p 2 kr (.slice sa es.length sc) (fun w h=>(h.2.cell 2).trans rfl)) ⟨R4,R⟩ ?_))
     refine m06 ?_;clear R4 R hB hE hT;intro R4 R hB hE hT
     go_upto_region 8 with(first|((with_reducible refine gL 3 29 ?_);refine fx R4 _ 3 _ ?_))
     refine RD (fun W=>Row 157 W b4 (hdc (nAt l 2 2) (nAt l 4 4) (nAt l 8 4) (nAt l 16 2))) R4 (fun _=>?_)
     refine m8b ?_;refine m5i ?_
     refine tk 3 (I Z (nAt l 2 2)) rfl (qim (.tmp 34) rfl kr b4 0 kr (nAt l 2 2) (fun w h=>(h.cell 0).trans rfl)) R4 (tk 4 (.string (txt (l.take N))) rfl (qdtb (.tmp 33) (.tmp 35) rfl kr l N kr (by rw[←HNN.out];kernel_rfl) hNl) R4 (tk 5 (.agg (hdc (nAt l 2 2) (nAt l 4 4) (nAt l 8 4) (nAt l 16 2))) rfl (yx 157 (.tmp 4) _ (fun w h=>h)) R4 ?_))
     refine m5i ?_;refine AR [6] ?_
     refine AC (fun K hK=>?_) AZ
     go_simp
     go_at_call 107;refine(CY _ (qerb R) (qc8b hT)).mono ?_;rintro x w5 ⟨⟨rfl,R⟩,hM5⟩;replace hM5:=qdob hM5;replace R4:=hM5.row R4 n4;refine m3s ?_;clear hE hB;intro hE hB
     go_wp2_with fail
     refine hK.out _ _ R4 (fun _=>?_)
     clear hK K;(try simp only[ZZ]);refine tq 7 (I Z 0) rfl R4 ?_;refine m1f ?_
     go_wp2
     go_ret
     exact⟨hB,.inr ⟨rfl,_,_,_,_,HS.out,R,hE,by rw[List.length_drop];omega,by omega⟩⟩
    ·(have HS:Hid (qcsb l d es=(4,[],false,[])):=by show _=_;unfold qcsb;rw[if_neg (by rw[hh];decide),if_neg (by simpa using hq),if_pos hk2,HN.out,if_neg hm]);(have CN:=fun(w:World) (R:Rdr w p (l.drop 20) d (.slice sa es.length sc)) (hT:Tab w)=>qewb p l (l.take N) d (.slice sa es.length sc) (nAt l 2 2) (nAt l 4 4) (nAt l 8 4) (nAt l 16 2) w R hT hp n20 nle hl hlong (by rw[hq];exact hm));clear hq hk2 hm n10 n1 n18 nk
     go_enter func67,ntmps67
     go_upto_region 5 with(first|((with_reducible refine gL 9 8 ?_);refine m2y ?_)|(go_at_call 106;refine m0l ?_;clear R hE hT hB;intro w5 R hRl hE hT hB)|((with_reducible refine gA 157 ?_);refine m0m ?_;clear R hE hT hB;intro b4 w2 g4 R4 hb2 n4 gp4 hne4 R hE hT hB)|((with_reducible refine gS 157 4 13 ?_);refine m0o ?_;clear R hE hT hB;intro w4 R4 t4 R hE hT hB))
     refine RD (fun W=>Row 157 W b4 (hdc (nAt l 2 2) (nAt l 4 4) (nAt l 8 4) (nAt l 16 2))/\Row 109 W p (rc (l.drop 20) d (.slice sa es.length sc))) ⟨R4,R⟩ (fun _=>?_)
     refine tq 0 (V (some ⟨b4,2,none⟩)) rfl ⟨R4,R⟩ (tk 1 (I Z (nAt l 8 4)) rfl (qim (.tmp 20) rfl kr b4 2 kr (nAt l 8 4) (fun w h=>(h.1.cell 2).trans rfl)) ⟨R4,R⟩ (tq 2 (V (some ⟨p,0,none⟩)) rfl ⟨R4,R⟩ ?_))
     refine m5i ?_
     refine tq 3 (V (some ⟨p,0,none⟩)) rfl ⟨R4,R⟩ (tq 4 (V (some ⟨p,2,none⟩)) rfl ⟨R4,R⟩ (tk 5 (.slice sa es.length sc) rfl (qc3b (.tmp 24) rfl kr p 2 kr (.slice sa es.length sc) (fun w h=>(h.2.cell 2).trans rfl)) ⟨R4,R⟩ ?_))
     refine m06 ?_;clear R4 R hB hE hT;intro R4 R hB hE hT
     go_upto_region 8 with(first|((with_reducible refine gL 3 29 ?_);refine fx R4 _ 3 _ ?_))
     refine RD (fun W=>Row 157 W b4 (hdc (nAt l 2 2) (nAt l 4 4) (nAt l 8 4) (nAt l 16 2))) R4 (fun _=>?_)
     refine m8b ?_;refine m5i ?_
     refine tk 3 (I Z (nAt l 2 2)) rfl (qim (.tmp 34) rfl kr b4 0 kr (nAt l 2 2) (fun w h=>(h.cell 0).trans rfl)) R4 (tk 4 (.string (txt (l.take N))) rfl (qdtb (.tmp 33) (.tmp 35) rfl kr l N kr (by rw[←HNN.out];kernel_rfl) hNl) R4 (tk 5 (.agg (hdc (nAt l 2 2) (nAt l 4 4) (nAt l 8 4) (nAt l 16 2))) rfl (yx 157 (.tmp 4) _ (fun w h=>h)) R4 ?_))
     refine m5i ?_;refine AR [6] ?_
     refine AC (fun K hK=>?_) AZ
     go_simp;go_at_call 107;refine(CN _ (qerb R) (qc8b hT)).mono ?_;rintro x w5 ⟨rfl,hM5⟩;replace hM5:=qdob hM5;replace R4:=hM5.row R4 n4;refine m3s ?_;clear hE hB;intro hE hB
     go_wp2_with fail
     refine hK.out _ _ R4 (fun _=>?_)
     clear hK K;(try simp only[ZZ]);refine tq 7 (I Z 4) rfl R4 ?_;refine m1f ?_
     go_wp2
     exact sZtr41
   ·(have gk:(nAt l 16 2==2)=false:=by simpa using hk2)
    cases d with
    | false=>
     (have HS:Hid (qcsb l false es=(7,[],false,[])):=by show _=_;unfold qcsb;rw[if_neg (by rw[hh];decide),if_neg (by simpa using hq),if_neg hk2,if_pos rfl]);clear hq hk2 n10 n1 n18 nk
     go_enter func67,ntmps67
     go_upto_region 5 with(first|((with_reducible refine gL 9 8 ?_);refine m2y ?_)|(go_at_call 106;refine m0l ?_;clear R hE hT hB;intro w5 R hRl hE hT hB)|((with_reducible refine gA 157 ?_);refine m0m ?_;clear R hE hT hB;intro b4 w2 g4 R4 hb2 n4 gp4 hne4 R hE hT hB)|((with_reducible refine gS 157 4 13 ?_);refine m0o ?_;clear R hE hT hB;intro w4 R4 t4 R hE hT hB))
     refine RD (fun W=>Row 157 W b4 (hdc (nAt l 2 2) (nAt l 4 4) (nAt l 8 4) (nAt l 16 2))/\Row 109 W p (rc (l.drop 20) false (.slice sa es.length sc))) ⟨R4,R⟩ (fun _=>?_)
     refine tq 0 (V (some ⟨b4,2,none⟩)) rfl ⟨R4,R⟩ (tk 1 (I Z (nAt l 8 4)) rfl (qim (.tmp 20) rfl kr b4 2 kr (nAt l 8 4) (fun w h=>(h.1.cell 2).trans rfl)) ⟨R4,R⟩ (tq 2 (V (some ⟨p,0,none⟩)) rfl ⟨R4,R⟩ ?_))
     refine m5i ?_
     refine tq 3 (V (some ⟨p,0,none⟩)) rfl ⟨R4,R⟩ (tq 4 (V (some ⟨p,2,none⟩)) rfl ⟨R4,R⟩ (tk 5 (.slice sa es.length sc) rfl (qc3b (.tmp 24) rfl kr p 2 kr (.slice sa es.length sc) (fun w h=>(h.2.cell 2).trans rfl)) ⟨R4,R⟩ ?_))
     refine m06 ?_;clear R4 R hB hE hT;intro R4 R hB hE hT
     go_wp2_with (first|((with_reducible refine gL 3 29 ?_);refine fx R4 _ 3 _ ?_)|((with_reducible refine gL 4 42 ?_);refine qv3 R _ rfl rfl 1 rfl _ rfl ?_))
     exact sZtr41
    | true=>
     by_cases hf:nAt l 2 2=20\/(nAt l 2 2-20)%21≠0
     ·(have HS:Hid (qcsb l true es=(1,[],false,[])):=by show _=_;unfold qcsb;rw[if_neg (by rw[hh];decide),if_neg (by simpa using hq),if_neg hk2,if_neg zm,if_pos hf]);(have CF:=fun(w:World) (R:Rdr w p (l.drop 20) true (.slice sa es.length sc)) (hE:EvO w (p+1) (.slice sa es.length sc) es)=>qfeb p l true (.slice sa es.length sc) es (nAt l 2 2) (nAt l 4 4) (nAt l 8 4) (nAt l 16 2) w R hE n20 nle n65 hl hes1 hf);clear hq hk2 n10 n1 n18 nk hf
      go_enter func67,ntmps67
      go_upto_region 5 with(first|((with_reducible refine gL 9 8 ?_);refine m2y ?_)|(go_at_call 106;refine m0l ?_;clear R hE hT hB;intro w5 R hRl hE hT hB)|((with_reducible refine gA 157 ?_);refine m0m ?_;clear R hE hT hB;intro b4 w2 g4 R4 hb2 n4 gp4 hne4 R hE hT hB)|((with_reducible refine gS 157 4 13 ?_);refine m0o ?_;clear R hE hT hB;intro w4 R4 t4 R hE hT hB))
      refine RD (fun W=>Row 157 W b4 (hdc (nAt l 2 2) (nAt l 4 4) (nAt l 8 4) (nAt l 16 2))/\Row 109 W p (rc (l.drop 20) true (.slice sa es.length sc))) ⟨R4,R⟩ (fun _=>?_)
      refine tq 0 (V (some ⟨b4,2,none⟩)) rfl ⟨R4,R⟩ (tk 1 (I Z (nAt l 8 4)) rfl (qim (.tmp 20) rfl kr b4 2 kr (nAt l 8 4) (fun w h=>(h.1.cell 2).trans rfl)) ⟨R4,R⟩ (tq 2 (V (some ⟨p,0,none⟩)) rfl ⟨R4,R⟩ ?_))
      refine m5i ?_
      refine tq 3 (V (some ⟨p,0,none⟩)) rfl ⟨R4,R⟩ (tq 4 (V (some ⟨p,2,none⟩)) rfl ⟨R4,R⟩ (tk 5 (.slice sa es.length sc) rfl (qc3b (.tmp 24) rfl kr p 2 kr (.slice sa es.length sc) (fun w h=>(h.2.cell 2).trans rfl)) ⟨R4,R⟩ ?_))
      refine m06 ?_;clear R4 R hB hE hT;intro R4 R hB hE hT
      go_wp2_with (first|((with_reducible refine gL 3 29 ?_);refine fx R4 _ 3 _ ?_)|((with_reducible refine gL 4 42 ?_);refine qv3 R _ rfl rfl 1 rfl _ rfl ?_)|((with_reducible refine gL 157 4 ?_);refine lx 157 (.tmp 4) _ R4 ?_)|(go_at_call 108;refine(CF _ R hE).mono ?_;rintro x w5 ⟨rfl,hb5⟩;replace hB:=hB.trans (hb5.mono (Nat.le_refl _))))
      exact sZtr41
     ·have hdum:True:=trivial;(have CL:=fun(w:World) (R:Rdr w p (l.drop 20) true (.slice sa es.length sc)) (hE:EvO w (p+1) (.slice sa es.length sc) es)=>qgjb p l true (.slice sa es.length sc) es (nAt l 2 2) (nAt l 4 4) (nAt l 8 4) (nAt l 16 2) w R hE n20 nle n65 hl hes1 hf)
      rw[HN.out] at CL
      (have hcnt:((nAt l 2 2-20)/21).toNat<=3200:=by omega)
      rcases hev:evs (nAt l 4 4) ((nAt l 2 2-20)/21).toNat (l.drop 20) es with _|es'
      ·(have HS:Hid (qcsb l true es=(2,[],false,[])):=by show _=_;unfold qcsb;rw[if_neg (by rw[hh];decide),if_neg (by simpa using hq),if_neg hk2,if_neg zm,if_neg hf,hev])
       have CL2:∀w,Rdr w p (l.drop 20) true (.slice sa es.length sc)->EvO w (p+1) (.slice sa es.length sc) es->Calls prog 108 #[V (some ⟨p,0,none⟩),.agg (hdc (nAt l 2 2) (nAt l 4 4) (nAt l 8 4) (nAt l 16 2))] w fun x w'=>x=.returned (I Z 2)/\Below p w w':=fun w R hE=>(CL w R hE).mono (by
        rintro x w' ⟨⟨h,_⟩|⟨_,_,_,h,_⟩,hB⟩
        ·exact⟨h,hB⟩
        ·rw[hev] at h;simp at h)
       clear hq hk2 n10 n1 n18 nk hf CL hev
       go_enter func67,ntmps67
       go_upto_region 5 with(first|((with_reducible refine gL 9 8 ?_);refine m2y ?_)|(go_at_call 106;refine m0l ?_;clear R hE hT hB;intro w5 R hRl hE hT hB)|((with_reducible refine gA 157 ?_);refine m0m ?_;clear R hE hT hB;intro b4 w2 g4 R4 hb2 n4 gp4 hne4 R hE hT hB)|((with_reducible refine gS 157 4 13 ?_);refine m0o ?_;clear R hE hT hB;intro w4 R4 t4 R hE hT hB))
       refine RD (fun W=>Row 157 W b4 (hdc (nAt l 2 2) (nAt l 4 4) (nAt l 8 4) (nAt l 16 2))/\Row 109 W p (rc (l.drop 20) true (.slice sa es.length sc))) ⟨R4,R⟩ (fun _=>?_)
       refine tq 0 (V (some ⟨b4,2,none⟩)) rfl ⟨R4,R⟩ (tk 1 (I Z (nAt l 8 4)) rfl (qim (.tmp 20) rfl kr b4 2 kr (nAt l 8 4) (fun w h=>(h.1.cell 2).trans rfl)) ⟨R4,R⟩ (tq 2 (V (some ⟨p,0,none⟩)) rfl ⟨R4,R⟩ ?_))
       refine m5i ?_
       refine tq 3 (V (some ⟨p,0,none⟩)) rfl ⟨R4,R⟩ (tq 4 (V (some ⟨p,2,none⟩)) rfl ⟨R4,R⟩ (tk 5 (.slice sa es.length sc) rfl (qc3b (.tmp 24) rfl kr p 2 kr (.slice sa es.length sc) (fun w h=>(h.2.cell 2).trans rfl)) ⟨R4,R⟩ ?_))
       refine m06 ?_;clear R4 R hB hE hT;intro R4 R hB hE hT
       go_wp2_with (first|((with_reducible refine gL 3 29 ?_);refine fx R4 _ 3 _ ?_)|((with_reducible refine gL 4 42 ?_);refine qv3 R _ rfl rfl 1 rfl _ rfl ?_)|((with_reducible refine gL 157 4 ?_);refine lx 157 (.tmp 4) _ R4 ?_)|(go_at_call 108;refine(CL2 _ R hE).mono ?_;rintro x w5 ⟨rfl,hb5⟩;replace hB:=hB.trans (hb5.mono (Nat.le_refl _))))
       exact sZtr41
      ·(have HS:Hid (qcsb l true es=(0,l.drop N,true,es')):=by show _=_;unfold qcsb;rw[if_neg (by rw[hh];decide),if_neg (by simpa using hq),if_neg hk2,if_neg zm,if_neg hf,hev,HN.out]);have hlen':=qgob hev
       have CL3:∀w,Rdr w p (l.drop 20) true (.slice sa es.length sc)->EvO w (p+1) (.slice sa es.length sc) es->Calls prog 108 #[V (some ⟨p,0,none⟩),.agg (hdc (nAt l 2 2) (nAt l 4 4) (nAt l 8 4) (nAt l 16 2))] w fun x w'=>x=.returned (I Z 0)/\(∃v',Rdr w' p (l.drop N) true v'/\EvO w' (p+1) v' es')/\Below p w w':=fun w R hE=>(CL w R hE).mono (by
        rintro x w' ⟨⟨_,h⟩|⟨h,v',e2,h2,R',E'⟩,hB⟩
        ·rw[hev] at h;simp at h
        ·rw[hev] at h2
         obtain rfl:es'=e2:=by simpa using h2
         exact⟨h,⟨v',R',E'⟩,hB⟩)
       clear hq hk2 n10 n1 n18 nk hf CL hev
       go_enter func67,ntmps67
       go_upto_region 5 with(first|((with_reducible refine gL 9 8 ?_);refine m2y ?_)|(go_at_call 106;refine m0l ?_;clear R hE hT hB;intro w5 R hRl hE hT hB)|((with_reducible refine gA 157 ?_);refine m0m ?_;clear R hE hT hB;intro b4 w2 g4 R4 hb2 n4 gp4 hne4 R hE hT hB)|((with_reducible refine gS 157 4 13 ?_);refine m0o ?_;clear R hE hT hB;intro w4 R4 t4 R hE hT hB))
       refine RD (fun W=>Row 157 W b4 (hdc (nAt l 2 2) (nAt l 4 4) (nAt l 8 4) (nAt l 16 2))/\Row 109 W p (rc (l.drop 20) true (.slice sa es.length sc))) ⟨R4,R⟩ (fun _=>?_)
       refine tq 0 (V (some ⟨b4,2,none⟩)) rfl ⟨R4,R⟩ (tk 1 (I Z (nAt l 8 4)) rfl (qim (.tmp 20) rfl kr b4 2 kr (nAt l 8 4) (fun w h=>(h.1.cell 2).trans rfl)) ⟨R4,R⟩ (tq 2 (V (some ⟨p,0,none⟩)) rfl ⟨R4,R⟩ ?_))
       refine m5i ?_
       refine tq 3 (V (some ⟨p,0,none⟩)) rfl ⟨R4,R⟩ (tq 4 (V (some ⟨p,2,none⟩)) rfl ⟨R4,R⟩ (tk 5 (.slice sa es.length sc) rfl (qc3b (.tmp 24) rfl kr p 2 kr (.slice sa es.length sc) (fun w h=>(h.2.cell 2).trans rfl)) ⟨R4,R⟩ ?_))
       refine m06 ?_;clear R4 R hB hE hT;intro R4 R hB hE hT
       go_wp2_with (first|((with_reducible refine gL 3 29 ?_);refine fx R4 _ 3 _ ?_)|((with_reducible refine gL 4 42 ?_);refine qv3 R _ rfl rfl 1 rfl _ rfl ?_)|((with_reducible refine gL 157 4 ?_);refine lx 157 (.tmp 4) _ R4 ?_)|(go_at_call 108;refine(CL3 _ R hE).mono ?_;rintro x w5 ⟨rfl,⟨v',R',hE'⟩,hb5⟩;replace hB:=hB.trans (hb5.mono (Nat.le_refl _))))
       go_ret
       exact⟨hB,.inr ⟨rfl,_,_,_,_,HS.out,R',hE',by rw[List.length_drop];omega,by omega⟩⟩
  ·(have hsq:(nAt l 8 4 != (es.length:Int))=true:=by simpa using hq);(have HS:Hid (qcsb l d es=(3,[],false,[])):=by show _=_;unfold qcsb;rw[if_neg (by rw[hh];decide),if_pos hq]);clear hq n10 n1 n18 nk
   go_enter func67,ntmps67
   go_upto_region 5 with(first|((with_reducible refine gL 9 8 ?_);refine m2y ?_)|(go_at_call 106;refine m0l ?_;clear R hE hT hB;intro w5 R hRl hE hT hB)|((with_reducible refine gA 157 ?_);refine m0m ?_;clear R hE hT hB;intro b4 w2 g4 R4 hb2 n4 gp4 hne4 R hE hT hB)|((with_reducible refine gS 157 4 13 ?_);refine m0o ?_;clear R hE hT hB;intro w4 R4 t4 R hE hT hB))
   refine RD (fun W=>Row 157 W b4 (hdc (nAt l 2 2) (nAt l 4 4) (nAt l 8 4) (nAt l 16 2))/\Row 109 W p (rc (l.drop 20) d (.slice sa es.length sc))) ⟨R4,R⟩ (fun _=>?_)
   refine tq 0 (V (some ⟨b4,2,none⟩)) rfl ⟨R4,R⟩ (tk 1 (I Z (nAt l 8 4)) rfl (qim (.tmp 20) rfl kr b4 2 kr (nAt l 8 4) (fun w h=>(h.1.cell 2).trans rfl)) ⟨R4,R⟩ (tq 2 (V (some ⟨p,0,none⟩)) rfl ⟨R4,R⟩ ?_))
   refine m5i ?_
   refine tq 3 (V (some ⟨p,0,none⟩)) rfl ⟨R4,R⟩ (tq 4 (V (some ⟨p,2,none⟩)) rfl ⟨R4,R⟩ (tk 5 (.slice sa es.length sc) rfl (qc3b (.tmp 24) rfl kr p 2 kr (.slice sa es.length sc) (fun w h=>(h.2.cell 2).trans rfl)) ⟨R4,R⟩ ?_))
   refine m5i ?_;refine tq 6 (I Z (es.length:Int)) rfl ⟨R4,R⟩ (tk 7 (.bool true) rfl (qrk 3 (.tmp 21) (.tmp 26) (nAt l 8 4) (es.length:Int) true rfl kr kr kr hsq) ⟨R4,R⟩ (tq 8 (.bool true) rfl ⟨R4,R⟩ ?_));refine m1f ?_;replace R4:Row 157 (World.drew _) b4 _:=R4;replace R:Row 109 (World.drew _) p _:=R;replace hB:=qcxb hB;replace hE:=qddb hE;replace hT:=qc8b hT
   go_wp2
   exact sZtr41
def qegb(w:World)(p:Nat):Nat:=match w.cell? ⟨p,0,none⟩ with
 | some (.string s)=>s.size
 | _=>0
theorem qekb(R:Rdr w p l d v):qegb w p=l.length:=by
 unfold qegb
 rw[Row.cell R 0]
 simp[rc,qck]
def qg7b(base:Nat)(l:List UInt8)(x:Ending)(w':World):Prop:=∃v,x=.returned (.tuple #[v,I Z (runM l.length l false []).1])/\EvAt w' v (runM l.length l false []).2
theorem qf2b(l:List UInt8)(w:World)(hT:Tab w)(hl:l.length<=140737488351232):
  Calls prog 27 #[.string (txt l)] w fun x w'=>qg7b w.heap.size l x w'/\Below w.heap.size w w':=by
 refine m2a ?_;intro hB;have hw0:=hT.lt
 go_enter func27,ntmps27
 go_wp2_with (first|((with_reducible refine gB 109 7 ?_);refine bx 109 _ (rc l false (.slice none 0 0)) ?_;intro p w2 gp R hb2;have hE:=EvO.nil w2 (p+1);replace hB:=hB.trans (hb2.mono hB.size)))
 (have hp:p≠0:=by omega)
 go_loopw [5] (fun _ W=>∃n m d v es,m.length<=n/\m.length<=l.length/\Hid (runM l.length l false []=runM n m d es)/\Rdr W p m d v/\EvO W (p+1) v es/\es.length<=4294970500/\Below w.heap.size w W) (fun _ W=>qegb W p)
 case atStart=>exact⟨l.length,l,false,_,[],Nat.le_refl _,Nat.le_refl _,rfl,R,hE,by simp,hB⟩
 case round=>
  clear hB R hE;obtain⟨n,m,d,v,es,hmn,hml,HR,R,hE,hes,hB⟩:=hrel;have hsz:(txt m).size=m.length:=qck m;have hTW:=hT.keep hB hw0
  by_cases h0:0<m.length
  ·obtain⟨n',rfl⟩:∃n',n=n'+1:=⟨n-1,by omega⟩
   (have h0':(0:Int)<(m.length:Int):=by omega);have CM:=qehb p m d v es _ R hE hTW hp om hes
   by_cases hs:(qcsb m d es).1=0
   ·have CO:Calls prog 67 #[V (some ⟨p,0,none⟩)] _ fun x w'=>x=.returned (I Z 0)/\(∃l' d' v' es',qcsb m d es=(0,l',d',es')/\Rdr w' p l' d' v'/\EvO w' (p+1) v' es'/\l'.length<m.length/\es'.length<=4294970500)/\Below p _ w':=CM.mono (by
     rintro x w' ⟨hb,⟨_,h⟩|⟨h,r⟩⟩
     ·exact absurd hs h
     ·exact⟨h,r,hb⟩)
    clear CM hs;have HM:Hid (qegb _ p=m.length):=qekb R
    go_wp2_with (first|((with_reducible refine gL 9 11 ?_);refine qcm R _ rfl rfl 0 rfl (txt m) rfl ?_)|(go_at_call 67;refine CO.mono ?_;rintro x w5 ⟨rfl,⟨l',d',v',es',hst,R',hE',hlt',hes'⟩,hb5⟩;replace hB:=hB.trans (hb5.mono gp)))
    go_roundw
    case rel=>first|exact⟨n',l',d',v',es',by omega,by omega,(by show _=_;rw[HR.out,qd9b n' m d es om hst]),R',hE',hes',hB⟩|((repeat apply Exists.intro);exact⟨⟨n',l',d',v',es',by omega,by omega,(by show _=_;rw[HR.out,qd9b n' m d es om hst]),R',hE',hes',hB⟩,rfl⟩)
    case measure=>rw[HM.out,qekb R'];exact hlt'
   ·obtain⟨E,hEE⟩:∃E,(qcsb m d es).1=E:=⟨_,rfl⟩
    have CE:Calls prog 67 #[V (some ⟨p,0,none⟩)] _ fun x w'=>x=.returned (I Z E)/\Below p _ w':=CM.mono (by
     rintro x w' ⟨hb,⟨h,_⟩|⟨_,_,_,_,_,h,_⟩⟩
     ·rw[hEE] at h;exact⟨h,hb⟩
     ·rw[h] at hs;exact absurd rfl hs)
    (have HX:Hid (runM l.length l false []=(E,[])):=by show _=_;rw[HR.out,qgbb n' m d es om hs,hEE])
    rw[hEE] at hs
    (have hE0:(E != 0)=true:=by simpa using hs);clear CM hs hEE HR
    go_wp2_with (first|((with_reducible refine gL 9 11 ?_);refine qcm R _ rfl rfl 0 rfl (txt m) rfl ?_)|(go_at_call 67;refine CE.mono ?_;rintro x w5 ⟨rfl,hb5⟩;replace hB:=hB.trans (hb5.mono gp)))
    go_ret2
    exact⟨⟨.slice none 0 0,by rw[HX.out];rfl,by rw[HX.out];exact⟨none,0,rfl,fun h=>absurd h zm,fun j hj=>absurd hj zm,by simp⟩⟩,hB⟩
  ·(have HX:Hid (runM l.length l false []=(0,es)):=by show _=_;rw[HR.out,qelb n m d es om]);(have h0':¬(0:Int)<(m.length:Int):=by omega);have hA:=hE.at om;clear HR;obtain⟨sa,sc,hsl⟩:=hE.slice
   subst hsl
   go_wp2_with (first|((with_reducible refine gL 9 11 ?_);refine qcm R _ rfl rfl 0 rfl (txt m) rfl ?_)|((with_reducible refine gL 55 22 ?_);refine qdfb R _ rfl rfl 2 rfl (.slice sa es.length sc) rfl ?_))
   go_ret2
   exact⟨⟨_,by rw[HX.out];rfl,by rw[HX.out];exact hA⟩,hB⟩
theorem qfdb(sl:Value)(es:List Ev)(w:World)(hM:EvAt w sl es):Calls prog 28 #[sl] w fun x w'=>x=.returned (ownS es)/\Below w.heap.size w w':=by
 refine m2a ?_;intro hB;have hM0:=hM;obtain⟨a0,cap,hsl⟩:=hM0.slice
 obtain⟨n,hn⟩:∃n,n=es.length:=⟨_,rfl⟩
 rw[←hn] at hsl
 subst hsl
 have HN:Hid (n=es.length):=hn;clear hn hM0;have hlt:=hM.lt
 go_enter func28,ntmps28
 go_wp2_with (first|((with_reducible refine gA 35 ?_);refine ax 2 35 qebb ?_;intro b2 w1 l2 R2 hb1;refine m5a ?_;clear hB;intro hB)|((with_reducible refine gA 35 ?_);refine ax 4 35 qebb ?_;intro b4 w1 l4 R4 hb1;have n24:=R2.ne l4;replace R2:=R2.below hb1;replace l4:=Nat.le_trans hB.size l4;refine m5a ?_;clear hB;intro hB))
 go_loopw [12] (fun i W=>∃j:Nat,j<=es.length/\i=.int .i64 (j:Int)/\∃F:Nat->Int,Hid (qcub z0 es=qcub F (es.drop j))/\Below w.heap.size w W/\Row 35 W b2 (pc z0 g0')/\Row 35 W b4 (pc F g0')) (fun i _=>n-(intOf i).toNat)
 case atStart=>exact⟨0,by omega,rfl,z0,rfl,hB,R2,R4⟩
 case round=>
  clear hB R2 R4
  obtain⟨j,hj,rfl,F,HW,hB,R2,R4⟩:=hrel
  by_cases hlj:j<es.length
  ·(have hjn:(j:Int)<(n:Int):=by have:=HN.out;omega);have hjw:=q8g hlj hM.len
   obtain⟨e,he⟩:∃e,es[j]=e:=⟨_,rfl⟩
   have hMW:=hM.keep hB hlt;have hrg:=hMW.at j hlj he;(have IR:=fun w2=>hM.index j hlj w2)
   by_cases hk:okE e
   ·(have CG:∀w,Calls prog 68 #[.agg (ec e)] w fun x w'=>x=.returned (.int .i64 0)/\Below w.heap.size w w':=fun w=>by have:=qro e w;rw[qs0 hk] at this;exact this)
    by_cases hbh:bhE (F (at6 e)) e=0
    ·have HW2:Hid (qcub z0 es=_):=HW.out.trans (qf7b F hlj he hk hbh);clear HW;have HW:=HW2;clear HW2
     obtain⟨A,Z,hA,hK,hA3,hK6⟩:∃A Z:Nat,e.a=(A:Int)/\e.b=(Z:Int)/\A<3/\Z<6:=⟨e.a.toNat,e.b.toNat,by have:=hk.2.2.1;omega,by have:=hk.2.2.2;omega,by have:=hk.2.2.1;omega,by have:=hk.2.2.2;omega⟩
     (have hat:at6 e=6*A+Z:=by unfold at6;omega);(have h18:6*A+Z<18:=by omega);have hs0:=hk.2.1.1;have hs1:=hk.2.1.2
     rw[hat] at hbh HW
     (have cA:(ec e)[2]?=some (.int .i64 (A:Int)):=by rw[←hA];rfl);(have cK:(ec e)[3]?=some (.int .i64 (Z:Int)):=by rw[←hK];rfl);(have CO:∀w,Calls prog 69 #[.int .i64 (F (6*A+Z)),.agg (ec e)] w fun x w'=>x=.returned (.tuple #[.int .i64 (ownN e),.int .i64 0])/\Below w.heap.size w w':=fun w=>by have:=qd0b (F (6*A+Z)) e w hs0 hs1;rw[show bhN (F (6*A+Z)) e=ownN e by unfold bhN;rw[if_pos hbh],hbh] at this;exact this);clear hA hK hat hbh he hk
     go_upto_region 8 with(first|((with_reducible refine atOp (.indexAddr 55 (.tmp 10) (.tmp 12)) rfl ?_);refine m7q ?_)|((with_reducible refine gL 112 14 ?_);refine qlr (.tmp 14) rfl rfl _ _ rfl e hrg ?_)|((with_reducible refine gA 112 ?_);refine m5b ?_;clear R2 R4 hB hrg hMW;intro b6 w3 R6 hb3 n26 n46 l6 R2 R4 hB)|((with_reducible refine gS 112 6 15 ?_);refine m53 ?_;clear R2 R4 hB;intro w4 R6 t4 R2 R4 hB)|((with_reducible refine gL 112 6 ?_);refine m65 ?_)|(go_at_call 68;go_fit (CG _);rintro x w5 ⟨rfl,hb5⟩;replace R6:=R6.below hb5;replace R2:=R2.below hb5;replace R4:=R4.below hb5;refine m2s ?_;clear hB;intro hB))
     refine RD (fun W=>Row 112 W b6 (ec e)/\Row 35 W b4 (pc F g0')) ⟨R6,R4⟩ (fun _=>?_)
     refine tq 0 (.pointer (some ⟨b6,2,none⟩)) rfl ⟨R6,R4⟩ (tk 1 (.int .i64 (A:Int)) rfl (qim (.tmp 23) rfl kr b6 2 kr (A:Int) (fun w h=>(h.1.cell 2).trans cA)) ⟨R6,R4⟩ (tq 2 (.pointer (some ⟨b6,3,none⟩)) rfl ⟨R6,R4⟩ ?_))
     refine m5i ?_
     refine tk 3 (.int .i64 (Z:Int)) rfl (qim (.tmp 25) rfl kr b6 3 kr (Z:Int) (fun w h=>(h.1.cell 3).trans cK)) ⟨R6,R4⟩ (tq 4 (.pointer (some ⟨b4,0,none⟩)) rfl ⟨R6,R4⟩ (tk 5 (.pointer (some ⟨b4,6*A,none⟩)) rfl (qgk 32 (.tmp 27) (.tmp 24) rfl kr _ _ _ kr kr (idxA b4 A hA3)) ⟨R6,R4⟩ ?_))
     refine m5i ?_
     refine tk 6 (.pointer (some ⟨b4,6*A+Z,none⟩)) rfl (qgk 31 (.tmp 28) (.tmp 26) rfl kr _ _ _ kr kr (idxK b4 A Z hK6)) ⟨R6,R4⟩ (tk 7 (.int .i64 (F (6*A+Z))) rfl (qim (.tmp 29) rfl kr b4 (6*A+Z) kr (F (6*A+Z)) (fun w h=>(h.2.cell _).trans (q1x F g0' _ h18))) ⟨R6,R4⟩ (tk 8 (.agg (ec e)) rfl (qav 112 (.tmp 6) rfl kr b6 kr (ec e) (fun w h=>h.1) _ underlying112 rfl (qf2 e)) ⟨R6,R4⟩ ?_))
     refine m5i ?_;refine AR [9] ?_
     refine AC (fun K hK=>?_) AZ
     go_simp;go_at_call 69;refine(CO _).mono ?_;rintro x w5 ⟨rfl,hb5⟩;replace hb5:=qmk hb5;replace R6:=R6.below hb5;replace R2:=R2.below hb5;replace R4:=R4.below hb5;refine m2s ?_;clear hB;intro hB
     go_wp2_with fail
     refine hK.out _ _ ⟨R6,R4⟩ (fun _=>?_)
     clear hK K;(try simp only[ZZ]);refine tq 10 (.tuple #[.int .i64 (ownN e),.int .i64 0]) rfl ⟨R6,R4⟩ (tq 11 (.int .i64 (ownN e)) rfl ⟨R6,R4⟩ (tq 12 (.int .i64 0) rfl ⟨R6,R4⟩ ?_));refine m5i ?_;refine tq 13 (.int .i64 (ownN e)) rfl ⟨R6,R4⟩ (tq 14 (.int .i64 0) rfl ⟨R6,R4⟩ ?_);refine m1f ?_
     go_upto_region 11 with fail
     refine RD (fun W=>Row 112 W b6 (ec e)) R6 (fun _=>?_)
     refine tq 0 (.pointer (some ⟨b6,2,none⟩)) rfl R6 (tk 1 (.int .i64 (A:Int)) rfl (qim (.tmp 39) rfl kr b6 2 kr (A:Int) (fun w h=>(h.cell 2).trans cA)) R6 (tq 2 (.pointer (some ⟨b6,3,none⟩)) rfl R6 ?_))
     refine m5i ?_
     refine tk 3 (.int .i64 (Z:Int)) rfl (qim (.tmp 41) rfl kr b6 3 kr (Z:Int) (fun w h=>(h.cell 3).trans cK)) R6 (tq 4 (.int .i64 (ownN e)) rfl R6 (tq 5 (.pointer (some ⟨b4,0,none⟩)) rfl R6 ?_))
     refine m5i ?_;refine tk 6 (.pointer (some ⟨b4,6*A,none⟩)) rfl (qgk 32 (.tmp 44) (.tmp 40) rfl kr _ _ _ kr kr (idxA b4 A hA3)) R6 (tk 7 (.pointer (some ⟨b4,6*A+Z,none⟩)) rfl (qgk 31 (.tmp 45) (.tmp 42) rfl kr _ _ _ kr kr (idxK b4 A Z hK6)) R6 ?_);refine m5i ?_;refine AR [8] ?_
     refine AP (fun K hK=>?_) AZ
     refine qfzb R4 (.tmp 46) (.tmp 43) rfl (6*A+Z) kr (ownN e) kr _ (q1x F g0' _ h18) _ (q97 F g0' _ _ h18) ?_;intro w7 R4 t7;replace R6:=t7.row R6 n46.symm;replace R2:=t7.row R2 n24;replace hB:=t7.below _ _ l4 (qcxb hB)
     refine hK.out _ _ R6 (fun _=>?_)
     clear hK K;(try simp only[ZZ]);refine AN ?_
     go_wp2
     go_roundw
     case rel=>first|exact⟨j+1,by omega,by go_num,_,HW,hB,R2,R4⟩|((repeat apply Exists.intro);exact⟨⟨j+1,by omega,by go_num,_,HW,hB,R2,R4⟩,rfl⟩)
     case measure=>(first|rw[hjw]|skip);exact q8s (HN.out.symm▸hlj)
    ·have HW2:Hid (qcub z0 es=_):=HW.out.trans (qfob F hlj he hk hbh);have HS:Hid (ownS es=_):=qdrb HW2;clear HW2
     obtain⟨A,Z,hA,hK,hA3,hK6⟩:∃A Z:Nat,e.a=(A:Int)/\e.b=(Z:Int)/\A<3/\Z<6:=⟨e.a.toNat,e.b.toNat,by have:=hk.2.2.1;omega,by have:=hk.2.2.2;omega,by have:=hk.2.2.1;omega,by have:=hk.2.2.2;omega⟩
     (have hat:at6 e=6*A+Z:=by unfold at6;omega);(have h18:6*A+Z<18:=by omega);have hs0:=hk.2.1.1;have hs1:=hk.2.1.2
     rw[hat] at hbh HS
     (have cA:(ec e)[2]?=some (.int .i64 (A:Int)):=by rw[←hA];rfl);(have cK:(ec e)[3]?=some (.int .i64 (Z:Int)):=by rw[←hK];rfl)
     obtain⟨E,hE⟩:∃E,bhE (F (6*A+Z)) e=E:=⟨_,rfl⟩
     (have CO:∀w,Calls prog 69 #[.int .i64 (F (6*A+Z)),.agg (ec e)] w fun x w'=>x=.returned (.tuple #[.int .i64 0,.int .i64 E])/\Below w.heap.size w w':=fun w=>by have:=qd0b (F (6*A+Z)) e w hs0 hs1;rw[show bhN (F (6*A+Z)) e=0 by unfold bhN;rw[if_neg hbh],hE] at this;exact this)
     rw[hE] at hbh HS
     (have hE0:(E != 0)=true:=by simpa using hbh);clear hA hK hat hbh he hk hE HW
     go_upto_region 8 with(first|((with_reducible refine atOp (.indexAddr 55 (.tmp 10) (.tmp 12)) rfl ?_);refine m7q ?_)|((with_reducible refine gL 112 14 ?_);refine qlr (.tmp 14) rfl rfl _ _ rfl e hrg ?_)|((with_reducible refine gA 112 ?_);refine m5b ?_;clear R2 R4 hB hrg hMW;intro b6 w3 R6 hb3 n26 n46 l6 R2 R4 hB)|((with_reducible refine gS 112 6 15 ?_);refine m53 ?_;clear R2 R4 hB;intro w4 R6 t4 R2 R4 hB)|((with_reducible refine gL 112 6 ?_);refine m65 ?_)|(go_at_call 68;go_fit (CG _);rintro x w5 ⟨rfl,hb5⟩;replace R6:=R6.below hb5;replace R2:=R2.below hb5;replace R4:=R4.below hb5;refine m2s ?_;clear hB;intro hB))
     refine RD (fun W=>Row 112 W b6 (ec e)/\Row 35 W b4 (pc F g0')) ⟨R6,R4⟩ (fun _=>?_)
     refine tq 0 (.pointer (some ⟨b6,2,none⟩)) rfl ⟨R6,R4⟩ (tk 1 (.int .i64 (A:Int)) rfl (qim (.tmp 23) rfl kr b6 2 kr (A:Int) (fun w h=>(h.1.cell 2).trans cA)) ⟨R6,R4⟩ (tq 2 (.pointer (some ⟨b6,3,none⟩)) rfl ⟨R6,R4⟩ ?_))
     refine m5i ?_
     refine tk 3 (.int .i64 (Z:Int)) rfl (qim (.tmp 25) rfl kr b6 3 kr (Z:Int) (fun w h=>(h.1.cell 3).trans cK)) ⟨R6,R4⟩ (tq 4 (.pointer (some ⟨b4,0,none⟩)) rfl ⟨R6,R4⟩ (tk 5 (.pointer (some ⟨b4,6*A,none⟩)) rfl (qgk 32 (.tmp 27) (.tmp 24) rfl kr _ _ _ kr kr (idxA b4 A hA3)) ⟨R6,R4⟩ ?_))
     refine m5i ?_
     refine tk 6 (.pointer (some ⟨b4,6*A+Z,none⟩)) rfl (qgk 31 (.tmp 28) (.tmp 26) rfl kr _ _ _ kr kr (idxK b4 A Z hK6)) ⟨R6,R4⟩ (tk 7 (.int .i64 (F (6*A+Z))) rfl (qim (.tmp 29) rfl kr b4 (6*A+Z) kr (F (6*A+Z)) (fun w h=>(h.2.cell _).trans (q1x F g0' _ h18))) ⟨R6,R4⟩ (tk 8 (.agg (ec e)) rfl (qav 112 (.tmp 6) rfl kr b6 kr (ec e) (fun w h=>h.1) _ underlying112 rfl (qf2 e)) ⟨R6,R4⟩ ?_))
     refine m5i ?_;refine AR [9] ?_
     refine AC (fun K hK=>?_) AZ
     go_simp;go_at_call 69;refine(CO _).mono ?_;rintro x w5 ⟨rfl,hb5⟩;replace hb5:=qmk hb5;replace R6:=R6.below hb5;replace R2:=R2.below hb5;replace R4:=R4.below hb5;refine m2s ?_;clear hB;intro hB
     go_wp2_with fail
     refine hK.out _ _ ⟨R6,R4⟩ (fun _=>?_)
     clear hK K;(try simp only[ZZ]);refine tq 10 (.tuple #[.int .i64 0,.int .i64 E]) rfl ⟨R6,R4⟩ (tq 11 (.int .i64 0) rfl ⟨R6,R4⟩ (tq 12 (.int .i64 E) rfl ⟨R6,R4⟩ ?_));refine m5i ?_;refine tq 13 (.int .i64 0) rfl ⟨R6,R4⟩ (tq 14 (.int .i64 E) rfl ⟨R6,R4⟩ ?_);refine m1f ?_
     go_wp2_with (first|((with_reducible refine atOp (.build 35 #[]) rfl ?_);refine qcvb 35 rfl rfl _ qd1b ?_)|((with_reducible refine gS 35 2 37 ?_);refine sx 35 (.tmp 2) (.tmp 37) (pc z0 g0') R2 ?_;intro w6 R2 t6;replace hB:=t6.below _ _ l2 hB))
     (refine m03 ?_;refine bodyPost_ret (qbf (p:=2) (u:=3) rfl _ _ _ _ rfl R2 _ underlying35 rfl (qfg _ _)) rfl ⟨?_,hB⟩)
     rw[HS.out];rfl
   ·have HW2:Hid (qcub z0 es=_):=HW.out.trans (qf1b F hlj he hk);have HS:Hid (ownS es=_):=qdrb HW2;refine m7v ?_;intro CG;clear HW HW2 hk he
    go_wp2_with (first|((with_reducible refine atOp (.indexAddr 55 (.tmp 10) (.tmp 12)) rfl ?_);refine m7q ?_)|((with_reducible refine gL 112 14 ?_);refine qlr (.tmp 14) rfl rfl _ _ rfl e hrg ?_)|((with_reducible refine gA 112 ?_);refine m5b ?_;clear R2 R4 hB hrg hMW;intro b6 w3 R6 hb3 n26 n46 l6 R2 R4 hB)|((with_reducible refine gS 112 6 15 ?_);refine m53 ?_;clear R2 R4 hB;intro w4 R6 t4 R2 R4 hB)|((with_reducible refine gL 112 6 ?_);refine m65 ?_)|(go_at_call 68;go_fit (CG _);rintro x w5 ⟨rfl,hb5⟩;replace R6:=R6.below hb5;replace R2:=R2.below hb5;replace R4:=R4.below hb5;refine m2s ?_;clear hB;intro hB)|((with_reducible refine atOp (.build 35 #[]) rfl ?_);refine qcvb 35 rfl rfl _ qd1b ?_)|((with_reducible refine gS 35 2 20 ?_);refine sx 35 (.tmp 2) (.tmp 20) (pc z0 g0') R2 ?_;intro w6 R2 t6;replace hB:=t6.below _ _ l2 hB))
    (refine m03 ?_;refine bodyPost_ret (qbf (p:=2) (u:=3) rfl _ _ _ _ rfl R2 _ underlying35 rfl (qfg _ _)) rfl ⟨?_,hB⟩)
    rw[HS.out];rfl
  ·have HS:Hid (ownS es=_):=qdrb (HW.out.trans (qfsb F es j om));(have hjn:¬(j:Int)<(n:Int):=by have:=HN.out;omega);clear HW
   go_wp2_with (first|((with_reducible refine gL 35 4 ?_);refine lx 35 (.tmp 4) (pc F g0') R4 ?_)|((with_reducible refine gS 35 2 48 ?_);refine sx 35 (.tmp 2) (.tmp 48) (pc F g0') R2 ?_;intro w6 R2 t6;replace hB:=t6.below _ _ l2 hB))
   (refine m03 ?_;refine bodyPost_ret (qbf (p:=2) (u:=3) rfl _ _ _ _ rfl R2 _ underlying35 rfl (qfg _ _)) rfl ⟨?_,hB⟩)
   rw[HS.out];rfl
end Go.Proofs.YtonnjgmognbnbaaGreatDoor
