/-
  Of what a law stands on.
-/
import Derived.Maps.AppendAt
import Derived.BigQuiet
import Derived.Deep.Slices
import Derived.Test.YtnicenfgemkdnaaGreatDoorZxd5
set_option linter.unusedSimpArgs false
set_option linter.unusedVariables false
namespace Go.Proofs.YtnicenfgemkdnaaGreatDoor
open _root_.Go.Proofs.Tryz
set_option maxHeartbeats 16000000
set_option maxRecDepth 100000
open Go.ChangeShapes Go.WideShapes Go.ChangeAt Go.RowKit
theorem qmo{w w':World}{b:Nat}{v:Value}{ms:List Mp}(h:qaz w v ms)(hne:mb v≠b)(t:qbl b w w'):qaz w' v ms:=by
 obtain⟨a,cap,e,h1,h2,h3⟩:=h
 refine⟨a,cap,e,h1,fun j hj i u hu=>?_,h3⟩
 have:=h2 j hj i u hu
 unfold World.cell? at *
 rw[t.other _ hne]
 exact this
theorem qzj{w:World}{b o:Nat}{v:Value}:qbl b w (w.setCell ⟨b,o,none⟩ v):=⟨by simp,fun r hr=>Below.heap_setCell _ _ _ _ hr,fun B w0 hB hb=>hb.setCell (p:=⟨b,o,none⟩) hB v⟩
attribute [local irreducible] tc pc
theorem q6u(f:Nat->Int)(g:Nat->Bool)(h:Nat->Int)(sl:Value)(ms:List Mp)(p s i d:Int)(w:World)(hM:qaz w sl ms)(hwH:wfH h)(hno:qcs sl)(hd:(Lit.int .i64 d).wf=true)(hP:qjy f h ms p s i)(hf:ms.find? (inS p s i)=none)(hc:cntM ms s≠12)(he:(qbe f g h ms p s d).e=0):
  Calls prog 135 #[.agg (tc f g h sl),.int .i64 p,.int .i64 s,.int .i64 i,.int .i64 d] w fun e w'=>∃v,e=.returned (qpm (qbe f g h ms p s d).f g (qbe f g h ms p s d).h v (p,s,i,(qbe f g h ms p s d).h s.toNat-1,(qbe f g h ms p s d).q) (qbe f g h ms p s d).took 0)/\qaz w' v (ms++[(p,s,i,(qbe f g h ms p s d).h s.toNat-1,(qbe f g h ms p s d).q)])/\qcs v/\w.heap.size<=mb v/\Below w.heap.size w w':=by
 have hB:=Below.refl w.heap.size w
 have hM0:=hM
 obtain⟨a0,cap,hsl,-⟩:=hM0
 obtain⟨n,hn⟩:∃n,n=ms.length:=⟨_,rfl⟩
 rw[←hn] at hsl
 subst hsl
 have HN:Hid (n=ms.length):=hn
 clear hn
 have hlt:=hM.lt
 have CG:=fun w hM=>qf8 f g h (.slice a0 n cap) ms hwH w hM
 obtain⟨G,hp,hs,hi0,hi1⟩:=hP
 have hs0:0<=s:=hs.1
 have hs8:s<8:=hs.2
 have hs8n:s.toNat<8:=by omega
 have C1:=fun w=>qfh p w
 have C2:=fun w=>qig s w
 have C3:=fun w=>qhe i w
 have e2:(decide (0<=s)&&decide (s<8))=true:=by simp[hs0,hs8]
 have e3:(decide (0<=i)&&decide (i<=65535))=true:=by simp[hi0,hi1]
 rw[hp] at C1
 rw[e2] at C2
 rw[e3] at C3
 have HG:Hid (qbq f h ms):=G
 have CF:=fun w hM=>qlo f g h (.slice a0 n cap) ms p s i w hM
 rw[hf] at CF
 unfold qhw at CF
 have hany:ms.any (inS p s i)=false:=by rw[←List.isSome_find?,hf];rfl
 have hrk:=(qya (g:=g) (d:=d) G hp hs ⟨hi0,hi1⟩ hany hc he).1.homeIn hs
 have CC:=fun w hM=>qh5 f g h (.slice a0 n cap) ms s w hM
 have dc:(((cntM ms s:Nat):Int)==12)=false:=by simp;omega
 have CR:=fun w hM=>qwa f g h (.slice a0 n cap) ms p s d w hM G hs hd
 unfold q00 at CR
 have hlen:=G.len
 generalize qbe f g h ms p s d=r at *
 obtain⟨rf,rh,rq,rt,re⟩:=r
 simp only at CR he hrk ⊢
 subst he
 obtain⟨ra,hra⟩:∃ra,ra=rh s.toNat-1:=⟨_,rfl⟩
 have hraw:wrap64 (rh s.toNat-1)=ra:=by rw[hra];unfold wrap64;omega
 rw[←hra]
 have CW:=fun w hM=>q50 (.slice a0 n cap) ms (p,s,i,ra,rq) w hM hno hlen
 generalize cntM ms s=cc at *
 clear G hp hs hi0 hi1 e2 e3 hf hc hany hrk hlen hra
 go_enter func135,ntmps135
 go_wp2_with (first|(refine bx 39 _ _ ?_;intro b5 w1 l5 R5 hb1;replace l5:=Nat.le_trans hB.size l5;replace hB:=hB.trans (hb1.mono hB.size))|(refine ax 10 39 qb8 ?_;intro b10 w2 l10 R10 hb2;have n5a:=R5.ne l10;replace l10:=Nat.le_trans hB.size l10;replace R5:=R5.below hb2;replace hB:=hB.trans (hb2.mono hB.size))|(refine ax 11 46 qa4 ?_;intro b11 w3 l11 R11 hb3;have n5b:=R5.ne l11;have nab:=R10.ne l11;replace l11:=Nat.le_trans hB.size l11;replace R5:=R5.below hb3;replace R10:=R10.below hb3;replace hB:=hB.trans (hb3.mono hB.size))|(refine lx 39 (.tmp 5) (tc f g h (.slice a0 n cap)) R5 ?_)|(go_at_call 21;go_fit (CG _ (hM.keep hB hlt));rintro e w5 ⟨r,hr,rfl,hb5⟩;obtain rfl:r=true:=(hr.2 HG.out);clear hr;replace R5:=R5.below hb5;replace R10:=R10.below hb5;replace R11:=R11.below hb5;replace hB:=hB.trans (hb5.mono hB.size))|(go_at_call 83;go_fit (C1 _);rintro e w' ⟨rfl,hw⟩;rw[hw];clear hw w')|(go_at_call 84;go_fit (C2 _);rintro e w' ⟨rfl,hw⟩;rw[hw];clear hw w')|(go_at_call 85;go_fit (C3 _);rintro e w' ⟨rfl,hw⟩;rw[hw];clear hw w')|(go_at_call 29;go_fit (CF _ (hM.keep hB hlt));rintro e w5 ⟨rfl,hb5⟩;replace R5:=R5.below hb5;replace R10:=R10.below hb5;replace R11:=R11.below hb5;replace hB:=hB.trans (hb5.mono hB.size))|(refine ax 14 46 qa4 ?_;intro b14 w8 l14 R14 hb8;have n5c:=R5.ne l14;have nac:=R10.ne l14;have nbc:=R11.ne l14;replace l14:=Nat.le_trans hB.size l14;replace R5:=R5.below hb8;replace R10:=R10.below hb8;replace R11:=R11.below hb8;replace hB:=hB.trans (hb8.mono hB.size))|(refine sx 46 (.tmp 14) _ (mc noM) R14 ?_;intro w9 R14 t9;replace R5:=t9.row R5 n5c;replace R10:=t9.row R10 nac;replace R11:=t9.row R11 nbc;replace hB:=t9.below _ _ l14 hB)|(go_at_call 87;go_fit (CC _ (hM.keep hB hlt));rintro e w5 ⟨rfl,hb5⟩;(try clear R14);replace R5:=R5.below hb5;replace R10:=R10.below hb5;replace R11:=R11.below hb5;replace hB:=hB.trans (hb5.mono hB.size))|(go_at_call 166;go_fit (CR _ (hM.keep hB hlt));rintro e w5 ⟨rfl,hb5⟩;replace R5:=R5.below hb5;replace R10:=R10.below hb5;replace R11:=R11.below hb5;replace hB:=hB.trans (hb5.mono hB.size))|(refine ax 16 39 qb8 ?_;intro b16 w10 l16 R16 hb10;have n5d:=R5.ne l16;have nad:=R10.ne l16;have nbd:=R11.ne l16;replace l16:=Nat.le_trans hB.size l16;replace R5:=R5.below hb10;replace R10:=R10.below hb10;replace R11:=R11.below hb10;replace hB:=hB.trans (hb10.mono hB.size))|(refine qab 39 rfl (.tmp 16) _ rfl b16 rfl (tc rf g rh (.slice a0 n cap)) rfl _ R16 (qen _ _ _ _ _ _ _ _) (qaq _ _ _ _) (qbm _ _ _ _ _ _) ?_;intro w11 R16 t11;replace R5:=t11.row R5 n5d;replace R10:=t11.row R10 nad;replace R11:=t11.row R11 nbd;replace hB:=t11.below _ _ l16 hB;have c16:World.cell? _ ⟨b16,21+s.toNat,none⟩=some (.int .i64 (rh s.toNat)):=(R16.cell _).trans (qhc _ _ _ _ _ hs8n))|(refine ax 20 46 qa4 ?_;intro b20 w12 l20 R20 hb12;have n5e:=R5.ne l20;have nae:=R10.ne l20;have nbe:=R11.ne l20;have nde:=R16.ne l20;replace l20:=Nat.le_trans hB.size l20;replace R5:=R5.below hb12;replace R10:=R10.below hb12;replace R11:=R11.below hb12;replace R16:=R16.below hb12;replace hB:=hB.trans (hb12.mono hB.size))|(refine sx 46 (.tmp 20) _ (mc (p,s,i,ra,rq)) R20 ?_;intro w13 R20 t13;replace R5:=t13.row R5 n5e;replace R10:=t13.row R10 nae;replace R11:=t13.row R11 nbe;replace R16:=t13.row R16 nde;replace hB:=t13.below _ _ l20 hB;clear c16;have c5:World.cell? _ ⟨b5,29,none⟩=some (.slice a0 n cap):=(R5.cell _).trans (qdw _ _ _ _))|(refine lx 46 (.tmp 20) (mc (p,s,i,ra,rq)) R20 ?_)|(go_at_call 167;go_fit (CW _ (hM.keep hB hlt));rintro e w14 ⟨v,rfl,hMv,hNv,hbv,hb14⟩;clear c5;have hle0:=Nat.le_trans hB.size hbv;have x10:=Nat.ne_of_gt (Nat.lt_of_lt_of_le R10.lt hbv);have x11:=Nat.ne_of_gt (Nat.lt_of_lt_of_le R11.lt hbv);have x16:=Nat.ne_of_gt (Nat.lt_of_lt_of_le R16.lt hbv);clear hbv;replace R10:=R10.below hb14;replace R11:=R11.below hb14;replace R16:=R16.below hb14;replace R20:=R20.below hb14;replace hB:=hB.trans (hb14.mono hB.size);(obtain⟨av,cv,hv,-⟩:=id hMv);(generalize(ms++[(p,s,i,ra,rq)]).length=ln at hv);subst hv;have f16:=R16.free 29;have c16:World.cell? _ ⟨b16,29,none⟩=some (.slice a0 n cap):=(R16.cell _).trans (qdw _ _ _ _)))
 replace R10:=R10.other (b:=b16) (o:=29) (v:=.slice av ln cv) nad
 replace R11:=R11.other (b:=b16) (o:=29) (v:=.slice av ln cv) nbd
 replace R20:=R20.other (b:=b16) (o:=29) (v:=.slice av ln cv) nde.symm
 replace R16:=R16.set (o:=29) (v:=.slice av ln cv)
 rw[qm0] at R16
 have hM2:=qmo hMv x16 (qzj (o:=29) (v:=.slice av ln cv))
 replace hB:=hB.setCell (p:=⟨b16,29,none⟩) l16 (.slice av ln cv)
 refine RD (fun W=>Row 39 W b16 (tc rf g rh (.slice av ln cv))/\Row 46 W b20 (mc (p,s,i,ra,rq))) ⟨R16,R20⟩ (fun _=>?_)
 refine tk 0 (.agg (tc rf g rh (.slice av ln cv))) rfl (yx 39 (.tmp 16) (tc rf g rh (.slice av ln cv)) (fun _ h=>h.1)) ⟨R16,R20⟩ (tk 1 (.agg (mc (p,s,i,ra,rq))) rfl (qav 46 (.tmp 20) rfl kr b20 kr (mc (p,s,i,ra,rq)) (fun _ h=>h.2) _ underlying46 rfl (qak (p,s,i,ra,rq))) ⟨R16,R20⟩ (tq 2 (.bool rt) rfl ⟨R16,R20⟩ ?_))
 simp only[ZZ]
 refine AR [3] ?_
 refine AC (fun K hK=>?_) ?_
 ·rw[if_pos kr]
  refine qau 39 (.tmp 10) (.tmp 88) rfl b10 rfl (tc rf g rh (.slice av ln cv)) rfl _ R10 (qen _ _ _ _ _ _ _ _) (qaq _ _ _ _) (qbm _ _ _ _ _ _) ?_;intro w16 R10 t16;(try replace t16:=qhp t16);replace R16:=t16.row R16 nad.symm;replace R11:=t16.row R11 nab.symm;replace R20:=t16.row R20 nae.symm;replace hM2:=qmo hM2 x10 t16;replace hB:=t16.below _ _ l10 hB
  refine hK.out _ _ ⟨R16,R20⟩ (fun _=>?_)
  clear hK K
  try simp only[ZZ]
  refine AR [4] ?_
  refine AC (fun K hK=>?_) ?_
  ·rw[if_pos kr]
   refine sy 46 (.tmp 11) (.tmp 89) (mc (p,s,i,ra,rq)) R11 ?_;intro w17 R11 t17;(try replace t17:=qhp t17);replace R16:=t17.row R16 nbd.symm;replace R10:=t17.row R10 nab;replace R20:=t17.row R20 nbe.symm;replace hM2:=qmo hM2 x11 t17;replace hB:=t17.below _ _ l11 hB
   refine hK.out _ _ ⟨R16,R20⟩ (fun _=>?_)
   clear hK K
   try simp only[ZZ]
   refine tq 5 (.bool rt) rfl ⟨R16,R20⟩ (tq 6 (.int .i64 0) rfl ⟨R16,R20⟩ ?_)
   simp only[ZZ]
   refine AN ?_
   go_wp2
   ((try simp only[Exit.inBlock,Exit.then]);refine bodyPost_ret (qej rfl _ _ _ _ _ _ rfl rfl R10 R11 _ _ underlying39 underlying46 rfl rfl (qaq _ _ _ _) (qak _)) rfl ⟨.slice av ln cv,?_⟩)
   exact⟨rfl,hM2,hNv,hle0,by first|exact hB|exact qea hB⟩
  exact AZ
 exact AZ
end Go.Proofs.YtnicenfgemkdnaaGreatDoor
namespace Go.Proofs.YtnicenfgemkdnaaGreatDoor
open _root_.Go.Proofs.Tryz
set_option maxHeartbeats 16000000
set_option maxRecDepth 100000
open Go.ChangeShapes Go.WideShapes Go.ChangeAt Go.RowKit
theorem q35{ms:List Mp}(hp:ms.Pairwise (fun o m=>qc0 [o] m=false)){m:Mp}(hm:m∈ms):ms.find? (inS m.1 m.2.1 m.2.2.1)=some m:=by
 induction ms with
 | nil=>simp at hm
 | cons o r ih=>
  rw[List.pairwise_cons] at hp
  by_cases e:o=m
  ·subst e
   have:inS o.1 o.2.1 o.2.2.1 o=true:=(qsm _ _ _ _).2 ⟨rfl,rfl,rfl⟩
   rw[List.find?_cons_of_pos this]
  ·have hm':m∈r:=by
    rcases List.mem_cons.1 hm with h|h
    ·exact absurd h.symm e
    ·exact h
   have h1:=hp.1 m hm'
   have h2:inS m.1 m.2.1 m.2.2.1 o=false:=by
    simp only[qc0,List.any_cons,List.any_nil,Bool.or_false,Bool.or_eq_false_iff] at h1
    exact h1.1
   rw[List.find?_cons_of_neg (by rw[h2];simp)]
   exact ih hp.2 hm'
theorem qbq.wf{f h:Nat->Int}{ms:List Mp}(G:qbq f h ms):wfH h:=fun i hi=>by
 have:=G.homeIn (s:=(i:Int)) om
 simp only[Int.toNat_natCast] at this
 exact qlt om om
attribute [local irreducible] tc pc
end Go.Proofs.YtnicenfgemkdnaaGreatDoor
namespace Go.Proofs.YtnicenfgemkdnaaGreatDoor
open _root_.Go.Proofs.Tryz
set_option maxHeartbeats 16000000
set_option maxRecDepth 100000
open Go.ChangeShapes Go.WideShapes Go.ChangeAt Go.RowKit
theorem qcl{w w':World}{b:Nat}{v:Value}{ms:List Mp}(h:qaz w v ms)(hne:0<ms.length->mb v≠b)(t:qbl b w w'):qaz w' v ms:=by
 obtain⟨a,cap,e,h1,h2,h3⟩:=h
 refine⟨a,cap,e,h1,fun j hj i u hu=>?_,h3⟩
 have:=h2 j hj i u hu
 unfold World.cell? at *
 rw[t.other _ (hne om)]
 exact this
theorem qaz.away3{w:World}{v:Value}{ms:List Mp}{b:Nat}(h:qaz w v ms)(hb:w.heap.size<=b):0<ms.length->mb v≠b:=fun hl=>Nat.ne_of_lt (Nat.lt_of_lt_of_le (h.lt hl) hb)
theorem qaa{ops:Array Oper}{rest:List Oper}{o:Oper}{a:Act}{w:World}{Q:Exit->Act->World->Prop}(p:Op)(ho:o.op=p)(h:wpList prog ops Q (o::rest) a w):wpList prog ops Q (o::rest) a w:=h
theorem q5i{ops:Array Oper}{rest:List Oper}{o:Oper}{a:Act}{w:World}{Q:Exit->Act->World->Prop}(h:wpList prog ops Q (o::rest) a w):wpList prog ops Q (o::rest) a w:=h
theorem qrb{w w':World}{base:Nat}{e:TypeId}{size n:Nat}{v:Value}{xs:List Value}(h:w.ownsRow base e size v n xs)(hb:Below w.heap.size w w'):w'.ownsRow base e size v n xs:=by
 refine⟨h.1,?_⟩
 rcases h.2 with e|⟨b,cap,cur,hv,hbb,hh,r⟩
 ·exact .inl e
 ·exact .inr ⟨b,cap,cur,hv,hbb,(hb.block b (Array.getElem?_eq_some_iff.1 hh).1).trans hh,r⟩
theorem qpt{w w':World}{base b7:Nat}{e:TypeId}{size n:Nat}{v:Value}{xs:List Value}(h:w.ownsRow base e size v n xs)(t:qbl b7 w w')(hn:v.ownBlock≠some b7):w'.ownsRow base e size v n xs:=by
 refine⟨h.1,?_⟩
 rcases h.2 with e|⟨b,cap,cur,hv,hbb,hh,r⟩
 ·exact .inl e
 ·exact .inr ⟨b,cap,cur,hv,hbb,(t.other b (fun e=>hn (by rw[hv,e];rfl))).trans hh,r⟩
theorem qs6{w:World}{base b7:Nat}{e:TypeId}{size n:Nat}{v:Value}{xs:List Value}(h:w.ownsRow base e size v n xs)(hb:w.heap.size<=b7):v.ownBlock≠some b7:=by
 rcases h.2 with⟨e,_⟩|⟨b,cap,cur,hv,hbb,hh,r⟩
 ·rw[e];simp[Value.ownBlock]
 ·rw[hv]
  intro e
  have e':b=b7:=Option.some.inj e
  have:=(Array.getElem?_eq_some_iff.1 hh).1
  omega
theorem q0k{t:TypeId}{w w':World}{b:Nat}{cs:Array Value}{v:Value}(R:Row t w b cs)(hne:v.ownBlock≠some b)(hg:w.grownBy w' v.ownBlock):Row t w' b cs:=(hg.block b R.lt (fun e=>hne e.symm)).trans R
theorem qzu{ms:List Mp}{j:Nat}{o m:Mp}(hlj:j<ms.length)(hm:ms[j]=o):qa6 (ms.take (j+1)) m=qa6 (ms.take j) m++if o=m then [] else [o]:=by
 unfold qa6;rw[qic hlj hm,List.filter_append]
 by_cases e:o=m
 ·simp[e]
 ·simp[e]
theorem q5x(ms:List Mp)(m:Mp)(j:Nat):(qa6 (ms.take j) m).length<=ms.length:=by
 unfold qa6;exact Nat.le_trans (List.length_filter_le _ _) (by rw[List.length_take];omega)
theorem qer(a b:Int):(prog.info? 97).map (·.size)=some (ic2 a b).size:=by kernel_rfl
theorem qlf(a b:Int):(ic2 a b).all (·.oneCell')=true:=by kernel_rfl
def qfr(ms:List Mp)(a b:Int):Bool:=ms.any fun o=>inP o&&(plA o==a&&plB o==b)
theorem q3j{ms:List Mp}{j:Nat}{a b:Int}{o:Mp}(hlj:j<ms.length)(hm:ms[j]=o)(h1:inP o=true)(h2:(plA o==a&&plB o==b)=true):qfr ms a b=true:=by
 unfold qfr;rw[List.any_eq_true];exact⟨o,hm▸List.getElem_mem hlj,by rw[h1,h2];rfl⟩
theorem qp5{ms:List Mp}{j:Nat}{a b:Int}{o:Mp}(hno:qfr (ms.take j) a b=false)(hlj:j<ms.length)(hm:ms[j]=o)(h:(inP o&&(plA o==a&&plB o==b))=false):qfr (ms.take (j+1)) a b=false:=by
 unfold qfr at *;rw[qic hlj hm,List.any_append,hno];simp[h]
theorem sZxd61{p:Prop}(h:p:=by
 go_roundw
 case rel=>first|exact⟨j+1,by omega,by go_num,HF.out,hB,R3⟩|((repeat apply Exists.intro);exact⟨⟨j+1,by omega,by go_num,HF.out,hB,R3⟩,rfl⟩)
 case measure=>(first|rw[hjw]|skip);exact qek (HN.out.symm▸hlj)):p:=h
theorem qoa(sl:Value)(ms:List Mp)(x y:Int)(w:World)(hM:qaz w sl ms):
  Calls prog 180 #[sl,.agg (ic2 x y)] w fun e w'=>e=.returned (.bool (qfr ms x y))/\Below w.heap.size w w':=by
 have hB:=Below.refl w.heap.size w
 have hM0:=hM
 obtain⟨a0,cap,hsl,-⟩:=hM0
 obtain⟨n,hn⟩:∃n,n=ms.length:=⟨_,rfl⟩
 rw[←hn] at hsl
 subst hsl
 have HN:Hid (n=ms.length):=hn
 clear hn
 have hlt:=hM.lt
 go_enter func180,ntmps180
 go_wp2_with ((with_reducible refine gB 97 1 ?_);refine bx 97 _ _ ?_;intro b3 w1 l3 R3 hb1;replace hB:=hB.trans (hb1.mono hB.size))
 go_loopw [11] (fun i W=>∃j:Nat,j<=ms.length/\i=.int .i64 j/\qfr (ms.take j) x y=false/\Below w.heap.size w W/\Row 97 W b3 (ic2 x y)) (fun i _=>n-(intOf i).toNat)
 case atStart=>exact⟨0,by omega,rfl,by simp[qfr],hB,R3⟩
 case round=>
  clear hB R3 hb1
  obtain⟨j,hj,rfl,hno,hB,R3⟩:=hrel
  by_cases hlj:j<ms.length
  ·have hjn:(j:Int)<(n:Int):=by have:=HN.out;omega
   have hjw:=qga hlj hM.len
   obtain⟨o,hm⟩:∃o,ms[j]=o:=⟨_,rfl⟩
   have hMW:=hM.keep hB hlt
   have hrg:=hMW.at j hlj hm
   have CPl:=fun w=>qgp o w
   cases hin:inP o with
   | false=>
    simp only[hin] at CPl
    have HF:Hid (qfr (ms.take (j+1)) x y=false):=qp5 hno hlj hm (by rw[hin];rfl)
    clear hno hm hin
    go_wp2_with (first|((with_reducible refine qaa (.indexAddr 37 (.tmp 9) (.tmp 11)) rfl ?_);refine qb5 rfl (.tmp 9) (.tmp 11) rfl (.slice a0 n cap) ms hMW rfl j rfl hlj ?_)|((with_reducible refine gL 46 13 ?_);refine wpList_load_mid rfl 46 (.tmp 13) rfl _ _ rfl (mcl o) _ hrg underlying46 rfl (qby o) ?_;rw[qc2])|((with_reducible refine gA 46 ?_);refine ax 6 46 qa4 ?_;intro b6 w3 l6 R6 hb3;have n36:=R3.ne l6;replace l6:=Nat.le_trans hB.size l6;replace R3:=R3.below hb3;replace hB:=hB.trans (hb3.mono hB.size))|((with_reducible refine gS 46 6 14 ?_);refine sx 46 (.tmp 6) _ (mc o) R6 ?_;intro w4 R6 t4;replace R3:=t4.row R3 n36;replace hB:=t4.below _ _ l6 hB)|((with_reducible refine gL 46 6 ?_);refine lx 46 (.tmp 6) (mc o) R6 ?_)|(go_at_call 55;go_fit (CPl _);rintro e w5 ⟨rfl,hb5⟩;clear R6;replace R3:=R3.below hb5;replace hB:=hB.trans (hb5.mono hB.size))|((with_reducible refine gA 97 ?_);refine ax 7 97 qcn ?_;intro b7 w6 l7 R7 hb6;have n37:=R3.ne l7;replace l7:=Nat.le_trans hB.size l7;replace R3:=R3.below hb6;replace hB:=hB.trans (hb6.mono hB.size))|((with_reducible refine gS 97 7 18 ?_);refine sx 97 (.tmp 7) _ (ic2 (plA o) (plB o)) R7 ?_;intro w8 R7 t8;replace R3:=t8.row R3 n37;replace hB:=t8.below _ _ l7 hB))
    exact sZxd61
   | true=>
    simp only[hin] at CPl
    cases dE:(plA o==x&&plB o==y) with
    | true=>
     have HF:Hid (qfr ms x y=true):=q3j hlj hm hin dE
     clear hno hm hin
     go_wp2_with (first|((with_reducible refine qaa (.indexAddr 37 (.tmp 9) (.tmp 11)) rfl ?_);refine qb5 rfl (.tmp 9) (.tmp 11) rfl (.slice a0 n cap) ms hMW rfl j rfl hlj ?_)|((with_reducible refine gL 46 13 ?_);refine wpList_load_mid rfl 46 (.tmp 13) rfl _ _ rfl (mcl o) _ hrg underlying46 rfl (qby o) ?_;rw[qc2])|((with_reducible refine gA 46 ?_);refine ax 6 46 qa4 ?_;intro b6 w3 l6 R6 hb3;have n36:=R3.ne l6;replace l6:=Nat.le_trans hB.size l6;replace R3:=R3.below hb3;replace hB:=hB.trans (hb3.mono hB.size))|((with_reducible refine gS 46 6 14 ?_);refine sx 46 (.tmp 6) _ (mc o) R6 ?_;intro w4 R6 t4;replace R3:=t4.row R3 n36;replace hB:=t4.below _ _ l6 hB)|((with_reducible refine gL 46 6 ?_);refine lx 46 (.tmp 6) (mc o) R6 ?_)|(go_at_call 55;go_fit (CPl _);rintro e w5 ⟨rfl,hb5⟩;clear R6;replace R3:=R3.below hb5;replace hB:=hB.trans (hb5.mono hB.size))|((with_reducible refine gA 97 ?_);refine ax 7 97 qcn ?_;intro b7 w6 l7 R7 hb6;have n37:=R3.ne l7;replace l7:=Nat.le_trans hB.size l7;replace R3:=R3.below hb6;replace hB:=hB.trans (hb6.mono hB.size))|((with_reducible refine gS 97 7 18 ?_);refine sx 97 (.tmp 7) _ (ic2 (plA o) (plB o)) R7 ?_;intro w8 R7 t8;replace R3:=t8.row R3 n37;replace hB:=t8.below _ _ l7 hB)|((with_reducible refine gL 97 7 ?_);refine qac 97 (.tmp 7) rfl ?_ b7 rfl (ic2 (plA o) (plB o)) R7 _ underlying97 rfl (qer _ _) ?_;· kernel_rfl)|((with_reducible refine gL 97 3 ?_);refine qac 97 (.tmp 3) rfl ?_ b3 rfl (ic2 x y) R3 _ underlying97 rfl (qer _ _) ?_;· kernel_rfl;(try dsimp only[Act.put]);(try simp only[List.setIfInBounds_toArray,List.set_cons_zero,List.set_cons_succ]))|((with_reducible refine qaa (.binOp .eql 97 (.tmp 22) (.tmp 23) 97) rfl ?_);refine qb1 97 (.tmp 22) (.tmp 23) rfl ?_ (ic2 (plA o) (plB o)) (ic2 x y) kr kr eqGuardType97 _ _ (quq (plA o) (plB o) x y _) dE ?_;· kernel_rfl))
     go_ret
     exact⟨by rw[HF.out];rfl,hB⟩
    | false=>
     have HF:Hid (qfr (ms.take (j+1)) x y=false):=qp5 hno hlj hm (by rw[hin,dE];rfl)
     clear hno hm hin
     go_wp2_with (first|((with_reducible refine qaa (.indexAddr 37 (.tmp 9) (.tmp 11)) rfl ?_);refine qb5 rfl (.tmp 9) (.tmp 11) rfl (.slice a0 n cap) ms hMW rfl j rfl hlj ?_)|((with_reducible refine gL 46 13 ?_);refine wpList_load_mid rfl 46 (.tmp 13) rfl _ _ rfl (mcl o) _ hrg underlying46 rfl (qby o) ?_;rw[qc2])|((with_reducible refine gA 46 ?_);refine ax 6 46 qa4 ?_;intro b6 w3 l6 R6 hb3;have n36:=R3.ne l6;replace l6:=Nat.le_trans hB.size l6;replace R3:=R3.below hb3;replace hB:=hB.trans (hb3.mono hB.size))|((with_reducible refine gS 46 6 14 ?_);refine sx 46 (.tmp 6) _ (mc o) R6 ?_;intro w4 R6 t4;replace R3:=t4.row R3 n36;replace hB:=t4.below _ _ l6 hB)|((with_reducible refine gL 46 6 ?_);refine lx 46 (.tmp 6) (mc o) R6 ?_)|(go_at_call 55;go_fit (CPl _);rintro e w5 ⟨rfl,hb5⟩;clear R6;replace R3:=R3.below hb5;replace hB:=hB.trans (hb5.mono hB.size))|((with_reducible refine gA 97 ?_);refine ax 7 97 qcn ?_;intro b7 w6 l7 R7 hb6;have n37:=R3.ne l7;replace l7:=Nat.le_trans hB.size l7;replace R3:=R3.below hb6;replace hB:=hB.trans (hb6.mono hB.size))|((with_reducible refine gS 97 7 18 ?_);refine sx 97 (.tmp 7) _ (ic2 (plA o) (plB o)) R7 ?_;intro w8 R7 t8;replace R3:=t8.row R3 n37;replace hB:=t8.below _ _ l7 hB)|((with_reducible refine gL 97 7 ?_);refine qac 97 (.tmp 7) rfl ?_ b7 rfl (ic2 (plA o) (plB o)) R7 _ underlying97 rfl (qer _ _) ?_;· kernel_rfl)|((with_reducible refine gL 97 3 ?_);refine qac 97 (.tmp 3) rfl ?_ b3 rfl (ic2 x y) R3 _ underlying97 rfl (qer _ _) ?_;· kernel_rfl;(try dsimp only[Act.put]);(try simp only[List.setIfInBounds_toArray,List.set_cons_zero,List.set_cons_succ]))|((with_reducible refine qaa (.binOp .eql 97 (.tmp 22) (.tmp 23) 97) rfl ?_);refine qb1 97 (.tmp 22) (.tmp 23) rfl ?_ (ic2 (plA o) (plB o)) (ic2 x y) kr kr eqGuardType97 _ _ (quq (plA o) (plB o) x y _) dE ?_;· kernel_rfl))
     exact sZxd61
  ·have e:j=ms.length:=by omega
   have hjn:(n:Int)<=(j:Int):=by have:=HN.out;omega
   rw[e,List.take_length] at hno
   have HF:Hid (qfr ms x y=false):=hno
   clear e hj hlj hno
   go_wp2
   go_ret
   exact⟨by rw[HF.out];rfl,hB⟩
theorem qmn(sl:Value)(ms:List Mp)(m:Mp)(w:World)(hM:qaz w sl ms)(hl:ms.length<=1000):
  Calls prog 179 #[sl,.agg (mc m)] w fun e w'=>∃v,e=.returned v/\qaz w' v (qa6 ms m)/\qcs v/\(0<(qa6 ms m).length->w.heap.size<=mb v)/\Below w.heap.size w w':=by
 have hB:=Below.refl w.heap.size w
 have hM0:=hM
 obtain⟨a0,cap,hsl,-⟩:=hM0
 obtain⟨n,hn⟩:∃n,n=ms.length:=⟨_,rfl⟩
 rw[←hn] at hsl
 subst hsl
 have HN:Hid (n=ms.length):=hn
 clear hn
 have hlt:=hM.lt
 obtain⟨i0,hi,hz0,hz1,hz2⟩:=info_parts qnm
 go_enter func179,ntmps179
 go_wp2_with (refine bx 46 _ _ ?_;intro b3 w1 l3 R3 hb1;replace l3:=Nat.le_trans hB.size l3;replace hB:=hB.trans (hb1.mono hB.size))
 go_loopw [5,10] (fun v i W=>∃(j:Nat) (ao:Option Addr) (cv:Nat),j<=ms.length/\i=.int .i64 j/\v=.slice ao (qa6 (ms.take j) m).length cv/\W.ownsRow w.heap.size 46 5 v (qa6 (ms.take j) m).length (flat (qa6 (ms.take j) m))/\v.ownBlock≠some b3/\Below w.heap.size w W/\Row 46 W b3 (mc m)) (fun _ i _=>n-(intOf i).toNat)
 case atStart=>exact⟨0,none,0,by omega,rfl,by simp[qa6],by simpa[qa6,flat] using World.ownsRow_nil _ _ _ _,by simp[Value.ownBlock],hB,R3⟩
 case round=>
  clear hB R3 hb1
  obtain⟨j,ao,cv,hj,rfl,hv,hown,hn3,hB,R3⟩:=hrel
  have hdl:=q5x ms m j
  by_cases hlj:j<ms.length
  ·have hjn:(j:Int)<(n:Int):=by have:=HN.out;omega
   have hjw:=qga hlj hM.len
   obtain⟨o,hm⟩:∃o,ms[j]=o:=⟨_,rfl⟩
   have hMW:=hM.keep hB hlt
   have hrg:=hMW.at j hlj hm
   have hst:=qzu (m:=m) hlj hm
   obtain⟨D,hD⟩:∃D,D=qa6 (ms.take j) m:=⟨_,rfl⟩
   rw[←hD] at hown hst hdl hv
   obtain⟨dl,hdl0⟩:∃dl,Hid (dl=D.length):=⟨_,rfl⟩
   rw[←hdl0.out] at hown hdl hv
   subst hv
   by_cases hom:o=m
   ·rw[if_pos hom,List.append_nil] at hst
    have HS:Hid (qa6 (ms.take (j+1)) m=D):=hst
    have dz:(!(o==m))=false:=by simp[hom]
    clear hst hom hD
    go_wp2_with (first|((with_reducible refine qaa (.indexAddr 37 (.tmp 8) (.tmp 10)) rfl ?_);refine qb5 rfl (.tmp 8) (.tmp 10) rfl (.slice a0 n cap) ms hMW rfl j rfl hlj ?_)|((with_reducible refine gL 46 12 ?_);refine wpList_load_mid rfl 46 (.tmp 12) rfl _ _ rfl (mcl o) _ hrg underlying46 rfl (qby o) ?_;rw[qc2])|((with_reducible refine gA 46 ?_);refine ax 7 46 qa4 ?_;intro b7 w3 l7 R7 hb3;have n37:=R3.ne l7;have n7:=qs6 hown l7;replace l7:=Nat.le_trans hB.size l7;replace hown:=qrb hown hb3;replace R3:=R3.below hb3;replace hB:=hB.trans (hb3.mono hB.size))|((with_reducible refine gS 46 7 13 ?_);refine sx 46 (.tmp 7) _ (mc o) R7 ?_;intro w4 R7 t4;replace R3:=t4.row R3 n37;replace hown:=qpt hown t4 n7;replace hB:=t4.below _ _ l7 hB)|((with_reducible refine gL 46 7 ?_);refine lx 46 (.tmp 7) (mc o) R7 ?_)|((with_reducible refine gL 46 3 ?_);refine lx 46 (.tmp 3) (mc m) R3 ?_)|((with_reducible refine qaa (.binOp .neq 46 (.tmp 14) (.tmp 15) 46) rfl ?_);refine qk0 46 (.tmp 14) (.tmp 15) rfl rfl (mc o) (mc m) rfl rfl eqGuardType46 _ _ (qkb o m _) dz ?_))
    go_roundw
    case rel=>
     first
      | exact⟨j+1,ao,cv,by omega,by go_num,by rw[HS.out,←hdl0.out],by rw[HS.out,←hdl0.out];exact hown,hn3,hB,R3⟩
      | ((repeat apply Exists.intro);exact⟨⟨j+1,ao,cv,by omega,by go_num,by rw[HS.out,←hdl0.out],by rw[HS.out,←hdl0.out];exact hown,hn3,hB,R3⟩,rfl⟩)
    case measure=>(first|rw[hjw]|skip);exact qek (HN.out.symm▸hlj)
   ·rw[if_neg hom] at hst
    have HS:Hid (qa6 (ms.take (j+1)) m=D++[o]):=hst
    have dz:(!(o==m))=true:=by simp[hom]
    clear hst hom hD
    go_wp2_with (first|((with_reducible refine qaa (.indexAddr 37 (.tmp 8) (.tmp 10)) rfl ?_);refine qb5 rfl (.tmp 8) (.tmp 10) rfl (.slice a0 n cap) ms hMW rfl j rfl hlj ?_)|((with_reducible refine gL 46 12 ?_);refine wpList_load_mid rfl 46 (.tmp 12) rfl _ _ rfl (mcl o) _ hrg underlying46 rfl (qby o) ?_;rw[qc2])|((with_reducible refine gA 46 ?_);refine ax 7 46 qa4 ?_;intro b7 w3 l7 R7 hb3;have n37:=R3.ne l7;have n7:=qs6 hown l7;replace l7:=Nat.le_trans hB.size l7;replace hown:=qrb hown hb3;replace R3:=R3.below hb3;replace hB:=hB.trans (hb3.mono hB.size))|((with_reducible refine gS 46 7 13 ?_);refine sx 46 (.tmp 7) _ (mc o) R7 ?_;intro w4 R7 t4;replace R3:=t4.row R3 n37;replace hown:=qpt hown t4 n7;replace hB:=t4.below _ _ l7 hB)|((with_reducible refine gL 46 7 ?_);refine lx 46 (.tmp 7) (mc o) R7 ?_)|((with_reducible refine gL 46 3 ?_);refine lx 46 (.tmp 3) (mc m) R3 ?_)|((with_reducible refine qaa (.binOp .neq 46 (.tmp 14) (.tmp 15) 46) rfl ?_);refine qk0 46 (.tmp 14) (.tmp 15) rfl rfl (mc o) (mc m) rfl rfl eqGuardType46 _ _ (qkb o m _) dz ?_)|((with_reducible refine q5i ?_);refine qkl rfl (.tmp 18) rfl o rfl ?_)|((with_reducible refine qaa (.call { callee:=.builtin .append,args:=#[.tmp 17,.tmp 19],argTypes:=#[37,37] }) rfl ?_);refine wpList_append_own_at _ rfl (.tmp 17) (.tmp 19) 37 rfl w.heap.size 46 i0 (.agg (mc noM)) 5 40 underlying37 hi hz0 hz1 hz2 rfl (by decide) (.slice ao dl cv) dl (flat D) kr (hown.alloc _) ⟨_,0,none⟩ 1 1 (mcl o) rfl rfl (qql _ _ _) (qmp o) (by unfold maxLen;omega) om (by have:=hB.size;simp;omega) ?_;intro v4 w8 hown4 hg4 hn4 hloc;clear hn4;have hR3:=R3.alloc (.cells (mc o) 46);replace R3:=q0k hR3 hn3 hg4;have hn4:v4.ownBlock≠some b3:=(by rcases hloc with h|h;(rw[h];exact hn3);(rw[h];intro h2;have:=hR3.lt;have:=Option.some.inj h2;omega));clear hloc;replace hB:=qhq (hown.alloc _) (hB.alloc hB.size _) (by have:=hB.size;simp;omega) hg4;obtain⟨a4,c4,rfl⟩:=qkx hown4))
    go_roundw
    case rel=>
     have hf:flat (D++[o])=flat D++mcl o:=by rw[qvh,qtx]
     have hl2:(D++[o]).length=dl+1:=by rw[List.length_append,←hdl0.out];rfl
     first
      | exact⟨j+1,a4,c4,by omega,by go_num,by rw[HS.out,hl2],by rw[HS.out,hl2,hf];exact hown4,hn4,hB,R3⟩
      | ((repeat apply Exists.intro);exact⟨⟨j+1,a4,c4,by omega,by go_num,by rw[HS.out,hl2],by rw[HS.out,hl2,hf];exact hown4,hn4,hB,R3⟩,rfl⟩)
    case measure=>(first|rw[hjw]|skip);exact qek (HN.out.symm▸hlj)
  ·have e:j=ms.length:=by omega
   have hjn:(n:Int)<=(j:Int):=by have:=HN.out;omega
   rw[e,List.take_length] at hown hv
   have hf:=qqm hown (by have:=hdl;rw[e,List.take_length] at this;omega)
   clear e hj hlj hown hdl
   subst hv
   go_wp2
   go_ret
   exact⟨_,rfl,hf.1,hf.2.1,hf.2.2,hB⟩
theorem qml{f h:Nat->Int}{l:List Mp}{m:Mp}(hall:∀o∈l,qdb f h o)(hs:qdb f h m):qfr l (plA m) (plB m)=l.any (fun o=>qa7 o==qa7 m):=by
 have hin:∀o,qdb f h o->inP o=true:=fun o x=>by unfold inP;exact decide_eq_true ⟨x.2.2.2.1,x.2.2.2.2.1⟩
 rw[Bool.eq_iff_iff]
 unfold qfr
 simp only[List.any_eq_true]
 constructor
 ·rintro⟨o,ho,h1⟩
  refine⟨o,ho,?_⟩
  have x:=hall o ho
  rw[hin o x] at h1
  unfold plA plB at h1
  rw[hin o x,hin m hs] at h1
  simp at h1
  have:=(qrg x.2.2.2.2.1 x.2.2.2.1 hs.2.2.2.2.1 hs.2.2.2.1).2 h1
  simp[qa7,this]
 ·rintro⟨o,ho,h1⟩
  refine⟨o,ho,?_⟩
  have x:=hall o ho
  have h2:qa7 o=qa7 m:=by simpa using h1
  have:=(qrg x.2.2.2.2.1 x.2.2.2.1 hs.2.2.2.2.1 hs.2.2.2.1).1 h2
  rw[hin o x]
  unfold plA plB
  rw[hin o x,hin m hs]
  simp[this]
theorem qqd{ms:List Mp}{m o:Mp}(h:o∈qa6 ms m):o∈ms:=(List.mem_filter.1 h).1
def qdx(f:Nat->Int)(m:Mp):Nat->Int:=upd f (qa7 m) 0
def qux(f h:Nat->Int)(m:Mp):Nat->Int:=if (qbk (qdx f m) m.2.1).length=0 then upd h m.2.1.toNat 0 else h
theorem qqx{f h:Nat->Int}{ms:List Mp}{m:Mp}(G:qbq f h ms)(hs:qdb f h m)(g:Nat->Bool):qgh f g m.2.1 (plA m) (plB m)=.tuple #[plv (qdx f m) g,.int .i64 0]:=by
 have hin:inP m=true:=by unfold inP;exact decide_eq_true ⟨hs.2.2.2.1,hs.2.2.2.2.1⟩
 have ha:plA m=((m.2.2.2.1.toNat:Nat):Int):=by unfold plA;rw[if_pos hin];have:=hs.2.2.2.2.1;omega
 have hb:plB m=((((m.2.2.2.2-1024)/8).toNat:Nat):Int):=by unfold plB;rw[if_pos hin];have:=hs.2.2.2.1;omega
 have e0:=qno (f:=f) (s:=m.2.1) (a:=m.2.2.2.1.toNat) (k:=((m.2.2.2.2-1024)/8).toNat) G.pool (by have:=hs.2.2.2.2.1;omega) (by have:=hs.2.2.2.1;omega) (qed hs.2.1.1 hs.2.1.2) hs.2.2.2.2.2.2
 unfold qgh que
 rw[ha,hb,e0,if_pos rfl,Int.toNat_natCast,Int.toNat_natCast]
 rfl
theorem qh1{ops:Array Oper}{rest:List Oper}{o:Oper}{a:Act}{w:World}{Q:Exit->Act->World->Prop}{t:TypeId}{b:Nat}{cs:Array Value}(R:Row t w b cs)(hgd:o.guard=none)(x y:Operand)(ho:o.op=.store 37 x y)(f:Nat)(hx:a.eval x=.pointer (some ⟨b,f,none⟩))(p:Option Addr)(n c:Nat)(hy:a.eval y=.slice p n c)(old:Value)(hc:cs[f]?=some old)(ds:Array Value)(hd:cs.setIfInBounds f (.slice p n c)=ds)(hr:∀w',Row t w' b ds->qbl b w w'->wpList prog ops Q rest (a.put o.dst undef) w'):wpList prog ops Q (o::rest) a w:=
 wpList_plain hgd fun K hK=>by
  have hcell:=(R.cell f).trans hc
  have hfr:=R.free f
  unfold Oper.wp execOp
  simp only[ho,hx,hy]
  simp[go_sem,hcell,hfr,underlying37]
  exact hK _ _ (hr _ (hd▸R.set) (qfx _ _ _ _))
attribute [local irreducible] tc pc
theorem sZxd62{p:Prop}(h:p:=by
 have h1:=qnu (qqg G.maps) hm
 have h2:=HN.out
 have:(ln:Int)≠(n:Int):=by omega
 simpa using this):p:=h
theorem q67(f:Nat->Int)(g:Nat->Bool)(h:Nat->Int)(sl:Value)(ms:List Mp)(m:Mp)(hwH:wfH h)(w:World)(hM:qaz w sl ms)(G:qbq f h ms)(hm:m∈ms)(ha:(qa6 ms m).any (fun o=>qa7 o==qa7 m)=true):
  Calls prog 153 #[.agg (tc f g h sl),.agg (mc m)] w fun e w'=>∃v,e=.returned (.tuple #[.agg (tc f g h v),.bool false,.int .i64 0])/\qaz w' v (qa6 ms m)/\qcs v/\(0<(qa6 ms m).length->w.heap.size<=mb v)/\Below w.heap.size w w':=by
 have hB:=Below.refl w.heap.size w
 have hM0:=hM
 obtain⟨a0,cap,hsl,-⟩:=hM0
 obtain⟨n,hn⟩:∃n,n=ms.length:=⟨_,rfl⟩
 rw[←hn] at hsl
 subst hsl
 have HN:Hid (n=ms.length):=hn
 clear hn
 have hlt:=hM.lt
 obtain⟨ln,hln⟩:∃ln,ln=(qa6 ms m).length:=⟨_,rfl⟩
 have HL:Hid (ln=(qa6 ms m).length):=hln
 have HG:Hid (qbq f h ms):=G
 have hlne:((ln:Int)==(n:Int))=false:=by
  exact sZxd62
 have hst:=G.maps.1 m hm
 have hin:inP m=true:=by unfold inP;exact decide_eq_true ⟨hst.2.2.2.1,hst.2.2.2.2.1⟩
 have CG:=fun w hM=>qf8 f g h (.slice a0 n cap) ms hwH w hM
 have CW:=fun w hM=>qmn (.slice a0 n cap) ms m w hM (Nat.le_trans G.len (by decide))
 have CPl:=fun w=>qgp m w
 simp only[hin] at CPl
 have CA:=fun sl w hM=>qoa sl (qa6 ms m) (plA m) (plB m) w hM
 rw[qml (fun o ho=>G.maps.1 o (qqd ho)) hst,ha] at CA
 clear hln G hm ha hst hin
 go_enter func153,ntmps153
 go_wp2_with (first|((with_reducible refine gB 39 0 ?_);refine bx 39 (.tmp 0) _ ?_;intro b2 w1 l2 R2 hb1;replace hB:=hB.trans (hb1.mono hB.size))|((with_reducible refine gB 46 1 ?_);refine bx 46 (.tmp 1) (mc m) ?_;intro b3 w1 l3 R3 hb1;replace R2:=R2.below hb1;replace hB:=hB.trans (hb1.mono hB.size))|((with_reducible refine gA 39 ?_);refine ax 4 39 qb8 ?_;intro b4 w2 l4 R4 hb2;have n24:=R2.ne l4;have n34:=R3.ne l4;replace l4:=Nat.le_trans hB.size l4;replace R2:=R2.below hb2;replace R3:=R3.below hb2;replace hB:=hB.trans (hb2.mono hB.size))|((with_reducible refine gL 39 2 ?_);refine lx 39 (.tmp 2) (tc f g h (.slice a0 n cap)) R2 ?_)|(go_at_call 21;go_fit (CG _ (hM.keep hB hlt));rintro e w5 ⟨r,hr,rfl,hb5⟩;obtain rfl:r=true:=(hr.2 HG.out);clear hr;replace R2:=R2.below hb5;replace R3:=R3.below hb5;replace R4:=R4.below hb5;replace hB:=hB.trans (hb5.mono hB.size);have cM:World.cell? _ ⟨b2,29,none⟩=some (.slice a0 n cap):=(R2.cell 29).trans (qdw _ _ _ _))|((with_reducible refine gL 46 3 ?_);refine lx 46 (.tmp 3) (mc m) R3 ?_)|(go_at_call 179;go_fit (CW _ (hM.keep hB hlt));rintro e w6 ⟨v,rfl,hMv,hNv,hbv,hb6⟩;clear cM;have x4:0<(qa6 ms m).length->mb v≠b4:=(fun hl=>Nat.ne_of_gt (Nat.lt_of_lt_of_le R4.lt (hbv hl)));replace hbv:0<(qa6 ms m).length->w.heap.size<=mb v:=(fun hl=>Nat.le_trans hB.size (hbv hl));replace R2:=R2.below hb6;replace R3:=R3.below hb6;replace R4:=R4.below hb6;replace hB:=hB.trans (hb6.mono hB.size);(obtain⟨av,cv,hv,-⟩:=id hMv);rw[←HL.out] at hv;subst hv;have cM:World.cell? _ ⟨b2,29,none⟩=some (.slice a0 n cap):=(R2.cell 29).trans (qdw _ _ _ _))|(go_at_call 55;go_fit (CPl _);rintro e w7 ⟨rfl,hb7⟩;clear cM;replace R2:=R2.below hb7;replace R3:=R3.below hb7;replace R4:=R4.below hb7;replace hMv:=hMv.below hb7;replace hB:=hB.trans (hb7.mono hB.size))|((with_reducible refine gA 97 ?_);refine ax 8 97 qcn ?_;intro b8 w8 l8 R8 hb8;have n28:=R2.ne l8;have n38:=R3.ne l8;have n48:=R4.ne l8;have x8:=hMv.away3 l8;replace l8:=Nat.le_trans hB.size l8;replace R2:=R2.below hb8;replace R3:=R3.below hb8;replace R4:=R4.below hb8;replace hMv:=hMv.below hb8;replace hB:=hB.trans (hb8.mono hB.size))|((with_reducible refine gS 97 8 29 ?_);refine sx 97 (.tmp 8) _ (ic2 (plA m) (plB m)) R8 ?_;intro w9 R8 t9;replace R2:=t9.row R2 n28;replace R3:=t9.row R3 n38;replace R4:=t9.row R4 n48;replace hMv:=qcl hMv x8 t9;replace hB:=t9.below _ _ l8 hB)|((with_reducible refine gA 39 ?_);refine ax 10 39 qb8 ?_;intro b10 w10 l10 R10 hb10;have n210:=R2.ne l10;have n310:=R3.ne l10;have n410:=R4.ne l10;have n810:=R8.ne l10;have x10:=hMv.away3 l10;replace l10:=Nat.le_trans hB.size l10;replace R2:=R2.below hb10;replace R3:=R3.below hb10;replace R4:=R4.below hb10;replace R8:=R8.below hb10;replace hMv:=hMv.below hb10;replace hB:=hB.trans (hb10.mono hB.size))|((with_reducible refine gS 39 10 31 ?_);refine qab 39 rfl (.tmp 10) _ rfl b10 rfl (tc f g h (.slice a0 n cap)) rfl _ R10 (qen _ _ _ _ _ _ _ _) (qaq _ _ _ _) (qbm _ _ _ _ _ _) ?_;intro w11 R10 t11;replace R2:=t11.row R2 n210;replace R3:=t11.row R3 n310;replace R4:=t11.row R4 n410;replace R8:=t11.row R8 n810;replace hMv:=qcl hMv x10 t11;replace hB:=t11.below _ _ l10 hB)|((with_reducible refine gS 37 33 32 ?_);refine qh1 R10 rfl _ _ rfl 29 rfl _ _ _ rfl _ (qdw _ _ _ _) (tc f g h (.slice av ln cv)) (qm0 _ _ _ _ _) ?_;intro w12 R10 t12;replace R2:=t12.row R2 n210;replace R3:=t12.row R3 n310;replace R4:=t12.row R4 n410;replace R8:=t12.row R8 n810;replace hMv:=qcl hMv x10 t12;replace hB:=t12.below _ _ l10 hB)|((with_reducible refine gL 97 8 ?_);refine lx 97 (.tmp 8) (ic2 (plA m) (plB m)) R8 ?_)|(go_at_call 180;go_fit (CA _ _ hMv);rintro e w13 ⟨rfl,hb13⟩;replace R2:=R2.below hb13;replace R3:=R3.below hb13;replace R4:=R4.below hb13;replace R8:=R8.below hb13;replace R10:=R10.below hb13;replace hMv:=hMv.below hb13;replace hB:=hB.trans (hb13.mono hB.size) )|((with_reducible refine gL 39 10 ?_);refine lx 39 (.tmp 10) (tc f g h (.slice av ln cv)) R10 ?_)|((with_reducible refine gS 39 4 37 ?_);refine qab 39 rfl (.tmp 4) _ rfl b4 rfl (tc f g h (.slice av ln cv)) rfl _ R4 (qen _ _ _ _ _ _ _ _) (qaq _ _ _ _) (qbm _ _ _ _ _ _) ?_;intro w14 R4 t14;replace hMv:=qcl hMv x4 t14;replace hB:=t14.below _ _ l4 hB))
 ((try simp only[Exit.inBlock,Exit.then]);refine bodyPost_ret (qlv (p:=4) (u:=5) (v:=6) rfl _ _ _ _ rfl R4 _ underlying39 rfl (qaq _ _ _ _)) rfl ⟨_,rfl,hMv,hNv,hbv,hB⟩)
theorem qzw(f:Nat->Int)(g:Nat->Bool)(h:Nat->Int)(sl:Value)(ms:List Mp)(m:Mp)(hwH:wfH h)(w:World)(hM:qaz w sl ms)(G:qbq f h ms)(hm:m∈ms)(ha:(qa6 ms m).any (fun o=>qa7 o==qa7 m)=false)(hz:(qbk (qdx f m) m.2.1).length=0):
  Calls prog 153 #[.agg (tc f g h sl),.agg (mc m)] w fun e w'=>∃v,e=.returned (.tuple #[.agg (tc (qdx f m) g (upd h m.2.1.toNat 0) v),.bool true,.int .i64 0])/\qaz w' v (qa6 ms m)/\qcs v/\(0<(qa6 ms m).length->w.heap.size<=mb v)/\Below w.heap.size w w':=by
 have hB:=Below.refl w.heap.size w
 have hM0:=hM
 obtain⟨a0,cap,hsl,-⟩:=hM0
 obtain⟨n,hn⟩:∃n,n=ms.length:=⟨_,rfl⟩
 rw[←hn] at hsl
 subst hsl
 have HN:Hid (n=ms.length):=hn
 clear hn
 have hlt:=hM.lt
 obtain⟨ln,hln⟩:∃ln,ln=(qa6 ms m).length:=⟨_,rfl⟩
 have HL:Hid (ln=(qa6 ms m).length):=hln
 have HG:Hid (qbq f h ms):=G
 have hlne:((ln:Int)==(n:Int))=false:=by
  exact sZxd62
 have hst:=G.maps.1 m hm
 have hin:inP m=true:=by unfold inP;exact decide_eq_true ⟨hst.2.2.2.1,hst.2.2.2.2.1⟩
 have CG:=fun w hM=>qf8 f g h (.slice a0 n cap) ms hwH w hM
 have CW:=fun w hM=>qmn (.slice a0 n cap) ms m w hM (Nat.le_trans G.len (by decide))
 have CPl:=fun w=>qgp m w
 simp only[hin] at CPl
 have CA:=fun sl w hM=>qoa sl (qa6 ms m) (plA m) (plB m) w hM
 rw[qml (fun o ho=>G.maps.1 o (qqd ho)) hst,ha] at CA
 have CGi:=fun w=>quv f g m.2.1 (plA m) (plB m) w
 rw[qqx G hst] at CGi
 have CB:=fun av w=>qiq (qdx f m) g h av m.2.1 hst.2.1.1 hst.2.1.2 w
 have hs8n:m.2.1.toNat<8:=by have:=hst.2.1;omega
 have hs0:0<=m.2.1:=hst.2.1.1
 have hs8:m.2.1<8:=hst.2.1.2
 rw[hz] at CB
 clear hln G hm ha hst hin hz
 go_enter func153,ntmps153
 go_wp2_with (first|((with_reducible refine gB 39 0 ?_);refine bx 39 (.tmp 0) _ ?_;intro b2 w1 l2 R2 hb1;replace hB:=hB.trans (hb1.mono hB.size))|((with_reducible refine gB 46 1 ?_);refine bx 46 (.tmp 1) (mc m) ?_;intro b3 w1 l3 R3 hb1;replace R2:=R2.below hb1;replace hB:=hB.trans (hb1.mono hB.size))|((with_reducible refine gA 39 ?_);refine ax 4 39 qb8 ?_;intro b4 w2 l4 R4 hb2;have n24:=R2.ne l4;have n34:=R3.ne l4;replace l4:=Nat.le_trans hB.size l4;replace R2:=R2.below hb2;replace R3:=R3.below hb2;replace hB:=hB.trans (hb2.mono hB.size))|((with_reducible refine gL 39 2 ?_);refine lx 39 (.tmp 2) (tc f g h (.slice a0 n cap)) R2 ?_)|(go_at_call 21;go_fit (CG _ (hM.keep hB hlt));rintro e w5 ⟨r,hr,rfl,hb5⟩;obtain rfl:r=true:=(hr.2 HG.out);clear hr;replace R2:=R2.below hb5;replace R3:=R3.below hb5;replace R4:=R4.below hb5;replace hB:=hB.trans (hb5.mono hB.size);have cM:World.cell? _ ⟨b2,29,none⟩=some (.slice a0 n cap):=(R2.cell 29).trans (qdw _ _ _ _))|((with_reducible refine gL 46 3 ?_);refine lx 46 (.tmp 3) (mc m) R3 ?_)|(go_at_call 179;go_fit (CW _ (hM.keep hB hlt));rintro e w6 ⟨v,rfl,hMv,hNv,hbv,hb6⟩;clear cM;have x4:0<(qa6 ms m).length->mb v≠b4:=(fun hl=>Nat.ne_of_gt (Nat.lt_of_lt_of_le R4.lt (hbv hl)));replace hbv:0<(qa6 ms m).length->w.heap.size<=mb v:=(fun hl=>Nat.le_trans hB.size (hbv hl));replace R2:=R2.below hb6;replace R3:=R3.below hb6;replace R4:=R4.below hb6;replace hB:=hB.trans (hb6.mono hB.size);(obtain⟨av,cv,hv,-⟩:=id hMv);rw[←HL.out] at hv;subst hv;have cM:World.cell? _ ⟨b2,29,none⟩=some (.slice a0 n cap):=(R2.cell 29).trans (qdw _ _ _ _))|(go_at_call 55;go_fit (CPl _);rintro e w7 ⟨rfl,hb7⟩;clear cM;replace R2:=R2.below hb7;replace R3:=R3.below hb7;replace R4:=R4.below hb7;replace hMv:=hMv.below hb7;replace hB:=hB.trans (hb7.mono hB.size))|((with_reducible refine gA 97 ?_);refine ax 8 97 qcn ?_;intro b8 w8 l8 R8 hb8;have n28:=R2.ne l8;have n38:=R3.ne l8;have n48:=R4.ne l8;have x8:=hMv.away3 l8;replace l8:=Nat.le_trans hB.size l8;replace R2:=R2.below hb8;replace R3:=R3.below hb8;replace R4:=R4.below hb8;replace hMv:=hMv.below hb8;replace hB:=hB.trans (hb8.mono hB.size))|((with_reducible refine gS 97 8 29 ?_);refine sx 97 (.tmp 8) _ (ic2 (plA m) (plB m)) R8 ?_;intro w9 R8 t9;replace R2:=t9.row R2 n28;replace R3:=t9.row R3 n38;replace R4:=t9.row R4 n48;replace hMv:=qcl hMv x8 t9;replace hB:=t9.below _ _ l8 hB)|((with_reducible refine gA 39 ?_);refine ax 10 39 qb8 ?_;intro b10 w10 l10 R10 hb10;have n210:=R2.ne l10;have n310:=R3.ne l10;have n410:=R4.ne l10;have n810:=R8.ne l10;have x10:=hMv.away3 l10;replace l10:=Nat.le_trans hB.size l10;replace R2:=R2.below hb10;replace R3:=R3.below hb10;replace R4:=R4.below hb10;replace R8:=R8.below hb10;replace hMv:=hMv.below hb10;replace hB:=hB.trans (hb10.mono hB.size))|((with_reducible refine gS 39 10 31 ?_);refine qab 39 rfl (.tmp 10) _ rfl b10 rfl (tc f g h (.slice a0 n cap)) rfl _ R10 (qen _ _ _ _ _ _ _ _) (qaq _ _ _ _) (qbm _ _ _ _ _ _) ?_;intro w11 R10 t11;replace R2:=t11.row R2 n210;replace R3:=t11.row R3 n310;replace R4:=t11.row R4 n410;replace R8:=t11.row R8 n810;replace hMv:=qcl hMv x10 t11;replace hB:=t11.below _ _ l10 hB)|((with_reducible refine gS 37 33 32 ?_);refine qh1 R10 rfl _ _ rfl 29 rfl _ _ _ rfl _ (qdw _ _ _ _) (tc f g h (.slice av ln cv)) (qm0 _ _ _ _ _) ?_;intro w12 R10 t12;replace R2:=t12.row R2 n210;replace R3:=t12.row R3 n310;replace R4:=t12.row R4 n410;replace R8:=t12.row R8 n810;replace hMv:=qcl hMv x10 t12;replace hB:=t12.below _ _ l10 hB)|((with_reducible refine gL 97 8 ?_);refine lx 97 (.tmp 8) (ic2 (plA m) (plB m)) R8 ?_)|(go_at_call 180;go_fit (CA _ _ hMv);rintro e w13 ⟨rfl,hb13⟩;replace R2:=R2.below hb13;replace R3:=R3.below hb13;replace R4:=R4.below hb13;replace R8:=R8.below hb13;replace R10:=R10.below hb13;replace hMv:=hMv.below hb13;replace hB:=hB.trans (hb13.mono hB.size);have c31:=m1 R3;have c80:=p0B R8;have c81:=p1 R8;have hrp:=R2.pool)|((with_reducible refine gL 35 39 ?_);refine wpList_load_mid rfl 35 (.tmp 39) rfl b2 0 rfl (pc f g).toList _ hrp underlying35 rfl (by simpa using qfg f g) ?_;(try simp only[Array.toArray_toList]))|(go_at_call 181;go_fit (CGi _);rintro e w15 ⟨rfl,hb15⟩;clear c31 c80 c81 hrp;replace R2:=R2.below hb15;replace R3:=R3.below hb15;replace R4:=R4.below hb15;replace R8:=R8.below hb15;replace R10:=R10.below hb15;replace hMv:=hMv.below hb15;replace hB:=hB.trans (hb15.mono hB.size))|((with_reducible refine gS 35 50 48 ?_);refine qkk rfl (.tmp 50) (.tmp 48) rfl b10 rfl (qdx f m) g rfl f g h (.slice av ln cv) R10 ?_;intro w16 R10 t16;replace R3:=t16.row R3 n310;replace R4:=t16.row R4 n410;replace hMv:=qcl hMv x10 t16;replace hB:=t16.below _ _ l10 hB;have c31:=m1 R3)|(go_at_call 86;go_fit (CB _ _);rintro e w17 ⟨vb,rfl,⟨ab,cb,rfl⟩,hpl,hb17⟩;clear hpl c31;replace R3:=R3.below hb17;replace R4:=R4.below hb17;replace R10:=R10.below hb17;replace hMv:=hMv.below hb17;replace hB:=hB.trans (hb17.mono hB.size);have c31:=m1 R3)|((with_reducible refine qaa (.store 3 (.tmp 60) (.const (.int .i64 0))) rfl ?_);refine qbb R10 rfl _ _ rfl (21+m.2.1.toNat) rfl _ rfl _ (qhc _ _ _ _ _ hs8n) (tc (qdx f m) g (upd h m.2.1.toNat 0) (.slice av ln cv)) (qsk _ _ _ _ _ _ hs8n) ?_;intro w18 R10 t18;clear c31;replace R4:=t18.row R4 n410;replace hMv:=qcl hMv x10 t18;replace hB:=t18.below _ _ l10 hB)|((with_reducible refine gL 39 10 ?_);first|refine lx 39 (.tmp 10) (tc (qdx f m) g (upd h m.2.1.toNat 0) (.slice av ln cv)) R10 ?_|refine lx 39 (.tmp 10) (tc (qdx f m) g h (.slice av ln cv)) R10 ?_)|((with_reducible refine gS 39 4 61 ?_);refine qab 39 rfl (.tmp 4) _ rfl b4 rfl (tc (qdx f m) g (upd h m.2.1.toNat 0) (.slice av ln cv)) rfl _ R4 (qen _ _ _ _ _ _ _ _) (qaq _ _ _ _) (qbm _ _ _ _ _ _) ?_;intro w19 R4 t19;replace hMv:=qcl hMv x4 t19;replace hB:=t19.below _ _ l4 hB))
 ((try simp only[Exit.inBlock,Exit.then]);refine bodyPost_ret (qlv (p:=4) (u:=5) (v:=6) rfl _ _ _ _ rfl R4 _ underlying39 rfl (qaq _ _ _ _)) rfl ⟨_,rfl,hMv,hNv,hbv,hB⟩)
theorem qy2(f:Nat->Int)(g:Nat->Bool)(h:Nat->Int)(sl:Value)(ms:List Mp)(m:Mp)(hwH:wfH h)(w:World)(hM:qaz w sl ms)(G:qbq f h ms)(hm:m∈ms)(ha:(qa6 ms m).any (fun o=>qa7 o==qa7 m)=false)(hz:(qbk (qdx f m) m.2.1).length≠0):
  Calls prog 153 #[.agg (tc f g h sl),.agg (mc m)] w fun e w'=>∃v,e=.returned (.tuple #[.agg (tc (qdx f m) g h v),.bool true,.int .i64 0])/\qaz w' v (qa6 ms m)/\qcs v/\(0<(qa6 ms m).length->w.heap.size<=mb v)/\Below w.heap.size w w':=by
 have hB:=Below.refl w.heap.size w
 have hM0:=hM
 obtain⟨a0,cap,hsl,-⟩:=hM0
 obtain⟨n,hn⟩:∃n,n=ms.length:=⟨_,rfl⟩
 rw[←hn] at hsl
 subst hsl
 have HN:Hid (n=ms.length):=hn
 clear hn
 have hlt:=hM.lt
 obtain⟨ln,hln⟩:∃ln,ln=(qa6 ms m).length:=⟨_,rfl⟩
 have HL:Hid (ln=(qa6 ms m).length):=hln
 have HG:Hid (qbq f h ms):=G
 have hlne:((ln:Int)==(n:Int))=false:=by
  exact sZxd62
 have hst:=G.maps.1 m hm
 have hin:inP m=true:=by unfold inP;exact decide_eq_true ⟨hst.2.2.2.1,hst.2.2.2.2.1⟩
 have CG:=fun w hM=>qf8 f g h (.slice a0 n cap) ms hwH w hM
 have CW:=fun w hM=>qmn (.slice a0 n cap) ms m w hM (Nat.le_trans G.len (by decide))
 have CPl:=fun w=>qgp m w
 simp only[hin] at CPl
 have CA:=fun sl w hM=>qoa sl (qa6 ms m) (plA m) (plB m) w hM
 rw[qml (fun o ho=>G.maps.1 o (qqd ho)) hst,ha] at CA
 have CGi:=fun w=>quv f g m.2.1 (plA m) (plB m) w
 rw[qqx G hst] at CGi
 have CB:=fun av w=>qiq (qdx f m) g h av m.2.1 hst.2.1.1 hst.2.1.2 w
 have hs8n:m.2.1.toNat<8:=by have:=hst.2.1;omega
 have hs0:0<=m.2.1:=hst.2.1.1
 have hs8:m.2.1<8:=hst.2.1.2
 obtain⟨lb,hlb⟩:∃lb,lb=(qbk (qdx f m) m.2.1).length:=⟨_,rfl⟩
 rw[←hlb] at CB hz
 have dz:((lb:Int)==0)=false:=by simpa using hz
 clear hln G hm ha hst hin hz hlb
 go_enter func153,ntmps153
 go_wp2_with (first|((with_reducible refine gB 39 0 ?_);refine bx 39 (.tmp 0) _ ?_;intro b2 w1 l2 R2 hb1;replace hB:=hB.trans (hb1.mono hB.size))|((with_reducible refine gB 46 1 ?_);refine bx 46 (.tmp 1) (mc m) ?_;intro b3 w1 l3 R3 hb1;replace R2:=R2.below hb1;replace hB:=hB.trans (hb1.mono hB.size))|((with_reducible refine gA 39 ?_);refine ax 4 39 qb8 ?_;intro b4 w2 l4 R4 hb2;have n24:=R2.ne l4;have n34:=R3.ne l4;replace l4:=Nat.le_trans hB.size l4;replace R2:=R2.below hb2;replace R3:=R3.below hb2;replace hB:=hB.trans (hb2.mono hB.size))|((with_reducible refine gL 39 2 ?_);refine lx 39 (.tmp 2) (tc f g h (.slice a0 n cap)) R2 ?_)|(go_at_call 21;go_fit (CG _ (hM.keep hB hlt));rintro e w5 ⟨r,hr,rfl,hb5⟩;obtain rfl:r=true:=(hr.2 HG.out);clear hr;replace R2:=R2.below hb5;replace R3:=R3.below hb5;replace R4:=R4.below hb5;replace hB:=hB.trans (hb5.mono hB.size);have cM:World.cell? _ ⟨b2,29,none⟩=some (.slice a0 n cap):=(R2.cell 29).trans (qdw _ _ _ _))|((with_reducible refine gL 46 3 ?_);refine lx 46 (.tmp 3) (mc m) R3 ?_)|(go_at_call 179;go_fit (CW _ (hM.keep hB hlt));rintro e w6 ⟨v,rfl,hMv,hNv,hbv,hb6⟩;clear cM;have x4:0<(qa6 ms m).length->mb v≠b4:=(fun hl=>Nat.ne_of_gt (Nat.lt_of_lt_of_le R4.lt (hbv hl)));replace hbv:0<(qa6 ms m).length->w.heap.size<=mb v:=(fun hl=>Nat.le_trans hB.size (hbv hl));replace R2:=R2.below hb6;replace R3:=R3.below hb6;replace R4:=R4.below hb6;replace hB:=hB.trans (hb6.mono hB.size);(obtain⟨av,cv,hv,-⟩:=id hMv);rw[←HL.out] at hv;subst hv;have cM:World.cell? _ ⟨b2,29,none⟩=some (.slice a0 n cap):=(R2.cell 29).trans (qdw _ _ _ _))|(go_at_call 55;go_fit (CPl _);rintro e w7 ⟨rfl,hb7⟩;clear cM;replace R2:=R2.below hb7;replace R3:=R3.below hb7;replace R4:=R4.below hb7;replace hMv:=hMv.below hb7;replace hB:=hB.trans (hb7.mono hB.size))|((with_reducible refine gA 97 ?_);refine ax 8 97 qcn ?_;intro b8 w8 l8 R8 hb8;have n28:=R2.ne l8;have n38:=R3.ne l8;have n48:=R4.ne l8;have x8:=hMv.away3 l8;replace l8:=Nat.le_trans hB.size l8;replace R2:=R2.below hb8;replace R3:=R3.below hb8;replace R4:=R4.below hb8;replace hMv:=hMv.below hb8;replace hB:=hB.trans (hb8.mono hB.size))|((with_reducible refine gS 97 8 29 ?_);refine sx 97 (.tmp 8) _ (ic2 (plA m) (plB m)) R8 ?_;intro w9 R8 t9;replace R2:=t9.row R2 n28;replace R3:=t9.row R3 n38;replace R4:=t9.row R4 n48;replace hMv:=qcl hMv x8 t9;replace hB:=t9.below _ _ l8 hB)|((with_reducible refine gA 39 ?_);refine ax 10 39 qb8 ?_;intro b10 w10 l10 R10 hb10;have n210:=R2.ne l10;have n310:=R3.ne l10;have n410:=R4.ne l10;have n810:=R8.ne l10;have x10:=hMv.away3 l10;replace l10:=Nat.le_trans hB.size l10;replace R2:=R2.below hb10;replace R3:=R3.below hb10;replace R4:=R4.below hb10;replace R8:=R8.below hb10;replace hMv:=hMv.below hb10;replace hB:=hB.trans (hb10.mono hB.size))|((with_reducible refine gS 39 10 31 ?_);refine qab 39 rfl (.tmp 10) _ rfl b10 rfl (tc f g h (.slice a0 n cap)) rfl _ R10 (qen _ _ _ _ _ _ _ _) (qaq _ _ _ _) (qbm _ _ _ _ _ _) ?_;intro w11 R10 t11;replace R2:=t11.row R2 n210;replace R3:=t11.row R3 n310;replace R4:=t11.row R4 n410;replace R8:=t11.row R8 n810;replace hMv:=qcl hMv x10 t11;replace hB:=t11.below _ _ l10 hB)|((with_reducible refine gS 37 33 32 ?_);refine qh1 R10 rfl _ _ rfl 29 rfl _ _ _ rfl _ (qdw _ _ _ _) (tc f g h (.slice av ln cv)) (qm0 _ _ _ _ _) ?_;intro w12 R10 t12;replace R2:=t12.row R2 n210;replace R3:=t12.row R3 n310;replace R4:=t12.row R4 n410;replace R8:=t12.row R8 n810;replace hMv:=qcl hMv x10 t12;replace hB:=t12.below _ _ l10 hB)|((with_reducible refine gL 97 8 ?_);refine lx 97 (.tmp 8) (ic2 (plA m) (plB m)) R8 ?_)|(go_at_call 180;go_fit (CA _ _ hMv);rintro e w13 ⟨rfl,hb13⟩;replace R2:=R2.below hb13;replace R3:=R3.below hb13;replace R4:=R4.below hb13;replace R8:=R8.below hb13;replace R10:=R10.below hb13;replace hMv:=hMv.below hb13;replace hB:=hB.trans (hb13.mono hB.size);have c31:=m1 R3;have c80:=p0B R8;have c81:=p1 R8;have hrp:=R2.pool)|((with_reducible refine gL 35 39 ?_);refine wpList_load_mid rfl 35 (.tmp 39) rfl b2 0 rfl (pc f g).toList _ hrp underlying35 rfl (by simpa using qfg f g) ?_;(try simp only[Array.toArray_toList]))|(go_at_call 181;go_fit (CGi _);rintro e w15 ⟨rfl,hb15⟩;clear c31 c80 c81 hrp;replace R2:=R2.below hb15;replace R3:=R3.below hb15;replace R4:=R4.below hb15;replace R8:=R8.below hb15;replace R10:=R10.below hb15;replace hMv:=hMv.below hb15;replace hB:=hB.trans (hb15.mono hB.size))|((with_reducible refine gS 35 50 48 ?_);refine qkk rfl (.tmp 50) (.tmp 48) rfl b10 rfl (qdx f m) g rfl f g h (.slice av ln cv) R10 ?_;intro w16 R10 t16;replace R3:=t16.row R3 n310;replace R4:=t16.row R4 n410;replace hMv:=qcl hMv x10 t16;replace hB:=t16.below _ _ l10 hB;have c31:=m1 R3)|(go_at_call 86;go_fit (CB _ _);rintro e w17 ⟨vb,rfl,⟨ab,cb,rfl⟩,hpl,hb17⟩;clear hpl c31;replace R3:=R3.below hb17;replace R4:=R4.below hb17;replace R10:=R10.below hb17;replace hMv:=hMv.below hb17;replace hB:=hB.trans (hb17.mono hB.size);have c31:=m1 R3)|((with_reducible refine gL 39 10 ?_);refine lx 39 (.tmp 10) (tc (qdx f m) g h (.slice av ln cv)) R10 ?_)|((with_reducible refine gS 39 4 61 ?_);refine qab 39 rfl (.tmp 4) _ rfl b4 rfl (tc (qdx f m) g h (.slice av ln cv)) rfl _ R4 (qen _ _ _ _ _ _ _ _) (qaq _ _ _ _) (qbm _ _ _ _ _ _) ?_;intro w19 R4 t19;replace hMv:=qcl hMv x4 t19;replace hB:=t19.below _ _ l4 hB))
 ((try simp only[Exit.inBlock,Exit.then]);refine bodyPost_ret (qlv (p:=4) (u:=5) (v:=6) rfl _ _ _ _ rfl R4 _ underlying39 rfl (qaq _ _ _ _)) rfl ⟨_,rfl,hMv,hNv,hbv,hB⟩)
end Go.Proofs.YtnicenfgemkdnaaGreatDoor
namespace Go.Proofs.YtnicenfgemkdnaaGreatDoor
open _root_.Go.Proofs.Tryz
set_option maxHeartbeats 16000000
set_option maxRecDepth 100000
open Go.ChangeShapes Go.WideShapes Go.ChangeAt Go.RowKit
theorem qry{ops:Array Oper}{S:World->Prop}{o:Oper}{a:Act}(t:TypeId)(x y:Operand)(ho:o.op=.binOp .neq t x y t)(hw:Region.wanted o (yielded ops a.tmps)=true)(xs ys:Array Value)(hx:a.eval x=.agg xs)(hy:a.eval y=.agg ys)(hg:prog.eqGuardType prog.depth t=false)(r q:Bool)(he:∀w:World,(Op.equalIn 10000 t (.agg xs) (.agg ys)).run prog w=.ok r w)(hq:(!r)=q):YieldsIf prog ops S o (.bool q) a:=
 .inl ⟨hw,fun w _=>by
  subst hq
  unfold execOp
  simp only[ho,hx,hy,Sem.run_bind,run_eqGuard_agg w .neq t x y xs ys hg,run_neq_struct,he w,Result.andThen_ok,Sem.run_pure]⟩
theorem qgw{ops:Array Oper}{S:World->Prop}{o:Oper}{a:Act}(t:TypeId)(x:Operand)(ho:o.op=.load t x)(hw:Region.wanted o (yielded ops a.tmps)=true)(b k:Nat)(hx:a.eval x=.pointer (some ⟨b,k,none⟩))(l:List Value)(hS:∀w,S w->w.rangeAt b k l)(d:TypeDesc)(hu:prog.underlying t=some d)(hd:d.isRow=true)(hi:(prog.info? t).map (·.size)=some l.length):YieldsIf prog ops S o (.agg l.toArray) a:=
 yieldsIf_load_mid (P:=prog) (S:=S) hw t x ho b k hx l d hS hu hd hi
theorem qi3{ops:Array Oper}{rest:List Oper}{o:Oper}{a:Act}{w:World}{Q:Exit->Act->World->Prop}(t:TypeId)(x:Operand)(ho:o.op=.load t x)(hw:Region.wanted o (yielded ops a.tmps)=true)(b k:Nat)(hx:a.eval x=.pointer (some ⟨b,k,none⟩))(l:List Value)(hc:w.rangeAt b k l)(d:TypeDesc)(hu:prog.underlying t=some d)(hd:d.isRow=true)(hi:(prog.info? t).map (·.size)=some l.length)(hr:wpList prog ops Q rest (a.put o.dst (.agg l.toArray)) w):wpList prog ops Q (o::rest) a w:=
 wpList_step fun K hK=>by
  rw[if_pos hw]
  exact wp_load_mid t x ho b k hx l d hc hu hd hi (hK _ _ hr)
structure Bd(w W:World)(L:List (Nat×TypeId×Array Value))(Ms:List (Value×List Mp)):Prop where
 nodup:(L.map (·.1)).Nodup
 rows:∀y∈L,Row y.2.1 W y.1 y.2.2/\w.heap.size<=y.1
 maps:∀q∈Ms,qaz W q.1 q.2/\∀b∈L.map (·.1),0<q.2.length->mb q.1≠b
 base:Below w.heap.size w W
section
variable {w W W':World} {L:List (Nat×TypeId×Array Value)} {Ms:List (Value×List Mp)}
theorem Bd.start(w:World):Bd w w [] []:=⟨by simp,by simp,by simp,Below.refl _ _⟩
theorem Bd.row(h:Bd w W L Ms)(i:Nat){b:Nat}{t:TypeId}{cs:Array Value}(hi:L[i]?=some (b,t,cs)):Row t W b cs:=(h.rows _ (List.mem_of_getElem? hi)).1
theorem Bd.map(h:Bd w W L Ms)(k:Nat){v:Value}{ms:List Mp}(hk:Ms[k]?=some (v,ms)):qaz W v ms:=(h.maps _ (List.mem_of_getElem? hk)).1
theorem Bd.below(h:Bd w W L Ms)(hb:Below W.heap.size W W'):Bd w W' L Ms:=
 ⟨h.nodup,fun y hy=>⟨(h.rows y hy).1.below hb,(h.rows y hy).2⟩,fun q hq=>⟨(h.maps q hq).1.below hb,(h.maps q hq).2⟩,h.base.trans (hb.mono h.base.size)⟩
theorem Bd.drew(h:Bd w W L Ms):Bd w W.drew L Ms:=h.below (Below.refl _ _).drew
theorem Bd.drewN(h:Bd w W L Ms)(n:Nat):Bd w (W.drewN n) L Ms:=h.below ⟨rfl,rfl,rfl,Nat.le_refl _,fun _ _=>rfl⟩
theorem Bd.lt(h:Bd w W L Ms){b:Nat}(hb:b∈L.map (·.1)):b<W.heap.size:=by
 obtain⟨y,hy,rfl⟩:=List.mem_map.1 hb
 exact(h.rows y hy).1.lt
theorem Bd.alloc(h:Bd w W L Ms){b:Nat}{t:TypeId}{cs:Array Value}(hl:W.heap.size<=b)(R:Row t W' b cs)(hb:Below W.heap.size W W'):Bd w W' ((b,t,cs)::L) Ms:=by
 have h':=h.below hb
 refine⟨?_,fun y hy=>?_,fun q hq=>⟨(h'.maps q hq).1,fun c hc hl0=>?_⟩,h'.base⟩
 ·rw[List.map_cons,List.nodup_cons]
  exact⟨fun hm=>by have:=h.lt hm;simp only at *;omega,h.nodup⟩
 ·rcases List.mem_cons.1 hy with rfl|hy
  ·exact⟨R,Nat.le_trans h.base.size hl⟩
  ·exact h'.rows y hy
 ·rw[List.map_cons] at hc
  rcases List.mem_cons.1 hc with rfl|hc
  ·have:=(h.maps q hq).1.lt hl0;omega
  ·exact(h.maps q hq).2 c hc hl0
theorem Bd.turn(h:Bd w W L Ms)(i:Nat){b:Nat}{t:TypeId}{cs cs':Array Value}(hi:L[i]?=some (b,t,cs))(R:Row t W' b cs')(T:qbl b W W'):Bd w W' (L.set i (b,t,cs')) Ms:=by
 have hlt:i<L.length:=(List.getElem?_eq_some_iff.1 hi).1
 have hLi:L[i]=(b,t,cs):=(List.getElem?_eq_some_iff.1 hi).2
 have hm:(L.set i (b,t,cs')).map (·.1)=L.map (·.1):=by
  apply List.ext_getElem?
  intro j
  rw[List.getElem?_map,List.getElem?_set,List.getElem?_map]
  by_cases hj:i=j
  ·subst hj;simp[hlt,hLi]
  ·simp[hj]
 have hbm:b∈L.map (·.1):=List.mem_map.2 ⟨_,List.mem_of_getElem? hi,rfl⟩
 refine⟨by rw[hm];exact h.nodup,fun y hy=>?_,fun q hq=>⟨qcl (h.maps q hq).1 (fun h0=>(h.maps q hq).2 b hbm h0) T,by rw[hm];exact(h.maps q hq).2⟩,T.below _ _ (h.rows _ (List.mem_of_getElem? hi)).2 h.base⟩
 obtain⟨j,hj⟩:=List.mem_iff_getElem?.1 hy
 rw[List.getElem?_set] at hj
 by_cases hij:i=j
 ·subst hij
  rw[if_pos rfl,if_pos hlt] at hj
  obtain rfl:=Option.some.inj hj
  exact⟨R,(h.rows _ (List.mem_of_getElem? hi)).2⟩
 ·rw[if_neg hij] at hj
  have hy':=List.mem_of_getElem? hj
  refine⟨T.row (h.rows y hy').1 (fun e=>hij ?_),(h.rows y hy').2⟩
  have e1:(L.map (·.1))[i]?=some b:=by rw[List.getElem?_map,hi];rfl
  have e2:(L.map (·.1))[j]?=some b:=by rw[List.getElem?_map,hj];simp[e]
  exact(List.getElem?_inj (by simpa using hlt) h.nodup).1 (by rw[e1,e2])
theorem Bd.addNew(h:Bd w W L Ms){v:Value}{ms:List Mp}(hb:Below W.heap.size W W')(hM:qaz W' v ms)(hl:0<ms.length->W.heap.size<=mb v):Bd w W' L ((v,ms)::Ms):=by
 have h':=h.below hb
 refine⟨h'.nodup,h'.rows,fun q hq=>?_,h'.base⟩
 rcases List.mem_cons.1 hq with rfl|hq
 ·exact⟨hM,fun b hbm h0=>by have:=h.lt hbm;have:=hl h0;simp only at *;omega⟩
 ·exact h'.maps q hq
theorem Bd.two(h:Bd w W L Ms)(i j:Nat)(hij:i≠j){y1 y2:Nat×TypeId×Array Value}(hi:L[i]?=some y1)(hj:L[j]?=some y2)(k:Nat){q:Value×List Mp}(hk:Ms[k]?=some q):Bd w W [y1,y2] [q]:=by
 have m1:=List.mem_of_getElem? hi
 have m2:=List.mem_of_getElem? hj
 have b1:y1.1∈L.map (·.1):=List.mem_map.2 ⟨_,m1,rfl⟩
 have b2:y2.1∈L.map (·.1):=List.mem_map.2 ⟨_,m2,rfl⟩
 have hne:y1.1≠y2.1:=fun e=>hij (by
  have e1:(L.map (·.1))[i]?=some y1.1:=by rw[List.getElem?_map,hi];rfl
  have e2:(L.map (·.1))[j]?=some y1.1:=by rw[List.getElem?_map,hj];simp[e]
  exact(List.getElem?_inj (by simpa using(List.getElem?_eq_some_iff.1 hi).1) h.nodup).1 (by rw[e1,e2]))
 refine⟨by simp[hne],fun y hy=>?_,fun p hp=>?_,h.base⟩
 ·rcases List.mem_cons.1 hy with rfl|hy
  ·exact h.rows _ m1
  ·obtain rfl:=List.mem_singleton.1 hy
   exact h.rows _ m2
 ·obtain rfl:=List.mem_singleton.1 hp
  have hm:=h.maps _ (List.mem_of_getElem? hk)
  refine⟨hm.1,fun b hb=>?_⟩
  simp only[List.map_cons,List.map_nil,List.mem_cons,List.not_mem_nil,or_false] at hb
  rcases hb with rfl|rfl
  ·exact hm.2 _ b1
  ·exact hm.2 _ b2
end
end Go.Proofs.YtnicenfgemkdnaaGreatDoor
