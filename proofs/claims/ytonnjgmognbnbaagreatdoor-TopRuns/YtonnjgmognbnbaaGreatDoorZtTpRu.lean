/-
  Of what a law stands on.
-/
import Derived.Test.YtonnjgmognbnbaaGreatDoorZtTpRu0
set_option linter.unusedSimpArgs false
set_option linter.unusedVariables false
namespace Go.Proofs.YtonnjgmognbnbaaGreatDoor
open Go.Value renaming int → I,pointer → V
open Go.IntKind renaming i64 → Z
open _root_.Go.Proofs.Tryz Go.ChangeShapes Go.WideShapes Go.ChangeAt Go.RowKit Go.Maps
set_option maxHeartbeats 16000000
set_option maxRecDepth 100000
theorem topRuns_walk(loose:Bool)(sl:Value)(es:List Ac)(k0:Int)(W:World)(hS:AcIn W sl es)(hcap:∀a n c,sl=.slice a n c->n<=c)(hT:Tab W):Calls prog 15 #[.bool loose,sl,I Z k0] W fun e w'=>e=.returned (.bool true)/\Below W.heap.size W w':=by
 have HT:Hid (Tab W):=hT;have hB:=Below.refl W.heap.size W;(have CA:=fun w (hB:Below W.heap.size W w)=>q1b w (HT.out.below hB));obtain⟨a0,cap,hsl⟩:=hS.1.slice;have hc:=hcap _ _ _ hsl;have HS:Hid (AcIn W sl es):=hS
 obtain⟨n,hn⟩:∃n,n=es.length:=⟨_,rfl⟩
 rw[←hn] at hsl hc
 subst hsl
 have HN:Hid (n=es.length):=hn;have HC:Hid (n<=cap):=hc;have HA0:Hid (0<n->∃b o,a0=some ⟨b,o,none⟩):=hidN hS.1.some
 by_cases hl:100<n
 ·(have hli:(100:Int)<(n:Int):=by omega);clear hl hn hcap hS hT hc
  go_enter func15,ntmps15
  go_wp2_with (first|(go_at_call 49;go_fit (CA _ hB);rintro e w5 ⟨rfl,hb5⟩;refine m2s ?_;clear hB;intro hB;clear hb5))
  go_ret
  exact⟨rfl,hB⟩
 ·(have hli:¬(100:Int)<(n:Int):=by omega);obtain⟨k,hk,t,hkt,ht3,ht4,htk⟩:=qjgb k0 n;(have hkn:(k:Int)<=(n:Int):=by omega);(have hz:(((n:Int)+1)==0)=false:=by simp;omega);(have hw1:wrap64 ((n:Int)+1)=(n:Int)+1:=by unfold wrap64;omega);(have hw2:wrap64 (t+(n:Int))=t+(n:Int):=by unfold wrap64;omega);(have hw3:wrap64 (t+(n:Int)+1)=t+(n:Int)+1:=by unfold wrap64;omega);have ht1:k0.tmod ((n:Int)+1)=t:=hkt;have ht2:(t+(n:Int)+1).tmod ((n:Int)+1)=(k:Int):=htk;(have hne1:((n:Int) != (n:Int))=false:=by simp);(have hne2:((k:Int) != (k:Int))=false:=by simp);have HK:Hid (k<=n):=hk;have HL2:Hid ((es.take k).length=k):=hidN (List.length_take_of_le om);have HLe:Hid (es.length<=100000):=hidN om;have HLe2:Hid ((es.take k).length<=100000):=hidN (by have:=HL2.out;omega);have HP:Hid ((nt0 loose).plays (es.take k)=((nt0 loose).plays es).take k):=hidN (qiib _ _ _);(have CR1:=fun w (hB:Below W.heap.size W w) v (hA:AcAt w v es)=>qh3b loose v es w hA HS.out.2 (HT.out.below hB) om);(have CR2:=fun w (hB:Below W.heap.size W w) v (hA:AcAt w v (es.take k))=>qh3b loose v (es.take k) w hA (fun x hx=>HS.out.2 x (List.mem_of_mem_take hx)) (HT.out.below hB) (by have:=HL2.out;omega));clear hl hn hcap hS hT hc hkt ht3 ht4 htk hk hkn
  go_enter func15,ntmps15
  go_upto_region 4 with(first|(go_at_call 49;go_fit (CA _ hB);rintro e w5 ⟨rfl,hb5⟩;refine m2s ?_;clear hB;intro hB;clear hb5)|((with_reducible refine qaa (.binOp .rem 3 (.tmp 20) (.tmp 23) 3) rfl ?_);refine qhqb rfl (.tmp 20) (.tmp 23) rfl _ _ _ rfl rfl (by first|exact hz|(simp only[hw1];exact hz)) (by first|exact ht1|(simp only[hw1];exact ht1)) ?_)|((with_reducible refine qaa (.binOp .rem 3 (.tmp 28) (.tmp 31) 3) rfl ?_);refine qhqb rfl (.tmp 28) (.tmp 31) rfl _ _ _ rfl rfl (by first|exact hz|(simp only[hw1];exact hz)) (by first|exact ht2|(simp only[hw1,hw2,hw3];exact ht2)) ?_))
  clear hz hw1 hw2 hw3 ht1 ht2 CA
  go_wp2_with (first|((with_reducible refine qaa (.call { callee:=.builtin .append,args:=#[.const (.slice none 0 0),.tmp 35],argTypes:=#[44,44] }) rfl ?_);refine qhpb rfl (.tmp 35) rfl (HS.out.1.below hB) rfl HLe.out ?_;intro v9 w9 hA9 hb9;replace hB:=hB.trans (hb9.mono hB.size);clear hb9;obtain⟨x9,y9,e9⟩:=hA9.slice;rw[←HN.out] at e9;subst e9)|(go_at_call 50;refine(CR1 _ hB _ hA9).mono ?_;clear hA9;rintro e w6 ⟨u9,rfl,hO1,hb6⟩;clear CR1;obtain⟨xa,ca,e9⟩:=hO1.slice;rw[qhmb,←HN.out] at e9;subst e9;replace hB:=hB.trans (hb6.mono hB.size);clear hb6)|((with_reducible refine qaa (.slice 44 (.tmp 42) none (some (.tmp 43)) none) rfl ?_);refine qh4b rfl (.tmp 42) (.tmp 43) rfl a0 n cap k rfl rfl HK.out HC.out HA0.out ?_)|((with_reducible refine qaa (.call { callee:=.builtin .append,args:=#[.const (.slice none 0 0),.tmp 44],argTypes:=#[44,44] }) rfl ?_);refine qhpb rfl (.tmp 44) rfl ((HS.out.1.below hB).take k HK.out) rfl HLe2.out ?_;intro v9 w9 hA9 hb9;replace hO1:=hO1.below hb9;replace hB:=hB.trans (hb9.mono hB.size);clear hb9;obtain⟨x8,y8,e9⟩:=hA9.slice;rw[HL2.out] at e9;subst e9)|(go_at_call 50;refine(CR2 _ hB _ hA9).mono ?_;clear hA9;rintro e w6 ⟨u9,rfl,hO2,hb6⟩;clear CR2;obtain⟨xb,cb,e9⟩:=hO2.slice;rw[qhmb,HL2.out] at e9;subst e9;replace hO1:=hO1.below hb6;replace hB:=hB.trans (hb6.mono hB.size);clear hb6))
  have HO1:Hid _:=hidN hO1;have HO2:Hid _:=hidN hO2;have HB:Hid _:=hidN hB;have hL:=Below.refl w6.heap.size w6;clear hO1 hO2 hB
  go_loopw [11] (fun i W1=>∃j:Nat,j<=k/\i=I Z (j:Int)/\Below w6.heap.size w6 W1) (fun i _=>k-(intOf i).toNat)
  case atStart=>exact⟨0,Nat.zero_le _,rfl,hL⟩
  case round=>
   clear hL
   obtain⟨j,hj,rfl,hL⟩:=hrel
   by_cases hlj:j<k
   ·(have hjn:(j:Int)<(k:Int):=by omega);have hkn:=HK.out;(have hj1:j<((nt0 loose).plays es).length:=by rw[qhmb,←HN.out];omega);(have hj2:j<((nt0 loose).plays (es.take k)).length:=by rw[qhmb,HL2.out];omega);have HM:=qha hlj;have hjw:=qhl (p:=j) (by have:=HLe.out;have:=HN.out;omega)
    obtain⟨o,hm⟩:∃o,((nt0 loose).plays es)[j]=o:=⟨_,rfl⟩
    (have hm2:((nt0 loose).plays (es.take k))[j]=o:=by simp only[HP.out,List.getElem_take];exact hm);have r2:=(HO1.out.below hL).atL j hj1 hm;have r3:=(HO2.out.below hL).atL j hj2 hm2;(have I2:=fun w2=>HO1.out.index j hj1 w2);(have I3:=fun w2=>HO2.out.index j hj2 w2);have kS:=And.intro r2 r3;clear hm hm2 r2 r3 hj1 hj2 hkn
    go_upto_region 11 with fail
    refine RD (fun W=>W.rangeAt (rpB (.slice xa n ca)) (4*j) (rpl o)/\W.rangeAt (rpB (.slice xb k cb)) (4*j) (rpl o)) kS (fun _=>?_)
    refine tq 0 (.slice xa n ca) rfl kS (tq 1 (I Z (j:Int)) rfl kS (tk 2 (V (some ⟨rpB (.slice xa n ca),4*j,none⟩)) rfl (qgk 79 (.tmp 73) (.tmp 74) rfl kr _ _ _ kr kr I2) kS ?_));refine m5i ?_
    refine tk 3 (.agg (rpl o).toArray) rfl (qgw 27 (.tmp 75) rfl kr _ _ kr (rpl o) (fun _ h=>h.1) _ underlying27 rfl (qh1b o)) kS (tq 4 (.slice xb k cb) rfl kS (tq 5 (I Z (j:Int)) rfl kS ?_))
    refine m5i ?_
    refine tk 6 (V (some ⟨rpB (.slice xb k cb),4*j,none⟩)) rfl (qgk 79 (.tmp 77) (.tmp 78) rfl kr _ _ _ kr kr I3) kS (tk 7 (.agg (rpl o).toArray) rfl (qgw 27 (.tmp 79) rfl kr _ _ kr (rpl o) (fun _ h=>h.2) _ underlying27 rfl (qh1b o)) kS (tk 8 (.bool false) rfl (qry 27 (.tmp 76) (.tmp 80) rfl kr (rpl o).toArray (rpl o).toArray kr kr eqGuardType27 _ _ (fun w=>qjcb o w) zm) kS ?_))
    refine m1f ?_;replace hL:=qpv hL
    go_wp2
    go_roundw
    case rel=>first|exact⟨j+1,by omega,by go_num,hL⟩|((repeat apply Exists.intro);exact⟨⟨j+1,by omega,by go_num,hL⟩,rfl⟩)
    case measure=>first|exact HM.out|(rw[hjw];exact HM.out)
   ·(have hjn:¬(j:Int)<(k:Int):=by omega);clear hj hlj
    go_wp2_with fail
    go_ret
    exact⟨rfl,HB.out.trans (hL.mono HB.out.size)⟩
end Go.Proofs.YtonnjgmognbnbaaGreatDoor
