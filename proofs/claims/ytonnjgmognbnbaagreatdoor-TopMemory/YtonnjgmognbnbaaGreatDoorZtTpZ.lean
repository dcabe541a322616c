/-
  Of what a law stands on.
-/
import Derived.Test.YtonnjgmognbnbaaGreatDoorZtd1
set_option linter.unusedSimpArgs false
set_option linter.unusedVariables false
namespace Go.Proofs.YtonnjgmognbnbaaGreatDoor
open Go.Value renaming int → I,pointer → V
open Go.IntKind renaming i64 → Z
open _root_.Go.Proofs.Tryz Go.ChangeShapes Go.WideShapes Go.ChangeAt Go.RowKit
set_option maxHeartbeats 16000000
set_option maxRecDepth 100000
theorem qkc(f:Nat->Int)(g:Nat->Bool)(h:Nat->Int)(sl sl2:Value)(ms:List Mp)(hwF:wfF f)(hwH:wfH h)(w:World)(hM:qaz w sl ms)(hM2:qaz w sl2 ms):
  Calls prog 35 #[.agg (tc f g h sl),.agg (tc f g h sl2)] w fun e w'=>e=.returned (.bool true)/\Below w.heap.size w w':=by
 refine m2a ?_;intro hB;have hM0:=hM
 obtain⟨a0,cap,hsl,-⟩:=hM0
 obtain⟨n,hn⟩:∃n,n=ms.length:=⟨_,rfl⟩
 rw[←hn] at hsl
 subst hsl
 refine m4n ?_;clear hn;intro HN hlt;have hlt2:=hM2.lt
 obtain⟨a1,c1,hsl2,-⟩:=id hM2
 rw[←HN.out] at hsl2
 subst hsl2
 (have hnn:((n:Int) != (n:Int))=false:=by simp)
 go_enter func35,ntmps35
 go_wp2_with (first|((with_reducible refine gB 39 0 ?_);refine m9j ?_;intro b2 w1 l2 R2 hb1;refine m5a ?_;clear hB;intro hB)|((with_reducible refine gB 39 1 ?_);refine m4w ?_;clear R2 hB;intro b3 w1 l3 R3 hb1 R2 hB hp2 hp3 hh2 hh3 k2 k3)|((with_reducible refine gL 35 6 ?_);refine m8t ?_;refine m2h ?_)|((with_reducible refine gL 35 8 ?_);refine m8u ?_;refine m2h ?_)|((with_reducible refine qaa (.binOp .neq 35 (.tmp 7) (.tmp 9) 35) rfl ?_);refine m8n ?_)|((with_reducible refine gL 36 12 ?_);refine qi3 36 (.tmp 12) rfl ?_ b2 21 rfl (hcl h) hh2 _ underlying36 rfl (qfd _) ?_;· kernel_rfl)|((with_reducible refine gL 36 14 ?_);refine qi3 36 (.tmp 14) rfl ?_ b3 21 rfl (hcl h) hh3 _ underlying36 rfl (qfd _) ?_;· kernel_rfl)|((with_reducible refine qaa (.binOp .neq 36 (.tmp 13) (.tmp 15) 36) rfl ?_);refine qk0 36 (.tmp 13) (.tmp 15) rfl ?_ (hc8 h) (hc8 h) kr kr eqGuardType36 _ false (qmy h h hwH hwH _) (by rw[q2m];rfl) ?_;· kernel_rfl))
 clear hp2 hp3 hh2 hh3 k2 k3
 go_loopw [5] (fun i W=>∃j:Nat,j<=ms.length/\i=I Z j/\Below w.heap.size w W/\Row 39 W b2 (tc f g h (.slice a0 n cap))/\Row 39 W b3 (tc f g h (.slice a1 n c1))) (fun i _=>n-(intOf i).toNat)
 case atStart=>exact⟨0,by omega,rfl,hB,R2,R3⟩
 case round=>
  clear hB R2 R3
  obtain⟨j,hj,rfl,hB,R2,R3⟩:=hrel
  have k2:World.cell? _ ⟨b2,29,none⟩=some (.slice a0 n cap):=(R2.cell 29).trans (qdw _ _ _ _)
  by_cases hlj:j<ms.length
  ·refine m3l ?_;intro hjn hjw
   obtain⟨o,hm⟩:∃o,ms[j]=o:=⟨_,rfl⟩
   have r2:=(hM.keep hB hlt).at j hlj hm;have r3:=(hM2.keep hB hlt2).at j hlj hm;(have I2:=fun w2=>qrs hM j hlj w2);(have I3:=fun w2=>qrs hM2 j hlj w2);clear hm
   go_upto_region 6 with fail
   clear k2
   refine RD (fun W=>Row 39 W b2 (tc f g h (.slice a0 n cap))/\Row 39 W b3 (tc f g h (.slice a1 n c1))/\W.rangeAt (mb (.slice a0 n cap)) (mo (.slice a0 n cap)+5*j) (mcl o)/\W.rangeAt (mb (.slice a1 n c1)) (mo (.slice a1 n c1)+5*j) (mcl o)) ⟨R2,R3,r2,r3⟩ (fun _=>?_)
   refine m42 ?_
   refine tk 3 (V (some ⟨mb (.slice a0 n cap),mo (.slice a0 n cap)+5*j,none⟩)) rfl (qn6 (.tmp 35) (.tmp 36) rfl kr _ _ _ kr kr I2) ⟨R2,R3,r2,r3⟩ (tk 4 (.agg (mcl o).toArray) rfl (qgw 50 (.tmp 37) rfl kr _ _ kr (mcl o) (fun _ h=>h.2.2.1) _ underlying50 rfl (qby o)) ⟨R2,R3,r2,r3⟩ (tq 5 (V (some ⟨b3,29,none⟩)) rfl ⟨R2,R3,r2,r3⟩ ?_))
   refine m5i ?_;(refine tk 6 (.slice a1 n c1) rfl (Or.inl ⟨by kernel_rfl,by intro w hS;have hc:=(hS.2.1.cell 29).trans (qdw _ _ _ _);go_simp⟩) ⟨R2,R3,r2,r3⟩ (tq 7 (I Z (j:Int)) rfl ⟨R2,R3,r2,r3⟩ (tk 8 (V (some ⟨mb (.slice a1 n c1),mo (.slice a1 n c1)+5*j,none⟩)) rfl (qn6 (.tmp 40) (.tmp 41) rfl kr _ _ _ kr kr I3) ⟨R2,R3,r2,r3⟩ ?_)));refine m5i ?_
   refine tk 9 (.agg (mcl o).toArray) rfl (qgw 50 (.tmp 42) rfl kr _ _ kr (mcl o) (fun _ h=>h.2.2.2) _ underlying50 rfl (qby o)) ⟨R2,R3,r2,r3⟩ (tk 10 (.bool false) rfl (qry 50 (.tmp 38) (.tmp 43) rfl kr (mc o) (mc o) kr kr eqGuardType50 _ _ (fun w=>qkb o o w) zm) ⟨R2,R3,r2,r3⟩ ?_)
   refine m1f ?_;replace R2:Row 39 (World.drew _) b2 _:=R2;replace R3:Row 39 (World.drew _) b3 _:=R3;replace hB:=qpv hB
   go_wp2
   go_roundw
   case rel=>first|exact⟨j+1,by omega,by go_num,hB,R2,R3⟩|((repeat apply Exists.intro);exact⟨⟨j+1,by omega,by go_num,hB,R2,R3⟩,rfl⟩)
   case measure=>(first|rw[hjw]|skip);exact qek (HN.out.symm▸hlj)
  ·refine m6c ?_;intro hjn;clear hj hlj
   go_wp2
   go_ret
   exact⟨rfl,hB⟩
end Go.Proofs.YtonnjgmognbnbaaGreatDoor
