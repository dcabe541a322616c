/-
  Of what a law stands on.
-/
import Derived.Test.YtbboabfmoahipaaZbd11
import Derived.Test.YtbboabfmoahipaaZbd12
set_option linter.unusedSimpArgs false
set_option linter.unusedVariables false
namespace Go.Proofs.Ytbboabfmoahipaa
open Go.Value renaming int → I,pointer → V
open Go.IntKind renaming i64 → Z
open _root_.Go.Proofs.Try Go.ChangeShapes Go.WideShapes Go.ChangeAt Go.RowKit
set_option maxHeartbeats 16000000
set_option maxRecDepth 100000
theorem qvmb(f:Nat->Int)(g:Nat->Bool)(h:Nat->Int)(sl sl2:Value)(ms:List Mp)(hwF:wfF f)(hwH:wfH h)(w:World)(hM:qaz w sl ms)(hM2:qaz w sl2 ms):
  Calls prog 21 #[.agg (tc f g h sl),.agg (tc f g h sl2)] w fun e w'=>e=.returned (.bool true)/\Below w.heap.size w w':=by
 refine m1t ?_;intro hB hM0
 obtain⟨a0,cap,hsl,-⟩:=hM0
 obtain⟨n,hn⟩:∃n,n=ms.length:=⟨_,rfl⟩
 rw[←hn] at hsl
 subst hsl
 refine m2d ?_;clear hn;intro HN hlt;have hlt2:=hM2.lt
 obtain⟨a1,c1,hsl2,-⟩:=id hM2
 rw[←HN.out] at hsl2
 subst hsl2
 (have hnn:((n:Int) != (n:Int))=false:=by simp)
 go_enter func21,ntmps21
 go_wp2_with (first|((with_reducible refine gB 30 0 ?_);refine m0v ?_;intro b2 w1 l2 R2 hb1;replace hB:=hB.trans (hb1.mono hB.size))|((with_reducible refine gB 30 1 ?_);refine m37 ?_;clear R2 hB;intro b3 w1 l3 R3 hb1 R2 hB hp2 hp3 hh2 hh3 k2 k3)|((with_reducible refine gL 26 6 ?_);refine m60 ?_;refine m34 ?_)|((with_reducible refine gL 26 8 ?_);refine m61 ?_;refine m34 ?_)|((with_reducible refine qaa (.binOp .neq 26 (.tmp 7) (.tmp 9) 26) rfl ?_);refine m5u ?_)|((with_reducible refine gL 27 12 ?_);refine qi3 27 (.tmp 12) rfl ?_ b2 21 rfl (hcl h) hh2 _ underlying27 rfl (qfd _) ?_;· kernel_rfl)|((with_reducible refine gL 27 14 ?_);refine qi3 27 (.tmp 14) rfl ?_ b3 21 rfl (hcl h) hh3 _ underlying27 rfl (qfd _) ?_;· kernel_rfl)|((with_reducible refine qaa (.binOp .neq 27 (.tmp 13) (.tmp 15) 27) rfl ?_);refine qk0 27 (.tmp 13) (.tmp 15) rfl ?_ (hc8 h) (hc8 h) kr kr eqGuardType27 _ false (qmy h h hwH hwH _) (by rw[q2m];rfl) ?_;· kernel_rfl))
 clear hp2 hp3 hh2 hh3 k2 k3
 go_loopw [30] (fun i W=>∃j:Nat,j<=ms.length/\i=I Z j/\Below w.heap.size w W/\Row 30 W b2 (tc f g h (.slice a0 n cap))/\Row 30 W b3 (tc f g h (.slice a1 n c1))) (fun i _=>n-(intOf i).toNat)
 case atStart=>exact⟨0,by omega,rfl,hB,R2,R3⟩
 case round=>
  clear hB R2 R3
  obtain⟨j,hj,rfl,hB,R2,R3⟩:=hrel
  have k2:World.cell? _ ⟨b2,29,none⟩=some (.slice a0 n cap):=(R2.cell 29).trans (qdw _ _ _ _)
  by_cases hlj:j<ms.length
  ·refine m0h ?_;intro hjn hjw
   obtain⟨o,hm⟩:∃o,ms[j]=o:=⟨_,rfl⟩
   have r2:=(hM.keep hB hlt).at j hlj hm;have r3:=(hM2.keep hB hlt2).at j hlj hm;(have I2:=fun w2=>qrs hM j hlj w2);(have I3:=fun w2=>qrs hM2 j hlj w2);clear hm
   go_upto_region 6 with fail
   clear k2
   refine RD (fun W=>Row 30 W b2 (tc f g h (.slice a0 n cap))/\Row 30 W b3 (tc f g h (.slice a1 n c1))/\W.rangeAt (mb (.slice a0 n cap)) (mo (.slice a0 n cap)+5*j) (mcl o)/\W.rangeAt (mb (.slice a1 n c1)) (mo (.slice a1 n c1)+5*j) (mcl o)) ⟨R2,R3,r2,r3⟩ (fun _=>?_)
   refine m2l ?_
   refine tk 3 (V (some ⟨mb (.slice a0 n cap),mo (.slice a0 n cap)+5*j,none⟩)) rfl (qn6 (.tmp 34) (.tmp 35) rfl kr _ _ _ kr kr I2) ⟨R2,R3,r2,r3⟩ (tk 4 (.agg (mcl o).toArray) rfl (qgw 32 (.tmp 36) rfl kr _ _ kr (mcl o) (fun _ h=>h.2.2.1) _ underlying32 rfl (qby o)) ⟨R2,R3,r2,r3⟩ (tq 5 (V (some ⟨b3,29,none⟩)) rfl ⟨R2,R3,r2,r3⟩ ?_))
   simp only[ZZ];(refine tk 6 (.slice a1 n c1) rfl (Or.inl ⟨by kernel_rfl,by intro w hS;have hc:=(hS.2.1.cell 29).trans (qdw _ _ _ _);go_simp⟩) ⟨R2,R3,r2,r3⟩ (tq 7 (I Z (j:Int)) rfl ⟨R2,R3,r2,r3⟩ (tk 8 (V (some ⟨mb (.slice a1 n c1),mo (.slice a1 n c1)+5*j,none⟩)) rfl (qn6 (.tmp 39) (.tmp 40) rfl kr _ _ _ kr kr I3) ⟨R2,R3,r2,r3⟩ ?_)));simp only[ZZ]
   refine tk 9 (.agg (mcl o).toArray) rfl (qgw 32 (.tmp 41) rfl kr _ _ kr (mcl o) (fun _ h=>h.2.2.2) _ underlying32 rfl (qby o)) ⟨R2,R3,r2,r3⟩ (tk 10 (.bool false) rfl (qry 32 (.tmp 37) (.tmp 42) rfl kr (mc o) (mc o) kr kr eqGuardType32 _ _ (fun w=>qkb o o w) zm) ⟨R2,R3,r2,r3⟩ ?_)
   refine m2c ?_;replace R2:Row 30 (World.drew _) b2 _:=R2;replace R3:Row 30 (World.drew _) b3 _:=R3;replace hB:=qpv hB
   go_wp2
   go_roundw
   case rel=>first|exact⟨j+1,by omega,by go_num,hB,R2,R3⟩|((repeat apply Exists.intro);exact⟨⟨j+1,by omega,by go_num,hB,R2,R3⟩,rfl⟩)
   case measure=>(first|rw[hjw]|skip);exact qek (HN.out.symm▸hlj)
  ·refine m3r ?_;intro hjn;clear hj hlj
   go_wp2
   go_ret
   exact⟨rfl,hB⟩
theorem qy4b(f:Nat->Int)(g:Nat->Bool)(h:Nat->Int)(sl:Value)(ms:List Mp)(p s i d:Int)(hwF:wfF f)(hwH:wfH h)(hno:qcs sl)(hd:(Lit.int .i64 d).wf=true):
  ∃(f' h':Nat->Int) (ms':List Mp) (m:Mp) (took:Bool) (er:Int),wfF f'/\wfH h'/\
   (∀v w,qcs v->qaz w v ms->Calls prog 19 #[.agg (tc f g h v),.int .i64 p,.int .i64 s,.int .i64 i,.int .i64 d] w fun e w'=>∃v',e=.returned (qpm f' g h' v' m took er)/\qaz w' v' ms'/\(v'=v\/(0<ms'.length->w.heap.size<=mb v'))/\Below w.heap.size w w')/\
   (∀w,qaz w sl ms->Calls prog 20 #[.agg (tc f g h sl),.int .i64 p,.int .i64 s,.int .i64 i,.int .i64 d] w fun e w'=>∃v',e=.returned (qpm f' g h' v' m took er)/\qaz w' v' ms'/\(v'=sl\/(0<ms'.length->w.heap.size<=mb v'))/\Below w.heap.size w w'):=by
 by_cases hP:qjy f h ms p s i
 rotate_left
 ·refine⟨f,h,ms,noM,false,2,hwF,hwH,fun v w _ hM=>(q6m f g h v ms p s i d w hM hwH hP).mono ?_,fun w hM=>(qzcb f g h sl ms p s i d hwH hP w hM).mono ?_⟩
  ·rintro e w' ⟨rfl,hb⟩;exact⟨v,rfl,hM.below hb,.inl rfl,hb⟩
  ·rintro e w' ⟨rfl,hb⟩;exact⟨sl,rfl,hM.below hb,.inl rfl,hb⟩
 cases hf:ms.find? (inS p s i) with
 | some m=>
  refine⟨f,h,ms,m,false,0,hwF,hwH,fun v w _ hM=>(q0s f g h v ms p s i d w hM hwH hP m hf).mono ?_,fun w hM=>(qnub f g h sl ms p s i d hwH hP m hf w hM).mono ?_⟩
  ·rintro e w' ⟨rfl,hb⟩;exact⟨v,rfl,hM.below hb,.inl rfl,hb⟩
  ·rintro e w' ⟨rfl,hb⟩;exact⟨sl,rfl,hM.below hb,.inl rfl,hb⟩
 | none=>
  by_cases hc:cntM ms s=12
  ·refine⟨f,h,ms,noM,false,6,hwF,hwH,fun v w _ hM=>(q2q f g h v ms p s i d w hM hwH hP hf hc).mono ?_,fun w hM=>(qocb f g h sl ms p s i d hwH hP hf hc w hM).mono ?_⟩
   ·rintro e w' ⟨rfl,hb⟩;exact⟨v,rfl,hM.below hb,.inl rfl,hb⟩
   ·rintro e w' ⟨rfl,hb⟩;exact⟨sl,rfl,hM.below hb,.inl rfl,hb⟩
  ·by_cases he:(qbe f g h ms p s d).e=0
   ·(have hany:ms.any (inS p s i)=false:=by rw[List.any_eq_false];exact List.find?_eq_none.1 hf);have G2:=(qya (g:=g) (d:=d) hP.1 hP.2.1 hP.2.2.1 hP.2.2.2 hany hc he).1
    refine⟨(qbe f g h ms p s d).f,(qbe f g h ms p s d).h,ms++[(p,s,i,(qbe f g h ms p s d).h s.toNat-1,(qbe f g h ms p s d).q)],(p,s,i,(qbe f g h ms p s d).h s.toNat-1,(qbe f g h ms p s d).q),(qbe f g h ms p s d).took,0,qpn G2.pool,qbq.wf G2,fun v w hn hM=>(q6u f g h v ms p s i d w hM hwH hn hd hP hf hc he).mono ?_,fun w hM=>(qn7b f g h sl ms p s i d hwH hno hd hP hf hc w hM).mono ?_⟩
    ·rintro e w' ⟨v',rfl,h1,-,h2,h3⟩;exact⟨v',rfl,h1,.inr (fun _=>h2),h3⟩
    ·rintro e w' ⟨⟨-,hr⟩,hb⟩
     obtain⟨v',e1,h1,h2⟩:=hr he
     exact⟨v',e1,h1,.inr (fun _=>h2),hb⟩
   ·refine⟨f,h,ms,noM,false,(qbe f g h ms p s d).e,hwF,hwH,fun v w _ hM=>(q4y f g h v ms p s i d w hM hwH hd hP hf hc he).mono ?_,fun w hM=>(qn7b f g h sl ms p s i d hwH hno hd hP hf hc w hM).mono ?_⟩
    ·rintro e w' ⟨rfl,hb⟩;exact⟨v,rfl,hM.below hb,.inl rfl,hb⟩
    ·rintro e w' ⟨⟨hr,-⟩,hb⟩;exact⟨sl,hr he,hM.below hb,.inl rfl,hb⟩
theorem qzdb(f:Nat->Int)(g:Nat->Bool)(h:Nat->Int)(sl:Value)(ms:List Mp)(p s i d:Int)(hwF:wfF f)(hwH:wfH h)(hno:qcs sl)(hln:ms.length<=3518437208883)(hd:(Lit.int .i64 d).wf=true)(w:World)(hM:qaz w sl ms):
  Calls prog 4 #[.agg (tc f g h sl),.int .i64 p,.int .i64 s,.int .i64 i,.int .i64 d] w fun e w'=>e=.returned (.bool true)/\Below w.heap.size w w':=by
 have B:=Bd.startM hM;(have CC:=fun w hM=>qyjb f g h sl ms hno hln w hM);obtain⟨f',h',ms',m,took,er,hf',hh',CP,CR⟩:=qy4b f g h sl ms p s i d hwF hwH hno hd
 unfold qpm at CP CR
 (have CS:=fun v v2 w hM hM2=>qvmb f' g h' v v2 ms' hf' hh' w hM hM2);(have CT:=fun v v2 w hM hM2=>qvmb f g h v v2 ms hwF hwH w hM hM2);(have CBs:=fun w=>qyob w);(have EQ:∀w,(Op.equalIn 10000 32 (.agg (mc m)) (.agg (mc m))).run prog w=.ok true w:=fun w=>by rw[qkb];simp)
 obtain⟨a0,cap,hsl,-⟩:=id hM
 obtain⟨n,hn⟩:∃n,n=ms.length:=⟨_,rfl⟩
 have HN:Hid (n=ms.length):=hn
 rw[←hn] at hsl
 subst hsl
 obtain⟨n2,hn2⟩:∃n,n=ms'.length:=⟨_,rfl⟩
 have HN2:Hid (n2=ms'.length):=hn2;clear hn hn2 hno hln hwF hwH hf' hh' hM hd
 go_enter func4,ntmps4
 go_wp2_with (first|((with_reducible refine gB 30 0 ?_);refine m0v ?_;refine m4e ?_;clear B;intro b5 w9 B)|((with_reducible refine gL 30 5 ?_);refine lx 30 (.tmp 5) (tc f g h (.slice a0 n cap)) (B.row 0 rfl) ?_)|(go_at_call 10;go_fit (CC _ (B.map 0 rfl));rintro e w5 ⟨v5,rfl,hM5,hN5,hl5,hb5⟩;(obtain⟨a1,c1,hv,-⟩:=id hM5);rw[←HN.out] at hv;subst hv;replace B:=B.addNew hb5 hM5 hl5;clear hb5 hl5 hM5)|((with_reducible refine gA 30 ?_);refine ax 11 30 qb8 ?_;intro b11 w9 l9 R9 h9;replace B:=B.alloc l9 R9 h9;clear R9 h9 l9)|((with_reducible refine gS 30 11 21 ?_);refine qab 30 rfl (.tmp 11) _ rfl b11 rfl (tc f g h (.slice a1 n c1)) rfl _ (B.row 0 rfl) (qen _ _ _ _ _ _ _ _) (qaq _ _ _ _) (qbm _ _ _ _ _ _) ?_;refine m09 ?_;clear B;intro w9 B)|((with_reducible refine gL 30 11 ?_);refine lx 30 (.tmp 11) (tc f g h (.slice a1 n c1)) (B.row 0 rfl) ?_)|(go_at_call 19;go_fit (CP _ _ hN5 (B.map 0 rfl));rintro e w5 ⟨v5,rfl,hM5,ho5,hb5⟩;clear CP hN5;(obtain⟨a2,c2,hv,-⟩:=id hM5);rw[←HN2.out] at hv;subst hv;replace B:=B.addOr 0 rfl hb5 hM5 ho5;clear hb5 ho5 hM5)|((with_reducible refine gA 30 ?_);refine ax 12 30 qb8 ?_;intro b12 w9 l9 R9 h9;replace B:=B.alloc l9 R9 h9;clear R9 h9 l9)|((with_reducible refine gA 32 ?_);refine ax 13 32 qa4 ?_;intro b13 w9 l9 R9 h9;replace B:=B.alloc l9 R9 h9;clear R9 h9 l9)|((with_reducible refine gS 30 12 29 ?_);refine qab 30 rfl (.tmp 12) _ rfl b12 rfl (tc f' g h' (.slice a2 n2 c2)) rfl _ (B.row 1 rfl) (qen _ _ _ _ _ _ _ _) (qaq _ _ _ _) (qbm _ _ _ _ _ _) ?_;refine m20 ?_;clear B;intro w9 B)|((with_reducible refine gS 32 13 30 ?_);refine sx 32 (.tmp 13) _ (mc m) (B.row 0 rfl) ?_;refine m09 ?_;clear B;intro w9 B)|((with_reducible refine gL 30 5 ?_);refine m1q ?_)|(go_at_call 20;go_fit (CR _ (B.map 2 rfl));rintro e w5 ⟨v5,rfl,hM5,ho5,hb5⟩;clear CR;(obtain⟨a3,c3,hv,-⟩:=id hM5);rw[←HN2.out] at hv;subst hv;replace B:=B.addOr 2 rfl hb5 hM5 ho5;clear hb5 ho5 hM5)|((with_reducible refine gA 30 ?_);refine ax 16 30 qb8 ?_;intro b16 w9 l9 R9 h9;replace B:=B.alloc l9 R9 h9;clear R9 h9 l9)|((with_reducible refine gA 32 ?_);refine ax 17 32 qa4 ?_;intro b17 w9 l9 R9 h9;replace B:=B.alloc l9 R9 h9;clear R9 h9 l9)|((with_reducible refine gS 30 16 40 ?_);refine qab 30 rfl (.tmp 16) _ rfl b16 rfl (tc f' g h' (.slice a3 n2 c3)) rfl _ (B.row 1 rfl) (qen _ _ _ _ _ _ _ _) (qaq _ _ _ _) (qbm _ _ _ _ _ _) ?_;refine m20 ?_;clear B;intro w9 B)|((with_reducible refine gS 32 17 41 ?_);refine sx 32 (.tmp 17) _ (mc m) (B.row 0 rfl) ?_;refine m09 ?_;clear B;intro w9 B)|((with_reducible refine gL 30 12 ?_);refine lx 30 (.tmp 12) (tc f' g h' (.slice a2 n2 c2)) (B.row 3 rfl) ?_)|((with_reducible refine gL 30 16 ?_);refine lx 30 (.tmp 16) (tc f' g h' (.slice a3 n2 c3)) (B.row 1 rfl) ?_)|((with_reducible refine gL 32 13 ?_);refine lx 32 (.tmp 13) (mc m) (B.row 2 rfl) ?_)|((with_reducible refine gL 32 17 ?_);refine lx 32 (.tmp 17) (mc m) (B.row 0 rfl) ?_)|((with_reducible refine qaa (.binOp .eql 32 (.tmp 48) (.tmp 49) 32) rfl ?_);refine qb1 32 (.tmp 48) (.tmp 49) rfl kr (mc m) (mc m) rfl rfl eqGuardType32 _ true (EQ _) rfl ?_)|((with_reducible refine gL 30 11 ?_);refine lx 30 (.tmp 11) (tc f g h (.slice a1 n c1)) (B.row 4 rfl) ?_)|((with_reducible refine gL 30 5 ?_);refine m2m ?_)|(go_at_call 21;go_fit (CS _ _ _ (B.map 1 rfl) (B.map 0 rfl));rintro e w5 ⟨rfl,hb5⟩;clear CS;replace B:=B.below hb5;clear hb5)|(go_at_call 21;go_fit (CT _ _ _ (B.map 2 rfl) (B.map 3 rfl));rintro e w5 ⟨rfl,hb5⟩;clear CT;replace B:=B.below hb5;clear hb5)|(go_at_call 18;go_fit (CBs _);refine m0w ?_;clear B;intro w5 B))
 go_ret
 exact⟨rfl,B.base⟩
theorem sZbn11{p:Prop}(h:p:=by
 rw[e];rintro e w' ⟨v',rfl,h1,-,h2,h3⟩;exact⟨v',rfl,h1,.inr h2,h3⟩):p:=h
theorem qy2b(f:Nat->Int)(g:Nat->Bool)(h:Nat->Int)(sl:Value)(ms:List Mp)(m:Mp)(hwF:wfF f)(hwH:wfH h):
  ∃(f' h':Nat->Int) (ms':List Mp) (gv:Bool) (er:Int),wfF f'/\wfH h'/\
   (∀v w,qaz w v ms->Calls prog 22 #[.agg (tc f g h v),.agg (mc m)] w fun e w'=>∃v',e=.returned (.tuple #[.agg (tc f' g h' v'),.bool gv,I Z er])/\qaz w' v' ms'/\(v'=v\/(0<ms'.length->w.heap.size<=mb v'))/\Below w.heap.size w w')/\
   (∀w,qaz w sl ms->Calls prog 23 #[.agg (tc f g h sl),.agg (mc m)] w fun e w'=>∃v',e=.returned (.tuple #[.agg (tc f' g h' v'),.bool gv,I Z er])/\qaz w' v' ms'/\(v'=sl\/(0<ms'.length->w.heap.size<=mb v'))/\Below w.heap.size w w'):=by
 (have CG:=fun w hM=>qyhb f g h sl ms hwH w hM)
 by_cases G:qbq f h ms
 ·by_cases hm:m∈ms
  ·cases ha:(qa6 ms m).any (fun o=>qa7 o==qa7 m) with
   | true=>
    have G2:=q1v G hm ha
    refine⟨f,h,qa6 ms m,false,0,hwF,hwH,fun v w hM=>(q67 f g h v ms m hwH w hM G hm ha).mono ?_,fun w hM=>(qm4b f g h sl ms m CG G w hM).mono ?_⟩
    ·rintro e w' ⟨v',rfl,h1,-,h2,h3⟩;exact⟨v',rfl,h1,.inr h2,h3⟩
    ·rintro e w' ⟨⟨-,hc⟩,hb⟩
     obtain⟨v',h1,h2,h3,-⟩:=hc hm
     exact⟨v',h3 ha,h1,.inr h2,hb⟩
   | false=>
    have G2:=q32 G hm ha
    have HR:∀(er:Int) w,qaz w sl ms->Calls prog 23 #[.agg (tc f g h sl),.agg (mc m)] w fun e w'=>∃v',e=.returned (.tuple #[.agg (tc (qdx f m) g (qux f h m) v'),.bool true,I Z 0])/\qaz w' v' (qa6 ms m)/\(v'=sl\/(0<(qa6 ms m).length->w.heap.size<=mb v'))/\Below w.heap.size w w':=fun er w hM=>(qm4b f g h sl ms m CG G w hM).mono (by
     rintro e w' ⟨⟨-,hc⟩,hb⟩
     obtain⟨v',h1,h2,-,h3⟩:=hc hm
     exact⟨v',h3 ha,h1,.inr h2,hb⟩)
    by_cases hz:(qbk (qdx f m) m.2.1).length=0
    ·rw[if_pos (show(qbk (upd f (qa7 m) 0) m.2.1).length=0 from hz)] at G2
     (have e:qux f h m=upd h m.2.1.toNat 0:=by unfold qux;rw[if_pos hz])
     refine⟨qdx f m,qux f h m,qa6 ms m,true,0,qpn G2.pool,by rw[e];exact qbq.wf G2,fun v w hM=>(qzw f g h v ms m hwH w hM G hm ha hz).mono ?_,HR 0⟩
     exact sZbn11
    ·rw[if_neg (show ¬(qbk (upd f (qa7 m) 0) m.2.1).length=0 from hz)] at G2
     (have e:qux f h m=h:=by unfold qux;rw[if_neg hz])
     refine⟨qdx f m,qux f h m,qa6 ms m,true,0,qpn G2.pool,by rw[e];exact hwH,fun v w hM=>(qy2 f g h v ms m hwH w hM G hm ha hz).mono ?_,HR 0⟩
     exact sZbn11
  ·refine⟨f,h,ms,false,7,hwF,hwH,fun v w hM=>(qy8b f g h v ms m hwH G hm w hM).mono ?_,fun w hM=>(qm4b f g h sl ms m CG G w hM).mono ?_⟩
   ·rintro e w' ⟨rfl,hb⟩;exact⟨v,rfl,hM.below hb,.inl rfl,hb⟩
   ·rintro e w' ⟨⟨hc,-⟩,hb⟩;exact⟨sl,hc hm,hM.below hb,.inl rfl,hb⟩
 ·refine⟨f,h,ms,false,2,hwF,hwH,fun v w hM=>(qzeb f g h v ms m hwH G w hM).mono ?_,fun w hM=>(qy0b f g h sl ms m CG G w hM).mono ?_⟩
  ·rintro e w' ⟨rfl,hb⟩;exact⟨v,rfl,hM.below hb,.inl rfl,hb⟩
  ·rintro e w' ⟨rfl,hb⟩;exact⟨sl,rfl,hM.below hb,.inl rfl,hb⟩
theorem qy6b(f:Nat->Int)(g:Nat->Bool)(h:Nat->Int)(sl:Value)(ms:List Mp)(m:Mp)(hwF:wfF f)(hwH:wfH h)(hno:qcs sl)(hln:ms.length<=3518437208883)(w:World)(hM:qaz w sl ms):
  Calls prog 5 #[.agg (tc f g h sl),.agg (mc m)] w fun e w'=>e=.returned (.bool true)/\Below w.heap.size w w':=by
 have B:=Bd.startM hM;(have CC:=fun w hM=>qyjb f g h sl ms hno hln w hM);obtain⟨f',h',ms',gv,er,hf',hh',CP,CR⟩:=qy2b f g h sl ms m hwF hwH;(have CS:=fun v v2 w hM hM2=>qvmb f' g h' v v2 ms' hf' hh' w hM hM2);(have CT:=fun v v2 w hM hM2=>qvmb f g h v v2 ms hwF hwH w hM hM2);(have CBs:=fun w=>qyob w)
 obtain⟨a0,cap,hsl,-⟩:=id hM
 obtain⟨n,hn⟩:∃n,n=ms.length:=⟨_,rfl⟩
 have HN:Hid (n=ms.length):=hn
 rw[←hn] at hsl
 subst hsl
 obtain⟨n2,hn2⟩:∃n,n=ms'.length:=⟨_,rfl⟩
 have HN2:Hid (n2=ms'.length):=hn2;clear hn hn2 hno hln hwF hwH hf' hh' hM
 go_enter func5,ntmps5
 go_wp2_with (first|((with_reducible refine gB 30 0 ?_);refine m0v ?_;refine m3x ?_;clear B;intro b2 w9 B)|((with_reducible refine gB 32 1 ?_);refine m2z ?_;clear B;intro b3 w9 B)|((with_reducible refine gL 30 2 ?_);refine lx 30 (.tmp 2) (tc f g h (.slice a0 n cap)) (B.row 1 rfl) ?_)|(go_at_call 10;go_fit (CC _ (B.map 0 rfl));rintro e w5 ⟨v5,rfl,hM5,hN5,hl5,hb5⟩;clear hN5;(obtain⟨a1,c1,hv,-⟩:=id hM5);rw[←HN.out] at hv;subst hv;replace B:=B.addNew hb5 hM5 hl5;clear hb5 hl5 hM5)|((with_reducible refine gA 30 ?_);refine ax 5 30 qb8 ?_;refine m4e ?_;clear B;intro b5 w9 B)|((with_reducible refine gS 30 5 13 ?_);refine qab 30 rfl (.tmp 5) _ rfl b5 rfl (tc f g h (.slice a1 n c1)) rfl _ (B.row 0 rfl) (qen _ _ _ _ _ _ _ _) (qaq _ _ _ _) (qbm _ _ _ _ _ _) ?_;refine m09 ?_;clear B;intro w9 B)|((with_reducible refine gL 30 5 ?_);refine lx 30 (.tmp 5) (tc f g h (.slice a1 n c1)) (B.row 0 rfl) ?_)|((with_reducible refine gL 32 3 ?_);refine lx 32 (.tmp 3) (mc m) (B.row 1 rfl) ?_)|(go_at_call 22;go_fit (CP _ _ (B.map 0 rfl));rintro e w5 ⟨v5,rfl,hM5,ho5,hb5⟩;clear CP;(obtain⟨a2,c2,hv,-⟩:=id hM5);rw[←HN2.out] at hv;subst hv;replace B:=B.addOr 0 rfl hb5 hM5 ho5;clear hb5 ho5 hM5)|((with_reducible refine gA 30 ?_);refine ax 6 30 qb8 ?_;intro b6 w9 l9 R9 h9;replace B:=B.alloc l9 R9 h9;clear R9 h9 l9)|((with_reducible refine gS 30 6 18 ?_);refine qab 30 rfl (.tmp 6) _ rfl b6 rfl (tc f' g h' (.slice a2 n2 c2)) rfl _ (B.row 0 rfl) (qen _ _ _ _ _ _ _ _) (qaq _ _ _ _) (qbm _ _ _ _ _ _) ?_;refine m09 ?_;clear B;intro w9 B)|((with_reducible refine gL 30 2 ?_);refine lx 30 (.tmp 2) (tc f g h (.slice a0 n cap)) (B.row 3 rfl) ?_)|((with_reducible refine gL 32 3 ?_);refine lx 32 (.tmp 3) (mc m) (B.row 2 rfl) ?_)|(go_at_call 23;go_fit (CR _ (B.map 2 rfl));rintro e w5 ⟨v5,rfl,hM5,ho5,hb5⟩;clear CR;(obtain⟨a3,c3,hv,-⟩:=id hM5);rw[←HN2.out] at hv;subst hv;replace B:=B.addOr 2 rfl hb5 hM5 ho5;clear hb5 ho5 hM5)|((with_reducible refine gA 30 ?_);refine ax 9 30 qb8 ?_;intro b9 w9 l9 R9 h9;replace B:=B.alloc l9 R9 h9;clear R9 h9 l9)|((with_reducible refine gS 30 9 25 ?_);refine qab 30 rfl (.tmp 9) _ rfl b9 rfl (tc f' g h' (.slice a3 n2 c3)) rfl _ (B.row 0 rfl) (qen _ _ _ _ _ _ _ _) (qaq _ _ _ _) (qbm _ _ _ _ _ _) ?_;refine m09 ?_;clear B;intro w9 B)|((with_reducible refine gL 30 6 ?_);refine lx 30 (.tmp 6) (tc f' g h' (.slice a2 n2 c2)) (B.row 1 rfl) ?_)|((with_reducible refine gL 30 9 ?_);refine lx 30 (.tmp 9) (tc f' g h' (.slice a3 n2 c3)) (B.row 0 rfl) ?_)|((with_reducible refine gL 30 5 ?_);refine lx 30 (.tmp 5) (tc f g h (.slice a1 n c1)) (B.row 2 rfl) ?_)|((with_reducible refine gL 30 2 ?_);refine lx 30 (.tmp 2) (tc f g h (.slice a0 n cap)) (B.row 4 rfl) ?_)|(go_at_call 21;go_fit (CS _ _ _ (B.map 1 rfl) (B.map 0 rfl));rintro e w5 ⟨rfl,hb5⟩;clear CS;replace B:=B.below hb5;clear hb5)|(go_at_call 21;go_fit (CT _ _ _ (B.map 2 rfl) (B.map 3 rfl));rintro e w5 ⟨rfl,hb5⟩;clear CT;replace B:=B.below hb5;clear hb5)|(go_at_call 18;go_fit (CBs _);refine m0w ?_;clear B;intro w5 B))
 go_ret
 exact⟨rfl,B.base⟩
end Go.Proofs.Ytbboabfmoahipaa
