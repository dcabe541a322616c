/-
  Of what a law stands on.
-/
import Derived.Test.YtonnjgmognbnbaaGreatDoorZtTpO
import Derived.Test.YtonnjgmognbnbaaGreatDoorZtTpD
set_option linter.unusedSimpArgs false
set_option linter.unusedVariables false
namespace Go.Proofs.YtonnjgmognbnbaaGreatDoor
open Go.Value renaming int → I,pointer → V
open Go.IntKind renaming i64 → Z
open _root_.Go.Proofs.Tryz Go.ChangeShapes Go.WideShapes Go.ChangeAt Go.RowKit Go.Maps
set_option maxHeartbeats 16000000
set_option maxRecDepth 100000
variable {j:Nat}{p:Prop}
theorem qbwb(w:World):(zeroValue 35).run prog w=.ok (.agg (pc (fun _=>0) (fun _=>false))) w:=by kernel_rfl
theorem qcab(f:Nat->Int)(g:Nat->Bool)(f':Nat->Int)(g':Nat->Bool):(pc f g).size=(pc f' g').size:=by unfold pc;rfl
theorem qchb(f:Nat->Int)(g:Nat->Bool)(h:Nat->Int)(a:Option Addr)(n c:Nat)(w:World):(Instr.field 39 (.agg (tc f g h (.slice a n c))) 0).run prog w=.ok (.agg (pc f g)) w:=by kernel_rfl
theorem qb1b{ops:Array Oper}{rest:List Oper}{o:Oper}{a:Act}{w:World}{Q:Exit->Act->World->Prop}(hgd:o.guard=none)(x:Operand)(ho:o.op=.field 39 x 0)(f:Nat->Int)(g:Nat->Bool)(h:Nat->Int)(sa:Option Addr)(n c:Nat)(hx:a.eval x=.agg (tc f g h (.slice sa n c)))(hr:wpList prog ops Q rest (a.put o.dst (.agg (pc f g))) w):wpList prog ops Q (o::rest) a w:=
 wpList_plain hgd fun K hK=>by
  unfold Oper.wp execOp
  simp only[ho,hx,Sem.run_bind,qchb,Result.andThen_ok,Sem.run_pure]
  exact hK _ _ hr
theorem qclb(h:j<3):j=0\/j=1\/j=2:=by omega
theorem six{k:Nat}(h:k<6):k=0\/k=1\/k=2\/k=3\/k=4\/k=5:=by omega
theorem qcmb(f:Nat->Int)(g:Nat->Bool)(j k:Nat)(hj:j<3)(hk:k<6):(pc f g)[6*j+k]?=some (I Z (f (6*j+k))):=by
 rcases qclb hj with rfl|rfl|rfl<;>rcases six hk with rfl|rfl|rfl|rfl|rfl|rfl<;>rfl
theorem qbxb(f:Nat->Int)(g:Nat->Bool)(j:Nat)(hj:j<3):(pc f g)[18+j]?=some (.bool (g j)):=by
 rcases qclb hj with rfl|rfl|rfl<;>rfl
theorem qcgb(h:Nat->Int):(prog.info? 31).map (·.size)=some (r6 h).toList.length:=by kernel_rfl
theorem qcib{W:World}{b:Nat}{f:Nat->Int}{g:Nat->Bool}(R:Row 35 W b (pc f g))(hj:j<3):W.rangeAt b (6*j) (r6 (rowF f j)).toList:=fun k v hv=>by
 (have hk:k<6:=by have:=(List.getElem?_eq_some_iff.1 hv).1;simpa[r6] using this);rw[R.cell,qcmb f g j k hj hk,←hv]
 rcases six hk with rfl|rfl|rfl|rfl|rfl|rfl<;>rfl
theorem ix3b(b o l:Nat)(h:l<3)(w:World):(Instr.indexAt 33 (V (some ⟨b,o,none⟩)) (I Z (l:Int))).run prog w=.ok (V (some ⟨b,o+l,none⟩)) w:=by
 (have hn:((l:Int)).toNat<3:=by omega);(have hl:(l:Int)<3:=by omega);(have hs:(sizeOf 4).run prog w=.ok 1 w:=by kernel_rfl)
 simp[go_sem,h,hn,hl,underlying33,hs]
theorem sZtTpJ1(h:p:=by
 refine m5i ?_;refine tq 13 (.bool false) rfl kS ?_;refine m1f ?_;clear kS
 go_wp2_with fail
 go_roundw
 case rel=>first|exact⟨j+1,by omega,by go_num,hB,R8⟩|((repeat apply Exists.intro);exact⟨⟨j+1,by omega,by go_num,hB,R8⟩,rfl⟩)|((repeat apply Exists.intro);exact⟨⟨j+1,by omega,by go_num,hB,R8⟩,rfl,rfl⟩)
 case measure=>first|exact HM1.out|(rw[hjw];exact HM1.out)):p:=h
theorem sZtTpJ2(h:p:=by
 go_wp2_with fail
 go_roundw
 case rel=>first|exact⟨k+1,by omega,by go_num,hB,R8⟩|((repeat apply Exists.intro);exact⟨⟨k+1,by omega,by go_num,hB,R8⟩,rfl⟩)|((repeat apply Exists.intro);exact⟨⟨k+1,by omega,by go_num,hB,R8⟩,rfl,rfl⟩)
 case measure=>first|exact HM2.out|(rw[hkw];exact HM2.out)):p:=h
theorem sZtTpJ3(h:p:=by
 refine m5i ?_;refine tq 12 (.bool false) rfl kS ?_
 exact sZtTpJ1):p:=h
theorem qb2b(bw:Nat)(G:Nat->Prop)(hGw:G bw)(f0:Nat->Int)(g0:Nat->Bool)(a:Ac)(r:Rp)(s:Nt)(F:Nat->Prop)(b:Nat)(W:World)(hN:qaw W b s (duF s.fs) F)(hml:s.ms.length<=1000)(Rw:Row 35 W bw (pc f0 g0))(hdry:Dry g0 f0 s.f):
  Calls prog 42 #[V (some ⟨b,0,none⟩),.agg (ac a),.agg r.cells,V (some ⟨bw,0,none⟩)] W fun e w'=>e=.returned (.bool true)/\Gr G W w'/\Row 35 w' bw (pc s.f s.g):=by
 have hB:=Below.refl W.heap.size W;(have CT:=fun W (hN:qaw W b s (duF s.fs) F)=>qfa hN hml);have HGW:Hid (G bw):=hidN hGw
 generalize s.ms.length=nm at CT
 (have CE:=fun(a:Int) w=>qb7b s.f s.g a w);(have CLe:=fun(a:Int) w=>qqh s.f s.g a w)
 unfold plv at CE CLe
 obtain⟨f,hf⟩:∃f,f=s.f:=⟨_,rfl⟩
 obtain⟨g,hg⟩:∃g,g=s.g:=⟨_,rfl⟩
 obtain⟨h,hh⟩:∃h,h=s.h:=⟨_,rfl⟩
 rw[←hf,←hg,←hh] at CT
 rw[←hf,←hg] at CE CLe
 rw[←hf,←hg];have HDRY:Hid (Dry g0 f0 f):=hidN (by rw[hf];exact hdry);clear hGw hdry hml hf hg hh
 go_enter func42,ntmps42
 go_wp2_with (first|((with_reducible refine gB 23 1 ?_);refine m4v ?_;intro b5 w9 l9 R9 h9;replace hB:=hB.trans (h9.mono hB.size);clear h9 l9 R9)|((with_reducible refine gB 27 2 ?_);refine bx 27 (.tmp 2) r.cells ?_;intro b6 w9 l9 R9 h9;replace hB:=hB.trans (h9.mono hB.size);clear h9 l9 R9)|(go_at_call 21;go_fit (CT _ (hN.below hB));rintro e w5 ⟨sa,kc,rfl,-,-,-,hb5⟩;clear CT;refine m2s ?_;clear hB;intro hB;clear hb5)|((with_reducible refine qaa (.field 39 (.tmp 13) 0) rfl ?_);refine qb1b rfl (.tmp 13) rfl f g h sa nm kc rfl ?_)|((with_reducible refine gA 35 ?_);refine ax 8 35 qbwb ?_;intro b8 w9 l9 R9 h9;have HL8:Hid (W.heap.size<=b8):=hidN (Nat.le_trans hB.size l9);replace hB:=hB.trans (h9.mono hB.size);have R8:=R9;clear h9 l9 R9)|((with_reducible refine gS 35 8 14 ?_);refine sx 35 (.tmp 8) _ (pc f g) R8 ?_;intro w9 R9 t9;replace hB:=t9.below W.heap.size W HL8.out hB;replace R8:Row 35 w9 b8 (pc f g):=R9;clear R9 t9))
 go_loopw [15] (fun i W1=>∃j:Nat,j<=3/\i=I Z (j:Int)/\Below W.heap.size W W1/\Row 35 W1 b8 (pc f g)) (fun i _=>3-(intOf i).toNat)
 case atStart=>exact⟨0,by omega,rfl,hB,R8⟩
 case round=>
  clear hB R8
  obtain⟨j,hj,rfl,hB,R8⟩:=hrel
  by_cases hj3:j<3
  ·(have hji:(j:Int)<3:=by omega);have HM1:=qha hj3;have hjw:=qhl (p:=j) om;(have I1:=fun w=>idxA b8 j hj3 w)
   go_wp2_with ((with_reducible refine gL 31 20 ?_);refine wpList_load_mid rfl 31 (.tmp 20) rfl _ _ rfl (r6 (rowF f j)).toList _ (qcib R8 hj3) underlying31 rfl (qcgb _) ?_;refine m2h ?_)
   go_loopw [22] (fun i W1=>∃k:Nat,k<=6/\i=I Z (k:Int)/\Below W.heap.size W W1/\Row 35 W1 b8 (pc f g)) (fun i _=>6-(intOf i).toNat)
   case atStart=>exact⟨0,by omega,rfl,hB,R8⟩
   case round=>
    clear hB R8
    obtain⟨k,hk,rfl,hB,R8⟩:=hrel
    by_cases hk6:k<6
    ·(have hki:(k:Int)<6:=by omega);have HM2:=qha hk6;have hkw:=qhl (p:=k) om;(have hix:=fun w=>q5y (rowF f j) k hk6 w);(have I2:=fun w=>idxA bw j hj3 w);(have I3:=fun w=>idxK bw j k hk6 w);(have I4:=fun w=>ix3b bw 18 j hj3 w);(have hrw:rowF f j k=f (6*j+k):=by unfold rowF;rfl);have hd:=HDRY.out j hj3
     rw[hrw] at hix
     have cw:World.cell? _ ⟨bw,18+j,none⟩=some (.bool (g0 j)):=((Rw.below hB).cell (18+j)).trans (qbxb f0 g0 j hj3);have co:World.cell? _ ⟨bw,6*j+k,none⟩=some (I Z (f0 (6*j+k))):=((Rw.below hB).cell (6*j+k)).trans (qcmb f0 g0 j k hj3 hk6)
     cases hgj:g0 j with
     | false=>
      rw[hgj] at cw
      clear hd
      exact sZtTpJ2
     | true=>
      rw[hgj] at cw
      cases ho:(f (6*j+k) != 0) with
      | false=>
       clear hd
       exact sZtTpJ2
      | true=>
       have e:=hd hgj k hk6 (by simpa using ho);(have hne:(f0 (6*j+k) != f (6*j+k))=false:=by rw[e];simp);clear hd e
       exact sZtTpJ2
    ·(have hki:¬(k:Int)<6:=by omega);(have CEj:=fun w=>CE (j:Int) w);(have CLf:=fun w=>CLe (j:Int) w)
     rw[qbyb hj3] at CEj
     clear hk hk6
     cases hgj:g j with
     | false=>
      have HGJ:Hid (g j=false):=hgj
      rw[hgj] at CEj
      simp only[Bool.false_and] at CEj
      have CE:=CEj;clear CEj hgj
      go_upto_region 11 with fail
      have kS:=R8
      refine RD (fun W=>Row 35 W b8 (pc f g)) kS (fun _=>?_)
      replace hB:=qpv hB;replace R8:Row 35 (World.drew _) b8 (pc f g):=R8
      refine tk 0 (.agg (pc f g)) rfl (yx 35 (.tmp 8) (pc f g) (fun _ h=>h)) kS (tq 1 (I Z (j:Int)) rfl kS (tq 3 (I Z (j:Int)) rfl kS ?_))
      refine m5i ?_
      refine tq 4 (V (some ⟨b8,18,none⟩)) rfl kS (tk 5 (V (some ⟨b8,(18+j),none⟩)) rfl (qgk 33 (.tmp 49) (.tmp 48) rfl kr _ _ _ kr kr (fun w=>ix3b b8 18 j hj3 w)) kS (tk 6 (.bool false) rfl (Or.inl ⟨by kernel_rfl,by intro w hS;have hc:=(hS.cell (18+j)).trans (qbxb f g j hj3);rw[HGJ.out] at hc;go_simp⟩) kS ?_))
      refine m5i ?_;refine AR [2] ?_
      refine AC (fun K hK=>?_) AZ
      go_simp;go_at_call 43;refine(CE _).mono ?_;refine m52 ?_;clear hB R8 kS;intro w8 hB R8 kS
      go_wp2_with fail
      refine hK.out _ _ kS (fun _=>?_)
      clear hK K;(try simp only[ZZ]);refine tq 7 (.bool false) rfl kS (tk 8 undef rfl (Or.inr ⟨by kernel_rfl,rfl⟩) kS (tk 9 undef rfl (Or.inr ⟨by kernel_rfl,rfl⟩) kS ?_));refine m5i ?_;refine AR [10] ?_
      refine AC (fun K hK=>?_) AZ
      rw[if_neg (ne_true_of_eq_false kr)]
      refine hK.out _ _ kS (fun _=>?_)
      clear hK K;(try simp only[ZZ]);refine tk 11 undef rfl (Or.inr ⟨by kernel_rfl,rfl⟩) kS ?_
      exact sZtTpJ3
     | true=>
      have HGJ:Hid (g j=true):=hgj
      rw[hgj] at CEj
      simp only[Bool.true_and] at CEj
      generalize qe8 f (j:Int)=lp at *
      cases he:(lp==6) with
      | false=>
       have HE:Hid ((lp==6)=false):=he
       rw[he] at CEj
       have CE:=CEj;clear CEj hgj
       go_upto_region 11 with fail
       have kS:=R8
       refine RD (fun W=>Row 35 W b8 (pc f g)) kS (fun _=>?_)
       replace hB:=qpv hB;replace R8:Row 35 (World.drew _) b8 (pc f g):=R8
       refine tk 0 (.agg (pc f g)) rfl (yx 35 (.tmp 8) (pc f g) (fun _ h=>h)) kS (tq 1 (I Z (j:Int)) rfl kS (tq 3 (I Z (j:Int)) rfl kS ?_))
       refine m5i ?_
       refine tq 4 (V (some ⟨b8,18,none⟩)) rfl kS (tk 5 (V (some ⟨b8,(18+j),none⟩)) rfl (qgk 33 (.tmp 49) (.tmp 48) rfl kr _ _ _ kr kr (fun w=>ix3b b8 18 j hj3 w)) kS (tk 6 (.bool true) rfl (Or.inl ⟨by kernel_rfl,by intro w hS;have hc:=(hS.cell (18+j)).trans (qbxb f g j hj3);rw[HGJ.out] at hc;go_simp⟩) kS ?_))
       refine m5i ?_;refine AR [2] ?_
       refine AC (fun K hK=>?_) AZ
       go_simp;go_at_call 43;refine(CE _).mono ?_;refine m52 ?_;clear hB R8 kS;intro w8 hB R8 kS
       go_wp2_with fail
       refine hK.out _ _ kS (fun _=>?_)
       clear hK K;(try simp only[ZZ])
       refine tq 7 (.bool true) rfl kS (tk 8 (.agg (pc f g)) rfl (yx 35 (.tmp 8) (pc f g) (fun _ h=>h)) kS (tq 9 (I Z (j:Int)) rfl kS ?_))
       refine m5i ?_;refine AR [10] ?_
       refine AC (fun K hK=>?_) AZ
       go_simp;go_at_call 44;refine(CLf _).mono ?_;refine m52 ?_;clear hB R8 kS;intro w8 hB R8 kS
       go_wp2_with fail
       refine hK.out _ _ kS (fun _=>?_)
       clear hK K;(try simp only[ZZ]);refine tk 11 (.bool false) rfl (Or.inl ⟨by kernel_rfl,by intro w hS;have hc:=HE.out;go_simp⟩) kS ?_
       exact sZtTpJ3
      | true=>
       have HE:Hid ((lp==6)=true):=he
       rw[he] at CEj
       have CE:=CEj;clear CEj hgj
       go_upto_region 11 with fail
       have kS:=R8
       refine RD (fun W=>Row 35 W b8 (pc f g)) kS (fun _=>?_)
       replace hB:=qpv hB;replace R8:Row 35 (World.drew _) b8 (pc f g):=R8
       refine tk 0 (.agg (pc f g)) rfl (yx 35 (.tmp 8) (pc f g) (fun _ h=>h)) kS (tq 1 (I Z (j:Int)) rfl kS (tq 3 (I Z (j:Int)) rfl kS ?_))
       refine m5i ?_
       refine tq 4 (V (some ⟨b8,18,none⟩)) rfl kS (tk 5 (V (some ⟨b8,(18+j),none⟩)) rfl (qgk 33 (.tmp 49) (.tmp 48) rfl kr _ _ _ kr kr (fun w=>ix3b b8 18 j hj3 w)) kS (tk 6 (.bool true) rfl (Or.inl ⟨by kernel_rfl,by intro w hS;have hc:=(hS.cell (18+j)).trans (qbxb f g j hj3);rw[HGJ.out] at hc;go_simp⟩) kS ?_))
       refine m5i ?_;refine AR [2] ?_
       refine AC (fun K hK=>?_) AZ
       go_simp;go_at_call 43;refine(CE _).mono ?_;refine m52 ?_;clear hB R8 kS;intro w8 hB R8 kS
       go_wp2_with fail
       refine hK.out _ _ kS (fun _=>?_)
       clear hK K;(try simp only[ZZ])
       refine tq 7 (.bool true) rfl kS (tk 8 (.agg (pc f g)) rfl (yx 35 (.tmp 8) (pc f g) (fun _ h=>h)) kS (tq 9 (I Z (j:Int)) rfl kS ?_))
       refine m5i ?_;refine AR [10] ?_
       refine AC (fun K hK=>?_) AZ
       go_simp;go_at_call 44;refine(CLf _).mono ?_;refine m52 ?_;clear hB R8 kS;intro w8 hB R8 kS
       go_wp2_with fail
       refine hK.out _ _ kS (fun _=>?_)
       clear hK K;(try simp only[ZZ]);refine tk 11 (.bool true) rfl (Or.inl ⟨by kernel_rfl,by intro w hS;have hc:=HE.out;go_simp⟩) kS (tq 12 (.bool true) rfl kS ?_)
       exact sZtTpJ1
  ·(have hji:¬(j:Int)<3:=by omega)
   go_wp2_with (first|((with_reducible refine gL 35 8 ?_);refine lx 35 (.tmp 8) (pc f g) R8 ?_)|((with_reducible refine gS 35 3 60 ?_);refine sx 35 (.tmp 3) _ (pc f g) (Rw.below hB) ?_;intro w9 R9 t9;have HGR:Hid (Gr G W w9):=hidN ((Gr.of_below hB).trans (qcq t9) (fun x hx=>.inl (by rw[hx];exact HGW.out)));have Rn:Row 35 w9 bw (pc f g):=R9;clear R9 t9))
   go_ret
   exact⟨rfl,HGR.out,Rn⟩
def JD(loose:Bool)(bw:Nat)(l:List Ac)(G:Nat->Prop)(W:World):Prop:=Row 35 W bw (pc ((nt0 loose).runs l).f ((nt0 loose).runs l).g)/\∀c,G c↔c=bw
theorem qb0b(loose:Bool)(bw:Nat):Look loose 42 #[V (some ⟨bw,0,none⟩)] (JD loose bw):=by
 refine⟨fun args w=>by kernel_rfl,?_,?_,?_⟩
 ·rintro l G H W W' ⟨h1,hG⟩ hg hd
  exact⟨(hg.block _ h1.lt (fun hh=>hd _ hh ((hG _).2 rfl))).trans h1,hG⟩
 ·rintro l G W ⟨h1,hG⟩ c hc
  rw[(hG c).1 hc];exact h1.lt
 ·rintro l a W b F G hl ha hN hT hF0 hd ⟨h1,hG⟩;have hinv:=qjr loose l om;have hdry:=qcpb ((nt0 loose).runs l) a;have hml:=(hinv.ci.act a).good.len;have hrs:(nt0 loose).runs (l++[a])=(((nt0 loose).runs l).act a).2:=qih _ _ _;refine(qb2b bw G ((hG _).2 rfl) _ _ a _ _ F b W hN om h1 hdry).mono ?_;rintro e w' ⟨he,hg,hr⟩
  exact⟨he,G,⟨by rw[hrs];exact hr,hG⟩,hg,fun c hc=>.inl hc⟩
theorem topDrained_walk(a0:Bool)(sl:Value)(es:List Ac)(W:World)(hS:AcIn W sl es)(hT:Tab W):Calls prog 11 #[.bool a0,sl] W fun e w'=>e=.returned (.bool true)/\Below W.heap.size W w':=by
 refine m63 ?_;intro HS HT;(have CP:=fun bw W' (hl:W.heap.size<=bw) (R:Row 35 W' bw (pc (fun _=>0) (fun _=>false))) (hB:Below W.heap.size W W')=>qjp (G0:=fun c=>c=bw) (qb0b a0 bw) sl es W' (HS.out.1.below hB) HS.out.2 (HT.out.below hB) (fun h=>by have:=HT.out.lt;omega) ⟨R,fun _=>Iff.rfl⟩ (fun h0 h=>by have h:eb sl=bw:=h;have:=HS.out.1.lt h0;omega));obtain⟨x0,cap,hsl⟩:=hS.1.slice
 generalize es.length=n at *
 subst hsl
 clear hS hT
 go_enter func11,ntmps11
 go_wp2_with (first|((with_reducible refine gA 35 ?_);refine ax 5 35 qbwb ?_;intro b5 w9 l9 R9 h9)|(go_at_call 23;refine(CP b5 _ l9 R9 h9).mono ?_;rintro e w1 ⟨b,rfl,F,G,hP⟩;clear CP;have hB:=h9.trans (hP.gr.below (B:=W.heap.size) (fun c h=>by have h:c=b5:=h;omega) h9.size);clear hP))
 go_ret
 exact⟨rfl,hB⟩
end Go.Proofs.YtonnjgmognbnbaaGreatDoor
