/-
  Of what a law stands on.
-/
import Derived.Test.YtonnjgmognbnbaaGreatDoorZtTpH
set_option linter.unusedSimpArgs false
set_option linter.unusedVariables false
namespace Go.Proofs.YtonnjgmognbnbaaGreatDoor
open Go.Value renaming int → I,pointer → V
open Go.IntKind renaming i64 → Z
open _root_.Go.Proofs.Tryz Go.ChangeShapes Go.WideShapes Go.ChangeAt Go.RowKit Go.Maps
set_option maxHeartbeats 16000000
set_option maxRecDepth 100000
theorem q4c(c:Int)(inn:Bool)(lg fr:ByteArray)(hfr:fr=ByteArray.empty)(a:Ac)(b:Nat)(W:World):Calls prog 46 #[V (some ⟨b,0,none⟩),.agg (ac a),.agg (Rp.cells ⟨c,fr,inn,lg⟩)] W fun e w'=>e=.returned (.bool true)/\Below W.heap.size W w':=by
 have B:=Bd.start W;have HF:Hid (fr=ByteArray.empty):=hfr;clear hfr
 go_enter func46,ntmps46
 go_wp2_with (first|((with_reducible refine gB 23 1 ?_);refine m4v ?_;refine m72 ?_;clear B;intro b4 w9 B)|((with_reducible refine gB 27 2 ?_);refine m3d ?_;intro b5 w9 l9 R9 h9;replace B:=B.alloc l9 R9 h9;clear R9 h9 l9)|((with_reducible refine gL 9 9 ?_);refine qcm (B.row 0 rfl) (.tmp 9) rfl kr 1 rfl (ByteArray.empty) (by rw[qe4,HF.out]) ?_))
 go_ret
 exact⟨rfl,B.base⟩
theorem q3q(inn:Bool)(lg fr:ByteArray)(k:Pkt)(hg:good k=0)(hfr:fr=txt (frame k))(a:Ac)(b:Nat)(W:World):Calls prog 46 #[V (some ⟨b,0,none⟩),.agg (ac a),.agg (Rp.cells ⟨0,fr,inn,lg⟩)] W fun e w'=>e=.returned (.bool true)/\Below W.heap.size W w':=by
 have B:=Bd.start W;have hlen:28<=(frame k).length/\(frame k).length<=400000:=qnk k hg;(have CP:=fun w=>qch fr w (by rw[hfr,qck];omega))
 rw[hfr] at CP
 simp only[qgx,qds,(qev k hg).1,(qev k hg).2] at CP
 rw[←hfr] at CP
 (have CG:=fun w=>qke k w (by have:=qtq k hg;omega))
 simp only[qgx,hg] at CG
 (have hs:0<fr.size:=by rw[hfr,qck];omega);have hne:=qs7 hs;have hne2:fr.toList.isEmpty=false:=ql2 om;have HK:Hid (good k=0):=hg;clear hg hfr hlen hne
 go_enter func46,ntmps46
 go_wp2_with (first|((with_reducible refine gB 23 1 ?_);refine m4v ?_;refine m72 ?_;clear B;intro b4 w9 B)|((with_reducible refine gB 27 2 ?_);refine m9e ?_;intro b5 w9 l9 R9 h9;replace B:=B.alloc l9 R9 h9;clear R9 h9 l9;have cc:World.cell? _ ⟨b5,0,none⟩=some (I Z 0):=((B.row 0 rfl).cell 0).trans (qdt _))|((with_reducible refine gL 9 9 ?_);refine qcm (B.row 0 rfl) (.tmp 9) rfl kr 1 rfl (fr) (qe4 _) ?_)|((with_reducible refine gL 9 16 ?_);refine qcm (B.row 0 rfl) (.tmp 16) rfl kr 1 rfl (fr) (qe4 _) ?_)|(go_at_call 29;go_fit (CP _);rintro e w5 ⟨rfl,hb5⟩;clear CP;replace B:=B.below hb5;clear hb5)|((with_reducible refine gA 61 ?_);refine m69 ?_;intro b7 w9 l9 R9 h9;replace B:=B.alloc l9 R9 h9;clear R9 h9 l9)|((with_reducible refine gS 61 7 19 ?_);refine sx 61 (.tmp 7) _ (pcl k) (B.row 0 rfl) ?_;refine m31 ?_;clear B;intro w9 B)|((with_reducible refine gL 61 7 ?_);refine lx 61 (.tmp 7) (pcl k) (B.row 0 rfl) ?_)|(go_at_call 47;go_fit (CG _);rintro e w5 ⟨rfl,hb5⟩;clear CG;replace B:=B.below hb5;clear hb5))
 go_ret
 exact⟨rfl,B.base⟩
theorem q3o(c:Int)(hc:c≠0)(inn:Bool)(lg fr:ByteArray)(dst id:Int)(x:List UInt8)(hx:x.length=28)(hfr:fr=txt (qff dst id x))(a:Ac)(b:Nat)(W:World):Calls prog 46 #[V (some ⟨b,0,none⟩),.agg (ac a),.agg (Rp.cells ⟨c,fr,inn,lg⟩)] W fun e w'=>e=.returned (.bool true)/\Below W.heap.size W w':=by
 have B:=Bd.start W;(have hrl:(qff dst id x).length=56:=by unfold qff;rw[qk9];omega);(have hts:fr.size=56:=by rw[hfr,qck];exact hrl)
 have X2:sumT (fr.extract 0 20)=65535:=by
  unfold sumT;rw[hfr,qh7,qds];exact qv9 dst id
 have X3:sumT (fr.extract 20 56)=65535:=by
  unfold sumT;rw[hfr,qh7,qds,List.take_of_length_le (by rw[List.length_drop];omega)];exact qve _
 (have C2:=fun w=>qtk (fr.extract 0 20) w (by rw[ByteArray.size_extract];omega));(have C3:=fun w=>qtk (fr.extract 20 56) w (by rw[ByteArray.size_extract];omega))
 rw[X2] at C2
 rw[X3] at C3
 have hne:=qs7 (s:=fr) om;have hne2:fr.toList.isEmpty=false:=ql2 om;(have hc2:(c==0)=false:=by simpa using hc);clear hx hfr hrl X2 X3 hne hc
 go_enter func46,ntmps46
 go_wp2_with (first|((with_reducible refine gB 23 1 ?_);refine m4v ?_;refine m72 ?_;clear B;intro b4 w9 B)|((with_reducible refine gB 27 2 ?_);refine m3d ?_;intro b5 w9 l9 R9 h9;replace B:=B.alloc l9 R9 h9;clear R9 h9 l9;have cc:World.cell? _ ⟨b5,0,none⟩=some (I Z c):=((B.row 0 rfl).cell 0).trans (qdt _))|((with_reducible refine gL 9 9 ?_);refine qcm (B.row 0 rfl) (.tmp 9) rfl kr 1 rfl (fr) (qe4 _) ?_)|((with_reducible refine gL 9 28 ?_);refine qcm (B.row 0 rfl) (.tmp 28) rfl kr 1 rfl (fr) (qe4 _) ?_)|((with_reducible refine gL 9 33 ?_);refine qcm (B.row 0 rfl) (.tmp 33) rfl kr 1 rfl (fr) (qe4 _) ?_)|((with_reducible refine gL 9 40 ?_);refine qcm (B.row 0 rfl) (.tmp 40) rfl kr 1 rfl (fr) (qe4 _) ?_)|(go_at_call 48;first|(go_fit (C2 _);rintro e w5 ⟨rfl,rfl⟩)|(go_fit (C3 _);rintro e w5 ⟨rfl,rfl⟩)))
 go_ret
 exact⟨rfl,B.base⟩
theorem q6k(r:Rp)(l:List UInt8)(h:Sent r\/Told l r)(a:Ac)(b:Nat)(W:World):Calls prog 46 #[V (some ⟨b,0,none⟩),.agg (ac a),.agg r.cells] W fun e w'=>e=.returned (.bool true)/\Below W.heap.size W w':=by
 obtain⟨c,fr,inn,lg⟩:=r
 rcases h with(h|⟨h1,k,hg,h⟩)|⟨h1,h2,h3,id,h⟩
 ·exact q4c c inn lg fr h a b W
 ·have h1:c=0:=h1
  subst h1
  exact q3q inn lg fr k hg h a b W
 ·have hl:=(qgi l h3).1.len
  have hl2:28<=l.length:=by
   obtain⟨H,P,_⟩:=qgi l h3
   have:=qge _ H.kind
   have:=P.len
   omega
  exact q3o c h1 inn lg fr _ id _ (by rw[List.length_take];omega) h a b W
theorem q3l(loose:Bool):Look loose 46 #[] (fun _ G _=>∀c,¬G c):=by
 refine⟨fun args w=>by kernel_rfl,fun h _ _=>h,fun h c hc=>absurd hc (h c),?_⟩
 intro l a W b F G _ _ _ _ _ _ hG
 have hr:Sent (((nt0 loose).runs l).act a).1\/Told a.fr.data.toList (((nt0 loose).runs l).act a).1:=(qtc _ a).imp id (fun h=>h.2);refine(q6k _ _ hr a b W).mono ?_;rintro e w' ⟨he,hb⟩
 exact⟨he,G,hG,Gr.of_below hb,fun c hc=>.inl hc⟩
theorem topSums_walk(a0:Bool)(sl:Value)(es:List Ac)(W:World)(hS:AcIn W sl es)(hT:Tab W):Calls prog 13 #[.bool a0,sl] W fun e w'=>e=.returned (.bool true)/\Below W.heap.size W w':=by
 have CP:=qjp (G0:=fun _=>False) (q3l a0) sl es W hS.1 hS.2 hT id (fun _ h=>h) (fun _ h=>h);obtain⟨x0,cap,hsl⟩:=hS.1.slice
 generalize es.length=n at *
 subst hsl
 clear hS
 go_enter func13,ntmps13
 go_wp2_with (go_at_call 23;go_fit CP;rintro e w1 ⟨b,rfl,F,G,hP⟩;clear CP;have hB:=hP.gr.below (B:=W.heap.size) (fun _ h=>h.elim) (Nat.le_refl _);clear hP)
 go_ret
 exact⟨rfl,hB⟩
end Go.Proofs.YtonnjgmognbnbaaGreatDoor
