/-
  Of what a law stands on.
-/
import Derived.Test.YtonnjgmognbnbaaGreatDoorZtTpH
import Derived.Test.YtonnjgmognbnbaaGreatDoorZtTpR
import Derived.Test.YtonnjgmognbnbaaGreatDoorZtTpZ
set_option linter.unusedSimpArgs false
set_option linter.unusedVariables false
namespace Go.Proofs.YtonnjgmognbnbaaGreatDoor
open Go.Value renaming int → I,pointer → V
open Go.IntKind renaming i64 → Z
open _root_.Go.Proofs.Tryz Go.ChangeShapes Go.WideShapes Go.ChangeAt Go.RowKit Go.Maps
set_option maxHeartbeats 16000000
set_option maxRecDepth 100000
theorem sZtTpI1{p:Prop}(h:p:=by
 go_ret
 exact⟨rfl,HGR.out.trans (Gr.of_below (F:=fun _=>False) B.base) (fun _ h=>h.elim),_,Rn.below B.base,hm2.below B.base,HL2.out⟩):p:=h
theorem qaub(kd an dr:Int)(af:ByteArray)(c:Int)(fr:ByteArray)(inn:Bool)(lg:ByteArray)(b bw:Nat)(W:World)(G F:Nat->Prop)(hGw:G bw)(f:Nat->Int)(g:Nat->Bool)(h:Nat->Int)(v:Value)(ms:List Mp)(Rw:Row 39 W bw (tc f g h v))(hM:qaz W v ms)(hon:(tc f g h v).all (·.oneCell')=true)(hnv:0<ms.length->mb v≠bw)(s2:Nt)(hN:qaw W b s2 (duF s2.fs) F)(hml:s2.ms.length<=1000)(hk:kd≠2):Calls prog 33 #[V (some ⟨b,0,none⟩),.agg (ac ⟨kd,an,dr,af⟩),.agg (Rp.cells ⟨c,fr,inn,lg⟩),V (some ⟨bw,0,none⟩)] W fun e w'=>e=.returned (.bool true)/\Gr G W w'/\∃v2,Row 39 w' bw (tc s2.f s2.g s2.h v2)/\qaz w' v2 s2.ms/\(0<s2.ms.length->W.heap.size<=mb v2):=by
 refine m2k ?_;intro B HGW HON HNV HLW CT
 obtain⟨nm,hnm⟩:∃nm,nm=s2.ms.length:=⟨_,rfl⟩
 have HNM:Hid (nm=s2.ms.length):=hnm
 change ∀W,qaw W b s2 (duF s2.fs) F->Calls prog 21 _ W (fun e w'=>∃sa c,e=.returned (.agg (tc s2.f s2.g s2.h (.slice sa s2.ms.length c)))/\qaz w' (.slice sa s2.ms.length c) s2.ms/\qcs (.slice sa s2.ms.length c)/\(0<s2.ms.length->W.heap.size<=mb (.slice sa s2.ms.length c))/\Below W.heap.size W w') at CT
 refine m3o ?_;intro CT;(have h1:(kd==2)=false:=by simpa using hk);(have h1n:(kd != 2)=true:=by simpa using hk);clear hk;clear hGw hon hnv hnm
 go_enter func33,ntmps33
 go_wp2_with (first|((with_reducible refine gB 23 1 ?_);refine m64 ?_;refine m4x ?_;clear B;intro b5 w9 HL5 B)|((with_reducible refine gB 27 2 ?_);refine m3d ?_;intro b6 w9 l9 R9 h9;refine m6v ?_;clear B R9 h9 l9;intro HL6 B)|((with_reducible refine gL 39 3 ?_);refine m93 ?_)|((with_reducible refine gA 39 ?_);refine m5k ?_;clear B;intro b8 w9 HL8 B)|((with_reducible refine gS 39 8 15 ?_);refine m3u ?_;refine m31 ?_;clear B;intro w9 B)|(go_at_call 21;go_fit (CT _ (hN.below B.base));rintro e w5 ⟨sa,kc,rfl,hm8,-,hl8,hb8⟩;clear CT;replace hl8:=fun h0=>Nat.le_trans B.base.size (hl8 h0);replace B:=B.below hb8;clear hb8)|((with_reducible refine gS 39 3 17 ?_);refine sx 39 (.tmp 3) _ (tc s2.f s2.g s2.h (.slice sa nm kc)) (Rw.below B.base) ?_;refine m0i ?_;clear hm8 hl8 B;intro w9 HGR R5 R6 R8 hmv hm2 HL2 Rn B;have k0:World.cell? _ ⟨b5,0,none⟩=some (I Z kd):=R5.cell 0;have r0:World.cell? _ ⟨b6,0,none⟩=some (I Z c):=(R6.cell 0).trans (qdt _);have r1:World.cell? _ ⟨b6,1,none⟩=some (.string fr):=(R6.cell 1).trans (qe4 _)))
 exact sZtTpI1
theorem q8n(kd an dr:Int)(af:ByteArray)(c:Int)(fr:ByteArray)(inn:Bool)(lg:ByteArray)(b bw:Nat)(W:World)(G F:Nat->Prop)(hGw:G bw)(f:Nat->Int)(g:Nat->Bool)(h:Nat->Int)(v:Value)(ms:List Mp)(Rw:Row 39 W bw (tc f g h v))(hM:qaz W v ms)(hon:(tc f g h v).all (·.oneCell')=true)(hnv:0<ms.length->mb v≠bw)(s2:Nt)(hN:qaw W b s2 (duF s2.fs) F)(hml:s2.ms.length<=1000)(hk:kd=2)(hf:fr=ByteArray.empty)(hc:c≠0):Calls prog 33 #[V (some ⟨b,0,none⟩),.agg (ac ⟨kd,an,dr,af⟩),.agg (Rp.cells ⟨c,fr,inn,lg⟩),V (some ⟨bw,0,none⟩)] W fun e w'=>e=.returned (.bool true)/\Gr G W w'/\∃v2,Row 39 w' bw (tc s2.f s2.g s2.h v2)/\qaz w' v2 s2.ms/\(0<s2.ms.length->W.heap.size<=mb v2):=by
 refine m2k ?_;intro B HGW HON HNV HLW CT
 obtain⟨nm,hnm⟩:∃nm,nm=s2.ms.length:=⟨_,rfl⟩
 have HNM:Hid (nm=s2.ms.length):=hnm
 change ∀W,qaw W b s2 (duF s2.fs) F->Calls prog 21 _ W (fun e w'=>∃sa c,e=.returned (.agg (tc s2.f s2.g s2.h (.slice sa s2.ms.length c)))/\qaz w' (.slice sa s2.ms.length c) s2.ms/\qcs (.slice sa s2.ms.length c)/\(0<s2.ms.length->W.heap.size<=mb (.slice sa s2.ms.length c))/\Below W.heap.size W w') at CT
 refine m3o ?_;intro CT;(have h1:(c==0)=false:=by simpa using hc);(have h1n:(c != 0)=true:=by simpa using hc)
 subst hk hf
 clear hc;clear hGw hon hnv hnm
 go_enter func33,ntmps33
 go_wp2_with (first|((with_reducible refine gB 23 1 ?_);refine bx 23 (.tmp 1) (ac ⟨2,an,dr,af⟩) ?_;refine m4x ?_;clear B;intro b5 w9 HL5 B)|((with_reducible refine gB 27 2 ?_);refine bx 27 (.tmp 2) (Rp.cells ⟨c,ByteArray.empty,inn,lg⟩) ?_;intro b6 w9 l9 R9 h9;refine m6v ?_;clear B R9 h9 l9;intro HL6 B)|((with_reducible refine gL 39 3 ?_);refine m93 ?_)|((with_reducible refine gA 39 ?_);refine m5k ?_;clear B;intro b8 w9 HL8 B)|((with_reducible refine gS 39 8 15 ?_);refine m3u ?_;refine m31 ?_;clear B;intro w9 B)|(go_at_call 21;go_fit (CT _ (hN.below B.base));rintro e w5 ⟨sa,kc,rfl,hm8,-,hl8,hb8⟩;clear CT;replace hl8:=fun h0=>Nat.le_trans B.base.size (hl8 h0);replace B:=B.below hb8;clear hb8)|((with_reducible refine gS 39 3 17 ?_);refine sx 39 (.tmp 3) _ (tc s2.f s2.g s2.h (.slice sa nm kc)) (Rw.below B.base) ?_;refine m0i ?_;clear hm8 hl8 B;intro w9 HGR R5 R6 R8 hmv hm2 HL2 Rn B;have k0:World.cell? _ ⟨b5,0,none⟩=some (I Z 2):=R5.cell 0;have r0:World.cell? _ ⟨b6,0,none⟩=some (I Z c):=(R6.cell 0).trans (qdt _);have r1:World.cell? _ ⟨b6,1,none⟩=some (.string ByteArray.empty):=(R6.cell 1).trans (qe4 _)))
 exact sZtTpI1
theorem q52(k:Pkt)(a q:Int):turned k 1 a q={ k with ttl:=k.ttl-1,dst:=a,dport:=q }:=if_neg (by decide)
theorem q7l(kd an dr:Int)(af:ByteArray)(c:Int)(fr:ByteArray)(inn:Bool)(lg:ByteArray)(b bw:Nat)(W:World)(G F:Nat->Prop)(hGw:G bw)(f:Nat->Int)(g:Nat->Bool)(h:Nat->Int)(v:Value)(ms:List Mp)(Rw:Row 39 W bw (tc f g h v))(hM:qaz W v ms)(hon:(tc f g h v).all (·.oneCell')=true)(hnv:0<ms.length->mb v≠bw)(s2:Nt)(hN:qaw W b s2 (duF s2.fs) F)(hml:s2.ms.length<=1000)(hk:kd=2)(hc:c=0)(hi:inn=true)(hlg:lg=ByteArray.empty)(xp:Pkt)(mS mi:Int)(hb:bad af.data.toList=0)(hx:qam af.data.toList=xp)(haf:af.size<=140737488351232)(hgy:good ({ xp with ttl:=xp.ttl-1,dst:=167772161+mS,dport:=mi }:Pkt)=0)(hfr:fr=txt (frame { xp with ttl:=xp.ttl-1,dst:=167772161+mS,dport:=mi }))(hf:ms.find? (outS xp.proto (xp.dst-3405803777) xp.dport)=some (xp.proto,mS,mi,xp.dst-3405803777,xp.dport))(hr1:0<=xp.dst/\xp.dst<=4294967295)(hr2:1<=xp.ttl/\xp.ttl<=255)(hr3:0<=mS/\mS<8)(hsf:s2.f=f)(hsg:s2.g=g)(hsh:s2.h=h)(hsm:s2.ms=ms)(hwF:wfF f)(hwH:wfH h):Calls prog 33 #[V (some ⟨b,0,none⟩),.agg (ac ⟨kd,an,dr,af⟩),.agg (Rp.cells ⟨c,fr,inn,lg⟩),V (some ⟨bw,0,none⟩)] W fun e w'=>e=.returned (.bool true)/\Gr G W w'/\∃v2,Row 39 w' bw (tc s2.f s2.g s2.h v2)/\qaz w' v2 s2.ms/\(0<s2.ms.length->W.heap.size<=mb v2):=by
 refine m2k ?_;intro B HGW HON HNV HLW CT
 obtain⟨nm,hnm⟩:∃nm,nm=s2.ms.length:=⟨_,rfl⟩
 have HNM:Hid (nm=s2.ms.length):=hnm
 change ∀W,qaw W b s2 (duF s2.fs) F->Calls prog 21 _ W (fun e w'=>∃sa c,e=.returned (.agg (tc s2.f s2.g s2.h (.slice sa s2.ms.length c)))/\qaz w' (.slice sa s2.ms.length c) s2.ms/\qcs (.slice sa s2.ms.length c)/\(0<s2.ms.length->W.heap.size<=mb (.slice sa s2.ms.length c))/\Below W.heap.size W w') at CT
 refine m3o ?_;intro CT
 rw[hsf,hsg,hsh] at CT
 have HSM:Hid (s2.f=f/\s2.g=g/\s2.h=h):=hidN ⟨hsf,hsg,hsh⟩;(have CP:=fun w=>qch af w haf)
 simp only[qgx,qb9,hb,hx,if_pos] at CP
 have hlen:=qnk _ hgy;(have CQ:=fun w=>qch fr w (by rw[hfr,qck];omega))
 rw[hfr] at CQ
 simp only[qgx,qds,(qev _ hgy).1,(qev _ hgy).2] at CQ
 rw[←hfr] at CQ
 have hne2:fr.toList.isEmpty=false:=ql2 (s:=fr) (by rw[hfr,qck];omega);(have CB:=fun W (hM:qaz W v ms)=>qqr f g h v ms xp.proto (xp.dst-3405803777) xp.dport W hM)
 rw[hf] at CB
 change ∀W,qaz W v ms->Calls prog 34 _ W (fun e w'=>e=.returned (.tuple #[.agg (mc (xp.proto,mS,mi,xp.dst-3405803777,xp.dport)),.bool true])/\Below W.heap.size W w') at CB
 (have CS:=fun W v2 (h1:qaz W v ms) (h2:qaz W v2 s2.ms)=>qkc f g h v v2 ms hwF hwH W h1 (hsm▸h2));(have hw1:wrap64 (xp.dst-3405803776)=xp.dst-3405803776:=by unfold wrap64;omega);(have hw2:wrap64 (xp.dst-3405803776-1)=xp.dst-3405803777:=by unfold wrap64;omega);refine m8o ?_;intro HW3 HW4;(have hwa:wrap64 (167772161+mS)=167772161+mS:=by unfold wrap64;omega);(have hnn:((167772161+mS) != (167772161+mS))=false:=by simp);(have hnq:(mi != mi)=false:=by simp)
 subst hk hc hi hlg
 clear hb hx haf hgy hfr hlen hf hr1 hr2 hr3 hml hsf hsg hsh hsm hwF hwH;clear hGw hon hnv hnm
 go_enter func33,ntmps33
 go_upto_region 10 with(first|((with_reducible refine gB 23 1 ?_);refine bx 23 (.tmp 1) (ac ⟨2,an,dr,af⟩) ?_;refine m4x ?_;clear B;intro b5 w9 HL5 B)|((with_reducible refine gB 27 2 ?_);refine bx 27 (.tmp 2) (Rp.cells ⟨0,fr,true,ByteArray.empty⟩) ?_;intro b6 w9 l9 R9 h9;refine m6v ?_;clear B R9 h9 l9;intro HL6 B)|((with_reducible refine gL 39 3 ?_);refine m93 ?_)|((with_reducible refine gA 39 ?_);refine m5k ?_;clear B;intro b8 w9 HL8 B)|((with_reducible refine gS 39 8 15 ?_);refine m3u ?_;refine m31 ?_;clear B;intro w9 B)|(go_at_call 21;go_fit (CT _ (hN.below B.base));rintro e w5 ⟨sa,kc,rfl,hm8,-,hl8,hb8⟩;clear CT;replace hl8:=fun h0=>Nat.le_trans B.base.size (hl8 h0);replace B:=B.below hb8;clear hb8)|((with_reducible refine gS 39 3 17 ?_);refine sx 39 (.tmp 3) _ (tc f g h (.slice sa nm kc)) (Rw.below B.base) ?_;refine m0i ?_;clear hm8 hl8 B;intro w9 HGR R5 R6 R8 hmv hm2 HL2 Rn B;have k0:World.cell? _ ⟨b5,0,none⟩=some (I Z 2):=R5.cell 0;have r0:World.cell? _ ⟨b6,0,none⟩=some (I Z 0):=(R6.cell 0).trans (qdt _);have r1:World.cell? _ ⟨b6,1,none⟩=some (.string fr):=(R6.cell 1).trans (qe4 _))|(go_at_call 29;first|(go_fit (CP _);rintro e w5 ⟨rfl,hb5⟩;clear CP;replace B:=B.below hb5;clear hb5;(try clear k0 r0 r1))|(go_fit (CQ _);rintro e w5 ⟨rfl,hb5⟩;clear CQ;replace B:=B.below hb5;clear hb5))|((with_reducible refine gL 9 35 ?_);refine qcm (R5.below B.base) (.tmp 35) rfl kr 3 rfl (af) (rfl) ?_)|((with_reducible refine gA 61 ?_);refine ax 9 61 qbs ?_;intro b9 w9 l9 R9 h9;replace B:=B.alloc l9 R9 h9;clear R9 h9 l9)|((with_reducible refine gS 61 9 38 ?_);refine sx 61 (.tmp 9) _ (pcl xp) (B.row 0 rfl) ?_;refine m31 ?_;clear B;intro w9 B)|((with_reducible refine gL 9 41 ?_);refine qcm (R6.below B.base) (.tmp 41) rfl kr 1 rfl (fr) (qe4 _) ?_)|((with_reducible refine gA 61 ?_);refine ax 11 61 qbs ?_;intro b11 w9 l9 R9 h9;replace B:=B.alloc l9 R9 h9;clear R9 h9 l9)|((with_reducible refine gS 61 11 44 ?_);refine sx 61 (.tmp 11) _ (pcl { xp with ttl:=xp.ttl-1,dst:=167772161+mS,dport:=mi }) (B.row 0 rfl) ?_;refine m31 ?_;clear B;intro w9 B)|((with_reducible refine gL 39 8 ?_);refine lx 39 (.tmp 8) (tc f g h v) (R8.below B.base) ?_)|((with_reducible refine gL 3 48 ?_);refine fx (B.row 1 rfl) _ 0 (xp.proto) ?_)|((with_reducible refine gL 3 50 ?_);refine fx (B.row 1 rfl) _ 3 (xp.dst) ?_)|((with_reducible refine gL 3 54 ?_);refine fx (B.row 1 rfl) _ 4 (xp.dport) ?_)|(go_at_call 34;go_fit (CB _ (hmv.below B.base));rintro e w5 ⟨rfl,hb5⟩;clear CB;replace B:=B.below hb5;clear hb5)|((with_reducible refine gA 50 ?_);refine ax 13 50 qci ?_;intro b13 w9 l9 R9 h9;replace B:=B.alloc l9 R9 h9;clear R9 h9 l9)|((with_reducible refine gS 50 13 57 ?_);refine sx 50 (.tmp 13) _ (mc (xp.proto,mS,mi,xp.dst-3405803777,xp.dport)) (B.row 0 rfl) ?_;refine m31 ?_;clear B;intro w9 B;have r0:World.cell? _ ⟨b6,0,none⟩=some (I Z 0):=((R6.below B.base).cell 0).trans (qdt _);have r2:World.cell? _ ⟨b6,2,none⟩=some (.bool true):=((R6.below B.base).cell 2).trans (qhx _);have r3:World.cell? _ ⟨b6,3,none⟩=some (.string ByteArray.empty):=((R6.below B.base).cell 3).trans (qb2 _);have q3:World.cell? _ ⟨b11,3,none⟩=some (I Z (167772161+mS)):=(B.row 1 rfl).cell 3;have q4:World.cell? _ ⟨b11,4,none⟩=some (I Z mi):=(B.row 1 rfl).cell 4;have m1:World.cell? _ ⟨b13,1,none⟩=some (I Z mS):=(B.row 0 rfl).cell 1;have m2:World.cell? _ ⟨b13,2,none⟩=some (I Z mi):=(B.row 0 rfl).cell 2)|((with_reducible refine gL 39 3 ?_);refine lx 39 (.tmp 3) (tc f g h (.slice sa nm kc)) (Rn.below B.base) ?_)|(go_at_call 35;go_fit (CS _ _ (hmv.below B.base) (hm2.below B.base));rintro e w5 ⟨rfl,hb5⟩;clear CS;replace B:=B.below hb5;clear hb5 r0 r2 r3 q3 q4 m1 m2))
 have kS:Row 61 _ b9 (pcl xp):=B.row 2 rfl
 refine RD (fun W=>Row 61 W b9 (pcl xp)) kS (fun _=>?_)
 replace B:=B.drew;refine tq 0 (V (some ⟨b9,3,none⟩)) rfl kS (tk 1 (I Z xp.dst) rfl (Or.inl ⟨by kernel_rfl,by intro w hS;have hc:=hS.cell 3;unfold pcl at hc;go_simp⟩) kS (tq 2 (V (some ⟨b9,4,none⟩)) rfl kS ?_));refine m5i ?_;refine tk 3 (I Z xp.dport) rfl (Or.inl ⟨by kernel_rfl,by intro w hS;have hc:=hS.cell 4;unfold pcl at hc;go_simp⟩) kS (tq 4 (V (some ⟨b11,5,none⟩)) rfl kS ?_);refine m5i ?_;refine AR [5] ?_
 refine AP (fun K hK=>?_) AZ
 refine qil (.tmp 109) rfl b11 5 kr (xp.ttl-1) ((B.row 1 rfl).cell 5) ?_
 refine hK.out _ _ kS (fun _=>?_)
 clear hK K;(try simp only[ZZ]);refine tk 6 (I Z xp.ttl) rfl (Or.inl ⟨by kernel_rfl,by intro w hS;go_simp;first|exact HW3.out|exact HW4.out⟩) kS (tq 7 (V (some ⟨b11,3,none⟩)) rfl kS ?_);refine m5i ?_;refine AR [8] ?_
 refine AP (fun K hK=>?_) AZ
 refine qd4 (B.row 1 rfl) (.tmp 112) (.tmp 106) rfl 3 kr (xp.dst) kr _ rfl _ rfl ?_;refine m9b ?_;clear B kS;intro w9 B kS
 refine hK.out _ _ kS (fun _=>?_)
 clear hK K;(try simp only[ZZ]);refine tq 9 (V (some ⟨b11,4,none⟩)) rfl kS ?_;refine m5i ?_;refine AR [10] ?_
 refine AP (fun K hK=>?_) AZ
 refine qd4 (B.row 1 rfl) (.tmp 113) (.tmp 108) rfl 4 kr (xp.dport) kr _ rfl _ rfl ?_;refine m9b ?_;clear B kS;intro w9 B kS
 refine hK.out _ _ kS (fun _=>?_)
 clear hK K;(try simp only[ZZ]);refine tq 11 (V (some ⟨b11,5,none⟩)) rfl kS ?_;refine m5i ?_;refine AR [12] ?_
 refine AP (fun K hK=>?_) AZ
 refine qd4 (B.row 1 rfl) (.tmp 114) (.tmp 111) rfl 5 kr (xp.ttl) kr _ rfl _ rfl ?_;refine m9b ?_;clear B kS;intro w9 B kS
 refine hK.out _ _ kS (fun _=>?_)
 clear hK K;(try simp only[ZZ]);refine AN ?_;clear kS
 go_wp2_with (first|((with_reducible refine gL 61 11 ?_);refine lx 61 (.tmp 11) (pcl xp) (B.row 1 rfl) ?_)|((with_reducible refine gL 61 9 ?_);refine lx 61 (.tmp 9) (pcl xp) (B.row 2 rfl) ?_)|((with_reducible refine qaa (.binOp .eql 61 (.tmp 115) (.tmp 116) 61) rfl ?_);refine qb1 61 (.tmp 115) (.tmp 116) rfl kr (pcl xp) (pcl xp) rfl rfl eqGuardType61 _ _ (qo7 xp _) rfl ?_))
 go_ret
 exact⟨rfl,HGR.out.trans (Gr.of_below (F:=fun _=>False) B.base) (fun _ h=>h.elim),_,(by first|exact Rn.below B.base|(rw[HSM.out.1,HSM.out.2.1,HSM.out.2.2];exact Rn.below B.base)),hm2.below B.base,HL2.out⟩
def JI(loose:Bool)(bw:Nat)(l:List Ac)(G:Nat->Prop)(W:World):Prop:=∃v,Row 39 W bw (tc ((nt0 loose).runs l).f ((nt0 loose).runs l).g ((nt0 loose).runs l).h v)/\qaz W v ((nt0 loose).runs l).ms/\(0<((nt0 loose).runs l).ms.length->mb v≠bw)/\∀c,G c↔(c=bw\/(0<((nt0 loose).runs l).ms.length/\c=mb v))
theorem qsd{f:Nat->Int}{g:Nat->Bool}{h:Nat->Int}{v:Value}{W:World}{ms:List Mp}(hM:qaz W v ms):(tc f g h v).all (·.oneCell')=true:=by
 obtain⟨a,c,rfl,_⟩:=hM
 exact qbm f g h a _ c
theorem q9c(loose:Bool)(bw:Nat):Look loose 33 #[V (some ⟨bw,0,none⟩)] (JI loose bw):=by
 refine⟨fun args w=>by kernel_rfl,?_,?_,?_⟩
 ·rintro l G H W W' ⟨v,h1,h2,h3,hG⟩ hg hd
  exact⟨v,(hg.block _ h1.lt (fun hh=>hd _ hh ((hG _).2 (.inl rfl)))).trans h1,qc4 h2 (fun h0=>hg.block _ (h2.lt h0) (fun hh=>hd _ hh ((hG _).2 (.inr ⟨h0,rfl⟩)))),h3,hG⟩
 ·rintro l G W ⟨v,h1,h2,h3,hG⟩ c hc
  rcases(hG c).1 hc with rfl|⟨h0,rfl⟩
  ·exact h1.lt
  ·exact h2.lt h0
 ·rintro l a W b F G hl ha hN hT hF0 hd ⟨v,h1,h2,h3,hG⟩;have hinv:=qjr loose l om;have hI:=q9i hinv.ci a;have hml:=(hinv.ci.act a).good.len;have hgood:=hinv.ci.good;have hbw:=h1.lt
  have fin:∀e w',(e=Ending.returned (Value.bool true)/\Gr G W w'/\∃v2,Row 39 w' bw (tc (((nt0 loose).runs l).act a).2.f (((nt0 loose).runs l).act a).2.g (((nt0 loose).runs l).act a).2.h v2)/\qaz w' v2 (((nt0 loose).runs l).act a).2.ms/\(0<(((nt0 loose).runs l).act a).2.ms.length->W.heap.size<=mb v2))->e=.returned (.bool true)/\∃G',JI loose bw (l++[a]) G' w'/\Gr G W w'/\∀c,G' c->G c\/W.heap.size<=c:=by
   rintro e w' ⟨he,hg,v2,q1,q2,q3⟩
   refine⟨he,fun c=>c=bw\/(0<(((nt0 loose).runs l).act a).2.ms.length/\c=mb v2),⟨v2,?_,?_,?_,?_⟩,hg,?_⟩
   ·rw[qih];exact q1
   ·rw[qih];exact q2
   ·rw[qih];exact fun h0 e=>by have:=q3 h0;omega
   ·rw[qih];exact fun _=>Iff.rfl
   ·rintro c (rfl|⟨h0,rfl⟩)
    ·exact .inl ((hG _).2 (.inl rfl))
    ·exact .inr (q3 h0)
  have hGw:G bw:=(hG _).2 (.inl rfl)
  generalize((nt0 loose).runs l).act a=r at *
  generalize(nt0 loose).runs l=s at *
  obtain⟨⟨c,fr,inn,lg⟩,s2⟩:=r;obtain⟨kd,an,dr,af⟩:=a
  simp only at hI fin hml hN
  by_cases hk:kd=2
  ·rcases hI hk with⟨e1,e2,_⟩|⟨m,hb,hm,hf,hg,hdst,hr,e1,e2,e3,e4⟩
   ·exact(q8n kd an dr af c fr inn lg b bw W G F hGw s.f s.g s.h v s.ms h1 h2 (qsd h2) h3 s2 hN om hk e2 e1).mono fin
   ·obtain⟨m1,m2,m3⟩:=(qup _ _ _ _).1 (List.find?_some hf);have hrr:=(qdu _).1 (qde _ (qgi _ hb).2.2).2.1
    obtain⟨_,hs2,_⟩:=hgood.maps.1 m hm
    obtain⟨mp,mS,mi,ma,mq⟩:=m
    simp only at m1 m2 m3 hs2 hr hg hf
    rw[q52] at hr hg
    subst m1 m2 m3
    obtain⟨rfl,rfl,rfl,rfl⟩:c=0/\fr=_/\inn=true/\lg=ByteArray.empty:=by injection hr with q1 q2 q3 q4;exact⟨q1,q2,q3,q4⟩
    refine(q7l kd an dr af 0 _ true _ b bw W G F hGw s.f s.g s.h v s.ms h1 h2 (qsd h2) h3 s2 hN om hk rfl rfl rfl (qam af.data.toList) mS mi hb rfl ha.2.2.2 hg rfl hf om om hs2 e1 e2 e3 e4 (qpn hgood.pool) hgood.wf).mono fin
  ·exact(qaub kd an dr af c fr inn lg b bw W G F hGw s.f s.g s.h v s.ms h1 h2 (qsd h2) h3 s2 hN om hk).mono fin
theorem topIn_walk(a0:Bool)(sl:Value)(es:List Ac)(W:World)(hS:AcIn W sl es)(hT:Tab W):Calls prog 7 #[.bool a0,sl] W fun e w'=>e=.returned (.bool true)/\Below W.heap.size W w':=by
 refine m63 ?_;intro HS HT;(have CP:=fun bw W' (hl:W.heap.size<=bw) (R:Row 39 W' bw tz) (hB:Below W.heap.size W W')=>qjp (G0:=fun c=>c=bw) (q9c a0 bw) sl es W' (HS.out.1.below hB) HS.out.2 (HT.out.below hB) (fun h=>by have:=HT.out.lt;omega) ⟨.slice none 0 0,R,qaz.nil _,fun h=>absurd h (by simp[Nt.runs,nt0]),fun c=>⟨.inl,fun h=>h.elim id (fun h=>absurd h.1 (by simp[Nt.runs,nt0]))⟩⟩ (fun h0 h=>by have h:eb sl=bw:=h;have:=HS.out.1.lt h0;omega));obtain⟨x0,cap,hsl⟩:=hS.1.slice
 generalize es.length=n at *
 subst hsl
 clear hS hT
 go_enter func7,ntmps7
 go_wp2_with (first|((with_reducible refine gA 39 ?_);refine ax 5 39 qbp ?_;intro b5 w9 l9 R9 h9)|(go_at_call 23;refine(CP b5 _ l9 R9 h9).mono ?_;rintro e w1 ⟨b,rfl,F,G,hP⟩;clear CP;have hB:=h9.trans (hP.gr.below (B:=W.heap.size) (fun c h=>by have h:c=b5:=h;omega) h9.size);clear hP))
 go_ret
 exact⟨rfl,hB⟩
end Go.Proofs.YtonnjgmognbnbaaGreatDoor
