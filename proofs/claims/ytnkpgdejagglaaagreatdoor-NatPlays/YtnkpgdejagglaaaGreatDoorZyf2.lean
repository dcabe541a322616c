/-
  Of what a law stands on.
-/
import Derived.Test.YtnkpgdejagglaaaGreatDoorZyi4
set_option linter.all false
namespace Go.Proofs.YtnkpgdejagglaaaGreatDoor
open _root_.Go renaming Calls->az,World->af,bodyPost_ret->aL,results->eQ
open _root_.Go.RowKit renaming Below->aq,Hid->aK
open Go.Value renaming int → I,pointer → V
open Go.IntKind renaming i64 → Z
open _root_.Go.Proofs.Tryz Go.ChangeShapes Go.WideShapes Go.ChangeAt Go.RowKit
set_option maxHeartbeats 16000000
set_option maxRecDepth 100000
variable {p:Prop}
def isR(n:Nat):Code->Bool
 | .region k _ _=>k==n
 | _=>false
def rQ(n:Nat):Code->Option Code
 | .seq a b=>if isR n a then some b else(rQ n a).or (rQ n b)
 | .block _ c=>rQ n c
 | .scope c=>rQ n c
 | .cond _ a b=>(rQ n a).or (rQ n b)
 | _=>none
def tlA(F:Func):Code:=(F.body.bind (rQ 10)).getD .skip
def tlB(F:Func):Code:=(F.body.bind (rQ 23)).getD .skip
abbrev PQ(s:ByteArray)(w:af):Exit->Act->af->Prop:=bodyPost prog f50 fun e w'=>e=.returned (.tuple #[pv (iw s.data.toList),I Z (cj s.data.toList)])/\aq w.heap.size w w'
def Q9(s:ByteArray)(w:af):Prop:=∀(b:Nat) (wc:af),w.heap.size+1<b->ew wc b #[I Z (aC s.data.toList 9),I Z (bL s.data.toList 12),I Z 0,I Z (bL s.data.toList 16),I Z 0,I Z (aC s.data.toList 8),I Z (bf s.data.toList 4),I Z 0,I Z 0,I Z 0,I Z 0,.string ⟨#[]⟩]->ew wc w.heap.size #[I Z 0,I Z 0,I Z 0,I Z 0,I Z 0,I Z 0,I Z 0,I Z 0,I Z 0,I Z 0,I Z 0,.string ⟨#[]⟩]->ew wc (w.heap.size+1) #[I Z 0,I Z 0,I Z 0,I Z 0,I Z 0,I Z 0,I Z 0,I Z 0,I Z 0,I Z 0,I Z 0,.string ⟨#[]⟩]->aq w.heap.size w wc->∀u1 u3 u6 u7 u8 u9 u10 u11 u12 u13 u14 u15 u16 u17 u18 u19 u20 u21 u22 u23 u24 u25 u26 u27 u28 u29 u30 u31 u32 u33 u34 u35 u36 u37 u38 u39 u40 u41 u42 u43 u44 u45 u46 u47 u48 u49 u50 u51 u52 u53 u54 u55 u56 u57 u58 u59 u60 u61 u62 u63 u64 u65 u66 u67 u68 u69 u70 u71 u72 u73 u74 u75 u76 u77 u78 u79 u80 u81 u82 u83 u84 u85 u86 u87 u88 u89 u90 u91 u92 u93 u94 u95 u96 u97 u98 u99 JZ J3 J4 J5 J6 J7 J8 J9 Ka Kb Kc Kd Ke Kf Kg Kh Ki Kj Kk Kl Km Kn Ko Kp Kq Kr Ks Kt Ku Kv Kw Kz KA KB KC KD KE KF u138 KG KH KI KJ KM KN KO KP KQ KR KS KT KU KV KW KX KY KZ K0 K4 K5 K6 K7 K8 La Lb Lc Ld Le Lf Lg Lh Li Lj Lk Ll Lm Ln Lp Lq Lr Ls Lt Lu Lv Lz LA LB LC LD LF LG LH LI u193 LJ LM LN LO u198 LP LQ LR LS LU LV LW LX LY LZ L3 L4 L6 L8 L9 Ma Mb Mc Md:Value,Code.wp prog (tlA f50) (PQ s w) ⟨#[.string s,u1,V (some ⟨w.heap.size,0,none⟩),u3,V (some ⟨w.heap.size+1,0,none⟩),V (some ⟨b,0,none⟩),u6,u7,u8,u9,u10,u11,u12,u13,u14,u15,u16,u17,u18,u19,u20,u21,u22,u23,u24,u25,u26,u27,u28,u29,u30,u31,u32,u33,u34,u35,u36,u37,u38,u39,u40,u41,u42,u43,u44,u45,u46,u47,u48,u49,u50,u51,u52,u53,u54,u55,u56,u57,u58,u59,u60,u61,u62,u63,u64,u65,u66,u67,u68,u69,u70,u71,u72,u73,u74,u75,u76,u77,u78,u79,u80,u81,u82,u83,u84,u85,u86,u87,u88,u89,u90,u91,u92,u93,u94,u95,u96,u97,u98,u99,JZ,J3,J4,J5,J6,J7,J8,J9,Ka,Kb,Kc,Kd,Ke,Kf,Kg,Kh,Ki,Kj,Kk,Kl,Km,Kn,Ko,Kp,Kq,Kr,Ks,Kt,Ku,Kv,Kw,Kz,KA,KB,KC,KD,KE,KF,u138,KG,KH,KI,KJ,KM,KN,KO,KP,KQ,KR,KS,KT,KU,KV,KW,KX,KY,KZ,K0,K4,K5,K6,K7,K8,La,Lb,Lc,Ld,Le,Lf,Lg,Lh,Li,Lj,Lk,Ll,Lm,Ln,Lp,Lq,Lr,Ls,Lt,Lu,Lv,Lz,LA,LB,LC,LD,LF,LG,LH,LI,u193,LJ,LM,LN,LO,u198,LP,LQ,LR,LS,LU,LV,LW,LX,LY,LZ,L3,L4,L6,L8,L9,Ma,Mb,Mc,Md],[]⟩ wc
def Ov(s:ByteArray)(w:af)(n:Nat):Prop:=∀(b:Nat) (wc:af),w.heap.size+1<b->ew wc b #[I Z (aC s.data.toList 9),I Z (bL s.data.toList 12),I Z 0,I Z (bL s.data.toList 16),I Z 0,I Z (aC s.data.toList 8),I Z (bf s.data.toList 4),I Z 0,I Z 0,I Z 0,I Z 0,.string ((s.extract 20 s.size).extract n (s.extract 20 s.size).size)]->ew wc w.heap.size #[I Z 0,I Z 0,I Z 0,I Z 0,I Z 0,I Z 0,I Z 0,I Z 0,I Z 0,I Z 0,I Z 0,.string ⟨#[]⟩]->ew wc (w.heap.size+1) #[I Z 0,I Z 0,I Z 0,I Z 0,I Z 0,I Z 0,I Z 0,I Z 0,I Z 0,I Z 0,I Z 0,.string ⟨#[]⟩]->aq w.heap.size w wc->∀u1 u3 u7 u8 u9 u10 u11 u12 u13 u14 u15 u16 u17 u18 u19 u20 u21 u22 u23 u24 u25 u26 u27 u28 u29 u30 u31 u32 u33 u34 u35 u36 u37 u38 u39 u40 u41 u42 u43 u44 u45 u46 u47 u48 u49 u50 u51 u52 u53 u54 u55 u56 u57 u58 u59 u60 u61 u62 u63 u64 u65 u66 u67 u68 u69 u70 u71 u72 u73 u74 u75 u76 u77 u78 u79 u80 u81 u82 u83 u84 u85 u86 u87 u88 u89 u90 u91 u92 u93 u94 u95 u96 u97 u98 u99 JZ J3 J4 J5 J6 J7 J8 J9 Ka Kb Kc Kd Ke Kf Kg Kh Ki Kj Kk Kl Km Kn Ko Kp Kq Kr Ks Kt Ku Kv Kw Kz KA KB KC KD KE KF u138 KG KH KI KJ KM KN KO KP KQ KR KS KT KU KV KW KX KY KZ K0 K4 K5 K6 K7 K8 La Lb Lc Ld Le Lf Lg Lh Li Lj Lk Ll Lm Ln Lp Lq Lr Ls Lt Lu Lv Lz LA LB LC LD LF LG LH LI u193 LJ LM LN LO u198 LP LQ LR LS LU LV LW LX LY LZ L3 L4 L6 L8 L9 Ma Mb Mc Md:Value,Code.wp prog (tlB f50) (PQ s w) ⟨#[.string s,u1,V (some ⟨w.heap.size,0,none⟩),u3,V (some ⟨w.heap.size+1,0,none⟩),V (some ⟨b,0,none⟩),.string (s.extract 20 s.size),u7,u8,u9,u10,u11,u12,u13,u14,u15,u16,u17,u18,u19,u20,u21,u22,u23,u24,u25,u26,u27,u28,u29,u30,u31,u32,u33,u34,u35,u36,u37,u38,u39,u40,u41,u42,u43,u44,u45,u46,u47,u48,u49,u50,u51,u52,u53,u54,u55,u56,u57,u58,u59,u60,u61,u62,u63,u64,u65,u66,u67,u68,u69,u70,u71,u72,u73,u74,u75,u76,u77,u78,u79,u80,u81,u82,u83,u84,u85,u86,u87,u88,u89,u90,u91,u92,u93,u94,u95,u96,u97,u98,u99,JZ,J3,J4,J5,J6,J7,J8,J9,Ka,Kb,Kc,Kd,Ke,Kf,Kg,Kh,Ki,Kj,Kk,Kl,Km,Kn,Ko,Kp,Kq,Kr,Ks,Kt,Ku,Kv,Kw,Kz,KA,KB,KC,KD,KE,KF,u138,KG,KH,KI,KJ,KM,KN,KO,KP,KQ,KR,KS,KT,KU,KV,KW,KX,KY,KZ,K0,K4,K5,K6,K7,K8,La,Lb,Lc,Ld,Le,Lf,Lg,Lh,Li,Lj,Lk,Ll,Lm,Ln,Lp,Lq,Lr,Ls,Lt,Lu,Lv,Lz,LA,LB,LC,LD,LF,LG,LH,LI,u193,LJ,LM,LN,LO,u198,LP,LQ,LR,LS,LU,LV,LW,LX,LY,LZ,L3,L4,L6,L8,L9,Ma,Mb,Mc,Md],[]⟩ wc
def AW(h:p:=by
 refine AR [17] ?_
 refine AP (fun K hK=>?_) ?_
 .refine qbW _ _ rfl b rfl #[I Z (aC s.data.toList 9),I Z (bL s.data.toList 12),I Z 0,I Z (bL s.data.toList 16),I Z 0,I Z (aC s.data.toList 8),I Z (bf s.data.toList 4),I Z 0,I Z 0,I Z 0,I Z 0,.string ⟨#[]⟩] rfl _ T5 rfl rfl kr ?_;intro w' T5 hk fj;replace T0:=hk _ _ om T0;replace T4:=hk _ _ om T4;((replace hB:=fj _ _ om hB));clear hk fj
  refine hh ?_
  clear hK K;refine AN ?_
  go_wp2_with fail
  go_meet
  case rel=>exact⟨_,rfl,Ow,T5,T0,T4,hB⟩
 exact AZ):p:=h
def AX(h:p:=by
 refine hh ?_
 clear hK K;refine AR [14] ?_
 refine AP (fun K hK=>?_) ?_
 .refine pL 105 #[.string (s.extract 16 20)] kr _ (N16 _) ?_;intro w' hb;replace T0:=T0.below hb;replace T4:=T4.below hb;(try replace T5:=T5.below hb);replace hB:=hB.trans (hb.mono hB.size)
  refine hh ?_
  clear hK K;refine m27 ?_
  exact AW
 exact AZ):p:=h
def AY(h:p:=by
 refine hh ?_
 clear hK K;refine AR [11] ?_
 refine AP (fun K hK=>?_) ?_
 .refine pL 105 #[.string (s.extract 12 16)] kr _ (N12 _) ?_;intro w' hb;replace T0:=T0.below hb;replace T4:=T4.below hb;(try replace T5:=T5.below hb);replace hB:=hB.trans (hb.mono hB.size)
  exact AX
 exact AZ):p:=h
def wY(h:p:=by
 have:=H.piece;rw[show bf s.data.toList 6=aC s.data.toList 6*256+aC s.data.toList 7 from rfl] at this
 have:=nE s.data.toList 6;have:=nE s.data.toList 7;omega):p:=h
def qbX(s:ByteArray)(w:af)(hs:s.size<=65535)(i3:20<=s.size)(H:rN s.data.toList)(hA:Q9 s w):
  az prog 50 #[.string s] w fun e w'=>e=.returned (.tuple #[pv (iw s.data.toList),I Z (cj s.data.toList)])/\aq w.heap.size w w':=by
 refine m0d ?_;intro jP T0
 have T4:ew ((w.alloc (.cells #[I Z 0,I Z 0,I Z 0,I Z 0,I Z 0,I Z 0,I Z 0,I Z 0,I Z 0,I Z 0,I Z 0,.string ⟨#[]⟩] 77)).alloc (.cells #[I Z 0,I Z 0,I Z 0,I Z 0,I Z 0,I Z 0,I Z 0,I Z 0,I Z 0,I Z 0,I Z 0,.string ⟨#[]⟩] 77)) (w.heap.size+1) #[I Z 0,I Z 0,I Z 0,I Z 0,I Z 0,I Z 0,I Z 0,I Z 0,I Z 0,I Z 0,I Z 0,.string ⟨#[]⟩]:=by
  have:=heap_alloc_new (w.alloc (.cells #[I Z 0,I Z 0,I Z 0,I Z 0,I Z 0,I Z 0,I Z 0,I Z 0,I Z 0,I Z 0,I Z 0,.string ⟨#[]⟩] 77)) (.cells #[I Z 0,I Z 0,I Z 0,I Z 0,I Z 0,I Z 0,I Z 0,I Z 0,I Z 0,I Z 0,I Z 0,.string ⟨#[]⟩] 77)
  simpa[ew] using this
 refine m0k ?_;intro hB;replace c0:=T0.cell;replace c4:=T4.cell;replace f0:=T0.free;(have N2:=fun w=>pI s 2 4 w rfl om);(have N4:=fun w=>pI s 4 6 w rfl om);(have N12:=fun w=>Fi s 12 16 w rfl om);(have N16:=fun w=>Fi s 16 20 w rfl om);refine m2k ?_;intro SH g0 g1 g6 g7 g8;(have g9:∀h,((s[9]'h).toNat:Int)=aC s.data.toList 9:=fun h=>tZ s 9 h)
 have e6:aC s.data.toList 6=0/\aC s.data.toList 7=0:=by
  exact wY
 (have d0:(aC s.data.toList 0 != 69)=false:=by simpa using H.mark);(have d1:(bf s.data.toList 2 != (s.size:Int))=false:=by have:=H.size;rw[jP] at this;simpa using this);(have d2:(bk (bJ (s.data.toList.take 20)) != 65535)=false:=by simpa using H.sum);(have d3:(aC s.data.toList 1 != 0)=false:=by simpa using H.yn);(have d4:(aC s.data.toList 6 != 0)=false:=by simpa using e6.1);(have d5:(aC s.data.toList 7 != 0)=false:=by simpa using e6.2);(have d6:(aC s.data.toList 8==0)=false:=by simpa using H.aG);have iw8:IntKind.i64.wrap (aC s.data.toList 8)=aC s.data.toList 8:=wrap_i64 _ (by have:=nE s.data.toList 8;omega) (by have:=nE s.data.toList 8;omega);have iw9:IntKind.i64.wrap (aC s.data.toList 9)=aC s.data.toList 9:=wrap_i64 _ (by have:=nE s.data.toList 9;omega) (by have:=nE s.data.toList 9;omega);(have z20:(20:Int)<=(s.size:Int):=by omega);(have zz:∀k:Int,k<20->k<(s.size:Int):=fun k h=>by omega);(have zy:∀k:Int,k<20->k<=(s.size:Int):=fun k h=>by omega);have z1:=zz 1 om;have z4:=zy 4 om;have z6:=zz 6 om;have z7:=zz 7 om;have z8:=zz 8 om;clear zz zy;clear e6
 generalize pd:bk (bJ (s.data.toList.take 20))=sh at *
 generalize aC s.data.toList 0=x0 at *
 generalize aC s.data.toList 1=x1 at *
 generalize aC s.data.toList 6=x6 at *
 generalize aC s.data.toList 7=x7 at *
 go_enter func50,ntmps50
 go_upto_region 8 with(first|(go_at_call 105;go_fit (N2 _);rintro e w' ⟨rfl,hb⟩;replace T0:=T0.below hb;replace T4:=T4.below hb;replace c0:=T0.cell;replace c4:=T4.cell;replace f0:=T0.free;replace hB:=hB.trans (hb.mono hB.size))|(go_at_call 106;go_fit (SH _);rintro e w' ⟨rfl,hb⟩;replace T0:=T0.below hb;replace T4:=T4.below hb;replace c0:=T0.cell;replace c4:=T4.cell;replace f0:=T0.free;replace hB:=hB.trans (hb.mono hB.size)))
 go_cut [48] (fun s48 wx=>s48=.bool false/\ew wx w.heap.size #[I Z 0,I Z 0,I Z 0,I Z 0,I Z 0,I Z 0,I Z 0,I Z 0,I Z 0,I Z 0,I Z 0,.string ⟨#[]⟩]/\ew wx (w.heap.size+1) #[I Z 0,I Z 0,I Z 0,I Z 0,I Z 0,I Z 0,I Z 0,I Z 0,I Z 0,I Z 0,I Z 0,.string ⟨#[]⟩]/\aq w.heap.size w wx)
 case first=>
  go_wp2_with fail
  go_meet
  case rel=>exact⟨rfl,T0,T4,hB⟩
 case rest=>
 clear T0 T4 hB c0 c4 f0
 obtain⟨rfl,T0,T4,hB⟩:=hcut
 replace c0:=T0.cell;replace c4:=T4.cell;replace f0:=T0.free
 go_upto_region 10 with fail
 go_cut [5] (fun s5 wx=>∃b,s5=V (some ⟨b,0,none⟩)/\w.heap.size+1<b/\ew wx b #[I Z (aC s.data.toList 9),I Z (bL s.data.toList 12),I Z 0,I Z (bL s.data.toList 16),I Z 0,I Z (aC s.data.toList 8),I Z (bf s.data.toList 4),I Z 0,I Z 0,I Z 0,I Z 0,.string ⟨#[]⟩]/\ew wx w.heap.size #[I Z 0,I Z 0,I Z 0,I Z 0,I Z 0,I Z 0,I Z 0,I Z 0,I Z 0,I Z 0,I Z 0,.string ⟨#[]⟩]/\ew wx (w.heap.size+1) #[I Z 0,I Z 0,I Z 0,I Z 0,I Z 0,I Z 0,I Z 0,I Z 0,I Z 0,I Z 0,I Z 0,.string ⟨#[]⟩]/\aq w.heap.size w wx)
 case first=>
  refine RD (fun _=>True) trivial (fun _=>?_)
  refine tk 0 (.string s) rfl (pC (.tmp 0) (.string s) rfl kr kr) trivial (tk 1 (.int .u8 (aC s.data.toList 9)) rfl (Me (.tmp 50) s 9 9 _ rfl kr kr rfl om g9) trivial (tk 2 (I Z (aC s.data.toList 9)) rfl (Mf (.tmp 51) (aC s.data.toList 9) rfl kr kr iw9) trivial ?_));simp only[ZZ];refine tk 3 (.string s) rfl (pC (.tmp 0) (.string s) rfl kr kr) trivial (tk 4 (.int .u8 (aC s.data.toList 8)) rfl (Me (.tmp 53) s 8 8 _ rfl kr kr rfl om g8) trivial (tk 5 (I Z (aC s.data.toList 8)) rfl (Mf (.tmp 54) (aC s.data.toList 8) rfl kr kr iw8) trivial ?_));simp only[ZZ];refine tk 6 (.string s) rfl (pC (.tmp 0) (.string s) rfl kr kr) trivial (tk 7 (.string (s.extract 4 6)) rfl (vx (.tmp 56) s 4 6 4 6 rfl kr kr rfl rfl om om) trivial (tk 9 (.string s) rfl (pC (.tmp 0) (.string s) rfl kr kr) trivial ?_));simp only[ZZ];refine tk 10 (.string (s.extract 12 16)) rfl (vx (.tmp 59) s 12 16 12 16 rfl kr kr rfl rfl om om) trivial (tk 12 (.string s) rfl (pC (.tmp 0) (.string s) rfl kr kr) trivial (tk 13 (.string (s.extract 16 20)) rfl (vx (.tmp 62) s 16 20 16 20 rfl kr kr rfl rfl om om) trivial ?_));simp only[ZZ];refine AR [8,16] ?_
  refine AP (fun K hK=>?_) ?_
  .refine pL 105 #[.string (s.extract 4 6)] kr _ (N4 _) ?_;intro w' hb;(try replace hb:=AK hb);replace T0:=T0.below hb;replace T4:=T4.below hb;replace hB:=hB.trans (hb.mono hB.size)
   refine hh ?_
   clear hK K;refine AR [11,16] ?_
   refine AP (fun K hK=>?_) ?_
   .refine pL 105 #[.string (s.extract 12 16)] kr _ (N12 _) ?_;intro w' hb;replace T0:=T0.below hb;replace T4:=T4.below hb;replace hB:=hB.trans (hb.mono hB.size)
    refine hh ?_
    clear hK K;refine AR [14,16] ?_
    refine AP (fun K hK=>?_) ?_
    .refine pL 105 #[.string (s.extract 16 20)] kr _ (N16 _) ?_;intro w' hb;replace T0:=T0.below hb;replace T4:=T4.below hb;replace hB:=hB.trans (hb.mono hB.size)
     refine hh ?_
     clear hK K;refine m27 ?_;refine AR [16] ?_
     refine AP (fun K hK=>?_) AZ
     refine Vv ?_;clear T0 T4;intro b w' eb T5 hk fj Ow T0 T4;((replace hB:=fj _ _ hB hB.size));clear hk fj eb
     refine hh ?_
     clear hK K
     exact AW
    refine AP (fun K hK=>?_) AZ
    refine Vv ?_;clear T0 T4;intro b w' eb T5 hk fj Ow T0 T4;((replace hB:=fj _ _ hB hB.size));clear hk fj eb
    exact AX
   refine AP (fun K hK=>?_) AZ
   refine Vv ?_;clear T0 T4;intro b w' eb T5 hk fj Ow T0 T4;((replace hB:=fj _ _ hB hB.size));clear hk fj eb
   exact AY
  refine AP (fun K hK=>?_) AZ
  refine Vv ?_;clear T0 T4;intro b w' eb T5 hk fj Ow T0 T4;((replace hB:=fj _ _ (qbY hB) hB.size));clear hk fj eb
  refine hh ?_
  clear hK K;refine AR [8] ?_
  refine AP (fun K hK=>?_) AZ
  refine pL 105 #[.string (s.extract 4 6)] kr _ (N4 _) ?_;intro w' hb;refine Ox ?_;clear T0 T4 T5 hB;intro T0 T4 T5 hB
  exact AY
 case rest=>
  clear T0 T4 hB c0 c4 f0
  obtain⟨b,rfl,hb1,T5,T0,T4,hB⟩:=hcut
  refine ‹∀(a:Act) (w:af),Code.wp _ _ _ a w->_› _ _ ?_
  exact hA b _ hb1 T5 T0 T4 hB _ _ _ _ _ _ _ _ _ _ _ _ _ _ _ _ _ _ _ _ _ _ _ _ _ _ _ _ _ _ _ _ _ _ _ _ _ _ _ _ _ _ _ _ _ _ _ _ _ _ _ _ _ _ _ _ _ _ _ _ _ _ _ _ _ _ _ _ _ _ _ _ _ _ _ _ _ _ _ _ _ _ _ _ _ _ _ _ _ _ _ _ _ _ _ _ _ _ _ _ _ _ _ _ _ _ _ _ _ _ _ _ _ _ _ _ _ _ _ _ _ _ _ _ _ _ _ _ _ _ _ _ _ _ _ _ _ _ _ _ _ _ _ _ _ _ _ _ _ _ _ _ _ _ _ _ _ _ _ _ _ _ _ _ _ _ _ _ _ _ _ _ _ _ _ _ _ _ _ _ _ _ _ _ _ _ _ _ _ _ _ _ _ _ _ _ _ _ _ _ _ _ _ _ _ _ _ _ _ _ _ _ _ _
def rR(h:p:=by
 intro w
 have:=JD (bl (ps (bL s.data.toList 12) (bL s.data.toList 16) (aC s.data.toList 9) ((s.size:Int)-20))++s.extract 20 s.size) w (by rw[ByteArray.size_append];omega)
 rw[ByteArray.data_append,Array.toList_append,zW,wZ,←jP,q82 _ _ om] at this
 exact this):p:=h
def rS(h:p:=by
 go_wp2
 refine bodyPost_ret (v:=.tuple #[pv p0,I Z 4]) (by simp[results,results50,go_sem,pv,p0,c0];rfl) rfl ⟨by rw[ye _ 4 ly.out om,ly.out],?_⟩
 iterate 12 (refine Below.setCell ?_ (by exact Nat.le_refl _) _)
 exact hB):p:=h
def qbZ(s:ByteArray)(w:af)(hs:s.size<=65535)(i3:20<=s.size)(H:rN s.data.toList)(Fo:aK (aC s.data.toList 9≠1/\aC s.data.toList 9≠6/\aC s.data.toList 9≠17)):Q9 s w:=by
 have jP:=mf s;intro b wc hb1 T5 T0 T4 hB
 intros;unfold PQ
 conv=>arg 2;whnf
 replace c0:=T0.cell;replace c4:=T4.cell;replace f0:=T0.free;replace c5:=T5.cell;replace f5:=T5.free;have z2:(s.extract 20 s.size).size=s.size-20:=wX s 20 s.size (Nat.le_refl _);(have z3:((s.extract 20 s.size).size:Int)=(s.size:Int)-20:=by omega);have b9:=nE s.data.toList 9;(have rP:(bl (ps (bL s.data.toList 12) (bL s.data.toList 16) (aC s.data.toList 9) ((s.size:Int)-20))).size<=12:=by rw[kY];unfold ps;split<;>simp)
 have CS:∀w,az prog 106 #[.string (bl (ps (bL s.data.toList 12) (bL s.data.toList 16) (aC s.data.toList 9) ((s.size:Int)-20))++s.extract 20 s.size)] w fun e w'=>e=.returned (I Z (bk (bJ (dY s.data.toList (aC s.data.toList 9)))))/\aq w.heap.size w w':=by
  exact rR
 have k1:aC s.data.toList 9≠1:=Fo.out.1;have k6:aC s.data.toList 9≠6:=Fo.out.2.1;have Mg:aC s.data.toList 9≠17:=Fo.out.2.2;(have e1:(aC s.data.toList 9==1)=false:=by simpa using k1);(have e6:(aC s.data.toList 9==6)=false:=by simpa using k6);(have iD:(aC s.data.toList 9==17)=false:=by simpa using Mg)
 have ly:aK (cj s.data.toList=4):=by
  have e6:aC s.data.toList 6=0/\aC s.data.toList 7=0:=by
   exact wY
  exact qbt s.data.toList om H.mark H.size H.sum H.yn e6.1 e6.2 H.aG (by unfold jE;simp[k1,k6,Mg])
 clear k1 k6 Mg
 exact rS
def xc(h:p:=by
 obtain⟨T5,T0,T4,hB⟩:=hcut;refine ‹∀(a:Act) (w:World),Code.wp _ _ _ a w->_› _ _ ?_
 exact yo b _ hb1 T5 T0 T4 hB _ _ _ _ _ _ _ _ _ _ _ _ _ _ _ _ _ _ _ _ _ _ _ _ _ _ _ _ _ _ _ _ _ _ _ _ _ _ _ _ _ _ _ _ _ _ _ _ _ _ _ _ _ _ _ _ _ _ _ _ _ _ _ _ _ _ _ _ _ _ _ _ _ _ _ _ _ _ _ _ _ _ _ _ _ _ _ _ _ _ _ _ _ _ _ _ _ _ _ _ _ _ _ _ _ _ _ _ _ _ _ _ _ _ _ _ _ _ _ _ _ _ _ _ _ _ _ _ _ _ _ _ _ _ _ _ _ _ _ _ _ _ _ _ _ _ _ _ _ _ _ _ _ _ _ _ _ _ _ _ _ _ _ _ _ _ _ _ _ _ _ _ _ _ _ _ _ _ _ _ _ _ _ _ _ _ _ _ _ _ _ _ _ _ _ _ _ _ _ _ _ _ _ _ _ _ _ _ _ _ _ _ _):p:=h
def vy(h:p:=by
 go_upto_region 23 with(first|(go_at_call 107;go_fit (CA _);rintro e w' ⟨rfl,hb⟩;refine xd ?_;intro T0 T4 T5 c0 c4 f0 c5 f5 hB)|(go_at_call 106;go_fit (CS _);rintro e w' ⟨rfl,hb⟩;refine xd ?_;clear T0 T4 T5 c0 c4 f0 c5 f5 hB;intro T0 T4 T5 c0 c4 f0 c5 f5 hB))
 go_cut [] (fun wx=>ew wx b #[I Z (aC s.data.toList 9),I Z (bL s.data.toList 12),I Z 0,I Z (bL s.data.toList 16),I Z 0,I Z (aC s.data.toList 8),I Z (bf s.data.toList 4),I Z 0,I Z 0,I Z 0,I Z 0,.string ((s.extract 20 s.size).extract 8 (s.extract 20 s.size).size)]/\ew wx w.heap.size #[I Z 0,I Z 0,I Z 0,I Z 0,I Z 0,I Z 0,I Z 0,I Z 0,I Z 0,I Z 0,I Z 0,.string ⟨#[]⟩]/\ew wx (w.heap.size+1) #[I Z 0,I Z 0,I Z 0,I Z 0,I Z 0,I Z 0,I Z 0,I Z 0,I Z 0,I Z 0,I Z 0,.string ⟨#[]⟩]/\Below w.heap.size w wx)
 case first=>
  go_wp2_with fail
  go_meet
  case rel=>exact⟨by have:=T5.set 11 (.string ((s.extract 20 s.size).extract 8 (s.extract 20 s.size).size));simpa using this,pJ T0 om,pJ T4 om,hB.setCell (by show w.heap.size<=b;omega) _⟩
 case rest=>
 exact xc):p:=h
def A0(h:p:=by
 go_wp2_with (first|(go_at_call 107;go_fit (CA _);rintro e w' ⟨rfl,hb⟩;refine xd ?_;intro T0 T4 T5 c0 c4 f0 c5 f5 hB)|(go_at_call 106;go_fit (CS _);rintro e w' ⟨rfl,hb⟩;refine xd ?_;clear T0 T4 T5 c0 c4 f0 c5 f5 hB;intro T0 T4 T5 c0 c4 f0 c5 f5 hB))
 refine bodyPost_ret (v:=.tuple #[pv p0,I Z 3]) (by simp[results,results50,go_sem,pv,p0,c0];rfl) rfl ⟨by rw[ye _ 3 ly.out om,ly.out],?_⟩
 iterate 12 (refine Below.setCell ?_ (by exact Nat.le_refl _) _)
 exact hB):p:=h
def rT(h:p:=by
 refine bodyPost_ret (v:=.tuple #[pv p0,I Z 1]) (by simp[results,results50,go_sem,pv,p0,c0];rfl) rfl ⟨by rw[ye _ 1 ly.out om,ly.out],?_⟩
 iterate 12 (refine Below.setCell ?_ (by exact Nat.le_refl _) _)
 exact hB):p:=h
def rU(h:p:=by
 (have ds:(bk (bJ (dY s.data.toList (aC s.data.toList 9))) != 65535)=true:=by simpa using jd);clear jd yo
 exact A0):p:=h
def qcA(s:ByteArray)(w:af)(hs:s.size<=65535)(i3:20<=s.size)(H:rN s.data.toList)(Fo:aK (aC s.data.toList 9=1))(yo:o9 s.data.toList->gH (aC s.data.toList 9)<=(s.data.toList.length:Int)-20->bk (bJ (dY s.data.toList (aC s.data.toList 9)))=65535->Ov s w 8):Q9 s w:=by
 have jP:=mf s;intro b wc hb1 T5 T0 T4 hB
 intros;unfold PQ
 conv=>arg 2;whnf
 refine Oy ?_;intro c0 c4 f0 c5 f5 z2 z3 z4;refine m19 ?_;intro b9 CA rP
 have CS:∀w,az prog 106 #[.string (bl (ps (bL s.data.toList 12) (bL s.data.toList 16) (aC s.data.toList 9) ((s.size:Int)-20))++s.extract 20 s.size)] w fun e w'=>e=.returned (I Z (bk (bJ (dY s.data.toList (aC s.data.toList 9)))))/\aq w.heap.size w w':=by
  exact rR
 have k9:aC s.data.toList 9=1:=Fo.out;(have e1:(aC s.data.toList 9==1)=true:=by rw[k9];rfl);(have e6:(aC s.data.toList 9==6)=false:=by rw[k9];rfl);(have iD:(aC s.data.toList 9==17)=false:=by rw[k9];rfl);(have Oz:aK (gH (aC s.data.toList 9)=8):=by show _=_;rw[k9];rfl);refine m4v ?_;intro HH;clear k9
 by_cases pd:(s.size:Int)-20<8
 .have ly:aK (cj s.data.toList=1):=JI s.data.toList HH.out (by rw[Oz.out,jP];exact pd)
  go_wp2
  exact rT
 (have hn:(8:Int)<=(s.size:Int)-20:=by omega);clear pd;refine m4c ?_;intro HL
 by_cases jd:bk (bJ (dY s.data.toList (aC s.data.toList 9)))=65535
 rotate_left
 .have ly:aK (cj s.data.toList=3):=JJ s.data.toList HH.out HL.out jd
  exact rU
 refine m2x ?_;intro ds HS;clear jd;replace yo:=yo HH.out HL.out HS.out
 exact vy
def qcB(s:ByteArray)(w:af)(hs:s.size<=65535)(i3:20<=s.size)(H:rN s.data.toList)(Fo:aK (aC s.data.toList 9=6))(yo:o9 s.data.toList->gH (aC s.data.toList 9)<=(s.data.toList.length:Int)-20->bk (bJ (dY s.data.toList (aC s.data.toList 9)))=65535->Ov s w 20):Q9 s w:=by
 have jP:=mf s;intro b wc hb1 T5 T0 T4 hB
 intros;unfold PQ
 conv=>arg 2;whnf
 refine Oy ?_;intro c0 c4 f0 c5 f5 z2 z3 z4;refine m19 ?_;intro b9 CA rP
 have CS:∀w,az prog 106 #[.string (bl (ps (bL s.data.toList 12) (bL s.data.toList 16) (aC s.data.toList 9) ((s.size:Int)-20))++s.extract 20 s.size)] w fun e w'=>e=.returned (I Z (bk (bJ (dY s.data.toList (aC s.data.toList 9)))))/\aq w.heap.size w w':=by
  exact rR
 have k9:aC s.data.toList 9=6:=Fo.out;(have e6:(aC s.data.toList 9==6)=true:=by rw[k9];rfl);(have iD:(aC s.data.toList 9==17)=false:=by rw[k9];rfl);(have Oz:aK (gH (aC s.data.toList 9)=20):=by show _=_;rw[k9];rfl);refine m4v ?_;intro HH;clear k9
 by_cases pd:(s.size:Int)-20<20
 .have ly:aK (cj s.data.toList=1):=JI s.data.toList HH.out (by rw[Oz.out,jP];exact pd)
  go_wp2
  exact rT
 (have hn:(20:Int)<=(s.size:Int)-20:=by omega);clear pd;refine m4c ?_;intro HL
 by_cases jd:bk (bJ (dY s.data.toList (aC s.data.toList 9)))=65535
 rotate_left
 .have ly:aK (cj s.data.toList=3):=JJ s.data.toList HH.out HL.out jd
  exact rU
 refine m2x ?_;intro ds HS;clear jd;replace yo:=yo HH.out HL.out HS.out
 go_upto_region 23 with(first|(go_at_call 107;go_fit (CA _);rintro e w' ⟨rfl,hb⟩;refine xd ?_;clear T0 T4 T5 c0 c4 f0 c5 f5 hB;intro T0 T4 T5 c0 c4 f0 c5 f5 hB)|(go_at_call 106;go_fit (CS _);rintro e w' ⟨rfl,hb⟩;refine xd ?_;clear T0 T4 T5 c0 c4 f0 c5 f5 hB;intro T0 T4 T5 c0 c4 f0 c5 f5 hB))
 go_cut [] (fun wx=>ew wx b #[I Z (aC s.data.toList 9),I Z (bL s.data.toList 12),I Z 0,I Z (bL s.data.toList 16),I Z 0,I Z (aC s.data.toList 8),I Z (bf s.data.toList 4),I Z 0,I Z 0,I Z 0,I Z 0,.string ((s.extract 20 s.size).extract 20 (s.extract 20 s.size).size)]/\ew wx w.heap.size #[I Z 0,I Z 0,I Z 0,I Z 0,I Z 0,I Z 0,I Z 0,I Z 0,I Z 0,I Z 0,I Z 0,.string ⟨#[]⟩]/\ew wx (w.heap.size+1) #[I Z 0,I Z 0,I Z 0,I Z 0,I Z 0,I Z 0,I Z 0,I Z 0,I Z 0,I Z 0,I Z 0,.string ⟨#[]⟩]/\aq w.heap.size w wx)
 case first=>
  go_wp2_with fail
  go_meet
  case rel=>exact⟨by have:=T5.set 11 (.string ((s.extract 20 s.size).extract 20 (s.extract 20 s.size).size));simpa using this,pJ T0 om,pJ T4 om,hB.setCell (by show w.heap.size<=b;omega) _⟩
 case rest=>
 exact xc
def qcC(s:ByteArray)(w:af)(hs:s.size<=65535)(i3:20<=s.size)(H:rN s.data.toList)(Fo:aK (aC s.data.toList 9=17))(yo:o9 s.data.toList->gH (aC s.data.toList 9)<=(s.data.toList.length:Int)-20->bk (bJ (dY s.data.toList (aC s.data.toList 9)))=65535->¬(aC s.data.toList 26=0/\aC s.data.toList 27=0)->Ov s w 8):Q9 s w:=by
 have jP:=mf s;intro b wc hb1 T5 T0 T4 hB
 intros;unfold PQ
 conv=>arg 2;whnf
 refine Oy ?_;intro c0 c4 f0 c5 f5 z2 z3 z4;refine m19 ?_;intro b9 CA rP
 have CS:∀w,az prog 106 #[.string (bl (ps (bL s.data.toList 12) (bL s.data.toList 16) (aC s.data.toList 9) ((s.size:Int)-20))++s.extract 20 s.size)] w fun e w'=>e=.returned (I Z (bk (bJ (dY s.data.toList (aC s.data.toList 9)))))/\aq w.heap.size w w':=by
  exact rR
 have k9:aC s.data.toList 9=17:=Fo.out;(have e1:(aC s.data.toList 9==1)=false:=by rw[k9];rfl);(have e6:(aC s.data.toList 9==6)=false:=by rw[k9];rfl);(have iD:(aC s.data.toList 9==17)=true:=by rw[k9];rfl);(have Oz:aK (gH (aC s.data.toList 9)=8):=by show _=_;rw[k9];rfl);have HK:aK (aC s.data.toList 9=17):=k9;refine m4v ?_;intro HH;clear k9
 by_cases pd:(s.size:Int)-20<8
 .have ly:aK (cj s.data.toList=1):=JI s.data.toList HH.out (by rw[Oz.out,jP];exact pd)
  go_wp2
  exact rT
 (have hn:(8:Int)<=(s.size:Int)-20:=by omega);clear pd;refine m4c ?_;intro HL
 by_cases jd:bk (bJ (dY s.data.toList (aC s.data.toList 9)))=65535
 rotate_left
 .have ly:aK (cj s.data.toList=3):=JJ s.data.toList HH.out HL.out jd
  exact rU
 refine m2x ?_;intro ds HS;clear jd;(have i6':(6:Int)<(s.size:Int)-20:=by omega);(have i7':(7:Int)<(s.size:Int)-20:=by omega);(have ge6:∀h,(((s.extract 20 s.size)[6]'h).toNat:Int)=aC s.data.toList 26:=fun h=>yq s 6 h);(have ge7:∀h,(((s.extract 20 s.size)[7]'h).toNat:Int)=aC s.data.toList 27:=fun h=>yq s 7 h)
 by_cases q6:aC s.data.toList 26=0
 rotate_left
 ·(have p6:(aC s.data.toList 26==0)=false:=by simpa using q6);(replace yo:=yo HH.out HL.out HS.out fun h=>q6 h.1);clear q6
  exact vy
 (have p6:(aC s.data.toList 26==0)=true:=by simpa using q6);have H6:aK (aC s.data.toList 26=0):=q6;clear q6
 by_cases q7:aC s.data.toList 27=0
 ·(have p7:(aC s.data.toList 27==0)=true:=by simpa using q7);have ly:aK (cj s.data.toList=3):=qbD s.data.toList HH.out HL.out HS.out HK.out H6.out q7;clear q7 yo
  exact A0
 (have p7:(aC s.data.toList 27==0)=false:=by simpa using q7);(replace yo:=yo HH.out HL.out HS.out fun h=>q7 h.2);clear q7
 exact vy
def vz(h:p:=by
 refine bodyPost_ret (v:=.tuple #[pv p0,I Z (good (ba s.data.toList))]) (by simp[results,results50,go_sem,pv,p0,c0];rfl) rfl ⟨by rw[He.out,aT HZ.out,HB.out],?_⟩
 iterate 12 (refine Below.setCell ?_ (by exact Nat.le_refl _) _)
 exact hB):p:=h
def rV(h:p:=by
 have:=ym (ba s.data.toList) w kH Mh
 rw[HE.out,z2] at this;exact this):p:=h
def xe(h:p:=by
 by_cases hg:good (ba s.data.toList)=0
 .exact .inl ⟨by simpa using hg,hg⟩
 .exact .inr ⟨by simpa using hg,hg⟩):p:=h
def nw(h:p:=by
 rw[wZ,Mi] at this;exact this):p:=h
def qcD(s:ByteArray)(w:af)(hs:s.size<=65535)(i3:20<=s.size)(H:rN s.data.toList)(HK:aK (aC s.data.toList 9=1))(HH:aK (o9 s.data.toList))(HL:aK (gH (aC s.data.toList 9)<=(s.data.toList.length:Int)-20))(HS:aK (bk (bJ (dY s.data.toList (aC s.data.toList 9)))=65535)):Ov s w 8:=by
 have jP:=mf s;intro b wc hb1 T5 T0 T4 hB
 intros;unfold PQ
 conv=>arg 2;whnf
 refine Oy ?_;intro c0 c4 f0 c5 f5 z2 z3 z4;(have e1:(aC s.data.toList 9==1)=true:=by rw[HK.out];rfl);(have hn:(8:Int)<=(s.size:Int)-20:=by have:=HL.out;rw[HK.out,jP] at this;exact this);(have i1:(1:Int)<(s.size:Int)-20:=by omega);refine m57 ?_;intro OA Vw;(have i6:(6:Int)<=(s.size:Int)-20:=by omega);have bb:=nE s.data.toList 20;have qjP:IntKind.i64.wrap (aC s.data.toList 20)=aC s.data.toList 20:=wrap_i64 _ om om
 have N26:∀w,az prog 105 #[.string ((s.extract 20 s.size).extract 6 8)] w fun e w'=>e=.returned (I Z (bf s.data.toList 26))/\aq w.heap.size w w':=fun w=>by
  have:=pI (s.extract 20 s.size) 6 8 w rfl om
  exact nw
 have Fq:∀w,az prog 105 #[.string ((s.extract 20 s.size).extract 4 6)] w fun e w'=>e=.returned (I Z (bf s.data.toList 24))/\aq w.heap.size w w':=fun w=>by
  have:=pI (s.extract 20 s.size) 4 6 w rfl om
  exact nw
 by_cases q1:aC s.data.toList 20≠0/\aC s.data.toList 20≠8
 .have ly:aK (cj s.data.toList=4):=Q4 s.data.toList HH.out HL.out HS.out HK.out (.inl q1);(have u1:(aC s.data.toList 20 != 0)=true:=by simpa using q1.1);(have u2:(aC s.data.toList 20 != 8)=true:=by simpa using q1.2);clear q1
  exact rS
 (have Q1:aK (aC s.data.toList 20=0\/aC s.data.toList 20=8):=by show _\/_;omega);clear q1
 by_cases y1:aC s.data.toList 21=0
 rotate_left
 .have ly:aK (cj s.data.toList=4):=Q4 s.data.toList HH.out HL.out HS.out HK.out (.inr y1);(have v1:(aC s.data.toList 21 != 0)=true:=by simpa using y1);clear y1
  rcases Q1.out with q|q
  ·(have w1:(aC s.data.toList 20 != 0)=false:=by rw[q];rfl);clear q
   exact rS
  ·(have w1:(aC s.data.toList 20 != 0)=true/\(aC s.data.toList 20 != 8)=false:=by rw[q];decide);obtain⟨w1,w2⟩:=w1;clear q
   exact rS
 have HB:aK (cj s.data.toList=good (ba s.data.toList)):=qbE s.data.toList HH.out HL.out HS.out HK.out Q1.out y1;(have v1:(aC s.data.toList 21 != 0)=false:=by simpa using y1);clear y1;refine m65 ?_;intro kH
 have Mh:-9223372036854775808<=(ba s.data.toList).aG/\(ba s.data.toList).aG<=9223372036854775807:=by
  (have e:(ba s.data.toList).aG=aC s.data.toList 8:=by unfold ba;rw[aZ HK.out])
  rw[e];have:=nE s.data.toList 8;omega
 (have He:aK (iw s.data.toList=if good (ba s.data.toList)=0 then ba s.data.toList else p0):=by show _=_;unfold iw;rw[HB.out])
 have OB:((good (ba s.data.toList) != 0)=false/\aK (good (ba s.data.toList)=0))\/((good (ba s.data.toList) != 0)=true/\aK (¬good (ba s.data.toList)=0)):=by
  exact xe
 rcases Q1.out with q|q
 .have HQ:aK (aC s.data.toList 20=0):=q;clear q
  have HE:aK (pv (ba s.data.toList)=.agg #[I Z (aC s.data.toList 9),I Z (bL s.data.toList 12),I Z 0,I Z (bL s.data.toList 16),I Z (bf s.data.toList 24),I Z (aC s.data.toList 8),I Z (bf s.data.toList 4),I Z (aC s.data.toList 20),I Z (bf s.data.toList 26),I Z 0,I Z 0,.string ((s.extract 20 s.size).extract 8 (s.extract 20 s.size).size)]):=by
   show _=_
   unfold ba pv
   rw[aZ HK.out,HK.out,aT (by rw[HQ.out];decide),aT (by rw[HQ.out];decide),Hf]
  have CG:∀w,az prog 108 #[.agg #[I Z (aC s.data.toList 9),I Z (bL s.data.toList 12),I Z 0,I Z (bL s.data.toList 16),I Z (bf s.data.toList 24),I Z (aC s.data.toList 8),I Z (bf s.data.toList 4),I Z (aC s.data.toList 20),I Z (bf s.data.toList 26),I Z 0,I Z 0,.string ((s.extract 20 s.size).extract 8 (s.size-20))]] w fun e w'=>e=.returned (I Z (good (ba s.data.toList)))/\aq w.heap.size w w':=fun w=>by
   exact rV
  (have u3:(aC s.data.toList 20 != 0)=false/\(aC s.data.toList 20==8)=false:=by rw[HQ.out];decide);obtain⟨w1,w2⟩:=u3
  go_upto_region 31 with fail
  go_region_held3 (fun _=>True) (trivial) ((go_at_call 105;go_fit (N26 _);rintro e w' ⟨rfl,hb⟩;(try replace hb:=AK hb);refine xd ?_;clear T0 T4 T5 c0 c4 f0 c5 f5 hB;intro T0 T4 T5 c0 c4 f0 c5 f5 hB))
  all_goals
   rcases OB with⟨dg,HZ⟩|⟨dg,HZ⟩
   .go_wp2_with (first|(go_at_call 105;go_fit (Fq _);rintro e w' ⟨rfl,hb⟩;((replace T5:=ew.below (((T5).set 7 (I Z (aC s.data.toList 20))).set 8 (I Z (bf s.data.toList 26))) hb));refine OC ?_;clear T0 T4 c0 c4 f0 c5 f5 hB;intro T0 T4 c0 c4 f0 c5 f5 hB)|(go_at_call 108;refine Vx ?_;clear T0 T4;intro w' hb T0 T4;replace T5:=(T5.set 4 (I Z (bf s.data.toList 24))).below hb;refine Vy ?_;clear c0 c4 f0 c5 f5 hB;intro c0 c4 f0 c5 f5 hB))
    refine aL (v:=.tuple #[.agg #[I Z (aC s.data.toList 9),I Z (bL s.data.toList 12),I Z 0,I Z (bL s.data.toList 16),I Z (bf s.data.toList 24),I Z (aC s.data.toList 8),I Z (bf s.data.toList 4),I Z (aC s.data.toList 20),I Z (bf s.data.toList 26),I Z 0,I Z 0,.string ((s.extract 20 s.size).extract 8 (s.size-20))],I Z 0]) (by simp[eQ,results50,go_sem,c0]) rfl ⟨by rw[He.out,aZ HZ.out,HE.out,HB.out,HZ.out,z2],?_⟩
    iterate 12 (refine Below.setCell ?_ (by exact Nat.le_refl _) _)
    exact hB
   .go_wp2_with (first|(go_at_call 105;go_fit (Fq _);rintro e w' ⟨rfl,hb⟩;((replace T5:=ew.below (((T5).set 7 (I Z (aC s.data.toList 20))).set 8 (I Z (bf s.data.toList 26))) hb));refine OC ?_;clear T0 T4 c0 c4 f0 c5 f5 hB;intro T0 T4 c0 c4 f0 c5 f5 hB)|(go_at_call 108;refine Vx ?_;clear T0 T4;intro w' hb T0 T4;replace T5:=(T5.set 4 (I Z (bf s.data.toList 24))).below hb;refine Vy ?_;clear c0 c4 f0 c5 f5 hB;intro c0 c4 f0 c5 f5 hB))
    exact vz
 .have HQ:aK (aC s.data.toList 20=8):=q;clear q
  have HE:aK (pv (ba s.data.toList)=.agg #[I Z (aC s.data.toList 9),I Z (bL s.data.toList 12),I Z (bf s.data.toList 24),I Z (bL s.data.toList 16),I Z 0,I Z (aC s.data.toList 8),I Z (bf s.data.toList 4),I Z (aC s.data.toList 20),I Z (bf s.data.toList 26),I Z 0,I Z 0,.string ((s.extract 20 s.size).extract 8 (s.extract 20 s.size).size)]):=by
   show _=_
   unfold ba pv
   rw[aZ HK.out,HK.out,aZ HQ.out,aZ HQ.out,Hf]
  have CG:∀w,az prog 108 #[.agg #[I Z (aC s.data.toList 9),I Z (bL s.data.toList 12),I Z (bf s.data.toList 24),I Z (bL s.data.toList 16),I Z 0,I Z (aC s.data.toList 8),I Z (bf s.data.toList 4),I Z (aC s.data.toList 20),I Z (bf s.data.toList 26),I Z 0,I Z 0,.string ((s.extract 20 s.size).extract 8 (s.size-20))]] w fun e w'=>e=.returned (I Z (good (ba s.data.toList)))/\aq w.heap.size w w':=fun w=>by
   exact rV
  (have u2:(aC s.data.toList 20 != 0)=true/\(aC s.data.toList 20 != 8)=false/\(aC s.data.toList 20==8)=true:=by rw[HQ.out];decide);obtain⟨w1,w2,w3⟩:=u2
  go_upto_region 31 with fail
  go_region_held3 (fun _=>True) (trivial) ((go_at_call 105;go_fit (N26 _);rintro e w' ⟨rfl,hb⟩;(try replace hb:=AK hb);refine xd ?_;clear T0 T4 T5 c0 c4 f0 c5 f5 hB;intro T0 T4 T5 c0 c4 f0 c5 f5 hB))
  all_goals
   rcases OB with⟨dg,HZ⟩|⟨dg,HZ⟩
   .go_wp2_with (first|(go_at_call 105;go_fit (Fq _);rintro e w' ⟨rfl,hb⟩;((replace T5:=ew.below (((T5).set 7 (I Z (aC s.data.toList 20))).set 8 (I Z (bf s.data.toList 26))) hb));refine OC ?_;clear T0 T4 c0 c4 f0 c5 f5 hB;intro T0 T4 c0 c4 f0 c5 f5 hB)|(go_at_call 108;refine Vx ?_;clear T0 T4;intro w' hb T0 T4;replace T5:=(T5.set 2 (I Z (bf s.data.toList 24))).below hb;refine Vy ?_;clear c0 c4 f0 c5 f5 hB;intro c0 c4 f0 c5 f5 hB))
    refine aL (v:=.tuple #[.agg #[I Z (aC s.data.toList 9),I Z (bL s.data.toList 12),I Z (bf s.data.toList 24),I Z (bL s.data.toList 16),I Z 0,I Z (aC s.data.toList 8),I Z (bf s.data.toList 4),I Z (aC s.data.toList 20),I Z (bf s.data.toList 26),I Z 0,I Z 0,.string ((s.extract 20 s.size).extract 8 (s.size-20))],I Z 0]) (by simp[eQ,results50,go_sem,c0]) rfl ⟨by rw[He.out,aZ HZ.out,HE.out,HB.out,HZ.out,z2],?_⟩
    iterate 12 (refine Below.setCell ?_ (by exact Nat.le_refl _) _)
    exact hB
   .go_wp2_with (first|(go_at_call 105;go_fit (Fq _);rintro e w' ⟨rfl,hb⟩;((replace T5:=ew.below (((T5).set 7 (I Z (aC s.data.toList 20))).set 8 (I Z (bf s.data.toList 26))) hb));refine OC ?_;clear T0 T4 c0 c4 f0 c5 f5 hB;intro T0 T4 c0 c4 f0 c5 f5 hB)|(go_at_call 108;refine Vx ?_;clear T0 T4;intro w' hb T0 T4;replace T5:=(T5.set 2 (I Z (bf s.data.toList 24))).below hb;refine Vy ?_;clear c0 c4 f0 c5 f5 hB;intro c0 c4 f0 c5 f5 hB))
    exact vz
def qcE(s:ByteArray)(w:af)(hs:s.size<=65535)(i3:20<=s.size)(H:rN s.data.toList)(HK:aK (aC s.data.toList 9=17))(HH:aK (o9 s.data.toList))(HL:aK (gH (aC s.data.toList 9)<=(s.data.toList.length:Int)-20))(HS:aK (bk (bJ (dY s.data.toList (aC s.data.toList 9)))=65535))(H67:aK (¬(aC s.data.toList 26=0/\aC s.data.toList 27=0))):Ov s w 8:=by
 have jP:=mf s;intro b wc hb1 T5 T0 T4 hB
 intros;unfold PQ
 conv=>arg 2;whnf
 refine Oy ?_;intro c0 c4 f0 c5 f5 z2 z3 z4;(have e1:(aC s.data.toList 9==1)=false:=by rw[HK.out];rfl);(have iD:(aC s.data.toList 9==17)=true:=by rw[HK.out];rfl);(have hn:(8:Int)<=(s.size:Int)-20:=by have:=HL.out;rw[HK.out,jP] at this;exact this);(have i2:(2:Int)<=(s.size:Int)-20:=by omega);(have i4:(4:Int)<=(s.size:Int)-20:=by omega);(have i6:(6:Int)<=(s.size:Int)-20:=by omega)
 have N20:∀w,az prog 105 #[.string ((s.extract 20 s.size).extract 0 2)] w fun e w'=>e=.returned (I Z (bf s.data.toList 20))/\aq w.heap.size w w':=fun w=>by
  have:=pI (s.extract 20 s.size) 0 2 w rfl om
  exact nw
 have N22:∀w,az prog 105 #[.string ((s.extract 20 s.size).extract 2 4)] w fun e w'=>e=.returned (I Z (bf s.data.toList 22))/\aq w.heap.size w w':=fun w=>by
  have:=pI (s.extract 20 s.size) 2 4 w rfl om
  exact nw
 have Fq:∀w,az prog 105 #[.string ((s.extract 20 s.size).extract 4 6)] w fun e w'=>e=.returned (I Z (bf s.data.toList 24))/\aq w.heap.size w w':=fun w=>by
  have:=pI (s.extract 20 s.size) 4 6 w rfl om
  exact nw
 by_cases hq:bf s.data.toList 24=(s.size:Int)-20
 rotate_left
 .have ly:aK (cj s.data.toList=1):=qbF s.data.toList HH.out HL.out HS.out HK.out H67.out (by rw[jP];exact hq);(have u1:(bf s.data.toList 24 != (s.size:Int)-20)=true:=by simpa using hq);clear hq
  go_wp2_with (go_at_call 105;go_fit (Fq _);rintro e w' ⟨rfl,hb⟩;refine xd ?_;clear T0 T4 T5 c0 c4 f0 c5 f5 hB;intro T0 T4 T5 c0 c4 f0 c5 f5 hB)
  exact rT
 have HB:aK (cj s.data.toList=good (ba s.data.toList)):=qbG s.data.toList HH.out HL.out HS.out HK.out H67.out (by rw[jP];exact hq);(have u1:(bf s.data.toList 24 != (s.size:Int)-20)=false:=by simpa using hq);clear hq;refine m65 ?_;intro kH
 have Mh:-9223372036854775808<=(ba s.data.toList).aG/\(ba s.data.toList).aG<=9223372036854775807:=by
  (have e:(ba s.data.toList).aG=aC s.data.toList 8:=by unfold ba;rw[aT (by rw[HK.out];decide),aT (by rw[HK.out];decide)])
  rw[e];have:=nE s.data.toList 8;omega
 (have He:aK (iw s.data.toList=if good (ba s.data.toList)=0 then ba s.data.toList else p0):=by show _=_;unfold iw;rw[HB.out])
 have HE:aK (pv (ba s.data.toList)=.agg #[I Z (aC s.data.toList 9),I Z (bL s.data.toList 12),I Z (bf s.data.toList 20),I Z (bL s.data.toList 16),I Z (bf s.data.toList 22),I Z (aC s.data.toList 8),I Z (bf s.data.toList 4),I Z 0,I Z 0,I Z 0,I Z 0,.string ((s.extract 20 s.size).extract 8 (s.extract 20 s.size).size)]):=by
  show _=_
  unfold ba pv
  rw[aT (by rw[HK.out];decide),aT (by rw[HK.out];decide),Hf]
 have CG:∀w,az prog 108 #[.agg #[I Z (aC s.data.toList 9),I Z (bL s.data.toList 12),I Z (bf s.data.toList 20),I Z (bL s.data.toList 16),I Z (bf s.data.toList 22),I Z (aC s.data.toList 8),I Z (bf s.data.toList 4),I Z 0,I Z 0,I Z 0,I Z 0,.string ((s.extract 20 s.size).extract 8 (s.size-20))]] w fun e w'=>e=.returned (I Z (good (ba s.data.toList)))/\aq w.heap.size w w':=fun w=>by
  exact rV
 have OB:((good (ba s.data.toList) != 0)=false/\aK (good (ba s.data.toList)=0))\/((good (ba s.data.toList) != 0)=true/\aK (¬good (ba s.data.toList)=0)):=by
  exact xe
 go_upto_region 38 with(go_at_call 105;go_fit (Fq _);rintro e w' ⟨rfl,hb⟩;refine xd ?_;clear T0 T4 T5 c0 c4 f0 c5 f5 hB;intro T0 T4 T5 c0 c4 f0 c5 f5 hB)
 go_region_held3 (fun _=>True) (trivial) (first|(go_at_call 105;go_fit (N20 _);rintro e w' ⟨rfl,hb⟩;(try replace hb:=AK hb);refine xd ?_;clear T0 T4 T5 c0 c4 f0 c5 f5 hB;intro T0 T4 T5 c0 c4 f0 c5 f5 hB)|(go_at_call 105;go_fit (N22 _);rintro e w' ⟨rfl,hb⟩;refine xd ?_;clear T0 T4 T5 c0 c4 f0 c5 f5 hB;intro T0 T4 T5 c0 c4 f0 c5 f5 hB))
 all_goals
  rcases OB with⟨dg,HZ⟩|⟨dg,HZ⟩
  .go_wp2_with (go_at_call 108;refine s8 ?_;intro w' hb;((replace T5:=ew.below (((T5).set 2 (I Z (bf s.data.toList 20))).set 4 (I Z (bf s.data.toList 22))) hb));refine OC ?_;clear T0 T4 c0 c4 f0 c5 f5 hB;intro T0 T4 c0 c4 f0 c5 f5 hB)
   refine aL (v:=.tuple #[.agg #[I Z (aC s.data.toList 9),I Z (bL s.data.toList 12),I Z (bf s.data.toList 20),I Z (bL s.data.toList 16),I Z (bf s.data.toList 22),I Z (aC s.data.toList 8),I Z (bf s.data.toList 4),I Z 0,I Z 0,I Z 0,I Z 0,.string ((s.extract 20 s.size).extract 8 (s.size-20))],I Z 0]) (by simp[eQ,results50,go_sem,c0]) rfl ⟨by rw[He.out,aZ HZ.out,HE.out,HB.out,HZ.out,z2],?_⟩
   iterate 12 (refine Below.setCell ?_ (by exact Nat.le_refl _) _)
   exact hB
  .go_wp2_with (go_at_call 108;refine s8 ?_;intro w' hb;((replace T5:=ew.below (((T5).set 2 (I Z (bf s.data.toList 20))).set 4 (I Z (bf s.data.toList 22))) hb));refine OC ?_;clear T0 T4 c0 c4 f0 c5 f5 hB;intro T0 T4 c0 c4 f0 c5 f5 hB)
   exact vz
end Go.Proofs.YtnkpgdejagglaaaGreatDoor
