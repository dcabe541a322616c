/-
  Of what a law stands on.
-/
import Derived.Test.YtbboabfmoahipaaZbd12
set_option linter.unusedSimpArgs false
set_option linter.unusedVariables false
namespace Go.Proofs.Ytbboabfmoahipaa
open Go.Value renaming int → I,pointer → V
open Go.IntKind renaming i64 → Z
open _root_.Go.Proofs.Try Go.ChangeShapes Go.WideShapes Go.ChangeAt Go.RowKit
set_option maxHeartbeats 16000000
set_option maxRecDepth 100000
variable {p:Prop}{w wr:World}{b3 b4 c1 cap lv n:Nat}{f h:Nat->Int}{g:Nat->Bool}{a0 a1:Option Addr}{ms xs:List Mp}
theorem sZbd134(h:p:=by
 clear kdr
 go_wp2_with (first|((with_reducible refine gL 30 3 ?_);refine m4z ?_)|(go_at_call 16;go_fit (qf8 f2 g h2 (.slice a2 lv2 c2) ms2 (qbq.wf HG2.out) _ (B.map 0 rfl));rintro e w30 ⟨r',hr',rfl,hb30⟩;obtain rfl:r'=true:=(hr'.2 HG2.out);clear hr';replace B:=B.below hb30;clear hb30))
 (refine⟨?_,?measure⟩;unfold WP;(repeat apply Exists.intro);refine⟨?rel,rfl⟩)
 case rel=>first|exact⟨j+1,by omega,by omega,qj2b j,f2,g,h2,a2,lv2,c2,ms2,B.two 7 8 (by decide) rfl rfl 0 rfl,hN5,HG2,HLn2⟩|exact⟨j+1,by omega,by omega,qj0b hjw,f2,g,h2,a2,lv2,c2,ms2,B.two 7 8 (by decide) rfl rfl 0 rfl,hN5,HG2,HLn2⟩|((repeat apply Exists.intro);first|exact⟨⟨j+1,by omega,by omega,qj2b j,f2,g,h2,a2,lv2,c2,ms2,B.two 7 8 (by decide) rfl rfl 0 rfl,hN5,HG2,HLn2⟩,rfl⟩|exact⟨⟨j+1,by omega,by omega,qj0b hjw,f2,g,h2,a2,lv2,c2,ms2,B.two 7 8 (by decide) rfl rfl 0 rfl,hN5,HG2,HLn2⟩,rfl⟩)
 case measure=>unfold WPmu;(first|rw[hjw]|skip);exact q21 hj120):p:=h
theorem qzrb(u1 u2 u6 u7 u8 u9 u10 u11 u12 u13 u14 u15 u16 u17 u18 u19 u20 u21 u22 u23 u24 u25 u26 u27 u28 u29 u30 u31 u32 u33 u34 u35 u36 u37 u38 u39 u40 u41 u42 u43 u44 u45 u46 u47 u48 u49 u50 u51 u52 u53 u54 u55 u56 u57 u58 u59 u60 u61 u62 u63 u64 u65 u66 u67 u68 u69 u70 u71 u72 u73 u74 u75 u76 u77 u78 u79 u80 u81 u82 u83 u84 u85 u86 u87 u88 u89 u90 u91 u92 u93 u94 u95 u96 u97 u98 u99 u100 u101 u102 u103 u104 u105 u106 u107 u108 u109 u110 u111 u112 u113 u114 u115 u116 u117 u118 u119 u120 u121 u122 u123 u124 u125 u126 u127 u128 u129 u130 u131 u132 u133 u134 u135 u136 u137 u138 u139 u140 u141 u142 u143 u144 u145 u146 u147 u148 u149 u150 u151 u152 u153 u154 u155 u156 u157 u158 u159 u160 u161 u162 u163 u164 u165 u166 u167 u168 u169 u170 u171 u172 u173 u174 u175 u176 u177 u178 u179 u180 u181 u182 u183 u184 u185 u186 u187 u188 u189 u190 u191 u192 u193 u194 u195 u196 u197 u198 u199 u200 u201 u202 u203 u204 u205 u206 u207 u208 u209 u210 u211 u212 u213 u214 u215 u216 u217 u218 u219 u220 u221 u222 u223 u224 u225 u226 u227 u228 u229 u230 u231 u232 u233 u234:Value)(j:Nat)(B:Bd w wr [(b3,30,tc f g h (.slice a1 lv c1)),(b4,50,pr3)] [(.slice a1 lv c1,ms)])(hnil:qcs (.slice a1 lv c1))(HG:Hid (qbq f h ms))(HLn:Hid (lv=ms.length))(HN:Hid (n=xs.length))(hX:qaz w (.slice a0 n cap) xs)(hwx:∀m∈xs,(Lit.int .i64 m.2.2.2.2).wf=true)(hjn':j<n)(hj120:j<120)(x:Mp)(hx:∃hh:j<xs.length,xs[j]=x)(hkd:x.1%4=0)(Q0:Exit->Act->World->Prop):
  Code.wp prog (qyyb f8) (Exit.then (fun a' W=>WP w b3 b4 a0 n cap a' W/\WPmu a' W<WPmu ⟨#[(.slice a0 n cap),u1,u2,.pointer (some ⟨b3,0,none⟩),.pointer (some ⟨b4,0,none⟩),.int .i64 (j:Int),u6,u7,u8,u9,u10,u11,u12,u13,u14,u15,u16,u17,u18,u19,u20,u21,u22,u23,u24,u25,u26,u27,u28,u29,u30,u31,u32,u33,u34,u35,u36,u37,u38,u39,u40,u41,u42,u43,u44,u45,u46,u47,u48,u49,u50,u51,u52,u53,u54,u55,u56,u57,u58,u59,u60,u61,u62,u63,u64,u65,u66,u67,u68,u69,u70,u71,u72,u73,u74,u75,u76,u77,u78,u79,u80,u81,u82,u83,u84,u85,u86,u87,u88,u89,u90,u91,u92,u93,u94,u95,u96,u97,u98,u99,u100,u101,u102,u103,u104,u105,u106,u107,u108,u109,u110,u111,u112,u113,u114,u115,u116,u117,u118,u119,u120,u121,u122,u123,u124,u125,u126,u127,u128,u129,u130,u131,u132,u133,u134,u135,u136,u137,u138,u139,u140,u141,u142,u143,u144,u145,u146,u147,u148,u149,u150,u151,u152,u153,u154,u155,u156,u157,u158,u159,u160,u161,u162,u163,u164,u165,u166,u167,u168,u169,u170,u171,u172,u173,u174,u175,u176,u177,u178,u179,u180,u181,u182,u183,u184,u185,u186,u187,u188,u189,u190,u191,u192,u193,u194,u195,u196,u197,u198,u199,u200,u201,u202,u203,u204,u205,u206,u207,u208,u209,u210,u211,u212,u213,u214,u215,u216,u217,u218,u219,u220,u221,u222,u223,u224,u225,u226,u227,u228,u229,u230,u231,u232,u233,u234],[]⟩ wr) Q0) ⟨#[(.slice a0 n cap),u1,u2,.pointer (some ⟨b3,0,none⟩),.pointer (some ⟨b4,0,none⟩),.int .i64 (j:Int),u6,u7,u8,u9,u10,u11,u12,u13,u14,u15,u16,u17,u18,u19,u20,u21,u22,u23,u24,u25,u26,u27,u28,u29,u30,u31,u32,u33,u34,u35,u36,u37,u38,u39,u40,u41,u42,u43,u44,u45,u46,u47,u48,u49,u50,u51,u52,u53,u54,u55,u56,u57,u58,u59,u60,u61,u62,u63,u64,u65,u66,u67,u68,u69,u70,u71,u72,u73,u74,u75,u76,u77,u78,u79,u80,u81,u82,u83,u84,u85,u86,u87,u88,u89,u90,u91,u92,u93,u94,u95,u96,u97,u98,u99,u100,u101,u102,u103,u104,u105,u106,u107,u108,u109,u110,u111,u112,u113,u114,u115,u116,u117,u118,u119,u120,u121,u122,u123,u124,u125,u126,u127,u128,u129,u130,u131,u132,u133,u134,u135,u136,u137,u138,u139,u140,u141,u142,u143,u144,u145,u146,u147,u148,u149,u150,u151,u152,u153,u154,u155,u156,u157,u158,u159,u160,u161,u162,u163,u164,u165,u166,u167,u168,u169,u170,u171,u172,u173,u174,u175,u176,u177,u178,u179,u180,u181,u182,u183,u184,u185,u186,u187,u188,u189,u190,u191,u192,u193,u194,u195,u196,u197,u198,u199,u200,u201,u202,u203,u204,u205,u206,u207,u208,u209,u210,u211,u212,u213,u214,u215,u216,u217,u218,u219,u220,u221,u222,u223,u224,u225,u226,u227,u228,u229,u230,u231,u232,u233,u234],[]⟩ wr:=by
 conv=>arg 2;whnf
 refine m0b ?_;intro hltX hjn hj12 hjw hlj IW hMv hwN hrg CPk CP3 CDr CUn
 rw[show qd5 f g (x.2.2.2.2%3) true=.tuple #[.agg (pc f (qg3 g (x.2.2.2.2%3) true)),.int .i64 (qfu g (x.2.2.2.2%3) true)] from rfl] at CDr
 rw[show qd5 f g (x.2.2.2.2%3) false=.tuple #[.agg (pc f (qg3 g (x.2.2.2.2%3) false)),.int .i64 (qfu g (x.2.2.2.2%3) false)] from rfl] at CUn
 unfold plv at CDr CUn
 rw[hkd] at CPk
 clear hkd hlj
 go_upto_region 13 with(first|((with_reducible refine qaa (.indexAddr 49 (.tmp 38) (.tmp 39)) rfl ?_);refine m4b ?_)|((with_reducible refine gL 52 40 ?_);refine m26 ?_;(try rw[qc2]))|((with_reducible refine gA 52 ?_);refine m3v ?_;clear B hrg;intro b6 w9 B)|((with_reducible refine gS 52 6 41 ?_);refine m44 ?_;refine m09 ?_;clear B;intro w9 B)|((with_reducible refine gL 30 3 ?_);refine m3m ?_)|((with_reducible refine gA 30 ?_);refine m3i ?_;clear B;intro b7 w9 B)|((with_reducible refine gS 30 7 42 ?_);refine m1l ?_;refine m09 ?_;clear B;intro w9 B)|((with_reducible refine gL 3 43 ?_);refine fx (B.row 1 rfl) _ 0 (x.1) ?_)|(go_at_call 26;go_fit (CPk _);refine m03 ?_))
 clear CPk IW
 obtain⟨y1,hy1⟩:∃y,x.2.1=y:=⟨_,rfl⟩
 obtain⟨y2,hy2⟩:∃y,x.2.2.1=y:=⟨_,rfl⟩
 obtain⟨y3,hy3⟩:∃y,x.2.2.2.1=y:=⟨_,rfl⟩
 have HY1:Hid (x.2.1=y1):=hy1;have HY2:Hid (x.2.2.1=y2):=hy2;have HY3:Hid (x.2.2.2.1=y3):=hy3;clear hy1 hy2 hy3
 obtain⟨pi,hpi,hpi3⟩:∃pi:Nat,y1%3=(pi:Int)/\pi<3:=⟨(y1%3).toNat,by omega,by omega⟩
 (have CPa:=fun w=>q11 y1 3 w (by decide) (by decide));(have CPb:=fun w=>q11 y2 8 w (by decide) (by decide));(have CPc:=fun w=>q11 y3 30 w (by decide) (by decide))
 rw[hpi] at CPa
 (have I3:=fun b w=>qzyb b 0 pi hpi3 w)
 obtain⟨s,hs⟩:∃s,y2%8=s:=⟨_,rfl⟩
 obtain⟨i,hi⟩:∃i,y3%30=i:=⟨_,rfl⟩
 rw[hs] at CPb
 rw[hi] at CPc
 have HP:Hid (pr3[pi]?=some (.int .i64 (prN pi))):=qzub pi hpi3
 obtain⟨P,hP⟩:∃P,prN pi=P:=⟨_,rfl⟩
 rw[hP] at HP
 clear hpi hpi3 hs hi hP CP3 CDr CUn
 go_upto_region 14 with(fail)
 (have kx1:World.cell? _ ⟨b6,1,none⟩=some (.int .i64 y1):=((B.row 1 rfl).cell 1).trans (congrArg (fun z=>some (Value.int .i64 z)) HY1.out));(have kx2:World.cell? _ ⟨b6,2,none⟩=some (.int .i64 y2):=((B.row 1 rfl).cell 2).trans (congrArg (fun z=>some (Value.int .i64 z)) HY2.out));(have kx3:World.cell? _ ⟨b6,3,none⟩=some (.int .i64 y3):=((B.row 1 rfl).cell 3).trans (congrArg (fun z=>some (Value.int .i64 z)) HY3.out));have kp:World.cell? _ ⟨b4,pi,none⟩=some (.int .i64 P):=((B.row 3 rfl).cell pi).trans HP.out
 go_quiet ((first|(go_at_call_of 26 (Value.int .i64 y1);exact Calls.quiet_of_same (CPa _))|(go_at_call_of 26 (Value.int .i64 y2);exact Calls.quiet_of_same (CPb _))|(go_at_call_of 26 (Value.int .i64 y3);exact Calls.quiet_of_same (CPc _))))
 clear kx1 kx2 kx3 kp CPa CPb CPc I3;have B0:=B.drewN
 rcases qzib f g h (.slice a1 lv c1) ms P s i x.2.2.2.2 (qbq.wf HG.out) hnil hwN with⟨E,hE,CO⟩|⟨f2,h2,ms2,m,took,hPl,CO⟩
 ·(have hE0:(E != 0)=true:=by simpa using hE);clear hE
  unfold qpm at CO
  (have hCS:=fun w hM=>qyvb f g h (.slice a1 lv c1) (.slice a1 lv c1) ms (qpn HG.out.pool) (qbq.wf HG.out) w hM hM)
  go_upto_region 35 with(first|((with_reducible refine gA 32 ?_);refine ax 12 32 qa4 ?_;intro b12 w9 l9 R9 h9;clear B;have B:=(B0 _).alloc l9 R9 h9;clear B0;clear R9 h9 l9)|((with_reducible refine gL 30 3 ?_);refine m3n ?_)|((with_reducible refine gL 3 74 ?_);refine fx (B.row 2 rfl) _ 4 (x.2.2.2.2) ?_)|(go_at_call 19;go_fit (CO _ (B.map 0 rfl));refine m0w ?_;clear B;intro w5 B)|((with_reducible refine gS 30 3 77 ?_);refine qab 30 rfl (.tmp 3) _ rfl b3 rfl (tc f g h (.slice a1 lv c1)) rfl _ (B.row 3 rfl) (qen _ _ _ _ _ _ _ _) (qaq _ _ _ _) (qbm _ _ _ _ _ _) ?_;intro w9 R9 t9;replace B:=B.turn 3 rfl R9 t9;clear R9 t9)|((with_reducible refine gS 32 12 78 ?_);refine sx 32 (.tmp 12) _ (mc noM) (B.row 0 rfl) ?_;refine m09 ?_;clear B;intro w9 B)|((with_reducible refine gL 30 7 ?_);refine lx 30 (.tmp 7) (tc f g h (.slice a1 lv c1)) (B.row 1 rfl) ?_)|((with_reducible refine gL 32 12 ?_);refine lx 32 (.tmp 12) (mc noM) (B.row 0 rfl) ?_)|((with_reducible refine qaa (.binOp .neq 32 (.tmp 88) (.tmp 89) 32) rfl ?_);refine qk0 32 (.tmp 88) (.tmp 89) rfl kr (mc noM) (mc noM) rfl rfl eqGuardType32 _ false (qkb noM noM _) zm ?_)|(go_at_call 25;go_fit (hCS _ (B.map 0 rfl));refine m0w ?_;clear B;intro w5 B))
  go_wp2_with (first|((with_reducible refine gL 30 3 ?_);refine m3n ?_)|(go_at_call 16;go_fit (qf8 f g h (.slice a1 lv c1) ms (qbq.wf HG.out) _ (B.map 0 rfl));rintro e w30 ⟨r',hr',rfl,hb30⟩;obtain rfl:r'=true:=(hr'.2 HG.out);clear hr';replace B:=B.below hb30;clear hb30))
  (refine⟨?_,?measure⟩;unfold WP;(repeat apply Exists.intro);refine⟨?rel,rfl⟩)
  case rel=>first|exact⟨j+1,by omega,by omega,qj2b j,f,g,h,a1,lv,c1,ms,B.two 3 4 (by decide) rfl rfl 0 rfl,hnil,HG,HLn⟩|exact⟨j+1,by omega,by omega,qj0b hjw,f,g,h,a1,lv,c1,ms,B.two 3 4 (by decide) rfl rfl 0 rfl,hnil,HG,HLn⟩|((repeat apply Exists.intro);first|exact⟨⟨j+1,by omega,by omega,qj2b j,f,g,h,a1,lv,c1,ms,B.two 3 4 (by decide) rfl rfl 0 rfl,hnil,HG,HLn⟩,rfl⟩|exact⟨⟨j+1,by omega,by omega,qj0b hjw,f,g,h,a1,lv,c1,ms,B.two 3 4 (by decide) rfl rfl 0 rfl,hnil,HG,HLn⟩,rfl⟩)
  case measure=>unfold WPmu;(first|rw[hjw]|skip);exact q21 hj120
 ·obtain⟨hg2,hfd,hbk,hadd,hag,hfr⟩:=hPl;have HG2:Hid (qbq f2 h2 ms2):=hg2;have HV:Hid _:=hidB (qbq.wf hg2);have HW:Hid _:=hidB (qpn hg2.pool);(have CF:=fun v w hM=>qlo f2 g h2 v ms2 P s i w hM);(have CK:=fun v w hM=>qqr f2 g h2 v ms2 P m.2.2.2.1 m.2.2.2.2 w hM)
  rw[hfd] at CF
  rw[hbk] at CK
  (have CO2:=fun v d w hM=>q0s f2 g h2 v ms2 P s i d w hM HV.out hag m hfd);(have hCS:=fun v w hM=>qyvb f2 g h2 v v ms2 HW.out HV.out w hM hM)
  unfold qhw at CF CK
  unfold qpm at CO CO2
  obtain⟨mA,hmA,hmA3⟩:∃mA:Nat,m.2.2.2.1=(mA:Int)/\mA<3:=⟨m.2.2.2.1.toNat,by omega,by omega⟩
  (have IB:=fun b w=>qzxb b 18 mA hmA3 w)
  rw[hmA] at CK
  have HFR:Hid (took=true->g mA=false):=hidB (by intro ht;have:=hfr ht;rw[hmA] at this;simpa using this);have HMA:Hid (m.2.2.2.1=(mA:Int)):=hmA;have HMA3:Hid (mA<3):=hmA3
  obtain⟨lv2,hlv2⟩:∃n,n=ms2.length:=⟨_,rfl⟩
  have HLn2:Hid (lv2=ms2.length):=hlv2;have hd2:=qz2b hwN;clear hg2 hfd hbk hadd hag hfr hmA hmA3 hlv2
  go_upto_region 24 with(first|((with_reducible refine gA 32 ?_);refine ax 12 32 qa4 ?_;intro b12 w9 l9 R9 h9;clear B;have B:=(B0 _).alloc l9 R9 h9;clear B0;clear R9 h9 l9)|((with_reducible refine gL 30 3 ?_);refine m3n ?_)|((with_reducible refine gL 3 74 ?_);refine fx (B.row 2 rfl) _ 4 (x.2.2.2.2) ?_)|(go_at_call 19;go_fit (CO _ (B.map 0 rfl));rintro e w5 ⟨v5,rfl,hM5,hN5,ho5,hb5⟩;replace B:=B.addEither 0 rfl hb5 hM5 ho5;clear hb5 ho5;(obtain⟨a2,c2,hv5,-⟩:=id hM5);clear hM5;rw[←HLn2.out] at hv5;subst hv5)|((with_reducible refine gS 30 3 77 ?_);refine m4f ?_;clear B;intro w9 B)|((with_reducible refine gS 32 12 78 ?_);refine sx 32 (.tmp 12) _ (mc m) (B.row 0 rfl) ?_;refine m09 ?_;clear B;intro w9 B)|(go_at_call 9;go_fit (CF _ _ (B.map 0 rfl));refine m0w ?_;clear B;intro w5 B)|((with_reducible refine gA 32 ?_);refine m15 ?_;clear B;intro b14 w9 B)|((with_reducible refine gS 32 14 101 ?_);refine sx 32 (.tmp 14) _ (mc m) (B.row 0 rfl) ?_;refine m09 ?_;clear B;intro w9 B)|((with_reducible refine gL 30 3 ?_);refine lx 30 (.tmp 3) (tc f2 g h2 (.slice a2 lv2 c2)) (B.row 3 rfl) ?_)|((with_reducible refine gL 30 3 ?_);refine lx 30 (.tmp 3) (tc f2 g h2 (.slice a2 lv2 c2)) (B.row 4 rfl) ?_)|((with_reducible refine gL 30 3 ?_);refine lx 30 (.tmp 3) (tc f2 g h2 (.slice a2 lv2 c2)) (B.row 5 rfl) ?_)|((with_reducible refine gL 3 106 ?_);refine qae (B.row 1 rfl) _ rfl kr 3 rfl (mA:Int) (by rw[←HMA.out];rfl) ?_)|((with_reducible refine gL 3 108 ?_);refine fx (B.row 1 rfl) _ 4 (m.2.2.2.2) ?_)|(go_at_call 12;go_fit (CK _ _ (B.map 0 rfl));refine m0w ?_;clear B;intro w5 B)|((with_reducible refine gA 32 ?_);refine ax 16 32 qa4 ?_;intro b16 w9 l9 R9 h9;replace B:=B.alloc l9 R9 h9;clear R9 h9 l9)|((with_reducible refine gS 32 16 111 ?_);refine sx 32 (.tmp 16) _ (mc m) (B.row 0 rfl) ?_;refine m09 ?_;clear B;intro w9 B)|((with_reducible refine gL 3 118 ?_);refine fx (B.row 4 rfl) _ 4 (x.2.2.2.2) ?_)|(go_at_call 19;go_fit (CO2 _ _ _ (B.map 0 rfl));refine m0w ?_;clear B;intro w5 B)|((with_reducible refine gA 30 ?_);refine ax 18 30 qb8 ?_;intro b18 w9 l9 R9 h9;replace B:=B.alloc l9 R9 h9;clear R9 h9 l9)|((with_reducible refine gA 32 ?_);refine ax 19 32 qa4 ?_;intro b19 w9 l9 R9 h9;replace B:=B.alloc l9 R9 h9;clear R9 h9 l9)|((with_reducible refine gS 30 18 122 ?_);refine qab 30 rfl (.tmp 18) _ rfl b18 rfl (tc f2 g h2 (.slice a2 lv2 c2)) rfl _ (B.row 1 rfl) (qen _ _ _ _ _ _ _ _) (qaq _ _ _ _) (qbm _ _ _ _ _ _) ?_;refine m20 ?_;clear B;intro w9 B)|((with_reducible refine gS 32 19 123 ?_);refine sx 32 (.tmp 19) _ (mc m) (B.row 0 rfl) ?_;refine m09 ?_;clear B;intro w9 B))
  clear CO CF CK CO2 hd2
  cases took with
  | false=>
   go_upto_region 35 with(first|((with_reducible refine gL 32 14 ?_);refine lx 32 (.tmp 14) (mc m) (B.row 3 rfl) ?_)|((with_reducible refine gL 32 12 ?_);refine lx 32 (.tmp 12) (mc m) (B.row 4 rfl) ?_)|((with_reducible refine qaa (.binOp .neq 32 (.tmp 133) (.tmp 134) 32) rfl ?_);refine m68 ?_)|((with_reducible refine gL 32 16 ?_);refine lx 32 (.tmp 16) (mc m) (B.row 2 rfl) ?_)|((with_reducible refine qaa (.binOp .neq 32 (.tmp 138) (.tmp 139) 32) rfl ?_);refine m69 ?_)|((with_reducible refine gL 32 19 ?_);refine lx 32 (.tmp 19) (mc m) (B.row 0 rfl) ?_)|((with_reducible refine qaa (.binOp .neq 32 (.tmp 150) (.tmp 151) 32) rfl ?_);refine m6a ?_)|((with_reducible refine gL 30 18 ?_);refine lx 30 (.tmp 18) (tc f2 g h2 (.slice a2 lv2 c2)) (B.row 1 rfl) ?_)|((with_reducible refine gL 30 3 ?_);refine m4z ?_)|(go_at_call 25;go_fit (hCS _ _ (B.map 0 rfl));refine m0w ?_;clear B;intro w5 B;have kdr:World.cell? _ ⟨b7,18+mA,none⟩=some (.bool (g mA)):=((B.row 5 rfl).cell _).trans (qznb _ _ _ _ _ HMA3.out))|((with_reducible refine gL 3 163 ?_);refine qae (B.row 4 rfl) _ rfl kr 3 rfl (mA:Int) (by rw[←HMA.out];rfl) ?_))
   exact sZbd134
  | true=>
   have hgA:g mA=false:=HFR.out rfl
   go_upto_region 35 with(first|((with_reducible refine gL 32 14 ?_);refine lx 32 (.tmp 14) (mc m) (B.row 3 rfl) ?_)|((with_reducible refine gL 32 12 ?_);refine lx 32 (.tmp 12) (mc m) (B.row 4 rfl) ?_)|((with_reducible refine qaa (.binOp .neq 32 (.tmp 133) (.tmp 134) 32) rfl ?_);refine m68 ?_)|((with_reducible refine gL 32 16 ?_);refine lx 32 (.tmp 16) (mc m) (B.row 2 rfl) ?_)|((with_reducible refine qaa (.binOp .neq 32 (.tmp 138) (.tmp 139) 32) rfl ?_);refine m69 ?_)|((with_reducible refine gL 32 19 ?_);refine lx 32 (.tmp 19) (mc m) (B.row 0 rfl) ?_)|((with_reducible refine qaa (.binOp .neq 32 (.tmp 150) (.tmp 151) 32) rfl ?_);refine m6a ?_)|((with_reducible refine gL 30 18 ?_);refine lx 30 (.tmp 18) (tc f2 g h2 (.slice a2 lv2 c2)) (B.row 1 rfl) ?_)|((with_reducible refine gL 30 3 ?_);refine m4z ?_)|(go_at_call 25;go_fit (hCS _ _ (B.map 0 rfl));refine m0w ?_;clear B;intro w5 B;have kdr:World.cell? _ ⟨b7,18+mA,none⟩=some (.bool (g mA)):=((B.row 5 rfl).cell _).trans (qznb _ _ _ _ _ HMA3.out);rw[hgA] at kdr)|((with_reducible refine gL 3 163 ?_);refine qae (B.row 4 rfl) _ rfl kr 3 rfl (mA:Int) (by rw[←HMA.out];rfl) ?_))
   exact sZbd134
theorem sZbd131(h:p:=by
 refine AR [11] ?_
 refine AP (fun K hK=>?_) ?_
 ·refine sy 32 (.tmp 22) (.tmp 186) (mc m) (B.row 0 rfl) ?_;intro w9 R9 t9;(first|replace t9:=q31 t9|skip);replace B:=B.turn 0 rfl R9 t9;clear R9 t9;(first|replace kS:=ks28 (B.row 2 rfl) (B.row 1 rfl) (B.map 0 rfl) HJJ.out HM.out|replace kS:=ks28 (B.row 3 rfl) (B.row 2 rfl) (B.map 0 rfl) HJJ.out HM.out)
  refine hK.out _ _ kS (fun _=>?_)
  clear hK K;(try simp only[ZZ]);refine AN ?_;clear kS
  go_upto_region 35 with(first|((with_reducible refine gL 30 3 ?_);refine m3n ?_)|((with_reducible refine gL 32 22 ?_);refine lx 32 (.tmp 22) (mc m) (B.row 0 rfl) ?_)|(go_at_call 22;go_fit (CC _ (B.map 0 rfl));rintro e w5 ⟨v5,rfl,hM5,hN5,hl5,hb5⟩;replace B:=B.addNew hb5 hM5 hl5;clear hb5 hl5;(obtain⟨a2,c2,hv5,-⟩:=id hM5);clear hM5;rw[←HLn2.out] at hv5;subst hv5)|((with_reducible refine gS 30 3 191 ?_);refine m4f ?_;clear B;intro w9 B)|((with_reducible refine gL 30 3 ?_);refine lx 30 (.tmp 3) (tc f2 g h2 (.slice a2 lv2 c2)) (B.row 3 rfl) ?_)|((with_reducible refine gL 3 196 ?_);refine fx (B.row 0 rfl) _ 0 (m.1) ?_)|((with_reducible refine gL 3 198 ?_);refine fx (B.row 0 rfl) _ 1 (m.2.1) ?_)|((with_reducible refine gL 3 200 ?_);refine fx (B.row 0 rfl) _ 2 (m.2.2.1) ?_)|(go_at_call 9;go_fit (CF _ _ (B.map 0 rfl));refine m0w ?_;clear B;intro w5 B)|((with_reducible refine gA 32 ?_);refine ax 23 32 qa4 ?_;intro b23 w9 l9 R9 h9;replace B:=B.alloc l9 R9 h9;clear R9 h9 l9)|((with_reducible refine gS 32 23 203 ?_);refine sx 32 (.tmp 23) _ (mc noM) (B.row 0 rfl) ?_;refine m09 ?_;clear B;intro w9 B;have k7:World.cell? _ ⟨b7,29,none⟩=some (.slice a1 lv c1):=((B.row 2 rfl).cell 29).trans (qdw _ _ _ _);have k3:World.cell? _ ⟨b3,29,none⟩=some (.slice a2 lv2 c2):=((B.row 4 rfl).cell 29).trans (qdw _ _ _ _)))
  clear k7 k3
  go_wp2_with (first|((with_reducible refine gL 30 3 ?_);refine lx 30 (.tmp 3) (tc f2 g h2 (.slice a2 lv2 c2)) (B.row 4 rfl) ?_)|(go_at_call 16;go_fit (qf8 f2 g h2 (.slice a2 lv2 c2) (qa6 ms m) (qbq.wf HG2.out) _ (B.map 0 rfl));rintro e w30 ⟨r',hr',rfl,hb30⟩;obtain rfl:r'=true:=(hr'.2 HG2.out);clear hr';replace B:=B.below hb30;clear hb30))
  (refine⟨?_,?measure⟩;unfold WP;(repeat apply Exists.intro);refine⟨?rel,rfl⟩)
  case rel=>first|exact⟨j+1,by omega,by omega,qj2b j,f2,g,h2,a2,lv2,c2,(qa6 ms m),B.two 4 5 (by decide) rfl rfl 0 rfl,hN5,HG2,HLn2⟩|exact⟨j+1,by omega,by omega,qj0b hjw,f2,g,h2,a2,lv2,c2,(qa6 ms m),B.two 4 5 (by decide) rfl rfl 0 rfl,hN5,HG2,HLn2⟩|((repeat apply Exists.intro);first|exact⟨⟨j+1,by omega,by omega,qj2b j,f2,g,h2,a2,lv2,c2,(qa6 ms m),B.two 4 5 (by decide) rfl rfl 0 rfl,hN5,HG2,HLn2⟩,rfl⟩|exact⟨⟨j+1,by omega,by omega,qj0b hjw,f2,g,h2,a2,lv2,c2,(qa6 ms m),B.two 4 5 (by decide) rfl rfl 0 rfl,hN5,HG2,HLn2⟩,rfl⟩)
  case measure=>unfold WPmu;(first|rw[hjw]|skip);exact q21 hj120
 exact AZ):p:=h
theorem qzpb(u1 u2 u6 u7 u8 u9 u10 u11 u12 u13 u14 u15 u16 u17 u18 u19 u20 u21 u22 u23 u24 u25 u26 u27 u28 u29 u30 u31 u32 u33 u34 u35 u36 u37 u38 u39 u40 u41 u42 u43 u44 u45 u46 u47 u48 u49 u50 u51 u52 u53 u54 u55 u56 u57 u58 u59 u60 u61 u62 u63 u64 u65 u66 u67 u68 u69 u70 u71 u72 u73 u74 u75 u76 u77 u78 u79 u80 u81 u82 u83 u84 u85 u86 u87 u88 u89 u90 u91 u92 u93 u94 u95 u96 u97 u98 u99 u100 u101 u102 u103 u104 u105 u106 u107 u108 u109 u110 u111 u112 u113 u114 u115 u116 u117 u118 u119 u120 u121 u122 u123 u124 u125 u126 u127 u128 u129 u130 u131 u132 u133 u134 u135 u136 u137 u138 u139 u140 u141 u142 u143 u144 u145 u146 u147 u148 u149 u150 u151 u152 u153 u154 u155 u156 u157 u158 u159 u160 u161 u162 u163 u164 u165 u166 u167 u168 u169 u170 u171 u172 u173 u174 u175 u176 u177 u178 u179 u180 u181 u182 u183 u184 u185 u186 u187 u188 u189 u190 u191 u192 u193 u194 u195 u196 u197 u198 u199 u200 u201 u202 u203 u204 u205 u206 u207 u208 u209 u210 u211 u212 u213 u214 u215 u216 u217 u218 u219 u220 u221 u222 u223 u224 u225 u226 u227 u228 u229 u230 u231 u232 u233 u234:Value)(j:Nat)(B:Bd w wr [(b3,30,tc f g h (.slice a1 lv c1)),(b4,50,pr3)] [(.slice a1 lv c1,ms)])(hnil:qcs (.slice a1 lv c1))(HG:Hid (qbq f h ms))(HLn:Hid (lv=ms.length))(HN:Hid (n=xs.length))(hX:qaz w (.slice a0 n cap) xs)(hwx:∀m∈xs,(Lit.int .i64 m.2.2.2.2).wf=true)(hjn':j<n)(hj120:j<120)(x:Mp)(hx:∃hh:j<xs.length,xs[j]=x)(hkd:x.1%4=1)(Q0:Exit->Act->World->Prop):
  Code.wp prog (qyyb f8) (Exit.then (fun a' W=>WP w b3 b4 a0 n cap a' W/\WPmu a' W<WPmu ⟨#[(.slice a0 n cap),u1,u2,.pointer (some ⟨b3,0,none⟩),.pointer (some ⟨b4,0,none⟩),.int .i64 (j:Int),u6,u7,u8,u9,u10,u11,u12,u13,u14,u15,u16,u17,u18,u19,u20,u21,u22,u23,u24,u25,u26,u27,u28,u29,u30,u31,u32,u33,u34,u35,u36,u37,u38,u39,u40,u41,u42,u43,u44,u45,u46,u47,u48,u49,u50,u51,u52,u53,u54,u55,u56,u57,u58,u59,u60,u61,u62,u63,u64,u65,u66,u67,u68,u69,u70,u71,u72,u73,u74,u75,u76,u77,u78,u79,u80,u81,u82,u83,u84,u85,u86,u87,u88,u89,u90,u91,u92,u93,u94,u95,u96,u97,u98,u99,u100,u101,u102,u103,u104,u105,u106,u107,u108,u109,u110,u111,u112,u113,u114,u115,u116,u117,u118,u119,u120,u121,u122,u123,u124,u125,u126,u127,u128,u129,u130,u131,u132,u133,u134,u135,u136,u137,u138,u139,u140,u141,u142,u143,u144,u145,u146,u147,u148,u149,u150,u151,u152,u153,u154,u155,u156,u157,u158,u159,u160,u161,u162,u163,u164,u165,u166,u167,u168,u169,u170,u171,u172,u173,u174,u175,u176,u177,u178,u179,u180,u181,u182,u183,u184,u185,u186,u187,u188,u189,u190,u191,u192,u193,u194,u195,u196,u197,u198,u199,u200,u201,u202,u203,u204,u205,u206,u207,u208,u209,u210,u211,u212,u213,u214,u215,u216,u217,u218,u219,u220,u221,u222,u223,u224,u225,u226,u227,u228,u229,u230,u231,u232,u233,u234],[]⟩ wr) Q0) ⟨#[(.slice a0 n cap),u1,u2,.pointer (some ⟨b3,0,none⟩),.pointer (some ⟨b4,0,none⟩),.int .i64 (j:Int),u6,u7,u8,u9,u10,u11,u12,u13,u14,u15,u16,u17,u18,u19,u20,u21,u22,u23,u24,u25,u26,u27,u28,u29,u30,u31,u32,u33,u34,u35,u36,u37,u38,u39,u40,u41,u42,u43,u44,u45,u46,u47,u48,u49,u50,u51,u52,u53,u54,u55,u56,u57,u58,u59,u60,u61,u62,u63,u64,u65,u66,u67,u68,u69,u70,u71,u72,u73,u74,u75,u76,u77,u78,u79,u80,u81,u82,u83,u84,u85,u86,u87,u88,u89,u90,u91,u92,u93,u94,u95,u96,u97,u98,u99,u100,u101,u102,u103,u104,u105,u106,u107,u108,u109,u110,u111,u112,u113,u114,u115,u116,u117,u118,u119,u120,u121,u122,u123,u124,u125,u126,u127,u128,u129,u130,u131,u132,u133,u134,u135,u136,u137,u138,u139,u140,u141,u142,u143,u144,u145,u146,u147,u148,u149,u150,u151,u152,u153,u154,u155,u156,u157,u158,u159,u160,u161,u162,u163,u164,u165,u166,u167,u168,u169,u170,u171,u172,u173,u174,u175,u176,u177,u178,u179,u180,u181,u182,u183,u184,u185,u186,u187,u188,u189,u190,u191,u192,u193,u194,u195,u196,u197,u198,u199,u200,u201,u202,u203,u204,u205,u206,u207,u208,u209,u210,u211,u212,u213,u214,u215,u216,u217,u218,u219,u220,u221,u222,u223,u224,u225,u226,u227,u228,u229,u230,u231,u232,u233,u234],[]⟩ wr:=by
 conv=>arg 2;whnf
 refine m0b ?_;intro hltX hjn hj12 hjw hlj IW hMv hwN hrg CPk CP3 CDr CUn
 rw[show qd5 f g (x.2.2.2.2%3) true=.tuple #[.agg (pc f (qg3 g (x.2.2.2.2%3) true)),.int .i64 (qfu g (x.2.2.2.2%3) true)] from rfl] at CDr
 rw[show qd5 f g (x.2.2.2.2%3) false=.tuple #[.agg (pc f (qg3 g (x.2.2.2.2%3) false)),.int .i64 (qfu g (x.2.2.2.2%3) false)] from rfl] at CUn
 unfold plv at CDr CUn
 rw[hkd] at CPk
 clear hkd hlj
 go_upto_region 13 with(first|((with_reducible refine qaa (.indexAddr 49 (.tmp 38) (.tmp 39)) rfl ?_);refine m4b ?_)|((with_reducible refine gL 52 40 ?_);refine m26 ?_;(try rw[qc2]))|((with_reducible refine gA 52 ?_);refine m3v ?_;clear B hrg;intro b6 w9 B)|((with_reducible refine gS 52 6 41 ?_);refine m44 ?_;refine m09 ?_;clear B;intro w9 B)|((with_reducible refine gL 30 3 ?_);refine m3m ?_)|((with_reducible refine gA 30 ?_);refine m3i ?_;clear B;intro b7 w9 B)|((with_reducible refine gS 30 7 42 ?_);refine m1l ?_;refine m09 ?_;clear B;intro w9 B)|((with_reducible refine gL 3 43 ?_);refine fx (B.row 1 rfl) _ 0 (x.1) ?_)|(go_at_call 26;go_fit (CPk _);refine m03 ?_))
 clear CPk IW
 by_cases h0:ms.length=0
 ·(have hlv:¬(0:Int)<(lv:Int):=by have:=HLn.out;omega);clear h0 CP3 CDr CUn;have k29:World.cell? _ ⟨b3,29,none⟩=some (.slice a1 lv c1):=((B.row 2 rfl).cell 29).trans (qdw _ _ _ _)
  go_upto_region 35 with(fail)
  clear k29
  go_wp2_with (first|((with_reducible refine gL 30 3 ?_);refine lx 30 (.tmp 3) (tc f g h (.slice a1 lv c1)) (B.row 2 rfl) ?_)|(go_at_call 16;go_fit (qf8 f g h (.slice a1 lv c1) ms (qbq.wf HG.out) _ (B.map 0 rfl));rintro e w30 ⟨r',hr',rfl,hb30⟩;obtain rfl:r'=true:=(hr'.2 HG.out);clear hr';replace B:=B.below hb30;clear hb30))
  (refine⟨?_,?measure⟩;unfold WP;(repeat apply Exists.intro);refine⟨?rel,rfl⟩)
  case rel=>first|exact⟨j+1,by omega,by omega,qj2b j,f,g,h,a1,lv,c1,ms,B.two 2 3 (by decide) rfl rfl 0 rfl,hnil,HG,HLn⟩|exact⟨j+1,by omega,by omega,qj0b hjw,f,g,h,a1,lv,c1,ms,B.two 2 3 (by decide) rfl rfl 0 rfl,hnil,HG,HLn⟩|((repeat apply Exists.intro);first|exact⟨⟨j+1,by omega,by omega,qj2b j,f,g,h,a1,lv,c1,ms,B.two 2 3 (by decide) rfl rfl 0 rfl,hnil,HG,HLn⟩,rfl⟩|exact⟨⟨j+1,by omega,by omega,qj0b hjw,f,g,h,a1,lv,c1,ms,B.two 2 3 (by decide) rfl rfl 0 rfl,hnil,HG,HLn⟩,rfl⟩)
  case measure=>unfold WPmu;(first|rw[hjw]|skip);exact q21 hj120
 ·(have hlv:(0:Int)<(lv:Int):=by have:=HLn.out;omega);(have CPl:=fun w=>q11 x.2.2.2.2 (lv:Int) w hlv (by have:=hMv.len;have:=HLn.out;omega))
  obtain⟨jj,hjj,hjl⟩:∃jj:Nat,x.2.2.2.2%(lv:Int)=(jj:Int)/\jj<ms.length:=⟨(x.2.2.2.2%(lv:Int)).toNat,by have:=Int.emod_nonneg x.2.2.2.2 (show(lv:Int)≠0 by omega);omega,by have:=Int.emod_lt_of_pos x.2.2.2.2 hlv;have:=Int.emod_nonneg x.2.2.2.2 (show(lv:Int)≠0 by omega);have:=HLn.out;omega⟩
  rw[hjj] at CPl
  (have IM:=fun w=>qrs hMv jj hjl w)
  obtain⟨m,hm⟩:∃m,ms[jj]=m:=⟨_,rfl⟩
  have HM:Hid (ms[jj]=m):=hm;have HJJ:Hid (jj<ms.length):=hjl;have hmem:m∈ms:=hm▸List.getElem_mem hjl;obtain⟨f2,h2,took,hg2,CC⟩:=qy5b f g h (.slice a1 lv c1) ms m (qbq.wf HG.out) HG.out hmem;have HG2:Hid (qbq f2 h2 (qa6 ms m)):=hg2;(have CF:=fun v w hM=>qlo f2 g h2 v (qa6 ms m) m.1 m.2.1 m.2.2.1 w hM)
  rw[qzhb HG.out hmem] at CF
  unfold qhw at CF
  obtain⟨lv2,hlv2⟩:∃n,n=(qa6 ms m).length:=⟨_,rfl⟩
  have HLn2:Hid (lv2=(qa6 ms m).length):=hlv2;(have hone:((lv:Int)-(lv2:Int) != 1)=false:=by have h1:=qyzb HG.out hmem;have:=HLn.out;rw[←hlv2] at h1;simp;omega);(have hsw:wrap64 ((lv:Int)-(lv2:Int))=(lv:Int)-(lv2:Int):=by have h1:=qyzb HG.out hmem;have:=HLn.out;rw[←hlv2] at h1;unfold wrap64;omega);clear h0 hjj hm hmem hg2 hlv2 CP3 CDr CUn;have k29:World.cell? _ ⟨b3,29,none⟩=some (.slice a1 lv c1):=((B.row 2 rfl).cell 29).trans (qdw _ _ _ _)
  go_upto_region 28 with(fail)
  clear k29;have kS:=ks28 (B.row 2 rfl) (B.row 1 rfl) (B.map 0 rfl) HJJ.out HM.out
  refine RD (fun W=>W.cell? ⟨b3,29,none⟩=some (.slice a1 lv c1)/\W.cell? ⟨b6,4,none⟩=some (.int .i64 x.2.2.2.2)/\W.rangeAt (mb (.slice a1 lv c1)) (mo (.slice a1 lv c1)+5*jj) (mcl m)) kS (fun _=>?_)
  refine tq 0 (.pointer (some ⟨b3,29,none⟩)) rfl kS (tk 1 (.slice a1 lv c1) rfl (Or.inl ⟨by kernel_rfl,by intro w hS;have hc:=hS.1;go_simp⟩) kS (tq 2 (.pointer (some ⟨b6,4,none⟩)) rfl kS ?_));simp only[ZZ];refine tk 3 (.int .i64 x.2.2.2.2) rfl (Or.inl ⟨by kernel_rfl,by intro w hS;have hc:=hS.2.1;go_simp⟩) kS (tq 4 (.pointer (some ⟨b3,29,none⟩)) rfl kS (tk 5 (.slice a1 lv c1) rfl (Or.inl ⟨by kernel_rfl,by intro w hS;have hc:=hS.1;go_simp⟩) kS ?_));simp only[ZZ];refine tq 6 (.int .i64 (lv:Int)) rfl kS ?_;simp only[ZZ];refine AR [7,10] ?_
  refine AC (fun K hK=>?_) ?_
  ·go_simp;go_at_call 26;refine(CPl _).mono ?_;rintro e w18 ⟨rfl,hw⟩;rw[hw];clear hw w18
   go_wp2_with fail
   refine hK.out _ _ kS (fun _=>?_)
   clear hK K;(try simp only[ZZ])
   refine tk 8 (.pointer (some ⟨mb (.slice a1 lv c1),mo (.slice a1 lv c1)+5*jj,none⟩)) rfl (qn6 (.tmp 178) (.tmp 184) rfl kr _ _ _ kr kr IM) kS (tk 9 (.agg (mc m)) rfl (qyub (.tmp 185) rfl kr _ _ kr m (fun _ h=>h.2.2)) kS ?_)
   simp only[ZZ];refine AR [10] ?_
   refine AP (fun K hK=>?_) AZ
   refine qyxb 32 rfl _ qa4 ?_;intro b22 w9 l9 R9 h9;(first|replace h9:=q20 h9|skip);replace B:=B.alloc l9 R9 h9;clear R9 h9 l9;(first|replace kS:=ks28 (B.row 2 rfl) (B.row 1 rfl) (B.map 0 rfl) HJJ.out HM.out|replace kS:=ks28 (B.row 3 rfl) (B.row 2 rfl) (B.map 0 rfl) HJJ.out HM.out)
   refine hK.out _ _ kS (fun _=>?_)
   clear hK K;(try simp only[ZZ])
   exact sZbd131
  refine AP (fun K hK=>?_) AZ
  refine qyxb 32 rfl _ qa4 ?_;intro b22 w9 l9 R9 h9;(first|replace h9:=q20 h9|skip);replace B:=B.alloc l9 R9 h9;clear R9 h9 l9;(first|replace kS:=ks28 (B.row 2 rfl) (B.row 1 rfl) (B.map 0 rfl) HJJ.out HM.out|replace kS:=ks28 (B.row 3 rfl) (B.row 2 rfl) (B.map 0 rfl) HJJ.out HM.out)
  refine hK.out _ _ kS (fun _=>?_)
  clear hK K;(try simp only[ZZ]);refine AR [7] ?_
  refine AC (fun K hK=>?_) AZ
  go_simp;go_at_call 26;refine(CPl _).mono ?_;rintro e w18 ⟨rfl,hw⟩;rw[hw];clear hw w18
  go_wp2_with fail
  refine hK.out _ _ kS (fun _=>?_)
  clear hK K;(try simp only[ZZ])
  refine tk 8 (.pointer (some ⟨mb (.slice a1 lv c1),mo (.slice a1 lv c1)+5*jj,none⟩)) rfl (qn6 (.tmp 178) (.tmp 184) rfl kr _ _ _ kr kr IM) kS (tk 9 (.agg (mc m)) rfl (qyub (.tmp 185) rfl kr _ _ kr m (fun _ h=>h.2.2)) kS ?_)
  simp only[ZZ]
  exact sZbd131
theorem sZbd133(h:p:=by
 refine hK.out _ _ kS (fun _=>?_)
 clear hK K;(try simp only[ZZ]);refine AR [5] ?_
 refine AC (fun K hK=>?_) ?_
 ·go_simp;go_at_call 27;refine(CDr _).mono ?_;rintro e w19 ⟨rfl,hb19⟩;(first|replace hb19:=q20 hb19|skip);replace B:=B.below hb19;clear hb19;refine m3y ?_;clear kS;intro kS
  go_wp2_with fail
  refine hK.out _ _ kS (fun _=>?_)
  clear hK K;(try simp only[ZZ]);refine tq 6 (.tuple #[.agg (pc f (qg3 g (x.2.2.2.2%3) true)),I Z (qfu g (x.2.2.2.2%3) true)]) rfl kS (tq 7 (.agg (pc f (qg3 g (x.2.2.2.2%3) true))) rfl kS (tq 8 (I Z (qfu g (x.2.2.2.2%3) true)) rfl kS ?_));simp only[ZZ];refine tq 9 (V (some ⟨b3,0,none⟩)) rfl kS ?_;simp only[ZZ];refine AR [10] ?_
  refine AP (fun K hK=>?_) AZ
  refine qyrb (.tmp 231) (.tmp 229) rfl b3 kr f (qg3 g (x.2.2.2.2%3) true) kr f g h (.slice a1 lv c1) (B.row 2 rfl) ?_;intro w20 R9 t9;(first|replace t9:=q31 t9|skip);replace B:=B.turn 2 rfl R9 t9;clear R9 t9;refine m3y ?_;clear kS;intro kS
  refine hK.out _ _ kS (fun _=>?_)
  clear hK K;(try simp only[ZZ]);refine AN ?_;clear kS
  go_wp2_with (first|((with_reducible refine gL 30 3 ?_);refine lx 30 (.tmp 3) (tc f (qg3 g (x.2.2.2.2%3) true) h (.slice a1 lv c1)) (B.row 2 rfl) ?_)|(go_at_call 16;go_fit (qf8 f (qg3 g (x.2.2.2.2%3) true) h (.slice a1 lv c1) ms (qbq.wf HG.out) _ (B.map 0 rfl));rintro e w30 ⟨r',hr',rfl,hb30⟩;obtain rfl:r'=true:=(hr'.2 HG.out);clear hr';replace B:=B.below hb30;clear hb30))
  (refine⟨?_,?measure⟩;unfold WP;(repeat apply Exists.intro);refine⟨?rel,rfl⟩)
  case rel=>first|exact⟨j+1,by omega,by omega,qj2b j,f,(qg3 g (x.2.2.2.2%3) true),h,a1,lv,c1,ms,B.two 2 3 (by decide) rfl rfl 0 rfl,hnil,HG,HLn⟩|exact⟨j+1,by omega,by omega,qj0b hjw,f,(qg3 g (x.2.2.2.2%3) true),h,a1,lv,c1,ms,B.two 2 3 (by decide) rfl rfl 0 rfl,hnil,HG,HLn⟩|((repeat apply Exists.intro);first|exact⟨⟨j+1,by omega,by omega,qj2b j,f,(qg3 g (x.2.2.2.2%3) true),h,a1,lv,c1,ms,B.two 2 3 (by decide) rfl rfl 0 rfl,hnil,HG,HLn⟩,rfl⟩|exact⟨⟨j+1,by omega,by omega,qj0b hjw,f,(qg3 g (x.2.2.2.2%3) true),h,a1,lv,c1,ms,B.two 2 3 (by decide) rfl rfl 0 rfl,hnil,HG,HLn⟩,rfl⟩)
  case measure=>unfold WPmu;(first|rw[hjw]|skip);exact q21 hj120
 exact AZ):p:=h
theorem qztb(u1 u2 u6 u7 u8 u9 u10 u11 u12 u13 u14 u15 u16 u17 u18 u19 u20 u21 u22 u23 u24 u25 u26 u27 u28 u29 u30 u31 u32 u33 u34 u35 u36 u37 u38 u39 u40 u41 u42 u43 u44 u45 u46 u47 u48 u49 u50 u51 u52 u53 u54 u55 u56 u57 u58 u59 u60 u61 u62 u63 u64 u65 u66 u67 u68 u69 u70 u71 u72 u73 u74 u75 u76 u77 u78 u79 u80 u81 u82 u83 u84 u85 u86 u87 u88 u89 u90 u91 u92 u93 u94 u95 u96 u97 u98 u99 u100 u101 u102 u103 u104 u105 u106 u107 u108 u109 u110 u111 u112 u113 u114 u115 u116 u117 u118 u119 u120 u121 u122 u123 u124 u125 u126 u127 u128 u129 u130 u131 u132 u133 u134 u135 u136 u137 u138 u139 u140 u141 u142 u143 u144 u145 u146 u147 u148 u149 u150 u151 u152 u153 u154 u155 u156 u157 u158 u159 u160 u161 u162 u163 u164 u165 u166 u167 u168 u169 u170 u171 u172 u173 u174 u175 u176 u177 u178 u179 u180 u181 u182 u183 u184 u185 u186 u187 u188 u189 u190 u191 u192 u193 u194 u195 u196 u197 u198 u199 u200 u201 u202 u203 u204 u205 u206 u207 u208 u209 u210 u211 u212 u213 u214 u215 u216 u217 u218 u219 u220 u221 u222 u223 u224 u225 u226 u227 u228 u229 u230 u231 u232 u233 u234:Value)(j:Nat)(B:Bd w wr [(b3,30,tc f g h (.slice a1 lv c1)),(b4,50,pr3)] [(.slice a1 lv c1,ms)])(hnil:qcs (.slice a1 lv c1))(HG:Hid (qbq f h ms))(HLn:Hid (lv=ms.length))(HN:Hid (n=xs.length))(hX:qaz w (.slice a0 n cap) xs)(hwx:∀m∈xs,(Lit.int .i64 m.2.2.2.2).wf=true)(hjn':j<n)(hj120:j<120)(x:Mp)(hx:∃hh:j<xs.length,xs[j]=x)(hkd:x.1%4=2)(Q0:Exit->Act->World->Prop):
  Code.wp prog (qyyb f8) (Exit.then (fun a' W=>WP w b3 b4 a0 n cap a' W/\WPmu a' W<WPmu ⟨#[(.slice a0 n cap),u1,u2,.pointer (some ⟨b3,0,none⟩),.pointer (some ⟨b4,0,none⟩),.int .i64 (j:Int),u6,u7,u8,u9,u10,u11,u12,u13,u14,u15,u16,u17,u18,u19,u20,u21,u22,u23,u24,u25,u26,u27,u28,u29,u30,u31,u32,u33,u34,u35,u36,u37,u38,u39,u40,u41,u42,u43,u44,u45,u46,u47,u48,u49,u50,u51,u52,u53,u54,u55,u56,u57,u58,u59,u60,u61,u62,u63,u64,u65,u66,u67,u68,u69,u70,u71,u72,u73,u74,u75,u76,u77,u78,u79,u80,u81,u82,u83,u84,u85,u86,u87,u88,u89,u90,u91,u92,u93,u94,u95,u96,u97,u98,u99,u100,u101,u102,u103,u104,u105,u106,u107,u108,u109,u110,u111,u112,u113,u114,u115,u116,u117,u118,u119,u120,u121,u122,u123,u124,u125,u126,u127,u128,u129,u130,u131,u132,u133,u134,u135,u136,u137,u138,u139,u140,u141,u142,u143,u144,u145,u146,u147,u148,u149,u150,u151,u152,u153,u154,u155,u156,u157,u158,u159,u160,u161,u162,u163,u164,u165,u166,u167,u168,u169,u170,u171,u172,u173,u174,u175,u176,u177,u178,u179,u180,u181,u182,u183,u184,u185,u186,u187,u188,u189,u190,u191,u192,u193,u194,u195,u196,u197,u198,u199,u200,u201,u202,u203,u204,u205,u206,u207,u208,u209,u210,u211,u212,u213,u214,u215,u216,u217,u218,u219,u220,u221,u222,u223,u224,u225,u226,u227,u228,u229,u230,u231,u232,u233,u234],[]⟩ wr) Q0) ⟨#[(.slice a0 n cap),u1,u2,.pointer (some ⟨b3,0,none⟩),.pointer (some ⟨b4,0,none⟩),.int .i64 (j:Int),u6,u7,u8,u9,u10,u11,u12,u13,u14,u15,u16,u17,u18,u19,u20,u21,u22,u23,u24,u25,u26,u27,u28,u29,u30,u31,u32,u33,u34,u35,u36,u37,u38,u39,u40,u41,u42,u43,u44,u45,u46,u47,u48,u49,u50,u51,u52,u53,u54,u55,u56,u57,u58,u59,u60,u61,u62,u63,u64,u65,u66,u67,u68,u69,u70,u71,u72,u73,u74,u75,u76,u77,u78,u79,u80,u81,u82,u83,u84,u85,u86,u87,u88,u89,u90,u91,u92,u93,u94,u95,u96,u97,u98,u99,u100,u101,u102,u103,u104,u105,u106,u107,u108,u109,u110,u111,u112,u113,u114,u115,u116,u117,u118,u119,u120,u121,u122,u123,u124,u125,u126,u127,u128,u129,u130,u131,u132,u133,u134,u135,u136,u137,u138,u139,u140,u141,u142,u143,u144,u145,u146,u147,u148,u149,u150,u151,u152,u153,u154,u155,u156,u157,u158,u159,u160,u161,u162,u163,u164,u165,u166,u167,u168,u169,u170,u171,u172,u173,u174,u175,u176,u177,u178,u179,u180,u181,u182,u183,u184,u185,u186,u187,u188,u189,u190,u191,u192,u193,u194,u195,u196,u197,u198,u199,u200,u201,u202,u203,u204,u205,u206,u207,u208,u209,u210,u211,u212,u213,u214,u215,u216,u217,u218,u219,u220,u221,u222,u223,u224,u225,u226,u227,u228,u229,u230,u231,u232,u233,u234],[]⟩ wr:=by
 conv=>arg 2;whnf
 refine m0b ?_;intro hltX hjn hj12 hjw hlj IW hMv hwN hrg CPk CP3 CDr CUn
 rw[show qd5 f g (x.2.2.2.2%3) true=.tuple #[.agg (pc f (qg3 g (x.2.2.2.2%3) true)),.int .i64 (qfu g (x.2.2.2.2%3) true)] from rfl] at CDr
 rw[show qd5 f g (x.2.2.2.2%3) false=.tuple #[.agg (pc f (qg3 g (x.2.2.2.2%3) false)),.int .i64 (qfu g (x.2.2.2.2%3) false)] from rfl] at CUn
 unfold plv at CDr CUn
 rw[hkd] at CPk
 clear hkd hlj
 go_upto_region 13 with(first|((with_reducible refine qaa (.indexAddr 49 (.tmp 38) (.tmp 39)) rfl ?_);refine m4b ?_)|((with_reducible refine gL 52 40 ?_);refine m26 ?_;(try rw[qc2]))|((with_reducible refine gA 52 ?_);refine m3v ?_;clear B hrg;intro b6 w9 B)|((with_reducible refine gS 52 6 41 ?_);refine m44 ?_;refine m09 ?_;clear B;intro w9 B)|((with_reducible refine gL 30 3 ?_);refine m3m ?_)|((with_reducible refine gA 30 ?_);refine m3i ?_;clear B;intro b7 w9 B)|((with_reducible refine gS 30 7 42 ?_);refine m1l ?_;refine m09 ?_;clear B;intro w9 B)|((with_reducible refine gL 3 43 ?_);refine fx (B.row 1 rfl) _ 0 (x.1) ?_)|(go_at_call 26;go_fit (CPk _);refine m03 ?_))
 clear CPk IW
 go_upto_region 34 with(fail)
 have kS:World.cell? _ ⟨b6,4,none⟩=some (.int .i64 x.2.2.2.2):=((B.row 1 rfl).cell 4).trans rfl
 refine RD (fun W=>W.cell? ⟨b6,4,none⟩=some (.int .i64 x.2.2.2.2)) kS (fun _=>?_)
 refine m36 ?_
 refine AP (fun K hK=>?_) ?_
 ·refine m4s ?_;refine m34 ?_
  refine hK.out _ _ kS (fun _=>?_)
  clear hK K;(try simp only[ZZ]);refine AR [4] ?_
  refine AC (fun K hK=>?_) AZ
  refine m2f ?_
  go_wp2_with fail
  exact sZbd133
 refine AC (fun K hK=>?_) AZ
 refine m2f ?_
 go_wp2_with fail
 refine hK.out _ _ kS (fun _=>?_)
 clear hK K;(try simp only[ZZ]);refine AR [1] ?_
 refine AP (fun K hK=>?_) AZ
 refine m4s ?_;refine m34 ?_
 exact sZbd133
theorem sZbd132(h:p:=by
 refine hK.out _ _ kS (fun _=>?_)
 clear hK K;(try simp only[ZZ]);refine AR [5] ?_
 refine AC (fun K hK=>?_) ?_
 ·go_simp;go_at_call 28;refine(CUn _).mono ?_;rintro e w19 ⟨rfl,hb19⟩;(first|replace hb19:=q20 hb19|skip);replace B:=B.below hb19;clear hb19;refine m3y ?_;clear kS;intro kS
  go_wp2_with fail
  refine hK.out _ _ kS (fun _=>?_)
  clear hK K;(try simp only[ZZ]);refine tq 6 (.tuple #[.agg (pc f (qg3 g (x.2.2.2.2%3) false)),I Z (qfu g (x.2.2.2.2%3) false)]) rfl kS (tq 7 (.agg (pc f (qg3 g (x.2.2.2.2%3) false))) rfl kS (tq 8 (I Z (qfu g (x.2.2.2.2%3) false)) rfl kS ?_));simp only[ZZ];refine tq 9 (V (some ⟨b3,0,none⟩)) rfl kS ?_;simp only[ZZ];refine AR [10] ?_
  refine AP (fun K hK=>?_) AZ
  refine qyrb (.tmp 55) (.tmp 53) rfl b3 kr f (qg3 g (x.2.2.2.2%3) false) kr f g h (.slice a1 lv c1) (B.row 2 rfl) ?_;intro w20 R9 t9;(first|replace t9:=q31 t9|skip);replace B:=B.turn 2 rfl R9 t9;clear R9 t9;refine m3y ?_;clear kS;intro kS
  refine hK.out _ _ kS (fun _=>?_)
  clear hK K;(try simp only[ZZ]);refine AN ?_;clear kS
  go_wp2_with (first|((with_reducible refine gL 30 3 ?_);refine lx 30 (.tmp 3) (tc f (qg3 g (x.2.2.2.2%3) false) h (.slice a1 lv c1)) (B.row 2 rfl) ?_)|(go_at_call 16;go_fit (qf8 f (qg3 g (x.2.2.2.2%3) false) h (.slice a1 lv c1) ms (qbq.wf HG.out) _ (B.map 0 rfl));rintro e w30 ⟨r',hr',rfl,hb30⟩;obtain rfl:r'=true:=(hr'.2 HG.out);clear hr';replace B:=B.below hb30;clear hb30))
  (refine⟨?_,?measure⟩;unfold WP;(repeat apply Exists.intro);refine⟨?rel,rfl⟩)
  case rel=>first|exact⟨j+1,by omega,by omega,qj2b j,f,(qg3 g (x.2.2.2.2%3) false),h,a1,lv,c1,ms,B.two 2 3 (by decide) rfl rfl 0 rfl,hnil,HG,HLn⟩|exact⟨j+1,by omega,by omega,qj0b hjw,f,(qg3 g (x.2.2.2.2%3) false),h,a1,lv,c1,ms,B.two 2 3 (by decide) rfl rfl 0 rfl,hnil,HG,HLn⟩|((repeat apply Exists.intro);first|exact⟨⟨j+1,by omega,by omega,qj2b j,f,(qg3 g (x.2.2.2.2%3) false),h,a1,lv,c1,ms,B.two 2 3 (by decide) rfl rfl 0 rfl,hnil,HG,HLn⟩,rfl⟩|exact⟨⟨j+1,by omega,by omega,qj0b hjw,f,(qg3 g (x.2.2.2.2%3) false),h,a1,lv,c1,ms,B.two 2 3 (by decide) rfl rfl 0 rfl,hnil,HG,HLn⟩,rfl⟩)
  case measure=>unfold WPmu;(first|rw[hjw]|skip);exact q21 hj120
 exact AZ):p:=h
theorem qzqb(u1 u2 u6 u7 u8 u9 u10 u11 u12 u13 u14 u15 u16 u17 u18 u19 u20 u21 u22 u23 u24 u25 u26 u27 u28 u29 u30 u31 u32 u33 u34 u35 u36 u37 u38 u39 u40 u41 u42 u43 u44 u45 u46 u47 u48 u49 u50 u51 u52 u53 u54 u55 u56 u57 u58 u59 u60 u61 u62 u63 u64 u65 u66 u67 u68 u69 u70 u71 u72 u73 u74 u75 u76 u77 u78 u79 u80 u81 u82 u83 u84 u85 u86 u87 u88 u89 u90 u91 u92 u93 u94 u95 u96 u97 u98 u99 u100 u101 u102 u103 u104 u105 u106 u107 u108 u109 u110 u111 u112 u113 u114 u115 u116 u117 u118 u119 u120 u121 u122 u123 u124 u125 u126 u127 u128 u129 u130 u131 u132 u133 u134 u135 u136 u137 u138 u139 u140 u141 u142 u143 u144 u145 u146 u147 u148 u149 u150 u151 u152 u153 u154 u155 u156 u157 u158 u159 u160 u161 u162 u163 u164 u165 u166 u167 u168 u169 u170 u171 u172 u173 u174 u175 u176 u177 u178 u179 u180 u181 u182 u183 u184 u185 u186 u187 u188 u189 u190 u191 u192 u193 u194 u195 u196 u197 u198 u199 u200 u201 u202 u203 u204 u205 u206 u207 u208 u209 u210 u211 u212 u213 u214 u215 u216 u217 u218 u219 u220 u221 u222 u223 u224 u225 u226 u227 u228 u229 u230 u231 u232 u233 u234:Value)(j:Nat)(B:Bd w wr [(b3,30,tc f g h (.slice a1 lv c1)),(b4,50,pr3)] [(.slice a1 lv c1,ms)])(hnil:qcs (.slice a1 lv c1))(HG:Hid (qbq f h ms))(HLn:Hid (lv=ms.length))(HN:Hid (n=xs.length))(hX:qaz w (.slice a0 n cap) xs)(hwx:∀m∈xs,(Lit.int .i64 m.2.2.2.2).wf=true)(hjn':j<n)(hj120:j<120)(x:Mp)(hx:∃hh:j<xs.length,xs[j]=x)(hkd:x.1%4=3)(Q0:Exit->Act->World->Prop):
  Code.wp prog (qyyb f8) (Exit.then (fun a' W=>WP w b3 b4 a0 n cap a' W/\WPmu a' W<WPmu ⟨#[(.slice a0 n cap),u1,u2,.pointer (some ⟨b3,0,none⟩),.pointer (some ⟨b4,0,none⟩),.int .i64 (j:Int),u6,u7,u8,u9,u10,u11,u12,u13,u14,u15,u16,u17,u18,u19,u20,u21,u22,u23,u24,u25,u26,u27,u28,u29,u30,u31,u32,u33,u34,u35,u36,u37,u38,u39,u40,u41,u42,u43,u44,u45,u46,u47,u48,u49,u50,u51,u52,u53,u54,u55,u56,u57,u58,u59,u60,u61,u62,u63,u64,u65,u66,u67,u68,u69,u70,u71,u72,u73,u74,u75,u76,u77,u78,u79,u80,u81,u82,u83,u84,u85,u86,u87,u88,u89,u90,u91,u92,u93,u94,u95,u96,u97,u98,u99,u100,u101,u102,u103,u104,u105,u106,u107,u108,u109,u110,u111,u112,u113,u114,u115,u116,u117,u118,u119,u120,u121,u122,u123,u124,u125,u126,u127,u128,u129,u130,u131,u132,u133,u134,u135,u136,u137,u138,u139,u140,u141,u142,u143,u144,u145,u146,u147,u148,u149,u150,u151,u152,u153,u154,u155,u156,u157,u158,u159,u160,u161,u162,u163,u164,u165,u166,u167,u168,u169,u170,u171,u172,u173,u174,u175,u176,u177,u178,u179,u180,u181,u182,u183,u184,u185,u186,u187,u188,u189,u190,u191,u192,u193,u194,u195,u196,u197,u198,u199,u200,u201,u202,u203,u204,u205,u206,u207,u208,u209,u210,u211,u212,u213,u214,u215,u216,u217,u218,u219,u220,u221,u222,u223,u224,u225,u226,u227,u228,u229,u230,u231,u232,u233,u234],[]⟩ wr) Q0) ⟨#[(.slice a0 n cap),u1,u2,.pointer (some ⟨b3,0,none⟩),.pointer (some ⟨b4,0,none⟩),.int .i64 (j:Int),u6,u7,u8,u9,u10,u11,u12,u13,u14,u15,u16,u17,u18,u19,u20,u21,u22,u23,u24,u25,u26,u27,u28,u29,u30,u31,u32,u33,u34,u35,u36,u37,u38,u39,u40,u41,u42,u43,u44,u45,u46,u47,u48,u49,u50,u51,u52,u53,u54,u55,u56,u57,u58,u59,u60,u61,u62,u63,u64,u65,u66,u67,u68,u69,u70,u71,u72,u73,u74,u75,u76,u77,u78,u79,u80,u81,u82,u83,u84,u85,u86,u87,u88,u89,u90,u91,u92,u93,u94,u95,u96,u97,u98,u99,u100,u101,u102,u103,u104,u105,u106,u107,u108,u109,u110,u111,u112,u113,u114,u115,u116,u117,u118,u119,u120,u121,u122,u123,u124,u125,u126,u127,u128,u129,u130,u131,u132,u133,u134,u135,u136,u137,u138,u139,u140,u141,u142,u143,u144,u145,u146,u147,u148,u149,u150,u151,u152,u153,u154,u155,u156,u157,u158,u159,u160,u161,u162,u163,u164,u165,u166,u167,u168,u169,u170,u171,u172,u173,u174,u175,u176,u177,u178,u179,u180,u181,u182,u183,u184,u185,u186,u187,u188,u189,u190,u191,u192,u193,u194,u195,u196,u197,u198,u199,u200,u201,u202,u203,u204,u205,u206,u207,u208,u209,u210,u211,u212,u213,u214,u215,u216,u217,u218,u219,u220,u221,u222,u223,u224,u225,u226,u227,u228,u229,u230,u231,u232,u233,u234],[]⟩ wr:=by
 conv=>arg 2;whnf
 refine m0b ?_;intro hltX hjn hj12 hjw hlj IW hMv hwN hrg CPk CP3 CDr CUn
 rw[show qd5 f g (x.2.2.2.2%3) true=.tuple #[.agg (pc f (qg3 g (x.2.2.2.2%3) true)),.int .i64 (qfu g (x.2.2.2.2%3) true)] from rfl] at CDr
 rw[show qd5 f g (x.2.2.2.2%3) false=.tuple #[.agg (pc f (qg3 g (x.2.2.2.2%3) false)),.int .i64 (qfu g (x.2.2.2.2%3) false)] from rfl] at CUn
 unfold plv at CDr CUn
 rw[hkd] at CPk
 clear hkd hlj
 go_upto_region 13 with(first|((with_reducible refine qaa (.indexAddr 49 (.tmp 38) (.tmp 39)) rfl ?_);refine m4b ?_)|((with_reducible refine gL 52 40 ?_);refine m26 ?_;(try rw[qc2]))|((with_reducible refine gA 52 ?_);refine m3v ?_;clear B hrg;intro b6 w9 B)|((with_reducible refine gS 52 6 41 ?_);refine m44 ?_;refine m09 ?_;clear B;intro w9 B)|((with_reducible refine gL 30 3 ?_);refine m3m ?_)|((with_reducible refine gA 30 ?_);refine m3i ?_;clear B;intro b7 w9 B)|((with_reducible refine gS 30 7 42 ?_);refine m1l ?_;refine m09 ?_;clear B;intro w9 B)|((with_reducible refine gL 3 43 ?_);refine fx (B.row 1 rfl) _ 0 (x.1) ?_)|(go_at_call 26;go_fit (CPk _);refine m03 ?_))
 clear CPk IW
 go_upto_region 12 with(fail)
 have kS:World.cell? _ ⟨b6,4,none⟩=some (.int .i64 x.2.2.2.2):=((B.row 1 rfl).cell 4).trans rfl
 refine RD (fun W=>W.cell? ⟨b6,4,none⟩=some (.int .i64 x.2.2.2.2)) kS (fun _=>?_)
 refine m36 ?_
 refine AP (fun K hK=>?_) ?_
 ·refine m4u ?_;refine m34 ?_
  refine hK.out _ _ kS (fun _=>?_)
  clear hK K;(try simp only[ZZ]);refine AR [4] ?_
  refine AC (fun K hK=>?_) AZ
  refine m2f ?_
  go_wp2_with fail
  exact sZbd132
 refine AC (fun K hK=>?_) AZ
 refine m2f ?_
 go_wp2_with fail
 refine hK.out _ _ kS (fun _=>?_)
 clear hK K;(try simp only[ZZ]);refine AR [1] ?_
 refine AP (fun K hK=>?_) AZ
 refine m4u ?_;refine m34 ?_
 exact sZbd132
theorem qy3b{f':Nat->Int}{h':Nat->Int}{sl:Value}(e1:∀k,k<18->f' k=f k)(e2:∀k,k<8->h' k=h k):tc f' g h' sl=tc f g h sl:=by
 rw[qxwb,qxwb]
 unfold pc hcl
 simp[e1,e2]
theorem qzab(f:Nat->Int)(g:Nat->Bool)(h:Nat->Int)(ms:List Mp)(p s i d:Int)(hP:qjy f h ms p s i)(hf:ms.find? (inS p s i)=none)(hc:cntM ms s≠12)(he:(qbe f g h ms p s d).e=0)(v:Value)(w:World)(hM:qaz w v (ms++[(p,s,i,(qbe f g h ms p s d).h s.toNat-1,(qbe f g h ms p s d).q)])):
  Calls prog 22 #[.agg (tc (qbe f g h ms p s d).f g (qbe f g h ms p s d).h v),.agg (mc (p,s,i,(qbe f g h ms p s d).h s.toNat-1,(qbe f g h ms p s d).q))] w fun e w'=>∃v2,e=.returned (.tuple #[.agg (tc f g h v2),.bool (qbe f g h ms p s d).took,I Z 0])/\qaz w' v2 ms/\qcs v2/\(0<ms.length->w.heap.size<=mb v2)/\Below w.heap.size w w':=by
 refine m42 ?_;intro hany;have hs:=hP.2.2.1;obtain⟨hG,h1,h2⟩:=qya (g:=g) (d:=d) hP.1 hP.2.1 hs ⟨hP.2.2.2.1,hP.2.2.2.2⟩ hany hc he;obtain⟨q1,q2,q3⟩:=qzlb (g:=g) (d:=d) hP.1 hP.2.1 hs ⟨hP.2.2.2.1,hP.2.2.2.2⟩ hany hc he
 obtain⟨r,hr⟩:∃r,qbe f g h ms p s d=r:=⟨_,rfl⟩
 rw[hr] at hG h1 h2 q1 q2 q3 hM ⊢
 obtain⟨m,hm⟩:∃m:Mp,(p,s,i,r.h s.toNat-1,r.q)=m:=⟨_,rfl⟩
 (have hms:m.2.1=s:=by rw[←hm])
 rw[hm] at hG h1 h2 q1 q2 q3 hM ⊢
 (have hin:m∈ms++[m]:=by simp)
 cases ht:r.took with
 | false=>
  obtain⟨e1,e2,e3⟩:=h1 ht
  have:=q67 r.f g r.h v (ms++[m]) m hG.wf w hM hG hin (by rw[q1];exact e3)
  rw[q1,e1,e2] at this
  rw[e1,e2]
  exact this
 | true=>
  have e3:=(h2 ht).2.2.2;have t1:=q2 ht;have t2:=q3 ht
  by_cases hz:(qbk (qdx r.f m) m.2.1).length=0
  ·have:=qzw r.f g r.h v (ms++[m]) m hG.wf w hM hG hin (by rw[q1];exact e3) hz
   rw[hms] at hz
   rw[if_pos (show(qbk (upd r.f (qa7 m) 0) s).length=0 from hz)] at t2
   rw[q1] at this
   refine this.mono ?_
   rintro e w' ⟨v2,rfl,hM2,hN2,hl2,hb⟩
   exact⟨v2,by rw[hms,qy3b (f:=f) (f':=qdx r.f m) (h:=h) t1 t2],hM2,hN2,hl2,hb⟩
  ·have:=qy2 r.f g r.h v (ms++[m]) m hG.wf w hM hG hin (by rw[q1];exact e3) hz
   rw[hms] at hz
   rw[if_neg (show ¬(qbk (upd r.f (qa7 m) 0) s).length=0 from hz)] at t2
   rw[q1] at this
   refine this.mono ?_
   rintro e w' ⟨v2,rfl,hM2,hN2,hl2,hb⟩
   exact⟨v2,by rw[qy3b (f:=f) (f':=qdx r.f m) (h:=h) t1 t2],hM2,hN2,hl2,hb⟩
end Go.Proofs.Ytbboabfmoahipaa
