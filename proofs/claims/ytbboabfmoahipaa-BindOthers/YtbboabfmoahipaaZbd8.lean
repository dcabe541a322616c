/-
  Of what a law stands on.
-/
import Derived.Test.YtbboabfmoahipaaZbd7
set_option linter.unusedSimpArgs false
set_option linter.unusedVariables false
namespace Go.Proofs.Ytbboabfmoahipaa
open Go.Value renaming int → I,pointer → V
open Go.IntKind renaming i64 → Z
open _root_.Go.Proofs.Try Go.ChangeShapes Go.WideShapes Go.ChangeAt Go.RowKit Go.Maps
set_option maxHeartbeats 16000000
set_option maxRecDepth 100000
variable {p:Prop}{w wr:World}{f h:Nat->Int}{g:Nat->Bool}{ms:List Mp}{b1 b3 b4 b5 b6 cap n n3 n4 n5 n6:Nat}{a0:Option Addr}
theorem sZbd85(h:p:=by
 go_ret
 exact⟨false,HNG.out,rfl,G.bd.base⟩):p:=h
theorem qzjb(u2 u7 u8 u9 u10 u11 u12 u13 u14 u15 u16 u17 u18 u19 u20 u21 u22 u23 u24 u25 u26 u27 u31 u32 u33 u34 u35 u36 u37 u38 u39 u40 u41 u42 u43 u44 u45 u46 u47 u48 u49 u50 u51 u52 u53 u54 u55 u56 u57 u58 u59 u60 u61 u62 u63 u64 u65 u66 u67 u68 u69 u70 u71 u72 u73 u74 u75 u76 u77 u78 u79 u80 u81 u82 u83 u84 u85 u86 u87 u88 u89 u90 u91 u92 u93 u94 u95 u96 u97 u98 u99 u100 u101 u102 u103 u104 u105 u106 u107 u108 u109 u110 u111 u112 u113 u114 u115 u116 u117 u118 u119 u120 u121 u122 u123 u124 u125 u126 u127 u128 u129 u130 u131 u132 u133 u134 u135 u136 u137 u138 u139 u140 u141 u142 u143 u144 u145 u146 u147 u148 u149 u150 u151 u152 u153 u154 u155 u156 u157 u158 u159 u160 u161 u162 u163 u164 u165 u166 u167 u168 u169 u170 u171 u172 u173 u174 u175 u176 u177 u178 u179 u180 u181 u182 u183 u184 u185 u186 u187 u188 u189 u190 u191 u192 u193 u194 u195 u196 u197 u198 u199 u200 u201 u202:Value)(j:Nat)(HNs:Hid (n6<=2*j/\n5<=2*j/\n4<=2*j/\n3<=2*j))(G:Gm w wr [(b1,30,tc f g h (.slice a0 n cap))] [] [entI 3 k1v wf6 b6 n6 (nOf (ms.take j)),entI 79 k2 ok2 b5 n5 (nPl (ms.take j)),entB 78 k3 ok3 b4 n4 (sIn (ms.take j)),entB 76 k3 ok3 b3 n3 (sOut (ms.take j))])(HK:Hid (MsOk f h (ms.take j)))(HN:Hid (n=ms.length))(hM:qaz w (.slice a0 n cap) ms)(hwH:wfH h)(hgp:qcv f=true)(hlj:j<ms.length)(m:Mp)(hm:ms[j]=m)(hbad:¬OkM m)(Q0:Exit->Act->World->Prop)(hret:∀a w',bodyPost prog f17 (fun e w'=>∃r:Bool,(r=true↔qbq f h ms)/\e=.returned (.bool r)/\Below w.heap.size w w') .ret a w'->Q0 .ret a w'):
  Code.wp prog (qryb f17) (Exit.then (fun a' W=>WG w f g h ms b1 b3 b4 b5 b6 a0 n cap a' W/\WGmu n a' W<WGmu n ⟨#[(.agg (tc f g h (.slice a0 n cap))),V (some ⟨b1,0,none⟩),u2,.map (some b3),.map (some b4),.map (some b5),.map (some b6),u7,u8,u9,u10,u11,u12,u13,u14,u15,u16,u17,u18,u19,u20,u21,u22,u23,u24,u25,u26,u27,(.slice a0 n cap),I Z (n:Int),I Z (j:Int),u31,u32,u33,u34,u35,u36,u37,u38,u39,u40,u41,u42,u43,u44,u45,u46,u47,u48,u49,u50,u51,u52,u53,u54,u55,u56,u57,u58,u59,u60,u61,u62,u63,u64,u65,u66,u67,u68,u69,u70,u71,u72,u73,u74,u75,u76,u77,u78,u79,u80,u81,u82,u83,u84,u85,u86,u87,u88,u89,u90,u91,u92,u93,u94,u95,u96,u97,u98,u99,u100,u101,u102,u103,u104,u105,u106,u107,u108,u109,u110,u111,u112,u113,u114,u115,u116,u117,u118,u119,u120,u121,u122,u123,u124,u125,u126,u127,u128,u129,u130,u131,u132,u133,u134,u135,u136,u137,u138,u139,u140,u141,u142,u143,u144,u145,u146,u147,u148,u149,u150,u151,u152,u153,u154,u155,u156,u157,u158,u159,u160,u161,u162,u163,u164,u165,u166,u167,u168,u169,u170,u171,u172,u173,u174,u175,u176,u177,u178,u179,u180,u181,u182,u183,u184,u185,u186,u187,u188,u189,u190,u191,u192,u193,u194,u195,u196,u197,u198,u199,u200,u201,u202],[]⟩ wr) Q0) ⟨#[(.agg (tc f g h (.slice a0 n cap))),V (some ⟨b1,0,none⟩),u2,.map (some b3),.map (some b4),.map (some b5),.map (some b6),u7,u8,u9,u10,u11,u12,u13,u14,u15,u16,u17,u18,u19,u20,u21,u22,u23,u24,u25,u26,u27,(.slice a0 n cap),I Z (n:Int),I Z (j:Int),u31,u32,u33,u34,u35,u36,u37,u38,u39,u40,u41,u42,u43,u44,u45,u46,u47,u48,u49,u50,u51,u52,u53,u54,u55,u56,u57,u58,u59,u60,u61,u62,u63,u64,u65,u66,u67,u68,u69,u70,u71,u72,u73,u74,u75,u76,u77,u78,u79,u80,u81,u82,u83,u84,u85,u86,u87,u88,u89,u90,u91,u92,u93,u94,u95,u96,u97,u98,u99,u100,u101,u102,u103,u104,u105,u106,u107,u108,u109,u110,u111,u112,u113,u114,u115,u116,u117,u118,u119,u120,u121,u122,u123,u124,u125,u126,u127,u128,u129,u130,u131,u132,u133,u134,u135,u136,u137,u138,u139,u140,u141,u142,u143,u144,u145,u146,u147,u148,u149,u150,u151,u152,u153,u154,u155,u156,u157,u158,u159,u160,u161,u162,u163,u164,u165,u166,u167,u168,u169,u170,u171,u172,u173,u174,u175,u176,u177,u178,u179,u180,u181,u182,u183,u184,u185,u186,u187,u188,u189,u190,u191,u192,u193,u194,u195,u196,u197,u198,u199,u200,u201,u202],[]⟩ wr:=by
 conv=>arg 2;whnf
 have hlt:=hM.lt;refine m0h ?_;intro hjn hjw;refine m5p ?_;intro hMW hrg;(have HNG:Hid (false=true↔qbq f h ms):=hidB (qysb hlj (fun hh=>hbad (by rw[hm] at hh;exact qo2b hh.1))))
 obtain⟨kk,ii,inb,hin,CB⟩:∃(kk ii:Int) (inb:Bool),(inb=true↔1024<=m.2.2.2.2/\m.2.2.2.2<1072)/\∀w,Calls prog 15 #[I Z m.2.2.2.2] w fun e w'=>e=.returned (.tuple #[I Z kk,I Z ii,.bool inb])/\w'=w:=by
  by_cases hq:1024<=m.2.2.2.2/\m.2.2.2.2<1072
  ·exact⟨_,_,true,by simp[hq],fun w=>qkzb _ w hq⟩
  ·exact⟨_,_,false,by simp[hq],fun w=>qnsb _ w hq⟩
 obtain⟨ip,hip⟩:∃b,isP m.1=b:=⟨_,rfl⟩
 (have CI:=fun w=>qkqb m.1 w)
 rw[hip] at CI
 have HB:Hid (¬OkM m):=hbad;have HIN:Hid (inb=true↔1024<=m.2.2.2.2/\m.2.2.2.2<1072):=hin;have HIP:Hid (isP m.1=ip):=hip;clear hbad hin hip
 go_upto_region 10 with(first|(refine qb5 rfl (.tmp 28) (.tmp 30) rfl (.slice a0 n cap) ms hMW rfl j rfl hlj ?_)|((with_reducible refine gL 32 32 ?_);refine m0i ?_)|((with_reducible refine gA 32 ?_);refine m2u ?_;clear G;intro b8 w9 G)|((with_reducible refine gS 32 8 33 ?_);refine sx 32 (.tmp 8) _ (mc m) (G.bd.row 0 rfl) ?_;intro w9 R9 t9;replace G:=G.turn 0 rfl R9 t9;clear R9 t9)|((with_reducible refine gL 3 35 ?_);refine fx (G.bd.row 0 rfl) _ 4 (m.2.2.2.2) ?_)|(go_at_call 15;refine(CB _).mono ?_;refine m03 ?_))
 cases inb with
 | false=>
  go_wp2
  exact sZbd85
 | true=>
  cases ip with
  | false=>
   go_wp2_with (first|((with_reducible refine gL 3 44 ?_);refine m46 ?_)|(go_at_call 38;refine(CI _).mono ?_;refine m03 ?_))
   exact sZbd85
  | true=>
   by_cases d1:m.2.1<0
   ·(replace d1:decide (m.2.1<0)=true:=by simpa using d1)
    go_wp2_with (first|((with_reducible refine gL 3 44 ?_);refine m46 ?_)|((with_reducible refine gL 3 50 ?_);refine m2e ?_)|(go_at_call 38;refine(CI _).mono ?_;refine m03 ?_))
    exact sZbd85
   ·have Hd1:Hid (¬m.2.1<0):=d1;(replace d1:decide (m.2.1<0)=false:=by simpa using d1)
    by_cases d2:7<m.2.1
    ·(replace d2:decide (7<m.2.1)=true:=by simpa using d2)
     go_wp2_with (first|((with_reducible refine gL 3 44 ?_);refine m46 ?_)|((with_reducible refine gL 3 50 ?_);refine m2e ?_)|((with_reducible refine gL 3 55 ?_);refine m2e ?_)|(go_at_call 38;refine(CI _).mono ?_;refine m03 ?_))
     exact sZbd85
    ·have Hd2:Hid (¬7<m.2.1):=d2;(replace d2:decide (7<m.2.1)=false:=by simpa using d2)
     by_cases d3:m.2.2.1<0
     ·(replace d3:decide (m.2.2.1<0)=true:=by simpa using d3)
      go_wp2_with (first|((with_reducible refine gL 3 44 ?_);refine m46 ?_)|((with_reducible refine gL 3 50 ?_);refine m2e ?_)|((with_reducible refine gL 3 55 ?_);refine m2e ?_)|((with_reducible refine gL 3 60 ?_);refine m3u ?_)|(go_at_call 38;refine(CI _).mono ?_;refine m03 ?_))
      exact sZbd85
     ·have Hd3:Hid (¬m.2.2.1<0):=d3;(replace d3:decide (m.2.2.1<0)=false:=by simpa using d3)
      by_cases d4:65535<m.2.2.1
      ·(replace d4:decide (65535<m.2.2.1)=true:=by simpa using d4)
       go_wp2_with (first|((with_reducible refine gL 3 44 ?_);refine m46 ?_)|((with_reducible refine gL 3 50 ?_);refine m2e ?_)|((with_reducible refine gL 3 55 ?_);refine m2e ?_)|((with_reducible refine gL 3 60 ?_);refine m3u ?_)|((with_reducible refine gL 3 65 ?_);refine m3u ?_)|(go_at_call 38;refine(CI _).mono ?_;refine m03 ?_))
       exact sZbd85
      ·have Hd4:Hid (¬65535<m.2.2.1):=d4;(replace d4:decide (65535<m.2.2.1)=false:=by simpa using d4)
       by_cases d5:m.2.2.2.1<0
       ·(replace d5:decide (m.2.2.2.1<0)=true:=by simpa using d5)
        go_wp2_with (first|((with_reducible refine gL 3 44 ?_);refine m46 ?_)|((with_reducible refine gL 3 50 ?_);refine m2e ?_)|((with_reducible refine gL 3 55 ?_);refine m2e ?_)|((with_reducible refine gL 3 60 ?_);refine m3u ?_)|((with_reducible refine gL 3 65 ?_);refine m3u ?_)|((with_reducible refine gL 3 70 ?_);refine fx (G.bd.row 0 rfl) _ 3 (m.2.2.2.1) ?_)|(go_at_call 38;refine(CI _).mono ?_;refine m03 ?_))
        exact sZbd85
       ·have Hd5:Hid (¬m.2.2.2.1<0):=d5;(replace d5:decide (m.2.2.2.1<0)=false:=by simpa using d5)
        by_cases d6:2<m.2.2.2.1
        ·(replace d6:decide (2<m.2.2.2.1)=true:=by simpa using d6)
         go_wp2_with (first|((with_reducible refine gL 3 44 ?_);refine m46 ?_)|((with_reducible refine gL 3 50 ?_);refine m2e ?_)|((with_reducible refine gL 3 55 ?_);refine m2e ?_)|((with_reducible refine gL 3 60 ?_);refine m3u ?_)|((with_reducible refine gL 3 65 ?_);refine m3u ?_)|((with_reducible refine gL 3 70 ?_);refine fx (G.bd.row 0 rfl) _ 3 (m.2.2.2.1) ?_)|((with_reducible refine gL 3 75 ?_);refine fx (G.bd.row 0 rfl) _ 3 (m.2.2.2.1) ?_)|(go_at_call 38;refine(CI _).mono ?_;refine m03 ?_))
         exact sZbd85
        ·have Hd6:Hid (¬2<m.2.2.2.1):=d6;(replace d6:decide (2<m.2.2.2.1)=false:=by simpa using d6)
         exact absurd ⟨HIN.out.1 rfl,HIP.out,⟨by have:=Hd1.out;omega,by have:=Hd2.out;omega⟩,⟨by have:=Hd3.out;omega,by have:=Hd4.out;omega⟩,⟨by have:=Hd5.out;omega,by have:=Hd6.out;omega⟩⟩ HB.out
theorem sZbd83(h:p:=by
 refine hK.out _ _ R8 (fun _=>?_)
 clear hK K;(try simp only[ZZ]);refine AR [16] ?_
 refine AP (fun K hK=>?_) ?_
 ·(first|refine qau 76 (.tmp 12) (.tmp 85) rfl b12 kr #[I Z p,I Z (aN:Int),I Z q] kr _ (G.bd.row 0 rfl) rfl (qk1b (p,(sN:Int),i,(aN:Int),q)) (ql9b (p,(sN:Int),i,(aN:Int),q)) ?_|refine qau 76 (.tmp 12) (.tmp 85) rfl b12 kr #[I Z p,I Z (aN:Int),I Z q] kr _ (G.bd.row 1 rfl) rfl (qk1b (p,(sN:Int),i,(aN:Int),q)) (ql9b (p,(sN:Int),i,(aN:Int),q)) ?_);refine m1o ?_;intro w9 R9 t9;(first|replace G:=G.turn 0 rfl R9 t9|replace G:=G.turn 1 rfl R9 t9);clear R9 t9;refine m2w ?_;clear R8;intro R8
  refine hK.out _ _ R8 (fun _=>?_)
  clear hK K;(try simp only[ZZ]);refine AR [17] ?_
  refine AP (fun K hK=>?_) AZ
  (first|refine qau 78 (.tmp 13) (.tmp 92) rfl b13 kr #[I Z p,I Z (sN:Int),I Z i] kr _ (G.bd.row 0 rfl) rfl (qktb (p,(sN:Int),i,(aN:Int),q)) (qltb (p,(sN:Int),i,(aN:Int),q)) ?_|refine qau 78 (.tmp 13) (.tmp 92) rfl b13 kr #[I Z p,I Z (sN:Int),I Z i] kr _ (G.bd.row 1 rfl) rfl (qktb (p,(sN:Int),i,(aN:Int),q)) (qltb (p,(sN:Int),i,(aN:Int),q)) ?_);refine m1o ?_;intro w9 R9 t9;(first|replace G:=G.turn 0 rfl R9 t9|replace G:=G.turn 1 rfl R9 t9);clear R9 t9;refine m2w ?_;clear R8;intro R8
  refine hK.out _ _ R8 (fun _=>?_)
  clear hK K;(try simp only[ZZ]);refine AN ?_
  go_wp2_with fail
  go_meet
  case rel=>first|exact⟨b12,b13,rfl,rfl,rfl,G⟩|exact⟨b12,b13,rfl,rfl,rfl,G.swap⟩
 exact AZ):p:=h
theorem sZbd81(h:p:=by
 refine RD (fun W=>Row 32 W b8 (mc (p,(sN:Int),i,(aN:Int),q))) R8 (fun _=>?_)
 refine m08 ?_
 refine AP (fun K hK=>?_) ?_
 ·refine m6k ?_;intro b12 w9 l9 R9 h9;refine m0j ?_;clear h9 R9 l9 R8;intro G R8
  refine hK.out _ _ R8 (fun _=>?_)
  clear hK K;(try simp only[ZZ]);refine AR [15] ?_
  refine AP (fun K hK=>?_) AZ
  refine m6p ?_;intro b13 w9 l9 R9 h9;refine m0j ?_;clear h9 G R9 l9 R8;intro G R8
  exact sZbd83
 refine AP (fun K hK=>?_) ?_
 ·refine m6p ?_;intro b13 w9 l9 R9 h9;refine m0j ?_;clear h9 G R9 l9 R8;intro G R8
  refine hK.out _ _ R8 (fun _=>?_)
  clear hK K;(try simp only[ZZ]);refine AR [14] ?_
  refine AP (fun K hK=>?_) AZ
  refine m6k ?_;intro b12 w9 l9 R9 h9;refine m0j ?_;clear h9 G R9 l9 R8;intro G R8
  exact sZbd83
 exact AZ):p:=h
theorem sZbd86(h:p:=by
 refine m2c ?_
 go_wp2
 go_ret
 first|exact⟨false,HNG.out,rfl,G.bd.base⟩|exact⟨false,HNG.out,rfl,G.drew.bd.base⟩):p:=h
theorem sZbd82(h:p:=by
 simp only[ZZ];refine tq 19 (.bool true) rfl (by first|exact G|exact G.drew) (tk 20 undef rfl (Or.inr ⟨by kernel_rfl,rfl⟩) (by first|exact G|exact G.drew) (tk 21 undef rfl (Or.inr ⟨by kernel_rfl,rfl⟩) (by first|exact G|exact G.drew) ?_));simp only[ZZ];refine tk 22 undef rfl (Or.inr ⟨by kernel_rfl,rfl⟩) (by first|exact G|exact G.drew) (tk 23 undef rfl (Or.inr ⟨by kernel_rfl,rfl⟩) (by first|exact G|exact G.drew) (tk 24 undef rfl (Or.inr ⟨by kernel_rfl,rfl⟩) (by first|exact G|exact G.drew) ?_));simp only[ZZ];refine tk 25 undef rfl (Or.inr ⟨by kernel_rfl,rfl⟩) (by first|exact G|exact G.drew) (tk 26 undef rfl (Or.inr ⟨by kernel_rfl,rfl⟩) (by first|exact G|exact G.drew) (tk 27 undef rfl (Or.inr ⟨by kernel_rfl,rfl⟩) (by first|exact G|exact G.drew) ?_));simp only[ZZ];refine tk 28 undef rfl (Or.inr ⟨by kernel_rfl,rfl⟩) (by first|exact G|exact G.drew) (tk 29 undef rfl (Or.inr ⟨by kernel_rfl,rfl⟩) (by first|exact G|exact G.drew) (tk 30 undef rfl (Or.inr ⟨by kernel_rfl,rfl⟩) (by first|exact G|exact G.drew) ?_));simp only[ZZ];refine tk 31 undef rfl (Or.inr ⟨by kernel_rfl,rfl⟩) (by first|exact G|exact G.drew) (tk 32 (.bool true) rfl (q10 (.tmp 112) (.const (.bool true)) (.tmp 124) _ rfl kr kr kr) (by first|exact G|exact G.drew) ?_)
 exact sZbd86):p:=h
theorem sZbd84(h:p:=by
 simp only[ZZ];refine tq 8 (.bool true) rfl (by first|exact G|exact G.drew) (tk 9 undef rfl (Or.inr ⟨by kernel_rfl,rfl⟩) (by first|exact G|exact G.drew) (tk 10 undef rfl (Or.inr ⟨by kernel_rfl,rfl⟩) (by first|exact G|exact G.drew) ?_));simp only[ZZ];refine tk 11 undef rfl (Or.inr ⟨by kernel_rfl,rfl⟩) (by first|exact G|exact G.drew) (tk 12 undef rfl (Or.inr ⟨by kernel_rfl,rfl⟩) (by first|exact G|exact G.drew) (tk 13 undef rfl (Or.inr ⟨by kernel_rfl,rfl⟩) (by first|exact G|exact G.drew) ?_));simp only[ZZ];refine tk 14 undef rfl (Or.inr ⟨by kernel_rfl,rfl⟩) (by first|exact G|exact G.drew) (tk 15 undef rfl (Or.inr ⟨by kernel_rfl,rfl⟩) (by first|exact G|exact G.drew) (tk 16 undef rfl (Or.inr ⟨by kernel_rfl,rfl⟩) (by first|exact G|exact G.drew) ?_));simp only[ZZ];refine tk 17 undef rfl (Or.inr ⟨by kernel_rfl,rfl⟩) (by first|exact G|exact G.drew) (tk 18 (.bool true) rfl (q10 (.tmp 101) (.const (.bool true)) (.tmp 110) _ rfl kr kr kr) (by first|exact G|exact G.drew) ?_)
 exact sZbd82):p:=h
theorem qz4b(u2 u7 u8 u9 u10 u11 u12 u13 u14 u15 u16 u17 u18 u19 u20 u21 u22 u23 u24 u25 u26 u27 u31 u32 u33 u34 u35 u36 u37 u38 u39 u40 u41 u42 u43 u44 u45 u46 u47 u48 u49 u50 u51 u52 u53 u54 u55 u56 u57 u58 u59 u60 u61 u62 u63 u64 u65 u66 u67 u68 u69 u70 u71 u72 u73 u74 u75 u76 u77 u78 u79 u80 u81 u82 u83 u84 u85 u86 u87 u88 u89 u90 u91 u92 u93 u94 u95 u96 u97 u98 u99 u100 u101 u102 u103 u104 u105 u106 u107 u108 u109 u110 u111 u112 u113 u114 u115 u116 u117 u118 u119 u120 u121 u122 u123 u124 u125 u126 u127 u128 u129 u130 u131 u132 u133 u134 u135 u136 u137 u138 u139 u140 u141 u142 u143 u144 u145 u146 u147 u148 u149 u150 u151 u152 u153 u154 u155 u156 u157 u158 u159 u160 u161 u162 u163 u164 u165 u166 u167 u168 u169 u170 u171 u172 u173 u174 u175 u176 u177 u178 u179 u180 u181 u182 u183 u184 u185 u186 u187 u188 u189 u190 u191 u192 u193 u194 u195 u196 u197 u198 u199 u200 u201 u202:Value)(j:Nat)(HNs:Hid (n6<=2*j/\n5<=2*j/\n4<=2*j/\n3<=2*j))(G:Gm w wr [(b1,30,tc f g h (.slice a0 n cap))] [] [entI 3 k1v wf6 b6 n6 (nOf (ms.take j)),entI 79 k2 ok2 b5 n5 (nPl (ms.take j)),entB 78 k3 ok3 b4 n4 (sIn (ms.take j)),entB 76 k3 ok3 b3 n3 (sOut (ms.take j))])(HK:Hid (MsOk f h (ms.take j)))(HN:Hid (n=ms.length))(hM:qaz w (.slice a0 n cap) ms)(hwH:wfH h)(hgp:qcv f=true)(hlj:j<ms.length)(m:Mp)(hm:ms[j]=m)(hok:OkM m)(e3:sOut (ms.take j) (m.1,m.2.2.2.1,m.2.2.2.2)=true)(Q0:Exit->Act->World->Prop)(hret:∀a w',bodyPost prog f17 (fun e w'=>∃r:Bool,(r=true↔qbq f h ms)/\e=.returned (.bool r)/\Below w.heap.size w w') .ret a w'->Q0 .ret a w'):
  Code.wp prog (qryb f17) (Exit.then (fun a' W=>WG w f g h ms b1 b3 b4 b5 b6 a0 n cap a' W/\WGmu n a' W<WGmu n ⟨#[(.agg (tc f g h (.slice a0 n cap))),V (some ⟨b1,0,none⟩),u2,.map (some b3),.map (some b4),.map (some b5),.map (some b6),u7,u8,u9,u10,u11,u12,u13,u14,u15,u16,u17,u18,u19,u20,u21,u22,u23,u24,u25,u26,u27,(.slice a0 n cap),I Z (n:Int),I Z (j:Int),u31,u32,u33,u34,u35,u36,u37,u38,u39,u40,u41,u42,u43,u44,u45,u46,u47,u48,u49,u50,u51,u52,u53,u54,u55,u56,u57,u58,u59,u60,u61,u62,u63,u64,u65,u66,u67,u68,u69,u70,u71,u72,u73,u74,u75,u76,u77,u78,u79,u80,u81,u82,u83,u84,u85,u86,u87,u88,u89,u90,u91,u92,u93,u94,u95,u96,u97,u98,u99,u100,u101,u102,u103,u104,u105,u106,u107,u108,u109,u110,u111,u112,u113,u114,u115,u116,u117,u118,u119,u120,u121,u122,u123,u124,u125,u126,u127,u128,u129,u130,u131,u132,u133,u134,u135,u136,u137,u138,u139,u140,u141,u142,u143,u144,u145,u146,u147,u148,u149,u150,u151,u152,u153,u154,u155,u156,u157,u158,u159,u160,u161,u162,u163,u164,u165,u166,u167,u168,u169,u170,u171,u172,u173,u174,u175,u176,u177,u178,u179,u180,u181,u182,u183,u184,u185,u186,u187,u188,u189,u190,u191,u192,u193,u194,u195,u196,u197,u198,u199,u200,u201,u202],[]⟩ wr) Q0) ⟨#[(.agg (tc f g h (.slice a0 n cap))),V (some ⟨b1,0,none⟩),u2,.map (some b3),.map (some b4),.map (some b5),.map (some b6),u7,u8,u9,u10,u11,u12,u13,u14,u15,u16,u17,u18,u19,u20,u21,u22,u23,u24,u25,u26,u27,(.slice a0 n cap),I Z (n:Int),I Z (j:Int),u31,u32,u33,u34,u35,u36,u37,u38,u39,u40,u41,u42,u43,u44,u45,u46,u47,u48,u49,u50,u51,u52,u53,u54,u55,u56,u57,u58,u59,u60,u61,u62,u63,u64,u65,u66,u67,u68,u69,u70,u71,u72,u73,u74,u75,u76,u77,u78,u79,u80,u81,u82,u83,u84,u85,u86,u87,u88,u89,u90,u91,u92,u93,u94,u95,u96,u97,u98,u99,u100,u101,u102,u103,u104,u105,u106,u107,u108,u109,u110,u111,u112,u113,u114,u115,u116,u117,u118,u119,u120,u121,u122,u123,u124,u125,u126,u127,u128,u129,u130,u131,u132,u133,u134,u135,u136,u137,u138,u139,u140,u141,u142,u143,u144,u145,u146,u147,u148,u149,u150,u151,u152,u153,u154,u155,u156,u157,u158,u159,u160,u161,u162,u163,u164,u165,u166,u167,u168,u169,u170,u171,u172,u173,u174,u175,u176,u177,u178,u179,u180,u181,u182,u183,u184,u185,u186,u187,u188,u189,u190,u191,u192,u193,u194,u195,u196,u197,u198,u199,u200,u201,u202],[]⟩ wr:=by
 conv=>arg 2;whnf
 have hlt:=hM.lt;refine m0h ?_;intro hjn hjw;refine m5p ?_;intro hMW hrg;have HNG:Hid (false=true↔qbq f h ms):=hidB (qysb hlj (fun hh=>by rw[hm,qmyb,e3] at hh;simp at hh));have E3:Hid (sOut (ms.take j) (m.1,m.2.2.2.1,m.2.2.2.2)=true):=e3;clear e3;obtain⟨hq,hip,hs,hi,ha⟩:=hok;have HOK:Hid (OkM m):=⟨hq,hip,hs,hi,ha⟩;obtain⟨p,s,i,a,q⟩:=m
 simp only at hq hip hs hi ha
 obtain⟨sN,rfl⟩:∃sN:Nat,s=(sN:Int):=⟨s.toNat,by omega⟩
 obtain⟨aN,rfl⟩:∃aN:Nat,a=(aN:Int):=⟨a.toNat,by omega⟩
 obtain⟨kN,hkN⟩:∃kN:Nat,blkQ q=(kN:Int):=⟨(blkQ q).toNat,by unfold blkQ;omega⟩
 refine m00 ?_;intro HKN HS8 HA9 HK6 HPL HPR HTW HSW CB
 rw[hkN] at CB
 (have CI:=fun w=>qkqb p w)
 rw[hip] at CI
 refine m0e ?_;intro d1 d2 d3 d4 d5 d6;clear hq hip hs hi ha hkN
 go_upto_region 12 with(first|(refine qb5 rfl (.tmp 28) (.tmp 30) rfl (.slice a0 n cap) ms hMW rfl j rfl hlj ?_)|((with_reducible refine gL 32 32 ?_);refine m11 ?_)|((with_reducible refine gA 32 ?_);refine m2u ?_;clear G;intro b8 w9 G)|((with_reducible refine gS 32 8 33 ?_);refine m1s ?_;clear G;intro w9 G)|((with_reducible refine gL 3 35 ?_);refine m6r ?_)|(go_at_call 15;refine(CB _).mono ?_;refine m03 ?_)|((with_reducible refine gL 3 44 ?_);refine m6s ?_)|((with_reducible refine gL 3 50 ?_);refine m2g ?_)|((with_reducible refine gL 3 55 ?_);refine m2g ?_)|((with_reducible refine gL 3 60 ?_);refine m35 ?_)|((with_reducible refine gL 3 65 ?_);refine m35 ?_)|((with_reducible refine gL 3 70 ?_);refine m2h ?_)|((with_reducible refine gL 3 75 ?_);refine m2h ?_)|(go_at_call 38;refine(CI _).mono ?_;refine m03 ?_))
 clear d1 d2 d3 d4 d5 d6 CB CI;refine m0l ?_;intro R8
 go_cut [12,13,30] from 30 to 144 (fun s12 s13 s30 wx=>∃b12 b13,s12=V (some ⟨b12,0,none⟩)/\s13=V (some ⟨b13,0,none⟩)/\s30=I Z (j:Int)/\Gm w wx [(b12,76,#[I Z p,I Z (aN:Int),I Z q]),(b13,78,#[I Z p,I Z (sN:Int),I Z i]),(b8,32,mc (p,(sN:Int),i,(aN:Int),q)),(b1,30,tc f g h (.slice a0 n cap))] [] [entI 3 k1v wf6 b6 n6 (nOf (ms.take j)),entI 79 k2 ok2 b5 n5 (nPl (ms.take j)),entB 78 k3 ok3 b4 n4 (sIn (ms.take j)),entB 76 k3 ok3 b3 n3 (sOut (ms.take j))])
 case first=>
  exact sZbd81
 case rest=>
  clear G R8
  obtain⟨b12,b13,rfl,rfl,rfl,G⟩:=hcut
  have H18:Hid (6*aN+kN<18):=hidB (by have:=HA9.out;have:=HK6.out;omega)
  obtain⟨dH,hdH⟩:∃d,IntKind.i64.wrap (h sN-1)=d:=⟨_,rfl⟩
  obtain⟨dO,hdO⟩:∃d,IntKind.i64.wrap (f (6*aN+kN)-1)=d:=⟨_,rfl⟩
  refine m0f ?_;intro EH EO hc3 hc4
  rw[hdH] at hc3
  rw[hdO] at hc4
  clear hdH hdO;clear hc3 hc4
  go_upto_region 13 with(fail)
  refine RD (fun W=>Gm w W [(b12,76,#[I Z p,I Z (aN:Int),I Z q]),(b13,78,#[I Z p,I Z (sN:Int),I Z i]),(b8,32,mc (p,(sN:Int),i,(aN:Int),q)),(b1,30,tc f g h (.slice a0 n cap))] [] [entI 3 k1v wf6 b6 n6 (nOf (ms.take j)),entI 79 k2 ok2 b5 n5 (nPl (ms.take j)),entB 78 k3 ok3 b4 n4 (sIn (ms.take j)),entB 76 k3 ok3 b3 n3 (sOut (ms.take j))]) (by first|exact G|exact G.drew) (fun _=>?_)
  refine tq 0 (.map (some b3)) rfl (by first|exact G|exact G.drew) (tk 1 (.agg #[I Z p,I Z (aN:Int),I Z q]) rfl (qav 76 (.tmp 12) rfl kr b12 kr #[I Z p,I Z (aN:Int),I Z q] (fun _ h=>h.bd.row 0 rfl) _ underlying76 rfl (qk1b (p,(sN:Int),i,(aN:Int),q))) (by first|exact G|exact G.drew) (tk 2 (.bool true) rfl (qlcb 70 (.tmp 93) (.tmp 94) rfl kr (.map (some b3)) (k3 (p,(aN:Int),q)) _ kr kr (fun w h=>by have:=MeB.look (h.ent 3 rfl) qmub underlying70 (p,(aN:Int),q) HPL.out;rw[E3.out] at this;exact this)) (by first|exact G|exact G.drew) ?_))
  simp only[ZZ];refine tq 3 (.bool true) rfl (by first|exact G|exact G.drew) (tk 4 undef rfl (Or.inr ⟨by kernel_rfl,rfl⟩) (by first|exact G|exact G.drew) (tk 5 undef rfl (Or.inr ⟨by kernel_rfl,rfl⟩) (by first|exact G|exact G.drew) ?_));simp only[ZZ];refine tk 6 undef rfl (Or.inr ⟨by kernel_rfl,rfl⟩) (by first|exact G|exact G.drew) (tk 7 (.bool true) rfl (q10 (.tmp 96) (.const (.bool true)) (.tmp 99) _ rfl kr kr kr) (by first|exact G|exact G.drew) ?_)
  exact sZbd84
theorem qz3b(u2 u7 u8 u9 u10 u11 u12 u13 u14 u15 u16 u17 u18 u19 u20 u21 u22 u23 u24 u25 u26 u27 u31 u32 u33 u34 u35 u36 u37 u38 u39 u40 u41 u42 u43 u44 u45 u46 u47 u48 u49 u50 u51 u52 u53 u54 u55 u56 u57 u58 u59 u60 u61 u62 u63 u64 u65 u66 u67 u68 u69 u70 u71 u72 u73 u74 u75 u76 u77 u78 u79 u80 u81 u82 u83 u84 u85 u86 u87 u88 u89 u90 u91 u92 u93 u94 u95 u96 u97 u98 u99 u100 u101 u102 u103 u104 u105 u106 u107 u108 u109 u110 u111 u112 u113 u114 u115 u116 u117 u118 u119 u120 u121 u122 u123 u124 u125 u126 u127 u128 u129 u130 u131 u132 u133 u134 u135 u136 u137 u138 u139 u140 u141 u142 u143 u144 u145 u146 u147 u148 u149 u150 u151 u152 u153 u154 u155 u156 u157 u158 u159 u160 u161 u162 u163 u164 u165 u166 u167 u168 u169 u170 u171 u172 u173 u174 u175 u176 u177 u178 u179 u180 u181 u182 u183 u184 u185 u186 u187 u188 u189 u190 u191 u192 u193 u194 u195 u196 u197 u198 u199 u200 u201 u202:Value)(j:Nat)(HNs:Hid (n6<=2*j/\n5<=2*j/\n4<=2*j/\n3<=2*j))(G:Gm w wr [(b1,30,tc f g h (.slice a0 n cap))] [] [entI 3 k1v wf6 b6 n6 (nOf (ms.take j)),entI 79 k2 ok2 b5 n5 (nPl (ms.take j)),entB 78 k3 ok3 b4 n4 (sIn (ms.take j)),entB 76 k3 ok3 b3 n3 (sOut (ms.take j))])(HK:Hid (MsOk f h (ms.take j)))(HN:Hid (n=ms.length))(hM:qaz w (.slice a0 n cap) ms)(hwH:wfH h)(hgp:qcv f=true)(hlj:j<ms.length)(m:Mp)(hm:ms[j]=m)(hok:OkM m)(e3:sOut (ms.take j) (m.1,m.2.2.2.1,m.2.2.2.2)=false)(e4:sIn (ms.take j) (m.1,m.2.1,m.2.2.1)=true)(Q0:Exit->Act->World->Prop)(hret:∀a w',bodyPost prog f17 (fun e w'=>∃r:Bool,(r=true↔qbq f h ms)/\e=.returned (.bool r)/\Below w.heap.size w w') .ret a w'->Q0 .ret a w'):
  Code.wp prog (qryb f17) (Exit.then (fun a' W=>WG w f g h ms b1 b3 b4 b5 b6 a0 n cap a' W/\WGmu n a' W<WGmu n ⟨#[(.agg (tc f g h (.slice a0 n cap))),V (some ⟨b1,0,none⟩),u2,.map (some b3),.map (some b4),.map (some b5),.map (some b6),u7,u8,u9,u10,u11,u12,u13,u14,u15,u16,u17,u18,u19,u20,u21,u22,u23,u24,u25,u26,u27,(.slice a0 n cap),I Z (n:Int),I Z (j:Int),u31,u32,u33,u34,u35,u36,u37,u38,u39,u40,u41,u42,u43,u44,u45,u46,u47,u48,u49,u50,u51,u52,u53,u54,u55,u56,u57,u58,u59,u60,u61,u62,u63,u64,u65,u66,u67,u68,u69,u70,u71,u72,u73,u74,u75,u76,u77,u78,u79,u80,u81,u82,u83,u84,u85,u86,u87,u88,u89,u90,u91,u92,u93,u94,u95,u96,u97,u98,u99,u100,u101,u102,u103,u104,u105,u106,u107,u108,u109,u110,u111,u112,u113,u114,u115,u116,u117,u118,u119,u120,u121,u122,u123,u124,u125,u126,u127,u128,u129,u130,u131,u132,u133,u134,u135,u136,u137,u138,u139,u140,u141,u142,u143,u144,u145,u146,u147,u148,u149,u150,u151,u152,u153,u154,u155,u156,u157,u158,u159,u160,u161,u162,u163,u164,u165,u166,u167,u168,u169,u170,u171,u172,u173,u174,u175,u176,u177,u178,u179,u180,u181,u182,u183,u184,u185,u186,u187,u188,u189,u190,u191,u192,u193,u194,u195,u196,u197,u198,u199,u200,u201,u202],[]⟩ wr) Q0) ⟨#[(.agg (tc f g h (.slice a0 n cap))),V (some ⟨b1,0,none⟩),u2,.map (some b3),.map (some b4),.map (some b5),.map (some b6),u7,u8,u9,u10,u11,u12,u13,u14,u15,u16,u17,u18,u19,u20,u21,u22,u23,u24,u25,u26,u27,(.slice a0 n cap),I Z (n:Int),I Z (j:Int),u31,u32,u33,u34,u35,u36,u37,u38,u39,u40,u41,u42,u43,u44,u45,u46,u47,u48,u49,u50,u51,u52,u53,u54,u55,u56,u57,u58,u59,u60,u61,u62,u63,u64,u65,u66,u67,u68,u69,u70,u71,u72,u73,u74,u75,u76,u77,u78,u79,u80,u81,u82,u83,u84,u85,u86,u87,u88,u89,u90,u91,u92,u93,u94,u95,u96,u97,u98,u99,u100,u101,u102,u103,u104,u105,u106,u107,u108,u109,u110,u111,u112,u113,u114,u115,u116,u117,u118,u119,u120,u121,u122,u123,u124,u125,u126,u127,u128,u129,u130,u131,u132,u133,u134,u135,u136,u137,u138,u139,u140,u141,u142,u143,u144,u145,u146,u147,u148,u149,u150,u151,u152,u153,u154,u155,u156,u157,u158,u159,u160,u161,u162,u163,u164,u165,u166,u167,u168,u169,u170,u171,u172,u173,u174,u175,u176,u177,u178,u179,u180,u181,u182,u183,u184,u185,u186,u187,u188,u189,u190,u191,u192,u193,u194,u195,u196,u197,u198,u199,u200,u201,u202],[]⟩ wr:=by
 conv=>arg 2;whnf
 have hlt:=hM.lt;refine m0h ?_;intro hjn hjw;refine m5p ?_;intro hMW hrg;have HNG:Hid (false=true↔qbq f h ms):=hidB (qysb hlj (fun hh=>by rw[hm,qmyb,e4] at hh;simp at hh));have E3:Hid (sOut (ms.take j) (m.1,m.2.2.2.1,m.2.2.2.2)=false):=e3;have E4:Hid (sIn (ms.take j) (m.1,m.2.1,m.2.2.1)=true):=e4;clear e3 e4;obtain⟨hq,hip,hs,hi,ha⟩:=hok;have HOK:Hid (OkM m):=⟨hq,hip,hs,hi,ha⟩;obtain⟨p,s,i,a,q⟩:=m
 simp only at hq hip hs hi ha
 obtain⟨sN,rfl⟩:∃sN:Nat,s=(sN:Int):=⟨s.toNat,by omega⟩
 obtain⟨aN,rfl⟩:∃aN:Nat,a=(aN:Int):=⟨a.toNat,by omega⟩
 obtain⟨kN,hkN⟩:∃kN:Nat,blkQ q=(kN:Int):=⟨(blkQ q).toNat,by unfold blkQ;omega⟩
 refine m00 ?_;intro HKN HS8 HA9 HK6 HPL HPR HTW HSW CB
 rw[hkN] at CB
 (have CI:=fun w=>qkqb p w)
 rw[hip] at CI
 refine m0e ?_;intro d1 d2 d3 d4 d5 d6;clear hq hip hs hi ha hkN
 go_upto_region 12 with(first|(refine qb5 rfl (.tmp 28) (.tmp 30) rfl (.slice a0 n cap) ms hMW rfl j rfl hlj ?_)|((with_reducible refine gL 32 32 ?_);refine m11 ?_)|((with_reducible refine gA 32 ?_);refine m2u ?_;clear G;intro b8 w9 G)|((with_reducible refine gS 32 8 33 ?_);refine m1s ?_;clear G;intro w9 G)|((with_reducible refine gL 3 35 ?_);refine m6r ?_)|(go_at_call 15;refine(CB _).mono ?_;refine m03 ?_)|((with_reducible refine gL 3 44 ?_);refine m6s ?_)|((with_reducible refine gL 3 50 ?_);refine m2g ?_)|((with_reducible refine gL 3 55 ?_);refine m2g ?_)|((with_reducible refine gL 3 60 ?_);refine m35 ?_)|((with_reducible refine gL 3 65 ?_);refine m35 ?_)|((with_reducible refine gL 3 70 ?_);refine m2h ?_)|((with_reducible refine gL 3 75 ?_);refine m2h ?_)|(go_at_call 38;refine(CI _).mono ?_;refine m03 ?_))
 clear d1 d2 d3 d4 d5 d6 CB CI;refine m0l ?_;intro R8
 go_cut [12,13,30] from 30 to 144 (fun s12 s13 s30 wx=>∃b12 b13,s12=V (some ⟨b12,0,none⟩)/\s13=V (some ⟨b13,0,none⟩)/\s30=I Z (j:Int)/\Gm w wx [(b12,76,#[I Z p,I Z (aN:Int),I Z q]),(b13,78,#[I Z p,I Z (sN:Int),I Z i]),(b8,32,mc (p,(sN:Int),i,(aN:Int),q)),(b1,30,tc f g h (.slice a0 n cap))] [] [entI 3 k1v wf6 b6 n6 (nOf (ms.take j)),entI 79 k2 ok2 b5 n5 (nPl (ms.take j)),entB 78 k3 ok3 b4 n4 (sIn (ms.take j)),entB 76 k3 ok3 b3 n3 (sOut (ms.take j))])
 case first=>
  exact sZbd81
 case rest=>
  clear G R8
  obtain⟨b12,b13,rfl,rfl,rfl,G⟩:=hcut
  have H18:Hid (6*aN+kN<18):=hidB (by have:=HA9.out;have:=HK6.out;omega)
  obtain⟨dH,hdH⟩:∃d,IntKind.i64.wrap (h sN-1)=d:=⟨_,rfl⟩
  obtain⟨dO,hdO⟩:∃d,IntKind.i64.wrap (f (6*aN+kN)-1)=d:=⟨_,rfl⟩
  refine m0f ?_;intro EH EO hc3 hc4
  rw[hdH] at hc3
  rw[hdO] at hc4
  clear hdH hdO;clear hc3 hc4
  go_upto_region 13 with(fail)
  refine RD (fun W=>Gm w W [(b12,76,#[I Z p,I Z (aN:Int),I Z q]),(b13,78,#[I Z p,I Z (sN:Int),I Z i]),(b8,32,mc (p,(sN:Int),i,(aN:Int),q)),(b1,30,tc f g h (.slice a0 n cap))] [] [entI 3 k1v wf6 b6 n6 (nOf (ms.take j)),entI 79 k2 ok2 b5 n5 (nPl (ms.take j)),entB 78 k3 ok3 b4 n4 (sIn (ms.take j)),entB 76 k3 ok3 b3 n3 (sOut (ms.take j))]) (by first|exact G|exact G.drew) (fun _=>?_)
  refine tq 0 (.map (some b3)) rfl (by first|exact G|exact G.drew) (tk 1 (.agg #[I Z p,I Z (aN:Int),I Z q]) rfl (qav 76 (.tmp 12) rfl kr b12 kr #[I Z p,I Z (aN:Int),I Z q] (fun _ h=>h.bd.row 0 rfl) _ underlying76 rfl (qk1b (p,(sN:Int),i,(aN:Int),q))) (by first|exact G|exact G.drew) (tk 2 (.bool false) rfl (qlcb 70 (.tmp 93) (.tmp 94) rfl kr (.map (some b3)) (k3 (p,(aN:Int),q)) _ kr kr (fun w h=>by have:=MeB.look (h.ent 3 rfl) qmub underlying70 (p,(aN:Int),q) HPL.out;rw[E3.out] at this;exact this)) (by first|exact G|exact G.drew) ?_))
  simp only[ZZ]
  refine tq 3 (.bool false) rfl (by first|exact G|exact G.drew) (tq 4 (.map (some b4)) rfl (by first|exact G|exact G.drew) (tk 5 (.agg #[I Z p,I Z (sN:Int),I Z i]) rfl (qav 78 (.tmp 13) rfl kr b13 kr #[I Z p,I Z (sN:Int),I Z i] (fun _ h=>h.bd.row 1 rfl) _ underlying78 rfl (qktb (p,(sN:Int),i,(aN:Int),q))) (by first|exact G|exact G.drew) ?_))
  simp only[ZZ]
  refine tk 6 (.bool true) rfl (qlcb 71 (.tmp 97) (.tmp 98) rfl kr (.map (some b4)) (k3 (p,(sN:Int),i)) _ kr kr (fun w h=>by have:=MeB.look (h.ent 2 rfl) qnnb underlying71 (p,(sN:Int),i) HPR.out;rw[E4.out] at this;exact this)) (by first|exact G|exact G.drew) (tk 7 (.bool true) rfl (qkib (.tmp 96) (.const (.bool true)) (.tmp 99) _ rfl kr kr kr) (by first|exact G|exact G.drew) ?_)
  exact sZbd84
theorem qzzb(u2 u7 u8 u9 u10 u11 u12 u13 u14 u15 u16 u17 u18 u19 u20 u21 u22 u23 u24 u25 u26 u27 u31 u32 u33 u34 u35 u36 u37 u38 u39 u40 u41 u42 u43 u44 u45 u46 u47 u48 u49 u50 u51 u52 u53 u54 u55 u56 u57 u58 u59 u60 u61 u62 u63 u64 u65 u66 u67 u68 u69 u70 u71 u72 u73 u74 u75 u76 u77 u78 u79 u80 u81 u82 u83 u84 u85 u86 u87 u88 u89 u90 u91 u92 u93 u94 u95 u96 u97 u98 u99 u100 u101 u102 u103 u104 u105 u106 u107 u108 u109 u110 u111 u112 u113 u114 u115 u116 u117 u118 u119 u120 u121 u122 u123 u124 u125 u126 u127 u128 u129 u130 u131 u132 u133 u134 u135 u136 u137 u138 u139 u140 u141 u142 u143 u144 u145 u146 u147 u148 u149 u150 u151 u152 u153 u154 u155 u156 u157 u158 u159 u160 u161 u162 u163 u164 u165 u166 u167 u168 u169 u170 u171 u172 u173 u174 u175 u176 u177 u178 u179 u180 u181 u182 u183 u184 u185 u186 u187 u188 u189 u190 u191 u192 u193 u194 u195 u196 u197 u198 u199 u200 u201 u202:Value)(j:Nat)(HNs:Hid (n6<=2*j/\n5<=2*j/\n4<=2*j/\n3<=2*j))(G:Gm w wr [(b1,30,tc f g h (.slice a0 n cap))] [] [entI 3 k1v wf6 b6 n6 (nOf (ms.take j)),entI 79 k2 ok2 b5 n5 (nPl (ms.take j)),entB 78 k3 ok3 b4 n4 (sIn (ms.take j)),entB 76 k3 ok3 b3 n3 (sOut (ms.take j))])(HK:Hid (MsOk f h (ms.take j)))(HN:Hid (n=ms.length))(hM:qaz w (.slice a0 n cap) ms)(hwH:wfH h)(hgp:qcv f=true)(hlj:j<ms.length)(m:Mp)(hm:ms[j]=m)(hok:OkM m)(e3:sOut (ms.take j) (m.1,m.2.2.2.1,m.2.2.2.2)=false)(e4:sIn (ms.take j) (m.1,m.2.1,m.2.2.1)=false)(e5:¬h m.2.1.toNat=m.2.2.2.1+1)(Q0:Exit->Act->World->Prop)(hret:∀a w',bodyPost prog f17 (fun e w'=>∃r:Bool,(r=true↔qbq f h ms)/\e=.returned (.bool r)/\Below w.heap.size w w') .ret a w'->Q0 .ret a w'):
  Code.wp prog (qryb f17) (Exit.then (fun a' W=>WG w f g h ms b1 b3 b4 b5 b6 a0 n cap a' W/\WGmu n a' W<WGmu n ⟨#[(.agg (tc f g h (.slice a0 n cap))),V (some ⟨b1,0,none⟩),u2,.map (some b3),.map (some b4),.map (some b5),.map (some b6),u7,u8,u9,u10,u11,u12,u13,u14,u15,u16,u17,u18,u19,u20,u21,u22,u23,u24,u25,u26,u27,(.slice a0 n cap),I Z (n:Int),I Z (j:Int),u31,u32,u33,u34,u35,u36,u37,u38,u39,u40,u41,u42,u43,u44,u45,u46,u47,u48,u49,u50,u51,u52,u53,u54,u55,u56,u57,u58,u59,u60,u61,u62,u63,u64,u65,u66,u67,u68,u69,u70,u71,u72,u73,u74,u75,u76,u77,u78,u79,u80,u81,u82,u83,u84,u85,u86,u87,u88,u89,u90,u91,u92,u93,u94,u95,u96,u97,u98,u99,u100,u101,u102,u103,u104,u105,u106,u107,u108,u109,u110,u111,u112,u113,u114,u115,u116,u117,u118,u119,u120,u121,u122,u123,u124,u125,u126,u127,u128,u129,u130,u131,u132,u133,u134,u135,u136,u137,u138,u139,u140,u141,u142,u143,u144,u145,u146,u147,u148,u149,u150,u151,u152,u153,u154,u155,u156,u157,u158,u159,u160,u161,u162,u163,u164,u165,u166,u167,u168,u169,u170,u171,u172,u173,u174,u175,u176,u177,u178,u179,u180,u181,u182,u183,u184,u185,u186,u187,u188,u189,u190,u191,u192,u193,u194,u195,u196,u197,u198,u199,u200,u201,u202],[]⟩ wr) Q0) ⟨#[(.agg (tc f g h (.slice a0 n cap))),V (some ⟨b1,0,none⟩),u2,.map (some b3),.map (some b4),.map (some b5),.map (some b6),u7,u8,u9,u10,u11,u12,u13,u14,u15,u16,u17,u18,u19,u20,u21,u22,u23,u24,u25,u26,u27,(.slice a0 n cap),I Z (n:Int),I Z (j:Int),u31,u32,u33,u34,u35,u36,u37,u38,u39,u40,u41,u42,u43,u44,u45,u46,u47,u48,u49,u50,u51,u52,u53,u54,u55,u56,u57,u58,u59,u60,u61,u62,u63,u64,u65,u66,u67,u68,u69,u70,u71,u72,u73,u74,u75,u76,u77,u78,u79,u80,u81,u82,u83,u84,u85,u86,u87,u88,u89,u90,u91,u92,u93,u94,u95,u96,u97,u98,u99,u100,u101,u102,u103,u104,u105,u106,u107,u108,u109,u110,u111,u112,u113,u114,u115,u116,u117,u118,u119,u120,u121,u122,u123,u124,u125,u126,u127,u128,u129,u130,u131,u132,u133,u134,u135,u136,u137,u138,u139,u140,u141,u142,u143,u144,u145,u146,u147,u148,u149,u150,u151,u152,u153,u154,u155,u156,u157,u158,u159,u160,u161,u162,u163,u164,u165,u166,u167,u168,u169,u170,u171,u172,u173,u174,u175,u176,u177,u178,u179,u180,u181,u182,u183,u184,u185,u186,u187,u188,u189,u190,u191,u192,u193,u194,u195,u196,u197,u198,u199,u200,u201,u202],[]⟩ wr:=by
 conv=>arg 2;whnf
 have hlt:=hM.lt;refine m0h ?_;intro hjn hjw;refine m5p ?_;intro hMW hrg;(have HNG:Hid (false=true↔qbq f h ms):=hidB (qysb hlj (fun hh=>e5 (by rw[hm] at hh;exact hh.1.2.2.2.2.2.1))));refine m3z ?_;intro E3 E4;have E5:Hid (¬h m.2.1.toNat=m.2.2.2.1+1):=e5;clear e3 e4 e5;obtain⟨hq,hip,hs,hi,ha⟩:=hok;have HOK:Hid (OkM m):=⟨hq,hip,hs,hi,ha⟩;obtain⟨p,s,i,a,q⟩:=m
 simp only at hq hip hs hi ha
 obtain⟨sN,rfl⟩:∃sN:Nat,s=(sN:Int):=⟨s.toNat,by omega⟩
 obtain⟨aN,rfl⟩:∃aN:Nat,a=(aN:Int):=⟨a.toNat,by omega⟩
 obtain⟨kN,hkN⟩:∃kN:Nat,blkQ q=(kN:Int):=⟨(blkQ q).toNat,by unfold blkQ;omega⟩
 refine m00 ?_;intro HKN HS8 HA9 HK6 HPL HPR HTW HSW CB
 rw[hkN] at CB
 (have CI:=fun w=>qkqb p w)
 rw[hip] at CI
 refine m0e ?_;intro d1 d2 d3 d4 d5 d6;clear hq hip hs hi ha hkN
 go_upto_region 12 with(first|(refine qb5 rfl (.tmp 28) (.tmp 30) rfl (.slice a0 n cap) ms hMW rfl j rfl hlj ?_)|((with_reducible refine gL 32 32 ?_);refine m11 ?_)|((with_reducible refine gA 32 ?_);refine m2u ?_;clear G;intro b8 w9 G)|((with_reducible refine gS 32 8 33 ?_);refine m1s ?_;clear G;intro w9 G)|((with_reducible refine gL 3 35 ?_);refine m6r ?_)|(go_at_call 15;refine(CB _).mono ?_;refine m03 ?_)|((with_reducible refine gL 3 44 ?_);refine m6s ?_)|((with_reducible refine gL 3 50 ?_);refine m2g ?_)|((with_reducible refine gL 3 55 ?_);refine m2g ?_)|((with_reducible refine gL 3 60 ?_);refine m35 ?_)|((with_reducible refine gL 3 65 ?_);refine m35 ?_)|((with_reducible refine gL 3 70 ?_);refine m2h ?_)|((with_reducible refine gL 3 75 ?_);refine m2h ?_)|(go_at_call 38;refine(CI _).mono ?_;refine m03 ?_))
 clear d1 d2 d3 d4 d5 d6 CB CI;refine m0l ?_;intro R8
 go_cut [12,13,30] from 30 to 144 (fun s12 s13 s30 wx=>∃b12 b13,s12=V (some ⟨b12,0,none⟩)/\s13=V (some ⟨b13,0,none⟩)/\s30=I Z (j:Int)/\Gm w wx [(b12,76,#[I Z p,I Z (aN:Int),I Z q]),(b13,78,#[I Z p,I Z (sN:Int),I Z i]),(b8,32,mc (p,(sN:Int),i,(aN:Int),q)),(b1,30,tc f g h (.slice a0 n cap))] [] [entI 3 k1v wf6 b6 n6 (nOf (ms.take j)),entI 79 k2 ok2 b5 n5 (nPl (ms.take j)),entB 78 k3 ok3 b4 n4 (sIn (ms.take j)),entB 76 k3 ok3 b3 n3 (sOut (ms.take j))])
 case first=>
  exact sZbd81
 case rest=>
  clear G R8
  obtain⟨b12,b13,rfl,rfl,rfl,G⟩:=hcut
  have H18:Hid (6*aN+kN<18):=hidB (by have:=HA9.out;have:=HK6.out;omega)
  obtain⟨dH,hdH⟩:∃d,IntKind.i64.wrap (h sN-1)=d:=⟨_,rfl⟩
  obtain⟨dO,hdO⟩:∃d,IntKind.i64.wrap (f (6*aN+kN)-1)=d:=⟨_,rfl⟩
  refine m0f ?_;intro EH EO hc3 hc4
  rw[hdH] at hc3
  rw[hdO] at hc4
  clear hdH hdO;have C3:Hid ((dH != (aN:Int))=true):=hidB (by rw[hc3];have:=E5.out;simp at this;simp[this]);clear hc3 hc4
  go_upto_region 13 with(fail)
  refine RD (fun W=>Gm w W [(b12,76,#[I Z p,I Z (aN:Int),I Z q]),(b13,78,#[I Z p,I Z (sN:Int),I Z i]),(b8,32,mc (p,(sN:Int),i,(aN:Int),q)),(b1,30,tc f g h (.slice a0 n cap))] [] [entI 3 k1v wf6 b6 n6 (nOf (ms.take j)),entI 79 k2 ok2 b5 n5 (nPl (ms.take j)),entB 78 k3 ok3 b4 n4 (sIn (ms.take j)),entB 76 k3 ok3 b3 n3 (sOut (ms.take j))]) (by first|exact G|exact G.drew) (fun _=>?_)
  refine tq 0 (.map (some b3)) rfl (by first|exact G|exact G.drew) (tk 1 (.agg #[I Z p,I Z (aN:Int),I Z q]) rfl (qav 76 (.tmp 12) rfl kr b12 kr #[I Z p,I Z (aN:Int),I Z q] (fun _ h=>h.bd.row 0 rfl) _ underlying76 rfl (qk1b (p,(sN:Int),i,(aN:Int),q))) (by first|exact G|exact G.drew) (tk 2 (.bool false) rfl (qlcb 70 (.tmp 93) (.tmp 94) rfl kr (.map (some b3)) (k3 (p,(aN:Int),q)) _ kr kr (fun w h=>by have:=MeB.look (h.ent 3 rfl) qmub underlying70 (p,(aN:Int),q) HPL.out;rw[E3.out] at this;exact this)) (by first|exact G|exact G.drew) ?_))
  simp only[ZZ]
  refine tq 3 (.bool false) rfl (by first|exact G|exact G.drew) (tq 4 (.map (some b4)) rfl (by first|exact G|exact G.drew) (tk 5 (.agg #[I Z p,I Z (sN:Int),I Z i]) rfl (qav 78 (.tmp 13) rfl kr b13 kr #[I Z p,I Z (sN:Int),I Z i] (fun _ h=>h.bd.row 1 rfl) _ underlying78 rfl (qktb (p,(sN:Int),i,(aN:Int),q))) (by first|exact G|exact G.drew) ?_))
  simp only[ZZ]
  refine tk 6 (.bool false) rfl (qlcb 71 (.tmp 97) (.tmp 98) rfl kr (.map (some b4)) (k3 (p,(sN:Int),i)) _ kr kr (fun w h=>by have:=MeB.look (h.ent 2 rfl) qnnb underlying71 (p,(sN:Int),i) HPR.out;rw[E4.out] at this;exact this)) (by first|exact G|exact G.drew) (tk 7 (.bool false) rfl (qkib (.tmp 96) (.const (.bool true)) (.tmp 99) _ rfl kr kr kr) (by first|exact G|exact G.drew) (tq 8 (.bool false) rfl (by first|exact G|exact G.drew) ?_))
  refine m0p ?_
  refine tk 12 (V (some ⟨b1,21+sN,none⟩)) rfl (qleb 27 (.tmp 104) (.tmp 103) rfl kr _ _ _ kr kr (fun w=>ix8 b1 21 sN HS8.out w)) (by first|exact G|exact G.drew) (tk 13 (I Z (h sN)) rfl (Or.inl ⟨by kernel_rfl,by intro w hS;have hc:=((hS.bd.row 3 rfl).cell (21+sN)).trans (qhc _ _ _ _ sN HS8.out);go_simp⟩) (by first|exact G|exact G.drew) (tk 14 (I Z dH) rfl (qmkb (.tmp 106) rfl kr _ _ kr EH.out) (by first|exact G|exact G.drew) ?_))
  simp only[ZZ];(refine tq 15 (V (some ⟨b8,3,none⟩)) rfl (by first|exact G|exact G.drew) (tk 16 (I Z (aN:Int)) rfl (Or.inl ⟨by kernel_rfl,by intro w hS;have hc:=((hS.bd.row 2 rfl).cell 3).trans (show(mc (p,(sN:Int),i,(aN:Int),q))[3]?=some (I Z (aN:Int)) from rfl);go_simp⟩) (by first|exact G|exact G.drew) (tk 17 (.bool true) rfl (qrk 3 (.tmp 107) (.tmp 109) _ _ _ rfl kr kr kr C3.out) (by first|exact G|exact G.drew) ?_)));simp only[ZZ];refine tk 18 (.bool true) rfl (qkib (.tmp 101) (.const (.bool true)) (.tmp 110) _ rfl kr kr kr) (by first|exact G|exact G.drew) ?_
  exact sZbd82
theorem qz0b(u2 u7 u8 u9 u10 u11 u12 u13 u14 u15 u16 u17 u18 u19 u20 u21 u22 u23 u24 u25 u26 u27 u31 u32 u33 u34 u35 u36 u37 u38 u39 u40 u41 u42 u43 u44 u45 u46 u47 u48 u49 u50 u51 u52 u53 u54 u55 u56 u57 u58 u59 u60 u61 u62 u63 u64 u65 u66 u67 u68 u69 u70 u71 u72 u73 u74 u75 u76 u77 u78 u79 u80 u81 u82 u83 u84 u85 u86 u87 u88 u89 u90 u91 u92 u93 u94 u95 u96 u97 u98 u99 u100 u101 u102 u103 u104 u105 u106 u107 u108 u109 u110 u111 u112 u113 u114 u115 u116 u117 u118 u119 u120 u121 u122 u123 u124 u125 u126 u127 u128 u129 u130 u131 u132 u133 u134 u135 u136 u137 u138 u139 u140 u141 u142 u143 u144 u145 u146 u147 u148 u149 u150 u151 u152 u153 u154 u155 u156 u157 u158 u159 u160 u161 u162 u163 u164 u165 u166 u167 u168 u169 u170 u171 u172 u173 u174 u175 u176 u177 u178 u179 u180 u181 u182 u183 u184 u185 u186 u187 u188 u189 u190 u191 u192 u193 u194 u195 u196 u197 u198 u199 u200 u201 u202:Value)(j:Nat)(HNs:Hid (n6<=2*j/\n5<=2*j/\n4<=2*j/\n3<=2*j))(G:Gm w wr [(b1,30,tc f g h (.slice a0 n cap))] [] [entI 3 k1v wf6 b6 n6 (nOf (ms.take j)),entI 79 k2 ok2 b5 n5 (nPl (ms.take j)),entB 78 k3 ok3 b4 n4 (sIn (ms.take j)),entB 76 k3 ok3 b3 n3 (sOut (ms.take j))])(HK:Hid (MsOk f h (ms.take j)))(HN:Hid (n=ms.length))(hM:qaz w (.slice a0 n cap) ms)(hwH:wfH h)(hgp:qcv f=true)(hlj:j<ms.length)(m:Mp)(hm:ms[j]=m)(hok:OkM m)(e3:sOut (ms.take j) (m.1,m.2.2.2.1,m.2.2.2.2)=false)(e4:sIn (ms.take j) (m.1,m.2.1,m.2.2.1)=false)(e5:h m.2.1.toNat=m.2.2.2.1+1)(e6:¬f (qa7 m)=m.2.1+1)(Q0:Exit->Act->World->Prop)(hret:∀a w',bodyPost prog f17 (fun e w'=>∃r:Bool,(r=true↔qbq f h ms)/\e=.returned (.bool r)/\Below w.heap.size w w') .ret a w'->Q0 .ret a w'):
  Code.wp prog (qryb f17) (Exit.then (fun a' W=>WG w f g h ms b1 b3 b4 b5 b6 a0 n cap a' W/\WGmu n a' W<WGmu n ⟨#[(.agg (tc f g h (.slice a0 n cap))),V (some ⟨b1,0,none⟩),u2,.map (some b3),.map (some b4),.map (some b5),.map (some b6),u7,u8,u9,u10,u11,u12,u13,u14,u15,u16,u17,u18,u19,u20,u21,u22,u23,u24,u25,u26,u27,(.slice a0 n cap),I Z (n:Int),I Z (j:Int),u31,u32,u33,u34,u35,u36,u37,u38,u39,u40,u41,u42,u43,u44,u45,u46,u47,u48,u49,u50,u51,u52,u53,u54,u55,u56,u57,u58,u59,u60,u61,u62,u63,u64,u65,u66,u67,u68,u69,u70,u71,u72,u73,u74,u75,u76,u77,u78,u79,u80,u81,u82,u83,u84,u85,u86,u87,u88,u89,u90,u91,u92,u93,u94,u95,u96,u97,u98,u99,u100,u101,u102,u103,u104,u105,u106,u107,u108,u109,u110,u111,u112,u113,u114,u115,u116,u117,u118,u119,u120,u121,u122,u123,u124,u125,u126,u127,u128,u129,u130,u131,u132,u133,u134,u135,u136,u137,u138,u139,u140,u141,u142,u143,u144,u145,u146,u147,u148,u149,u150,u151,u152,u153,u154,u155,u156,u157,u158,u159,u160,u161,u162,u163,u164,u165,u166,u167,u168,u169,u170,u171,u172,u173,u174,u175,u176,u177,u178,u179,u180,u181,u182,u183,u184,u185,u186,u187,u188,u189,u190,u191,u192,u193,u194,u195,u196,u197,u198,u199,u200,u201,u202],[]⟩ wr) Q0) ⟨#[(.agg (tc f g h (.slice a0 n cap))),V (some ⟨b1,0,none⟩),u2,.map (some b3),.map (some b4),.map (some b5),.map (some b6),u7,u8,u9,u10,u11,u12,u13,u14,u15,u16,u17,u18,u19,u20,u21,u22,u23,u24,u25,u26,u27,(.slice a0 n cap),I Z (n:Int),I Z (j:Int),u31,u32,u33,u34,u35,u36,u37,u38,u39,u40,u41,u42,u43,u44,u45,u46,u47,u48,u49,u50,u51,u52,u53,u54,u55,u56,u57,u58,u59,u60,u61,u62,u63,u64,u65,u66,u67,u68,u69,u70,u71,u72,u73,u74,u75,u76,u77,u78,u79,u80,u81,u82,u83,u84,u85,u86,u87,u88,u89,u90,u91,u92,u93,u94,u95,u96,u97,u98,u99,u100,u101,u102,u103,u104,u105,u106,u107,u108,u109,u110,u111,u112,u113,u114,u115,u116,u117,u118,u119,u120,u121,u122,u123,u124,u125,u126,u127,u128,u129,u130,u131,u132,u133,u134,u135,u136,u137,u138,u139,u140,u141,u142,u143,u144,u145,u146,u147,u148,u149,u150,u151,u152,u153,u154,u155,u156,u157,u158,u159,u160,u161,u162,u163,u164,u165,u166,u167,u168,u169,u170,u171,u172,u173,u174,u175,u176,u177,u178,u179,u180,u181,u182,u183,u184,u185,u186,u187,u188,u189,u190,u191,u192,u193,u194,u195,u196,u197,u198,u199,u200,u201,u202],[]⟩ wr:=by
 conv=>arg 2;whnf
 have hlt:=hM.lt;refine m0h ?_;intro hjn hjw;refine m5p ?_;intro hMW hrg;(have HNG:Hid (false=true↔qbq f h ms):=hidB (qysb hlj (fun hh=>e6 (by rw[hm] at hh;exact hh.1.2.2.2.2.2.2))));refine m3z ?_;intro E3 E4;have E5:Hid (h m.2.1.toNat=m.2.2.2.1+1):=e5;have E6:Hid (¬f (qa7 m)=m.2.1+1):=e6;clear e3 e4 e5 e6;obtain⟨hq,hip,hs,hi,ha⟩:=hok;have HOK:Hid (OkM m):=⟨hq,hip,hs,hi,ha⟩;obtain⟨p,s,i,a,q⟩:=m
 simp only at hq hip hs hi ha
 obtain⟨sN,rfl⟩:∃sN:Nat,s=(sN:Int):=⟨s.toNat,by omega⟩
 obtain⟨aN,rfl⟩:∃aN:Nat,a=(aN:Int):=⟨a.toNat,by omega⟩
 obtain⟨kN,hkN⟩:∃kN:Nat,blkQ q=(kN:Int):=⟨(blkQ q).toNat,by unfold blkQ;omega⟩
 refine m00 ?_;intro HKN HS8 HA9 HK6 HPL HPR HTW HSW CB
 rw[hkN] at CB
 (have CI:=fun w=>qkqb p w)
 rw[hip] at CI
 refine m0e ?_;intro d1 d2 d3 d4 d5 d6;clear hq hip hs hi ha hkN
 go_upto_region 12 with(first|(refine qb5 rfl (.tmp 28) (.tmp 30) rfl (.slice a0 n cap) ms hMW rfl j rfl hlj ?_)|((with_reducible refine gL 32 32 ?_);refine m11 ?_)|((with_reducible refine gA 32 ?_);refine m2u ?_;clear G;intro b8 w9 G)|((with_reducible refine gS 32 8 33 ?_);refine m1s ?_;clear G;intro w9 G)|((with_reducible refine gL 3 35 ?_);refine m6r ?_)|(go_at_call 15;refine(CB _).mono ?_;refine m03 ?_)|((with_reducible refine gL 3 44 ?_);refine m6s ?_)|((with_reducible refine gL 3 50 ?_);refine m2g ?_)|((with_reducible refine gL 3 55 ?_);refine m2g ?_)|((with_reducible refine gL 3 60 ?_);refine m35 ?_)|((with_reducible refine gL 3 65 ?_);refine m35 ?_)|((with_reducible refine gL 3 70 ?_);refine m2h ?_)|((with_reducible refine gL 3 75 ?_);refine m2h ?_)|(go_at_call 38;refine(CI _).mono ?_;refine m03 ?_))
 clear d1 d2 d3 d4 d5 d6 CB CI;refine m0l ?_;intro R8
 go_cut [12,13,30] from 30 to 144 (fun s12 s13 s30 wx=>∃b12 b13,s12=V (some ⟨b12,0,none⟩)/\s13=V (some ⟨b13,0,none⟩)/\s30=I Z (j:Int)/\Gm w wx [(b12,76,#[I Z p,I Z (aN:Int),I Z q]),(b13,78,#[I Z p,I Z (sN:Int),I Z i]),(b8,32,mc (p,(sN:Int),i,(aN:Int),q)),(b1,30,tc f g h (.slice a0 n cap))] [] [entI 3 k1v wf6 b6 n6 (nOf (ms.take j)),entI 79 k2 ok2 b5 n5 (nPl (ms.take j)),entB 78 k3 ok3 b4 n4 (sIn (ms.take j)),entB 76 k3 ok3 b3 n3 (sOut (ms.take j))])
 case first=>
  exact sZbd81
 case rest=>
  clear G R8
  obtain⟨b12,b13,rfl,rfl,rfl,G⟩:=hcut
  have H18:Hid (6*aN+kN<18):=hidB (by have:=HA9.out;have:=HK6.out;omega)
  obtain⟨dH,hdH⟩:∃d,IntKind.i64.wrap (h sN-1)=d:=⟨_,rfl⟩
  obtain⟨dO,hdO⟩:∃d,IntKind.i64.wrap (f (6*aN+kN)-1)=d:=⟨_,rfl⟩
  refine m0f ?_;intro EH EO hc3 hc4
  rw[hdH] at hc3
  rw[hdO] at hc4
  clear hdH hdO;have C3:Hid ((dH != (aN:Int))=false):=hidB (by rw[hc3];have:=E5.out;simp at this;simp[this]);have C4:Hid ((dO != (sN:Int))=true):=hidB (by rw[hc4];have:=E6.out;rw[qpyb HKN.out] at this;simp at this ⊢;exact this);clear hc3 hc4
  go_upto_region 13 with(fail)
  refine RD (fun W=>Gm w W [(b12,76,#[I Z p,I Z (aN:Int),I Z q]),(b13,78,#[I Z p,I Z (sN:Int),I Z i]),(b8,32,mc (p,(sN:Int),i,(aN:Int),q)),(b1,30,tc f g h (.slice a0 n cap))] [] [entI 3 k1v wf6 b6 n6 (nOf (ms.take j)),entI 79 k2 ok2 b5 n5 (nPl (ms.take j)),entB 78 k3 ok3 b4 n4 (sIn (ms.take j)),entB 76 k3 ok3 b3 n3 (sOut (ms.take j))]) (by first|exact G|exact G.drew) (fun _=>?_)
  refine tq 0 (.map (some b3)) rfl (by first|exact G|exact G.drew) (tk 1 (.agg #[I Z p,I Z (aN:Int),I Z q]) rfl (qav 76 (.tmp 12) rfl kr b12 kr #[I Z p,I Z (aN:Int),I Z q] (fun _ h=>h.bd.row 0 rfl) _ underlying76 rfl (qk1b (p,(sN:Int),i,(aN:Int),q))) (by first|exact G|exact G.drew) (tk 2 (.bool false) rfl (qlcb 70 (.tmp 93) (.tmp 94) rfl kr (.map (some b3)) (k3 (p,(aN:Int),q)) _ kr kr (fun w h=>by have:=MeB.look (h.ent 3 rfl) qmub underlying70 (p,(aN:Int),q) HPL.out;rw[E3.out] at this;exact this)) (by first|exact G|exact G.drew) ?_))
  simp only[ZZ]
  refine tq 3 (.bool false) rfl (by first|exact G|exact G.drew) (tq 4 (.map (some b4)) rfl (by first|exact G|exact G.drew) (tk 5 (.agg #[I Z p,I Z (sN:Int),I Z i]) rfl (qav 78 (.tmp 13) rfl kr b13 kr #[I Z p,I Z (sN:Int),I Z i] (fun _ h=>h.bd.row 1 rfl) _ underlying78 rfl (qktb (p,(sN:Int),i,(aN:Int),q))) (by first|exact G|exact G.drew) ?_))
  simp only[ZZ]
  refine tk 6 (.bool false) rfl (qlcb 71 (.tmp 97) (.tmp 98) rfl kr (.map (some b4)) (k3 (p,(sN:Int),i)) _ kr kr (fun w h=>by have:=MeB.look (h.ent 2 rfl) qnnb underlying71 (p,(sN:Int),i) HPR.out;rw[E4.out] at this;exact this)) (by first|exact G|exact G.drew) (tk 7 (.bool false) rfl (qkib (.tmp 96) (.const (.bool true)) (.tmp 99) _ rfl kr kr kr) (by first|exact G|exact G.drew) (tq 8 (.bool false) rfl (by first|exact G|exact G.drew) ?_))
  refine m0p ?_
  refine tk 12 (V (some ⟨b1,21+sN,none⟩)) rfl (qleb 27 (.tmp 104) (.tmp 103) rfl kr _ _ _ kr kr (fun w=>ix8 b1 21 sN HS8.out w)) (by first|exact G|exact G.drew) (tk 13 (I Z (h sN)) rfl (Or.inl ⟨by kernel_rfl,by intro w hS;have hc:=((hS.bd.row 3 rfl).cell (21+sN)).trans (qhc _ _ _ _ sN HS8.out);go_simp⟩) (by first|exact G|exact G.drew) (tk 14 (I Z dH) rfl (qmkb (.tmp 106) rfl kr _ _ kr EH.out) (by first|exact G|exact G.drew) ?_))
  refine m0c ?_
  refine tq 24 (V (some ⟨b1,0,none⟩)) rfl (by first|exact G|exact G.drew) (tk 25 (V (some ⟨b1,6*aN,none⟩)) rfl (qleb 23 (.tmp 117) (.tmp 114) rfl kr _ _ _ kr kr (fun w=>by have:=ix3 b1 0 aN HA9.out w;simpa using this)) (by first|exact G|exact G.drew) (tk 26 (V (some ⟨b1,6*aN+kN,none⟩)) rfl (qleb 22 (.tmp 118) (.tmp 115) rfl kr _ _ _ kr kr (fun w=>ix6 b1 (6*aN) kN HK6.out w)) (by first|exact G|exact G.drew) ?_))
  refine m1r ?_;(refine tk 30 (I Z (sN:Int)) rfl (Or.inl ⟨by kernel_rfl,by intro w hS;have hc:=((hS.bd.row 2 rfl).cell 1).trans (show(mc (p,(sN:Int),i,(aN:Int),q))[1]?=some (I Z (sN:Int)) from rfl);go_simp⟩) (by first|exact G|exact G.drew) (tk 31 (.bool true) rfl (qrk 3 (.tmp 121) (.tmp 123) _ _ _ rfl kr kr kr C4.out) (by first|exact G|exact G.drew) (tk 32 (.bool true) rfl (qkib (.tmp 112) (.const (.bool true)) (.tmp 124) _ rfl kr kr kr) (by first|exact G|exact G.drew) ?_)))
  exact sZbd86
end Go.Proofs.Ytbboabfmoahipaa
