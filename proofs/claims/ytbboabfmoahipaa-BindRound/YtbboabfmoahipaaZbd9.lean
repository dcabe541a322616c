/-
  Of what a law stands on.
-/
import Derived.Test.YtbboabfmoahipaaZbd8
set_option linter.unusedSimpArgs false
set_option linter.unusedVariables false
namespace Go.Proofs.Ytbboabfmoahipaa
open Go.Value renaming int → I,pointer → V
open Go.IntKind renaming i64 → Z
open _root_.Go.Proofs.Try Go.ChangeShapes Go.WideShapes Go.ChangeAt Go.RowKit
set_option maxHeartbeats 16000000
set_option maxRecDepth 100000
variable {p:Prop}{b:Nat}{t:TypeId}{cs:Array Value}{m:Mp}
section
open Go.Maps
theorem sZbd92(h:p:=by
 refine m2c ?_
 go_wp2
 go_ret
 first|exact⟨false,HNG.out,rfl,G.bd.base⟩|exact⟨false,HNG.out,rfl,G.drew.bd.base⟩):p:=h
theorem sZbd91(h:p:=by
 simp only[ZZ];refine tq 10 (.bool true) rfl (by first|exact G|exact G.drew) (tk 11 undef rfl (Or.inr ⟨by kernel_rfl,rfl⟩) (by first|exact G|exact G.drew) (tk 12 undef rfl (Or.inr ⟨by kernel_rfl,rfl⟩) (by first|exact G|exact G.drew) ?_));simp only[ZZ];refine tk 13 undef rfl (Or.inr ⟨by kernel_rfl,rfl⟩) (by first|exact G|exact G.drew) (tk 14 undef rfl (Or.inr ⟨by kernel_rfl,rfl⟩) (by first|exact G|exact G.drew) (tk 15 undef rfl (Or.inr ⟨by kernel_rfl,rfl⟩) (by first|exact G|exact G.drew) ?_));simp only[ZZ];refine tk 16 undef rfl (Or.inr ⟨by kernel_rfl,rfl⟩) (by first|exact G|exact G.drew) (tk 17 undef rfl (Or.inr ⟨by kernel_rfl,rfl⟩) (by first|exact G|exact G.drew) (tk 18 undef rfl (Or.inr ⟨by kernel_rfl,rfl⟩) (by first|exact G|exact G.drew) ?_));simp only[ZZ];refine tk 19 undef rfl (Or.inr ⟨by kernel_rfl,rfl⟩) (by first|exact G|exact G.drew) (tk 20 undef rfl (Or.inr ⟨by kernel_rfl,rfl⟩) (by first|exact G|exact G.drew) (tk 21 (.bool true) rfl (q10 (.tmp 190) (.const (.bool true)) (.tmp 200) _ rfl kr kr kr) (by first|exact G|exact G.drew) ?_))
 exact sZbd92):p:=h
theorem sZbd93(h:p:=by
 go_roundw
 case rel=>first|exact⟨k+1,hk6,qj2b k,HD2,_,HNH3,G'⟩|exact⟨k+1,hk6,qj0b hkw,HD2,_,HNH3,G'⟩
 case measure=>(first|rw[hkw]|skip);exact HME.out):p:=h
theorem sZbd94(h:p:=by
 go_ret
 exact⟨false,HNG.out,rfl,G.bd.base⟩):p:=h
theorem qyhb(f:Nat->Int)(g:Nat->Bool)(h:Nat->Int)(sl:Value)(ms:List Mp)(hwH:wfH h)(w:World)(hM:qaz w sl ms):
  Calls prog 17 #[.agg (tc f g h sl)] w fun e w'=>∃r:Bool,(r=true↔qbq f h ms)/\e=.returned (.bool r)/\Below w.heap.size w w':=by
 have G:=Gm.start (Bd.start w);have hM0:=hM
 obtain⟨a0,cap,hsl,-⟩:=hM0
 obtain⟨n,hn⟩:∃n,n=ms.length:=⟨_,rfl⟩
 rw[←hn] at hsl
 subst hsl
 have HN:Hid (n=ms.length):=hn;clear hn;(have CG:=fun w=>qlyb f g w)
 unfold plv at CG
 by_cases hgp:qcv f=true
 rotate_left
 ·(have hg0:qcv f=false:=by simpa using hgp);(have HNG:Hid (false=true↔qbq f h ms):=hidB ⟨fun e=>(by cases e),fun G=>(hgp G.pool).elim⟩)
  rw[hg0] at CG
  clear hgp hg0
  go_enter func17,ntmps17
  go_wp2_with (first|((with_reducible refine gB 30 0 ?_);refine m0v ?_;intro b1 w9 l9 R9 h9;replace G:=G.alloc l9 R9 h9;clear R9 h9 l9)|((with_reducible refine gL 26 19 ?_);refine m1u ?_)|(go_at_call 37;refine(CG _).mono ?_;rintro e w5 ⟨rfl,hb5⟩;replace G:=G.below hb5;clear hb5))
  exact sZbd94
 ·rw[hgp] at CG
  have HGP:Hid (qcv f=true):=hgp
  go_enter func17,ntmps17
  go_wp2_with (first|((with_reducible refine gB 30 0 ?_);refine m0v ?_;intro b1 w9 l9 R9 h9;replace G:=G.alloc l9 R9 h9;clear R9 h9 l9)|((with_reducible refine gL 26 19 ?_);refine m1u ?_)|(go_at_call 37;refine(CG _).mono ?_;rintro e w5 ⟨rfl,hb5⟩;replace G:=G.below hb5;clear hb5)|((with_reducible refine qaa (.makeMap 70 none) rfl ?_);refine qlbb 70 rfl rfl ?_;intro b3 hb9;have G9:=G.newB 76 k3 ok3;rw[←hb9] at G9;clear G hb9;have G:=G9;clear G9)|((with_reducible refine qaa (.makeMap 71 none) rfl ?_);refine qlbb 71 rfl rfl ?_;intro b4 hb9;have G9:=G.newB 78 k3 ok3;rw[←hb9] at G9;clear G hb9;have G:=G9;clear G9)|((with_reducible refine qaa (.makeMap 72 none) rfl ?_);refine qlbb 72 rfl rfl ?_;intro b5 hb9;have G9:=G.newI 79 k2 ok2;rw[←hb9] at G9;clear G hb9;have G:=G9;clear G9)|((with_reducible refine qaa (.makeMap 73 none) rfl ?_);refine qlbb 73 rfl rfl ?_;intro b6 hb9;have G9:=G.newI 3 k1v wf6;rw[←hb9] at G9;clear G hb9;have G:=G9;clear G9;have cM:World.cell? _ ⟨b1,29,none⟩=some (.slice a0 n cap):=((G.bd.row 0 rfl).cell 29).trans (qdw _ _ _ _)))
  clear cM
  refine wp_loop (WG w f g h ms b1 b3 b4 b5 b6 a0 n cap) (WGmu n) ?_ ?_
  ·unfold WG
   (repeat apply Exists.intro)
   refine⟨?_,rfl⟩
   exact⟨0,Nat.zero_le _,rfl,qvg f h,0,0,0,0,⟨by omega,by omega,by omega,by omega⟩,G⟩
  ·clear G;intro a W hI
   unfold WG at hI
   obtain⟨u2,hI⟩:=hI;obtain⟨u7,hI⟩:=hI;obtain⟨u8,hI⟩:=hI;obtain⟨u9,hI⟩:=hI;obtain⟨u10,hI⟩:=hI;obtain⟨u11,hI⟩:=hI;obtain⟨u12,hI⟩:=hI;obtain⟨u13,hI⟩:=hI;obtain⟨u14,hI⟩:=hI;obtain⟨u15,hI⟩:=hI;obtain⟨u16,hI⟩:=hI;obtain⟨u17,hI⟩:=hI;obtain⟨u18,hI⟩:=hI;obtain⟨u19,hI⟩:=hI;obtain⟨u20,hI⟩:=hI;obtain⟨u21,hI⟩:=hI;obtain⟨u22,hI⟩:=hI;obtain⟨u23,hI⟩:=hI;obtain⟨u24,hI⟩:=hI;obtain⟨u25,hI⟩:=hI;obtain⟨u26,hI⟩:=hI;obtain⟨u27,hI⟩:=hI;obtain⟨u30,hI⟩:=hI;obtain⟨u31,hI⟩:=hI;obtain⟨u32,hI⟩:=hI;obtain⟨u33,hI⟩:=hI;obtain⟨u34,hI⟩:=hI;obtain⟨u35,hI⟩:=hI;obtain⟨u36,hI⟩:=hI;obtain⟨u37,hI⟩:=hI;obtain⟨u38,hI⟩:=hI;obtain⟨u39,hI⟩:=hI;obtain⟨u40,hI⟩:=hI;obtain⟨u41,hI⟩:=hI;obtain⟨u42,hI⟩:=hI;obtain⟨u43,hI⟩:=hI;obtain⟨u44,hI⟩:=hI;obtain⟨u45,hI⟩:=hI;obtain⟨u46,hI⟩:=hI;obtain⟨u47,hI⟩:=hI;obtain⟨u48,hI⟩:=hI;obtain⟨u49,hI⟩:=hI;obtain⟨u50,hI⟩:=hI;obtain⟨u51,hI⟩:=hI;obtain⟨u52,hI⟩:=hI;obtain⟨u53,hI⟩:=hI;obtain⟨u54,hI⟩:=hI;obtain⟨u55,hI⟩:=hI;obtain⟨u56,hI⟩:=hI;obtain⟨u57,hI⟩:=hI;obtain⟨u58,hI⟩:=hI;obtain⟨u59,hI⟩:=hI;obtain⟨u60,hI⟩:=hI;obtain⟨u61,hI⟩:=hI;obtain⟨u62,hI⟩:=hI;obtain⟨u63,hI⟩:=hI;obtain⟨u64,hI⟩:=hI;obtain⟨u65,hI⟩:=hI;obtain⟨u66,hI⟩:=hI;obtain⟨u67,hI⟩:=hI;obtain⟨u68,hI⟩:=hI;obtain⟨u69,hI⟩:=hI;obtain⟨u70,hI⟩:=hI;obtain⟨u71,hI⟩:=hI;obtain⟨u72,hI⟩:=hI;obtain⟨u73,hI⟩:=hI;obtain⟨u74,hI⟩:=hI;obtain⟨u75,hI⟩:=hI;obtain⟨u76,hI⟩:=hI;obtain⟨u77,hI⟩:=hI;obtain⟨u78,hI⟩:=hI;obtain⟨u79,hI⟩:=hI;obtain⟨u80,hI⟩:=hI;obtain⟨u81,hI⟩:=hI;obtain⟨u82,hI⟩:=hI;obtain⟨u83,hI⟩:=hI;obtain⟨u84,hI⟩:=hI;obtain⟨u85,hI⟩:=hI;obtain⟨u86,hI⟩:=hI;obtain⟨u87,hI⟩:=hI;obtain⟨u88,hI⟩:=hI;obtain⟨u89,hI⟩:=hI;obtain⟨u90,hI⟩:=hI;obtain⟨u91,hI⟩:=hI;obtain⟨u92,hI⟩:=hI;obtain⟨u93,hI⟩:=hI;obtain⟨u94,hI⟩:=hI;obtain⟨u95,hI⟩:=hI;obtain⟨u96,hI⟩:=hI;obtain⟨u97,hI⟩:=hI;obtain⟨u98,hI⟩:=hI;obtain⟨u99,hI⟩:=hI;obtain⟨u100,hI⟩:=hI;obtain⟨u101,hI⟩:=hI;obtain⟨u102,hI⟩:=hI;obtain⟨u103,hI⟩:=hI;obtain⟨u104,hI⟩:=hI;obtain⟨u105,hI⟩:=hI;obtain⟨u106,hI⟩:=hI;obtain⟨u107,hI⟩:=hI;obtain⟨u108,hI⟩:=hI;obtain⟨u109,hI⟩:=hI;obtain⟨u110,hI⟩:=hI;obtain⟨u111,hI⟩:=hI;obtain⟨u112,hI⟩:=hI;obtain⟨u113,hI⟩:=hI;obtain⟨u114,hI⟩:=hI;obtain⟨u115,hI⟩:=hI;obtain⟨u116,hI⟩:=hI;obtain⟨u117,hI⟩:=hI;obtain⟨u118,hI⟩:=hI;obtain⟨u119,hI⟩:=hI;obtain⟨u120,hI⟩:=hI;obtain⟨u121,hI⟩:=hI;obtain⟨u122,hI⟩:=hI;obtain⟨u123,hI⟩:=hI;obtain⟨u124,hI⟩:=hI;obtain⟨u125,hI⟩:=hI;obtain⟨u126,hI⟩:=hI;obtain⟨u127,hI⟩:=hI;obtain⟨u128,hI⟩:=hI;obtain⟨u129,hI⟩:=hI;obtain⟨u130,hI⟩:=hI;obtain⟨u131,hI⟩:=hI;obtain⟨u132,hI⟩:=hI;obtain⟨u133,hI⟩:=hI;obtain⟨u134,hI⟩:=hI;obtain⟨u135,hI⟩:=hI;obtain⟨u136,hI⟩:=hI;obtain⟨u137,hI⟩:=hI;obtain⟨u138,hI⟩:=hI;obtain⟨u139,hI⟩:=hI;obtain⟨u140,hI⟩:=hI;obtain⟨u141,hI⟩:=hI;obtain⟨u142,hI⟩:=hI;obtain⟨u143,hI⟩:=hI;obtain⟨u144,hI⟩:=hI;obtain⟨u145,hI⟩:=hI;obtain⟨u146,hI⟩:=hI;obtain⟨u147,hI⟩:=hI;obtain⟨u148,hI⟩:=hI;obtain⟨u149,hI⟩:=hI;obtain⟨u150,hI⟩:=hI;obtain⟨u151,hI⟩:=hI;obtain⟨u152,hI⟩:=hI;obtain⟨u153,hI⟩:=hI;obtain⟨u154,hI⟩:=hI;obtain⟨u155,hI⟩:=hI;obtain⟨u156,hI⟩:=hI;obtain⟨u157,hI⟩:=hI;obtain⟨u158,hI⟩:=hI;obtain⟨u159,hI⟩:=hI;obtain⟨u160,hI⟩:=hI;obtain⟨u161,hI⟩:=hI;obtain⟨u162,hI⟩:=hI;obtain⟨u163,hI⟩:=hI;obtain⟨u164,hI⟩:=hI;obtain⟨u165,hI⟩:=hI;obtain⟨u166,hI⟩:=hI;obtain⟨u167,hI⟩:=hI;obtain⟨u168,hI⟩:=hI;obtain⟨u169,hI⟩:=hI;obtain⟨u170,hI⟩:=hI;obtain⟨u171,hI⟩:=hI;obtain⟨u172,hI⟩:=hI;obtain⟨u173,hI⟩:=hI;obtain⟨u174,hI⟩:=hI;obtain⟨u175,hI⟩:=hI;obtain⟨u176,hI⟩:=hI;obtain⟨u177,hI⟩:=hI;obtain⟨u178,hI⟩:=hI;obtain⟨u179,hI⟩:=hI;obtain⟨u180,hI⟩:=hI;obtain⟨u181,hI⟩:=hI;obtain⟨u182,hI⟩:=hI;obtain⟨u183,hI⟩:=hI;obtain⟨u184,hI⟩:=hI;obtain⟨u185,hI⟩:=hI;obtain⟨u186,hI⟩:=hI;obtain⟨u187,hI⟩:=hI;obtain⟨u188,hI⟩:=hI;obtain⟨u189,hI⟩:=hI;obtain⟨u190,hI⟩:=hI;obtain⟨u191,hI⟩:=hI;obtain⟨u192,hI⟩:=hI;obtain⟨u193,hI⟩:=hI;obtain⟨u194,hI⟩:=hI;obtain⟨u195,hI⟩:=hI;obtain⟨u196,hI⟩:=hI;obtain⟨u197,hI⟩:=hI;obtain⟨u198,hI⟩:=hI;obtain⟨u199,hI⟩:=hI;obtain⟨u200,hI⟩:=hI;obtain⟨u201,hI⟩:=hI;obtain⟨u202,hI⟩:=hI
   obtain⟨hrel,rfl⟩:=hI
   obtain⟨j,hj,rfl,HK,n6,n5,n4,n3,HNs,G⟩:=hrel
   by_cases hlj:j<ms.length
   ·obtain⟨m,hm⟩:∃m,ms[j]=m:=⟨_,rfl⟩
    by_cases hok:OkM m
    ·cases e3:sOut (ms.take j) (m.1,m.2.2.2.1,m.2.2.2.2) with
     | true=>exact qz4b u2 u7 u8 u9 u10 u11 u12 u13 u14 u15 u16 u17 u18 u19 u20 u21 u22 u23 u24 u25 u26 u27 u31 u32 u33 u34 u35 u36 u37 u38 u39 u40 u41 u42 u43 u44 u45 u46 u47 u48 u49 u50 u51 u52 u53 u54 u55 u56 u57 u58 u59 u60 u61 u62 u63 u64 u65 u66 u67 u68 u69 u70 u71 u72 u73 u74 u75 u76 u77 u78 u79 u80 u81 u82 u83 u84 u85 u86 u87 u88 u89 u90 u91 u92 u93 u94 u95 u96 u97 u98 u99 u100 u101 u102 u103 u104 u105 u106 u107 u108 u109 u110 u111 u112 u113 u114 u115 u116 u117 u118 u119 u120 u121 u122 u123 u124 u125 u126 u127 u128 u129 u130 u131 u132 u133 u134 u135 u136 u137 u138 u139 u140 u141 u142 u143 u144 u145 u146 u147 u148 u149 u150 u151 u152 u153 u154 u155 u156 u157 u158 u159 u160 u161 u162 u163 u164 u165 u166 u167 u168 u169 u170 u171 u172 u173 u174 u175 u176 u177 u178 u179 u180 u181 u182 u183 u184 u185 u186 u187 u188 u189 u190 u191 u192 u193 u194 u195 u196 u197 u198 u199 u200 u201 u202 j HNs G HK HN hM hwH hgp hlj m hm hok e3 _ (fun a w' h=>h)
     | false=>
      cases e4:sIn (ms.take j) (m.1,m.2.1,m.2.2.1) with
      | true=>exact qz3b u2 u7 u8 u9 u10 u11 u12 u13 u14 u15 u16 u17 u18 u19 u20 u21 u22 u23 u24 u25 u26 u27 u31 u32 u33 u34 u35 u36 u37 u38 u39 u40 u41 u42 u43 u44 u45 u46 u47 u48 u49 u50 u51 u52 u53 u54 u55 u56 u57 u58 u59 u60 u61 u62 u63 u64 u65 u66 u67 u68 u69 u70 u71 u72 u73 u74 u75 u76 u77 u78 u79 u80 u81 u82 u83 u84 u85 u86 u87 u88 u89 u90 u91 u92 u93 u94 u95 u96 u97 u98 u99 u100 u101 u102 u103 u104 u105 u106 u107 u108 u109 u110 u111 u112 u113 u114 u115 u116 u117 u118 u119 u120 u121 u122 u123 u124 u125 u126 u127 u128 u129 u130 u131 u132 u133 u134 u135 u136 u137 u138 u139 u140 u141 u142 u143 u144 u145 u146 u147 u148 u149 u150 u151 u152 u153 u154 u155 u156 u157 u158 u159 u160 u161 u162 u163 u164 u165 u166 u167 u168 u169 u170 u171 u172 u173 u174 u175 u176 u177 u178 u179 u180 u181 u182 u183 u184 u185 u186 u187 u188 u189 u190 u191 u192 u193 u194 u195 u196 u197 u198 u199 u200 u201 u202 j HNs G HK HN hM hwH hgp hlj m hm hok e3 e4 _ (fun a w' h=>h)
      | false=>
       by_cases e5:h m.2.1.toNat=m.2.2.2.1+1
       ·by_cases e6:f (qa7 m)=m.2.1+1
        ·exact qrob u2 u7 u8 u9 u10 u11 u12 u13 u14 u15 u16 u17 u18 u19 u20 u21 u22 u23 u24 u25 u26 u27 u31 u32 u33 u34 u35 u36 u37 u38 u39 u40 u41 u42 u43 u44 u45 u46 u47 u48 u49 u50 u51 u52 u53 u54 u55 u56 u57 u58 u59 u60 u61 u62 u63 u64 u65 u66 u67 u68 u69 u70 u71 u72 u73 u74 u75 u76 u77 u78 u79 u80 u81 u82 u83 u84 u85 u86 u87 u88 u89 u90 u91 u92 u93 u94 u95 u96 u97 u98 u99 u100 u101 u102 u103 u104 u105 u106 u107 u108 u109 u110 u111 u112 u113 u114 u115 u116 u117 u118 u119 u120 u121 u122 u123 u124 u125 u126 u127 u128 u129 u130 u131 u132 u133 u134 u135 u136 u137 u138 u139 u140 u141 u142 u143 u144 u145 u146 u147 u148 u149 u150 u151 u152 u153 u154 u155 u156 u157 u158 u159 u160 u161 u162 u163 u164 u165 u166 u167 u168 u169 u170 u171 u172 u173 u174 u175 u176 u177 u178 u179 u180 u181 u182 u183 u184 u185 u186 u187 u188 u189 u190 u191 u192 u193 u194 u195 u196 u197 u198 u199 u200 u201 u202 j HNs G HK HN hM hwH hgp hlj m hm hok e3 e4 e5 e6 _ (fun a w' h=>h)
        ·exact qz0b u2 u7 u8 u9 u10 u11 u12 u13 u14 u15 u16 u17 u18 u19 u20 u21 u22 u23 u24 u25 u26 u27 u31 u32 u33 u34 u35 u36 u37 u38 u39 u40 u41 u42 u43 u44 u45 u46 u47 u48 u49 u50 u51 u52 u53 u54 u55 u56 u57 u58 u59 u60 u61 u62 u63 u64 u65 u66 u67 u68 u69 u70 u71 u72 u73 u74 u75 u76 u77 u78 u79 u80 u81 u82 u83 u84 u85 u86 u87 u88 u89 u90 u91 u92 u93 u94 u95 u96 u97 u98 u99 u100 u101 u102 u103 u104 u105 u106 u107 u108 u109 u110 u111 u112 u113 u114 u115 u116 u117 u118 u119 u120 u121 u122 u123 u124 u125 u126 u127 u128 u129 u130 u131 u132 u133 u134 u135 u136 u137 u138 u139 u140 u141 u142 u143 u144 u145 u146 u147 u148 u149 u150 u151 u152 u153 u154 u155 u156 u157 u158 u159 u160 u161 u162 u163 u164 u165 u166 u167 u168 u169 u170 u171 u172 u173 u174 u175 u176 u177 u178 u179 u180 u181 u182 u183 u184 u185 u186 u187 u188 u189 u190 u191 u192 u193 u194 u195 u196 u197 u198 u199 u200 u201 u202 j HNs G HK HN hM hwH hgp hlj m hm hok e3 e4 e5 e6 _ (fun a w' h=>h)
       ·exact qzzb u2 u7 u8 u9 u10 u11 u12 u13 u14 u15 u16 u17 u18 u19 u20 u21 u22 u23 u24 u25 u26 u27 u31 u32 u33 u34 u35 u36 u37 u38 u39 u40 u41 u42 u43 u44 u45 u46 u47 u48 u49 u50 u51 u52 u53 u54 u55 u56 u57 u58 u59 u60 u61 u62 u63 u64 u65 u66 u67 u68 u69 u70 u71 u72 u73 u74 u75 u76 u77 u78 u79 u80 u81 u82 u83 u84 u85 u86 u87 u88 u89 u90 u91 u92 u93 u94 u95 u96 u97 u98 u99 u100 u101 u102 u103 u104 u105 u106 u107 u108 u109 u110 u111 u112 u113 u114 u115 u116 u117 u118 u119 u120 u121 u122 u123 u124 u125 u126 u127 u128 u129 u130 u131 u132 u133 u134 u135 u136 u137 u138 u139 u140 u141 u142 u143 u144 u145 u146 u147 u148 u149 u150 u151 u152 u153 u154 u155 u156 u157 u158 u159 u160 u161 u162 u163 u164 u165 u166 u167 u168 u169 u170 u171 u172 u173 u174 u175 u176 u177 u178 u179 u180 u181 u182 u183 u184 u185 u186 u187 u188 u189 u190 u191 u192 u193 u194 u195 u196 u197 u198 u199 u200 u201 u202 j HNs G HK HN hM hwH hgp hlj m hm hok e3 e4 e5 _ (fun a w' h=>h)
    ·exact qzjb u2 u7 u8 u9 u10 u11 u12 u13 u14 u15 u16 u17 u18 u19 u20 u21 u22 u23 u24 u25 u26 u27 u31 u32 u33 u34 u35 u36 u37 u38 u39 u40 u41 u42 u43 u44 u45 u46 u47 u48 u49 u50 u51 u52 u53 u54 u55 u56 u57 u58 u59 u60 u61 u62 u63 u64 u65 u66 u67 u68 u69 u70 u71 u72 u73 u74 u75 u76 u77 u78 u79 u80 u81 u82 u83 u84 u85 u86 u87 u88 u89 u90 u91 u92 u93 u94 u95 u96 u97 u98 u99 u100 u101 u102 u103 u104 u105 u106 u107 u108 u109 u110 u111 u112 u113 u114 u115 u116 u117 u118 u119 u120 u121 u122 u123 u124 u125 u126 u127 u128 u129 u130 u131 u132 u133 u134 u135 u136 u137 u138 u139 u140 u141 u142 u143 u144 u145 u146 u147 u148 u149 u150 u151 u152 u153 u154 u155 u156 u157 u158 u159 u160 u161 u162 u163 u164 u165 u166 u167 u168 u169 u170 u171 u172 u173 u174 u175 u176 u177 u178 u179 u180 u181 u182 u183 u184 u185 u186 u187 u188 u189 u190 u191 u192 u193 u194 u195 u196 u197 u198 u199 u200 u201 u202 j HNs G HK HN hM hwH hgp hlj m hm hok _ (fun a w' h=>h)
   ·(have hje:j=ms.length:=by omega);have HMS:Hid (MsOk f h ms):=hidB (by have:=HK.out;rw[hje,List.take_length] at this;exact this);(have hjn:¬(j:Int)<(n:Int):=by have:=HN.out;omega)
    rw[hje,List.take_length] at G
    clear hje hlj HK HNs hj
    go_wp2_with (first|((with_reducible refine qaa (.makeMap 73 none) rfl ?_);refine qlbb 73 rfl rfl ?_;intro b14 hb9;have G9:=G.newI 3 k1v wf6;rw[←hb9] at G9;clear G hb9;have G:=G9;clear G9))
    go_loopw [146] (fun v W=>∃a:Nat,a<=3/\v=I Z (a:Int)/\Hid (∀q,q<6*a->docB f ms q)/\∃nh:Nat,Hid (nh<=6*a)/\Gm w W [(b1,30,tc f g h (.slice a0 n cap))] [] (entI 3 k1v wf6 b14 nh (hadF f (6*a)) :: [entI 3 k1v wf6 b6 n6 (nOf ms),entI 79 k2 ok2 b5 n5 (nPl ms),entB 78 k3 ok3 b4 n4 (sIn ms),entB 76 k3 ok3 b3 n3 (sOut ms)])) (fun v _=>3-(intOf v).toNat)
    case atStart=>exact⟨0,by omega,rfl,hidB (fun q hq=>by omega),0,hidB om,G⟩
    case round=>
     clear G
     obtain⟨a,ha,rfl,HD,nh,HNH,G⟩:=hrel
     by_cases ha3:a<3
     ·(have hac:(a:Int)<3:=by omega);(have haw:wrap64 ((a:Int)+1)=(a:Int)+1:=by unfold wrap64;omega);have HMA:Hid (3-((a:Int)+1).toNat<3-((a:Int)).toNat):=hidB om
      go_wp2
      go_loopw [149] (fun v W=>∃k:Nat,k<=6/\v=I Z (k:Int)/\Hid (∀q,q<6*a+k->docB f ms q)/\∃nh:Nat,Hid (nh<=6*a+k)/\Gm w W [(b1,30,tc f g h (.slice a0 n cap))] [] (entI 3 k1v wf6 b14 nh (hadF f (6*a+k)) :: [entI 3 k1v wf6 b6 n6 (nOf ms),entI 79 k2 ok2 b5 n5 (nPl ms),entB 78 k3 ok3 b4 n4 (sIn ms),entB 76 k3 ok3 b3 n3 (sOut ms)])) (fun v _=>6-(intOf v).toNat)
      case atStart=>exact⟨0,by omega,rfl,HD,nh,HNH,G⟩
      case round=>
       clear G HNH nh
       obtain⟨k,hk,rfl,HDk,nh,HNH,G⟩:=hrel
       by_cases hk6:k<6
       ·refine m0y ?_;intro hkc hkw H18 hfb IA IB HTW hbt hdv HDB;(have HBD:Hid (¬(0<f (6*a+k)↔0<nPl ms ((a:Int),(k:Int)))->(false=true↔qbq f h ms)):=hidB (fun hn=>⟨fun e=>(by cases e),fun GG=>(hn (HDB.out.1 ((qmab.1 GG).2.2.1 _ H18.out))).elim⟩))
        have HDS:Hid ((0<f (6*a+k)↔0<nPl ms ((a:Int),(k:Int)))->∀q,q<6*a+(k+1)->docB f ms q):=hidB (fun hb q hq=>by
         by_cases e:q=6*a+k
         ·subst e;exact HDB.out.2 hb
         ·exact HDk.out q om)
        have HME:Hid (6-((k:Int)+1).toNat<6-((k:Int)).toNat):=hidB om
        by_cases o0:0<f (6*a+k)
        ·refine m1f ?_;intro g1 hw1 HOW hw2 HYH HBH HUP HNH3
         by_cases c0:0<nPl ms ((a:Int),(k:Int))
         ·(have g2:decide (0<nPl ms ((a:Int),(k:Int)))=true:=by simpa using c0);have HD2:Hid (∀q,q<6*a+(k+1)->docB f ms q):=hidB (HDS.out ⟨fun _=>c0,fun _=>o0⟩);clear c0 o0 hfb hdv
          go_wp2_with (first|((with_reducible refine gL 3 157 ?_);refine m1v ?_)|((with_reducible refine qaa (.lookup 72 (.tmp 168) (.tmp 171) false) rfl ?_);refine m0d ?_)|((with_reducible refine qaa (.lookup 73 (.tmp 161) (.tmp 163) false) rfl ?_);refine m17 ?_)|((with_reducible refine qaa (.mapUpdate 73 (.tmp 161) (.tmp 163) (.tmp 165)) rfl ?_);refine m0r ?_;clear G;intro w9 G))
          have G':Gm w _ [(b1,30,tc f g h (.slice a0 n cap))] [] (entI 3 k1v wf6 b14 (nh+1) (updX (hadF f (6*a+k)) (f (6*a+k)-1) (hadF f (6*a+k) (f (6*a+k)-1)+1)) :: [entI 3 k1v wf6 b6 n6 (nOf ms),entI 79 k2 ok2 b5 n5 (nPl ms),entB 78 k3 ok3 b4 n4 (sIn ms),entB 76 k3 ok3 b3 n3 (sOut ms)]):=G
          rw[HUP.out] at G'
          exact sZbd93
         ·(have g2:decide (0<nPl ms ((a:Int),(k:Int)))=false:=by simpa using c0);(have HNG:Hid (false=true↔qbq f h ms):=hidB (HBD.out (fun e=>c0 (e.1 o0))));clear c0 o0 hfb hdv
          go_wp2_with (first|((with_reducible refine gL 3 157 ?_);refine m1v ?_)|((with_reducible refine qaa (.lookup 72 (.tmp 168) (.tmp 171) false) rfl ?_);refine m0d ?_)|((with_reducible refine qaa (.lookup 73 (.tmp 161) (.tmp 163) false) rfl ?_);refine m17 ?_)|((with_reducible refine qaa (.mapUpdate 73 (.tmp 161) (.tmp 163) (.tmp 165)) rfl ?_);refine m0r ?_;clear G;intro w9 G))
          exact sZbd94
        ·refine m5o ?_;intro g1 HUP HNH3
         by_cases c0:0<nPl ms ((a:Int),(k:Int))
         ·(have g2:decide (0<nPl ms ((a:Int),(k:Int)))=true:=by simpa using c0);(have HNG:Hid (false=true↔qbq f h ms):=hidB (HBD.out (fun e=>o0 (e.2 c0))));clear c0 o0 hfb hdv
          go_wp2_with (first|((with_reducible refine gL 3 157 ?_);refine m1v ?_)|((with_reducible refine qaa (.lookup 72 (.tmp 168) (.tmp 171) false) rfl ?_);refine m0d ?_))
          exact sZbd94
         ·(have g2:decide (0<nPl ms ((a:Int),(k:Int)))=false:=by simpa using c0);(have HD2:Hid (∀q,q<6*a+(k+1)->docB f ms q):=hidB (HDS.out ⟨fun e=>(o0 e).elim,fun e=>(c0 e).elim⟩));clear c0 o0 hfb hdv
          go_wp2_with (first|((with_reducible refine gL 3 157 ?_);refine m1v ?_)|((with_reducible refine qaa (.lookup 72 (.tmp 168) (.tmp 171) false) rfl ?_);refine m0d ?_))
          have G':Gm w _ [(b1,30,tc f g h (.slice a0 n cap))] [] (entI 3 k1v wf6 b14 nh (hadF f (6*a+k)) :: [entI 3 k1v wf6 b6 n6 (nOf ms),entI 79 k2 ok2 b5 n5 (nPl ms),entB 78 k3 ok3 b4 n4 (sIn ms),entB 76 k3 ok3 b3 n3 (sOut ms)]):=G
          rw[←HUP.out] at G'
          exact sZbd93
       ·(have hk7:k=6:=by omega)
        subst hk7
        have HD2:Hid (∀q,q<6*(a+1)->docB f ms q):=hidB (fun q hq=>HDk.out q om);have HNH3:Hid (nh<=6*(a+1)):=hidB (by have:=HNH.out;omega)
        go_wp2
        go_roundw
        case rel=>first|exact⟨a+1,by omega,qj2b a,HD2,nh,HNH3,G⟩|exact⟨a+1,by omega,qj0b haw,HD2,nh,HNH3,G⟩
        case measure=>(first|rw[haw]|skip);exact HMA.out
     ·(have ha4:a=3:=by omega)
      subst ha4
      replace HD:Hid (∀q,q<18->docB f ms q):=HD
      go_wp2
      go_loopw [177] (fun v W=>∃s:Nat,s<=8/\v=I Z (s:Int)/\Hid (∀t,t<s->docH f h ms t)/\Gm w W [(b1,30,tc f g h (.slice a0 n cap))] [] (entI 3 k1v wf6 b14 nh (hadF f (18)) :: [entI 3 k1v wf6 b6 n6 (nOf ms),entI 79 k2 ok2 b5 n5 (nPl ms),entB 78 k3 ok3 b4 n4 (sIn ms),entB 76 k3 ok3 b3 n3 (sOut ms)])) (fun v _=>8-(intOf v).toNat)
      case atStart=>exact⟨0,by omega,rfl,hidB (fun t ht=>by omega),G⟩
      case round=>
       clear G
       obtain⟨s,hs,rfl,HS,G⟩:=hrel
       by_cases hs8:s<8
       ·(have hsc:(s:Int)<8:=by omega);(have hsw:wrap64 ((s:Int)+1)=(s:Int)+1:=by unfold wrap64;omega);have HS8:Hid (s<8):=hs8;have HSW:Hid (wf6 (s:Int)):=hidB (qkcb om);(have HNN:Hid (¬docH f h ms s->(false=true↔qbq f h ms)):=hidB (fun hn=>⟨fun e=>(by cases e),fun GG=>(hn ((qmab.1 GG).2.2.2 s hs8)).elim⟩));have HME:Hid (8-((s:Int)+1).toNat<8-((s:Int)).toNat):=hidB om
        obtain⟨e1,he1⟩:∃b,(h s==0)=b:=⟨_,rfl⟩
        obtain⟨e2,he2⟩:∃b,(hadF f 18 (s:Int)==0)=b:=⟨_,rfl⟩
        refine m5c ?_;intro E1 E2 H12;clear he1 he2
        by_cases c1:2<hadF f 18 (s:Int)
        ·have C1:Hid (decide (2<hadF f 18 (s:Int))=true):=hidB (by simpa using c1);have HNG:Hid (false=true↔qbq f h ms):=hidB (HNN.out (fun hd=>by have:=hd.1;omega));clear c1
         go_upto_region 36 with(fail)
         refine RD (fun W=>Gm w W [(b1,30,tc f g h (.slice a0 n cap))] [] (entI 3 k1v wf6 b14 nh (hadF f (18)) :: [entI 3 k1v wf6 b6 n6 (nOf ms),entI 79 k2 ok2 b5 n5 (nPl ms),entB 78 k3 ok3 b4 n4 (sIn ms),entB 76 k3 ok3 b3 n3 (sOut ms)])) (by first|exact G|exact G.drew) (fun _=>?_)
         refine tq 0 (.map (some b14)) rfl (by first|exact G|exact G.drew) (tq 1 (I Z (s:Int)) rfl (by first|exact G|exact G.drew) (tk 2 (I Z (hadF f 18 (s:Int))) rfl (qlcb 73 (.tmp 180) (.tmp 181) rfl kr (.map (some b14)) (k1v (s:Int)) _ kr kr (fun w h=>(MeI.look (h.ent 0 rfl) qlib underlying73 (s:Int) HSW.out).1)) (by first|exact G|exact G.drew) ?_))
         simp only[ZZ];refine tk 3 (.bool true) rfl (qmrb (.tmp 182) 2 rfl kr _ _ kr C1.out) (by first|exact G|exact G.drew) (tq 4 (.bool true) rfl (by first|exact G|exact G.drew) (tk 5 undef rfl (Or.inr ⟨by kernel_rfl,rfl⟩) (by first|exact G|exact G.drew) ?_));simp only[ZZ];refine tk 6 undef rfl (Or.inr ⟨by kernel_rfl,rfl⟩) (by first|exact G|exact G.drew) (tk 7 undef rfl (Or.inr ⟨by kernel_rfl,rfl⟩) (by first|exact G|exact G.drew) (tk 8 undef rfl (Or.inr ⟨by kernel_rfl,rfl⟩) (by first|exact G|exact G.drew) ?_));simp only[ZZ];refine tk 9 (.bool true) rfl (q10 (.tmp 184) (.const (.bool true)) (.tmp 188) _ rfl kr kr kr) (by first|exact G|exact G.drew) ?_
         exact sZbd91
        ·have C1:Hid (decide (2<hadF f 18 (s:Int))=false):=hidB (by simpa using c1)
         by_cases c2:12<nOf ms (s:Int)
         ·have C2:Hid (decide (12<nOf ms (s:Int))=true):=hidB (by simpa using c2);have HNG:Hid (false=true↔qbq f h ms):=hidB (HNN.out (fun hd=>by have:=hd.2.1;omega));clear c1 c2
          go_upto_region 36 with(fail)
          refine RD (fun W=>Gm w W [(b1,30,tc f g h (.slice a0 n cap))] [] (entI 3 k1v wf6 b14 nh (hadF f (18)) :: [entI 3 k1v wf6 b6 n6 (nOf ms),entI 79 k2 ok2 b5 n5 (nPl ms),entB 78 k3 ok3 b4 n4 (sIn ms),entB 76 k3 ok3 b3 n3 (sOut ms)])) (by first|exact G|exact G.drew) (fun _=>?_)
          refine tq 0 (.map (some b14)) rfl (by first|exact G|exact G.drew) (tq 1 (I Z (s:Int)) rfl (by first|exact G|exact G.drew) (tk 2 (I Z (hadF f 18 (s:Int))) rfl (qlcb 73 (.tmp 180) (.tmp 181) rfl kr (.map (some b14)) (k1v (s:Int)) _ kr kr (fun w h=>(MeI.look (h.ent 0 rfl) qlib underlying73 (s:Int) HSW.out).1)) (by first|exact G|exact G.drew) ?_))
          refine m0u ?_
          refine tq 6 (I Z (s:Int)) rfl (by first|exact G|exact G.drew) (tk 7 (I Z (nOf ms (s:Int))) rfl (qlcb 73 (.tmp 185) (.tmp 186) rfl kr (.map (some b6)) (k1v (s:Int)) _ kr kr (fun w h=>(MeI.look (h.ent 1 rfl) qlib underlying73 (s:Int) HSW.out).1)) (by first|exact G|exact G.drew) (tk 8 (.bool true) rfl (qmrb (.tmp 187) 12 rfl kr _ _ kr C2.out) (by first|exact G|exact G.drew) ?_))
          simp only[ZZ];refine tk 9 (.bool true) rfl (qkib (.tmp 184) (.const (.bool true)) (.tmp 188) _ rfl kr kr kr) (by first|exact G|exact G.drew) ?_
          exact sZbd91
         ·have C2:Hid (decide (12<nOf ms (s:Int))=false):=hidB (by simpa using c2)
          by_cases c3:e1=e2
          ·have C3:Hid ((e1 != e2)=false):=hidB (by simpa using c3)
           have HS2:Hid (∀t,t<s+1->docH f h ms t):=hidB (fun t ht=>by
            by_cases et:t=s
            ·subst et
             exact⟨by omega,by omega,by rw[←H12.out.1,←H12.out.2,c3]⟩
            ·exact HS.out t om)
           clear c1 c2 c3
           go_upto_region 36 with(fail)
           refine RD (fun W=>Gm w W [(b1,30,tc f g h (.slice a0 n cap))] [] (entI 3 k1v wf6 b14 nh (hadF f (18)) :: [entI 3 k1v wf6 b6 n6 (nOf ms),entI 79 k2 ok2 b5 n5 (nPl ms),entB 78 k3 ok3 b4 n4 (sIn ms),entB 76 k3 ok3 b3 n3 (sOut ms)])) (by first|exact G|exact G.drew) (fun _=>?_)
           refine tq 0 (.map (some b14)) rfl (by first|exact G|exact G.drew) (tq 1 (I Z (s:Int)) rfl (by first|exact G|exact G.drew) (tk 2 (I Z (hadF f 18 (s:Int))) rfl (qlcb 73 (.tmp 180) (.tmp 181) rfl kr (.map (some b14)) (k1v (s:Int)) _ kr kr (fun w h=>(MeI.look (h.ent 0 rfl) qlib underlying73 (s:Int) HSW.out).1)) (by first|exact G|exact G.drew) ?_))
           refine m0u ?_
           refine tq 6 (I Z (s:Int)) rfl (by first|exact G|exact G.drew) (tk 7 (I Z (nOf ms (s:Int))) rfl (qlcb 73 (.tmp 185) (.tmp 186) rfl kr (.map (some b6)) (k1v (s:Int)) _ kr kr (fun w h=>(MeI.look (h.ent 1 rfl) qlib underlying73 (s:Int) HSW.out).1)) (by first|exact G|exact G.drew) (tk 8 (.bool false) rfl (qmrb (.tmp 187) 12 rfl kr _ _ kr C2.out) (by first|exact G|exact G.drew) ?_))
           refine m16 ?_
           refine tq 12 (V (some ⟨b1,21,none⟩)) rfl (by first|exact G|exact G.drew) (tk 13 (V (some ⟨b1,21+s,none⟩)) rfl (qleb 27 (.tmp 192) (.tmp 191) rfl kr _ _ _ kr kr (fun w=>ix8 b1 21 s HS8.out w)) (by first|exact G|exact G.drew) (tk 14 (I Z (h s)) rfl (Or.inl ⟨by kernel_rfl,by intro w hS;have hc:=((hS.bd.row 0 rfl).cell (21+s)).trans (qhc _ _ _ _ s HS8.out);go_simp⟩) (by first|exact G|exact G.drew) ?_))
           refine m12 ?_
           refine tk 18 (I Z (hadF f 18 (s:Int))) rfl (qlcb 73 (.tmp 196) (.tmp 197) rfl kr (.map (some b14)) (k1v (s:Int)) _ kr kr (fun w h=>(MeI.look (h.ent 0 rfl) qlib underlying73 (s:Int) HSW.out).1)) (by first|exact G|exact G.drew) (tk 19 (.bool e2) rfl (qmnb 3 (.tmp 198) (.const (I Z 0)) _ _ _ rfl kr kr kr E2.out) (by first|exact G|exact G.drew) (tk 20 (.bool false) rfl (qolb (.tmp 195) (.tmp 199) _ _ _ rfl kr kr kr C3.out) (by first|exact G|exact G.drew) ?_))
           refine m55 ?_;refine m2c ?_;replace G:=G.drew
           go_wp2
           go_roundw
           case rel=>first|exact⟨s+1,HS8.out,qj2b s,HS2,G⟩|exact⟨s+1,HS8.out,qj0b hsw,HS2,G⟩
           case measure=>(first|rw[hsw]|skip);exact HME.out
          ·have C3:Hid ((e1 != e2)=true):=hidB (by simpa using c3)
           have HNG:Hid (false=true↔qbq f h ms):=hidB (HNN.out (fun hd=>c3 (by
            have h1:=H12.out.1;have h2:=H12.out.2;have h3:=hd.2.2
            cases e1<;>cases e2<;>simp_all)))
           clear c1 c2 c3
           go_upto_region 36 with(fail)
           refine RD (fun W=>Gm w W [(b1,30,tc f g h (.slice a0 n cap))] [] (entI 3 k1v wf6 b14 nh (hadF f (18)) :: [entI 3 k1v wf6 b6 n6 (nOf ms),entI 79 k2 ok2 b5 n5 (nPl ms),entB 78 k3 ok3 b4 n4 (sIn ms),entB 76 k3 ok3 b3 n3 (sOut ms)])) (by first|exact G|exact G.drew) (fun _=>?_)
           refine tq 0 (.map (some b14)) rfl (by first|exact G|exact G.drew) (tq 1 (I Z (s:Int)) rfl (by first|exact G|exact G.drew) (tk 2 (I Z (hadF f 18 (s:Int))) rfl (qlcb 73 (.tmp 180) (.tmp 181) rfl kr (.map (some b14)) (k1v (s:Int)) _ kr kr (fun w h=>(MeI.look (h.ent 0 rfl) qlib underlying73 (s:Int) HSW.out).1)) (by first|exact G|exact G.drew) ?_))
           refine m0u ?_
           refine tq 6 (I Z (s:Int)) rfl (by first|exact G|exact G.drew) (tk 7 (I Z (nOf ms (s:Int))) rfl (qlcb 73 (.tmp 185) (.tmp 186) rfl kr (.map (some b6)) (k1v (s:Int)) _ kr kr (fun w h=>(MeI.look (h.ent 1 rfl) qlib underlying73 (s:Int) HSW.out).1)) (by first|exact G|exact G.drew) (tk 8 (.bool false) rfl (qmrb (.tmp 187) 12 rfl kr _ _ kr C2.out) (by first|exact G|exact G.drew) ?_))
           refine m16 ?_
           refine tq 12 (V (some ⟨b1,21,none⟩)) rfl (by first|exact G|exact G.drew) (tk 13 (V (some ⟨b1,21+s,none⟩)) rfl (qleb 27 (.tmp 192) (.tmp 191) rfl kr _ _ _ kr kr (fun w=>ix8 b1 21 s HS8.out w)) (by first|exact G|exact G.drew) (tk 14 (I Z (h s)) rfl (Or.inl ⟨by kernel_rfl,by intro w hS;have hc:=((hS.bd.row 0 rfl).cell (21+s)).trans (qhc _ _ _ _ s HS8.out);go_simp⟩) (by first|exact G|exact G.drew) ?_))
           refine m12 ?_
           refine tk 18 (I Z (hadF f 18 (s:Int))) rfl (qlcb 73 (.tmp 196) (.tmp 197) rfl kr (.map (some b14)) (k1v (s:Int)) _ kr kr (fun w h=>(MeI.look (h.ent 0 rfl) qlib underlying73 (s:Int) HSW.out).1)) (by first|exact G|exact G.drew) (tk 19 (.bool e2) rfl (qmnb 3 (.tmp 198) (.const (I Z 0)) _ _ _ rfl kr kr kr E2.out) (by first|exact G|exact G.drew) (tk 20 (.bool true) rfl (qolb (.tmp 195) (.tmp 199) _ _ _ rfl kr kr kr C3.out) (by first|exact G|exact G.drew) ?_))
           simp only[ZZ];refine tk 21 (.bool true) rfl (qkib (.tmp 190) (.const (.bool true)) (.tmp 200) _ rfl kr kr kr) (by first|exact G|exact G.drew) ?_
           exact sZbd92
       ·(have hs9:s=8:=by omega)
        subst hs9
        have HYE:Hid (qbq f h ms):=hidB (qmab.2 ⟨HGP.out,HMS.out,HD.out,HS.out⟩)
        go_wp2
        go_ret
        first|exact⟨true,⟨fun _=>HYE.out,fun _=>rfl⟩,rfl,G.bd.base⟩|exact Or.inr ⟨HYE.out,rfl,G.bd.base⟩
theorem qyob(w:World):Calls prog 18 #[] w fun e w'=>e=.returned (.bool true)/\Below w.heap.size w w':=by
 refine m1g ?_;intro hB hP hok CO hG hwR q1 q2 q3
 unfold zr at q1 q2 q3
 generalize qbe (fun _=>0) (fun _=>false) (fun _=>0) [] 17 3 0=r at *
 obtain⟨rf,rh,rq,rt,re⟩:=r
 simp only at q1 q2 q3 CO hG hwR
 subst q1
 subst q2
 have HG:Hid (qbq rf rh ([]++[(17,3,99,rh (3:Int).toNat-1,1024)])):=hG
 unfold qpm at CO
 obtain⟨ra,hra⟩:∃ra,ra=rh (3:Int).toNat-1:=⟨_,rfl⟩
 rw[←hra] at CO HG
 clear hP hok hG hra
 go_enter func18,ntmps18
 go_wp2_with (first|(refine qytb rfl rfl ?_)|(go_at_call 19;go_fit (CO _);rintro e w5 ⟨v,rfl,hMv,hNv,hbv,hb5⟩;clear hNv hbv;refine m40 ?_;clear hB;intro hB;(obtain⟨av,cv,hv,-⟩:=id hMv);(generalize([]++[((17,3,99,ra,1024):Mp)]).length=ln at hv);subst hv;have hltv:=hMv.lt)|(refine ax 1 30 qb8 ?_;intro b1 w2 l1 R1 hb2;have hM2:=hMv.below hb2;have x1:=hMv.away l1;replace l1:=Nat.le_trans hB.size l1;replace hB:=hB.trans (hb2.mono hB.size))|(refine ax 2 32 qa4 ?_;intro b2 w3 l2 R2 hb3;have n12:=R1.ne l2;have x2:=hM2.away l2;replace hM2:=hM2.below hb3;replace l2:=Nat.le_trans hB.size l2;replace R1:=R1.below hb3;replace hB:=hB.trans (hb3.mono hB.size))|(refine qab 30 rfl (.tmp 1) _ rfl b1 rfl (tc rf (fun _=>false) rh (.slice av ln cv)) rfl _ R1 (qen _ _ _ _ _ _ _ _) (qaq _ _ _ _) (qbm _ _ _ _ _ _) ?_;intro w6 R1 t6;replace R2:=t6.row R2 n12.symm;replace hM2:=qmo hM2 x1 t6;replace hB:=t6.below _ _ l1 hB)|(refine m3h ?_;clear R1 hM2 hB;intro w7 R2 t7 R1 hM2 hB c2 c1)|(refine qac 30 (.tmp 1) rfl ?_ b1 rfl (tc rf (fun _=>false) rh (.slice av ln cv)) R1 _ underlying30 rfl (qaq _ _ _ _) ?_;· rfl)|(go_at_call 16;go_fit (qf8 rf (fun _=>false) rh (.slice av ln cv) _ hwR _ hM2);rintro e w8 ⟨r,hr,rfl,hb8⟩;obtain rfl:r=true:=hr.2 HG.out;clear hr;replace hB:=hB.trans (hb8.mono hB.size)))
 go_ret
 exact⟨rfl,hB⟩
end
theorem qzeb(f:Nat->Int)(g:Nat->Bool)(h:Nat->Int)(sl:Value)(ms:List Mp)(m:Mp)(hwH:wfH h)(hG:¬qbq f h ms)(w:World)(hM:qaz w sl ms):
  Calls prog 22 #[.agg (tc f g h sl),.agg (mc m)] w fun e w'=>e=.returned (.tuple #[.agg (tc f g h sl),.bool false,I Z 2])/\Below w.heap.size w w':=by
 have B:=Bd.start w;have hM0:=hM
 obtain⟨a0,cap,hsl,-⟩:=hM0
 obtain⟨n,hn⟩:∃n,n=ms.length:=⟨_,rfl⟩
 have HN:Hid (n=ms.length):=hn
 rw[←hn] at hsl
 subst hsl
 clear hn;have hlt:=hM.lt;have HG:Hid (¬qbq f h ms):=hG;(have CG:=fun w hM=>qf8 f g h (.slice a0 n cap) ms hwH w hM);clear hG
 go_enter func22,ntmps22
 go_wp2_with (first|((with_reducible refine gB 30 0 ?_);refine m0v ?_;refine m3x ?_;clear B;intro b2 w9 B)|((with_reducible refine gB 32 1 ?_);refine m2z ?_;clear B;intro b3 w9 B)|((with_reducible refine gA 30 ?_);refine m4t ?_;clear B;intro b4 w9 B)|((with_reducible refine gL 30 2 ?_);refine m3l ?_)|(go_at_call 16;refine m3k ?_;rintro e w5 ⟨r,hr,rfl,hb5⟩;obtain rfl:r=false:=(by cases r with|false=>rfl|true=>exact absurd (hr.1 rfl) HG.out);clear hr;replace B:=B.below hb5;clear hb5)|((with_reducible refine gS 30 4 14 ?_);refine m2i ?_;refine m09 ?_;clear B;intro w9 B))
 (refine m06 ?_;refine bodyPost_ret (qlv (p:=4) (u:=5) (v:=6) rfl _ _ _ _ rfl (B.row 0 rfl) _ underlying30 rfl (qaq _ _ _ _)) rfl ⟨rfl,B.base⟩)
theorem qy8b(f:Nat->Int)(g:Nat->Bool)(h:Nat->Int)(sl:Value)(ms:List Mp)(m:Mp)(hwH:wfH h)(hG:qbq f h ms)(hm:m ∉ ms)(w:World)(hM:qaz w sl ms):
  Calls prog 22 #[.agg (tc f g h sl),.agg (mc m)] w fun e w'=>e=.returned (.tuple #[.agg (tc f g h sl),.bool false,I Z 7])/\Below w.heap.size w w':=by
 have B:=Bd.start w;have hM0:=hM
 obtain⟨a0,cap,hsl,-⟩:=hM0
 obtain⟨n,hn⟩:∃n,n=ms.length:=⟨_,rfl⟩
 have HN:Hid (n=ms.length):=hn
 rw[←hn] at hsl
 subst hsl
 clear hn;have hlt:=hM.lt;have HG:Hid (qbq f h ms):=hG;have HD:Hid (qa6 ms m=ms):=hidB (List.Sublist.eq_of_length List.filter_sublist (q3n.2 hm));(have CG:=fun w hM=>qf8 f g h (.slice a0 n cap) ms hwH w hM);(have CW:=fun w hM=>qmn (.slice a0 n cap) ms m w hM (Nat.le_trans hG.len (by decide)));clear hG hm
 go_enter func22,ntmps22
 go_wp2_with (first|((with_reducible refine gB 30 0 ?_);refine m0v ?_;refine m3x ?_;clear B;intro b2 w9 B)|((with_reducible refine gB 32 1 ?_);refine m2z ?_;clear B;intro b3 w9 B)|((with_reducible refine gA 30 ?_);refine m4t ?_;clear B;intro b4 w9 B)|((with_reducible refine gL 30 2 ?_);refine m3l ?_)|(go_at_call 16;refine m3k ?_;rintro e w5 ⟨r,hr,rfl,hb5⟩;obtain rfl:r=true:=(hr.2 HG.out);clear hr;replace B:=B.below hb5;clear hb5;have cM:World.cell? _ ⟨b2,29,none⟩=some (.slice a0 n cap):=((B.row 2 rfl).cell 29).trans (qdw _ _ _ _))|((with_reducible refine gL 32 3 ?_);refine lx 32 (.tmp 3) (mc m) (B.row 1 rfl) ?_)|(go_at_call 47;go_fit (CW _ (hM.keep B.base hlt));rintro e w6 ⟨v,rfl,hMv,hNv,hbv,hb6⟩;clear cM hNv;replace B:=B.addNew hb6 hMv hbv;clear hbv hb6;(obtain⟨av,cv,hv,-⟩:=id hMv);clear hMv;rw[HD.out,←HN.out] at hv;subst hv;have cM:World.cell? _ ⟨b2,29,none⟩=some (.slice a0 n cap):=((B.row 2 rfl).cell 29).trans (qdw _ _ _ _))|((with_reducible refine gS 30 4 25 ?_);refine m2i ?_;refine m09 ?_;clear B;intro w9 B))
 (refine m06 ?_;refine bodyPost_ret (qlv (p:=4) (u:=5) (v:=6) rfl _ _ _ _ rfl (B.row 0 rfl) _ underlying30 rfl (qaq _ _ _ _)) rfl ⟨rfl,B.base⟩)
structure Bo(w W:World)(L:List (Nat×TypeId×Array Value))(v:Value)(D:List Mp):Prop where
 bd:Bd w W L []
 own:W.ownsRow w.heap.size 32 5 v D.length (flat D)
 off:∀b∈L.map (·.1),v.ownBlock≠some b
section
variable {w W W':World} {L:List (Nat×TypeId×Array Value)} {v:Value} {D:List Mp}
theorem Bo.row(h:Bo w W L v D)(i:Nat)(hi:L[i]?=some (b,t,cs)):Row t W b cs:=h.bd.row i hi
theorem Bo.base(h:Bo w W L v D):Below w.heap.size w W:=h.bd.base
theorem Bd.bo(h:Bd w W L []):Bo w W L (.slice none 0 0) []:=⟨h,by simpa[flat] using World.ownsRow_nil _ _ _ _,fun b _=>by simp[Value.ownBlock]⟩
theorem Bo.below(h:Bo w W L v D)(hb:Below W.heap.size W W'):Bo w W' L v D:=⟨h.bd.below hb,qrb h.own hb,h.off⟩
theorem Bo.alloc(h:Bo w W L v D)(hl:W.heap.size<=b)(R:Row t W' b cs)(hb:Below W.heap.size W W'):Bo w W' ((b,t,cs)::L) v D:=
 ⟨h.bd.alloc hl R hb,qrb h.own hb,fun c hc=>by
  rw[List.map_cons] at hc
  rcases List.mem_cons.1 hc with rfl|hc
  ·exact qs6 h.own hl
  ·exact h.off c hc⟩
theorem Bo.turn(h:Bo w W L v D)(i:Nat){cs':Array Value}(hi:L[i]?=some (b,t,cs))(R:Row t W' b cs')(T:qbl b W W'):Bo w W' (L.set i (b,t,cs')) v D:=by
 have hb:b∈L.map (·.1):=List.mem_map.2 ⟨_,List.mem_of_getElem? hi,rfl⟩
 refine⟨h.bd.turn i hi R T,qpt h.own T (h.off b hb),fun c hc=>?_⟩
 rw[List.map_set] at hc
 rcases List.mem_or_eq_of_mem_set hc with hc|rfl
 ·exact h.off c hc
 ·exact h.off _ hb
theorem Bo.tail{y:Nat×TypeId×Array Value}(h:Bo w W (y::L) v D):Bo w W L v D:=
 ⟨⟨(List.nodup_cons.1 (by simpa using h.bd.nodup)).2,fun z hz=>h.bd.rows z (List.mem_cons_of_mem _ hz),by simp,h.bd.base⟩,h.own,fun b hb=>h.off b (by rw[List.map_cons];exact List.mem_cons_of_mem _ hb)⟩
theorem Bo.push(h:Bo w W L v D){ob:Obj}{v4:Value}{w8:World}(h4:w8.ownsRow w.heap.size 32 5 v4 (D.length+1) (flat D++mcl m))(hg:(W.alloc ob).grownBy w8 v.ownBlock)(hloc:v4.ownBlock=v.ownBlock\/v4.ownBlock=some (W.alloc ob).heap.size):Bo w w8 L v4 (D++[m]):=by
 (have hsz:w.heap.size<=(W.alloc ob).heap.size:=by have:=h.base.size;simp;omega)
 refine⟨⟨h.bd.nodup,fun y hy=>⟨q0k ((h.bd.rows y hy).1.alloc ob) (h.off _ (List.mem_map.2 ⟨y,hy,rfl⟩)) hg,(h.bd.rows y hy).2⟩,by simp,qhq (h.own.alloc _) (h.base.alloc h.base.size _) hsz hg⟩,?_,fun b hb=>?_⟩
 ·rw[List.length_append,qvh];simpa[flat] using h4
 ·rcases hloc with e|e
  ·rw[e];exact h.off b hb
  ·rw[e];intro e2;have h1:=h.bd.lt hb;have h2:=Option.some.inj e2;simp at h2;omega
end
def qegb(l:List Mp)(m:Mp)(kb:Int):Nat:=(l.filter fun o=>o.2.2.2.1==m.2.2.2.1&&blkQ o.2.2.2.2==kb).length
theorem ql4b(l:List Mp)(m o:Mp)(kb:Int):qegb (l++[o]) m kb=qegb l m kb+if (o.2.2.2.1==m.2.2.2.1&&blkQ o.2.2.2.2==kb)=true then 1 else 0:=by
 unfold qegb;rw[List.filter_append,List.length_append]
 cases hq:(o.2.2.2.1==m.2.2.2.1&&blkQ o.2.2.2.2==kb)<;>simp[hq]
theorem qqcb(l:List Mp)(m:Mp)(kb:Int):qegb l m kb<=l.length:=List.length_filter_le _ _
theorem qpub{ms:List Mp}{j:Nat}{o:Mp}(hlj:j<ms.length)(hm:ms[j]=o):decide (m∈ms.take (j+1))=(decide (m∈ms.take j)||decide (o=m)):=by
 rw[qic hlj hm];simp[eq_comm]
theorem qy0b(f:Nat->Int)(g:Nat->Bool)(h:Nat->Int)(sl:Value)(ms:List Mp)(m:Mp)(CG:∀w,qaz w sl ms->Calls prog 17 #[.agg (tc f g h sl)] w fun e w'=>∃r:Bool,(r=true↔qbq f h ms)/\e=.returned (.bool r)/\Below w.heap.size w w')(hG:¬qbq f h ms)(w:World)(hM:qaz w sl ms):
  Calls prog 23 #[.agg (tc f g h sl),.agg (mc m)] w fun e w'=>e=.returned (.tuple #[.agg (tc f g h sl),.bool false,I Z 2])/\Below w.heap.size w w':=by
 have B:=Bd.start w;have hM0:=hM
 obtain⟨a0,cap,hsl,-⟩:=hM0
 obtain⟨n,hn⟩:∃n,n=ms.length:=⟨_,rfl⟩
 have HN:Hid (n=ms.length):=hn
 rw[←hn] at hsl
 subst hsl
 clear hn;have hlt:=hM.lt;have HG:Hid (¬qbq f h ms):=hG;clear hG
 go_enter func23,ntmps23
 go_wp2_with (first|((with_reducible refine gB 30 0 ?_);refine m0v ?_;refine m3x ?_;clear B;intro b2 w9 B)|((with_reducible refine gB 32 1 ?_);refine m2z ?_;clear B;intro b3 w9 B)|((with_reducible refine gA 30 ?_);refine m4t ?_;clear B;intro b4 w9 B)|((with_reducible refine gL 30 2 ?_);refine m3l ?_)|(go_at_call 17;refine m3k ?_;rintro e w5 ⟨r,hr,rfl,hb5⟩;obtain rfl:r=false:=(by cases r with|false=>rfl|true=>exact absurd (hr.1 rfl) HG.out);clear hr;replace B:=B.below hb5;clear hb5)|((with_reducible refine gS 30 4 24 ?_);refine m2i ?_;refine m09 ?_;clear B;intro w9 B))
 (refine m06 ?_;refine bodyPost_ret (qlv (p:=4) (u:=5) (v:=6) rfl _ _ _ _ rfl (B.row 0 rfl) _ underlying30 rfl (qaq _ _ _ _)) rfl ⟨rfl,B.base⟩)
end Go.Proofs.Ytbboabfmoahipaa
