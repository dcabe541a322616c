/-
  Of what a law stands on.
-/
import Derived.Test.YtbboabfmoahipaaZbd6
set_option linter.unusedSimpArgs false
set_option linter.unusedVariables false
namespace Go.Proofs.Ytbboabfmoahipaa
open Go.Value renaming int → I,pointer → V
open Go.IntKind renaming i64 → Z
open _root_.Go.Proofs.Try Go.ChangeShapes Go.WideShapes Go.ChangeAt Go.RowKit Go.Maps
set_option maxHeartbeats 16000000
set_option maxRecDepth 100000
variable {i p q x:Int}{o:Oper}{a:Act}{w w':World}{K:Act->World->Prop}{Q:Exit->Act->World->Prop}{ops:Array Oper}{rest:List Oper}{aN b1 b3 b4 b5 b6 cap kN n n3 n4 n5 n6 sN:Nat}{f h:Nat->Int}{g:Nat->Bool}{ms:List Mp}{a0:Option Addr}
theorem qpbb(h:isP p=true):wf6 p:=by
 rcases(qo8 p).1 h with rfl|rfl|rfl<;>(unfold wf6;decide)
theorem qmpb(t:TypeId)(m x v:Operand)(ho:o.op=.mapUpdate t m x v)(mv kv vv:Value)(hm:a.eval m=mv)(hx:a.eval x=kv)(hv:a.eval v=vv)(hr:(Instr.mapUpdate t mv kv vv).run prog w=.ok () w')(hK:K (a.put o.dst undef) w'):o.wp prog a w K Q:=by
 unfold Oper.wp
 simp[execOp,ho,hm,hx,hv,hr,Result.andThen]
 exact hK
theorem ql6b(hgd:o.guard=none)(t:TypeId)(m x v:Operand)(ho:o.op=.mapUpdate t m x v)(mv kv vv:Value)(hm:a.eval m=mv)(hx:a.eval x=kv)(hv:a.eval v=vv)(hr:(Instr.mapUpdate t mv kv vv).run prog w=.ok () w')(hK:wpList prog ops Q rest (a.put o.dst undef) w'):wpList prog ops Q (o::rest) a w:=
 wpList_plain hgd fun K hK'=>qmpb t m x v ho mv kv vv hm hx hv hr (hK' _ _ hK)
theorem qmob(t:TypeId)(m x:Operand)(ho:o.op=.lookup t m x false)(mv kv v:Value)(hm:a.eval m=mv)(hx:a.eval x=kv)(hr:(Instr.lookup t mv kv false).run prog w=.ok v w)(hK:K (a.put o.dst v) w):o.wp prog a w K Q:=by
 unfold Oper.wp
 simp[execOp,ho,hm,hx,hr,Result.andThen]
 exact hK
theorem qk7b(hgd:o.guard=none)(t:TypeId)(m x:Operand)(ho:o.op=.lookup t m x false)(mv kv v:Value)(hm:a.eval m=mv)(hx:a.eval x=kv)(hr:(Instr.lookup t mv kv false).run prog w=.ok v w)(hK:wpList prog ops Q rest (a.put o.dst v) w):wpList prog ops Q (o::rest) a w:=
 wpList_plain hgd fun K hK'=>qmob t m x ho mv kv v hm hx hr (hK' _ _ hK)
theorem qm6b(t:TypeId)(m x:Operand)(ho:o.op=.mapEntry t m x)(mv kv v:Value)(hm:a.eval m=mv)(hx:a.eval x=kv)(hr:(Instr.mapEntry t mv kv).run prog w=.ok v w')(hK:K (a.put o.dst v) w'):o.wp prog a w K Q:=by
 unfold Oper.wp
 simp[execOp,ho,hm,hx,hr,Result.andThen]
 exact hK
theorem qp4b(t:TypeId)(m x v:Operand)(ho:o.op=.entryStore t m x v)(mv kv vv:Value)(hm:a.eval m=mv)(hx:a.eval x=kv)(hv:a.eval v=vv)(hr:(Instr.entryStore t mv kv vv).run prog w=.ok () w')(hK:K (a.put o.dst undef) w'):o.wp prog a w K Q:=by
 unfold Oper.wp
 simp[execOp,ho,hm,hx,hv,hr,Result.andThen]
 exact hK
theorem qqsb(h:-9223372036854775808<=x/\x<=9223372036854775807):IntKind.i64.wrap x=x:=by rw[IntKind.wrap_i64];omega
theorem qo1b{y:Int}(hx:wf6 x)(hy:0<=y/\y<=1000):(IntKind.i64.wrap (x-1) != y)=decide (x≠y+1):=by
 have hb:=qq3b hx;rw[IntKind.wrap_i64]
 by_cases h:x=y+1
 ·subst h
  have:(y+1-1+9223372036854775808)%18446744073709551616-9223372036854775808=y:=by omega
  rw[this];simp
 ·have:(x-1+9223372036854775808)%18446744073709551616-9223372036854775808≠y:=by omega
  simp[this,h]
theorem qpyb(hk:blkQ q=(kN:Int)):qa7 (p,(sN:Int),i,(aN:Int),q)=6*aN+kN:=by
 unfold qa7 qdi
 unfold blkQ at hk
 simp only
 omega
theorem qnxb{W:World}{b8 b12 b13 j:Nat}(ht:ms.take (j+1)=ms.take j++[(p,(sN:Int),i,(aN:Int),q)])(hk:blkQ q=(kN:Int))(G:Gm w W [(b12,76,#[I Z p,I Z (aN:Int),I Z q]),(b13,78,#[I Z p,I Z (sN:Int),I Z i]),(b8,32,mc (p,(sN:Int),i,(aN:Int),q)),(b1,30,tc f g h (.slice a0 n cap))] [] [entI 3 k1v wf6 b6 (n6+1) (updX (nOf (ms.take j)) (sN:Int) (nOf (ms.take j) (sN:Int)+1)),entI 79 k2 ok2 b5 (n5+1) (updX (nPl (ms.take j)) ((aN:Int),(kN:Int)) (nPl (ms.take j) ((aN:Int),(kN:Int))+1)),entB 78 k3 ok3 b4 (n4+1) (updX (sIn (ms.take j)) (p,(sN:Int),i) true),entB 76 k3 ok3 b3 (n3+1) (updX (sOut (ms.take j)) (p,(aN:Int),q) true)]):
  Gm w W [(b1,30,tc f g h (.slice a0 n cap))] [] [entI 3 k1v wf6 b6 (n6+1) (nOf (ms.take (j+1))),entI 79 k2 ok2 b5 (n5+1) (nPl (ms.take (j+1))),entB 78 k3 ok3 b4 (n4+1) (sIn (ms.take (j+1))),entB 76 k3 ok3 b3 (n3+1) (sOut (ms.take (j+1)))]:=by
 have e6:=qp1b (ms.take j) (p,(sN:Int),i,(aN:Int),q);have e5:=qpib (ms.take j) (p,(sN:Int),i,(aN:Int),q);have e4:=qpwb (ms.take j) (p,(sN:Int),i,(aN:Int),q);have e3:=qopb (ms.take j) (p,(sN:Int),i,(aN:Int),q)
 simp only[hk] at e5
 rw[←ht] at e6 e5 e4 e3
 rw[←e6,←e5,←e4,←e3]
 exact G.rows (G.bd.one 3 rfl)
theorem sZbd71{p:Prop}(h:p:=by
 simp only[ZZ];refine AR [9] ?_
 refine AP (fun K hK=>?_) ?_
 ·(obtain⟨w10,hr10,G10⟩:=hst _ (nPl (ms.take j) ((aN:Int),(kN:Int))+1) HY5.out rfl G;refine qp4b 72 (.tmp 130) (.tmp 138) (.tmp 136) rfl _ _ _ kr kr kr hr10 ?_);clear G hr10 hst;have G:=G10;clear G10;refine m2w ?_;intro R8
  refine hK.out _ _ R8 (fun _=>?_)
  clear hK K;(try simp only[ZZ]);refine AN ?_;clear R8;(have hw6:wrap64 (nOf (ms.take j) (sN:Int)+1)=nOf (ms.take j) (sN:Int)+1:=by have:=qmlb (ms.take j) (sN:Int);have:=HLT.out;unfold wrap64;omega);(have HY6:Hid ((Lit.int .i64 (nOf (ms.take j) (sN:Int)+1)).wf=true):=hidB (qkcb (by have:=qmlb (ms.take j) (sN:Int);have:=HLT.out;omega)))
  go_wp2_with (first|((with_reducible refine gL 3 140 ?_);refine fx (G.bd.row 2 rfl) _ 1 ((sN:Int)) ?_)|((with_reducible refine qaa (.lookup 73 (.tmp 139) (.tmp 141) false) rfl ?_);refine qk7b rfl 73 (.tmp 139) (.tmp 141) rfl (.map (some b6)) (k1v (sN:Int)) (.int .i64 (nOf (ms.take j) (sN:Int))) rfl rfl (MeI.look (G.ent 0 rfl) qlib underlying73 (sN:Int) HSW.out).1 ?_)|((with_reducible refine qaa (.mapUpdate 73 (.tmp 139) (.tmp 141) (.tmp 143)) rfl ?_);obtain⟨w9,hr9,G9⟩:=G.putI 0 rfl qlib underlying73 HB6.out (sN:Int) HSW.out (nOf (ms.take j) (sN:Int)+1) HY6.out;refine ql6b rfl 73 (.tmp 139) (.tmp 141) (.tmp 143) rfl (.map (some b6)) (k1v (sN:Int)) (.int .i64 (nOf (ms.take j) (sN:Int)+1)) rfl rfl (by first|rfl|exact congrArg (Value.int .i64) hw6) hr9 ?_;clear G hr9;have G:=G9;clear G9))
  (refine⟨?_,?measure⟩;unfold WG;(repeat apply Exists.intro);refine⟨?rel,rfl⟩)
  case rel=>
   have G':=qnxb HTK.out HKN.out G
   first|exact⟨j+1,HJ1.out,qj2b j,HST,_,_,_,_,HN2,G'⟩|exact⟨j+1,HJ1.out,qj0b hjw,HST,_,_,_,_,HN2,G'⟩
  case measure=>unfold WGmu;(first|rw[hjw]|skip);exact HME.out
 exact AZ):p:=h
theorem sZbd72{p:Prop}(h:p:=by
 refine hK.out _ _ R8 (fun _=>?_)
 clear hK K;(try simp only[ZZ]);refine AR [16] ?_
 refine AP (fun K hK=>?_) ?_
 ·(first|refine qau 76 (.tmp 12) (.tmp 85) rfl b12 kr #[I Z p,I Z (aN:Int),I Z q] kr _ (G.bd.row 0 rfl) rfl (qk1b (p,(sN:Int),i,(aN:Int),q)) (ql9b (p,(sN:Int),i,(aN:Int),q)) ?_|refine qau 76 (.tmp 12) (.tmp 85) rfl b12 kr #[I Z p,I Z (aN:Int),I Z q] kr _ (G.bd.row 1 rfl) rfl (qk1b (p,(sN:Int),i,(aN:Int),q)) (ql9b (p,(sN:Int),i,(aN:Int),q)) ?_);refine m1o ?_;intro w9 R9 t9;(first|replace G:=G.turn 0 rfl R9 t9|replace G:=G.turn 1 rfl R9 t9);clear R9 t9;refine m2w ?_;clear R8;intro R8
  refine hK.out _ _ R8 (fun _=>?_)
  clear hK K;(try simp only[ZZ]);refine AR [17] ?_
  refine AP (fun K hK=>?_) AZ
  (first|refine qau 78 (.tmp 13) (.tmp 92) rfl b13 kr #[I Z p,I Z (sN:Int),I Z i] kr _ (G.bd.row 0 rfl) rfl (qktb (p,(sN:Int),i,(aN:Int),q)) (qltb (p,(sN:Int),i,(aN:Int),q)) ?_|refine qau 78 (.tmp 13) (.tmp 92) rfl b13 kr #[I Z p,I Z (sN:Int),I Z i] kr _ (G.bd.row 1 rfl) rfl (qktb (p,(sN:Int),i,(aN:Int),q)) (qltb (p,(sN:Int),i,(aN:Int),q)) ?_);refine m1o ?_;intro w9 R9 t9;(first|replace G:=G.turn 0 rfl R9 t9|replace G:=G.turn 1 rfl R9 t9);clear R9 t9;refine m2w ?_;clear R8;intro R8
  refine hK.out _ _ R8 (fun _=>?_)
  clear hK K;(try simp only[ZZ]);refine AN ?_
  go_wp2_with fail
  go_meet
  case rel=>first|exact⟨b12,b13,rfl,rfl,rfl,G⟩|exact⟨b12,b13,rfl,rfl,rfl,G.swap⟩
 exact AZ):p:=h
theorem qrob{wr:World}(u2 u7 u8 u9 u10 u11 u12 u13 u14 u15 u16 u17 u18 u19 u20 u21 u22 u23 u24 u25 u26 u27 u31 u32 u33 u34 u35 u36 u37 u38 u39 u40 u41 u42 u43 u44 u45 u46 u47 u48 u49 u50 u51 u52 u53 u54 u55 u56 u57 u58 u59 u60 u61 u62 u63 u64 u65 u66 u67 u68 u69 u70 u71 u72 u73 u74 u75 u76 u77 u78 u79 u80 u81 u82 u83 u84 u85 u86 u87 u88 u89 u90 u91 u92 u93 u94 u95 u96 u97 u98 u99 u100 u101 u102 u103 u104 u105 u106 u107 u108 u109 u110 u111 u112 u113 u114 u115 u116 u117 u118 u119 u120 u121 u122 u123 u124 u125 u126 u127 u128 u129 u130 u131 u132 u133 u134 u135 u136 u137 u138 u139 u140 u141 u142 u143 u144 u145 u146 u147 u148 u149 u150 u151 u152 u153 u154 u155 u156 u157 u158 u159 u160 u161 u162 u163 u164 u165 u166 u167 u168 u169 u170 u171 u172 u173 u174 u175 u176 u177 u178 u179 u180 u181 u182 u183 u184 u185 u186 u187 u188 u189 u190 u191 u192 u193 u194 u195 u196 u197 u198 u199 u200 u201 u202:Value)(j:Nat)(HNs:Hid (n6<=2*j/\n5<=2*j/\n4<=2*j/\n3<=2*j))(G:Gm w wr [(b1,30,tc f g h (.slice a0 n cap))] [] [entI 3 k1v wf6 b6 n6 (nOf (ms.take j)),entI 79 k2 ok2 b5 n5 (nPl (ms.take j)),entB 78 k3 ok3 b4 n4 (sIn (ms.take j)),entB 76 k3 ok3 b3 n3 (sOut (ms.take j))])(HK:Hid (MsOk f h (ms.take j)))(HN:Hid (n=ms.length))(hM:qaz w (.slice a0 n cap) ms)(hwH:wfH h)(hgp:qcv f=true)(hlj:j<ms.length)(m:Mp)(hm:ms[j]=m)(hok:OkM m)(e3:sOut (ms.take j) (m.1,m.2.2.2.1,m.2.2.2.2)=false)(e4:sIn (ms.take j) (m.1,m.2.1,m.2.2.1)=false)(e5:h m.2.1.toNat=m.2.2.2.1+1)(e6:f (qa7 m)=m.2.1+1)(Q0:Exit->Act->World->Prop)(hret:∀a w',bodyPost prog f17 (fun e w'=>∃r:Bool,(r=true↔qbq f h ms)/\e=.returned (.bool r)/\Below w.heap.size w w') .ret a w'->Q0 .ret a w'):
  Code.wp prog (qryb f17) (Exit.then (fun a' W=>WG w f g h ms b1 b3 b4 b5 b6 a0 n cap a' W/\WGmu n a' W<WGmu n ⟨#[(.agg (tc f g h (.slice a0 n cap))),.pointer (some ⟨b1,0,none⟩),u2,.map (some b3),.map (some b4),.map (some b5),.map (some b6),u7,u8,u9,u10,u11,u12,u13,u14,u15,u16,u17,u18,u19,u20,u21,u22,u23,u24,u25,u26,u27,(.slice a0 n cap),.int .i64 (n:Int),.int .i64 (j:Int),u31,u32,u33,u34,u35,u36,u37,u38,u39,u40,u41,u42,u43,u44,u45,u46,u47,u48,u49,u50,u51,u52,u53,u54,u55,u56,u57,u58,u59,u60,u61,u62,u63,u64,u65,u66,u67,u68,u69,u70,u71,u72,u73,u74,u75,u76,u77,u78,u79,u80,u81,u82,u83,u84,u85,u86,u87,u88,u89,u90,u91,u92,u93,u94,u95,u96,u97,u98,u99,u100,u101,u102,u103,u104,u105,u106,u107,u108,u109,u110,u111,u112,u113,u114,u115,u116,u117,u118,u119,u120,u121,u122,u123,u124,u125,u126,u127,u128,u129,u130,u131,u132,u133,u134,u135,u136,u137,u138,u139,u140,u141,u142,u143,u144,u145,u146,u147,u148,u149,u150,u151,u152,u153,u154,u155,u156,u157,u158,u159,u160,u161,u162,u163,u164,u165,u166,u167,u168,u169,u170,u171,u172,u173,u174,u175,u176,u177,u178,u179,u180,u181,u182,u183,u184,u185,u186,u187,u188,u189,u190,u191,u192,u193,u194,u195,u196,u197,u198,u199,u200,u201,u202],[]⟩ wr) Q0) ⟨#[(.agg (tc f g h (.slice a0 n cap))),.pointer (some ⟨b1,0,none⟩),u2,.map (some b3),.map (some b4),.map (some b5),.map (some b6),u7,u8,u9,u10,u11,u12,u13,u14,u15,u16,u17,u18,u19,u20,u21,u22,u23,u24,u25,u26,u27,(.slice a0 n cap),.int .i64 (n:Int),.int .i64 (j:Int),u31,u32,u33,u34,u35,u36,u37,u38,u39,u40,u41,u42,u43,u44,u45,u46,u47,u48,u49,u50,u51,u52,u53,u54,u55,u56,u57,u58,u59,u60,u61,u62,u63,u64,u65,u66,u67,u68,u69,u70,u71,u72,u73,u74,u75,u76,u77,u78,u79,u80,u81,u82,u83,u84,u85,u86,u87,u88,u89,u90,u91,u92,u93,u94,u95,u96,u97,u98,u99,u100,u101,u102,u103,u104,u105,u106,u107,u108,u109,u110,u111,u112,u113,u114,u115,u116,u117,u118,u119,u120,u121,u122,u123,u124,u125,u126,u127,u128,u129,u130,u131,u132,u133,u134,u135,u136,u137,u138,u139,u140,u141,u142,u143,u144,u145,u146,u147,u148,u149,u150,u151,u152,u153,u154,u155,u156,u157,u158,u159,u160,u161,u162,u163,u164,u165,u166,u167,u168,u169,u170,u171,u172,u173,u174,u175,u176,u177,u178,u179,u180,u181,u182,u183,u184,u185,u186,u187,u188,u189,u190,u191,u192,u193,u194,u195,u196,u197,u198,u199,u200,u201,u202],[]⟩ wr:=by
 conv=>arg 2;whnf
 have hlt:=hM.lt;refine m0h ?_;intro hjn hjw;refine m5p ?_;intro hMW hrg;have HLT:Hid ((ms.take j).length<=140737488355328):=hidB (by have:=hM.len;rw[List.length_take];omega);have HB3:Hid (n3<maxLen):=hidB (by have:=HNs.out;have:=hM.len;unfold maxLen;omega);have HB4:Hid (n4<maxLen):=hidB (by have:=HNs.out;have:=hM.len;unfold maxLen;omega);have HB5:Hid (n5<maxLen):=hidB (by have:=HNs.out;have:=hM.len;unfold maxLen;omega);have HB6:Hid (n6<maxLen):=hidB (by have:=HNs.out;have:=hM.len;unfold maxLen;omega);have HJ1:Hid (j+1<=ms.length):=hidB hlj;have HN2:Hid (n6+1<=2*(j+1)/\n5+1<=2*(j+1)/\n4+1<=2*(j+1)/\n3+1<=2*(j+1)):=hidB (by have:=HNs.out;omega);have HME:Hid (n-((j:Int)+1).toNat<n-((j:Int)).toNat):=hidB (by have:=HN.out;omega);have HST:Hid (MsOk f h (ms.take (j+1))):=hidB (by rw[List.take_succ_eq_append_getElem hlj,qof,hm];exact⟨HK.out,⟨hok.2.1,hok.2.2.1,hok.2.2.2.1,hok.1,hok.2.2.2.2,e5,e6⟩,by rw[qmyb,e3,e4];rfl⟩);have HTK:Hid (ms.take (j+1)=ms.take j++[m]):=hidB (by rw[List.take_succ_eq_append_getElem hlj,hm]);refine m3z ?_;intro E3 E4;have E5:Hid (h m.2.1.toNat=m.2.2.2.1+1):=e5;have E6:Hid (f (qa7 m)=m.2.1+1):=e6;clear e3 e4 e5 e6;obtain⟨hq,hip,hs,hi,ha⟩:=hok;have HOK:Hid (OkM m):=⟨hq,hip,hs,hi,ha⟩;obtain⟨p,s,i,a,q⟩:=m
 simp only at hq hip hs hi ha
 obtain⟨sN,rfl⟩:∃sN:Nat,s=(sN:Int):=⟨s.toNat,by omega⟩
 obtain⟨aN,rfl⟩:∃aN:Nat,a=(aN:Int):=⟨a.toNat,by omega⟩
 obtain⟨kN,hkN⟩:∃kN:Nat,blkQ q=(kN:Int):=⟨(blkQ q).toNat,by unfold blkQ;omega⟩
 refine m00 ?_;intro HKN HS8 HA9 HK6 HPL HPR HTW HSW CB
 rw[hkN] at CB
 (have CI:=fun w=>qkqb p w)
 rw[hip] at CI
 refine m0e ?_;intro d1 d2 d3 d4 d5 d6;clear hq hip hs hi ha hkN
 go_upto_region 12 with(first|(refine qb5 rfl (.tmp 28) (.tmp 30) rfl (.slice a0 n cap) ms hMW rfl j rfl hlj ?_)|((with_reducible refine gL 32 32 ?_);refine m11 ?_)|((with_reducible refine gA 32 ?_);refine m2u ?_;clear G;intro b8 w9 G)|((with_reducible refine gS 32 8 33 ?_);refine m1s ?_;clear G;intro w9 G)|((with_reducible refine gL 3 35 ?_);refine m6r ?_)|(go_at_call 15;refine(CB _).mono ?_;refine m03 ?_)|((with_reducible refine gL 3 44 ?_);refine m6s ?_)|((with_reducible refine gL 3 50 ?_);refine m2g ?_)|((with_reducible refine gL 3 55 ?_);refine m2g ?_)|((with_reducible refine gL 3 60 ?_);refine m35 ?_)|((with_reducible refine gL 3 65 ?_);refine m35 ?_)|((with_reducible refine gL 3 70 ?_);refine m2h ?_)|((with_reducible refine gL 3 75 ?_);refine m2h ?_)|(go_at_call 38;refine(CI _).mono ?_;refine m03 ?_))
 clear d1 d2 d3 d4 d5 d6 CB CI;refine m0l ?_;intro R8
 go_cut [12,13,30] from 30 to 144 (fun s12 s13 s30 wx=>∃b12 b13,s12=.pointer (some ⟨b12,0,none⟩)/\s13=.pointer (some ⟨b13,0,none⟩)/\s30=.int .i64 (j:Int)/\Gm w wx [(b12,76,#[.int .i64 p,.int .i64 (aN:Int),.int .i64 q]),(b13,78,#[.int .i64 p,.int .i64 (sN:Int),.int .i64 i]),(b8,32,mc (p,(sN:Int),i,(aN:Int),q)),(b1,30,tc f g h (.slice a0 n cap))] [] [entI 3 k1v wf6 b6 n6 (nOf (ms.take j)),entI 79 k2 ok2 b5 n5 (nPl (ms.take j)),entB 78 k3 ok3 b4 n4 (sIn (ms.take j)),entB 76 k3 ok3 b3 n3 (sOut (ms.take j))])
 case first=>
  refine RD (fun W=>Row 32 W b8 (mc (p,(sN:Int),i,(aN:Int),q))) R8 (fun _=>?_)
  refine m08 ?_
  refine AP (fun K hK=>?_) ?_
  ·refine m6k ?_;intro b12 w9 l9 R9 h9;refine m0j ?_;clear h9 G R9 l9 R8;intro G R8
   refine hK.out _ _ R8 (fun _=>?_)
   clear hK K;(try simp only[ZZ]);refine AR [15] ?_
   refine AP (fun K hK=>?_) AZ
   refine m6p ?_;intro b13 w9 l9 R9 h9;refine m0j ?_;clear h9 G R9 l9 R8;intro G R8
   exact sZbd72
  refine AP (fun K hK=>?_) AZ
  refine m6p ?_;intro b13 w9 l9 R9 h9;refine m0j ?_;clear h9 G R9 l9 R8;intro G R8
  refine hK.out _ _ R8 (fun _=>?_)
  clear hK K;(try simp only[ZZ]);refine AR [14] ?_
  refine AP (fun K hK=>?_) AZ
  refine m6k ?_;intro b12 w9 l9 R9 h9;refine m0j ?_;clear h9 G R9 l9 R8;intro G R8
  exact sZbd72
 case rest=>
  clear G R8
  obtain⟨b12,b13,rfl,rfl,rfl,G⟩:=hcut
  have H18:Hid (6*aN+kN<18):=hidB (by have:=HA9.out;have:=HK6.out;omega)
  obtain⟨dH,hdH⟩:∃d,IntKind.i64.wrap (h sN-1)=d:=⟨_,rfl⟩
  obtain⟨dO,hdO⟩:∃d,IntKind.i64.wrap (f (6*aN+kN)-1)=d:=⟨_,rfl⟩
  refine m0f ?_;intro EH EO hc3 hc4
  rw[hdH] at hc3
  rw[hdO] at hc4
  clear hdH hdO;have C3:Hid ((dH != (aN:Int))=false):=hidB (by rw[hc3];have:=E5.out;simp at this;simp[this]);have C4:Hid ((dO != (sN:Int))=false):=hidB (by rw[hc4];have:=E6.out;rw[qpyb HKN.out] at this;simp at this ⊢;exact this);clear hc3 hc4
  go_upto_region 13 with(fail)
  refine RD (fun W=>Gm w W [(b12,76,#[.int .i64 p,.int .i64 (aN:Int),.int .i64 q]),(b13,78,#[.int .i64 p,.int .i64 (sN:Int),.int .i64 i]),(b8,32,mc (p,(sN:Int),i,(aN:Int),q)),(b1,30,tc f g h (.slice a0 n cap))] [] [entI 3 k1v wf6 b6 n6 (nOf (ms.take j)),entI 79 k2 ok2 b5 n5 (nPl (ms.take j)),entB 78 k3 ok3 b4 n4 (sIn (ms.take j)),entB 76 k3 ok3 b3 n3 (sOut (ms.take j))]) (by first|exact G|exact G.drew) (fun _=>?_)
  refine tq 0 (.map (some b3)) rfl (by first|exact G|exact G.drew) (tk 1 (.agg #[.int .i64 p,.int .i64 (aN:Int),.int .i64 q]) rfl (qav 76 (.tmp 12) rfl kr b12 kr #[.int .i64 p,.int .i64 (aN:Int),.int .i64 q] (fun _ h=>h.bd.row 0 rfl) _ underlying76 rfl (qk1b (p,(sN:Int),i,(aN:Int),q))) (by first|exact G|exact G.drew) (tk 2 (.bool false) rfl (qlcb 70 (.tmp 93) (.tmp 94) rfl kr (.map (some b3)) (k3 (p,(aN:Int),q)) _ kr kr (fun w h=>by have:=MeB.look (h.ent 3 rfl) qmub underlying70 (p,(aN:Int),q) HPL.out;rw[E3.out] at this;exact this)) (by first|exact G|exact G.drew) ?_))
  simp only[ZZ]
  refine tq 3 (.bool false) rfl (by first|exact G|exact G.drew) (tq 4 (.map (some b4)) rfl (by first|exact G|exact G.drew) (tk 5 (.agg #[.int .i64 p,.int .i64 (sN:Int),.int .i64 i]) rfl (qav 78 (.tmp 13) rfl kr b13 kr #[.int .i64 p,.int .i64 (sN:Int),.int .i64 i] (fun _ h=>h.bd.row 1 rfl) _ underlying78 rfl (qktb (p,(sN:Int),i,(aN:Int),q))) (by first|exact G|exact G.drew) ?_))
  simp only[ZZ]
  refine tk 6 (.bool false) rfl (qlcb 71 (.tmp 97) (.tmp 98) rfl kr (.map (some b4)) (k3 (p,(sN:Int),i)) _ kr kr (fun w h=>by have:=MeB.look (h.ent 2 rfl) qnnb underlying71 (p,(sN:Int),i) HPR.out;rw[E4.out] at this;exact this)) (by first|exact G|exact G.drew) (tk 7 (.bool false) rfl (qkib (.tmp 96) (.const (.bool true)) (.tmp 99) _ rfl kr kr kr) (by first|exact G|exact G.drew) (tq 8 (.bool false) rfl (by first|exact G|exact G.drew) ?_))
  refine m0p ?_
  refine tk 12 (.pointer (some ⟨b1,21+sN,none⟩)) rfl (qleb 27 (.tmp 104) (.tmp 103) rfl kr _ _ _ kr kr (fun w=>ix8 b1 21 sN HS8.out w)) (by first|exact G|exact G.drew) (tk 13 (.int .i64 (h sN)) rfl (Or.inl ⟨by kernel_rfl,by intro w hS;have hc:=((hS.bd.row 3 rfl).cell (21+sN)).trans (qhc _ _ _ _ sN HS8.out);go_simp⟩) (by first|exact G|exact G.drew) (tk 14 (.int .i64 dH) rfl (qmkb (.tmp 106) rfl kr _ _ kr EH.out) (by first|exact G|exact G.drew) ?_))
  refine m0c ?_
  refine tq 24 (.pointer (some ⟨b1,0,none⟩)) rfl (by first|exact G|exact G.drew) (tk 25 (.pointer (some ⟨b1,6*aN,none⟩)) rfl (qleb 23 (.tmp 117) (.tmp 114) rfl kr _ _ _ kr kr (fun w=>by have:=ix3 b1 0 aN HA9.out w;simpa using this)) (by first|exact G|exact G.drew) (tk 26 (.pointer (some ⟨b1,6*aN+kN,none⟩)) rfl (qleb 22 (.tmp 118) (.tmp 115) rfl kr _ _ _ kr kr (fun w=>ix6 b1 (6*aN) kN HK6.out w)) (by first|exact G|exact G.drew) ?_))
  refine m1r ?_;(refine tk 30 (.int .i64 (sN:Int)) rfl (Or.inl ⟨by kernel_rfl,by intro w hS;have hc:=((hS.bd.row 2 rfl).cell 1).trans (show(mc (p,(sN:Int),i,(aN:Int),q))[1]?=some (.int .i64 (sN:Int)) from rfl);go_simp⟩) (by first|exact G|exact G.drew) (tk 31 (.bool false) rfl (qrk 3 (.tmp 121) (.tmp 123) _ _ _ rfl kr kr kr C4.out) (by first|exact G|exact G.drew) (tk 32 (.bool false) rfl (qkib (.tmp 112) (.const (.bool true)) (.tmp 124) _ rfl kr kr kr) (by first|exact G|exact G.drew) ?_)));refine m2c ?_;replace G:=G.drew
  go_upto_region 15 with(fail)
  have R12:Row 76 _ b12 #[.int .i64 p,.int .i64 (aN:Int),.int .i64 q]:=G.bd.row 0 rfl;have R13:Row 78 _ b13 #[.int .i64 p,.int .i64 (sN:Int),.int .i64 i]:=G.bd.row 1 rfl
  refine RD (fun W=>Row 76 W b12 #[.int .i64 p,.int .i64 (aN:Int),.int .i64 q]/\Row 78 W b13 #[.int .i64 p,.int .i64 (sN:Int),.int .i64 i]) ⟨R12,R13⟩ (fun _=>?_)
  refine tq 0 (.map (some b3)) rfl ⟨R12,R13⟩ (tk 1 (.agg #[.int .i64 p,.int .i64 (aN:Int),.int .i64 q]) rfl (qav 76 (.tmp 12) rfl kr b12 kr #[.int .i64 p,.int .i64 (aN:Int),.int .i64 q] (fun _ h=>h.1) _ underlying76 rfl (qk1b (p,(sN:Int),i,(aN:Int),q))) ⟨R12,R13⟩ (tq 2 (.map (some b4)) rfl ⟨R12,R13⟩ ?_))
  simp only[ZZ]
  refine tk 3 (.agg #[.int .i64 p,.int .i64 (sN:Int),.int .i64 i]) rfl (qav 78 (.tmp 13) rfl kr b13 kr #[.int .i64 p,.int .i64 (sN:Int),.int .i64 i] (fun _ h=>h.2) _ underlying78 rfl (qktb (p,(sN:Int),i,(aN:Int),q))) ⟨R12,R13⟩ ?_
  simp only[ZZ];refine AR [4] ?_
  refine AP (fun K hK=>?_) AZ
  (first|(obtain⟨w9,hr9,G9⟩:=G.putB 3 rfl qmub underlying70 HB3.out (p,(aN:Int),q) HPL.out true;refine qmpb 70 (.tmp 126) (.tmp 127) (.const (.bool true)) rfl _ _ _ kr kr kr hr9 ?_)|(obtain⟨w9,hr9,G9⟩:=G.drew.putB 3 rfl qmub underlying70 HB3.out (p,(aN:Int),q) HPL.out true;refine qmpb 70 (.tmp 126) (.tmp 127) (.const (.bool true)) rfl _ _ _ kr kr kr hr9 ?_));refine m5a ?_;clear G hr9 G9 R12 R13;intro G R12 R13
  refine hK.out _ _ ⟨R12,R13⟩ (fun _=>?_)
  clear hK K;(try simp only[ZZ]);refine AR [5] ?_
  refine AP (fun K hK=>?_) AZ
  (first|(obtain⟨w9,hr9,G9⟩:=G.putB 2 rfl qnnb underlying71 HB4.out (p,(sN:Int),i) HPR.out true;refine qmpb 71 (.tmp 128) (.tmp 129) (.const (.bool true)) rfl _ _ _ kr kr kr hr9 ?_)|(obtain⟨w9,hr9,G9⟩:=G.drew.putB 2 rfl qnnb underlying71 HB4.out (p,(sN:Int),i) HPR.out true;refine qmpb 71 (.tmp 128) (.tmp 129) (.const (.bool true)) rfl _ _ _ kr kr kr hr9 ?_));refine m5a ?_;clear G hr9 G9 R12 R13;intro G R12 R13
  refine hK.out _ _ ⟨R12,R13⟩ (fun _=>?_)
  clear hK K;(try simp only[ZZ]);refine AN ?_;clear R12 R13
  go_upto_region 16 with(fail)
  have R8:Row 32 _ b8 (mc (p,(sN:Int),i,(aN:Int),q)):=G.bd.row 2 rfl;(have HW5:Hid (IntKind.i64.wrap (nPl (ms.take j) ((aN:Int),(kN:Int))+1)=nPl (ms.take j) ((aN:Int),(kN:Int))+1):=hidB (qqsb (by have:=qozb (ms.take j) ((aN:Int),(kN:Int));have:=HLT.out;omega)));(have HY5:Hid ((Lit.int .i64 (nPl (ms.take j) ((aN:Int),(kN:Int))+1)).wf=true):=hidB (qkcb (by have:=qozb (ms.take j) ((aN:Int),(kN:Int));have:=HLT.out;omega)))
  refine RD (fun W=>Row 32 W b8 (mc (p,(sN:Int),i,(aN:Int),q))) R8 (fun _=>?_)
  (refine tq 0 (.map (some b5)) rfl R8 (tq 1 (.pointer (some ⟨b8,3,none⟩)) rfl R8 (tk 2 (.int .i64 (aN:Int)) rfl (Or.inl ⟨by kernel_rfl,by intro w hS;have hc:=(hS.cell 3).trans (show(mc (p,(sN:Int),i,(aN:Int),q))[3]?=some (.int .i64 (aN:Int)) from rfl);go_simp⟩) R8 ?_)));simp only[ZZ];refine tq 3 (.int .i64 (kN:Int)) rfl R8 (tk 4 (.agg #[.int .i64 (aN:Int),.int .i64 (kN:Int)]) rfl (qoab (.tmp 132) (.tmp 133) rfl kr _ _ kr kr) R8 ?_);simp only[ZZ];refine AR [5,7] ?_
  refine AP (fun K hK=>?_) ?_
  ·(first|refine qmob 72 (.tmp 130) (.tmp 134) rfl _ _ _ kr kr (MeI.look (G.ent 1 rfl) qk5b underlying72 ((aN:Int),(kN:Int)) HTW.out).1 ?_|refine qmob 72 (.tmp 130) (.tmp 134) rfl _ _ _ kr kr (MeI.look (G.drew.ent 1 rfl) qk5b underlying72 ((aN:Int),(kN:Int)) HTW.out).1 ?_)
   refine hK.out _ _ R8 (fun _=>?_)
   clear hK K;(try simp only[ZZ]);refine m6q ?_;simp only[ZZ];refine AR [7] ?_
   refine AP (fun K hK=>?_) AZ
   (first|(obtain⟨v0,st,w9,hr9,G9,hst⟩:=G.entry 1 rfl qk5b ql2b underlying72 HB5.out ((aN:Int),(kN:Int)) HTW.out;refine m3t ?_)|(obtain⟨v0,st,w9,hr9,G9,hst⟩:=G.drew.entry 1 rfl qk5b ql2b underlying72 HB5.out ((aN:Int),(kN:Int)) HTW.out;refine m3t ?_));clear G hr9;have G:=G9;clear G9;refine m2w ?_;clear R8;intro R8
   refine hK.out _ _ R8 (fun _=>?_)
   clear hK K;(try simp only[ZZ]);refine tq 8 (goInt st) rfl R8 ?_
   exact sZbd71
  refine AP (fun K hK=>?_) AZ
  (first|(obtain⟨v0,st,w9,hr9,G9,hst⟩:=G.entry 1 rfl qk5b ql2b underlying72 HB5.out ((aN:Int),(kN:Int)) HTW.out;refine m3t ?_)|(obtain⟨v0,st,w9,hr9,G9,hst⟩:=G.drew.entry 1 rfl qk5b ql2b underlying72 HB5.out ((aN:Int),(kN:Int)) HTW.out;refine m3t ?_));clear G hr9;have G:=G9;clear G9;refine m2w ?_;clear R8;intro R8
  refine hK.out _ _ R8 (fun _=>?_)
  clear hK K;(try simp only[ZZ]);refine tq 8 (goInt st) rfl R8 ?_;simp only[ZZ];refine AR [5] ?_
  refine AP (fun K hK=>?_) AZ
  (first|refine qmob 72 (.tmp 130) (.tmp 134) rfl _ _ _ kr kr (MeI.look (G.ent 1 rfl) qk5b underlying72 ((aN:Int),(kN:Int)) HTW.out).1 ?_|refine qmob 72 (.tmp 130) (.tmp 134) rfl _ _ _ kr kr (MeI.look (G.drew.ent 1 rfl) qk5b underlying72 ((aN:Int),(kN:Int)) HTW.out).1 ?_)
  refine hK.out _ _ R8 (fun _=>?_)
  clear hK K;(try simp only[ZZ]);refine m6q ?_
  exact sZbd71
theorem qreb(f:Nat->Int){q:Nat}(h:q<18)(s:Int):(Lit.int .i64 (hadF f q s+1)).wf=true:=qkcb (by have:=qnyb f q s;omega)
theorem qpvb(f:Nat->Int){q:Nat}(h:q<18)(s:Int):wrap64 (hadF f q s+1)=hadF f q s+1:=by have:=qnyb f q s;unfold wrap64;omega
theorem qnib(h:0<=x/\x<=8):wrap64 (x-1)=x-1/\wf6 (x-1):=⟨by unfold wrap64;omega,qkcb om⟩
theorem qmrb{S:World->Prop}(x:Operand)(c:Int)(ho:o.op=.binOp .gtr 3 x (.const (I Z c)) 3)(hw:Region.wanted o (yielded ops a.tmps)=true)(n:Int)(b:Bool)(hx:a.eval x=I Z n)(hb:decide (c<n)=b):YieldsIf prog ops S o (.bool b) a:=
 .inl ⟨hw,fun w _=>by unfold execOp;simp only[ho,hx];simp[go_sem,Act.eval];simpa using hb⟩
theorem qomb(hg:w.grownBy w' none):Below w.heap.size w w':=⟨hg.os,hg.tape,hg.output,hg.size,fun k hk=>hg.block k hk zm⟩
theorem qyjb(f:Nat->Int)(g:Nat->Bool)(h:Nat->Int)(sl:Value)(ms:List Mp)(hno:qcs sl)(hln:ms.length<=3518437208883)(w:World)(hM:qaz w sl ms):
  Calls prog 10 #[.agg (tc f g h sl)] w fun e w'=>∃v,e=.returned (.agg (tc f g h v))/\qaz w' v ms/\qcs v/\(0<ms.length->w.heap.size<=mb v)/\Below w.heap.size w w':=by
 have B:=Bd.start w;obtain⟨i0,hi,hz0,hz1,hz2⟩:=info_parts qnm;have hM0:=hM
 obtain⟨a0,cap,hsl,ha0,-⟩:=hM0
 obtain⟨n,hn⟩:∃n,n=ms.length:=⟨_,rfl⟩
 have HN:Hid (n=ms.length):=hn
 rw[←hn] at hsl
 have hlt:=hM.lt;have HLM:Hid (ms.length<=140737488355328):=hM.len;have HLN:Hid (n<=3518437208883):=hidB (by rw[hn];exact hln);clear hln
 cases a0 with
 | none=>
  obtain rfl:cap=0:=hno _ _ hsl
  have n0:ms.length=0:=by
   by_cases h:0<ms.length
   ·have:=ha0 h;simp at this
   ·omega
  have hms:ms=[]:=List.eq_nil_of_length_eq_zero n0
  obtain rfl:n=0:=hn.trans n0
  subst hsl hms
  clear ha0 hn n0 HLM HLN hno hlt hM HN
  go_enter func10,ntmps10
  go_wp2_with (first|((with_reducible refine gB 30 0 ?_);refine m0v ?_;intro b1 w9 l9 R9 h9;replace B:=B.alloc l9 R9 h9;clear R9 h9 l9)|((with_reducible refine gA 30 ?_);refine ax 2 30 qb8 ?_;refine m3x ?_;clear B;intro b2 w9 B;have cM:World.cell? _ ⟨b1,29,none⟩=some (.slice none 0 0):=((B.row 1 rfl).cell 29).trans (qdw _ _ _ _))|((with_reducible refine qaa (.call { callee:=.builtin .append,args:=#[.const (.slice none 0 0),.tmp 4],argTypes:=#[28,28] }) rfl ?_);refine m3p ?_;clear cM;replace B:=B.addNew (Below.refl _ _) (qaz.nil _) (fun h=>absurd h zm))|((with_reducible refine gS 28 6 5 ?_);refine m6i ?_;refine m20 ?_;clear B;intro w9 B)|((with_reducible refine gL 30 1 ?_);refine lx 30 (.tmp 1) (tc f g h (.slice none 0 0)) (B.row 1 rfl) ?_)|((with_reducible refine gS 30 2 7 ?_);refine m4m ?_;refine m09 ?_;clear B;intro w9 B))
  exact bodyPost_ret (qai rfl _ _ b2 _ rfl (B.row 0 rfl) _ underlying30 rfl (qaq _ _ _ _)) rfl ⟨_,rfl,B.map 0 rfl,fun n c e=>(by injection e with _ _ e3;exact e3.symm),B.base⟩
 | some ad=>
  have src:∀ {W:World},Below w.heap.size w W->∀k u,(flat ms)[k]?=some u->W.cell? (ad.add k)=some u:=by
   intro W hb k u hu;refine m4g ?_;intro hk;have had:ad=⟨mb sl,mo sl,none⟩:=Option.some.inj (ha0 om);rw[had,Addr.add_lit]
   refine qrv (fun j hj=>?_) k u hu
   exact(hM.keep hb hlt).at j hj rfl
  subst hsl
  clear ha0 hn hno
  go_enter func10,ntmps10
  go_wp2_with (first|((with_reducible refine gB 30 0 ?_);refine m0v ?_;intro b1 w9 l9 R9 h9;replace B:=B.alloc l9 R9 h9;clear R9 h9 l9)|((with_reducible refine gA 30 ?_);refine ax 2 30 qb8 ?_;refine m3x ?_;clear B;intro b2 w9 B;have cM:World.cell? _ ⟨b1,29,none⟩=some (.slice (some ad) n cap):=((B.row 1 rfl).cell 29).trans (qdw _ _ _ _))|((with_reducible refine qaa (.call { callee:=.builtin .append,args:=#[.const (.slice none 0 0),.tmp 4],argTypes:=#[28,28] }) rfl ?_);refine m1z ?_;intro v2 w2 hown2 hg2 hn2;clear hn2 cM;simp only[Nat.zero_add,List.nil_append] at hown2;rw[HN.out] at hown2;obtain⟨hM5,hN5,hl5⟩:=qqm hown2 HLM.out;have hl6:=fun hh=>Nat.le_trans B.base.size (hl5 hh);replace B:=B.addNew (qomb hg2) hM5 hl5;clear hl5;clear hown2 hg2;(obtain⟨av,cv,hv5,-⟩:=id hM5);clear hM5;rw[←HN.out] at hv5;subst hv5)|((with_reducible refine gS 28 6 5 ?_);refine m6l ?_;refine m20 ?_;clear B;intro w9 B)|((with_reducible refine gL 30 1 ?_);refine lx 30 (.tmp 1) (tc f g h (.slice av n cv)) (B.row 1 rfl) ?_)|((with_reducible refine gS 30 2 7 ?_);refine m4o ?_;refine m09 ?_;clear B;intro w9 B))
  refine bodyPost_ret (qai rfl _ _ b2 _ rfl (B.row 0 rfl) _ underlying30 rfl (qaq _ _ _ _)) rfl ⟨_,rfl,B.map 0 rfl,hN5,hl6,B.base⟩
end Go.Proofs.Ytbboabfmoahipaa
