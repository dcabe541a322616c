/-
  Of what a law stands on.
-/
import Derived.Test.YtbboabfmoahipaaZbd10
set_option linter.unusedSimpArgs false
set_option linter.unusedVariables false
namespace Go.Proofs.Ytbboabfmoahipaa
open Go.Value renaming int → I,pointer → V
open Go.IntKind renaming i64 → Z
open _root_.Go.Proofs.Try Go.ChangeShapes Go.WideShapes Go.ChangeAt Go.RowKit
set_option maxHeartbeats 16000000
set_option maxRecDepth 100000
variable {p:Prop}{W w w' wr:World}{sl v:Value}{D ms:List Mp}{f h:Nat->Int}{g:Nat->Bool}{m q:Mp}{kb kq:Int}{b b2 b3 b4 b7 cap co dl lv n:Nat}{a0 ao:Option Addr}{th:Bool}{a:Act}{o:Oper}{Q:Exit->Act->World->Prop}{ops:Array Oper}
theorem sZbd122(h:p:=by
 have RT:Row 30 _ b5 (tc f g h (.slice a0 n cap)):=B.row 3 rfl;have RM:Row 32 _ b14 (mc noM):=B.row 0 rfl
 refine RD (fun W=>Row 30 W b5 (tc f g h (.slice a0 n cap))/\Row 32 W b14 (mc noM)) ⟨RT,RM⟩ (fun _=>?_)
 refine tk 0 (.agg (tc f g h (.slice a0 n cap))) rfl (yx 30 (.tmp 5) (tc f g h (.slice a0 n cap)) (fun _ h=>h.1)) ⟨RT,RM⟩ (tk 1 (.agg (mc noM)) rfl (yx 32 (.tmp 14) (mc noM) (fun _ h=>h.2)) ⟨RT,RM⟩ ?_)
 refine m3a ?_
 refine AP (fun K hK=>?_) ?_
 ·refine qau 30 (.tmp 10) (.tmp 60) rfl b10 kr (tc f g h (.slice a0 n cap)) kr _ (B.row 2 rfl) (qen _ _ _ _ _ _ _ _) (qaq _ _ _ _) (qbm _ _ _ _ _ _) ?_;refine m1o ?_;refine m5g ?_;clear B;intro w9 B;replace RT:=B.row 3 rfl;replace RM:=B.row 0 rfl
  refine hK.out _ _ ⟨RT,RM⟩ (fun _=>?_)
  clear hK K;(try simp only[ZZ]);refine AR [3] ?_
  refine AP (fun K hK=>?_) AZ
  refine sy 32 (.tmp 11) (.tmp 61) (mc noM) (B.row 1 rfl) ?_;refine m1o ?_;refine m20 ?_;clear B;intro w9 B;replace RT:=B.row 3 rfl;replace RM:=B.row 0 rfl
  refine hK.out _ _ ⟨RT,RM⟩ (fun _=>?_)
  clear hK K;(try simp only[ZZ]);refine tq 4 (.bool false) rfl ⟨RT,RM⟩ (tq 5 (I Z 2) rfl ⟨RT,RM⟩ ?_);refine m2c ?_;clear RT RM
  go_wp2_with fail
  (refine m06 ?_;first|(refine bodyPost_ret (qej rfl _ _ _ _ _ _ rfl rfl (B.row 2 rfl) (B.row 1 rfl) _ _ underlying30 underlying32 rfl rfl (qaq _ _ _ _) (qak _)) rfl ⟨rfl,B.base⟩)|(replace B:=B.drew;refine bodyPost_ret (qej rfl _ _ _ _ _ _ rfl rfl (B.row 2 rfl) (B.row 1 rfl) _ _ underlying30 underlying32 rfl rfl (qaq _ _ _ _) (qak _)) rfl ⟨rfl,B.base⟩))
 exact AZ):p:=h
theorem sZbd121(h:p:=by
 clear G hP hp
 go_enter func20,ntmps20
 go_upto_region 3 with(first|((with_reducible refine gB 30 0 ?_);refine m0v ?_;refine m4e ?_;intro b5 w9 B)|((with_reducible refine gA 30 ?_);refine m2o ?_;clear B;intro b10 w9 B)|((with_reducible refine gA 32 ?_);refine m1e ?_;clear B;intro b11 w9 B)|((with_reducible refine qaa (.build 32 #[]) rfl ?_);refine qkmb rfl rfl ?_)|((with_reducible refine gA 32 ?_);refine m15 ?_;clear B;intro b14 w9 B)|((with_reducible refine gS 32 14 35 ?_);refine m2y ?_;refine m09 ?_;clear B;intro w9 B)|((with_reducible refine gL 30 5 ?_);refine m1q ?_)|(go_at_call 17;refine m3k ?_;rintro e w5 ⟨r,hr,rfl,hb5⟩;obtain rfl:r=true:=(hr.2 HG.out);clear hr;replace B:=B.below hb5;clear hb5)|(go_at_call 38;go_fit (CI _);refine m03 ?_))
 exact sZbd122):p:=h
theorem qzcb(f:Nat->Int)(g:Nat->Bool)(h:Nat->Int)(sl:Value)(ms:List Mp)(p s i d:Int)(hwH:wfH h)(hP:¬qjy f h ms p s i)(w:World)(hM:qaz w sl ms):
  Calls prog 20 #[.agg (tc f g h sl),I Z p,I Z s,I Z i,I Z d] w fun e w'=>e=.returned (qpm f g h sl noM false 2)/\Below w.heap.size w w':=by
 unfold qpm
 have B:=Bd.start w;have hM0:=hM
 obtain⟨a0,cap,hsl,-⟩:=hM0
 obtain⟨n,hn⟩:∃n,n=ms.length:=⟨_,rfl⟩
 have HN:Hid (n=ms.length):=hn
 rw[←hn] at hsl
 subst hsl
 clear hn;have hlt:=hM.lt;(have CG:=fun w hM=>qyhb f g h (.slice a0 n cap) ms hwH w hM);(have CI:=fun w=>qkqb p w)
 by_cases G:qbq f h ms
 rotate_left
 ·have HG:Hid (¬qbq f h ms):=G;clear G hP
  go_enter func20,ntmps20
  go_upto_region 3 with(first|((with_reducible refine gB 30 0 ?_);refine m0v ?_;refine m4e ?_;clear B;intro b5 w9 B)|((with_reducible refine gA 30 ?_);refine m2o ?_;clear B;intro b10 w9 B)|((with_reducible refine gA 32 ?_);refine m1e ?_;clear B;intro b11 w9 B)|((with_reducible refine qaa (.build 32 #[]) rfl ?_);refine qkmb rfl rfl ?_)|((with_reducible refine gA 32 ?_);refine m15 ?_;clear B;intro b14 w9 B)|((with_reducible refine gS 32 14 35 ?_);refine m2y ?_;refine m09 ?_;clear B;intro w9 B)|((with_reducible refine gL 30 5 ?_);refine m1q ?_)|(go_at_call 17;refine m3k ?_;rintro e w5 ⟨r,hr,rfl,hb5⟩;obtain rfl:r=false:=(by cases r with|false=>rfl|true=>exact absurd (hr.1 rfl) HG.out);clear hr;replace B:=B.below hb5;clear hb5)|(go_at_call 38;go_fit (CI _);refine m03 ?_))
  exact sZbd122
 have HG:Hid (qbq f h ms):=G
 cases hp:isP p with
 | false=>
  rw[hp] at CI
  exact sZbd121
 | true=>
  rw[hp] at CI
  by_cases d1:s<0
  ·(replace d1:decide (s<0)=true:=by simpa using d1)
   exact sZbd121
  ·have Hd1:Hid (¬s<0):=d1;(replace d1:decide (s<0)=false:=by simpa using d1)
   by_cases d2:7<s
   ·(replace d2:decide (7<s)=true:=by simpa using d2)
    exact sZbd121
   ·have Hd2:Hid (¬7<s):=d2;(replace d2:decide (7<s)=false:=by simpa using d2)
    by_cases d3:i<0
    ·(replace d3:decide (i<0)=true:=by simpa using d3)
     exact sZbd121
    ·have Hd3:Hid (¬i<0):=d3;(replace d3:decide (i<0)=false:=by simpa using d3)
     by_cases d4:65535<i
     ·(replace d4:decide (65535<i)=true:=by simpa using d4)
      exact sZbd121
     ·have Hd4:Hid (¬65535<i):=d4;(replace d4:decide (65535<i)=false:=by simpa using d4)
      exact absurd ⟨G,hp,⟨by have:=Hd1.out;omega,by have:=Hd2.out;omega⟩,by have:=Hd3.out;omega,by have:=Hd4.out;omega⟩ hP
theorem Bd.addOr{W':World}{L:List (Nat×TypeId×Array Value)}{Ms:List (Value×List Mp)}(h:Bd w W L Ms)(k:Nat){ms':List Mp}(hk:Ms[k]?=some (sl,ms))(hb:Below W.heap.size W W')(hM:qaz W' v ms')(ho:v=sl\/(0<ms'.length->W.heap.size<=mb v)):Bd w W' L ((v,ms')::Ms):=by
 rcases ho with rfl|ho
 ·exact h.addEither k hk hb hM (.inl rfl)
 ·exact h.addNew hb hM ho
theorem Bd.startM(h:qaz w sl ms):Bd w w [] [(sl,ms)]:=⟨by simp,by simp,by intro q hq;obtain rfl:=List.mem_singleton.1 hq;exact⟨h,by simp⟩,Below.refl _ _⟩
def qk0b:Code->Option Code
 | .loop c=>some c
 | .seq a b=>(qk0b a).or (qk0b b)
 | .block _ c=>qk0b c
 | .scope c=>qk0b c
 | .cond _ a b=>(qk0b a).or (qk0b b)
 | _=>none
def qr0b(F:Func):Code:=(F.body.bind qk0b).getD .skip
def WC(w:World)(f:Nat->Int)(g:Nat->Bool)(h:Nat->Int)(ms:List Mp)(m:Mp)(kb:Int)(b2 b3 b4 b7:Nat)(a0:Option Addr)(n cap:Nat)(a:Act)(W:World):Prop:=
 ∃u5 u6 u9 u10 u11 u12 u13 u14 u15 u16 u17 u18 u19 u20 u21 u22 u23 u24 u25 u26 u27 u28 u29 u30 u31 u32 u33 u34 u37 u38 u39 u40 u41 u42 u43 u44 u45 u46 u47 u48 u49 u50 u51 u52 u53 u54 u55 u56 u57 u58 u59 u60 u61 u62 u63 u64 u65 u66 u67 u68 u69 u70 u71 u72 u73 u74 u75 u76 u77 u78 u79 u80 u81 u82 u83 u84 u85 u86 u87 u88 u89 u90 u91 u92 u93 u94 u95 u96 u97 u98 u99 u100 u101 u102 u103 u104 u105 u106 u107:Value,(∃(j:Nat) (v:Value),j<=ms.length/\u37=I Z (j:Int)/\u11=I Z (qegb (qa6 (ms.take j) m) m kb:Int)/\u12=.bool (decide (m∈ms.take j))/\Bo w W [(b7,30,tc f g h v),(b4,30,tc (fun _=>0) (fun _=>false) (fun _=>0) (.slice none 0 0)),(b3,32,mc m),(b2,30,tc f g h (.slice a0 n cap))] v (qa6 (ms.take j) m))/\a=⟨#[(.agg (tc f g h (.slice a0 n cap))),(.agg (mc m)),V (some ⟨b2,0,none⟩),V (some ⟨b3,0,none⟩),V (some ⟨b4,0,none⟩),u5,u6,V (some ⟨b7,0,none⟩),I Z kb,u9,u10,u11,u12,u13,u14,u15,u16,u17,u18,u19,u20,u21,u22,u23,u24,u25,u26,u27,u28,u29,u30,u31,u32,u33,u34,(.slice a0 n cap),I Z (n:Int),u37,u38,u39,u40,u41,u42,u43,u44,u45,u46,u47,u48,u49,u50,u51,u52,u53,u54,u55,u56,u57,u58,u59,u60,u61,u62,u63,u64,u65,u66,u67,u68,u69,u70,u71,u72,u73,u74,u75,u76,u77,u78,u79,u80,u81,u82,u83,u84,u85,u86,u87,u88,u89,u90,u91,u92,u93,u94,u95,u96,u97,u98,u99,u100,u101,u102,u103,u104,u105,u106,u107],[]⟩
def WCmu(n:Nat)(a:Act)(_:World):Nat:=n-(intOf (a.tmps.getD 37 undef)).toNat
abbrev stC(w:World)(wr:World)(f:Nat->Int)(g:Nat->Bool)(h:Nat->Int)(ms:List Mp)(m:Mp)(kb:Int)(b2:Nat)(b3:Nat)(b4:Nat)(b7:Nat)(a0:Option Addr)(n:Nat)(cap:Nat)(lv:Nat)(th:Bool)(j:Nat)(Q0:Exit->Act->World->Prop):Prop:=∀u5 u6 u9 u10 u13 u14 u15 u16 u17 u18 u19 u20 u21 u22 u23 u24 u25 u26 u27 u28 u29 u30 u31 u32 u33 u34 u38 u39 u40 u41 u42 u43 u44 u45 u46 u47 u48 u49 u50 u51 u52 u53 u54 u55 u56 u57 u58 u59 u60 u61 u62 u63 u64 u65 u66 u67 u68 u69 u70 u71 u72 u73 u74 u75 u76 u77 u78 u79 u80 u81 u82 u83 u84 u85 u86 u87 u88 u89 u90 u91 u92 u93 u94 u95 u96 u97 u98 u99 u100 u101 u102 u103 u104 u105 u106 u107:Value,
  Code.wp prog (qr0b f23) (Exit.then (fun a' W=>WC w f g h ms m kb b2 b3 b4 b7 a0 n cap a' W/\WCmu n a' W<WCmu n ⟨#[(.agg (tc f g h (.slice a0 n cap))),(.agg (mc m)),V (some ⟨b2,0,none⟩),V (some ⟨b3,0,none⟩),V (some ⟨b4,0,none⟩),u5,u6,V (some ⟨b7,0,none⟩),I Z kb,u9,u10,I Z (lv:Int),.bool th,u13,u14,u15,u16,u17,u18,u19,u20,u21,u22,u23,u24,u25,u26,u27,u28,u29,u30,u31,u32,u33,u34,(.slice a0 n cap),I Z (n:Int),I Z (j:Int),u38,u39,u40,u41,u42,u43,u44,u45,u46,u47,u48,u49,u50,u51,u52,u53,u54,u55,u56,u57,u58,u59,u60,u61,u62,u63,u64,u65,u66,u67,u68,u69,u70,u71,u72,u73,u74,u75,u76,u77,u78,u79,u80,u81,u82,u83,u84,u85,u86,u87,u88,u89,u90,u91,u92,u93,u94,u95,u96,u97,u98,u99,u100,u101,u102,u103,u104,u105,u106,u107],[]⟩ wr) Q0) ⟨#[(.agg (tc f g h (.slice a0 n cap))),(.agg (mc m)),V (some ⟨b2,0,none⟩),V (some ⟨b3,0,none⟩),V (some ⟨b4,0,none⟩),u5,u6,V (some ⟨b7,0,none⟩),I Z kb,u9,u10,I Z (lv:Int),.bool th,u13,u14,u15,u16,u17,u18,u19,u20,u21,u22,u23,u24,u25,u26,u27,u28,u29,u30,u31,u32,u33,u34,(.slice a0 n cap),I Z (n:Int),I Z (j:Int),u38,u39,u40,u41,u42,u43,u44,u45,u46,u47,u48,u49,u50,u51,u52,u53,u54,u55,u56,u57,u58,u59,u60,u61,u62,u63,u64,u65,u66,u67,u68,u69,u70,u71,u72,u73,u74,u75,u76,u77,u78,u79,u80,u81,u82,u83,u84,u85,u86,u87,u88,u89,u90,u91,u92,u93,u94,u95,u96,u97,u98,u99,u100,u101,u102,u103,u104,u105,u106,u107],[]⟩ wr
theorem qrsb(j:Nat)(B:Bo w wr [(b7,30,tc f g h (.slice ao dl co)),(b4,30,tc (fun _=>0) (fun _=>false) (fun _=>0) (.slice none 0 0)),(b3,32,mc m),(b2,30,tc f g h (.slice a0 n cap))] (.slice ao dl co) D)(hdl0:Hid (dl=D.length))(HN:Hid (n=ms.length))(hM:qaz w (.slice a0 n cap) ms)(hlj:j<ms.length)(hm:ms[j]=q)(hdl2:dl<=1000)(hlv2:lv<=1000)(EQ:∀w,(Op.equalIn 10000 32 (.agg (mc q)) (.agg (mc m))).run prog w=.ok true w)(HSD:Hid (qa6 (ms.take (j+1)) m=D))(HTH:Hid (decide (m∈ms.take (j+1))=true))(HLV:Hid (qegb D m kb=lv))(Q0:Exit->Act->World->Prop):
  stC w wr f g h ms m kb b2 b3 b4 b7 a0 n cap lv th j Q0:=by
 unfold stC;intros
 conv=>arg 2;whnf
 have hlt:=hM.lt;refine m0h ?_;intro hjn hjw;refine m1w ?_;intro hMW hrg hlw HJ i0 hi hz0 hz1 hz2;clear hlv2
 go_wp2_with (first|((with_reducible refine qaa (.indexAddr 28 (.tmp 35) (.tmp 37)) rfl ?_);refine m3f ?_)|((with_reducible refine gL 32 39 ?_);refine m27 ?_)|((with_reducible refine gA 32 ?_);refine m15 ?_;clear B;intro b14 w9 B)|((with_reducible refine gS 32 14 40 ?_);refine m52 ?_;refine m09 ?_;clear B;intro w9 B;refine m31 ?_;intro cM)|((with_reducible refine gL 32 14 ?_);refine m5d ?_)|((with_reducible refine gL 32 3 ?_);refine m5k ?_)|((with_reducible refine qaa (.binOp .eql 32 (.tmp 41) (.tmp 42) 32) rfl ?_);refine qb1 32 (.tmp 41) (.tmp 42) rfl kr (mc q) (mc m) rfl rfl eqGuardType32 _ true (EQ _) rfl ?_))
 (refine⟨?_,?measure⟩;unfold WC;(repeat apply Exists.intro);refine⟨?rel,rfl⟩)
 case rel=>first|exact⟨j+1,_,HJ.out,(by first|exact qj2b j|exact qj0b hjw),(by rw[HSD.out,HLV.out]),(by rw[HTH.out]),by rw[HSD.out];exact B.tail⟩|exact⟨j+1,_,HJ.out,(by first|exact qj2b j|exact qj0b hjw),(by rw[HSD.out,HLV.out];exact qj2b lv),(by rw[HTH.out]),by rw[HSD.out];exact B.tail⟩|exact⟨j+1,_,HJ.out,(by first|exact qj2b j|exact qj0b hjw),(by rw[HSD.out,HLV.out];exact qj0b hlw),(by rw[HTH.out]),by rw[HSD.out];exact B.tail⟩
 case measure=>unfold WCmu;(first|rw[hjw]|skip);exact qek (HN.out.symm▸hlj)
theorem qrxb(j:Nat)(B:Bo w wr [(b7,30,tc f g h (.slice ao dl co)),(b4,30,tc (fun _=>0) (fun _=>false) (fun _=>0) (.slice none 0 0)),(b3,32,mc m),(b2,30,tc f g h (.slice a0 n cap))] (.slice ao dl co) D)(hdl0:Hid (dl=D.length))(HN:Hid (n=ms.length))(hM:qaz w (.slice a0 n cap) ms)(hlj:j<ms.length)(hm:ms[j]=q)(hdl2:dl<=1000)(hlv2:lv<=1000)(EQ:∀w,(Op.equalIn 10000 32 (.agg (mc q)) (.agg (mc m))).run prog w=.ok false w)(CBq:∀w,Calls prog 15 #[I Z q.2.2.2.2] w fun e w'=>e=.returned (.tuple #[I Z (blkQ q.2.2.2.2),I Z kq,.bool true])/\w'=w)(HSD:Hid (qa6 (ms.take (j+1)) m=D++[q]))(HTH:Hid (decide (m∈ms.take (j+1))=th))(HLV:Hid (qegb (D++[q]) m kb=lv+1))(g1:(q.2.2.2.1==m.2.2.2.1)=true)(g2:(blkQ q.2.2.2.2==kb)=true)(Q0:Exit->Act->World->Prop):
  stC w wr f g h ms m kb b2 b3 b4 b7 a0 n cap lv th j Q0:=by
 unfold stC;intros
 conv=>arg 2;whnf
 have hlt:=hM.lt;refine m0h ?_;intro hjn hjw;refine m1w ?_;intro hMW hrg hlw HJ i0 hi hz0 hz1 hz2;clear hlv2
 go_wp2_with (first|((with_reducible refine qaa (.indexAddr 28 (.tmp 35) (.tmp 37)) rfl ?_);refine m3f ?_)|((with_reducible refine gL 32 39 ?_);refine m27 ?_)|((with_reducible refine gA 32 ?_);refine m15 ?_;clear B;intro b14 w9 B)|((with_reducible refine gS 32 14 40 ?_);refine m52 ?_;refine m09 ?_;clear B;intro w9 B;refine m31 ?_;intro cM)|((with_reducible refine gL 32 14 ?_);refine m5d ?_)|((with_reducible refine gL 32 3 ?_);refine m5k ?_)|((with_reducible refine qaa (.binOp .eql 32 (.tmp 41) (.tmp 42) 32) rfl ?_);refine m3d ?_)|((with_reducible refine q5i ?_);refine qkl rfl (.tmp 46) rfl q rfl ?_)|((with_reducible refine qaa (.call { callee:=.builtin .append,args:=#[.tmp 45,.tmp 47],argTypes:=#[28,28] }) rfl ?_);refine m0m ?_;clear cM B;intro v4 w8 hown4 B;obtain⟨a4,c4,rfl⟩:=qkx hown4;clear hown4)|((with_reducible refine gS 28 49 48 ?_);refine m38 ?_;refine m20 ?_;clear B;intro w9 B)|((with_reducible refine gL 3 51 ?_);refine fx (B.row 0 rfl) _ 4 (q.2.2.2.2) ?_)|((with_reducible refine gL 3 57 ?_);refine fx (B.row 0 rfl) _ 3 (q.2.2.2.1) ?_)|((with_reducible refine gL 3 59 ?_);refine fx (B.row 3 rfl) _ 3 (m.2.2.2.1) ?_)|(go_at_call 15;go_fit (CBq _);refine m2v ?_))
 (refine⟨?_,?measure⟩;unfold WC;(repeat apply Exists.intro);refine⟨?rel,rfl⟩)
 case rel=>exact⟨j+1,_,HJ.out,(by first|exact qj2b j|exact qj0b hjw),(by first|(rw[HSD.out,HLV.out];done)|(rw[HSD.out,HLV.out];exact qj2b lv)|(rw[HSD.out,HLV.out];exact qj0b hlw)),(by rw[HTH.out]),by rw[HSD.out];exact B.tail⟩
 case measure=>unfold WCmu;(first|rw[hjw]|skip);exact qek (HN.out.symm▸hlj)
theorem qrqb(j:Nat)(B:Bo w wr [(b7,30,tc f g h (.slice ao dl co)),(b4,30,tc (fun _=>0) (fun _=>false) (fun _=>0) (.slice none 0 0)),(b3,32,mc m),(b2,30,tc f g h (.slice a0 n cap))] (.slice ao dl co) D)(hdl0:Hid (dl=D.length))(HN:Hid (n=ms.length))(hM:qaz w (.slice a0 n cap) ms)(hlj:j<ms.length)(hm:ms[j]=q)(hdl2:dl<=1000)(hlv2:lv<=1000)(EQ:∀w,(Op.equalIn 10000 32 (.agg (mc q)) (.agg (mc m))).run prog w=.ok false w)(CBq:∀w,Calls prog 15 #[I Z q.2.2.2.2] w fun e w'=>e=.returned (.tuple #[I Z (blkQ q.2.2.2.2),I Z kq,.bool true])/\w'=w)(HSD:Hid (qa6 (ms.take (j+1)) m=D++[q]))(HTH:Hid (decide (m∈ms.take (j+1))=th))(HLV:Hid (qegb (D++[q]) m kb=lv))(g1:(q.2.2.2.1==m.2.2.2.1)=true)(g2:(blkQ q.2.2.2.2==kb)=false)(Q0:Exit->Act->World->Prop):
  stC w wr f g h ms m kb b2 b3 b4 b7 a0 n cap lv th j Q0:=by
 unfold stC;intros
 conv=>arg 2;whnf
 have hlt:=hM.lt;refine m0h ?_;intro hjn hjw;refine m1w ?_;intro hMW hrg hlw HJ i0 hi hz0 hz1 hz2;clear hlv2
 go_wp2_with (first|((with_reducible refine qaa (.indexAddr 28 (.tmp 35) (.tmp 37)) rfl ?_);refine m3f ?_)|((with_reducible refine gL 32 39 ?_);refine m27 ?_)|((with_reducible refine gA 32 ?_);refine m15 ?_;clear B;intro b14 w9 B)|((with_reducible refine gS 32 14 40 ?_);refine m52 ?_;refine m09 ?_;clear B;intro w9 B;refine m31 ?_;intro cM)|((with_reducible refine gL 32 14 ?_);refine m5d ?_)|((with_reducible refine gL 32 3 ?_);refine m5k ?_)|((with_reducible refine qaa (.binOp .eql 32 (.tmp 41) (.tmp 42) 32) rfl ?_);refine m3d ?_)|((with_reducible refine q5i ?_);refine qkl rfl (.tmp 46) rfl q rfl ?_)|((with_reducible refine qaa (.call { callee:=.builtin .append,args:=#[.tmp 45,.tmp 47],argTypes:=#[28,28] }) rfl ?_);refine m0m ?_;clear cM B;intro v4 w8 hown4 B;obtain⟨a4,c4,rfl⟩:=qkx hown4;clear hown4)|((with_reducible refine gS 28 49 48 ?_);refine m38 ?_;refine m20 ?_;clear B;intro w9 B)|((with_reducible refine gL 3 51 ?_);refine fx (B.row 0 rfl) _ 4 (q.2.2.2.2) ?_)|((with_reducible refine gL 3 57 ?_);refine fx (B.row 0 rfl) _ 3 (q.2.2.2.1) ?_)|((with_reducible refine gL 3 59 ?_);refine fx (B.row 3 rfl) _ 3 (m.2.2.2.1) ?_)|(go_at_call 15;go_fit (CBq _);refine m2v ?_))
 (refine⟨?_,?measure⟩;unfold WC;(repeat apply Exists.intro);refine⟨?rel,rfl⟩)
 case rel=>first|exact⟨j+1,_,HJ.out,(by first|exact qj2b j|exact qj0b hjw),(by rw[HSD.out,HLV.out]),(by rw[HTH.out]),by rw[HSD.out];exact B.tail⟩|exact⟨j+1,_,HJ.out,(by first|exact qj2b j|exact qj0b hjw),(by rw[HSD.out,HLV.out];exact qj2b lv),(by rw[HTH.out]),by rw[HSD.out];exact B.tail⟩|exact⟨j+1,_,HJ.out,(by first|exact qj2b j|exact qj0b hjw),(by rw[HSD.out,HLV.out];exact qj0b hlw),(by rw[HTH.out]),by rw[HSD.out];exact B.tail⟩
 case measure=>unfold WCmu;(first|rw[hjw]|skip);exact qek (HN.out.symm▸hlj)
theorem qrvb(j:Nat)(B:Bo w wr [(b7,30,tc f g h (.slice ao dl co)),(b4,30,tc (fun _=>0) (fun _=>false) (fun _=>0) (.slice none 0 0)),(b3,32,mc m),(b2,30,tc f g h (.slice a0 n cap))] (.slice ao dl co) D)(hdl0:Hid (dl=D.length))(HN:Hid (n=ms.length))(hM:qaz w (.slice a0 n cap) ms)(hlj:j<ms.length)(hm:ms[j]=q)(hdl2:dl<=1000)(hlv2:lv<=1000)(EQ:∀w,(Op.equalIn 10000 32 (.agg (mc q)) (.agg (mc m))).run prog w=.ok false w)(CBq:∀w,Calls prog 15 #[I Z q.2.2.2.2] w fun e w'=>e=.returned (.tuple #[I Z (blkQ q.2.2.2.2),I Z kq,.bool true])/\w'=w)(HSD:Hid (qa6 (ms.take (j+1)) m=D++[q]))(HTH:Hid (decide (m∈ms.take (j+1))=th))(HLV:Hid (qegb (D++[q]) m kb=lv))(g1:(q.2.2.2.1==m.2.2.2.1)=false)(Q0:Exit->Act->World->Prop):
  stC w wr f g h ms m kb b2 b3 b4 b7 a0 n cap lv th j Q0:=by
 unfold stC;intros
 conv=>arg 2;whnf
 have hlt:=hM.lt;refine m0h ?_;intro hjn hjw;refine m1w ?_;intro hMW hrg hlw HJ i0 hi hz0 hz1 hz2;clear hlv2
 go_wp2_with (first|((with_reducible refine qaa (.indexAddr 28 (.tmp 35) (.tmp 37)) rfl ?_);refine m3f ?_)|((with_reducible refine gL 32 39 ?_);refine m27 ?_)|((with_reducible refine gA 32 ?_);refine m15 ?_;clear B;intro b14 w9 B)|((with_reducible refine gS 32 14 40 ?_);refine m52 ?_;refine m09 ?_;clear B;intro w9 B;refine m31 ?_;intro cM)|((with_reducible refine gL 32 14 ?_);refine m5d ?_)|((with_reducible refine gL 32 3 ?_);refine m5k ?_)|((with_reducible refine qaa (.binOp .eql 32 (.tmp 41) (.tmp 42) 32) rfl ?_);refine m3d ?_)|((with_reducible refine q5i ?_);refine qkl rfl (.tmp 46) rfl q rfl ?_)|((with_reducible refine qaa (.call { callee:=.builtin .append,args:=#[.tmp 45,.tmp 47],argTypes:=#[28,28] }) rfl ?_);refine m0m ?_;clear cM B;intro v4 w8 hown4 B;obtain⟨a4,c4,rfl⟩:=qkx hown4;clear hown4)|((with_reducible refine gS 28 49 48 ?_);refine m38 ?_;refine m20 ?_;clear B;intro w9 B)|((with_reducible refine gL 3 51 ?_);refine fx (B.row 0 rfl) _ 4 (q.2.2.2.2) ?_)|((with_reducible refine gL 3 57 ?_);refine fx (B.row 0 rfl) _ 3 (q.2.2.2.1) ?_)|((with_reducible refine gL 3 59 ?_);refine fx (B.row 3 rfl) _ 3 (m.2.2.2.1) ?_)|(go_at_call 15;go_fit (CBq _);refine m2v ?_))
 (refine⟨?_,?measure⟩;unfold WC;(repeat apply Exists.intro);refine⟨?rel,rfl⟩)
 case rel=>first|exact⟨j+1,_,HJ.out,(by first|exact qj2b j|exact qj0b hjw),(by rw[HSD.out,HLV.out]),(by rw[HTH.out]),by rw[HSD.out];exact B.tail⟩|exact⟨j+1,_,HJ.out,(by first|exact qj2b j|exact qj0b hjw),(by rw[HSD.out,HLV.out];exact qj2b lv),(by rw[HTH.out]),by rw[HSD.out];exact B.tail⟩|exact⟨j+1,_,HJ.out,(by first|exact qj2b j|exact qj0b hjw),(by rw[HSD.out,HLV.out];exact qj0b hlw),(by rw[HTH.out]),by rw[HSD.out];exact B.tail⟩
 case measure=>unfold WCmu;(first|rw[hjw]|skip);exact qek (HN.out.symm▸hlj)
theorem qowb{l:List Mp}(hall:∀o∈l,qdb f h o)(hs:qdb f h m):qegb l m (blkQ m.2.2.2.2)=0↔l.any (fun o=>qa7 o==qa7 m)=false:=by
 have key:∀o∈l,(o.2.2.2.1==m.2.2.2.1&&blkQ o.2.2.2.2==blkQ m.2.2.2.2)=(qa7 o==qa7 m):=by
  intro o ho;have so:=hall o ho
  have:=qrg so.2.2.2.2.1 so.2.2.2.1 hs.2.2.2.2.1 hs.2.2.2.1
  rw[Bool.eq_iff_iff,Bool.and_eq_true,beq_iff_eq,beq_iff_eq,beq_iff_eq]
  unfold blkQ qa7
  exact this.symm
 unfold qegb
 rw[List.length_eq_zero_iff,List.filter_eq_nil_iff,List.any_eq_false]
 constructor
 ·intro hh o ho;rw[←key o ho];exact hh o ho
 ·intro hh o ho;rw[key o ho];exact hh o ho
def anyR(F:Nat->Int)(a k:Nat)(s:Int):Bool:=(List.range k).any fun i=>F (6*a+i)==s+1
theorem qo3b(F:Nat->Int)(a k:Nat)(s:Int):anyR F a (k+1) s=(anyR F a k s||F (6*a+k)==s+1):=by
 unfold anyR;rw[List.range_succ,List.any_append];simp
theorem qonb(G:qbq f h ms)(hm:m∈ms):anyR (qdx f m) m.2.2.2.1.toNat 6 m.2.1=true↔(qbk (qdx f m) m.2.1).length≠0:=by
 have st:=G.maps.1 m hm
 unfold anyR
 rw[List.any_eq_true,Nat.ne_zero_iff_zero_lt,List.length_pos_iff_exists_mem]
 constructor
 ·rintro⟨i,hi,e⟩
  (have hi6:i<6:=by simpa using hi)
  refine⟨6*m.2.2.2.1.toNat+i,(qjt _ _ _).2 ⟨by have:=st.2.2.2.2.1;omega,by simpa using e⟩⟩
 ·rintro⟨k,hk⟩
  rw[qjt] at hk
  have hf:f k=m.2.1+1:=by
   have h2:=hk.2
   unfold qdx upd at h2
   split at h2
   ·have:=st.2.1.1;omega
   ·exact h2
  have ha:=G.at st.2.1 ((qjt f m.2.1 k).2 ⟨hk.1,hf⟩)
  rw[st.2.2.2.2.2.1] at ha
  refine⟨k%6,by simp;omega,?_⟩
  (rw[show 6*m.2.2.2.1.toNat+k%6=k by omega])
  simpa using hk.2
theorem Row.six(R:Row 30 w b (tc f g h sl)){a:Nat}(ha:a<3):w.rangeAt b (6*a) (r6 (rowF f a)).toList:=R.range (fun j v hv=>by
 have hj:j<6:=(List.getElem?_eq_some_iff.1 hv).1
 have e:v=I Z (rowF f a j):=by
  rcases(show j=0\/j=1\/j=2\/j=3\/j=4\/j=5 by omega) with rfl|rfl|rfl|rfl|rfl|rfl<;>exact(Option.some.inj hv).symm
 subst e
 exact qvl f g h sl (6*a+j) om)
theorem qphb(h:Nat->Int):(prog.info? 22).map (·.size)=some (r6 h).toList.length:=by kernel_rfl
theorem qqrb(h:Nat->Int):(r6 h).toList.toArray=r6 h:=rfl
theorem qm9b{k:Nat}(h:k<6):6-((k:Int)+1).toNat<6-((k:Int)).toNat:=by omega
def qpgb(w:World)(f:Nat->Int)(g:Nat->Bool)(h:Nat->Int)(sl:Value)(ms:List Mp)(m:Mp)(w':World)(e:Ending):Prop:=
 (m ∉ ms->e=.returned (.tuple #[.agg (tc f g h sl),.bool false,I Z 7]))/\
 (m∈ms->∃v,qaz w' v (qa6 ms m)/\(0<(qa6 ms m).length->w.heap.size<=mb v)/\((qa6 ms m).any (fun o=>qa7 o==qa7 m)=true->e=.returned (.tuple #[.agg (tc f g h v),.bool false,I Z 0]))/\
  ((qa6 ms m).any (fun o=>qa7 o==qa7 m)=false->e=.returned (.tuple #[.agg (tc (qdx f m) g (qux f h m) v),.bool true,I Z 0])))
theorem sZbd123(h:p:=by
 go_roundw
 case rel=>exact⟨k+1,by omega,(by first|exact qj2b k|exact qj0b hjw),by rw[HST.out];simp,B⟩
 case measure=>(first|rw[hjw]|skip);exact qm9b hk6):p:=h
theorem qm4b(f:Nat->Int)(g:Nat->Bool)(h:Nat->Int)(sl:Value)(ms:List Mp)(m:Mp)(CG:∀w,qaz w sl ms->Calls prog 17 #[.agg (tc f g h sl)] w fun e w'=>∃r:Bool,(r=true↔qbq f h ms)/\e=.returned (.bool r)/\Below w.heap.size w w')(hG:qbq f h ms)(w:World)(hM:qaz w sl ms):
  Calls prog 23 #[.agg (tc f g h sl),.agg (mc m)] w fun e w'=>qpgb w f g h sl ms m w' e/\Below w.heap.size w w':=by
 have B:=Bd.start w;have hM0:=hM
 obtain⟨a0,cap,hsl,-⟩:=hM0
 obtain⟨n,hn⟩:∃n,n=ms.length:=⟨_,rfl⟩
 have HN:Hid (n=ms.length):=hn
 rw[←hn] at hsl
 subst hsl
 clear hn;have hlt:=hM.lt;have HG:Hid (qbq f h ms):=hG;obtain⟨i0,hi,hz0,hz1,hz2⟩:=info_parts qnm;have hl9:ms.length<=1000:=Nat.le_trans hG.len (by decide)
 obtain⟨kb,ki,kf,CBm,HKB⟩:∃(kb ki:Int) (kf:Bool),(∀w,Calls prog 15 #[I Z m.2.2.2.2] w fun e w'=>e=.returned (.tuple #[I Z kb,I Z ki,.bool kf])/\w'=w)/\Hid (1024<=m.2.2.2.2/\m.2.2.2.2<1072->kb=blkQ m.2.2.2.2):=by
  by_cases hq:1024<=m.2.2.2.2/\m.2.2.2.2<1072
  ·exact⟨_,_,_,fun w=>qkzb _ w hq,hidB fun _=>rfl⟩
  ·exact⟨_,_,_,fun w=>qnsb _ w hq,hidB fun h=>absurd h hq⟩
 clear hG
 go_enter func23,ntmps23
 go_wp2_with (first|((with_reducible refine gB 30 0 ?_);refine m0v ?_;refine m3x ?_;clear B;intro b2 w9 B)|((with_reducible refine gB 32 1 ?_);refine m2z ?_;clear B;intro b3 w9 B)|((with_reducible refine gA 30 ?_);refine m4t ?_;clear B;intro b4 w9 B)|((with_reducible refine gL 30 2 ?_);refine m3l ?_)|(go_at_call 17;refine m3k ?_;rintro e w5 ⟨r,hr,rfl,hb5⟩;obtain rfl:r=true:=(hr.2 HG.out);clear hr;replace B:=B.below hb5;clear hb5)|((with_reducible refine gA 30 ?_);refine m3i ?_;clear B;intro b7 w9 B)|((with_reducible refine gS 30 7 25 ?_);refine qab 30 rfl (.tmp 7) _ rfl b7 rfl (tc f g h (.slice a0 n cap)) rfl _ (B.row 0 rfl) (qen _ _ _ _ _ _ _ _) (qaq _ _ _ _) (qbm _ _ _ _ _ _) ?_;refine m09 ?_;clear B;intro w9 B)|((with_reducible refine qaa (.store 28 (.tmp 26) (.const (.slice none 0 0))) rfl ?_);refine qh1 (B.row 0 rfl) rfl _ _ rfl 29 rfl _ _ _ rfl _ (qdw _ _ _ _) (tc f g h (.slice none 0 0)) (qm0 _ _ _ _ _) ?_;refine m09 ?_;clear B;intro w9 B;have cM:World.cell? _ ⟨b2,29,none⟩=some (.slice a0 n cap):=((B.row 3 rfl).cell 29).trans (qdw _ _ _ _))|((with_reducible refine gL 3 28 ?_);refine fx (B.row 2 rfl) _ 4 (m.2.2.2.2) ?_)|(go_at_call 15;go_fit (CBm _);refine m2v ?_))
 clear cM CBm
 refine wp_loop (WC w f g h ms m kb b2 b3 b4 b7 a0 n cap) (WCmu n) ?_ ?_
 ·unfold WC
  (repeat apply Exists.intro)
  refine⟨?_,rfl⟩
  exact⟨0,.slice none 0 0,by omega,rfl,by simp[qa6,qegb],by simp,by simpa[qa6] using B.bo⟩
 ·clear B;intro a W hI
  unfold WC at hI
  iterate 99 (obtain⟨_,hI⟩:=hI)
  obtain⟨hrel,rfl⟩:=hI
  obtain⟨j,v,hj,rfl,rfl,rfl,B⟩:=hrel
  by_cases hlj:j<ms.length
  ·obtain⟨q,hm⟩:∃q,ms[j]=q:=⟨_,rfl⟩
   have hst:=qzu (m:=m) hlj hm;have hme:=qpub (m:=m) hlj hm;have hdl:=q5x ms m j;have hqs:=HG.out.maps.1 q (hm▸List.getElem_mem hlj)
   obtain⟨D,hD⟩:∃D,D=qa6 (ms.take j) m:=⟨_,rfl⟩
   obtain⟨th,hth⟩:∃th,th=decide (m∈ms.take j):=⟨_,rfl⟩
   obtain⟨lv,hlv⟩:∃lv:Nat,lv=qegb D m kb:=⟨_,rfl⟩
   (have hlv2:lv<=1000:=by have:=qqcb D m kb;have:=hD▸hdl;omega)
   rw[←hD] at B hst hdl
   rw[←hD,←hth,←hlv]
   rw[←hth] at hme
   obtain⟨ao,co,hv⟩:=qkx B.own
   obtain⟨dl,hdl0⟩:∃dl,Hid (dl=D.length):=⟨_,rfl⟩
   rw[←hdl0.out] at hv
   subst hv
   (have CBq:=fun w=>qkzb q.2.2.2.2 w hqs.2.2.2.1);(have hdl2:dl<=1000:=by have:=hdl0.out;omega)
   by_cases hqm:q=m
   ·rw[if_pos hqm,List.append_nil] at hst
    apply qrsb j B hdl0 HN hM hlj hm hdl2 hlv2 (fun w=>by rw[qkb];simp[hqm]) hst (hidB (by rw[hme];simp[hqm])) hlv.symm _
   ·rw[if_neg hqm] at hst
    have HTH:Hid (decide (m∈ms.take (j+1))=th):=hidB (by rw[hme];simp[hqm]);(have EQ:∀w,(Op.equalIn 10000 32 (.agg (mc q)) (.agg (mc m))).run prog w=.ok false w:=fun w=>by rw[qkb];simp[hqm])
    by_cases hA:q.2.2.2.1=m.2.2.2.1
    ·(have g1:(q.2.2.2.1==m.2.2.2.1)=true:=by simpa using hA)
     by_cases hK:blkQ q.2.2.2.2=kb
     ·(have g2:(blkQ q.2.2.2.2==kb)=true:=by simpa using hK)
      apply qrxb j B hdl0 HN hM hlj hm hdl2 hlv2 EQ CBq hst HTH (hidB (by rw[ql4b,g1,g2,←hlv];rfl)) g1 g2 _
     ·(have g2:(blkQ q.2.2.2.2==kb)=false:=by simpa using hK)
      apply qrqb j B hdl0 HN hM hlj hm hdl2 hlv2 EQ CBq hst HTH (hidB (by rw[ql4b,g1,g2,←hlv];rfl)) g1 g2 _
    ·(have g1:(q.2.2.2.1==m.2.2.2.1)=false:=by simpa using hA)
     apply qrvb j B hdl0 HN hM hlj hm hdl2 hlv2 EQ CBq hst HTH (hidB (by rw[ql4b,g1,←hlv];rfl)) g1 _
  ·(have e:j=ms.length:=by omega)
   subst e
   (have hjn:¬((ms.length:Nat):Int)<(n:Int):=by have:=HN.out;omega)
   rw[List.take_length] at B ⊢
   have HL9:Hid ((qa6 ms m).length<=140737488355328):=hidB (by have:=q5x ms m ms.length;rw[List.take_length] at this;omega);obtain⟨ao,co,hv⟩:=qkx B.own
   obtain⟨dl,hdl0⟩:∃dl,Hid (dl=(qa6 ms m).length):=⟨_,rfl⟩
   rw[←hdl0.out] at hv
   subst hv
   clear hj hlj hi hz0 hz1 hz2 hl9
   by_cases hmm:m∈ms
   ·(have e12:decide (m∈ms)=true:=by simpa using hmm);rw[e12];have st:=HG.out.maps.1 m hmm;have hkb:=HKB.out st.2.2.2.1;(have hla:=qowb (fun o ho=>HG.out.maps.1 o (qqd ho)) st (l:=qa6 ms m))
    rw[←hkb] at hla
    obtain⟨lv,hlv⟩:∃lv:Nat,lv=qegb (qa6 ms m) m kb:=⟨_,rfl⟩
    rw[←hlv] at hla ⊢
    have HMM:Hid (m∈ms):=hmm;have HLA:Hid (lv=0↔(qa6 ms m).any (fun o=>qa7 o==qa7 m)=false):=hla
    by_cases h0:lv=0
    ·have HPL:Hid (qa7 m=6*m.2.2.2.1.toNat+kb.toNat):=hidB (by rw[hkb];unfold qa7 qdi blkQ;rfl)
     obtain⟨aN,haN⟩:∃aN:Nat,m.2.2.2.1=(aN:Int):=⟨m.2.2.2.1.toNat,by have:=st.2.2.2.2.1;omega⟩
     obtain⟨kN,hkN⟩:∃kN:Nat,kb=(kN:Int):=⟨kb.toNat,by have:=st.2.2.2.1;rw[hkb];unfold blkQ;omega⟩
     obtain⟨sN,hsN⟩:∃sN:Nat,m.2.1=(sN:Int):=⟨m.2.1.toNat,by have:=st.2.1;omega⟩
     have HA:Hid (m.2.2.2.1=(aN:Int)):=haN;have HS:Hid (m.2.1=(sN:Int)):=hsN;(have ha3:aN<3:=by have:=st.2.2.2.2.1;omega);(have hk6:kN<6:=by have:=st.2.2.2.1;rw[hkb] at hkN;unfold blkQ at hkN;omega);(have hs8:sN<8:=by have:=st.2.1;omega);have HP2:Hid (qa7 m=6*aN+kN):=hidB (by rw[HPL.out,haN,hkN];simp);have H18:Hid (6*aN+kN<18):=hidB om;have HA3:Hid (aN<3):=ha3;have HS8:Hid (sN<8):=hs8;(have I3:=fun b w=>ix3 b 0 aN ha3 w);(have I6:=fun b w=>ix6 b (6*aN) kN hk6 w);(have I8:=fun b w=>ix8 b 21 sN hs8 w)
     simp only[Nat.zero_add] at I3
     (have hlz:¬(0:Int)<(lv:Int):=by omega);(have hsw:wrap64 ((sN:Int)+1)=(sN:Int)+1:=by unfold wrap64;omega);have HR:Hid (anyR (qdx f m) aN 6 (sN:Int)=true↔(qbk (qdx f m) m.2.1).length≠0):=hidB (by have:=qonb HG.out hmm;rw[haN,hsN] at this;simp only[Int.toNat_natCast] at this;rw[hsN];exact this);have HLZ:Hid ((qa6 ms m).any (fun o=>qa7 o==qa7 m)=false):=hidB (hla.1 h0);clear hla hlv h0 st hkb ha3 hk6 hs8 haN hsN hmm e12
     subst hkN
     go_wp2_with (first|((with_reducible refine gL 3 76 ?_);refine qae (B.row 2 rfl) _ rfl kr 3 rfl (aN:Int) (by rw[←HA.out];rfl) ?_)|((with_reducible refine gL 3 83 ?_);refine qae (B.row 2 rfl) _ rfl kr 3 rfl (aN:Int) (by rw[←HA.out];rfl) ?_)|((with_reducible refine qaa (.store 3 (.tmp 82) (.const (I Z 0))) rfl ?_);refine qbb (B.row 0 rfl) rfl _ _ rfl (6*aN+kN) rfl 0 rfl _ (qvl _ _ _ _ _ H18.out) (tc (qdx f m) g h (.slice ao dl co)) (by rw[q9h _ _ _ _ _ _ H18.out,←HP2.out];rfl) ?_;refine m09 ?_;clear B;intro w9 B;have hrg:=(B.row 0 rfl).six HA3.out)|((with_reducible refine gL 22 87 ?_);refine wpList_load_mid rfl 22 (.tmp 87) rfl _ _ rfl (r6 (rowF (qdx f m) aN)).toList _ hrg underlying22 rfl (qphb _) ?_;rw[qqrb];clear hrg))
     go_loopw [18,89] (fun t i W=>∃k:Nat,k<=6/\i=I Z (k:Int)/\t=.bool (anyR (qdx f m) aN k (sN:Int))/\Bo w W [(b7,30,tc (qdx f m) g h (.slice ao dl co)),(b4,30,tc (fun _=>0) (fun _=>false) (fun _=>0) (.slice none 0 0)),(b3,32,mc m),(b2,30,tc f g h (.slice a0 n cap))] (.slice ao dl co) (qa6 ms m)) (fun _ i _=>6-(intOf i).toNat)
     case atStart=>exact⟨0,by omega,rfl,by simp[anyR],B⟩
     case round=>
      clear B
      obtain⟨k,hk,rfl,rfl,B⟩:=hrel
      by_cases hk6:k<6
      ·(have hki:(k:Int)<6:=by omega);(have IX:=fun w=>q5y (rowF (qdx f m) aN) k hk6 w);(have hjw:wrap64 ((k:Int)+1)=(k:Int)+1:=by unfold wrap64;omega);have HST:Hid (anyR (qdx f m) aN (k+1) (sN:Int)=(anyR (qdx f m) aN k (sN:Int)||rowF (qdx f m) aN k==(sN:Int)+1)):=hidB (qo3b _ _ _ _)
       obtain⟨x,hx⟩:∃x,rowF (qdx f m) aN k=x:=⟨_,rfl⟩
       rw[hx] at IX HST
       clear hx
       obtain⟨t,ht⟩:∃t,anyR (qdx f m) aN k (sN:Int)=t:=⟨_,rfl⟩
       rw[ht] at HST ⊢
       clear ht
       cases t with
       | true=>
        go_wp2
        exact sZbd123
       | false=>
        go_wp2_with (first|((with_reducible refine gL 3 95 ?_);refine qae (B.row 2 rfl) _ rfl kr 1 rfl (sN:Int) (by rw[←HS.out];rfl) ?_))
        exact sZbd123
      ·(have e6:k=6:=by omega)
       subst e6
       cases hr6:anyR (qdx f m) aN 6 (sN:Int) with
       | true=>
        (have HZ:Hid (qux f h m=h):=hidB (by unfold qux;rw[if_neg (HR.out.1 hr6)]));clear hr6
        go_wp2_with (first|((with_reducible refine gL 30 7 ?_);refine lx 30 (.tmp 7) (tc (qdx f m) g h (.slice ao dl co)) (B.row 0 rfl) ?_)|((with_reducible refine gS 30 4 107 ?_);refine qab 30 rfl (.tmp 4) _ rfl b4 rfl (tc (qdx f m) g h (.slice ao dl co)) rfl _ (B.row 1 rfl) (qen _ _ _ _ _ _ _ _) (qaq _ _ _ _) (qbm _ _ _ _ _ _) ?_;refine m20 ?_;clear B;intro w9 B))
        (refine m06 ?_;refine bodyPost_ret (qlv (p:=4) (u:=5) (v:=6) rfl _ _ _ _ rfl (B.row 1 rfl) _ underlying30 rfl (qaq _ _ _ _)) rfl ⟨⟨fun h=>absurd HMM.out h,fun _=>⟨_,(qqm B.own HL9.out).1,(qqm B.own HL9.out).2.2,fun h=>absurd (HLZ.out.symm.trans h) zm,fun _=>by rw[HZ.out];try rfl⟩⟩,B.base⟩)
       | false=>
        (have HZ:Hid (qux f h m=upd h sN 0):=hidB (by unfold qux;rw[if_pos (Classical.byContradiction (fun hq=>absurd (HR.out.2 hq) (by simp[hr6]))),HS.out];rfl));clear hr6
        go_wp2_with (first|((with_reducible refine gL 3 103 ?_);refine qae (B.row 2 rfl) _ rfl kr 1 rfl (sN:Int) (by rw[←HS.out];rfl) ?_)|((with_reducible refine qaa (.store 3 (.tmp 106) (.const (I Z 0))) rfl ?_);refine qbb (B.row 0 rfl) rfl _ _ rfl (21+sN) rfl 0 rfl _ (qhc _ _ _ _ _ HS8.out) (tc (qdx f m) g (upd h sN 0) (.slice ao dl co)) (qsk _ _ _ _ _ _ HS8.out) ?_;refine m09 ?_;clear B;intro w9 B)|((with_reducible refine gL 30 7 ?_);refine lx 30 (.tmp 7) (tc (qdx f m) g (upd h sN 0) (.slice ao dl co)) (B.row 0 rfl) ?_)|((with_reducible refine gS 30 4 107 ?_);refine qab 30 rfl (.tmp 4) _ rfl b4 rfl (tc (qdx f m) g (upd h sN 0) (.slice ao dl co)) rfl _ (B.row 1 rfl) (qen _ _ _ _ _ _ _ _) (qaq _ _ _ _) (qbm _ _ _ _ _ _) ?_;refine m20 ?_;clear B;intro w9 B))
        (refine m06 ?_;refine bodyPost_ret (qlv (p:=4) (u:=5) (v:=6) rfl _ _ _ _ rfl (B.row 1 rfl) _ underlying30 rfl (qaq _ _ _ _)) rfl ⟨⟨fun h=>absurd HMM.out h,fun _=>⟨_,(qqm B.own HL9.out).1,(qqm B.own HL9.out).2.2,fun h=>absurd (HLZ.out.symm.trans h) zm,fun _=>by rw[HZ.out];try rfl⟩⟩,B.base⟩)
    ·(have hlz:(0:Int)<(lv:Int):=by omega)
     have hne:(qa6 ms m).any (fun o=>qa7 o==qa7 m)=true:=by
      cases hq:(qa6 ms m).any (fun o=>qa7 o==qa7 m) with
      | true=>rfl
      | false=>exact absurd (hla.2 hq) h0
     have HNE:Hid ((qa6 ms m).any (fun o=>qa7 o==qa7 m)=true):=hne;clear hla hlv h0 st hkb hmm e12 hne HLA
     go_wp2_with (first|((with_reducible refine gL 30 7 ?_);refine lx 30 (.tmp 7) (tc f g h (.slice ao dl co)) (B.row 0 rfl) ?_)|((with_reducible refine gS 30 4 75 ?_);refine qab 30 rfl (.tmp 4) _ rfl b4 rfl (tc f g h (.slice ao dl co)) rfl _ (B.row 1 rfl) (qen _ _ _ _ _ _ _ _) (qaq _ _ _ _) (qbm _ _ _ _ _ _) ?_;refine m20 ?_;clear B;intro w9 B))
     (refine m06 ?_;refine bodyPost_ret (qlv (p:=4) (u:=5) (v:=6) rfl _ _ _ _ rfl (B.row 1 rfl) _ underlying30 rfl (qaq _ _ _ _)) rfl ⟨⟨fun h=>absurd HMM.out h,fun _=>⟨_,(qqm B.own HL9.out).1,(qqm B.own HL9.out).2.2,fun _=>rfl,fun h=>absurd (HNE.out.symm.trans h) zm⟩⟩,B.base⟩)
   ·(have e12:decide (m∈ms)=false:=by simpa using hmm);rw[e12];have HMM:Hid (m ∉ ms):=hmm;clear hmm e12
    go_wp2_with (first|((with_reducible refine gL 30 2 ?_);refine lx 30 (.tmp 2) (tc f g h (.slice a0 n cap)) (B.row 3 rfl) ?_)|((with_reducible refine gS 30 4 72 ?_);refine qab 30 rfl (.tmp 4) _ rfl b4 rfl (tc f g h (.slice a0 n cap)) rfl _ (B.row 1 rfl) (qen _ _ _ _ _ _ _ _) (qaq _ _ _ _) (qbm _ _ _ _ _ _) ?_;refine m20 ?_;clear B;intro w9 B))
    (refine m06 ?_;refine bodyPost_ret (qlv (p:=4) (u:=5) (v:=6) rfl _ _ _ _ rfl (B.row 1 rfl) _ underlying30 rfl (qaq _ _ _ _)) rfl ⟨⟨fun _=>rfl,fun h=>absurd h HMM.out⟩,B.base⟩)
def pr3:Array Value:=#[I Z 1,I Z 6,I Z 17]
def prN:Nat->Int|0=>1|1=>6|_=>17
theorem qzub(k:Nat)(h:k<3):pr3[k]?=some (I Z (prN k)):=by
 match k,h with
 | 0,_=>rfl
 | 1,_=>rfl
 | 2,_=>rfl
theorem qzob:(prog.info? 50).map (·.size)=some pr3.size:=by kernel_rfl
theorem qzvb:pr3.all (·.oneCell')=true:=by kernel_rfl
theorem qzsb(w:World):(zeroValue 50).run prog w=.ok (.agg #[I Z 0,I Z 0,I Z 0]) w:=by kernel_rfl
theorem q21{j:Nat}(h:j<120):120-((j:Int)+1).toNat<120-((j:Int)).toNat:=by omega
theorem qyxb{K:Act->World->Prop}(t:TypeId)(ho:o.op=.alloc t)(cs:Array Value)(hz:∀w:World,(zeroValue t).run prog w=.ok (.agg cs) w)(hr:∀b w',w.heap.size<=b->Row t w' b cs->Below w.heap.size w w'->K (a.put o.dst (V (some ⟨b,0,none⟩))) w'):o.wp prog a w K Q:=by
 have h':=hr w.heap.size (w.alloc (.cells cs t)) (Nat.le_refl _) (Row.new t w cs) ((Below.refl _ _).alloc (Nat.le_refl _) _)
 unfold Oper.wp execOp
 simp[ho,Instr.alloc,newVar,hz w,Result.andThen,Value.cells]
 simp[go_sem]
 exact h'
theorem q20(h:Below w.drew.heap.size w.drew w'):Below w.heap.size w w':=⟨h.os,h.tape,h.output,h.size,h.block⟩
theorem q31(h:qbl b w.drew w'):qbl b w w':=⟨h.size,h.other,fun B w0 hB hb=>h.below B w0 hB (qpv hb)⟩
theorem qyeb{rest:List Oper}(x y:Operand)(ho:o.op=.indexAddr 49 x y)(hw:Region.wanted o (yielded ops a.tmps)=true)(p i q:Value)(hx:a.eval x=p)(hy:a.eval y=i)(hrun:(Instr.indexAt 49 p i).run prog w=.ok q w)(hr:wpList prog ops Q rest (a.put o.dst q) w):wpList prog ops Q (o::rest) a w:=
 wpList_step fun K hK=>by
  rw[if_pos hw]
  unfold Oper.wp execOp
  simp only[ho,hx,hy,Sem.run_bind,hrun,Result.andThen_ok,Sem.run_pure]
  exact hK _ _ hr
theorem qzyb(b o l:Nat)(h:l<3)(w:World):(Instr.indexAt 50 (V (some ⟨b,o,none⟩)) (I Z (l:Int))).run prog w=.ok (V (some ⟨b,o+l,none⟩)) w:=by
 (have hs:(sizeOf 3).run prog w=.ok 1 w:=by kernel_rfl);(have h1:(l:Int)<3:=by omega)
 simp[go_sem,underlying50,h1,h,hs]
theorem qzxb(b o l:Nat)(h:l<3)(w:World):(Instr.indexAt 24 (V (some ⟨b,o,none⟩)) (I Z (l:Int))).run prog w=.ok (V (some ⟨b,o+l,none⟩)) w:=by
 (have hs:(sizeOf 4).run prog w=.ok 1 w:=by kernel_rfl);(have h1:(l:Int)<3:=by omega)
 simp[go_sem,underlying24,h1,h,hs]
theorem qz2b{n:Int}(h:(Lit.int .i64 n).wf=true):wrap64 (n.tdiv 2)=n.tdiv 2:=by
 (have hb:-9223372036854775808<=n/\n<=9223372036854775807:=by simpa[Lit.wf,IntKind.min,IntKind.max,IntKind.signed,IntKind.bits] using h)
 unfold wrap64
 have:n.tdiv 2=if 0<=n then n/2 else -((-n)/2):=by
  split
  ·rw[Int.tdiv_eq_ediv_of_nonneg om]
  ·rename_i hn
   (rw[show n=-(-n) by omega,Int.neg_tdiv,Int.tdiv_eq_ediv_of_nonneg om])
   omega
 rw[this]
 split<;>omega
theorem qyzb(G:qbq f h ms)(hm:m∈ms):(qa6 ms m).length+1=ms.length:=by
 have hp:=G.maps.2;clear G
 induction ms with
 | nil=>cases hm
 | cons o r ih=>
  rw[List.pairwise_cons] at hp
  (have hself:∀x:Mp,qc0 [x] x=true:=fun x=>by simp[qc0,inS])
  by_cases e:o=m
  ·subst e
   (have hno:o ∉ r:=fun h=>by have:=hp.1 o h;rw[hself] at this;cases this)
   have:qa6 (o::r) o=r:=by
    unfold qa6
    rw[List.filter_cons_of_neg zm,List.filter_eq_self];intro a ha
    have:a≠o:=fun e=>hno (e▸ha)
    simpa using this
   rw[this,List.length_cons]
  ·have hm':m∈r:=by
    rcases List.mem_cons.1 hm with h|h
    ·exact absurd h.symm e
    ·exact h
   have:qa6 (o::r) m=o::qa6 r m:=by
    unfold qa6
    rw[List.filter_cons_of_pos (by simpa using e)]
   rw[this,List.length_cons,List.length_cons,ih hm' hp.2]
theorem ks28{b6:Nat}{x:Mp}{jj:Nat}(R3:Row 30 W b3 (tc f g h v))(R6:Row 52 W b6 (mc x))(hM:qaz W v ms)(hj:jj<ms.length)(hm:ms[jj]=m):W.cell? ⟨b3,29,none⟩=some v/\W.cell? ⟨b6,4,none⟩=some (I Z x.2.2.2.2)/\W.rangeAt (mb v) (mo v+5*jj) (mcl m):=
 ⟨(R3.cell 29).trans (qdw _ _ _ _),(R6.cell 4).trans rfl,hM.at jj hj hm⟩
theorem qyub{S:World->Prop}(x:Operand)(ho:o.op=.load 32 x)(hw:Region.wanted o (yielded ops a.tmps)=true)(b k:Nat)(hx:a.eval x=V (some ⟨b,k,none⟩))(m:Mp)(hS:∀w,S w->w.rangeAt b k (mcl m)):YieldsIf prog ops S o (.agg (mc m)) a:=by
 have:=qgw (S:=S) 32 x ho hw b k hx (mcl m) hS _ underlying32 rfl (qby m)
 rw[qc2] at this
 exact this
def qynb:Code->Option Code
 | .loop c=>some c
 | .seq a b=>(qynb a).or (qynb b)
 | .block _ c=>qynb c
 | .scope c=>qynb c
 | .cond _ a b=>(qynb a).or (qynb b)
 | _=>none
def qyyb(F:Func):Code:=(F.body.bind qynb).getD .skip
def WP(w:World)(b3 b4:Nat)(a0:Option Addr)(n cap:Nat)(a:Act)(W:World):Prop:=
 ∃u1 u2 u5 u6 u7 u8 u9 u10 u11 u12 u13 u14 u15 u16 u17 u18 u19 u20 u21 u22 u23 u24 u25 u26 u27 u28 u29 u30 u31 u32 u33 u34 u35 u36 u37 u38 u39 u40 u41 u42 u43 u44 u45 u46 u47 u48 u49 u50 u51 u52 u53 u54 u55 u56 u57 u58 u59 u60 u61 u62 u63 u64 u65 u66 u67 u68 u69 u70 u71 u72 u73 u74 u75 u76 u77 u78 u79 u80 u81 u82 u83 u84 u85 u86 u87 u88 u89 u90 u91 u92 u93 u94 u95 u96 u97 u98 u99 u100 u101 u102 u103 u104 u105 u106 u107 u108 u109 u110 u111 u112 u113 u114 u115 u116 u117 u118 u119 u120 u121 u122 u123 u124 u125 u126 u127 u128 u129 u130 u131 u132 u133 u134 u135 u136 u137 u138 u139 u140 u141 u142 u143 u144 u145 u146 u147 u148 u149 u150 u151 u152 u153 u154 u155 u156 u157 u158 u159 u160 u161 u162 u163 u164 u165 u166 u167 u168 u169 u170 u171 u172 u173 u174 u175 u176 u177 u178 u179 u180 u181 u182 u183 u184 u185 u186 u187 u188 u189 u190 u191 u192 u193 u194 u195 u196 u197 u198 u199 u200 u201 u202 u203 u204 u205 u206 u207 u208 u209 u210 u211 u212 u213 u214 u215 u216 u217 u218 u219 u220 u221 u222 u223 u224 u225 u226 u227 u228 u229 u230 u231 u232 u233 u234:Value,(∃j:Nat,j<=n/\j<=120/\u5=I Z (j:Int)/\∃(f:Nat->Int) (g:Nat->Bool) (h:Nat->Int) (a1:Option Addr) (lv c1:Nat) (ms:List Mp),Bd w W [(b3,30,tc f g h (.slice a1 lv c1)),(b4,50,pr3)] [(.slice a1 lv c1,ms)]/\qcs (.slice a1 lv c1)/\Hid (qbq f h ms)/\Hid (lv=ms.length))/\a=⟨#[(.slice a0 n cap),u1,u2,V (some ⟨b3,0,none⟩),V (some ⟨b4,0,none⟩),u5,u6,u7,u8,u9,u10,u11,u12,u13,u14,u15,u16,u17,u18,u19,u20,u21,u22,u23,u24,u25,u26,u27,u28,u29,u30,u31,u32,u33,u34,u35,u36,u37,u38,u39,u40,u41,u42,u43,u44,u45,u46,u47,u48,u49,u50,u51,u52,u53,u54,u55,u56,u57,u58,u59,u60,u61,u62,u63,u64,u65,u66,u67,u68,u69,u70,u71,u72,u73,u74,u75,u76,u77,u78,u79,u80,u81,u82,u83,u84,u85,u86,u87,u88,u89,u90,u91,u92,u93,u94,u95,u96,u97,u98,u99,u100,u101,u102,u103,u104,u105,u106,u107,u108,u109,u110,u111,u112,u113,u114,u115,u116,u117,u118,u119,u120,u121,u122,u123,u124,u125,u126,u127,u128,u129,u130,u131,u132,u133,u134,u135,u136,u137,u138,u139,u140,u141,u142,u143,u144,u145,u146,u147,u148,u149,u150,u151,u152,u153,u154,u155,u156,u157,u158,u159,u160,u161,u162,u163,u164,u165,u166,u167,u168,u169,u170,u171,u172,u173,u174,u175,u176,u177,u178,u179,u180,u181,u182,u183,u184,u185,u186,u187,u188,u189,u190,u191,u192,u193,u194,u195,u196,u197,u198,u199,u200,u201,u202,u203,u204,u205,u206,u207,u208,u209,u210,u211,u212,u213,u214,u215,u216,u217,u218,u219,u220,u221,u222,u223,u224,u225,u226,u227,u228,u229,u230,u231,u232,u233,u234],[]⟩
def WPmu(a:Act)(_:World):Nat:=120-(intOf (a.tmps.getD 5 undef)).toNat
end Go.Proofs.Ytbboabfmoahipaa
