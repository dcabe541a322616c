/-
  Of what a law stands on.
-/
import Derived.Test.YtnhafdkfjjplkaaDoorZrr2
set_option linter.unusedSimpArgs false
set_option linter.unusedVariables false
namespace Go.Proofs.YtnhafdkfjjplkaaDoor
open Go.Value renaming int → I,pointer → V
open Go.IntKind renaming i64 → Z
open _root_.Go.Proofs.Tryd Go.ChangeShapes Go.WideShapes Go.ChangeAt Go.RowKit
set_option maxHeartbeats 16000000
set_option maxRecDepth 100000
variable {p:Prop}
theorem qdsb(p:Nat)(l:List UInt8)(d:Bool)(v:Value)(es:List Ev)(t:Int)(w:World)(R:Rdr w p l d v)(hE:EvAt w v es):
  Calls prog 39 #[V (some ⟨p,0,none⟩),I Z t] w fun x w'=>x=.returned (.bool (qcyb es t))/\w'=w:=by
 obtain⟨a0,cap,hsl⟩:=hE.slice;have hlen:=hE.len
 unfold Rdr at R
 by_cases h0:es.length=0
 ·(have HL:Hid (qcyb es t=false):=by show _=_;rw[List.eq_nil_of_length_eq_zero h0];rfl)
  obtain⟨n,hn⟩:∃n,n=es.length:=⟨_,rfl⟩
  rw[←hn] at hsl
  subst hsl
  (have h0':¬0<n:=by omega);clear h0 hlen hn
  go_enter func39,ntmps39
  go_wp2_with (first|((with_reducible refine gL 22 8 ?_);refine qdfb R _ rfl rfl 2 rfl (.slice a0 n cap) rfl ?_))
  go_ret
  exact⟨by rw[HL.out];rfl,rfl⟩
 ·obtain⟨e,he⟩:∃e,es[es.length-1]'om=e:=⟨_,rfl⟩
  have HL:Hid (qcyb es t=decide (t<e.t)):=qfkb om t he;have IR:=hE.index (es.length-1) om w;have hc:=hE.at (es.length-1) om he 0 _ rfl
  obtain⟨n,hn⟩:∃n,n=es.length:=⟨_,rfl⟩
  rw[←hn] at hsl IR hc hlen
  subst hsl
  (have h0':0<n:=by omega);(have hn1:(n:Int)-1=((n-1:Nat):Int):=by omega)
  rw[←hn1] at IR
  (have hw1:wrap64 ((n:Int)-1)=(n:Int)-1:=by unfold wrap64;omega);clear he h0 hn hn1
  go_enter func39,ntmps39
  go_wp2_with (first|((with_reducible refine gL 22 8 ?_);refine qdfb R _ rfl rfl 2 rfl (.slice a0 n cap) rfl ?_)|((with_reducible refine gL 22 16 ?_);refine qdfb R _ rfl ?_ 2 rfl (.slice a0 n cap) rfl ?_;· rfl)|((with_reducible refine atOp (.indexAddr 22 (.tmp 17) (.tmp 19)) rfl ?_);refine qh0 22 (.tmp 17) (.tmp 19) rfl ?_ _ _ _ rfl rfl IR ?_;· rfl)|((with_reducible refine gL 3 21 ?_);refine qvf (.tmp 21) rfl ?_ _ _ rfl _ hc ?_;· rfl))
  go_ret
  exact⟨by rw[HL.out];rfl,rfl⟩
def hdc(len time seq kind:Int):Array Value:=#[I Z len,I Z time,I Z seq,I Z kind]
theorem qcqb(a b c d:Int):(prog.info? 71).map (·.size)=some (hdc a b c d).size:=by kernel_rfl
theorem qcwb(a b c d:Int):(hdc a b c d).all (·.oneCell')=true:=by kernel_rfl
theorem qcrb(w:World):(zeroValue 71).run prog w=.ok (.agg (hdc 0 0 0 0)) w:=by kernel_rfl
theorem qc5b(w:World):(Instr.build 71 #[]).run prog w=.ok (.agg (hdc 0 0 0 0)) w:=by kernel_rfl
theorem qewb(p:Nat)(l m:List UInt8)(d:Bool)(v:Value)(len time seq kind:Int)(w:World)(R:Rdr w p (l.drop 20) d v)(hT:Tab w)(hp:p≠0)(hk0:20<=len)(hk1:len<=(l.length:Int))(hl:l.length<=140737488351232)(hq:qi0 seq=true)(hm:m≠msgB 0 seq 2 (tplB 6)):
  Calls prog 34 #[V (some ⟨p,0,none⟩),.string (txt m),.agg (hdc len time seq kind)] w fun x w'=>x=.returned (I Z 4)/\qfb p w w':=by
 refine m1o ?_;intro hM CT;(have hne:(txt m).toList≠(txt (msgB 0 seq 2 (tplB 6))).toList:=by rw[ByteArray.toList_eq,ByteArray.toList_eq,qds,qds];exact hm);(have hne':((txt m).toList==(txt (msgB 0 seq 2 (tplB 6))).toList)=false:=by simpa using hne);clear hm hne
 generalize msgB 0 seq 2 (tplB 6)=M at *
 obtain⟨k,rfl⟩:∃k:Nat,len=20+(k:Int):=⟨(len-20).toNat,by omega⟩
 refine m31 ?_;intro hkl HKT hkk hks;clear hq hk0 hk1
 go_enter func34,ntmps34
 go_wp2_with (first|((with_reducible refine gB 71 2 ?_);refine bx 71 _ (hdc (20+(k:Int)) time seq kind) ?_;intro b5 w2 g5 R5 hb2;have n5:b5≠p:=(fun e=>by have:=R.lt;omega);replace R:=Row.below R hb2;replace hT:=hT.below hb2;replace hM:=hM.trans (qfb.ofBelow hb2))|((with_reducible refine gL 3 10 ?_);refine fx R5 _ 2 _ ?_)|((with_reducible refine gL 3 19 ?_);refine fx R5 _ 0 _ ?_)|(go_at_call 10;go_fit (CT _ hT);rintro x w5 ⟨rfl,hb5⟩;replace R:=Row.below R hb5;replace R5:=R5.below hb5;replace hM:=hM.trans (qfb.ofBelow hb5))|(go_at_call 37;go_fit (qdhb k _ R hkl hl);rintro x w5 ⟨rfl,R',hM5⟩;replace R:=R';clear R';replace hM:=hM.trans hM5;clear hM5)|((with_reducible refine atOp (.store 4 (.tmp 25) (.const (.bool true))) rfl ?_);refine qdab R rfl _ _ rfl 1 rfl true rfl _ rfl _ (qe2b _ _ _ _) ?_;intro w6 R t6;replace hM:=hM.trans (qfb.ofTurned t6)))
 go_ret
 exact⟨rfl,hM⟩
theorem qejb(p:Nat)(l m:List UInt8)(d:Bool)(v:Value)(len time seq kind:Int)(w:World)(R:Rdr w p (l.drop 20) d v)(hT:Tab w)(hp:p≠0)(hk0:20<=len)(hk1:len<=(l.length:Int))(hl:l.length<=140737488351232)(hq:qi0 seq=true)(hm:m=msgB 0 seq 2 (tplB 6)):
  Calls prog 34 #[V (some ⟨p,0,none⟩),.string (txt m),.agg (hdc len time seq kind)] w fun x w'=>(x=.returned (I Z 0)/\Rdr w' p (l.drop len.toNat) true v)/\qfb p w w':=by
 refine m1o ?_;intro hM CT
 subst hm
 (have hne':((txt (msgB 0 seq 2 (tplB 6))).toList==(txt (msgB 0 seq 2 (tplB 6))).toList)=true:=by simp)
 generalize msgB 0 seq 2 (tplB 6)=M at *
 obtain⟨k,rfl⟩:∃k:Nat,len=20+(k:Int):=⟨(len-20).toNat,by omega⟩
 refine m31 ?_;intro hkl HKT hkk hks;clear hq hk0 hk1
 go_enter func34,ntmps34
 go_wp2_with (first|((with_reducible refine gB 71 2 ?_);refine bx 71 _ (hdc (20+(k:Int)) time seq kind) ?_;intro b5 w2 g5 R5 hb2;have n5:b5≠p:=(fun e=>by have:=R.lt;omega);replace R:=Row.below R hb2;replace hT:=hT.below hb2;replace hM:=hM.trans (qfb.ofBelow hb2))|((with_reducible refine gL 3 10 ?_);refine fx R5 _ 2 _ ?_)|((with_reducible refine gL 3 19 ?_);refine fx R5 _ 0 _ ?_)|(go_at_call 10;go_fit (CT _ hT);rintro x w5 ⟨rfl,hb5⟩;replace R:=Row.below R hb5;replace R5:=R5.below hb5;replace hM:=hM.trans (qfb.ofBelow hb5))|(go_at_call 37;go_fit (qdhb k _ R hkl hl);rintro x w5 ⟨rfl,R',hM5⟩;replace R:=R';clear R';replace hM:=hM.trans hM5;clear hM5)|((with_reducible refine atOp (.store 4 (.tmp 25) (.const (.bool true))) rfl ?_);refine qdab R rfl _ _ rfl 1 rfl true rfl _ rfl _ (qe2b _ _ _ _) ?_;intro w6 R t6;replace hM:=hM.trans (qfb.ofTurned t6)))
 go_ret
 exact⟨⟨rfl,by rw[HKT.out];exact R⟩,hM⟩
theorem sZrr31(h:p:=by
 go_enter func33,ntmps33
 go_wp2_with (first|((with_reducible refine gA 71 ?_);refine ax 2 71 qcrb ?_;refine m0x ?_;intro b2 w2 g2 R2 hb2 n2 R hM)|((with_reducible refine gA 71 ?_);refine ax 5 71 qcrb ?_;refine m0a ?_;clear R2 R hM;intro b5 w2 R5 hb2 n5 n25 g5 R2 R hM)|((with_reducible refine gL 9 11 ?_);refine m13 ?_)|(go_at_call 36;go_fit (qc0b _ R om hl);refine m01 ?_;clear R hM R2 R5;intro w5 R hM R2 R5)|(go_at_call 36;go_fit (qc1b _ R om hl);refine m01 ?_;clear R hM R2 R5;intro w5 R hM R2 R5)|((with_reducible refine gS 3 21 20 ?_);refine m2c ?_;refine m06 ?_;clear R2 R hM;intro w6 R5 t6 R2 R hM)|((with_reducible refine gS 3 24 23 ?_);refine m26 ?_;refine m06 ?_;clear R2 R hM;intro w6 R5 t6 R2 R hM)|((with_reducible refine gS 3 27 26 ?_);refine m21 ?_;refine m06 ?_;clear R2 R hM;intro w6 R5 t6 R2 R hM)|((with_reducible refine gL 3 33 ?_);refine qae R5 _ rfl ?_ 0 rfl _ rfl ?_;· rfl)|((with_reducible refine gL 3 38 ?_);refine qae R5 _ rfl ?_ 0 rfl _ rfl ?_;· rfl)|((with_reducible refine atOp (.build 71 #[]) rfl ?_);refine qcvb 71 rfl rfl _ qc5b ?_)|((with_reducible refine gS 71 2 47 ?_);refine sx 71 (.tmp 2) (.tmp 47) (hdc 0 0 0 0) R2 ?_;intro w6 R2 t6;replace R:=t6.row R n2.symm;replace hM:=hM.turned t6 g2))
 (refine m0r ?_;refine bodyPost_ret (qbf (p:=2) (u:=3) rfl _ _ _ _ rfl R2 _ underlying71 rfl (qcqb _ _ _ _)) rfl ⟨hM,.inl ⟨HB.out,rfl,_,R⟩⟩)):p:=h
theorem sZrr32(h:p:=by
 go_enter func33,ntmps33
 go_wp2_with (first|((with_reducible refine gA 71 ?_);refine ax 2 71 qcrb ?_;refine m0x ?_;intro b2 w2 g2 R2 hb2 n2 R hM)|((with_reducible refine gA 71 ?_);refine ax 5 71 qcrb ?_;refine m0a ?_;clear R2 R hM;intro b5 w2 R5 hb2 n5 n25 g5 R2 R hM)|((with_reducible refine gL 9 11 ?_);refine m13 ?_)|(go_at_call 36;go_fit (qc0b _ R om hl);refine m01 ?_;clear R hM R2 R5;intro w5 R hM R2 R5)|(go_at_call 36;go_fit (qc1b _ R om hl);refine m01 ?_;clear R hM R2 R5;intro w5 R hM R2 R5)|((with_reducible refine gS 3 21 20 ?_);refine m2c ?_;refine m06 ?_;clear R2 R hM;intro w6 R5 t6 R2 R hM)|((with_reducible refine gS 3 24 23 ?_);refine m26 ?_;refine m06 ?_;clear R2 R hM;intro w6 R5 t6 R2 R hM)|((with_reducible refine gS 3 27 26 ?_);refine m21 ?_;refine m06 ?_;clear R2 R hM;intro w6 R5 t6 R2 R hM)|((with_reducible refine gL 3 33 ?_);refine qae R5 _ rfl ?_ 0 rfl _ rfl ?_;· rfl)|((with_reducible refine gL 3 38 ?_);refine qae R5 _ rfl ?_ 0 rfl _ rfl ?_;· rfl)|((with_reducible refine gS 3 50 49 ?_);refine m2y ?_;refine m06 ?_;clear R2 R hM;intro w6 R5 t6 R2 R hM)|((with_reducible refine gL 3 53 ?_);refine fx R5 _ 3 _ ?_)|((with_reducible refine gL 3 57 ?_);refine qae R5 _ rfl ?_ 3 rfl _ rfl ?_;· rfl)|((with_reducible refine gL 3 63 ?_);refine qae R5 _ rfl ?_ 0 rfl _ rfl ?_;· rfl)|((with_reducible refine atOp (.build 71 #[]) rfl ?_);refine qcvb 71 rfl rfl _ qc5b ?_)|((with_reducible refine gS 71 2 68 ?_);refine sx 71 (.tmp 2) (.tmp 68) (hdc 0 0 0 0) R2 ?_;intro w6 R2 t6;replace R:=t6.row R n2.symm;replace hM:=hM.turned t6 g2))
 (refine m0r ?_;refine bodyPost_ret (qbf (p:=2) (u:=3) rfl _ _ _ _ rfl R2 _ underlying71 rfl (qcqb _ _ _ _)) rfl ⟨hM,.inl ⟨HB.out,rfl,_,R⟩⟩)):p:=h
theorem sZrr33(h:p:=by
 go_enter func33,ntmps33
 go_wp2_with (first|((with_reducible refine gA 71 ?_);refine ax 2 71 qcrb ?_;refine m0x ?_;intro b2 w2 g2 R2 hb2 n2 R hM)|((with_reducible refine gA 71 ?_);refine ax 5 71 qcrb ?_;refine m0a ?_;clear R2 R hM;intro b5 w2 R5 hb2 n5 n25 g5 R2 R hM)|((with_reducible refine gL 9 11 ?_);refine m13 ?_)|(go_at_call 36;go_fit (qc0b _ R om hl);refine m01 ?_;clear R hM R2 R5;intro w5 R hM R2 R5)|(go_at_call 36;go_fit (qc1b _ R om hl);refine m01 ?_;clear R hM R2 R5;intro w5 R hM R2 R5)|((with_reducible refine gS 3 21 20 ?_);refine m2c ?_;refine m06 ?_;clear R2 R hM;intro w6 R5 t6 R2 R hM)|((with_reducible refine gS 3 24 23 ?_);refine m26 ?_;refine m06 ?_;clear R2 R hM;intro w6 R5 t6 R2 R hM)|((with_reducible refine gS 3 27 26 ?_);refine m21 ?_;refine m06 ?_;clear R2 R hM;intro w6 R5 t6 R2 R hM)|((with_reducible refine gL 3 33 ?_);refine qae R5 _ rfl ?_ 0 rfl _ rfl ?_;· rfl)|((with_reducible refine gL 3 38 ?_);refine qae R5 _ rfl ?_ 0 rfl _ rfl ?_;· rfl)|((with_reducible refine gS 3 50 49 ?_);refine m2y ?_;refine m06 ?_;clear R2 R hM;intro w6 R5 t6 R2 R hM)|((with_reducible refine gL 3 53 ?_);refine fx R5 _ 3 _ ?_)|((with_reducible refine gL 3 57 ?_);refine qae R5 _ rfl ?_ 3 rfl _ rfl ?_;· rfl)|((with_reducible refine gL 3 63 ?_);refine qae R5 _ rfl ?_ 0 rfl _ rfl ?_;· rfl)|((with_reducible refine gL 71 5 ?_);refine lx 71 (.tmp 5) _ R5 ?_)|((with_reducible refine gS 71 2 69 ?_);refine sx 71 (.tmp 2) (.tmp 69) (hdc (nAt l 2 2) (nAt l 4 4) (nAt l 8 4) (nAt l 16 2)) R2 ?_;intro w6 R2 t6;replace R:=t6.row R n2.symm;replace hM:=hM.turned t6 g2))
 (refine m0r ?_;refine bodyPost_ret (qbf (p:=2) (u:=3) rfl _ _ _ _ rfl R2 _ underlying71 rfl (qcqb _ _ _ _)) rfl ⟨hM,.inr ⟨HB.out,rfl,R⟩⟩)):p:=h
theorem qeib(p:Nat)(l:List UInt8)(d:Bool)(v:Value)(w:World)(R:Rdr w p l d v)(hl:l.length<=140737488351232):
  Calls prog 33 #[V (some ⟨p,0,none⟩)] w fun x w'=>qfb p w w'/\((qctb l=1/\x=.returned (.tuple #[.agg (hdc 0 0 0 0),I Z 1])/\∃l',Rdr w' p l' d v)\/(qctb l=0/\x=.returned (.tuple #[.agg (hdc (nAt l 2 2) (nAt l 4 4) (nAt l 8 4) (nAt l 16 2)),I Z 0])/\Rdr w' p (l.drop 20) d v)):=by
 have hM:=qfb.refl p w;have hsz:(txt l).size=l.length:=qck l;replace R:Rdr w p (l.drop 0) d v:=R;have HH:Hid (qctb l=qctb l):=rfl;have q0:=qc2b l 0 2 om;have q1:=qc2b l 2 2 om;have q2:=qc2b l 18 2 om
 by_cases h16:l.length<16
 ·(have HB:Hid (qctb l=1):=by show _=_;unfold qctb;rw[if_pos h16]);(have g0:(l.length:Int)<16:=by omega)
  go_enter func33,ntmps33
  go_wp2_with (first|((with_reducible refine gA 71 ?_);refine ax 2 71 qcrb ?_;refine m0x ?_;clear R hM;intro b2 w2 g2 R2 hb2 n2 R hM)|((with_reducible refine gA 71 ?_);refine ax 5 71 qcrb ?_;refine m0a ?_;clear R2 R hM;intro b5 w2 R5 hb2 n5 n25 g5 R2 R hM)|((with_reducible refine gL 9 11 ?_);refine m13 ?_)|((with_reducible refine atOp (.build 71 #[]) rfl ?_);refine qcvb 71 rfl rfl _ qc5b ?_)|((with_reducible refine gS 71 2 16 ?_);refine sx 71 (.tmp 2) (.tmp 16) (hdc 0 0 0 0) R2 ?_;intro w6 R2 t6;replace R:=t6.row R n2.symm;replace hM:=hM.turned t6 g2))
  (refine m0r ?_;refine bodyPost_ret (qbf (p:=2) (u:=3) rfl _ _ _ _ rfl R2 _ underlying71 rfl (qcqb _ _ _ _)) rfl ?_)
  exact⟨hM,Or.inl ⟨HB.out,rfl,l.drop 0,R⟩⟩
 (have g16:¬(l.length:Int)<16:=by omega)
 by_cases c0:nAt l 0 2≠10
 ·refine m2g ?_;intro HB;(have t0:(nAt l 0 2 != 10)=true:=by simpa using c0);clear c0
  exact sZrr31
 (have f0:(nAt l 0 2 != 10)=false:=by simpa using c0)
 by_cases c1:nAt l 2 2<20
 ·refine m2g ?_;intro HB;(have t1:decide (nAt l 2 2<20)=true:=by simpa using c1);clear c1
  exact sZrr31
 (have f1:decide (nAt l 2 2<20)=false:=by simpa using c1)
 by_cases c2:(l.length:Int)<nAt l 2 2
 ·refine m2g ?_;intro HB;(have t2:decide ((l.length:Int)<nAt l 2 2)=true:=by simpa using c2);clear c2
  exact sZrr31
 (have f2:decide ((l.length:Int)<nAt l 2 2)=false:=by simpa using c2)
 by_cases c3:nAt l 12 4≠1
 ·refine m2g ?_;intro HB;(have t3:(nAt l 12 4 != 1)=true:=by simpa using c3);clear c3
  exact sZrr31
 (have f3:(nAt l 12 4 != 1)=false:=by simpa using c3);(have hl20:20<=l.length:=by omega)
 by_cases k0:nAt l 16 2=2
 ·(have e0:(nAt l 16 2 != 2)=false:=by simpa using k0)
  by_cases k1:nAt l 18 2=nAt l 2 2-16
  ·(have e1:(nAt l 18 2 != nAt l 2 2-16)=false:=by simpa using k1);(have HB:Hid (qctb l=0):=by show _=_;unfold qctb;rw[if_neg h16,if_neg om,if_neg om]);clear c0 c1 c2 c3 k0 k1
   exact sZrr33
  ·(have e1:(nAt l 18 2 != nAt l 2 2-16)=true:=by simpa using k1);refine m2z ?_;intro HB;clear c0 c1 c2 c3 k0 k1
   exact sZrr32
 ·(have e0:(nAt l 16 2 != 2)=true:=by simpa using k0)
  by_cases k2:nAt l 16 2=300
  ·(have e2:(nAt l 16 2 != 300)=false:=by simpa using k2)
   by_cases k1:nAt l 18 2=nAt l 2 2-16
   ·(have e1:(nAt l 18 2 != nAt l 2 2-16)=false:=by simpa using k1);(have HB:Hid (qctb l=0):=by show _=_;unfold qctb;rw[if_neg h16,if_neg om,if_neg om]);clear c0 c1 c2 c3 k0 k1 k2
    exact sZrr33
   ·(have e1:(nAt l 18 2 != nAt l 2 2-16)=true:=by simpa using k1);refine m2z ?_;intro HB;clear c0 c1 c2 c3 k0 k1 k2
    exact sZrr32
  ·(have e2:(nAt l 16 2 != 300)=true:=by simpa using k2);refine m2z ?_;intro HB;clear c0 c1 c2 c3 k0 k2
   exact sZrr32
theorem qgeb(l:List UInt8)(a b:Nat)(h:a+b<=l.length):b<=(l.drop a).length:=by rw[List.length_drop];omega
theorem qdib{w w':World}(h:w'=w.drew):Below w.heap.size w w':=by subst h;exact(Below.refl _ _).drew
theorem qflb{i c:Nat}(h:i<c):c-((i:Int)+1).toNat<c-((i:Int)).toNat:=by omega
theorem sZrr36(h:p:=by
 go_enter func35,ntmps35
 go_wp2_with (first|((with_reducible refine gB 71 1 ?_);refine bx 71 _ (hdc len time seq kind) ?_;intro b3 w2 g3 R3 hb2;have n3:b3≠p:=(fun e=>by have:=R.lt;omega);replace hne:=hE.new g3;replace R:=Row.below R hb2;replace hE:=hE.below hb2;replace hB:=hB.trans (hb2.mono (Nat.le_trans hpl hB.size)))|((with_reducible refine gL 3 8 ?_);refine fx R3 _ 0 _ ?_))
 go_ret
 exact⟨rfl,hB⟩):p:=h
theorem qfeb(p:Nat)(l:List UInt8)(d:Bool)(v:Value)(es:List Ev)(len time seq kind:Int)(w:World)(R:Rdr w p (l.drop 20) d v)(hE:EvO w (p+1) v es)(hk0:20<=len)(hk1:len<=(l.length:Int))(hk2:len<=65535)(hl:l.length<=140737488351232)(hes:es.length<=4294967295)(hf:len=20\/(len-20)%21≠0):
  Calls prog 35 #[V (some ⟨p,0,none⟩),.agg (hdc len time seq kind)] w fun x w'=>x=.returned (I Z 1)/\Below p w w':=by
 refine m2u ?_;intro hB hpl hne hrem
 by_cases h20:len=20
 ·(have g0:(len-20==0)=true:=by simp;omega);clear hf h20 hrem
  exact sZrr36
 ·(have g0:(len-20==0)=false:=by simp;omega);(have g1:((len-20)%21 != 0)=true:=by simp;omega);clear hf h20
  exact sZrr36
theorem sZrr34(h:p:=by
 refine hK.out _ _ R6 (fun _=>?_)
 clear hK K;(try simp only[ZZ]);refine AR [7] ?_
 refine AP (fun K hK=>?_) ?_
 ·refine q45 (.tmp 47) (.tmp 49) rfl hE R9 kr kr om (by have:=R.lt;omega) ?_;intro v8 w8 hE8 hG8;have hne8:=Grew.ne hG8 hne R3.lt;have hp8:v2.ownBlock≠some p:=(fun e=>by have:=(hE.ge p e).1;omega);replace R3:=hG8.row R3 hne;replace R6:=hG8.row R6 hne6;replace R:=hG8.row R hp8;replace hB:=hB.trans (hG8.below (Nat.le_trans hpl hB.size) (fun g hg=>by have:=(hE.ge g hg).1;omega));replace hE:=hE8;obtain⟨sa,sc,rfl⟩:=hE.slice
  refine hK.out _ _ R6 (fun _=>?_)
  clear hK K;(try simp only[ZZ]);refine tq 8 (V (some ⟨p,0,none⟩)) rfl R6 (tq 9 (V (some ⟨p,2,none⟩)) rfl R6 ?_);simp only[ZZ];refine AR [10] ?_
  refine AP (fun K hK=>?_) AZ
  refine qedb R (.tmp 52) (.tmp 50) rfl 2 kr sa (es2++[rdE q]).length sc kr v2 rfl (rc (q.drop 21) d (.slice sa (es2++[rdE q]).length sc)) (qe4b _ _ _ _) ?_;intro w9 R t9;replace R3:=t9.row R3 n3;replace R6:=t9.row R6 n6;(replace hE:=hE.turned t9 (fun e=>by have:=(hE.ge p e).1;omega));replace hB:=t9.below _ _ (Nat.le_refl _) hB
  refine hK.out _ _ R6 (fun _=>?_)
  clear hK K;(try simp only[ZZ]);refine AN ?_
  go_wp2
  go_roundw
  case rel=>first|exact⟨k+1,by omega,by go_num,_,_,HDR.out▸R,hE,by rw[HMM.out];exact HV3,(by show _=_;rw[List.length_append,HS.out];rfl),hB,R3,hne8⟩|((repeat apply Exists.intro);exact⟨⟨k+1,by omega,by go_num,_,_,HDR.out▸R,hE,by rw[HMM.out];exact HV3,(by show _=_;rw[List.length_append,HS.out];rfl),hB,R3,hne8⟩,rfl⟩)
  case measure=>(first|rw[hkw]|skip);exact qflb hlt
 exact AZ):p:=h
theorem sZrr37(h:p:=by
 refine hK.out _ _ ⟨R6,R3⟩ (fun _=>?_)
 clear hK K;(try simp only[ZZ]);refine tq 15 (.bool true) rfl ⟨R6,R3⟩ ?_;refine m1r ?_
 go_wp2
 go_ret
 exact⟨Or.inl ⟨rfl,HV2.out.trans (qd3b hbad)⟩,by first|exact hB|exact qcxb hB⟩):p:=h
theorem sZrr35(h:p:=by
 simp only[ZZ];refine tq 9 (.bool true) rfl ⟨R6,R3⟩ (tq 10 (.bool true) rfl ⟨R6,R3⟩ (tk 11 undef rfl (Or.inr ⟨by kernel_rfl,rfl⟩) ⟨R6,R3⟩ ?_));simp only[ZZ];refine tk 12 undef rfl (Or.inr ⟨by kernel_rfl,rfl⟩) ⟨R6,R3⟩ (tk 13 undef rfl (Or.inr ⟨by kernel_rfl,rfl⟩) ⟨R6,R3⟩ ?_);simp only[ZZ];refine AR [14] ?_
 refine AC (fun K hK=>?_) ?_
 ·rw[if_neg (ne_true_of_eq_false kr)]
  exact sZrr37
 exact AZ):p:=h
theorem qgjb(p:Nat)(l:List UInt8)(d:Bool)(v:Value)(es:List Ev)(len time seq kind:Int)(w:World)(R:Rdr w p (l.drop 20) d v)(hE:EvO w (p+1) v es)(hk0:20<=len)(hk1:len<=(l.length:Int))(hk2:len<=65535)(hl:l.length<=140737488351232)(hes:es.length<=4294967295)(hf:¬(len=20\/(len-20)%21≠0)):
  Calls prog 35 #[V (some ⟨p,0,none⟩),.agg (hdc len time seq kind)] w fun x w'=>((x=.returned (I Z 2)/\evs time ((len-20)/21).toNat (l.drop 20) es=none)\/(x=.returned (I Z 0)/\∃v' es',evs time ((len-20)/21).toNat (l.drop 20) es=some es'/\Rdr w' p (l.drop len.toNat) d v'/\EvO w' (p+1) v' es'))/\Below p w w':=by
 refine m2u ?_;intro hB hpl hne hrem;have hquo:(len-20).tdiv 21=(len-20)/21:=Int.tdiv_eq_ediv_of_nonneg om
 obtain⟨c,hc⟩:∃c:Nat,(len-20)/21=(c:Int):=⟨((len-20)/21).toNat,by omega⟩
 (have hlc:len=20+21*(c:Int):=by omega);(have hc2:c<=3120:=by omega);(have hcl:20+21*c<=l.length:=by omega);(have HT:Hid (((len-20)/21).toNat=c):=by show _=_;omega);(have HL:Hid (len.toNat=20+21*c):=by show _=_;omega)
 rw[hc] at hquo
 (have g0:(len-20==0)=false:=by simp;omega);(have g1:((len-20)%21 != 0)=false:=by simp;omega);rw[HT.out,HL.out];clear hf hc hlc
 go_enter func35,ntmps35
 go_wp2_with (first|((with_reducible refine gB 71 1 ?_);refine bx 71 _ (hdc len time seq kind) ?_;intro b3 w2 g3 R3 hb2;have n3:b3≠p:=(fun e=>by have:=R.lt;omega);replace hne:=hE.new g3;replace R:=Row.below R hb2;replace hE:=hE.below hb2;replace hB:=hB.trans (hb2.mono (Nat.le_trans hpl hB.size)))|((with_reducible refine gL 3 8 ?_);refine fx R3 _ 0 _ ?_))
 go_loopw [20] (fun i W=>∃k:Nat,k<=c/\i=I Z (k:Int)/\∃v2 es2,Rdr W p (l.drop (20+21*k)) d v2/\EvO W (p+1) v2 es2/\Hid (evs time c (l.drop 20) es=evs time (c-k) (l.drop (20+21*k)) es2)/\Hid (es2.length=es.length+k)/\Below p w W/\Row 71 W b3 (hdc len time seq kind)/\v2.ownBlock≠some b3) (fun i _=>c-(intOf i).toNat)
 case atStart=>exact⟨0,by omega,rfl,v,es,R,hE,rfl,rfl,hB,R3,hne⟩
 case round=>
  clear hB R R3 hE hne hquo hrem g0 g1 hk0 hk1 hk2
  obtain⟨k,hk,rfl,v2,es2,R,hE,HV,HS,hB,R3,hne⟩:=hrel
  by_cases hlt:k<c
  ·(have hkc:(k:Int)<(c:Int):=by omega);(have hkw:wrap64 ((k:Int)+1)=(k:Int)+1:=by unfold wrap64;omega);have hl21:21<=(l.drop (20+21*k)).length:=qgeb l _ _ om;(have hll:(l.drop (20+21*k)).length<=140737488351232:=by rw[List.length_drop];omega);(have hs2:es2.length<=4294970500:=by have:=HS.out;omega)
   obtain⟨m,hm⟩:∃m,c-k=m+1:=⟨c-k-1,by omega⟩
   (have HV2:Hid (evs time c (l.drop 20) es=evs time (m+1) (l.drop (20+21*k)) es2):=by show _=_;rw[←hm];exact HV.out);(have HDR:Hid ((l.drop (20+21*k)).drop 21=l.drop (20+21*(k+1))):=by show _=_;rw[List.drop_drop];congr 1);(have HMM:Hid (c-(k+1)=m):=by show _=_;omega);clear HV hm
   obtain⟨q,hq⟩:∃q,l.drop (20+21*k)=q:=⟨_,rfl⟩
   rw[hq] at R HV2 hl21 hll HDR
   (have hep:es2.length<=3518437208780:=by omega);(have EV:=fun(w:World) (R:Rdr w p q d v2)=>qfvb p q d v2 w R hl21 hll);(have EN:=fun(w:World) (R:Rdr w p q d v2)=>qf8b p q d v2 w R hl21 hll);clear hq
   by_cases hok:okR q
   ·(have CY:=fun(w:World) (R:Rdr w p q d v2)=>EV w R hok);have ht0:=hok.1.1.1;have ht1:=hok.1.1.2;clear EV EN
    by_cases htm':(rdE q).t%4294967296=time
    ·(have htm:((rdE q).t%4294967296 != time)=false:=by simpa using htm')
     rcases hla:qcyb es2 (rdE q).t with _|_
     ·(have HV3:Hid (evs time c (l.drop 20) es=evs time m (l.drop (20+21*(k+1))) (es2++[rdE q])):=by show _=_;rw[HV2.out,qd4b ⟨hok,htm',hla⟩,HDR.out]);clear HV2 hok htm'
      go_upto_region 7 with(first|(go_at_call 38;refine(CY _ R).mono ?_;rintro x w5 ⟨rfl,R',hM5⟩;replace R:=R';clear R';replace R3:=hM5.row R3 n3;refine m1d ?_;clear hE hB;intro hE hB;clear hM5)|((with_reducible refine gA 29 ?_);refine m0i ?_;clear R R3 hE hB;intro b6 w3 g6 R6 hb3 n6 n36 hne6 gp6 R R3 hE hB)|((with_reducible refine gS 29 6 25 ?_);refine m1z ?_;clear R R3 hE hB;intro w4 R6 t4 R R3 hE hB))
      refine RD (fun W=>Row 29 W b6 (ec (rdE q))/\Row 71 W b3 (hdc len time seq kind)) ⟨R6,R3⟩ (fun _=>?_)
      refine m1l ?_
      refine tq 3 (V (some ⟨b6,0,none⟩)) rfl ⟨R6,R3⟩ (tk 4 (I Z (rdE q).t) rfl (qim (.tmp 30) rfl kr b6 0 kr (rdE q).t (fun w h=>(h.1.cell 0).trans rfl)) ⟨R6,R3⟩ (tq 6 (V (some ⟨b3,1,none⟩)) rfl ⟨R6,R3⟩ ?_))
      simp only[ZZ]
      refine tk 7 (I Z time) rfl (qim (.tmp 33) rfl kr b3 1 kr time (fun w h=>(h.2.cell 1).trans rfl)) ⟨R6,R3⟩ ?_
      simp only[ZZ];refine AR [5] ?_
      refine AC (fun K hK=>?_) AZ
      refine m10 ?_;clear R R3 R6 hE hB;intro w5 hb5 R R3 R6 hE hB
      go_wp2_with fail
      refine hK.out _ _ ⟨R6,R3⟩ (fun _=>?_)
      clear hK K;(try simp only[ZZ]);refine m1t ?_
      refine tq 11 (V (some ⟨p,0,none⟩)) rfl ⟨R6,R3⟩ (tq 12 (V (some ⟨b6,0,none⟩)) rfl ⟨R6,R3⟩ (tk 13 (I Z (rdE q).t) rfl (qim (.tmp 39) rfl kr b6 0 kr (rdE q).t (fun w h=>(h.1.cell 0).trans rfl)) ⟨R6,R3⟩ ?_))
      simp only[ZZ];refine AR [14] ?_
      refine AC (fun K hK=>?_) AZ
      go_simp
      go_at_call 39;refine(qdsb p _ d v2 es2 _ _ R (hE.at hep)).mono ?_;rintro x w6 ⟨rfl,hw6⟩;subst hw6;rw[hla]
      go_wp2_with fail
      refine hK.out _ _ ⟨R6,R3⟩ (fun _=>?_)
      clear hK K;(try simp only[ZZ]);refine tq 15 (.bool false) rfl ⟨R6,R3⟩ ?_;refine m1r ?_
      go_upto_region 9 with fail
      refine RD (fun W=>Row 29 W b6 (ec (rdE q))) R6 (fun _=>?_)
      refine tq 0 (V (some ⟨p,0,none⟩)) rfl R6 (tq 1 (V (some ⟨p,0,none⟩)) rfl R6 (tq 2 (V (some ⟨p,0,none⟩)) rfl R6 ?_));simp only[ZZ]
      refine tq 3 (V (some ⟨p,2,none⟩)) rfl R6 (tk 5 (.agg (ec (rdE q))) rfl (yx 29 (.tmp 6) (ec (rdE q)) (fun w h=>h)) R6 ?_)
      simp only[ZZ];refine AR [4,6] ?_
      refine AP (fun K hK=>?_) ?_
      ·refine qepb R (.tmp 46) rfl 2 kr v2 rfl ?_
       refine hK.out _ _ R6 (fun _=>?_)
       clear hK K;(try simp only[ZZ]);refine AR [6] ?_
       refine AP (fun K hK=>?_) AZ
       refine q26 (.tmp 48) rfl (rdE q) kr ?_;intro b9 w7 g9 R9 hb7;(first|replace hb7:=qmk hb7|skip);replace R:=Row.below R hb7;replace R3:=R3.below hb7;replace R6:=R6.below hb7;replace hE:=hE.below hb7;replace hB:=hB.trans (hb7.mono (Nat.le_trans hpl hB.size))
       exact sZrr34
      refine AP (fun K hK=>?_) AZ
      refine q26 (.tmp 48) rfl (rdE q) kr ?_;intro b9 w7 g9 R9 hb7;(first|replace hb7:=qmk hb7|skip);replace R:=Row.below R hb7;replace R3:=R3.below hb7;replace R6:=R6.below hb7;replace hE:=hE.below hb7;replace hB:=hB.trans (hb7.mono (Nat.le_trans hpl hB.size))
      refine hK.out _ _ R6 (fun _=>?_)
      clear hK K;(try simp only[ZZ]);refine AR [4] ?_
      refine AP (fun K hK=>?_) AZ
      refine qepb R (.tmp 46) rfl 2 kr v2 rfl ?_
      exact sZrr34
     ·(have hbad:¬(okR q/\(rdE q).t%4294967296=time/\qcyb es2 (rdE q).t=false):=fun h=>by rw[hla] at h;simp at h);clear hok htm'
      go_upto_region 7 with(first|(go_at_call 38;refine(CY _ R).mono ?_;rintro x w5 ⟨rfl,R',hM5⟩;replace R:=R';clear R';replace R3:=hM5.row R3 n3;refine m1d ?_;clear hE hB;intro hE hB;clear hM5)|((with_reducible refine gA 29 ?_);refine m0i ?_;clear R R3 hE hB;intro b6 w3 g6 R6 hb3 n6 n36 hne6 gp6 R R3 hE hB)|((with_reducible refine gS 29 6 25 ?_);refine m1z ?_;clear R R3 hE hB;intro w4 R6 t4 R R3 hE hB))
      refine RD (fun W=>Row 29 W b6 (ec (rdE q))/\Row 71 W b3 (hdc len time seq kind)) ⟨R6,R3⟩ (fun _=>?_)
      refine m1l ?_
      refine tq 3 (V (some ⟨b6,0,none⟩)) rfl ⟨R6,R3⟩ (tk 4 (I Z (rdE q).t) rfl (qim (.tmp 30) rfl kr b6 0 kr (rdE q).t (fun w h=>(h.1.cell 0).trans rfl)) ⟨R6,R3⟩ (tq 6 (V (some ⟨b3,1,none⟩)) rfl ⟨R6,R3⟩ ?_))
      simp only[ZZ]
      refine tk 7 (I Z time) rfl (qim (.tmp 33) rfl kr b3 1 kr time (fun w h=>(h.2.cell 1).trans rfl)) ⟨R6,R3⟩ ?_
      simp only[ZZ];refine AR [5] ?_
      refine AC (fun K hK=>?_) AZ
      refine m10 ?_;clear R R3 R6 hE hB;intro w5 hb5 R R3 R6 hE hB
      go_wp2_with fail
      refine hK.out _ _ ⟨R6,R3⟩ (fun _=>?_)
      clear hK K;(try simp only[ZZ]);refine m1t ?_
      refine tq 11 (V (some ⟨p,0,none⟩)) rfl ⟨R6,R3⟩ (tq 12 (V (some ⟨b6,0,none⟩)) rfl ⟨R6,R3⟩ (tk 13 (I Z (rdE q).t) rfl (qim (.tmp 39) rfl kr b6 0 kr (rdE q).t (fun w h=>(h.1.cell 0).trans rfl)) ⟨R6,R3⟩ ?_))
      simp only[ZZ];refine AR [14] ?_
      refine AC (fun K hK=>?_) AZ
      go_simp
      go_at_call 39;refine(qdsb p _ d v2 es2 _ _ R (hE.at hep)).mono ?_;rintro x w6 ⟨rfl,hw6⟩;subst hw6;rw[hla]
      go_wp2_with fail
      exact sZrr37
    ·(have htm:((rdE q).t%4294967296 != time)=true:=by simpa using htm');(have hbad:¬(okR q/\(rdE q).t%4294967296=time/\qcyb es2 (rdE q).t=false):=fun h=>htm' h.2.1);clear hok htm'
     go_upto_region 7 with(first|(go_at_call 38;refine(CY _ R).mono ?_;rintro x w5 ⟨rfl,R',hM5⟩;replace R:=R';clear R';replace R3:=hM5.row R3 n3;refine m1d ?_;clear hE hB;intro hE hB;clear hM5)|((with_reducible refine gA 29 ?_);refine m0i ?_;clear R R3 hE hB;intro b6 w3 g6 R6 hb3 n6 n36 hne6 gp6 R R3 hE hB)|((with_reducible refine gS 29 6 25 ?_);refine m1z ?_;clear R R3 hE hB;intro w4 R6 t4 R R3 hE hB))
     refine RD (fun W=>Row 29 W b6 (ec (rdE q))/\Row 71 W b3 (hdc len time seq kind)) ⟨R6,R3⟩ (fun _=>?_)
     refine m1l ?_
     refine tq 3 (V (some ⟨b6,0,none⟩)) rfl ⟨R6,R3⟩ (tk 4 (I Z (rdE q).t) rfl (qim (.tmp 30) rfl kr b6 0 kr (rdE q).t (fun w h=>(h.1.cell 0).trans rfl)) ⟨R6,R3⟩ (tq 6 (V (some ⟨b3,1,none⟩)) rfl ⟨R6,R3⟩ ?_))
     simp only[ZZ]
     refine tk 7 (I Z time) rfl (qim (.tmp 33) rfl kr b3 1 kr time (fun w h=>(h.2.cell 1).trans rfl)) ⟨R6,R3⟩ ?_
     simp only[ZZ];refine AR [5] ?_
     refine AC (fun K hK=>?_) AZ
     refine m10 ?_;clear R R3 R6 hE hB;intro w5 hb5 R R3 R6 hE hB
     go_wp2_with fail
     refine hK.out _ _ ⟨R6,R3⟩ (fun _=>?_)
     clear hK K;(try simp only[ZZ]);refine tk 8 (.bool true) rfl (qrk 3 (.tmp 32) (.tmp 34) ((rdE q).t%4294967296) time true rfl kr kr kr htm) ⟨R6,R3⟩ ?_
     exact sZrr35
   ·(have CN:=fun(w:World) (R:Rdr w p q d v2)=>EN w R hok);(have hbad:¬(okR q/\(rdE q).t%4294967296=time/\qcyb es2 (rdE q).t=false):=fun h=>hok h.1);clear EV EN hok
    go_upto_region 7 with(first|(go_at_call 38;refine(CN _ R).mono ?_;rintro x w5 ⟨⟨E,rfl⟩,R',hM5⟩;replace R:=R';clear R';replace R3:=hM5.row R3 n3;refine m1d ?_;clear hE hB;intro hE hB;clear hM5)|((with_reducible refine gA 29 ?_);refine m0i ?_;clear R R3 hE hB;intro b6 w3 g6 R6 hb3 n6 n36 hne6 gp6 R R3 hE hB)|((with_reducible refine gS 29 6 25 ?_);refine sx 29 (.tmp 6) (.tmp 25) (ec E) R6 ?_;intro w4 R6 t4;replace R:=t4.row R n6.symm;replace R3:=t4.row R3 n36;replace hE:=hE.turned t4 hne6;replace hB:=t4.below _ _ gp6 hB))
    refine RD (fun W=>Row 29 W b6 (ec E)/\Row 71 W b3 (hdc len time seq kind)) ⟨R6,R3⟩ (fun _=>?_)
    refine tq 0 (.bool false) rfl ⟨R6,R3⟩ (tq 1 (.bool true) rfl ⟨R6,R3⟩ (tq 2 (.bool true) rfl ⟨R6,R3⟩ ?_));simp only[ZZ];refine tk 3 undef rfl (Or.inr ⟨by kernel_rfl,rfl⟩) ⟨R6,R3⟩ (tk 4 undef rfl (Or.inr ⟨by kernel_rfl,rfl⟩) ⟨R6,R3⟩ (tk 6 undef rfl (Or.inr ⟨by kernel_rfl,rfl⟩) ⟨R6,R3⟩ ?_));simp only[ZZ];refine tk 7 undef rfl (Or.inr ⟨by kernel_rfl,rfl⟩) ⟨R6,R3⟩ ?_;simp only[ZZ];refine AR [5] ?_
    refine AC (fun K hK=>?_) AZ
    rw[if_neg (ne_true_of_eq_false kr)]
    refine hK.out _ _ ⟨R6,R3⟩ (fun _=>?_)
    clear hK K;(try simp only[ZZ]);refine tk 8 undef rfl (Or.inr ⟨by kernel_rfl,rfl⟩) ⟨R6,R3⟩ ?_
    exact sZrr35
  ·obtain rfl:k=c:=by omega
   (have HV4:Hid (evs time k (l.drop 20) es=some es2):=by show _=_;rw[HV.out,Nat.sub_self];rfl);clear HV
   go_wp2
   go_ret
   exact⟨Or.inr ⟨rfl,_,_,HV4.out,R,hE⟩,hB⟩
end Go.Proofs.YtnhafdkfjjplkaaDoor
