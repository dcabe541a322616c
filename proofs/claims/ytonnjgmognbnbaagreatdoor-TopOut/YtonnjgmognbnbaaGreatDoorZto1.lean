/-
  Of what a law stands on.
-/
import Derived.Test.YtonnjgmognbnbaaGreatDoorZtTpP
set_option linter.unusedSimpArgs false
set_option linter.unusedVariables false
namespace Go.Proofs.YtonnjgmognbnbaaGreatDoor
open Go.Value renaming int → I,pointer → V
open Go.IntKind renaming i64 → Z
open _root_.Go.Proofs.Tryz Go.ChangeShapes Go.WideShapes Go.ChangeAt Go.RowKit
set_option maxHeartbeats 16000000
set_option maxRecDepth 100000
variable {p:Prop}{w:World}{base:Nat}{sl v:Value}{rs:List Rp}{es:List Ac}
theorem qwn(l:List UInt8)(k:Nat)(h:k+1<l.length):w16 (wAt l k)=(l.drop k).take 2:=by
 have e:(l.drop k).take 2=[l[k],l[k+1]]:=by
  rw[List.drop_eq_getElem_cons om,List.drop_eq_getElem_cons om];rfl
 rw[e,←q9y]
 unfold wAt byt
 simp[List.getD_eq_getElem?_getD,List.getElem?_eq_getElem (show k<l.length by omega),List.getElem?_eq_getElem h]
theorem qu2(l:List UInt8)(k:Nat)(h:k+3<l.length):l32 (lAt l k)=(l.drop k).take 4:=by
 have b1:=qhr l k;have b2:=qhr l (k+2);have e1:w16 (lAt l k/65536)=w16 (wAt l k):=q3g _ _ (by unfold lAt;omega);have e2:w16 (lAt l k)=w16 (wAt l (k+2)):=q3g _ _ (by unfold lAt;omega)
 unfold l32
 rw[e1,e2,qwn l k om,qwn l (k+2) om,show(4:Nat)=2+2 from rfl,List.take_add,List.drop_drop]
theorem q82(l:List UInt8)(proto:Int)(h:20<=l.length):ps (lAt l 12) (lAt l 16) proto ((l.length:Int)-20)++l.drop 20=chkd l proto:=by
 unfold ps chkd
 by_cases hp:proto=1
 ·rw[if_pos hp,if_pos hp];rfl
 ·rw[if_neg hp,if_neg hp,qu2 l 12 om,qu2 l 16 om,show(8:Nat)=4+4 from rfl,List.take_add,List.drop_drop]
  simp
theorem cut1(l:List UInt8)(k:Nat)(h:k<l.length):l.drop k=[b8 (byt l k)]++l.drop (k+1):=by
 have e:b8 (byt l k)=l[k]:=by
  unfold byt
  rw[List.getD_eq_getElem?_getD,List.getElem?_eq_getElem h]
  show b8 (l[k].toNat:Int)=l[k]
  have h1:=qc1 (l[k].toNat:Int);have h2:=qje l[k]
  exact UInt8.toNat_inj.1 om
 rw[List.drop_eq_getElem_cons h,e];rfl
theorem cut2(l:List UInt8)(k:Nat)(h:k+1<l.length):l.drop k=w16 (wAt l k)++l.drop (k+2):=by
 rw[qwn l k h,←List.drop_drop,List.take_append_drop]
theorem cut4(l:List UInt8)(k:Nat)(h:k+3<l.length):l.drop k=l32 (lAt l k)++l.drop (k+4):=by
 rw[qu2 l k h,←List.drop_drop,List.take_append_drop]
theorem q6e(l:List UInt8)(h:20<=l.length)(h0:byt l 0=69)(h1:byt l 1=0)(h6:wAt l 6=0)(k:Pkt)(hi:k.id=wAt l 4)(ht:k.ttl=byt l 8)(hp:k.proto=byt l 9)(hs:k.src=lAt l 12)(hd':k.dst=lAt l 16):
  l=hd k (wAt l 2) (wAt l 10)++l.drop 20:=by
 have e:l=[b8 (byt l 0)]++([b8 (byt l 1)]++(w16 (wAt l 2)++(w16 (wAt l 4)++(w16 (wAt l 6)++([b8 (byt l 8)]++([b8 (byt l 9)]++(w16 (wAt l 10)++(l32 (lAt l 12)++(l32 (lAt l 16)++l.drop 20))))))))):=by
  rw[←cut4 l 16 om,←cut4 l 12 om,←cut2 l 10 om,←cut1 l 9 om,←cut1 l 8 om,←cut2 l 6 om,←cut2 l 4 om,←cut2 l 2 om,←cut1 l 1 om,←cut1 l 0 om];rfl
 rw[h0,h1,h6] at e
 unfold hd
 rw[hi,ht,hp,hs,hd']
 simp only[List.append_assoc,List.singleton_append,List.cons_append,List.nil_append]
 exact e
theorem qatb(l:List UInt8):(qam l).id=wAt l 4:=by unfold qam;split<;>(try split)<;>rfl
theorem qaeb(l:List UInt8):(qam l).ttl=byt l 8:=by unfold qam;split<;>(try split)<;>rfl
theorem q3c(l:List UInt8):(qam l).src=lAt l 12:=by unfold qam;split<;>(try split)<;>rfl
theorem q2a(l:List UInt8):(qam l).dst=lAt l 16:=by unfold qam;split<;>(try split)<;>rfl
theorem sZto12(h:p:=by
 simp only[List.append_assoc,List.singleton_append,List.cons_append,List.nil_append]
 rfl):p:=h
theorem q4z(l:List UInt8)(H:qls l)(P:qom l (byt l 9)):l.drop 20=pt (qam l) (wAt l (qbd (byt l 9)))++(qam l).body.data.toList/\qb4 (byt l 9)+(qam l).body.size=(l.length:Int)-20:=by
 have hn:=P.len
 rcases(qei _).1 H.kind with hp|hp|hp
 ·(have e8:qb4 (byt l 9)=8:=by rw[hp];rfl)
  rw[e8] at hn
  (have hb:(qam l).body=txt (l.drop 28):=by unfold qam;rw[if_pos hp])
  refine⟨?_,by rw[e8,hb,qck,List.length_drop];omega⟩
  have e:l.drop 20=[b8 (byt l 20)]++([b8 (byt l 21)]++(w16 (wAt l 22)++(w16 (wAt l 24)++(w16 (wAt l 26)++l.drop 28)))):=by
   rw[←cut2 l 26 om,←cut2 l 24 om,←cut2 l 22 om,←cut1 l 21 om,←cut1 l 20 om]
  rw[P.ping' hp] at e
  rw[hb,qds,e,show qbd (byt l 9)=22 by rw[hp];rfl]
  unfold pt
  rw[if_pos (by rw[qfq];exact hp)]
  (have f1:(qam l).flags=byt l 20:=by unfold qam;rw[if_pos hp]);(have f2:(qam l).seq=wAt l 26:=by unfold qam;rw[if_pos hp])
  have f3:(qam l).sport+(qam l).dport=wAt l 24:=by
   unfold qam;rw[if_pos hp]
   show(if byt l 20=8 then wAt l 24 else 0)+(if byt l 20=8 then 0 else wAt l 24)=wAt l 24
   split<;>omega
  rw[f1,f2,f3]
  exact sZto12
 ·(have e8:qb4 (byt l 9)=20:=by rw[hp];rfl)
  rw[e8] at hn
  (have n1:¬byt l 9=1:=by omega);(have hb:(qam l).body=txt (l.drop 40):=by unfold qam;rw[if_neg n1,if_pos hp])
  refine⟨?_,by rw[e8,hb,qck,List.length_drop];omega⟩
  have e:l.drop 20=w16 (wAt l 20)++(w16 (wAt l 22)++(l32 (lAt l 24)++(l32 (lAt l 28)++([b8 (byt l 32)]++([b8 (byt l 33)]++(w16 (wAt l 34)++(w16 (wAt l 36)++(w16 (wAt l 38)++l.drop 40)))))))):=by
   rw[←cut2 l 38 om,←cut2 l 36 om,←cut2 l 34 om,←cut1 l 33 om,←cut1 l 32 om,←cut4 l 28 om,←cut4 l 24 om,←cut2 l 22 om,←cut2 l 20 om]
  rw[P.tcp1 hp,P.tcp3 hp] at e
  rw[hb,qds,e,show qbd (byt l 9)=36 by rw[hp];rfl]
  unfold pt
  rw[if_neg (by rw[qfq];exact n1),if_neg (by rw[qfq];omega)]
  have f:(qam l).sport=wAt l 20/\(qam l).dport=wAt l 22/\(qam l).seq=lAt l 24/\(qam l).ack=lAt l 28/\(qam l).flags=byt l 33/\(qam l).win=wAt l 34:=by
   unfold qam;rw[if_neg n1,if_pos hp];exact⟨rfl,rfl,rfl,rfl,rfl,rfl⟩
  obtain⟨f1,f2,f3,f4,f5,f6⟩:=f;rw[f1,f2,f3,f4,f5,f6]
  exact sZto12
 ·(have e8:qb4 (byt l 9)=8:=by rw[hp];rfl)
  rw[e8] at hn
  (have n1:¬byt l 9=1:=by omega);(have n6:¬byt l 9=6:=by omega);(have hb:(qam l).body=txt (l.drop 28):=by unfold qam;rw[if_neg n1,if_neg n6]);(have hz:qb4 (byt l 9)+(qam l).body.size=(l.length:Int)-20:=by rw[e8,hb,qck,List.length_drop];omega)
  refine⟨?_,hz⟩
  have e:l.drop 20=w16 (wAt l 20)++(w16 (wAt l 22)++(w16 (wAt l 24)++(w16 (wAt l 26)++l.drop 28))):=by
   rw[←cut2 l 26 om,←cut2 l 24 om,←cut2 l 22 om,←cut2 l 20 om]
  rw[e,show qbd (byt l 9)=26 by rw[hp];rfl]
  unfold pt
  rw[if_neg (by rw[qfq];exact n1),if_pos (by rw[qfq];exact hp)]
  have f:(qam l).sport=wAt l 20/\(qam l).dport=wAt l 22:=by
   unfold qam;rw[if_neg n1,if_neg n6];exact⟨rfl,rfl⟩
  (have f3:8+((qam l).body.size:Int)=wAt l 24:=by have:=P.udp hp;omega);rw[f.1,f.2,f3,hb,qds]
  simp only[List.append_assoc]
theorem q61(l:List UInt8)(hb:bad l=0):l=fr (qam l) (wAt l 10) (wAt l (qbd (byt l 9)))/\(wAt l 10+tot (hd (qam l) (flen (qam l)) 0))%65535=0/\(wAt l (qbd (byt l 9))+allP (qam l) 0)%65535=0:=by
 obtain⟨H,P,hg⟩:=qgi l hb;obtain⟨hc,hz⟩:=q4z l H P
 have hlen:wAt l 2=flen (qam l):=by
  unfold flen;rw[qfq,H.size];omega
 have hh:=q6e l H.len H.mark H.serv H.piece (qam l) (qatb l) (qaeb l) (qfq l) (q3c l) (q2a l)
 rw[hlen] at hh
 have e:l=fr (qam l) (wAt l 10) (wAt l (qbd (byt l 9))):=by
  unfold fr;rw[←hc];exact hh
 have w1:=qhr l 10;have w2:=qhr l (qbd (byt l 9))
 refine⟨e,?_,?_⟩
 ·have h20:l.take 20=hd (qam l) (flen (qam l)) (wAt l 10):=by
   have:=congrArg (List.take 20) hh
   rw[this,List.take_left' (by rfl)]
  have hs:=H.sum
  rw[h20,q1p _ _ _ w1.1 w1.2] at hs
  have:=qhv (tot (hd (qam l) (flen (qam l)) 0)+wAt l 10)
  rw[hs] at this
  omega
 ·have hs:=P.sum
  rw[←q82 l _ H.len,hc] at hs
  have ha:tot (ps (lAt l 12) (lAt l 16) (byt l 9) ((l.length:Int)-20)++(pt (qam l) (wAt l (qbd (byt l 9)))++(qam l).body.data.toList))=allP (qam l) (wAt l (qbd (byt l 9))):=by
   unfold allP;rw[q3c,q2a,qfq,hz]
  rw[ha,qxw _ _ w2.1 w2.2] at hs
  have:=qhv (allP (qam l) 0+wAt l (qbd (byt l 9)))
  rw[hs] at this
  omega
theorem qnc(l:List UInt8)(side addr port:Int)(h:qcb l side addr port=0):bad l=0/\qc5 l side addr port=txt (frame (turned (qam l) side addr port))/\good (turned (qam l) side addr port)=0/\(qam l).ttl≠1/\good (qam l)=0:=by
 have hE:=h
 unfold qcb at h
 by_cases hb:bad l≠0
 ·rw[if_pos hb] at h;exact absurd h hb
 rw[if_neg hb] at h
 (have hb0:bad l=0:=by omega)
 by_cases h0:side≠0/\side≠1
 ·rw[if_pos h0] at h;omega
 rw[if_neg h0] at h
 by_cases ha:qeb addr=false
 ·rw[if_pos ha] at h;omega
 rw[if_neg ha] at h
 by_cases hp:qc7 port=false
 ·rw[if_pos hp] at h;omega
 rw[if_neg hp] at h
 by_cases h1:(qam l).ttl=1
 ·rw[if_pos h1] at h;omega
 rw[if_neg h1] at h
 by_cases h2:(qam l).proto=1/\((qam l).flags==8)≠(side==0)
 ·rw[if_pos h2] at h;omega
 refine m94 ?_;intro ha' hp' hs
 have hf:(qam l).proto=1->((qam l).flags==8)=(side==0):=fun h3=>by
  by_cases h4:((qam l).flags==8)=(side==0)
  ·exact h4
  ·exact absurd ⟨h3,h4⟩ h2
 obtain⟨H,P,hg⟩:=qgi l hb0;obtain⟨hl,m1,m2⟩:=q61 l hb0;have w1:=qhr l 10;have w2:=qhr l (qbd (byt l 9))
 refine⟨hb0,?_,qqa _ side addr port hg hs ha' hp' h1 hf,h1,hg⟩
 unfold qc5
 rw[if_pos hE]
 have:=qq0 (qam l) _ _ side addr port hg hs ha' hp' h1 hf w1.1 w1.2 w2.1 w2.2 m1 m2
 rw[←hl] at this
 rw[this]
section
open Go.Maps
structure Rn(w W:World)(b:Nat)(v:Value)(s:Nt)(rs:List Rp)(F:Nat->Prop):Prop where
 nat:qaw W b s (duF s.fs) F
 new:∀c,F c->w.heap.size<=c
 bd:∀c,F c->c<W.heap.size
 out:RpO W w.heap.size v rs
 off:∀k,v.ownBlock=some k->¬F k
 low:Below w.heap.size w W
section
variable {w W W':World} {b:Nat} {v v':Value} {s:Nt} {rs:List Rp} {F:Nat->Prop}
theorem Rn.gr(h:Rn w W b v s rs F):Gr (fun _=>False) w W:=Gr.of_below h.low
theorem Rn.start{loose:Bool}(hb:w.heap.size<=b)(hN:qaw W b (nt0 loose) (duF (nt0 loose).fs) (fun c=>c=b))(hB:Below w.heap.size w W):Rn w W b (.slice none 0 0) (nt0 loose) [] (fun c=>c=b/\c<W.heap.size):=
 ⟨hN.bound,fun c hc=>hc.1▸hb,fun c hc=>hc.2,RpO.nil _ _,fun k hk=>(by cases hk),hB⟩
theorem Rn.below(h:Rn w W b v s rs F)(hb:Below W.heap.size W W'):Rn w W' b v s rs F:=
 ⟨h.nat.below hb,h.new,fun c hc=>Nat.lt_of_lt_of_le (h.bd c hc) hb.size,h.out.below hb,h.off,h.low.trans (hb.mono h.low.size)⟩
theorem Rn.turned(h:Rn w W b v s rs F){c:Nat}(t:qbl c W W')(h1:¬F c)(h2:v.ownBlock≠some c)(h3:w.heap.size<=c):Rn w W' b v s rs F:=
 ⟨h.nat.keep (qcq t) (fun d hd e=>h1 (e▸hd)),h.new,fun d hd=>Nat.lt_of_lt_of_le (h.bd d hd) (qcq t).size,h.out.keep (fun g hg=>t.other g (fun e=>h2 (by rw[hg,e]))),h.off,(h.gr.trans (qcq t) (fun x hx=>.inr (hx▸h3))).below (fun _ h=>h.elim) (Nat.le_refl _)⟩
theorem Rn.call(h:Rn w W b v s rs F){s':Nt}{F':Nat->Prop}(hN:qaw W' b s' (duF s'.fs) F')(hg:Gr F W W')(hf:∀c,F' c->F c\/W.heap.size<=c):Rn w W' b v s' rs (fun c=>F' c/\c<W'.heap.size):=
 ⟨hN.bound,fun c hc=>(hf c hc.1).elim (h.new c) (fun h2=>Nat.le_trans h.low.size h2),fun c hc=>hc.2,h.out.keep (fun g hg2=>hg.block g (h.out.ge g hg2).2 (h.off g hg2)),fun k hk hc=>(hf k hc.1).elim (h.off k hk) (fun h2=>by have:=(h.out.ge k hk).2;omega),
  (h.gr.trans hg (fun x hx=>.inr (h.new x hx))).below (fun _ h=>h.elim) (Nat.le_refl _)⟩
theorem Rn.grew(h:Rn w W b v s rs F){k:Rp}(hO:RpO W' w.heap.size v' (rs++[k]))(hg:Grew v v' W W'):Rn w W' b v' s (rs++[k]) F:=
 ⟨h.nat.keep (Gr.of_grown (F:=fun c=>v.ownBlock=some c) hg.by' (fun c hc=>hc)) (fun c hc e=>h.off c e hc),h.new,fun c hc=>Nat.lt_of_lt_of_le (h.bd c hc) hg.by'.size,hO,
  fun k hk hc=>by
   rcases hg.lies with e|⟨d,e,hd⟩
   ·exact h.off k (e▸hk) hc
   ·rw[e] at hk;have:=h.bd k hc;have:=Option.some.inj hk;omega,
  qz1 h.low hg (fun k hk=>(h.out.ge k hk).1)⟩
end
theorem qizb(w:World):(zeroValue 23).run prog w=.ok (.agg (ac ⟨0,0,0,ByteArray.empty⟩)) w:=by kernel_rfl
theorem qhub(k:Ac):(prog.info? 23).map (·.size)=some (ac k).size:=by kernel_rfl
theorem qi8b(k:Ac):(ac k).all (·.oneCell')=true:=by kernel_rfl
theorem qihb(s:Nt)(l:List Ac)(a:Ac):s.runs (l++[a])=((s.runs l).act a).2:=by
 induction l generalizing s with
 | nil=>rfl
 | cons b r ih=>
  have e:s.runs (b::r)=((s.act b).2).runs r:=rfl;rw[e,List.cons_append];have e2:s.runs (b::(r++[a]))=((s.act b).2).runs (r++[a]):=rfl;rw[e2,ih]
theorem qh3b(loose:Bool)(sl:Value)(es:List Ac)(w:World)(hA:AcAt w sl es)(hok:∀k∈es,k.ok)(hT:Tab w)(hle:es.length<=300):Calls prog 50 #[.bool loose,sl] w fun e w'=>∃v,e=.returned (.tuple #[v,I Z 0])/\RpO w' w.heap.size v ((nt0 loose).plays es)/\Below w.heap.size w w':=by
 obtain⟨a0,cap,hsl⟩:=hA.slice
 obtain⟨n,hn⟩:∃n,n=es.length:=⟨_,rfl⟩
 rw[←hn] at hsl
 subst hsl
 have HN:Hid (n=es.length):=hn;have HT:Hid (Tab w):=hT;(have hnn:¬(300:Int)<(n:Int):=by omega);(have CN:=fun w=>qu0 loose w);clear hn hT
 go_enter func50,ntmps50
 go_wp2_with (go_at_call 51;go_fit (CN _);rintro e w2 ⟨b,rfl,hlb,hN1,hb2⟩;clear CN;have P:=Rn.start hlb hN1 hb2;clear hlb hN1 hb2)
 go_loopw [7,17] (fun rv i W=>∃(j:Nat) (F:Nat->Prop),j<=n/\i=I Z (j:Int)/\Rn w W b rv ((nt0 loose).runs (es.take j)) ((nt0 loose).plays (es.take j)) F) (fun _ i _=>n-(intOf i).toNat)
 case atStart=>exact⟨0,_,Nat.zero_le _,rfl,P⟩
 case round=>
  clear P
  obtain⟨j,F,hj,rfl,P⟩:=hrel
  by_cases h1:j<n
  ·(have hj1:(j:Int)<(n:Int):=by omega);(have hjl:j<es.length:=by have:=HN.out;omega);have HM:=qha h1;have hjw:=qhl (p:=j) om
   obtain⟨x,hx⟩:∃x,es[j]=x:=⟨_,rfl⟩
   refine m6w ?_;intro hxo HL9 hlen hinv;(have hpl:((nt0 loose).plays (es.take j)).length<=5000000:=by rw[qhmb];omega)
   generalize es.take j=l at *
   have rx:=(hA.keepGr P.gr (fun _ h=>h)).at j hjl hx;(have hix:=fun w2=>hA.index j hjl w2);(have CD:=fun W F v rs (P:Rn w W b v ((nt0 loose).runs l) rs F)=>qos P.nat (HT.out.gr P.gr id) (fun hh=>by have:=P.new 0 hh;have:=HT.out.lt;omega) (hinv.ok om) x hxo)
   go_wp2_with (first|((with_reducible refine gL 23 19 ?_);refine wpList_load_mid rfl 23 (.tmp 19) rfl _ _ rfl (acl x) _ rx underlying23 rfl (qv8 _) ?_;rw[q9l])|((with_reducible refine gA 23 ?_);refine ax 9 23 qizb ?_;intro b9 w9 l9 R9 h9;have HF9:Hid (¬F b9):=hidN (fun hh=>by have:=P.bd _ hh;omega);have HO9:=P.out;have HV9:Hid (_≠some b9):=hidN (fun hh=>by have:=(HO9.ge _ hh).2;omega);clear HO9;have HL:Hid (w.heap.size<=b9):=hidN (Nat.le_trans P.low.size l9);replace P:=P.below h9;clear h9 l9 rx)|((with_reducible refine gS 23 9 20 ?_);refine sx 23 (.tmp 9) _ (ac x) R9 ?_;intro w8 R8 t8;replace P:=P.turned t8 HF9.out HV9.out HL.out;clear R9 t8)|((with_reducible refine gL 23 9 ?_);refine lx 23 (.tmp 9) (ac x) R8 ?_)|(go_at_call 18;refine(CD _ _ _ _ P).mono ?_;rintro e w5 ⟨rfl,F9,hN9,hg9,hf9⟩;clear CD R8;replace P:=P.call hN9 hg9 hf9;clear hN9 hg9 hf9)|((with_reducible refine qaa (.buildSlice 79 1 #[(0,.tmp 24)]) rfl ?_);refine qh0b rfl (.tmp 24) rfl (((nt0 loose).runs l).act x).1 rfl ?_;intro b25 w9 l9 R9 h9;replace P:=P.below h9;clear h9 l9)|((with_reducible refine qaa (.call { callee:=.builtin .append,args:=#[.tmp 21,.tmp 25],argTypes:=#[79,79] }) rfl ?_);refine qh5b rfl (.tmp 21) (.tmp 25) rfl P.out R9 rfl rfl hpl P.low.size ?_;intro v9 w7 O9 g9;replace P:=P.grew O9 g9;clear O9 g9 R9))
   go_roundw
   case rel=>
    (have e1:(nt0 loose).plays l++[(((nt0 loose).runs l).act x).1]=(nt0 loose).plays (es.take (j+1)):=by rw[←HL9.out,qiqb]);(have e2:(((nt0 loose).runs l).act x).2=(nt0 loose).runs (es.take (j+1)):=by rw[←HL9.out,qihb])
    rw[e1,e2] at P
    first
     | exact⟨j+1,_,by omega,by go_num,P⟩
     | ((repeat apply Exists.intro);exact⟨⟨j+1,_,by omega,by go_num,P⟩,rfl⟩)
   case measure=>first|exact HM.out|(rw[hjw];exact HM.out)
  ·(have hj1:¬(j:Int)<(n:Int):=by omega);have e:es.take j=es:=List.take_of_length_le (by have:=HN.out;omega)
   rw[e] at P
   go_wp2_with fail
   go_ret2
   exact⟨_,rfl,P.out,P.low⟩
theorem qieb(r:Rp):r.cells.toList.length=4:=rfl
theorem sZto11(h:p:=by
 cases q with
 | zero=>rw[List.getElem?_append_left om];simp
 | succ q=>
  (rw[List.getElem?_append_right om,hl,show 4*(q+1)+r-4=4*q+r by omega,ih q (by simpa using hq)])
  simp):p:=h
theorem qilb(rs:List Rp)(q r:Nat)(hq:q<rs.length)(hr:r<4):(rs.flatMap fun k:Rp=>k.cells.toList)[4*q+r]?=(rs[q].cells.toList)[r]?:=by
 induction rs generalizing q with
 | nil=>simp at hq
 | cons e l ih=>
  rw[List.flatMap_cons];have hl:=qieb e
  exact sZto11
def rpB(v:Value):Nat:=v.ownBlock.getD 0
theorem RpO.at(h:RpO w base v rs)(j:Nat)(hj:j<rs.length){x:Rp}(hx:rs[j]=x):w.rangeAt (rpB v) (4*j) x.cells.toList:=by
 rcases h.2 with⟨e,n0⟩|⟨b,cap,cur,hv,hbb,hh,hnc,hcm,hcs,ht⟩
 ·omega
 ·subst hv
  intro i u hu;(have hi2:i<4:=by have:=(List.getElem?_eq_some_iff.1 hu).1;rw[qieb] at this;exact this)
  show w.cell? ⟨b,4*j+i,none⟩=some u
  rw[←hx] at hu
  have e:=(qilb rs j i hj hi2).trans hu
  rw[←ht,List.getElem?_take_of_lt om] at e
  simp only[World.cell?,hh]
  simpa using e
theorem RpO.index(h:RpO w base v rs)(j:Nat)(hj:j<rs.length)(w2:World):(Instr.indexAt 79 v (I Z (j:Int))).run prog w2=.ok (V (some ⟨rpB v,4*j,none⟩)) w2:=by
 rcases h.2 with⟨e,n0⟩|⟨b,cap,cur,hv,_⟩
 ·omega
 ·subst hv
  (have hn:((j:Int)).toNat<rs.length:=by simpa using hj);(have hjl:(j:Int)<(rs.length:Int):=by omega);(have hs:(sizeOf 27).run prog w2=.ok 4 w2:=by kernel_rfl);have ht:rpB (.slice (some ⟨b,0,none⟩) rs.length cap)=b:=rfl;rw[ht]
  simp[go_sem,hj,hn,hjl,underlying79,hs]
theorem qhsb(es:List Ac):(es.flatMap acl).length=es.length*4:=by
 induction es with
 | nil=>rfl
 | cons e r ih=>rw[List.flatMap_cons,List.length_append,ih,List.length_cons];simp[acl];omega
theorem qhvb(es:List Ac)(q r:Nat)(hq:q<es.length)(hr:r<4):(es.flatMap acl)[4*q+r]?=(acl es[q])[r]?:=by
 induction es generalizing q with
 | nil=>simp at hq
 | cons e l ih=>
  rw[List.flatMap_cons];have hl:(acl e).length=4:=rfl
  exact sZto11
theorem qh8b(es:List Ac):∀u∈es.flatMap acl,u.oneCell'=true:=by
 intro u hu
 obtain⟨e,_,he⟩:=List.mem_flatMap.1 hu
 simp[acl] at he
 rcases he with rfl|rfl|rfl|rfl<;>rfl
theorem qitb:(prog.info? 23).map (fun i=>(i.zero,i.size,i.bytes))=some (some (.agg (ac ⟨0,0,0,ByteArray.empty⟩)),4,40):=by kernel_rfl
theorem qiwb(hM:AcAt w sl es)(h0:0<es.length)(hp:es.length<=100000)(ty:TypeId):
  ∃v' w',(Builtin.append_ #[44,44] ty #[.slice none 0 0,sl]).run prog w=.ok v' w'/\w'.ownsRow w.heap.size 23 4 v' es.length (es.flatMap acl)/\Below w.heap.size w w':=by
 obtain⟨i0,hi,hz0,hz1,hz2⟩:=info_parts qitb;obtain⟨a,cap,e,k1,k2,k3⟩:=hM;have e1:=k1 h0
 have hc:∀j u,(es.flatMap acl)[j]?=some u->w.cell? ⟨eb sl,eo sl+j,none⟩=some u:=by
  intro j u hu;(have hj:j<es.length*4:=by have:=(List.getElem?_eq_some_iff.1 hu).1;rw[qhsb] at this;exact this);(have e1:j=4*(j/4)+j%4:=by omega);(have hq:j/4<es.length:=by omega)
  rw[e1,qhvb es (j/4) (j%4) hq om] at hu
  have:=k2 (j/4) hq (j%4) u hu
  rw[show eo sl+4*(j/4)+j%4=eo sl+j by omega] at this
  exact this
 generalize eb sl=B at *
 generalize eo sl=O at *
 subst e1
 subst e
 obtain⟨v',w',h1,h2,h3,_,h5⟩:=run_append_own_at (P:=prog) w w.heap.size 44 ty 23 i0 (.agg (ac ⟨0,0,0,ByteArray.empty⟩)) 4 40 underlying44 hi hz0 hz1 hz2 rfl (by decide) (.slice none 0 0) 0 [] (World.ownsRow_nil w w.heap.size 23 4) ⟨B,O,none⟩ es.length cap (es.flatMap acl) (qhsb es)
  (fun j u hu=>by rw[Addr.add_lit];exact hc j u hu) (qh8b es) (by unfold maxLen;omega) om (Nat.le_refl _)
 refine⟨v',w',h1,?_,⟨h3.os,h3.tape,h3.output,h3.size,fun k hk=>h3.block k hk (fun e=>by cases e)⟩⟩
 simpa using h2
theorem qi4b(h:w.ownsRow base 23 4 v es.length (es.flatMap acl))(hp:es.length<=100000):AcAt w v es:=by
 rcases h.2 with⟨e,n0⟩|⟨b,cap,cur,hv,hbb,hh,hnc,hcm,hcs,ht⟩
 ·have e2:es=[]:=List.eq_nil_of_length_eq_zero n0
  subst e2
  exact⟨none,0,e,fun h=>by simp at h,fun j hj=>by simp at hj,by simp⟩
 ·subst hv
  refine⟨_,cap,rfl,fun _=>rfl,fun j hj i u hu=>?_,by omega⟩
  (have hi2:i<4:=by have:=(List.getElem?_eq_some_iff.1 hu).1;simpa[acl] using this);have e:=(qhvb es j i hj hi2).trans hu
  rw[←ht,List.getElem?_take_of_lt om] at e
  show w.cell? ⟨b,0+4*j+i,none⟩=some u
  simp only[World.cell?,hh]
  simpa using e
theorem qhyb(r:Rp)(w:World):(Op.equalIn 10000 27 (.agg r.cells) (.agg r.cells)).run prog w=.ok true w:=by
 rw[show(10000:Nat)=9999+1 from rfl,run_equalIn_struct w 9999 27 _ _ kr kr]
 unfold Rp.cells rcN
 simp[go_sem,underlying27]
theorem qijb(a:Option Addr)(cap:Nat)(ty:TypeId)(w:World):(Builtin.append_ #[44,44] ty #[.slice none 0 0,.slice a 0 cap]).run prog w=.ok (.slice none 0 0) w:=by
 (have hs:(sizeOf 23).run prog w=.ok 4 w:=by kernel_rfl)
 cases a<;>simp[go_sem,underlying44,hs]
theorem qiyb(hM:AcAt w sl es)(hp:es.length<=100000)(ty:TypeId):
  ∃v' w',(Builtin.append_ #[44,44] ty #[.slice none 0 0,sl]).run prog w=.ok v' w'/\AcAt w' v' es/\Below w.heap.size w w':=by
 by_cases h0:0<es.length
 ·obtain⟨v',w',h1,h2,h3⟩:=qiwb hM h0 hp ty
  exact⟨v',w',h1,qi4b h2 hp,h3⟩
 ·have e2:es=[]:=List.eq_nil_of_length_eq_zero om
  subst e2
  obtain⟨a,cap,e,_⟩:=hM
  subst e
  exact⟨_,w,qijb a cap ty w,⟨none,0,rfl,fun h=>by simp at h,fun j hj=>by simp at hj,by simp⟩,Below.refl _ _⟩
theorem qhpb{ops:Array Oper}{rest:List Oper}{o:Oper}{a:Act}{Q:Exit->Act->World->Prop}(hgd:o.guard=none)(x:Operand)(ho:o.op=.call { callee:=.builtin .append,args:=#[.const (.slice none 0 0),x],argTypes:=#[44,44] })(hM:AcAt w sl es)(hx:a.eval x=sl)(hp:es.length<=100000)(hr:∀v' w',AcAt w' v' es->Below w.heap.size w w'->wpList prog ops Q rest (a.put o.dst v') w'):wpList prog ops Q (o::rest) a w:=
 wpList_plain hgd fun K hK=>by
  obtain⟨v',w',h1,h2,h3⟩:=qiyb hM hp o.type;have hz:a.eval (.const (.slice none 0 0))=.slice none 0 0:=rfl
  unfold Oper.wp execOp
  simp only[ho,resolve,invoke,builtin,Sem.run_bind,Sem.run_pure,Result.andThen_ok,List.map_toArray,List.map_cons,List.map_nil,hz,hx,h1]
  exact hK _ _ (hr v' w' h2 h3)
theorem AcAt.take{a:Option Addr}{n cap:Nat}(h:AcAt w (.slice a n cap) es)(k:Nat)(hk:k<=n):AcAt w (.slice a k cap) (es.take k):=by
 obtain⟨a1,c1,e,h1,h2,h3⟩:=h
 injection e with e1 e2 e3
 subst e1 e2 e3
 have hl:(es.take k).length=k:=List.length_take_of_le hk;(have eB:eb (.slice a es.length cap)=eb (.slice a k cap):=by cases a<;>rfl);(have eO:eo (.slice a es.length cap)=eo (.slice a k cap):=by cases a<;>rfl)
 rw[eB,eO] at h1
 simp only[eB,eO] at h2
 refine⟨a,cap,by rw[hl],fun h0=>h1 om,fun j hj=>?_,by omega⟩
 have:=h2 j om
 rw[List.getElem_take]
 exact this
end
end Go.Proofs.YtonnjgmognbnbaaGreatDoor
