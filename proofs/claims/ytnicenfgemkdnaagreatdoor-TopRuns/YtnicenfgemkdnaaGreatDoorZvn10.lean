/-
  Of what a law stands on.
-/
import Derived.Test.YtnicenfgemkdnaaGreatDoorZvo1
set_option linter.unusedSimpArgs false
set_option linter.unusedVariables false
namespace Go.Proofs.YtnicenfgemkdnaaGreatDoor
open _root_.Go.Proofs.Tryz
set_option maxHeartbeats 16000000
set_option maxRecDepth 100000
open Go.ChangeShapes Go.WideShapes Go.ChangeAt Go.RowKit Go.Maps
structure Rn(w W:World)(b:Nat)(v:Value)(s:Nt)(rs:List Rp)(F:Nat->Prop):Prop where
 nat:qaw W b s (duF s.fs) F
 new:∀c,F c->w.heap.size<=c
 bd:∀c,F c->c<W.heap.size
 out:RpO W w.heap.size v rs
 off:∀k,v.ownBlock=some k->¬F k
 low:Below w.heap.size w W
section
variable {w W W':World} {b:Nat} {v v':Value} {s:Nt} {rs:List Rp} {F:Nat->Prop}
theorem Rn.gr(h:Rn w W b v s rs F):Gr (fun _=>False) w W:=Gr.of_below h.low
theorem Rn.start{loose:Bool}(hb:w.heap.size<=b)(hN:qaw W b (nt0 loose) (duF (nt0 loose).fs) (fun c=>c=b))(hB:Below w.heap.size w W):Rn w W b (.slice none 0 0) (nt0 loose) [] (fun c=>c=b/\c<W.heap.size):=
 ⟨hN.bound,fun c hc=>hc.1▸hb,fun c hc=>hc.2,RpO.nil _ _,fun k hk=>(by cases hk),hB⟩
theorem Rn.below(h:Rn w W b v s rs F)(hb:Below W.heap.size W W'):Rn w W' b v s rs F:=
 ⟨h.nat.below hb,h.new,fun c hc=>Nat.lt_of_lt_of_le (h.bd c hc) hb.size,h.out.below hb,h.off,h.low.trans (hb.mono h.low.size)⟩
theorem Rn.turned(h:Rn w W b v s rs F){c:Nat}(t:qbl c W W')(h1:¬F c)(h2:v.ownBlock≠some c)(h3:w.heap.size<=c):Rn w W' b v s rs F:=
 ⟨h.nat.keep (qcq t) (fun d hd e=>h1 (e▸hd)),h.new,fun d hd=>Nat.lt_of_lt_of_le (h.bd d hd) (qcq t).size,h.out.keep (fun g hg=>t.other g (fun e=>h2 (by rw[hg,e]))),h.off,(h.gr.trans (qcq t) (fun x hx=>.inr (hx▸h3))).below (fun _ h=>h.elim) (Nat.le_refl _)⟩
theorem Rn.call(h:Rn w W b v s rs F){s':Nt}{F':Nat->Prop}(hN:qaw W' b s' (duF s'.fs) F')(hg:Gr F W W')(hf:∀c,F' c->F c\/W.heap.size<=c):Rn w W' b v s' rs (fun c=>F' c/\c<W'.heap.size):=
 ⟨hN.bound,fun c hc=>(hf c hc.1).elim (h.new c) (fun h2=>Nat.le_trans h.low.size h2),fun c hc=>hc.2,h.out.keep (fun g hg2=>hg.block g (h.out.ge g hg2).2 (h.off g hg2)),fun k hk hc=>(hf k hc.1).elim (h.off k hk) (fun h2=>by have:=(h.out.ge k hk).2;omega),
  (h.gr.trans hg (fun x hx=>.inr (h.new x hx))).below (fun _ h=>h.elim) (Nat.le_refl _)⟩
theorem Rn.grew(h:Rn w W b v s rs F){k:Rp}(hO:RpO W' w.heap.size v' (rs++[k]))(hg:Grew v v' W W'):Rn w W' b v' s (rs++[k]) F:=
 ⟨h.nat.keep (Gr.of_grown (F:=fun c=>v.ownBlock=some c) hg.by' (fun c hc=>hc)) (fun c hc e=>h.off c e hc),h.new,fun c hc=>Nat.lt_of_lt_of_le (h.bd c hc) hg.by'.size,hO,
  fun k hk hc=>by
   rcases hg.lies with e|⟨d,e,hd⟩
   ·exact h.off k (e▸hk) hc
   ·rw[e] at hk;have:=h.bd k hc;have:=Option.some.inj hk;omega,
  qz1 h.low hg (fun k hk=>(h.out.ge k hk).1)⟩
end
theorem qizb(w:World):(zeroValue 27).run prog w=.ok (.agg (ac ⟨0,0,0,ByteArray.empty⟩)) w:=by kernel_rfl
theorem qhub(k:Ac):(prog.info? 27).map (·.size)=some (ac k).size:=by kernel_rfl
theorem qi8b(k:Ac):(ac k).all (·.oneCell')=true:=by kernel_rfl
theorem qihb(s:Nt)(l:List Ac)(a:Ac):s.runs (l++[a])=((s.runs l).act a).2:=by
 induction l generalizing s with
 | nil=>rfl
 | cons b r ih=>
  have e:s.runs (b::r)=((s.act b).2).runs r:=rfl
  rw[e,List.cons_append]
  have e2:s.runs (b::(r++[a]))=((s.act b).2).runs (r++[a]):=rfl
  rw[e2,ih]
attribute [local irreducible] Rp.cells tc pc qd2 eb eo in
theorem qh3b(loose:Bool)(sl:Value)(es:List Ac)(w:World)(hA:AcAt w sl es)(hok:∀k∈es,k.ok)(hT:Tab w)(hle:es.length<=300):Calls prog 48 #[.bool loose,sl] w fun e w'=>∃v,e=.returned (.tuple #[v,.int .i64 0])/\RpO w' w.heap.size v ((nt0 loose).plays es)/\Below w.heap.size w w':=by
 obtain⟨a0,cap,hsl⟩:=hA.slice
 obtain⟨n,hn⟩:∃n,n=es.length:=⟨_,rfl⟩
 rw[←hn] at hsl
 subst hsl
 have HN:Hid (n=es.length):=hn
 have HT:Hid (Tab w):=hT
 have hnn:¬(300:Int)<(n:Int):=by omega
 have CN:=fun w=>qu0 loose w
 clear hn hT
 go_enter func48,ntmps48
 go_wp2_with (go_at_call 49;go_fit (CN _);rintro e w2 ⟨b,rfl,hlb,hN1,hb2⟩;clear CN;have P:=Rn.start hlb hN1 hb2;clear hlb hN1 hb2)
 go_loopw [7,17] (fun rv i W=>∃(j:Nat) (F:Nat->Prop),j<=n/\i=.int .i64 (j:Int)/\Rn w W b rv ((nt0 loose).runs (es.take j)) ((nt0 loose).plays (es.take j)) F) (fun _ i _=>n-(intOf i).toNat)
 case atStart=>exact⟨0,_,Nat.zero_le _,rfl,P⟩
 case round=>
  clear P
  obtain⟨j,F,hj,rfl,P⟩:=hrel
  by_cases h1:j<n
  ·have hj1:(j:Int)<(n:Int):=by omega
   have hjl:j<es.length:=by have:=HN.out;omega
   have HM:=qha h1
   have hjw:=qhl (p:=j) om
   obtain⟨x,hx⟩:∃x,es[j]=x:=⟨_,rfl⟩
   have hxo:x.ok:=hok x (hx▸List.getElem_mem hjl)
   have HL9:Hid (es.take j++[x]=es.take (j+1)):=hidN (by rw[List.take_succ_eq_append_getElem hjl,hx])
   have hlen:(es.take j).length=j:=List.length_take_of_le om
   have hinv:=qjr loose (es.take j) om
   have hpl:((nt0 loose).plays (es.take j)).length<=5000000:=by rw[qhmb];omega
   generalize es.take j=l at *
   have rx:=(hA.keepGr P.gr (fun _ h=>h)).at j hjl hx
   have hix:=fun w2=>hA.index j hjl w2
   have CD:=fun W F v rs (P:Rn w W b v ((nt0 loose).runs l) rs F)=>qos P.nat (HT.out.gr P.gr id) (fun hh=>by have:=P.new 0 hh;have:=HT.out.lt;omega) (hinv.ok om) x hxo
   go_wp2_with (first|((with_reducible refine gL 27 19 ?_);refine wpList_load_mid rfl 27 (.tmp 19) rfl _ _ rfl (acl x) _ rx underlying27 rfl (qv8 _) ?_;rw[q9l])|((with_reducible refine gA 27 ?_);refine qaf 9 27 rfl rfl rfl _ qizb ?_;intro b9 w9 l9 R9 h9;have HF9:Hid (¬F b9):=hidN (fun hh=>by have:=P.bd _ hh;omega);have HO9:=P.out;have HV9:Hid (_≠some b9):=hidN (fun hh=>by have:=(HO9.ge _ hh).2;omega);clear HO9;have HL:Hid (w.heap.size<=b9):=hidN (Nat.le_trans P.low.size l9);replace P:=P.below h9;clear h9 l9 rx)|((with_reducible refine gS 27 9 20 ?_);refine qab 27 rfl (.tmp 9) _ rfl b9 rfl (ac x) rfl _ R9 rfl (qhub _) (qi8b _) ?_;intro w8 R8 t8;replace P:=P.turned t8 HF9.out HV9.out HL.out;clear R9 t8)|((with_reducible refine gL 27 9 ?_);refine qac 27 (.tmp 9) rfl kr b9 rfl (ac x) R8 _ underlying27 rfl (qhub _) ?_)|(go_at_call 35;refine(CD _ _ _ _ P).mono ?_;rintro e w5 ⟨rfl,F9,hN9,hg9,hf9⟩;clear CD R8;replace P:=P.call hN9 hg9 hf9;clear hN9 hg9 hf9)|((with_reducible refine qaa (.buildSlice 78 1 #[(0,.tmp 24)]) rfl ?_);refine qh0b rfl (.tmp 24) rfl (((nt0 loose).runs l).act x).1 rfl ?_;intro b25 w9 l9 R9 h9;replace P:=P.below h9;clear h9 l9)|((with_reducible refine qaa (.call { callee:=.builtin .append,args:=#[.tmp 21,.tmp 25],argTypes:=#[78,78] }) rfl ?_);refine qh5b rfl (.tmp 21) (.tmp 25) rfl P.out R9 rfl rfl hpl P.low.size ?_;intro v9 w7 O9 g9;replace P:=P.grew O9 g9;clear O9 g9 R9))
   go_roundw
   case rel=>
    have e1:(nt0 loose).plays l++[(((nt0 loose).runs l).act x).1]=(nt0 loose).plays (es.take (j+1)):=by rw[←HL9.out,qiqb]
    have e2:(((nt0 loose).runs l).act x).2=(nt0 loose).runs (es.take (j+1)):=by rw[←HL9.out,qihb]
    rw[e1,e2] at P
    first
     | exact⟨j+1,_,by omega,by go_num,P⟩
     | ((repeat apply Exists.intro);exact⟨⟨j+1,_,by omega,by go_num,P⟩,rfl⟩)
   case measure=>first|exact HM.out|(rw[hjw];exact HM.out)
  ·have hj1:¬(j:Int)<(n:Int):=by omega
   have e:es.take j=es:=List.take_of_length_le (by have:=HN.out;omega)
   rw[e] at P
   go_wp2_with fail
   go_ret2
   exact⟨_,rfl,P.out,P.low⟩
theorem qieb(r:Rp):r.cells.toList.length=4:=rfl
theorem sZvn101{p:Prop}(h:p:=by
 cases q with
 | zero=>rw[List.getElem?_append_left om];simp
 | succ q=>
  rw[List.getElem?_append_right om,hl,show 4*(q+1)+r-4=4*q+r by omega,ih q (by simpa using hq)]
  simp):p:=h
theorem qilb(rs:List Rp)(q r:Nat)(hq:q<rs.length)(hr:r<4):(rs.flatMap fun k:Rp=>k.cells.toList)[4*q+r]?=(rs[q].cells.toList)[r]?:=by
 induction rs generalizing q with
 | nil=>simp at hq
 | cons e l ih=>
  rw[List.flatMap_cons]
  have hl:=qieb e
  exact sZvn101
def rpB(v:Value):Nat:=v.ownBlock.getD 0
theorem RpO.at{w:World}{base:Nat}{v:Value}{rs:List Rp}(h:RpO w base v rs)(j:Nat)(hj:j<rs.length){x:Rp}(hx:rs[j]=x):w.rangeAt (rpB v) (4*j) x.cells.toList:=by
 rcases h.2 with⟨e,n0⟩|⟨b,cap,cur,hv,hbb,hh,hnc,hcm,hcs,ht⟩
 ·omega
 ·subst hv
  intro i u hu
  have hi2:i<4:=by have:=(List.getElem?_eq_some_iff.1 hu).1;rw[qieb] at this;exact this
  show w.cell? ⟨b,4*j+i,none⟩=some u
  rw[←hx] at hu
  have e:=(qilb rs j i hj hi2).trans hu
  rw[←ht,List.getElem?_take_of_lt om] at e
  simp only[World.cell?,hh]
  simpa using e
theorem RpO.index{w:World}{base:Nat}{v:Value}{rs:List Rp}(h:RpO w base v rs)(j:Nat)(hj:j<rs.length)(w2:World):(Instr.indexAt 78 v (.int .i64 (j:Int))).run prog w2=.ok (.pointer (some ⟨rpB v,4*j,none⟩)) w2:=by
 rcases h.2 with⟨e,n0⟩|⟨b,cap,cur,hv,_⟩
 ·omega
 ·subst hv
  have hn:((j:Int)).toNat<rs.length:=by simpa using hj
  have hjl:(j:Int)<(rs.length:Int):=by omega
  have hs:(sizeOf 30).run prog w2=.ok 4 w2:=by kernel_rfl
  have ht:rpB (.slice (some ⟨b,0,none⟩) rs.length cap)=b:=rfl
  rw[ht]
  simp[go_sem,hj,hn,hjl,underlying78,hs]
theorem qhsb(es:List Ac):(es.flatMap acl).length=es.length*4:=by
 induction es with
 | nil=>rfl
 | cons e r ih=>rw[List.flatMap_cons,List.length_append,ih,List.length_cons];simp[acl];omega
theorem qhvb(es:List Ac)(q r:Nat)(hq:q<es.length)(hr:r<4):(es.flatMap acl)[4*q+r]?=(acl es[q])[r]?:=by
 induction es generalizing q with
 | nil=>simp at hq
 | cons e l ih=>
  rw[List.flatMap_cons]
  have hl:(acl e).length=4:=rfl
  exact sZvn101
theorem qh8b(es:List Ac):∀u∈es.flatMap acl,u.oneCell'=true:=by
 intro u hu
 obtain⟨e,_,he⟩:=List.mem_flatMap.1 hu
 simp[acl] at he
 rcases he with rfl|rfl|rfl|rfl<;>rfl
theorem qitb:(prog.info? 27).map (fun i=>(i.zero,i.size,i.bytes))=some (some (.agg (ac ⟨0,0,0,ByteArray.empty⟩)),4,40):=by kernel_rfl
theorem qiwb{w:World}{sl:Value}{es:List Ac}(hM:AcAt w sl es)(h0:0<es.length)(hp:es.length<=100000)(ty:TypeId):
  ∃v' w',(Builtin.append_ #[22,22] ty #[.slice none 0 0,sl]).run prog w=.ok v' w'/\w'.ownsRow w.heap.size 27 4 v' es.length (es.flatMap acl)/\Below w.heap.size w w':=by
 obtain⟨i0,hi,hz0,hz1,hz2⟩:=info_parts qitb
 obtain⟨a,cap,e,k1,k2,k3⟩:=hM
 have e1:=k1 h0
 have hc:∀j u,(es.flatMap acl)[j]?=some u->w.cell? ⟨eb sl,eo sl+j,none⟩=some u:=by
  intro j u hu
  have hj:j<es.length*4:=by have:=(List.getElem?_eq_some_iff.1 hu).1;rw[qhsb] at this;exact this
  have e1:j=4*(j/4)+j%4:=by omega
  have hq:j/4<es.length:=by omega
  rw[e1,qhvb es (j/4) (j%4) hq om] at hu
  have:=k2 (j/4) hq (j%4) u hu
  rw[show eo sl+4*(j/4)+j%4=eo sl+j by omega] at this
  exact this
 generalize eb sl=B at *
 generalize eo sl=O at *
 subst e1
 subst e
 obtain⟨v',w',h1,h2,h3,_,h5⟩:=run_append_own_at (P:=prog) w w.heap.size 22 ty 27 i0 (.agg (ac ⟨0,0,0,ByteArray.empty⟩)) 4 40 underlying22 hi hz0 hz1 hz2 rfl (by decide) (.slice none 0 0) 0 [] (World.ownsRow_nil w w.heap.size 27 4) ⟨B,O,none⟩ es.length cap (es.flatMap acl) (qhsb es)
  (fun j u hu=>by rw[Addr.add_lit];exact hc j u hu) (qh8b es) (by unfold maxLen;omega) om (Nat.le_refl _)
 refine⟨v',w',h1,?_,⟨h3.os,h3.tape,h3.output,h3.size,fun k hk=>h3.block k hk (fun e=>by cases e)⟩⟩
 simpa using h2
theorem qi4b{w:World}{base:Nat}{v:Value}{es:List Ac}(h:w.ownsRow base 27 4 v es.length (es.flatMap acl))(hp:es.length<=100000):AcAt w v es:=by
 rcases h.2 with⟨e,n0⟩|⟨b,cap,cur,hv,hbb,hh,hnc,hcm,hcs,ht⟩
 ·have e2:es=[]:=List.eq_nil_of_length_eq_zero n0
  subst e2
  exact⟨none,0,e,fun h=>by simp at h,fun j hj=>by simp at hj,by simp⟩
 ·subst hv
  refine⟨_,cap,rfl,fun _=>rfl,fun j hj i u hu=>?_,by omega⟩
  have hi2:i<4:=by have:=(List.getElem?_eq_some_iff.1 hu).1;simpa[acl] using this
  have e:=(qhvb es j i hj hi2).trans hu
  rw[←ht,List.getElem?_take_of_lt om] at e
  show w.cell? ⟨b,0+4*j+i,none⟩=some u
  simp only[World.cell?,hh]
  simpa using e
theorem qhyb(r:Rp)(w:World):(Op.equalIn 10000 30 (.agg r.cells) (.agg r.cells)).run prog w=.ok true w:=by
 rw[show(10000:Nat)=9999+1 from rfl,run_equalIn_struct w 9999 30 _ _ kr kr]
 unfold Rp.cells rcN
 simp[go_sem,underlying30]
theorem qijb(a:Option Addr)(cap:Nat)(ty:TypeId)(w:World):(Builtin.append_ #[22,22] ty #[.slice none 0 0,.slice a 0 cap]).run prog w=.ok (.slice none 0 0) w:=by
 have hs:(sizeOf 27).run prog w=.ok 4 w:=by kernel_rfl
 cases a<;>simp[go_sem,underlying22,hs]
theorem qiyb{w:World}{sl:Value}{es:List Ac}(hM:AcAt w sl es)(hp:es.length<=100000)(ty:TypeId):
  ∃v' w',(Builtin.append_ #[22,22] ty #[.slice none 0 0,sl]).run prog w=.ok v' w'/\AcAt w' v' es/\Below w.heap.size w w':=by
 by_cases h0:0<es.length
 ·obtain⟨v',w',h1,h2,h3⟩:=qiwb hM h0 hp ty
  exact⟨v',w',h1,qi4b h2 hp,h3⟩
 ·have e2:es=[]:=List.eq_nil_of_length_eq_zero om
  subst e2
  obtain⟨a,cap,e,_⟩:=hM
  subst e
  exact⟨_,w,qijb a cap ty w,⟨none,0,rfl,fun h=>by simp at h,fun j hj=>by simp at hj,by simp⟩,Below.refl _ _⟩
theorem qhpb{ops:Array Oper}{rest:List Oper}{o:Oper}{a:Act}{w:World}{Q:Exit->Act->World->Prop}(hgd:o.guard=none)(x:Operand)(ho:o.op=.call { callee:=.builtin .append,args:=#[.const (.slice none 0 0),x],argTypes:=#[22,22] }){sl:Value}{es:List Ac}(hM:AcAt w sl es)(hx:a.eval x=sl)(hp:es.length<=100000)(hr:∀v' w',AcAt w' v' es->Below w.heap.size w w'->wpList prog ops Q rest (a.put o.dst v') w'):wpList prog ops Q (o::rest) a w:=
 wpList_plain hgd fun K hK=>by
  obtain⟨v',w',h1,h2,h3⟩:=qiyb hM hp o.type
  have hz:a.eval (.const (.slice none 0 0))=.slice none 0 0:=rfl
  unfold Oper.wp execOp
  simp only[ho,resolve,invoke,builtin,Sem.run_bind,Sem.run_pure,Result.andThen_ok,List.map_toArray,List.map_cons,List.map_nil,hz,hx,h1]
  exact hK _ _ (hr v' w' h2 h3)
theorem AcAt.take{w:World}{a:Option Addr}{n cap:Nat}{es:List Ac}(h:AcAt w (.slice a n cap) es)(k:Nat)(hk:k<=n):AcAt w (.slice a k cap) (es.take k):=by
 obtain⟨a1,c1,e,h1,h2,h3⟩:=h
 injection e with e1 e2 e3
 subst e1 e2 e3
 have hl:(es.take k).length=k:=List.length_take_of_le hk
 have eB:eb (.slice a es.length cap)=eb (.slice a k cap):=by cases a<;>rfl
 have eO:eo (.slice a es.length cap)=eo (.slice a k cap):=by cases a<;>rfl
 rw[eB,eO] at h1
 simp only[eB,eO] at h2
 refine⟨a,cap,by rw[hl],fun h0=>h1 om,fun j hj=>?_,by omega⟩
 have:=h2 j om
 rw[List.getElem_take]
 exact this
end Go.Proofs.YtnicenfgemkdnaaGreatDoor
