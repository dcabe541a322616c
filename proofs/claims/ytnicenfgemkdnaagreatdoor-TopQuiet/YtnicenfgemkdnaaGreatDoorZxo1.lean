/-
  Of what a law stands on.
-/
import Derived.BigCall
import Derived.Laws.Strings
import Derived.Test.YtnicenfgemkdnaaGreatDoorZxn12
import Derived.Test.YtnicenfgemkdnaaGreatDoorZxr6
import Derived.Test.YtnicenfgemkdnaaGreatDoorZxr7
set_option linter.unusedSimpArgs false
set_option linter.unusedVariables false
namespace Go.Proofs.YtnicenfgemkdnaaGreatDoor
open _root_.Go.Proofs.Tryz
set_option maxHeartbeats 16000000
set_option maxRecDepth 100000
open Go.ChangeShapes Go.WideShapes Go.ChangeAt Go.RowKit
theorem qmb{H:Type}{P:Program}{e:TypeId}:∀ {l:List (DataW H)} {d:DataW H},d∈l->∀n∈d.weights P e,n∈DataW.weightsAll P e l
 | [],_,h,_,_=>by cases h
 | x::r,d,h,n,hn=>by
  simp only[DataW.weightsAll,List.mem_append]
  rcases List.mem_cons.1 h with rfl|h
  ·exact .inl hn
  ·exact .inr (qmb h n hn)
theorem qr2{H:Type}{enc:TypeId×Value->H}{w:World}{base:Nat}{sp:Nat->Bool}{held:Bool}{fuel:Nat}{l:List Value}{x:DataW H×List MemPlace}(hl0:l.length=4)(hf0:DataW.trod enc prog w base sp held fuel 27 l=some x)(hw:∀y∈x.1.weights prog 27,y<=reachBytes):∃k:Ac,l=acl k/\k.ok:=by
 have hcI:prog.cellsOf 3=1:=by kernel_rfl
 have hcS:prog.cellsOf 9=1:=by kernel_rfl
 obtain⟨ys,m,_,hx,_,hl,hf⟩:=DataW.trod_struct underlying27 hf0
 match l,hl0 with
 | [c0,c1,c2,c3],_=>
 match ys,hl with
 | [y0,y1,y2,y3],_=>
 have hy0:=hf 0 _ rfl
 have hy1:=hf 1 _ rfl
 have hy2:=hf 2 _ rfl
 have hy3:=hf 3 _ rfl
 simp[hcI,hcS] at hy0 hy1 hy2 hy3
 obtain⟨n0,e0,rfl,s0⟩:=DataW.trod_int underlying3 hy0
 obtain⟨n1,e1,rfl,s1⟩:=DataW.trod_int underlying3 hy1
 obtain⟨n2,e2,rfl,s2⟩:=DataW.trod_int underlying3 hy2
 obtain⟨n3,e3,rfl,s3⟩:=DataW.trod_string underlying9 hy3
 simp at e0 e1 e2 e3
 subst e0 e1 e2 e3
 subst hx
 refine⟨⟨n0,n1,n2,n3⟩,rfl,s0,s1,s2,?_⟩
 have:=hw n3.data.toList.length (by simp[DataW.weights,DataW.weightsEach,underlying27])
 simpa[reachBytes] using this
def AcIn(w:World)(sl:Value)(es:List Ac):Prop:=AcAt w sl es/\∀k∈es,k.ok
theorem qik{H:Type}{enc:TypeId×Value->H}{w:World}{sp:Nat->Bool}{held:Bool}{fuel:Nat}{l:List Value}{x:DataW H×List MemPlace}(hf0:DataW.trod enc prog w 0 sp held fuel 22 l=some x)(hw:∀y∈x.1.weights prog 22,y<=reachBytes):∃sl,∃es:List Ac,l=[sl]/\AcIn w sl es:=by
 have c4:prog.cellsOf 27=4:=by kernel_rfl
 have hby:prog.bytesOf 27=40:=by kernel_rfl
 rcases Go.Deep.open_slice underlying22 hf0 with⟨rfl,rfl⟩|⟨a,len,cap,m,n,D,Pl,rfl,hb,hl,hm,hmm,rfl,hx⟩
 ·exact⟨_,[],rfl,⟨none,0,rfl,fun h=>absurd h zm,fun j hj=>absurd hj zm,by simp⟩,fun k hk=>absurd hk zm⟩
 ·have hlm:len<=m:=by rw[hmm];split<;>omega
  have hbd:len<=4398046511104:=by
   have h1:=hw _ (by simp only[DataW.weights,underlying22];exact List.mem_cons_self)
   rw[hby] at h1
   simp[reachBytes] at h1
   omega
  have hwi:∀i,i<len->∀y∈(D i).weights prog 27,y<=reachBytes:=by
   intro i hi y hy
   refine hw y ?_
   simp only[DataW.weights,underlying22]
   exact List.mem_cons_of_mem _ (List.mem_append.2 (.inl (qmb (List.mem_map.2 ⟨i,List.mem_range.2 hi,rfl⟩) y hy)))
  have each:∀i,i<len->∃q:Ac,q.ok/\∀k v,(acl q)[k]?=some v->w.cell? (a.add (4*i+k))=some v:=by
   intro i hi
   obtain⟨cs',h1,h2⟩:=hx i om
   rw[c4] at h1
   obtain⟨_,hlen,hcell⟩:=World.cells?_some h1
   obtain⟨q,rfl,hq⟩:=qr2 hlen h2 (hwi i hi)
   refine⟨q,hq,fun k v hv=>?_⟩
   have hk:k<4:=by have:=(List.getElem?_eq_some_iff.1 hv).1;simpa[acl] using this
   have:=hcell k hk
   rw[Go.Deep.add_add,Nat.mul_comm i 4] at this
   first|exact this.trans hv|(rw[this];simpa using hv)
  haveI:Inhabited Ac:=⟨⟨0,0,0,ByteArray.empty⟩⟩
  obtain⟨q,hq⟩:=Go.Deep.choose_lt each
  have hsp:0<len->a=⟨a.block,a.off,none⟩:=by
   intro h0
   have:=(hq 0 h0).2 0 _ rfl
   obtain⟨b,off,spot⟩:=a
   have hspot:spot=none:=by simpa[Addr.add] using World.cell?_spot this
   subst hspot
   rfl
  refine⟨_,(List.range len).map q,rfl,⟨some a,cap,by simp,fun h0=>?_,fun j hj k v hv=>?_,by simpa using hbd⟩,fun k hk=>?_⟩
  ·rw[hsp (by simpa using h0)];rfl
  ·have hj':j<len:=by simpa using hj
   have e1:((List.range len).map q)[j]=q j:=by simp
   rw[e1] at hv
   have:=(hq j hj').2 k v hv
   rw[hsp om,Addr.add_lit] at this
   show w.cell? ⟨a.block,a.off+4*j+k,none⟩=some v
   rw[Nat.add_assoc]
   exact this
  ·obtain⟨i,hi,rfl⟩:=List.mem_map.1 hk
   exact(hq i (List.mem_range.1 hi)).1
end Go.Proofs.YtnicenfgemkdnaaGreatDoor
namespace Go.Proofs.YtnicenfgemkdnaaGreatDoor
open _root_.Go.Proofs.Tryz
set_option maxHeartbeats 16000000
set_option maxRecDepth 100000
open Go.ChangeShapes Go.WideShapes Go.ChangeAt Go.RowKit Go.Maps
theorem q55{o:Oper}{a:Act}{w:World}{K:Act->World->Prop}{Q:Exit->Act->World->Prop}(f:Operand)(xs:Array Operand)(ats:Array TypeId)(ho:o.op=.call { callee:=.value f,args:=xs,argTypes:=ats })(lf:FuncId)(caps args:Array Value)(hf:a.eval f=.func (.func lf) #[] caps)(hxs:xs.map a.eval=args)(hen:∀(args:Array Value) (w:World),(callFunc lf args).run prog w=.ok (.enter lf args) w)(hC:Calls prog lf (args++caps) w fun e w'=>∃v,e=.returned v/\K (a.put o.dst v) w'):o.wp prog a w K Q:=by
 unfold Oper.wp execOp
 simp only[ho,resolve,hf,Deferred.ofValue,Sem.run_bind,Sem.run_pure,Result.andThen_ok,invoke,hxs,Array.empty_append]
 rw[hen,Oper.upon_enter]
 refine hC.mono ?_
 rintro e w' ⟨v,rfl,h⟩
 exact h
structure Look(loose:Bool)(lf:FuncId)(caps:Array Value)(J:List Ac->(Nat->Prop)->World->Prop):Prop where
 enters:∀(args:Array Value) (w:World),(callFunc lf args).run prog w=.ok (.enter lf args) w
 keep:∀ {l:List Ac} {G H:Nat->Prop} {W W':World},J l G W->Gr H W W'->(∀c,H c->¬G c)->J l G W'
 bd:∀ {l:List Ac} {G:Nat->Prop} {W:World},J l G W->∀c,G c->c<W.heap.size
 call:∀ {l:List Ac} {a:Ac} {W:World} {b:Nat} {F G:Nat->Prop},l.length<100->a.ok->qaw W b (((nt0 loose).runs l).act a).2 (duF (((nt0 loose).runs l).act a).2.fs) F->Tab W->¬F 0->(∀c,F c->¬G c)->J l G W->
  Calls prog lf (#[.pointer (some ⟨b,0,none⟩),.agg (ac a),.agg (((nt0 loose).runs l).act a).1.cells]++caps) W fun e w'=>e=.returned (.bool true)/\∃G',J (l++[a]) G' w'/\Gr G W w'/\∀c,G' c->G c\/W.heap.size<=c
structure Pl(loose:Bool)(J:List Ac->(Nat->Prop)->World->Prop)(G0:Nat->Prop)(w W:World)(b:Nat)(l:List Ac)(F G:Nat->Prop):Prop where
 nat:qaw W b ((nt0 loose).runs l) (duF ((nt0 loose).runs l).fs) F
 bd:∀c,F c->c<W.heap.size
 new:∀c,F c->w.heap.size<=c
 j:J l G W
 gs:∀c,G c->G0 c\/w.heap.size<=c
 dis:∀c,F c->¬G c
 gr:Gr G0 w W
section
variable {loose:Bool} {lf:FuncId} {caps:Array Value} {J:List Ac->(Nat->Prop)->World->Prop} {G0 F G F' G':Nat->Prop} {w W W' W2:World} {b:Nat} {l:List Ac} {a:Ac} {L:List (Nat×Obj)}
theorem Pl.start(K:Look loose lf caps J)(hJ:J [] G0 w)(hN:qaw W b (nt0 loose) (duF (nt0 loose).fs) (fun c=>c=b))(hb:w.heap.size<=b)(hB:Below w.heap.size w W):Pl loose J G0 w W b [] (fun c=>c=b/\c<W.heap.size) G0:=by
 refine⟨hN.bound,fun c hc=>hc.2,fun c hc=>by rw[hc.1];exact hb,K.keep (H:=fun _=>False) hJ (Gr.of_below hB) (fun _ h=>h.elim),fun c hc=>.inl hc,fun c hc hg=>?_,Gr.of_below hB⟩
 have:=K.bd hJ c hg
 have e:=hc.1
 omega
theorem Pl.other(h:Pl loose J G0 w W b l F G)(K:Look loose lf caps J){s:Nt}{tm:Int->Option Int}(N:Nb W W' b s tm F F' L):∀c,F' c->¬G c:=fun c hc hg=>by
 rcases N.sub c hc with h1|h1
 ·exact h.dis c h1 hg
 ·have:=K.bd h.j c hg;omega
theorem Pl.look(h:Pl loose J G0 w W b l F G)(K:Look loose lf caps J){s:Nt}{tm:Int->Option Int}(N:Nb W W' b s tm F F' L):J l G W':=K.keep h.j N.gr h.dis
theorem Pl.step(h:Pl loose J G0 w W b l F G)(K:Look loose lf caps J)(N:Nb W W' b (((nt0 loose).runs l).act a).2 (duF (((nt0 loose).runs l).act a).2.fs) F F' L)(hJ:J (l++[a]) G' W2)(hg:Gr G W' W2)(hG:∀c,G' c->G c\/W'.heap.size<=c):Pl loose J G0 w W2 b (l++[a]) F' G':=by
 have ho:=h.other K N
 refine⟨?_,fun c hc=>Nat.lt_of_lt_of_le (N.bd c hc) hg.size,fun c hc=>?_,hJ,fun c hc=>?_,fun c hc hg'=>?_,?_⟩
 ·rw[qih];exact N.nat.keep hg ho
 ·rcases N.sub c hc with h1|h1
  ·exact h.new c h1
  ·exact Nat.le_trans h.gr.size h1
 ·rcases hG c hc with h1|h1
  ·exact h.gs c h1
  ·exact .inr (Nat.le_trans (Nat.le_trans h.gr.size N.gr.size) h1)
 ·rcases hG c hg' with h1|h1
  ·exact ho c hc h1
  ·have:=N.bd c hc;omega
 ·exact(h.gr.trans N.gr (fun x hx=>.inr (h.new x hx))).trans hg h.gs
theorem Pl.drew(h:Pl loose J G0 w W b l F G)(K:Look loose lf caps J):Pl loose J G0 w W.drew b l F G:=
 ⟨h.nat.below (Below.refl _ _).drew,h.bd,h.new,K.keep (H:=fun _=>False) h.j (Gr.of_below (Below.refl _ _).drew) (fun _ h=>h.elim),h.gs,h.dis,h.gr.drew⟩
end
theorem Nb.rowGr{W W5 W8:World}{b:Nat}{s:Nt}{tm:Int->Option Int}{F F' G:Nat->Prop}{L:List (Nat×Obj)}{c:Nat}{t:TypeId}{cs:Array Value}(N:Nb W W5 b s tm F F' L)(i:Nat)(hi:L[i]?=some (c,ob t cs))(hg:Gr G W5 W8)(hG:∀c,G c->c<W.heap.size):Row t W8 c cs:=by
 have hm:=List.mem_of_getElem? hi
 have h:=N.rows _ hm
 have hl:=N.lt (List.mem_map.2 ⟨_,hm,rfl⟩)
 exact(hg.block _ hl (fun hc=>by have:=hG _ hc;have:=h.2.1;omega)).trans h.1
theorem qjr(loose:Bool)(l:List Ac)(hl:l.length<=300):NInv ((nt0 loose).runs l) l.length:=by
 have:=(NInv.new loose).runs l om
 rwa [Nat.zero_add] at this
theorem qus{l:List Ac}{j:Nat}(h:j<=min l.length 100)(hn:¬j<l.length\/¬j<100):l.take j=l.take 100:=by
 rcases hn with h1|h1
 ·rw[List.take_of_length_le om,List.take_of_length_le om]
 ·rw[show j=100 by omega]
attribute [local irreducible] Rp.cells tc pc qd2 eb eo
theorem sZxo12{p:Prop}(h:p:=by
 rw[e] at P
 clear e
 go_wp2_with fail
 go_ret2
 exact⟨b,rfl,_,_,P⟩):p:=h
theorem qjp{loose:Bool}{lf:FuncId}{caps:Array Value}{J:List Ac->(Nat->Prop)->World->Prop}{G0:Nat->Prop}(LK:Look loose lf caps J)(sl:Value)(es:List Ac)(w:World)(hA:AcAt w sl es)(hok:∀k∈es,k.ok)(hT:Tab w)(h0:¬G0 0)(hJ:J [] G0 w)(hAG:0<es.length->¬G0 (eb sl)):
  Calls prog 17 #[.bool loose,sl,.func (.func lf) #[] caps] w fun e w'=>∃b,e=.returned (.tuple #[.pointer (some ⟨b,0,none⟩),.bool true])/\∃F G,Pl loose J G0 w w' b (es.take 100) F G:=by
 obtain⟨a0,cap,hsl⟩:=hA.slice
 obtain⟨n,hn⟩:∃n,n=es.length:=⟨_,rfl⟩
 rw[←hn] at hsl
 subst hsl
 have HN:Hid (n=es.length):=hn
 obtain⟨M,hM⟩:∃M,M=min n 100:=⟨_,rfl⟩
 have HMM:Hid (M=min n 100):=hM
 have CA:=q1b w hT
 have CN:=fun w=>qu0 loose w
 clear hn hM
 go_enter func17,ntmps17
 go_wp2_with (first|(go_at_call 47;go_fit CA;rintro e w1 ⟨rfl,hb1⟩;clear CA;have HB1:Hid (Below w.heap.size w w1):=hb1;clear hb1)|(go_at_call 49;go_fit (CN _);rintro e w2 ⟨b,rfl,hlb,hN1,hb2⟩;clear CN;have P:=Pl.start LK hJ hN1 (Nat.le_trans HB1.out.size hlb) (HB1.out.trans (hb2.mono HB1.out.size));clear hlb hN1 hb2))
 go_loopw [9] (fun i W=>∃(j:Nat) (F G:Nat->Prop),j<=M/\i=.int .i64 (j:Int)/\Pl loose J G0 w W b (es.take j) F G) (fun i _=>M-(intOf i).toNat)
 case atStart=>exact⟨0,_,_,Nat.zero_le _,rfl,P⟩
 case round=>
  clear P
  obtain⟨j,F,G,hj,rfl,P⟩:=hrel
  by_cases h1:j<n
  ·have hj1:(j:Int)<(n:Int):=by omega
   by_cases h2:j<100
   ·have hj2:(j:Int)<100:=by omega
    have hlt:j<M:=by have:=HMM.out;omega
    have hjl:j<es.length:=by have:=HN.out;omega
    have HM:=qha hlt
    have hjw:=qhl (p:=j) om
    obtain⟨x,hx⟩:∃x,es[j]=x:=⟨_,rfl⟩
    have hxo:x.ok:=hok x (hx▸List.getElem_mem hjl)
    have HL9:Hid (es.take j++[x]=es.take (j+1)):=hidN (by rw[List.take_succ_eq_append_getElem hjl,hx])
    have hlen:(es.take j).length=j:=List.length_take_of_le om
    have hinv:=qjr loose (es.take j) om
    generalize es.take j=l at *
    have rx:=(hA.keepGr P.gr hAG).at j hjl hx
    have hix:=fun w2=>hA.index j hjl w2
    have hF0:¬F 0:=fun hh=>by have:=P.new 0 hh;have:=hT.lt;omega
    have TW:=hT.gr P.gr h0
    have N:=P.nat.start
    have CD:=qos N.nat TW (fun hh=>hF0 hh.1) (hinv.ok om) x hxo
    have hAW:=hA.keepGr P.gr hAG
    have hAF:0<es.length->¬F (eb (.slice a0 n cap)):=fun hh hf=>by have:=P.new _ hf;have:=hA.lt hh;omega
    have CL:=fun W' F' L (N:Nb _ W' b (((nt0 loose).runs l).act x).2 (duF (((nt0 loose).runs l).act x).2.fs) F F' L)=>LK.call (l:=l) (a:=x) om hxo N.nat (TW.gr N.gr hF0) (fun hh=>by rcases N.sub 0 hh with h3|h3;exact hF0 h3;have:=TW.lt;omega) (P.other LK N) (P.look LK N)
    go_upto_region 8 with(first|((with_reducible refine gL 27 28 ?_);refine wpList_load_mid rfl 27 (.tmp 28) rfl _ _ rfl (acl x) _ rx underlying27 rfl (qv8 _) ?_;rw[q9l])|(go_at_call 35;refine CD.mono ?_;rintro e w5 ⟨rfl,F9,hN9,hg9,hf9⟩;clear CD rx;replace N:=N.call hN9 hg9 hf9;clear hN9 hg9 hf9)|((with_reducible refine gA 30 ?_);refine ax 10 30 qan ?_;intro b10 w9 l9 R9 h9;replace N:=N.alloc (o:=ob 30 ((qas 0).cells)) l9 R9 h9;clear R9 h9 l9)|((with_reducible refine gS 30 10 30 ?_);refine sx 30 (.tmp 10) _ ((((nt0 loose).runs l).act x).1.cells) (N.row 0 rfl) ?_;intro w9 R9 t9;replace N:=N.turn 0 rfl R9 t9;clear R9 t9))
    have kS:World.rangeAt _ (eb (.slice a0 n cap)) (eo (.slice a0 n cap)+4*j) (acl x)/\Row 30 _ b10 (((nt0 loose).runs l).act x).1.cells:=⟨(hAW.keepGr N.gr hAF).at j hjl hx,N.row 0 rfl⟩
    refine RD (fun W=>W.rangeAt (eb (.slice a0 n cap)) (eo (.slice a0 n cap)+4*j) (acl x)/\Row 30 W b10 (((nt0 loose).runs l).act x).1.cells) kS (fun _=>?_)
    refine tq 0 (.func (.func lf) #[] caps) rfl kS (tq 1 (.pointer (some ⟨b,0,none⟩)) rfl kS (tq 2 (.slice a0 n cap) rfl kS ?_))
    simp only[ZZ]
    refine tq 3 (.int .i64 (j:Int)) rfl kS (tk 4 (.pointer (some ⟨eb (.slice a0 n cap),eo (.slice a0 n cap)+4*j,none⟩)) rfl (qgk 22 (.tmp 33) (.tmp 34) rfl kr _ _ _ kr kr hix) kS (tk 5 (.agg (acl x).toArray) rfl (qgw 27 (.tmp 35) rfl kr _ _ kr (acl x) (fun _ h=>h.1) _ underlying27 rfl (qv8 x)) kS ?_))
    simp only[ZZ]
    refine tk 6 (.agg (((nt0 loose).runs l).act x).1.cells) rfl (yx 30 (.tmp 10) (((nt0 loose).runs l).act x).1.cells (fun _ h=>h.2)) kS ?_
    simp only[ZZ]
    refine AR [7] ?_
    refine AC (fun K hK=>?_) ?_
    ·rw[if_pos kr]
     refine q55 (.tmp 31) _ _ rfl lf caps #[.pointer (some ⟨b,0,none⟩),.agg (ac x),.agg (((nt0 loose).runs l).act x).1.cells] kr (by simp only[List.map_toArray,List.map_cons,List.map_nil];kernel_rfl) LK.enters ?_;(first|refine(CL _ _ _ N).mono ?_|(replace N:=N.drew;refine(CL _ _ _ N).mono ?_));rintro e w8 ⟨rfl,G8,hJ8,hg8,hG8⟩;have P8:=P.step LK N hJ8 hg8 hG8;clear kS;have kS:World.rangeAt w8 (eb (.slice a0 n cap)) (eo (.slice a0 n cap)+4*j) (acl x)/\Row 30 w8 b10 (((nt0 loose).runs l).act x).1.cells:=⟨(hA.keepGr P8.gr hAG).at j hjl hx,N.rowGr 0 rfl hg8 (LK.bd P.j)⟩;clear hJ8 hg8 hG8;refine⟨_,rfl,?_⟩
     refine hK.out _ _ kS (fun _=>?_)
     clear hK K
     try simp only[ZZ]
     refine tq 8 (.bool false) rfl kS ?_
     simp only[ZZ]
     refine AN ?_
     have P9:=HL9.out▸P8
     clear P8 P N kS
     go_wp2_with fail
     go_roundw
     case rel=>
      first
       | exact⟨j+1,_,_,by omega,by go_num,P9⟩
       | ((repeat apply Exists.intro);exact⟨⟨j+1,_,_,by omega,by go_num,P9⟩,rfl⟩)
     case measure=>first|exact HM.out|(rw[hjw];exact HM.out)
    exact AZ
   ·have hj2:¬(j:Int)<100:=by omega
    have e:=qus (l:=es) (j:=j) (by have:=HMM.out;have:=HN.out;omega) (.inr h2)
    exact sZxo12
  ·have hj1:¬(j:Int)<(n:Int):=by omega
   have e:=qus (l:=es) (j:=j) (by have:=HMM.out;have:=HN.out;omega) (.inl (by have:=HN.out;omega))
   exact sZxo12
end Go.Proofs.YtnicenfgemkdnaaGreatDoor
namespace Go.Proofs.YtnicenfgemkdnaaGreatDoor
open _root_.Go.Proofs.Tryz
set_option maxHeartbeats 16000000
set_option maxRecDepth 100000
open Go.ChangeShapes Go.WideShapes Go.ChangeAt Go.RowKit
theorem qwn(l:List UInt8)(k:Nat)(h:k+1<l.length):w16 (wAt l k)=(l.drop k).take 2:=by
 have e:(l.drop k).take 2=[l[k],l[k+1]]:=by
  rw[List.drop_eq_getElem_cons om,List.drop_eq_getElem_cons om];rfl
 rw[e,←q9y]
 unfold wAt byt
 simp[List.getD_eq_getElem?_getD,List.getElem?_eq_getElem (show k<l.length by omega),List.getElem?_eq_getElem h]
theorem qu2(l:List UInt8)(k:Nat)(h:k+3<l.length):l32 (lAt l k)=(l.drop k).take 4:=by
 have b1:=qhr l k;have b2:=qhr l (k+2)
 have e1:w16 (lAt l k/65536)=w16 (wAt l k):=q3g _ _ (by unfold lAt;omega)
 have e2:w16 (lAt l k)=w16 (wAt l (k+2)):=q3g _ _ (by unfold lAt;omega)
 unfold l32
 rw[e1,e2,qwn l k om,qwn l (k+2) om,show(4:Nat)=2+2 from rfl,List.take_add,List.drop_drop]
theorem q82(l:List UInt8)(proto:Int)(h:20<=l.length):ps (lAt l 12) (lAt l 16) proto ((l.length:Int)-20)++l.drop 20=chkd l proto:=by
 unfold ps chkd
 by_cases hp:proto=1
 ·rw[if_pos hp,if_pos hp];rfl
 ·rw[if_neg hp,if_neg hp,qu2 l 12 om,qu2 l 16 om,show(8:Nat)=4+4 from rfl,List.take_add,List.drop_drop]
  simp
theorem cut1(l:List UInt8)(k:Nat)(h:k<l.length):l.drop k=[b8 (byt l k)]++l.drop (k+1):=by
 have e:b8 (byt l k)=l[k]:=by
  unfold byt
  rw[List.getD_eq_getElem?_getD,List.getElem?_eq_getElem h]
  show b8 (l[k].toNat:Int)=l[k]
  have h1:=qc1 (l[k].toNat:Int)
  have h2:=qje l[k]
  exact UInt8.toNat_inj.1 om
 rw[List.drop_eq_getElem_cons h,e];rfl
theorem cut2(l:List UInt8)(k:Nat)(h:k+1<l.length):l.drop k=w16 (wAt l k)++l.drop (k+2):=by
 rw[qwn l k h,←List.drop_drop,List.take_append_drop]
theorem cut4(l:List UInt8)(k:Nat)(h:k+3<l.length):l.drop k=l32 (lAt l k)++l.drop (k+4):=by
 rw[qu2 l k h,←List.drop_drop,List.take_append_drop]
theorem q6e(l:List UInt8)(h:20<=l.length)(h0:byt l 0=69)(h1:byt l 1=0)(h6:wAt l 6=0)(k:Pkt)(hi:k.id=wAt l 4)(ht:k.ttl=byt l 8)(hp:k.proto=byt l 9)(hs:k.src=lAt l 12)(hd':k.dst=lAt l 16):
  l=hd k (wAt l 2) (wAt l 10)++l.drop 20:=by
 have e:l=[b8 (byt l 0)]++([b8 (byt l 1)]++(w16 (wAt l 2)++(w16 (wAt l 4)++(w16 (wAt l 6)++([b8 (byt l 8)]++([b8 (byt l 9)]++(w16 (wAt l 10)++(l32 (lAt l 12)++(l32 (lAt l 16)++l.drop 20))))))))):=by
  rw[←cut4 l 16 om,←cut4 l 12 om,←cut2 l 10 om,←cut1 l 9 om,←cut1 l 8 om,←cut2 l 6 om,←cut2 l 4 om,←cut2 l 2 om,←cut1 l 1 om,←cut1 l 0 om];rfl
 rw[h0,h1,h6] at e
 unfold hd
 rw[hi,ht,hp,hs,hd']
 simp only[List.append_assoc,List.singleton_append,List.cons_append,List.nil_append]
 exact e
theorem qatb(l:List UInt8):(qam l).id=wAt l 4:=by unfold qam;split<;>(try split)<;>rfl
theorem qaeb(l:List UInt8):(qam l).ttl=byt l 8:=by unfold qam;split<;>(try split)<;>rfl
theorem q3c(l:List UInt8):(qam l).src=lAt l 12:=by unfold qam;split<;>(try split)<;>rfl
theorem q2a(l:List UInt8):(qam l).dst=lAt l 16:=by unfold qam;split<;>(try split)<;>rfl
theorem sZxo13{p:Prop}(h:p:=by
 simp only[List.append_assoc,List.singleton_append,List.cons_append,List.nil_append]
 rfl):p:=h
theorem q4z(l:List UInt8)(H:qls l)(P:qom l (byt l 9)):l.drop 20=pt (qam l) (wAt l (qbd (byt l 9)))++(qam l).body.data.toList/\qb4 (byt l 9)+(qam l).body.size=(l.length:Int)-20:=by
 have hn:=P.len
 rcases(qei _).1 H.kind with hp|hp|hp
 ·have e8:qb4 (byt l 9)=8:=by rw[hp];rfl
  rw[e8] at hn
  have hb:(qam l).body=txt (l.drop 28):=by unfold qam;rw[if_pos hp]
  refine⟨?_,by rw[e8,hb,qck,List.length_drop];omega⟩
  have e:l.drop 20=[b8 (byt l 20)]++([b8 (byt l 21)]++(w16 (wAt l 22)++(w16 (wAt l 24)++(w16 (wAt l 26)++l.drop 28)))):=by
   rw[←cut2 l 26 om,←cut2 l 24 om,←cut2 l 22 om,←cut1 l 21 om,←cut1 l 20 om]
  rw[P.ping' hp] at e
  rw[hb,qds,e,show qbd (byt l 9)=22 by rw[hp];rfl]
  unfold pt
  rw[if_pos (by rw[qfq];exact hp)]
  have f1:(qam l).flags=byt l 20:=by unfold qam;rw[if_pos hp]
  have f2:(qam l).seq=wAt l 26:=by unfold qam;rw[if_pos hp]
  have f3:(qam l).sport+(qam l).dport=wAt l 24:=by
   unfold qam;rw[if_pos hp]
   show(if byt l 20=8 then wAt l 24 else 0)+(if byt l 20=8 then 0 else wAt l 24)=wAt l 24
   split<;>omega
  rw[f1,f2,f3]
  exact sZxo13
 ·have e8:qb4 (byt l 9)=20:=by rw[hp];rfl
  rw[e8] at hn
  have n1:¬byt l 9=1:=by omega
  have hb:(qam l).body=txt (l.drop 40):=by unfold qam;rw[if_neg n1,if_pos hp]
  refine⟨?_,by rw[e8,hb,qck,List.length_drop];omega⟩
  have e:l.drop 20=w16 (wAt l 20)++(w16 (wAt l 22)++(l32 (lAt l 24)++(l32 (lAt l 28)++([b8 (byt l 32)]++([b8 (byt l 33)]++(w16 (wAt l 34)++(w16 (wAt l 36)++(w16 (wAt l 38)++l.drop 40)))))))):=by
   rw[←cut2 l 38 om,←cut2 l 36 om,←cut2 l 34 om,←cut1 l 33 om,←cut1 l 32 om,←cut4 l 28 om,←cut4 l 24 om,←cut2 l 22 om,←cut2 l 20 om]
  rw[P.tcp1 hp,P.tcp3 hp] at e
  rw[hb,qds,e,show qbd (byt l 9)=36 by rw[hp];rfl]
  unfold pt
  rw[if_neg (by rw[qfq];exact n1),if_neg (by rw[qfq];omega)]
  have f:(qam l).sport=wAt l 20/\(qam l).dport=wAt l 22/\(qam l).seq=lAt l 24/\(qam l).ack=lAt l 28/\(qam l).flags=byt l 33/\(qam l).win=wAt l 34:=by
   unfold qam;rw[if_neg n1,if_pos hp];exact⟨rfl,rfl,rfl,rfl,rfl,rfl⟩
  obtain⟨f1,f2,f3,f4,f5,f6⟩:=f
  rw[f1,f2,f3,f4,f5,f6]
  exact sZxo13
 ·have e8:qb4 (byt l 9)=8:=by rw[hp];rfl
  rw[e8] at hn
  have n1:¬byt l 9=1:=by omega
  have n6:¬byt l 9=6:=by omega
  have hb:(qam l).body=txt (l.drop 28):=by unfold qam;rw[if_neg n1,if_neg n6]
  have hz:qb4 (byt l 9)+(qam l).body.size=(l.length:Int)-20:=by rw[e8,hb,qck,List.length_drop];omega
  refine⟨?_,hz⟩
  have e:l.drop 20=w16 (wAt l 20)++(w16 (wAt l 22)++(w16 (wAt l 24)++(w16 (wAt l 26)++l.drop 28))):=by
   rw[←cut2 l 26 om,←cut2 l 24 om,←cut2 l 22 om,←cut2 l 20 om]
  rw[e,show qbd (byt l 9)=26 by rw[hp];rfl]
  unfold pt
  rw[if_neg (by rw[qfq];exact n1),if_pos (by rw[qfq];exact hp)]
  have f:(qam l).sport=wAt l 20/\(qam l).dport=wAt l 22:=by
   unfold qam;rw[if_neg n1,if_neg n6];exact⟨rfl,rfl⟩
  have f3:8+((qam l).body.size:Int)=wAt l 24:=by have:=P.udp hp;omega
  rw[f.1,f.2,f3,hb,qds]
  simp only[List.append_assoc]
theorem q61(l:List UInt8)(hb:bad l=0):l=fr (qam l) (wAt l 10) (wAt l (qbd (byt l 9)))/\(wAt l 10+tot (hd (qam l) (flen (qam l)) 0))%65535=0/\(wAt l (qbd (byt l 9))+allP (qam l) 0)%65535=0:=by
 obtain⟨H,P,hg⟩:=qgi l hb
 obtain⟨hc,hz⟩:=q4z l H P
 have hlen:wAt l 2=flen (qam l):=by
  unfold flen;rw[qfq,H.size];omega
 have hh:=q6e l H.len H.mark H.serv H.piece (qam l) (qatb l) (qaeb l) (qfq l) (q3c l) (q2a l)
 rw[hlen] at hh
 have e:l=fr (qam l) (wAt l 10) (wAt l (qbd (byt l 9))):=by
  unfold fr;rw[←hc];exact hh
 have w1:=qhr l 10
 have w2:=qhr l (qbd (byt l 9))
 refine⟨e,?_,?_⟩
 ·have h20:l.take 20=hd (qam l) (flen (qam l)) (wAt l 10):=by
   have:=congrArg (List.take 20) hh
   rw[this,List.take_left' (by rfl)]
  have hs:=H.sum
  rw[h20,q1p _ _ _ w1.1 w1.2] at hs
  have:=qhv (tot (hd (qam l) (flen (qam l)) 0)+wAt l 10)
  rw[hs] at this
  omega
 ·have hs:=P.sum
  rw[←q82 l _ H.len,hc] at hs
  have ha:tot (ps (lAt l 12) (lAt l 16) (byt l 9) ((l.length:Int)-20)++(pt (qam l) (wAt l (qbd (byt l 9)))++(qam l).body.data.toList))=allP (qam l) (wAt l (qbd (byt l 9))):=by
   unfold allP;rw[q3c,q2a,qfq,hz]
  rw[ha,qxw _ _ w2.1 w2.2] at hs
  have:=qhv (allP (qam l) 0+wAt l (qbd (byt l 9)))
  rw[hs] at this
  omega
theorem qnc(l:List UInt8)(side addr port:Int)(h:qcb l side addr port=0):bad l=0/\qc5 l side addr port=txt (frame (turned (qam l) side addr port))/\good (turned (qam l) side addr port)=0/\(qam l).ttl≠1/\good (qam l)=0:=by
 have hE:=h
 unfold qcb at h
 by_cases hb:bad l≠0
 ·rw[if_pos hb] at h;exact absurd h hb
 rw[if_neg hb] at h
 have hb0:bad l=0:=by omega
 by_cases h0:side≠0/\side≠1
 ·rw[if_pos h0] at h;omega
 rw[if_neg h0] at h
 by_cases ha:qeb addr=false
 ·rw[if_pos ha] at h;omega
 rw[if_neg ha] at h
 by_cases hp:qc7 port=false
 ·rw[if_pos hp] at h;omega
 rw[if_neg hp] at h
 by_cases h1:(qam l).ttl=1
 ·rw[if_pos h1] at h;omega
 rw[if_neg h1] at h
 by_cases h2:(qam l).proto=1/\((qam l).flags==8)≠(side==0)
 ·rw[if_pos h2] at h;omega
 have ha':0<=addr/\addr<=4294967295:=by unfold qeb at ha;simpa using ha
 have hp':0<=port/\port<=65535:=by unfold qc7 at hp;simpa using hp
 have hs:side=0\/side=1:=by omega
 have hf:(qam l).proto=1->((qam l).flags==8)=(side==0):=fun h3=>by
  by_cases h4:((qam l).flags==8)=(side==0)
  ·exact h4
  ·exact absurd ⟨h3,h4⟩ h2
 obtain⟨H,P,hg⟩:=qgi l hb0
 obtain⟨hl,m1,m2⟩:=q61 l hb0
 have w1:=qhr l 10
 have w2:=qhr l (qbd (byt l 9))
 refine⟨hb0,?_,qqa _ side addr port hg hs ha' hp' h1 hf,h1,hg⟩
 unfold qc5
 rw[if_pos hE]
 have:=qq0 (qam l) _ _ side addr port hg hs ha' hp' h1 hf w1.1 w1.2 w2.1 w2.2 m1 m2
 rw[←hl] at this
 rw[this]
structure Same(s t:Nt):Prop where
 f:t.f=s.f
 g:t.g=s.g
 h:t.h=s.h
 ms:t.ms=s.ms
 fs:t.fs=s.fs
 now:t.now=s.now
theorem Same.refl(s:Nt):Same s s:=⟨rfl,rfl,rfl,rfl,rfl,rfl⟩
theorem Same.trans{s t u:Nt}(h:Same s t)(k:Same t u):Same s u:=⟨k.f.trans h.f,k.g.trans h.g,k.h.trans h.h,k.ms.trans h.ms,k.fs.trans h.fs,k.now.trans h.now⟩
theorem sZxo11{p:Prop}(h:p:=by
 have h2:qc7 q=true:=by unfold qc7;rw[decide_eq_true_eq];omega
 unfold qcb
 rw[if_neg om,if_neg om,if_neg (by rw[h1];simp),if_neg (by rw[h2];simp),if_neg ht,if_neg]
 rintro⟨h3,h4⟩
 apply h4
 rw[h3] at hp
 simp at hp
 rw[hp];rfl):p:=h
theorem q5h{l:List UInt8}{a q:Int}(hb:bad l=0)(hp:¬((qam l).proto==1&&(qam l).flags != 8)=true)(ht:(qam l).ttl≠1)(ha:0<=a/\a<3)(hq:0<=q/\q<=65535):qcb l 0 (3405803777+a) q=0:=by
 have h1:qeb (3405803777+a)=true:=by unfold qeb;rw[decide_eq_true_eq];omega
 exact sZxo11
theorem q5l{l:List UInt8}{a q:Int}(hb:bad l=0)(hp:¬((qam l).proto==1&&(qam l).flags != 0)=true)(ht:(qam l).ttl≠1)(ha:0<=a/\a<8)(hq:0<=q/\q<=65535):qcb l 1 (167772161+a) q=0:=by
 have h1:qeb (167772161+a)=true:=by unfold qeb;rw[decide_eq_true_eq];omega
 exact sZxo11
theorem q1z{s:Nt}{p:Pkt}{m:Mp}(h:(s.letIn p m).1≠0):(s.letIn p m).2=s:=by
 unfold Nt.letIn at h ⊢
 split
 ·next x hx=>rw[hx] at h;exact absurd rfl h
 ·next hx=>
  rw[hx] at h
  simp only at h
  split
  ·rfl
  ·next h1=>
   rw[if_neg h1] at h
   split
   ·rfl
   ·next h2=>rw[if_neg h2] at h;exact absurd rfl h
theorem qoj{s:Nt}(h:Ci s)(l:List UInt8):(∃e,e≠0/\s.inn l=(qas e,s))\/
  ∃m,m∈s.ms/\s.ms.find? (outS (qam l).proto ((qam l).dst-3405803777) (qam l).dport)=some m/\bad l=0/\(0<=(qam l).dst-3405803777/\(qam l).dst-3405803777<3)/\(s.letIn (qam l) m).1=0/\good (turned (qam l) 1 (167772161+m.2.1) m.2.2.1)=0/\
   s.inn l=(⟨0,txt (frame (turned (qam l) 1 (167772161+m.2.1) m.2.2.1)),true,ByteArray.empty⟩,(s.letIn (qam l) m).2):=by
 unfold Nt.inn
 by_cases hb:bad l≠0
 ·rw[if_pos hb];exact .inl ⟨_,hb,rfl⟩
 rw[if_neg hb]
 have hb0:bad l=0:=by omega
 by_cases hd:¬(0<=(qam l).dst-3405803777/\(qam l).dst-3405803777<3)
 ·rw[if_pos hd];exact .inl ⟨7,by omega,rfl⟩
 rw[if_neg hd]
 by_cases hp:((qam l).proto==1&&(qam l).flags != 0)=true
 ·rw[if_pos hp];exact .inl ⟨4,by omega,rfl⟩
 rw[if_neg hp]
 by_cases ht:(qam l).ttl=1
 ·rw[if_pos ht];exact .inl ⟨12,by omega,rfl⟩
 rw[if_neg ht]
 cases hf:s.ms.find? (outS (qam l).proto ((qam l).dst-3405803777) (qam l).dport) with
 | none=>exact .inl ⟨7,by omega,rfl⟩
 | some m=>
  have hm:=List.mem_of_find?_eq_some hf
  obtain⟨_,h2,h3,_⟩:=h.good.maps.1 m hm
  simp only
  by_cases hl:(s.letIn (qam l) m).1≠0
  ·rw[if_pos hl,q1z hl];exact .inl ⟨_,hl,rfl⟩
  ·rw[if_neg hl]
   have hE:=q5l hb0 hp ht h2 h3
   obtain⟨_,e,hg,_⟩:=qnc l 1 _ _ hE
   refine .inr ⟨m,hm,rfl,hb0,by omega,by omega,hg,?_⟩
   rw[hE,e]
theorem qtr{s:Nt}(h:Ci s){l:List UInt8}{k:Fl}(hm:flM k∈s.ms)(hb:bad l=0)(hp:¬((qam l).proto==1&&(qam l).flags != 8)=true)(ht:(qam l).ttl≠1)(hi:¬(0<=k.rem-3405803777/\k.rem-3405803777<3)):
  s.leave l k=(⟨0,txt (frame (turned (qam l) 0 (3405803777+k.a) k.port)),false,ByteArray.empty⟩,s)/\good (turned (qam l) 0 (3405803777+k.a) k.port)=0:=by
 obtain⟨_,_,_,h4,h5,_⟩:=h.good.maps.1 _ hm
 have h4':1024<=k.port/\k.port<1072:=h4
 have h5':0<=k.a/\k.a<3:=h5
 have hE:=q5h (q:=k.port) hb hp ht h5' om
 obtain⟨_,e,hg,_⟩:=qnc l 0 _ _ hE
 unfold Nt.leave
 rw[if_neg hi,hE,e]
 exact⟨rfl,hg⟩
theorem qur{s:Nt}{l:List UInt8}{k:Fl}(hi:0<=k.rem-3405803777/\k.rem-3405803777<3):s.leave l k=s.inn (qc5 l 0 (3405803777+k.a) k.port).data.toList:=by
 unfold Nt.leave;rw[if_pos hi]
theorem q5a(s:Nt)(es:List Ev):Same s (s.log es).2:=by
 unfold Nt.log
 split
 ·exact Same.refl _
 ·exact⟨rfl,rfl,rfl,rfl,rfl,rfl⟩
theorem qpr(s:Nt)(l:List UInt8)(why:Int):(s.refuse l why).1.code=why/\(s.refuse l why).1.lg=ByteArray.empty/\Same s (s.refuse l why).2:=by
 unfold Nt.refuse
 split
 ·exact⟨rfl,rfl,Same.refl _⟩
 ·exact⟨rfl,rfl,⟨rfl,rfl,rfl,rfl,rfl,rfl⟩⟩
def Goes(l:List UInt8)(r:Rp×Nt):Prop:=
 bad l=0/\¬((qam l).proto==1&&(qam l).flags != 8)=true/\(qam l).ttl≠1/\(0<=(qam l).src-167772161/\(qam l).src-167772161<8)/\
  ∃t k,Ci t/\flM k∈t.ms/\k.rem=(qam l).dst/\k.rp=(qam l).dport/\k.pr=(qam l).proto/\k.s=(qam l).src-167772161/\k.i=(qam l).sport/\r.1.code=(t.leave l k).1.code/\r.1.fr=(t.leave l k).1.fr/\r.1.inn=(t.leave l k).1.inn/\Same (t.leave l k).2 r.2
theorem q1q{s:Nt}(h:Ci s){p:Pkt}(hp:0<=p.dst/\p.dst<=4294967295){sub:Int}(hf:s.find (outF p sub)=none)(hlen:s.fs.length<48){draw:Int}(he0:(qba s.f s.g s.h s.ms p.proto sub p.sport draw).e=0):
  Ci ((s.setT (qba s.f s.g s.h s.ms p.proto sub p.sport draw).f (qba s.f s.g s.h s.ms p.proto sub p.sport draw).h (qba s.f s.g s.h s.ms p.proto sub p.sport draw).ms).begin (mkF (qba s.f s.g s.h s.ms p.proto sub p.sport draw).m p.dst p.dport (qao p.proto))):=by
 obtain⟨G,hm,hs⟩:=qk3 he0
 obtain⟨m1,m2,m3,hn⟩:=qsb he0
 generalize qba s.f s.g s.h s.ms p.proto sub p.sport draw=o at *
 refine h.add G (by rw[qjg];exact hm) hs (fun m hm'=>by rw[qjg];exact hn m hm') hlen hp (fun x hx hh=>?_)
 have:=qqq hf x hx
 rw[qjg] at hh
 have e1:x.2.pr=p.proto:=by rw[←m1,←hh.1];rfl
 have e2:x.2.s=sub:=by rw[←m2,←hh.1];rfl
 have e3:x.2.i=p.sport:=by rw[←m3,←hh.1];rfl
 have e4:x.2.rem=p.dst:=hh.2.1
 have e5:x.2.rp=p.dport:=hh.2.2
 unfold outF at this
 rw[e1,e2,e3,e4,e5] at this
 simp at this
theorem qtv{s:Nt}(h:Ci s)(l:List UInt8)(draw:Int):((s.out l draw).1.code≠0/\(s.out l draw).1.lg=ByteArray.empty/\Same s (s.out l draw).2)\/Goes l (s.out l draw):=by
 have no:∀e:Int,e≠0->((qas e).code≠0/\(qas e).lg=ByteArray.empty/\Same s s):=fun e he=>⟨he,rfl,Same.refl _⟩
 unfold Nt.out
 by_cases hb:bad l≠0
 ·rw[if_pos hb];exact .inl (no _ hb)
 rw[if_neg hb]
 have hb0:bad l=0:=by omega
 by_cases hd:¬(0<=(qam l).src-167772161/\(qam l).src-167772161<8)
 ·rw[if_pos hd];exact .inl (no 7 om)
 rw[if_neg hd]
 by_cases hp:((qam l).proto==1&&(qam l).flags != 8)=true
 ·rw[if_pos hp];exact .inl (no 4 om)
 rw[if_neg hp]
 by_cases ht:(qam l).ttl=1
 ·rw[if_pos ht];exact .inl (no 12 om)
 rw[if_neg ht]
 cases hf:s.find (outF (qam l) ((qam l).src-167772161)) with
 | some x=>
  simp only
  have hx:=qjj hf
  have ho:=hx.2
  unfold outF at ho
  simp only[Bool.and_eq_true,beq_iff_eq] at ho
  obtain⟨⟨⟨⟨o1,o2⟩,o3⟩,o4⟩,o5⟩:=ho
  have hn:=qnr x.2 (qam l).flags s.now false
  have C:=h.keep hx.1 hn (qod (h.due x hx.1))
  generalize qcu x.2 (qam l).flags false s.now=k at *
  have hM:flM k=flM x.2:=hn.1
  have e1:k.pr=x.2.pr:=congrArg (·.1) hM
  have e2:k.s=x.2.s:=congrArg (·.2.1) hM
  have e3:k.i=x.2.i:=congrArg (·.2.2.1) hM
  refine .inr ⟨hb0,hp,ht,by omega,_,k,C,?_,hn.2.1.trans o4,hn.2.2.trans o5,e1.trans o1,e2.trans o2,e3.trans o3,rfl,rfl,rfl,Same.refl _⟩
  rw[hM];exact h.mem x hx.1
 | none=>
  simp only
  by_cases hg:begB (qam l)=false
  ·rw[if_pos hg];exact .inl (no 11 om)
  rw[if_neg hg]
  unfold Nt.first
  by_cases hfull:s.full=true
  ·rw[if_pos hfull]
   have:=qpr s l 6
   exact .inl ⟨by rw[this.1];omega,this.2⟩
  rw[if_neg hfull]
  have hlen:s.fs.length<48:=by unfold Nt.full at hfull;simpa using hfull
  simp only
  by_cases he:(qba s.f s.g s.h s.ms (qam l).proto ((qam l).src-167772161) (qam l).sport draw).e≠0
  ·rw[if_pos he]
   have:=qpr s l (qba s.f s.g s.h s.ms (qam l).proto ((qam l).src-167772161) (qam l).sport draw).e
   exact .inl ⟨by rw[this.1];exact he,this.2⟩
  rw[if_neg he]
  have he0:(qba s.f s.g s.h s.ms (qam l).proto ((qam l).src-167772161) (qam l).sport draw).e=0:=by omega
  have C:=q1q h (qsg hb0).2 hf hlen he0
  obtain⟨G,hm,hs⟩:=qk3 he0
  obtain⟨m1,m2,m3,hn⟩:=qsb he0
  generalize qba s.f s.g s.h s.ms (qam l).proto ((qam l).src - 167772161) (qam l).sport draw=o at *
  refine .inr ⟨hb0,hp,ht,by omega,_,mkF o.m (qam l).dst (qam l).dport (qao (qam l).proto),C,?_,rfl,rfl,m1,m2,m3,?_⟩
  ·rw[qjg];exact hm
  ·split
   ·exact⟨rfl,rfl,rfl,q5a _ _⟩
   ·exact⟨rfl,rfl,rfl,Same.refl _⟩
theorem q7y{s:Nt}(h:Ci s)(a:Ac)(h1:a.kd=1)(hc:(s.act a).1.code=0)(hn:(s.act a).1.inn=false):
  ∃m,bad a.fr.data.toList=0/\m∈(s.act a).2.ms/\(s.act a).2.ms.find? (inS (qam a.fr.data.toList).proto ((qam a.fr.data.toList).src-167772161) (qam a.fr.data.toList).sport)=some m/\(0<=m.2.2.2.1/\m.2.2.2.1<3)/\(1024<=m.2.2.2.2/\m.2.2.2.2<1072)/\(0<=(qam a.fr.data.toList).src-167772161/\(qam a.fr.data.toList).src-167772161<8)/\
   (s.act a).2.f (qa7 m)=(qam a.fr.data.toList).src-167772160/\good (turned (qam a.fr.data.toList) 0 (3405803777+m.2.2.2.1) m.2.2.2.2)=0/\(s.act a).1.fr=txt (frame (turned (qam a.fr.data.toList) 0 (3405803777+m.2.2.2.1) m.2.2.2.2)):=by
 have hA:=h.act a
 unfold Nt.act at hc hn hA ⊢
 by_cases h3:300<=s.acts
 ·rw[if_pos h3] at hc;exact absurd (show(6:Int)=0 from hc) om
 rw[if_neg h3] at hc hn hA ⊢
 have hC:=h.acts (s.acts+1)
 generalize({ s with acts:=s.acts+1 }:Nt)=t at *
 dsimp only at hc hn hA ⊢
 rw[if_pos h1] at hc hn hA ⊢
 generalize a.fr.data.toList=l at *
 rcases qtv hC l a.dr with⟨h4,_⟩|⟨hb,hp,ht,hsub,u,k,hU,hm,hr,_,k1,k2,k3,ec,ef,ei,es⟩
 ·exact absurd hc h4
 ·by_cases hin:0<=k.rem-3405803777/\k.rem-3405803777<3
  ·rw[ei,qur hin] at hn
   rw[ec,qur hin] at hc
   rcases qoj hU (qc5 l 0 (3405803777+k.a) k.port).data.toList with⟨e,he,h5⟩|⟨m,_,_,_,_,_,_,h5⟩
   ·rw[h5] at hc;exact absurd hc he
   ·rw[h5] at hn;exact absurd hn zm
  ·obtain⟨hl,hg⟩:=qtr hU hm hb hp ht hin
   rw[hl] at ef es
   have hm':flM k∈(t.out l a.dr).2.ms:=by rw[es.ms];exact hm
   obtain⟨_,_,_,q4,q5,_,q7⟩:=hA.good.maps.1 _ hm'
   have hf:=q35 hA.good.maps.2 hm'
   have k1':(flM k).1=(qam l).proto:=k1
   have k2':(flM k).2.1=(qam l).src-167772161:=k2
   have k3':(flM k).2.2.1=(qam l).sport:=k3
   rw[k1',k2',k3'] at hf
   refine⟨flM k,hb,hm',hf,q5,q4,hsub,?_,hg,ef⟩
   have q7':(t.out l a.dr).2.f (qa7 (flM k))=(flM k).2.1+1:=q7
   rw[q7',k2'];omega
def Dry(g:Nat->Bool)(f f':Nat->Int):Prop:=∀x,x<3->g x=true->∀k,k<6->f' (6*x+k)≠0->f' (6*x+k)=f (6*x+k)
theorem Dry.refl(g:Nat->Bool)(f:Nat->Int):Dry g f f:=fun _ _ _ _ _ _=>rfl
theorem Dry.trans{g:Nat->Bool}{f f' f'':Nat->Int}(h:Dry g f f')(k:Dry g f' f''):Dry g f f'':=fun x hx hg i hi hn=>by
 have e:=k x hx hg i hi hn
 rw[e] at hn ⊢
 exact h x hx hg i hi hn
theorem qckb(s:Nt)(es:List Ev):(s.log es).2.f=s.f:=by
 unfold Nt.log
 split<;>rfl
theorem qcob(s:Nt)(p:Pkt)(m:Mp):(s.letIn p m).2.f=s.f:=by
 unfold Nt.letIn
 split
 ·rfl
 ·split
  ·rfl
  ·split<;>rfl
theorem qcjb(s:Nt)(l:List UInt8):(s.inn l).2.f=s.f:=by
 unfold Nt.inn
 split
 ·rfl
 split
 ·rfl
 split
 ·rfl
 split
 ·rfl
 split
 ·rfl
 ·split<;>exact qcob _ _ _
theorem qb3b(s:Nt)(l:List UInt8)(k:Fl):(s.leave l k).2.f=s.f:=by
 unfold Nt.leave
 split
 ·exact qcjb _ _
 ·rfl
theorem qbzb(s:Nt)(l:List UInt8)(why:Int):(s.refuse l why).2.f=s.f:=by
 unfold Nt.refuse
 split<;>rfl
def Eq18(f f':Nat->Int):Prop:=∀i,i<18->f' i=f i
theorem Eq18.refl(f:Nat->Int):Eq18 f f:=fun _ _=>rfl
theorem Eq18.upd{f f':Nat->Int}(h:Eq18 f f')(p:Nat)(x:Int):Eq18 (upd f p x) (upd f' p x):=fun i hi=>by
 show(if i=p then x else f' i)=(if i=p then x else f i)
 rw[h i hi]
theorem qdxb{es:List Ev}:∀ {f f':Nat->Int} {e:Ev},qcub f es=(0,f')->okE e->bhE (f' (at6 e)) e=0->qcub f (es++[e])=(0,upd f' (at6 e) (ownN e)):=by
 induction es with
 | nil=>
  intro f f' e h hk hE
  have:f'=f:=by have:=congrArg (·.2) h;exact this.symm
  subst this
  show qcub f' [e]=_
  unfold qcub
  rw[if_pos hk,if_pos hE]
  rfl
 | cons x r ih=>
  intro f f' e h hk hE
  show qcub f (x::(r++[e]))=_
  unfold qcub at h ⊢
  by_cases h1:okE x
  ·rw[if_pos h1] at h ⊢
   by_cases h2:bhE (f (at6 x)) x=0
   ·rw[if_pos h2] at h ⊢
    exact ih h hk hE
   ·rw[if_neg h2] at h
    exact absurd (congrArg (·.1) h) h2
  ·rw[if_neg h1] at h
   exact absurd (congrArg (·.1) h) zm
noncomputable def logT(n:Nat)(es:List Ev):ByteArray:=if es.length=0 then ByteArray.empty else(if n=0 then msgT 0 0 2 (tplB 6) else ByteArray.empty)++mesT (n:Int) es
theorem qfub(s:Nt)(es:List Ev):(s.log es).1=logT s.logged es/\(s.log es).2.logged=s.logged+es.length:=by
 unfold Nt.log logT
 split
 ·next h=>exact⟨rfl,by rw[h];rfl⟩
 ·exact⟨rfl,rfl⟩
structure qdbb(s:Nt)(lg:ByteArray)(t:Nt)(es:List Ev):Prop where
 lg:lg=logT s.logged es
 logged:t.logged=s.logged+es.length
 ok:∀e∈es,okE e/\e.t=t.now
 few:es.length<=48
 own:∀f',Eq18 s.f f'->∃f'',qcub f' es=(0,f'')/\Eq18 t.f f''
 now:s.now<=t.now
theorem qczb{s t:Nt}(h1:t.logged=s.logged)(h2:t.f=s.f)(h3:s.now<=t.now):qdbb s ByteArray.empty t []:=
 ⟨rfl,h1,fun e he=>(by cases he),by simp,fun f' hf=>⟨f',rfl,by rw[h2];exact hf⟩,h3⟩
theorem qdbb.from{s s' t:Nt}{lg:ByteArray}{es:List Ev}(h:qdbb s' lg t es)(h1:s'.logged=s.logged)(h2:s'.f=s.f)(h3:s.now<=s'.now):qdbb s lg t es:=
 ⟨by rw[←h1];exact h.lg,by rw[←h1];exact h.logged,h.ok,h.few,by rw[←h2];exact h.own,Int.le_trans h3 h.now⟩
theorem qgxb(f:Nat->Int)(a k:Nat):rowF f a k=f (6*a+k):=rfl
theorem qfqb{f:Nat->Int}{g:Nat->Bool}{h:Nat->Int}{ms:List Mp}{p s i d:Int}(he:(qba f g h ms p s i d).e=0):((qba f g h ms p s i d).took=false/\(qba f g h ms p s i d).f=f)\/
  ((qba f g h ms p s i d).took=true/\(qba f g h ms p s i d).f=upd f (qa7 (qba f g h ms p s i d).m) ((qba f g h ms p s i d).m.2.1+1)/\f (qa7 (qba f g h ms p s i d).m)=0):=by
 have hR:(qbe f g h ms p s d).e=0->((qbe f g h ms p s d).took=false/\(qbe f g h ms p s d).f=f)\/((qbe f g h ms p s d).took=true/\(qbe f g h ms p s d).f=upd f (qdi ((qbe f g h ms p s d).h s.toNat-1) (qbe f g h ms p s d).q) (s+1)/\f (qdi ((qbe f g h ms p s d).h s.toNat-1) (qbe f g h ms p s d).q)=0):=by
  unfold qbe
  split
  ·exact fun _=>.inl ⟨rfl,rfl⟩
  ·split
   ·exact fun _=>.inl ⟨rfl,rfl⟩
   ·split
    ·split
     ·next h0=>
      refine fun _=>.inr ⟨rfl,?_⟩
      have hE:=h0
      generalize qdn f g h s d=a at *
      have hu:upd h s.toNat (a+1) s.toNat-1=a:=by show(if s.toNat=s.toNat then a+1 else h s.toNat)-1=a;rw[if_pos rfl];omega
      have hpl:qdi a (1024+8*(qft f g s a d:Int))=6*a.toNat+qft f g s a d:=by unfold qdi;omega
      show qi1 f g s a d=upd f (qdi (upd h s.toNat (a+1) s.toNat-1) (1024+8*(qft f g s a d:Int))) (s+1)/\f (qdi (upd h s.toNat (a+1) s.toNat-1) (1024+8*(qft f g s a d:Int)))=0
      rw[hu,hpl]
      refine⟨by unfold qi1;rw[if_pos h0],?_⟩
      unfold qdh at hE
      by_cases h1:qcv f=true
      ·rw[if_pos h1] at hE
       by_cases h2:inR a 3=true/\inR s 8=true
       ·rw[if_pos h2] at hE
        by_cases h3:g a.toNat=true
        ·rw[if_pos h3] at hE;omega
        ·rw[if_neg h3] at hE
         by_cases h4:(qbo (rowF f a.toNat)).length=0
         ·rw[if_pos h4] at hE;omega
         have:=(qj8 _ _ (qiu (qbo (rowF f a.toNat)) d om)).2
         rw[qgxb] at this
         unfold qft;rw[if_pos h0]
         exact this
       ·rw[if_neg h2] at hE;omega
      ·rw[if_neg h1] at hE;omega
     ·exact fun _=>.inl ⟨rfl,rfl⟩
    ·exact fun _=>.inl ⟨rfl,rfl⟩
 by_cases hP:qjy f h ms p s i
 rotate_left
 ·have ho:qba f g h ms p s i d=⟨2,f,h,ms,noM,false⟩:=by unfold qba;rw[if_neg hP]
  rw[ho] at he;simp at he
 cases hf:ms.find? (inS p s i) with
 | some m=>
  have ho:qba f g h ms p s i d=⟨0,f,h,ms,m,false⟩:=by unfold qba;rw[if_pos hP,hf]
  rw[ho]
  exact .inl ⟨rfl,rfl⟩
 | none=>
  by_cases hc:cntM ms s=12
  ·have ho:qba f g h ms p s i d=⟨6,f,h,ms,noM,false⟩:=by unfold qba;rw[if_pos hP,hf];simp only;rw[if_pos hc]
   rw[ho] at he;simp at he
  ·by_cases hr:(qbe f g h ms p s d).e=0
   rotate_left
   ·have ho:qba f g h ms p s i d=⟨(qbe f g h ms p s d).e,f,h,ms,noM,false⟩:=by unfold qba;rw[if_pos hP,hf];simp only;rw[if_neg hc,if_pos hr]
    rw[ho] at he;exact absurd he hr
   ·have ho:qba f g h ms p s i d=⟨0,(qbe f g h ms p s d).f,(qbe f g h ms p s d).h,ms++[(p,s,i,(qbe f g h ms p s d).h s.toNat-1,(qbe f g h ms p s d).q)],(p,s,i,(qbe f g h ms p s d).h s.toNat-1,(qbe f g h ms p s d).q),(qbe f g h ms p s d).took⟩:=by unfold qba;rw[if_pos hP,hf];simp only;rw[if_neg hc,if_neg (fun h=>h hr)]
    rw[ho]
    exact hR hr
theorem qd7b(now:Int)(m:Mp)(b:Bool):at6 (evN now m b)=qa7 m:=rfl
theorem qglb{f h:Nat->Int}{m:Mp}(hs:qdb f h m){now:Int}(h0:0<=now/\now<=549755813888)(b:Bool):okE (evN now m b):=by
 obtain⟨_,h2,_,h4,h5,_⟩:=hs
 unfold okE evN
 refine⟨by simp only;omega,by simp only;omega,by simp only;omega,by simp only;omega⟩
theorem qe7b(s:Nt)(p:Pkt)(m:Mp):(s.letIn p m).2.logged=s.logged/\(s.letIn p m).2.now=s.now:=by
 unfold Nt.letIn
 split
 ·exact⟨rfl,rfl⟩
 ·split
  ·exact⟨rfl,rfl⟩
  ·split<;>exact⟨rfl,rfl⟩
theorem qevb(s:Nt)(l:List UInt8):(s.inn l).1.lg=ByteArray.empty/\(s.inn l).2.logged=s.logged/\(s.inn l).2.now=s.now:=by
 unfold Nt.inn
 split
 ·exact⟨rfl,rfl,rfl⟩
 split
 ·exact⟨rfl,rfl,rfl⟩
 split
 ·exact⟨rfl,rfl,rfl⟩
 split
 ·exact⟨rfl,rfl,rfl⟩
 split
 ·exact⟨rfl,rfl,rfl⟩
 ·split<;>exact⟨rfl,qe7b _ _ _⟩
theorem qd2b(s:Nt)(l:List UInt8)(k:Fl):(s.leave l k).1.lg=ByteArray.empty/\(s.leave l k).2.logged=s.logged/\(s.leave l k).2.now=s.now:=by
 unfold Nt.leave
 split
 ·exact qevb _ _
 ·exact⟨rfl,rfl,rfl⟩
theorem qe0b(s:Nt)(l:List UInt8)(why:Int):(s.refuse l why).1.lg=ByteArray.empty/\(s.refuse l why).2.logged=s.logged/\(s.refuse l why).2.now=s.now:=by
 unfold Nt.refuse
 split<;>exact⟨rfl,rfl,rfl⟩
theorem qdpb(s:Nt)(l:List UInt8)(why:Int):∃es,qdbb s (s.refuse l why).1.lg (s.refuse l why).2 es:=by
 obtain⟨h1,h2,h3⟩:=qe0b s l why
 rw[h1]
 exact⟨[],qczb h2 (qbzb _ _ _) (by rw[h3];exact Int.le_refl _)⟩
theorem qexb(s:Nt)(l:List UInt8)(k:Fl):qdbb s (s.leave l k).1.lg (s.leave l k).2 []:=by
 obtain⟨h1,h2,h3⟩:=qd2b s l k
 rw[h1]
 exact qczb h2 (qb3b _ _ _) (by rw[h3];exact Int.le_refl _)
theorem qffb(s:Nt)(l:List UInt8):qdbb s (s.inn l).1.lg (s.inn l).2 []:=by
 obtain⟨h1,h2,h3⟩:=qevb s l
 rw[h1]
 exact qczb h2 (qcjb _ _) (by rw[h3];exact Int.le_refl _)
theorem qeyb{s:Nt}(h:Ci s)(l:List UInt8)(p:Pkt)(sub draw:Int):∃es,qdbb s (s.first l p sub draw).1.lg (s.first l p sub draw).2 es:=by
 unfold Nt.first
 split
 ·exact qdpb _ _ _
 ·simp only
  by_cases he:(qba s.f s.g s.h s.ms p.proto sub p.sport draw).e≠0
  ·rw[if_pos he];exact qdpb _ _ _
  rw[if_neg he]
  have he0:(qba s.f s.g s.h s.ms p.proto sub p.sport draw).e=0:=by omega
  obtain⟨G,hm,_⟩:=qk3 he0
  have ht:=qfqb he0
  generalize qba s.f s.g s.h s.ms p.proto sub p.sport draw=o at *
  obtain⟨r1,r2,r3⟩:=qd2b ((s.setT o.f o.h o.ms).begin (mkF o.m p.dst p.dport (qao p.proto))) l (mkF o.m p.dst p.dport (qao p.proto))
  have rf:=qb3b ((s.setT o.f o.h o.ms).begin (mkF o.m p.dst p.dport (qao p.proto))) l (mkF o.m p.dst p.dport (qao p.proto))
  generalize((s.setT o.f o.h o.ms).begin (mkF o.m p.dst p.dport (qao p.proto))).leave l (mkF o.m p.dst p.dport (qao p.proto))=r at *
  have r2':r.2.logged=s.logged:=r2
  have r3':r.2.now=s.now:=r3
  have rf':r.2.f=o.f:=rf
  rcases ht with⟨t1,t2⟩|⟨t1,t2,t3⟩
  ·rw[if_neg (by rw[t1];simp)]
   refine⟨[],?_⟩
   rw[r1]
   exact qczb r2' (rf'.trans t2) (by rw[r3'];exact Int.le_refl _)
  ·rw[if_pos t1]
   have hs:=G.maps.1 _ hm
   have hok:=qglb hs (now:=r.2.now) (by rw[r3'];exact h.now) false
   obtain⟨l1,l2⟩:=qfub r.2 [evN r.2.now o.m false]
   refine⟨[evN r.2.now o.m false],?_,?_,fun e he=>?_,by simp,fun f' hf=>?_,?_⟩
   ·rw[←r2'];exact l1
   ·rw[←r2'];exact l2
   ·obtain rfl:=List.mem_singleton.1 he
    refine⟨hok,?_⟩
    have:(r.2.log [evN r.2.now o.m false]).2.now=r.2.now:=(q5a _ _).now
    exact this.symm
   ·have hz:f' (at6 (evN r.2.now o.m false))=0:=by
     rw[hf _ (qfpb hok),qd7b];exact t3
    refine⟨upd f' (at6 (evN r.2.now o.m false)) (ownN (evN r.2.now o.m false)),qdxb (es:=[]) rfl hok (by rw[hz];rfl),?_⟩
    have e1:(r.2.log [evN r.2.now o.m false]).2.f=o.f:=(qckb _ _).trans rf'
    rw[e1,t2]
    exact hf.upd _ _
   ·have:(r.2.log [evN r.2.now o.m false]).2.now=r.2.now:=(q5a _ _).now
    show s.now<=(r.2.log [evN r.2.now o.m false]).2.now
    rw[this,r3'];exact Int.le_refl _
theorem qfmb{s:Nt}(h:Ci s)(l:List UInt8)(draw:Int):∃es,qdbb s (s.out l draw).1.lg (s.out l draw).2 es:=by
 have no:∀e:Int,∃es,qdbb s (qas e).lg s es:=fun e=>⟨[],qczb rfl rfl (Int.le_refl _)⟩
 unfold Nt.out
 split
 ·exact no _
 split
 ·exact no _
 split
 ·exact no _
 split
 ·exact no _
 split
 ·exact⟨[],(qexb _ _ _).from rfl rfl (Int.le_refl _)⟩
 ·split
  ·exact no _
  ·exact qeyb h l _ _ _
theorem qfbb{s:Nt}{l:List Int}(hok:TkOk s l)(hn:0<=s.now/\s.now<=549755813888)(f':Nat->Int)(hf:Eq18 s.f f'):∀j,j<=l.length->(∀e∈(qbu s (l.take j)).1,okE e/\e.t=s.now)/\∃f'',qcub f' (qbu s (l.take j)).1=(0,f'')/\Eq18 (qbu s (l.take j)).2.f f'':=by
 intro j
 induction j with
 | zero=>intro _;rw[List.take_zero];exact⟨fun e he=>(by simp[qbu] at he),f',rfl,hf⟩
 | succ j ih=>
  intro hj
  obtain⟨h1,f1,h2,h3⟩:=ih om
  have FO:=qng hok j om
  rw[List.drop_eq_getElem_cons om] at FO
  obtain⟨x,hx,ex⟩:=FO.ok.there l[j] List.mem_cons_self
  have hst:=qgd s (l.take j) l[j]
  rw[←List.take_succ_eq_append_getElem om,←ex,show qbu s (l.take j)=((qbu s (l.take j)).1,(qbu s (l.take j)).2) from rfl,qlw _ FO.ok.up hx] at hst
  have hnow:=FO.rest.1
  have hmm:=FO.ok.mem x hx
  have hS:=FO.ok.good.maps.1 _ hmm
  rw[hst]
  generalize(qbu s (l.take j)).2=a at *
  generalize(qbu s (l.take j)).1=es at *
  have hk:=(qo2 (a.less (x.1:Int)) (flM x.2)).2.1
  have hcu:(((a.less (x.1:Int)).closeU (flM x.2)).1=false/\((a.less (x.1:Int)).closeU (flM x.2)).2.f=a.f)\/(((a.less (x.1:Int)).closeU (flM x.2)).1=true/\((a.less (x.1:Int)).closeU (flM x.2)).2.f=qdx a.f (flM x.2)):=by
   unfold Nt.closeU
   split
   ·exact .inl ⟨rfl,rfl⟩
   ·unfold qe1
    split
    ·exact .inl ⟨rfl,rfl⟩
    ·exact .inr ⟨rfl,rfl⟩
  have hnw:((a.less (x.1:Int)).closeU (flM x.2)).2.now=s.now:=hk.trans hnow
  rcases hcu with⟨c1,c2⟩|⟨c1,c2⟩
  ·rw[c1,c2]
   exact⟨h1,f1,h2,h3⟩
  ·rw[c1,c2,hnw,if_pos rfl]
   have hok':=qglb hS hn true
   refine⟨fun e he=>?_,upd f1 (at6 (evN s.now (flM x.2) true)) (ownN (evN s.now (flM x.2) true)),qdxb h2 hok' ?_,?_⟩
   ·rcases List.mem_append.1 he with h4|h4
    ·exact h1 e h4
    ·obtain rfl:=List.mem_singleton.1 h4
     exact⟨hok',rfl⟩
   ·rw[h3 _ (qfpb hok'),qd7b]
    have hp:a.f (qa7 (flM x.2))=(flM x.2).2.1+1:=hS.2.2.2.2.2.2
    rw[hp]
    unfold bhE
    rw[if_neg (by intro hh;cases hh.1),if_neg]
    rintro⟨_,h5⟩
    exact h5 rfl
   ·rw[qd7b]
    exact h3.upd _ _
theorem qe9b{s:Nt}(h:Ci s)(n:Int):∃es,qdbb s (s.tick n).1.lg (s.tick n).2 es:=by
 unfold Nt.tick
 split
 ·exact⟨[],qczb rfl rfl (Int.le_refl _)⟩
 ·next hn=>
  have hok:=qr7 h.good h.up h.mem (s.now+n)
  have hok1:TkOk (s.later n) (s.dueL (s.now+n)):=⟨hok.good,hok.up,hok.nd,hok.there,hok.mem⟩
  have F:=qsn h n
  have hT:=fun f' (hf:Eq18 s.f f')=>qfbb hok1 (by have:=h.now;show 0<=s.now+n/\s.now+n<=549755813888;omega) f' hf _ (Nat.le_refl _)
  rw[List.take_length] at hT
  show ∃es,qdbb s ((qbu (s.later n) (s.dueL (s.now+n))).2.log (qbu (s.later n) (s.dueL (s.now+n))).1).1 ((qbu (s.later n) (s.dueL (s.now+n))).2.log (qbu (s.later n) (s.dueL (s.now+n))).1).2 es
  have r1:(qbu (s.later n) (s.dueL (s.now+n))).2.now=s.now+n:=F.rest.1
  have r3:(qbu (s.later n) (s.dueL (s.now+n))).2.logged=s.logged:=F.rest.2.2.1
  have hlen:(qbu (s.later n) (s.dueL (s.now+n))).1.length<=48:=by
   have h1:=F.es
   have h2:=F.len
   have h3:(s.later n).fs.length=s.fs.length:=rfl
   have:=h.few
   omega
  generalize qbu (s.later n) (s.dueL (s.now+n))=r at *
  obtain⟨l1,l2⟩:=qfub r.2 r.1
  have hl:=q5a r.2 r.1
  refine⟨r.1,by rw[←r3];exact l1,by rw[←r3];exact l2,fun e he=>?_,hlen,fun f' hf=>?_,?_⟩
  ·obtain⟨k1,k2⟩:=(hT s.f (Eq18.refl _)).1 e he
   refine⟨k1,?_⟩
   rw[hl.now,r1];exact k2
  ·obtain⟨f'',h1,h2⟩:=(hT f' hf).2
   exact⟨f'',h1,by rw[hl.f];exact h2⟩
  ·rw[hl.now,r1];omega
theorem qfxb{s:Nt}(h:Ci s)(a:Ac):∃es,qdbb s (s.act a).1.lg (s.act a).2 es:=by
 unfold Nt.act
 split
 ·exact⟨[],qczb rfl rfl (Int.le_refl _)⟩
 ·dsimp only
  split
  ·obtain⟨es,hh⟩:=qfmb (h.acts (s.acts+1)) a.fr.data.toList a.dr
   exact⟨es,hh.from rfl rfl (Int.le_refl _)⟩
  split
  ·exact⟨[],(qffb _ _).from rfl rfl (Int.le_refl _)⟩
  split
  ·obtain⟨es,hh⟩:=qe9b (h.acts (s.acts+1)) a.n
   exact⟨es,hh.from rfl rfl (Int.le_refl _)⟩
  split
  ·exact⟨[],qczb rfl rfl (Int.le_refl _)⟩
  split
  ·exact⟨[],qczb rfl rfl (Int.le_refl _)⟩
  ·exact⟨[],qczb rfl rfl (Int.le_refl _)⟩
structure qdcb(s:Nt)(L:List UInt8)(all:List Ev):Prop where
 len:all.length=s.logged
 none:s.logged=0->L=[]
 told:0<s.logged->qdyb L all
 own:∃f,qcub z0 all=(0,f)/\Eq18 s.f f
 time:∀e∈all,e.t<=s.now
theorem qgub(loose:Bool):qdcb (nt0 loose) [] []:=⟨rfl,fun _=>rfl,fun h=>absurd h (by simp[nt0]),⟨z0,rfl,fun _ _=>rfl⟩,fun e he=>(by cases he)⟩
theorem qfgb{es:List Ev}:∀ {f f':Nat->Int} {es':List Ev},qcub f es=(0,f')->qcub f (es++es')=qcub f' es':=by
 induction es with
 | nil=>
  intro f f' es' h
  have:f'=f:=by have:=congrArg (·.2) h;exact this.symm
  subst this
  rfl
 | cons x r ih=>
  intro f f' es' h
  show qcub f (x::(r++es'))=_
  unfold qcub at h
  conv=>lhs;unfold qcub
  by_cases h1:okE x
  ·rw[if_pos h1] at h ⊢
   by_cases h2:bhE (f (at6 x)) x=0
   ·rw[if_pos h2] at h ⊢
    exact ih h
   ·rw[if_neg h2] at h
    exact absurd (congrArg (·.1) h) h2
  ·rw[if_neg h1] at h
   exact absurd (congrArg (·.1) h) zm
theorem qf6b{all:List Ev}{t:Int}(h:∀e∈all,e.t<=t):qcyb all t=false:=by
 unfold qcyb
 cases hg:all.getLast? with
 | none=>rfl
 | some e=>
  have:=h e (List.mem_of_getLast? hg)
  simp only[decide_eq_false_iff_not]
  omega
theorem qdcb.more{s t:Nt}{L:List UInt8}{all es:List Ev}{lg:ByteArray}(h:qdcb s L all)(k:qdbb s lg t es)(hs:s.logged<=100000):qdcb t (L++lg.data.toList) (all++es):=by
 obtain⟨f,hf,he⟩:=h.own
 obtain⟨f2,hf2,he2⟩:=k.own f he
 have hla:qcyb all t.now=false:=qf6b (fun e hx=>Int.le_trans (h.time e hx) k.now)
 have hown:∃f,qcub z0 (all++es)=(0,f)/\Eq18 t.f f:=⟨f2,by rw[qfgb hf];exact hf2,he2⟩
 have htime:∀e∈all++es,e.t<=t.now:=fun e hx=>by
  rcases List.mem_append.1 hx with h1|h1
  ·exact Int.le_trans (h.time e h1) k.now
  ·rw[(k.ok e h1).2];exact Int.le_refl _
 have hlen:(all++es).length=t.logged:=by rw[List.length_append,h.len,k.logged]
 by_cases h0:es.length=0
 ·have e0:es=[]:=List.eq_nil_of_length_eq_zero h0
  have hl:lg=ByteArray.empty:=by rw[k.lg];unfold logT;rw[if_pos h0]
  subst e0
  have hz:t.logged=s.logged:=k.logged
  rw[hl]
  have e1:L++ByteArray.empty.data.toList=L:=by simp
  rw[e1]
  exact⟨hlen,fun hh=>h.none (by rw[←hz];exact hh),fun hh=>by rw[List.append_nil];exact h.told (by rw[←hz];exact hh),hown,htime⟩
 ·have hM:okM es:=fun e hx=>by
   refine⟨(k.ok e hx).1,?_⟩
   cases es with
   | nil=>cases hx
   | cons y r=>rw[(k.ok e hx).2];exact(k.ok y List.mem_cons_self).2.symm
  have htm:tmE es=t.now:=by
   cases es with
   | nil=>exact absurd rfl h0
   | cons y r=>exact(k.ok y List.mem_cons_self).2
  have hfew:=k.few
  have hq:qi0 (s.logged:Int)=true:=by unfold qi0;simp;omega
  have hme:mesT (s.logged:Int) es=txt (msgB t.now (all.length:Int) 300 (setB es)):=by
   unfold mesT msgT
   rw[if_neg h0,if_neg om,if_pos hM,htm,if_pos hq,h.len]
  have hp:∀e∈es,okE e/\e.t=t.now:=k.ok
  refine⟨hlen,fun hh=>?_,fun _=>?_,hown,htime⟩
  ·have:=k.logged;omega
  ·have hlg:lg=(if s.logged=0 then msgT 0 0 2 (tplB 6) else ByteArray.empty)++txt (msgB t.now (all.length:Int) 300 (setB es)):=by rw[k.lg];unfold logT;rw[if_neg h0,hme]
   by_cases hz:s.logged=0
   ·rw[if_pos hz] at hlg
    have ha:all=[]:=List.eq_nil_of_length_eq_zero (by rw[h.len,hz])
    have hmt:msgT 0 0 2 (tplB 6)=txt (msgB 0 0 2 (tplB 6)):=by unfold msgT;rw[if_pos (by decide)]
    have:L++lg.data.toList=msgB 0 0 2 (tplB 6)++msgB t.now (all.length:Int) 300 (setB es):=by
     rw[hlg,hmt,h.none hz]
     simp[txt]
    rw[this]
    subst ha
    exact qeab qf9b t.now es hp om om zm hla
   ·rw[if_neg hz] at hlg
    have:L++lg.data.toList=L++msgB t.now (all.length:Int) 300 (setB es):=by
     rw[hlg];simp[txt]
    rw[this]
    exact qeab (h.told om) t.now es hp om om (by rw[h.len];exact hs) hla
theorem qdcb.read{s:Nt}{L:List UInt8}{all:List Ev}(h:qdcb s L all):runM L.length L false []=(0,all):=by
 by_cases hz:s.logged=0
 ·have ha:all=[]:=List.eq_nil_of_length_eq_zero (by rw[h.len,hz])
  rw[h.none hz,ha];rfl
 ·exact qfyb (h.told om)
def a60:Ac:=⟨3,60,0,ByteArray.empty⟩
theorem qfhb{s:Nt}(h:Ci s)(ha:s.acts<300):(s.act a60).1.code=2\/((s.act a60).1.code=0/\(s.act a60).2.fs=[]/\(s.act a60).2.ms=[]/\(∀i,i<18->(s.act a60).2.f i=0)/\(∀i,i<8->(s.act a60).2.h i=0)):=by
 have hC:=h.act a60
 have eA:s.act a60=Nt.tick { s with acts:=s.acts+1 } 60:=by
  unfold Nt.act
  rw[if_neg om]
  rfl
 rw[eA] at hC ⊢
 have hT:=h.acts (s.acts+1)
 have F:=qsn hT 60
 have hd:∀x∈({ s with acts:=s.acts+1 }:Nt).fs,x.2.du<=({ s with acts:=s.acts+1 }:Nt).now+60:=fun x hx=>(hT.due x hx).2
 generalize({ s with acts:=s.acts+1 }:Nt)=t at *
 by_cases hn:(60:Int)<1\/549755813888-t.now<60
 ·left
  unfold Nt.tick
  rw[if_pos hn]
  rfl
 ·right
  have e:t.tick 60=(⟨0,ByteArray.empty,false,((qbu (t.later 60) (t.dueL (t.now+60))).2.log (qbu (t.later 60) (t.dueL (t.now+60))).1).1⟩,((qbu (t.later 60) (t.dueL (t.now+60))).2.log (qbu (t.later 60) (t.dueL (t.now+60))).1).2):=by
   unfold Nt.tick
   rw[if_neg hn]
   rfl
  have hnow:(t.tick 60).2.now=t.now+60:=by
   rw[e]
   have h1:=(q5a (qbu (t.later 60) (t.dueL (t.now+60))).2 (qbu (t.later 60) (t.dueL (t.now+60))).1).now
   have h2:(qbu (t.later 60) (t.dueL (t.now+60))).2.now=t.now+60:=F.rest.1
   exact h1.trans h2
  have hfs:(t.tick 60).2.fs=t.fs.filter fun x=>decide ((x.1:Int) ∉ t.dueL (t.now+60)):=by
   rw[e]
   have h1:=(q5a (qbu (t.later 60) (t.dueL (t.now+60))).2 (qbu (t.later 60) (t.dueL (t.now+60))).1).fs
   have h2:(qbu (t.later 60) (t.dueL (t.now+60))).2.fs=t.fs.filter fun x=>decide ((x.1:Int) ∉ t.dueL (t.now+60)):=F.fs
   exact h1.trans h2
  have hc:(t.tick 60).1.code=0:=by rw[e]
  have hnil:(t.tick 60).2.fs=[]:=by
   apply List.eq_nil_iff_forall_not_mem.2
   intro x hx
   have h1:=(hC.due x hx).1
   rw[hnow] at h1
   rw[hfs] at hx
   have h2:=hd x (List.mem_filter.1 hx).1
   omega
  have hms:(t.tick 60).2.ms=[]:=by
   apply List.eq_nil_iff_forall_not_mem.2
   intro m hm
   obtain⟨x,hx,_⟩:=hC.used m hm
   rw[hnil] at hx
   cases hx
  refine⟨hc,hnil,hms,fun i hi=>?_,fun i hi=>?_⟩
  ·by_cases h0:(t.tick 60).2.f i=0
   ·exact h0
   ·obtain⟨m,hm,_⟩:=hC.good.own i hi h0
    rw[hms] at hm
    cases hm
  ·by_cases h0:(t.tick 60).2.h i=0
   ·exact h0
   ·obtain⟨m,hm,_⟩:=hC.good.home i hi h0
    rw[hms] at hm
    cases hm
theorem qecb(t q k:Int)(l:List UInt8):(msgT t q k l).size<=20+l.length:=by
 unfold msgT
 split
 ·rw[qck,qlj];exact Nat.le_refl _
 ·show ByteArray.empty.size<=_
  simp
theorem qf0b(n:Nat){es:List Ev}(h:es.length<=48):(logT n es).size<=1100:=by
 unfold logT
 split
 ·simp
 ·rw[ByteArray.size_append]
  have h1:(if n=0 then msgT 0 0 2 (tplB 6) else ByteArray.empty).size<=48:=by
   split
   ·have:=qecb 0 0 2 (tplB 6)
    rw[qqi] at this
    exact this
   ·simp
  have h2:(mesT (n:Int) es).size<=20+21*48:=by
   unfold mesT
   split
   ·simp
   ·split
    ·simp
    ·split
     ·have:=qecb (tmE es) (n:Int) 300 (setB es)
      rw[qnn] at this
      omega
     ·simp
  omega
end Go.Proofs.YtnicenfgemkdnaaGreatDoor
namespace Go.Proofs.YtnicenfgemkdnaaGreatDoor
open _root_.Go.Proofs.Tryz
set_option maxHeartbeats 16000000
set_option maxRecDepth 100000
open Go.ChangeShapes Go.WideShapes Go.ChangeAt Go.RowKit Go.Maps
theorem qdnb{ops:Array Oper}{rest:List Oper}{o:Oper}{a:Act}{w:World}{Q:Exit->Act->World->Prop}(hgd:o.guard=none)(ho:o.op=.alloc 9)(hr:∀b w',w.heap.size<=b->Row 9 w' b #[.string ByteArray.empty]->Below w.heap.size w w'->wpList prog ops Q rest (a.put o.dst (.pointer (some ⟨b,0,none⟩))) w'):wpList prog ops Q (o::rest) a w:=
 wpList_plain hgd fun K hK=>by
  have h':=hr w.heap.size (w.alloc (.cells #[.string ByteArray.empty] 9)) (Nat.le_refl _) (Row.new _ w _) ((Below.refl _ _).alloc (Nat.le_refl _) _)
  have e:(Instr.alloc 9 true (.tuple #[])).run prog w=.ok (.pointer (some ⟨w.heap.size,0,none⟩)) (w.alloc (.cells #[.string ByteArray.empty] 9)):=by kernel_rfl
  unfold Oper.wp execOp
  simp only[ho,Sem.run_bind,e,Result.andThen_ok,Sem.run_pure]
  exact hK _ _ h'
theorem qgib(x y:ByteArray):(x++y).data.toList=x.data.toList++y.data.toList:=by simp
attribute [local irreducible] Rp.cells tc pc qd2
theorem qf4b(bl:Nat)(G:Nat->Prop)(hGi:G bl)(L:ByteArray)(a:Ac)(c:Int)(fr:ByteArray)(inn:Bool)(lg:ByteArray)(hz:L.size+lg.size<=1000000)(b:Nat)(W:World)(Rl:Row 9 W bl #[.string L]):Calls prog 39 #[.pointer (some ⟨b,0,none⟩),.agg (ac a),.agg (Rp.cells ⟨c,fr,inn,lg⟩),.pointer (some ⟨bl,0,none⟩)] W fun e w'=>e=.returned (.bool true)/\Gr G W w'/\Row 9 w' bl #[.string (L++lg)]:=by
 have hG:=Gr.refl G W
 have HGI:Hid (G bl):=hidN hGi
 clear hGi
 go_enter func39,ntmps39
 go_wp2_with (first|((with_reducible refine gB 27 1 ?_);refine bx 27 (.tmp 1) (ac a) ?_;intro b5 w9 l9 R5 h9;replace hG:=hG.trans (Gr.of_below (F:=fun _=>False) h9) (fun _ h=>h.elim);replace Rl:=Rl.below h9;clear h9 l9 R5)|((with_reducible refine gB 30 2 ?_);refine bx 30 (.tmp 2) (Rp.cells ⟨c,fr,inn,lg⟩) ?_;intro b6 w9 l9 R6 h9;replace hG:=hG.trans (Gr.of_below (F:=fun _=>False) h9) (fun _ h=>h.elim);replace Rl:=Rl.below h9;clear h9 l9)|((with_reducible refine gL 9 3 ?_);refine qcm Rl (.tmp 3) rfl kr 0 rfl L rfl ?_)|((with_reducible refine gL 9 9 ?_);refine qcm R6 (.tmp 9) rfl kr 3 rfl lg (qb2 _) ?_)|((with_reducible refine gS 9 3 11 ?_);refine qbh Rl rfl (.tmp 3) (.tmp 11) rfl 0 rfl (L++lg) rfl _ rfl _ rfl ?_;intro w9 R9 t9;replace hG:=hG.trans (qcq t9) (fun x hx=>.inl (by rw[hx];exact HGI.out));replace Rl:Row 9 w9 bl #[.string (L++lg)]:=R9;clear R9 t9))
 go_ret
 exact⟨rfl,hG,Rl⟩
def JQ(loose:Bool)(bl:Nat)(l:List Ac)(G:Nat->Prop)(W:World):Prop:=(∃L all,Row 9 W bl #[.string L]/\qdcb ((nt0 loose).runs l) L.data.toList all/\L.size<=1100*l.length)/\∀c,G c↔c=bl
theorem qesb{loose:Bool}{l:List Ac}(hl:l.length<300){L:ByteArray}{all:List Ev}(hT:qdcb ((nt0 loose).runs l) L.data.toList all)(a:Ac):∃es,qdcb (((nt0 loose).runs l).act a).2 (L++(((nt0 loose).runs l).act a).1.lg).data.toList (all++es)/\(((nt0 loose).runs l).act a).1.lg.size<=1100:=by
 have hinv:=qjr loose l om
 obtain⟨es,hE⟩:=qfxb hinv.ci a
 refine⟨es,?_,?_⟩
 ·rw[qgib];exact hT.more hE (by have:=hinv.logged;omega)
 ·rw[hE.lg];exact qf0b _ hE.few
theorem qe6b(loose:Bool)(bl:Nat):Look loose 39 #[.pointer (some ⟨bl,0,none⟩)] (JQ loose bl):=by
 refine⟨fun args w=>by kernel_rfl,?_,?_,?_⟩
 ·rintro l G H W W' ⟨⟨L,all,h1,h2⟩,hG⟩ hg hd
  exact⟨⟨L,all,(hg.block _ h1.lt (fun hh=>hd _ hh ((hG _).2 rfl))).trans h1,h2⟩,hG⟩
 ·rintro l G W ⟨⟨L,all,h1,h2⟩,hG⟩ c hc
  rw[(hG c).1 hc];exact h1.lt
 ·rintro l a W b F G hl ha hN hT hF0 hd ⟨⟨L,all,h1,h2,h3⟩,hG⟩
  obtain⟨es,h4,h5⟩:=qesb om h2 a
  have hrs:(nt0 loose).runs (l++[a])=(((nt0 loose).runs l).act a).2:=qih _ _ _
  generalize((nt0 loose).runs l).act a=r at *
  obtain⟨⟨c,fr,inn,lg⟩,s2⟩:=r
  simp only at h4 h5 hrs
  refine(qf4b bl G ((hG _).2 rfl) L a c fr inn lg om b W h1).mono ?_
  rintro e w' ⟨he,hg,hr⟩
  refine⟨he,G,⟨⟨L++lg,all++es,hr,by rw[hrs];exact h4,?_⟩,hG⟩,hg,fun c hc=>.inl hc⟩
  rw[ByteArray.size_append,List.length_append];simp only[List.length_singleton];omega
end Go.Proofs.YtnicenfgemkdnaaGreatDoor
namespace Go.Proofs.YtnicenfgemkdnaaGreatDoor
open _root_.Go.Proofs.Tryz
set_option maxHeartbeats 16000000
set_option maxRecDepth 100000
open Go.ChangeShapes Go.WideShapes Go.ChangeAt Go.RowKit Go.Maps
theorem qtq(k:Pkt)(h:good k=0):k.body.size<=64:=(qde k h).2.2.1
theorem qnk(k:Pkt)(h:good k=0):28<=(frame k).length/\(frame k).length<=400000:=by
 have h1:=qlm k (chkH k) (chkP k) (qde k h).1
 have h2:=qge _ (qde k h).1
 have h3:=qtq k h
 have h4:=qpl k h3
 have h5:((frame k).length:Int)=flen k:=h1
 refine⟨?_,by omega⟩
 unfold flen at h5;omega
theorem qhx(r:Rp):r.cells[2]?=some (.bool r.inn):=rfl
theorem q6w(k:Pkt)(a q:Int):turned k 0 a q={ k with ttl:=k.ttl-1,src:=a,sport:=q }:=if_pos rfl
theorem qgkb(s:ByteArray):txt s.data.toList=s:=by cases s;simp[txt]
theorem qeob{W:World}{b:Nat}{f:Nat->Int}{g:Nat->Bool}(R:Row 35 W b (pc f g)):W.rangeAt b 0 (ocl f):=R.range (fun j v hv=>by
 have hj:j<(ocl f).length:=(List.getElem?_eq_some_iff.1 hv).1
 have e:pc f g=(ocl f++[Value.bool (g 0),Value.bool (g 1),Value.bool (g 2)]).toArray:=rfl
 rw[e,Nat.zero_add,List.getElem?_toArray,List.getElem?_append_left hj];exact hv)
theorem qdqb(f:Nat->Int):(prog.info? 32).map (·.size)=some (ocl f).length:=by kernel_rfl
theorem qe8b(w:World):(zeroValue 35).run prog w=.ok (.agg (pc z0 g0')) w:=by kernel_rfl
theorem qg5b(f:Nat->Int)(g:Nat->Bool)(f':Nat->Int)(g':Nat->Bool):(pc f g).size=(pc f' g').size:=by unfold pc;rfl
end Go.Proofs.YtnicenfgemkdnaaGreatDoor
