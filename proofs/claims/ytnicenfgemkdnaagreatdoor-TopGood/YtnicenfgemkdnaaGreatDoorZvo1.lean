/-
  Of what a law stands on.
-/
import Derived.BigCall
import Derived.Test.YtnicenfgemkdnaaGreatDoorZvn9
set_option linter.unusedSimpArgs false
set_option linter.unusedVariables false
namespace Go.Proofs.YtnicenfgemkdnaaGreatDoor
open _root_.Go.Proofs.Tryz
set_option maxHeartbeats 16000000
set_option maxRecDepth 100000
open Go.ChangeShapes Go.WideShapes Go.ChangeAt Go.RowKit
theorem qmb{H:Type}{P:Program}{e:TypeId}:∀ {l:List (DataW H)} {d:DataW H},d∈l->∀n∈d.weights P e,n∈DataW.weightsAll P e l
 | [],_,h,_,_=>by cases h
 | x::r,d,h,n,hn=>by
  simp only[DataW.weightsAll,List.mem_append]
  rcases List.mem_cons.1 h with rfl|h
  ·exact .inl hn
  ·exact .inr (qmb h n hn)
theorem qr2{H:Type}{enc:TypeId×Value->H}{w:World}{base:Nat}{sp:Nat->Bool}{held:Bool}{fuel:Nat}{l:List Value}{x:DataW H×List MemPlace}(hl0:l.length=4)(hf0:DataW.trod enc prog w base sp held fuel 27 l=some x)(hw:∀y∈x.1.weights prog 27,y<=reachBytes):∃k:Ac,l=acl k/\k.ok:=by
 have hcI:prog.cellsOf 3=1:=by kernel_rfl
 have hcS:prog.cellsOf 9=1:=by kernel_rfl
 obtain⟨ys,m,_,hx,_,hl,hf⟩:=DataW.trod_struct underlying27 hf0
 match l,hl0 with
 | [c0,c1,c2,c3],_=>
 match ys,hl with
 | [y0,y1,y2,y3],_=>
 have hy0:=hf 0 _ rfl
 have hy1:=hf 1 _ rfl
 have hy2:=hf 2 _ rfl
 have hy3:=hf 3 _ rfl
 simp[hcI,hcS] at hy0 hy1 hy2 hy3
 obtain⟨n0,e0,rfl,s0⟩:=DataW.trod_int underlying3 hy0
 obtain⟨n1,e1,rfl,s1⟩:=DataW.trod_int underlying3 hy1
 obtain⟨n2,e2,rfl,s2⟩:=DataW.trod_int underlying3 hy2
 obtain⟨n3,e3,rfl,s3⟩:=DataW.trod_string underlying9 hy3
 simp at e0 e1 e2 e3
 subst e0 e1 e2 e3
 subst hx
 refine⟨⟨n0,n1,n2,n3⟩,rfl,s0,s1,s2,?_⟩
 have:=hw n3.data.toList.length (by simp[DataW.weights,DataW.weightsEach,underlying27])
 simpa[reachBytes] using this
def AcIn(w:World)(sl:Value)(es:List Ac):Prop:=AcAt w sl es/\∀k∈es,k.ok
theorem qik{H:Type}{enc:TypeId×Value->H}{w:World}{sp:Nat->Bool}{held:Bool}{fuel:Nat}{l:List Value}{x:DataW H×List MemPlace}(hf0:DataW.trod enc prog w 0 sp held fuel 22 l=some x)(hw:∀y∈x.1.weights prog 22,y<=reachBytes):∃sl,∃es:List Ac,l=[sl]/\AcIn w sl es:=by
 have c4:prog.cellsOf 27=4:=by kernel_rfl
 have hby:prog.bytesOf 27=40:=by kernel_rfl
 rcases Go.Deep.open_slice underlying22 hf0 with⟨rfl,rfl⟩|⟨a,len,cap,m,n,D,Pl,rfl,hb,hl,hm,hmm,rfl,hx⟩
 ·exact⟨_,[],rfl,⟨none,0,rfl,fun h=>absurd h zm,fun j hj=>absurd hj zm,by simp⟩,fun k hk=>absurd hk zm⟩
 ·have hlm:len<=m:=by rw[hmm];split<;>omega
  have hbd:len<=4398046511104:=by
   have h1:=hw _ (by simp only[DataW.weights,underlying22];exact List.mem_cons_self)
   rw[hby] at h1
   simp[reachBytes] at h1
   omega
  have hwi:∀i,i<len->∀y∈(D i).weights prog 27,y<=reachBytes:=by
   intro i hi y hy
   refine hw y ?_
   simp only[DataW.weights,underlying22]
   exact List.mem_cons_of_mem _ (List.mem_append.2 (.inl (qmb (List.mem_map.2 ⟨i,List.mem_range.2 hi,rfl⟩) y hy)))
  have each:∀i,i<len->∃q:Ac,q.ok/\∀k v,(acl q)[k]?=some v->w.cell? (a.add (4*i+k))=some v:=by
   intro i hi
   obtain⟨cs',h1,h2⟩:=hx i om
   rw[c4] at h1
   obtain⟨_,hlen,hcell⟩:=World.cells?_some h1
   obtain⟨q,rfl,hq⟩:=qr2 hlen h2 (hwi i hi)
   refine⟨q,hq,fun k v hv=>?_⟩
   have hk:k<4:=by have:=(List.getElem?_eq_some_iff.1 hv).1;simpa[acl] using this
   have:=hcell k hk
   rw[Go.Deep.add_add,Nat.mul_comm i 4] at this
   first|exact this.trans hv|(rw[this];simpa using hv)
  haveI:Inhabited Ac:=⟨⟨0,0,0,ByteArray.empty⟩⟩
  obtain⟨q,hq⟩:=Go.Deep.choose_lt each
  have hsp:0<len->a=⟨a.block,a.off,none⟩:=by
   intro h0
   have:=(hq 0 h0).2 0 _ rfl
   obtain⟨b,off,spot⟩:=a
   have hspot:spot=none:=by simpa[Addr.add] using World.cell?_spot this
   subst hspot
   rfl
  refine⟨_,(List.range len).map q,rfl,⟨some a,cap,by simp,fun h0=>?_,fun j hj k v hv=>?_,by simpa using hbd⟩,fun k hk=>?_⟩
  ·rw[hsp (by simpa using h0)];rfl
  ·have hj':j<len:=by simpa using hj
   have e1:((List.range len).map q)[j]=q j:=by simp
   rw[e1] at hv
   have:=(hq j hj').2 k v hv
   rw[hsp om,Addr.add_lit] at this
   show w.cell? ⟨a.block,a.off+4*j+k,none⟩=some v
   rw[Nat.add_assoc]
   exact this
  ·obtain⟨i,hi,rfl⟩:=List.mem_map.1 hk
   exact(hq i (List.mem_range.1 hi)).1
end Go.Proofs.YtnicenfgemkdnaaGreatDoor
namespace Go.Proofs.YtnicenfgemkdnaaGreatDoor
open _root_.Go.Proofs.Tryz
set_option maxHeartbeats 16000000
set_option maxRecDepth 100000
open Go.ChangeShapes Go.WideShapes Go.ChangeAt Go.RowKit Go.Maps
theorem q55{o:Oper}{a:Act}{w:World}{K:Act->World->Prop}{Q:Exit->Act->World->Prop}(f:Operand)(xs:Array Operand)(ats:Array TypeId)(ho:o.op=.call { callee:=.value f,args:=xs,argTypes:=ats })(lf:FuncId)(caps args:Array Value)(hf:a.eval f=.func (.func lf) #[] caps)(hxs:xs.map a.eval=args)(hen:∀(args:Array Value) (w:World),(callFunc lf args).run prog w=.ok (.enter lf args) w)(hC:Calls prog lf (args++caps) w fun e w'=>∃v,e=.returned v/\K (a.put o.dst v) w'):o.wp prog a w K Q:=by
 unfold Oper.wp execOp
 simp only[ho,resolve,hf,Deferred.ofValue,Sem.run_bind,Sem.run_pure,Result.andThen_ok,invoke,hxs,Array.empty_append]
 rw[hen,Oper.upon_enter]
 refine hC.mono ?_
 rintro e w' ⟨v,rfl,h⟩
 exact h
structure Look(loose:Bool)(lf:FuncId)(caps:Array Value)(J:List Ac->(Nat->Prop)->World->Prop):Prop where
 enters:∀(args:Array Value) (w:World),(callFunc lf args).run prog w=.ok (.enter lf args) w
 keep:∀ {l:List Ac} {G H:Nat->Prop} {W W':World},J l G W->Gr H W W'->(∀c,H c->¬G c)->J l G W'
 bd:∀ {l:List Ac} {G:Nat->Prop} {W:World},J l G W->∀c,G c->c<W.heap.size
 call:∀ {l:List Ac} {a:Ac} {W:World} {b:Nat} {F G:Nat->Prop},l.length<100->a.ok->qaw W b (((nt0 loose).runs l).act a).2 (duF (((nt0 loose).runs l).act a).2.fs) F->Tab W->¬F 0->(∀c,F c->¬G c)->J l G W->
  Calls prog lf (#[.pointer (some ⟨b,0,none⟩),.agg (ac a),.agg (((nt0 loose).runs l).act a).1.cells]++caps) W fun e w'=>e=.returned (.bool true)/\∃G',J (l++[a]) G' w'/\Gr G W w'/\∀c,G' c->G c\/W.heap.size<=c
structure Pl(loose:Bool)(J:List Ac->(Nat->Prop)->World->Prop)(G0:Nat->Prop)(w W:World)(b:Nat)(l:List Ac)(F G:Nat->Prop):Prop where
 nat:qaw W b ((nt0 loose).runs l) (duF ((nt0 loose).runs l).fs) F
 bd:∀c,F c->c<W.heap.size
 new:∀c,F c->w.heap.size<=c
 j:J l G W
 gs:∀c,G c->G0 c\/w.heap.size<=c
 dis:∀c,F c->¬G c
 gr:Gr G0 w W
section
variable {loose:Bool} {lf:FuncId} {caps:Array Value} {J:List Ac->(Nat->Prop)->World->Prop} {G0 F G F' G':Nat->Prop} {w W W' W2:World} {b:Nat} {l:List Ac} {a:Ac} {L:List (Nat×Obj)}
theorem Pl.start(K:Look loose lf caps J)(hJ:J [] G0 w)(hN:qaw W b (nt0 loose) (duF (nt0 loose).fs) (fun c=>c=b))(hb:w.heap.size<=b)(hB:Below w.heap.size w W):Pl loose J G0 w W b [] (fun c=>c=b/\c<W.heap.size) G0:=by
 refine⟨hN.bound,fun c hc=>hc.2,fun c hc=>by rw[hc.1];exact hb,K.keep (H:=fun _=>False) hJ (Gr.of_below hB) (fun _ h=>h.elim),fun c hc=>.inl hc,fun c hc hg=>?_,Gr.of_below hB⟩
 have:=K.bd hJ c hg
 have e:=hc.1
 omega
theorem Pl.other(h:Pl loose J G0 w W b l F G)(K:Look loose lf caps J){s:Nt}{tm:Int->Option Int}(N:Nb W W' b s tm F F' L):∀c,F' c->¬G c:=fun c hc hg=>by
 rcases N.sub c hc with h1|h1
 ·exact h.dis c h1 hg
 ·have:=K.bd h.j c hg;omega
theorem Pl.look(h:Pl loose J G0 w W b l F G)(K:Look loose lf caps J){s:Nt}{tm:Int->Option Int}(N:Nb W W' b s tm F F' L):J l G W':=K.keep h.j N.gr h.dis
theorem Pl.step(h:Pl loose J G0 w W b l F G)(K:Look loose lf caps J)(N:Nb W W' b (((nt0 loose).runs l).act a).2 (duF (((nt0 loose).runs l).act a).2.fs) F F' L)(hJ:J (l++[a]) G' W2)(hg:Gr G W' W2)(hG:∀c,G' c->G c\/W'.heap.size<=c):Pl loose J G0 w W2 b (l++[a]) F' G':=by
 have ho:=h.other K N
 refine⟨?_,fun c hc=>Nat.lt_of_lt_of_le (N.bd c hc) hg.size,fun c hc=>?_,hJ,fun c hc=>?_,fun c hc hg'=>?_,?_⟩
 ·rw[qih];exact N.nat.keep hg ho
 ·rcases N.sub c hc with h1|h1
  ·exact h.new c h1
  ·exact Nat.le_trans h.gr.size h1
 ·rcases hG c hc with h1|h1
  ·exact h.gs c h1
  ·exact .inr (Nat.le_trans (Nat.le_trans h.gr.size N.gr.size) h1)
 ·rcases hG c hg' with h1|h1
  ·exact ho c hc h1
  ·have:=N.bd c hc;omega
 ·exact(h.gr.trans N.gr (fun x hx=>.inr (h.new x hx))).trans hg h.gs
theorem Pl.drew(h:Pl loose J G0 w W b l F G)(K:Look loose lf caps J):Pl loose J G0 w W.drew b l F G:=
 ⟨h.nat.below (Below.refl _ _).drew,h.bd,h.new,K.keep (H:=fun _=>False) h.j (Gr.of_below (Below.refl _ _).drew) (fun _ h=>h.elim),h.gs,h.dis,h.gr.drew⟩
end
theorem Nb.rowGr{W W5 W8:World}{b:Nat}{s:Nt}{tm:Int->Option Int}{F F' G:Nat->Prop}{L:List (Nat×Obj)}{c:Nat}{t:TypeId}{cs:Array Value}(N:Nb W W5 b s tm F F' L)(i:Nat)(hi:L[i]?=some (c,ob t cs))(hg:Gr G W5 W8)(hG:∀c,G c->c<W.heap.size):Row t W8 c cs:=by
 have hm:=List.mem_of_getElem? hi
 have h:=N.rows _ hm
 have hl:=N.lt (List.mem_map.2 ⟨_,hm,rfl⟩)
 exact(hg.block _ hl (fun hc=>by have:=hG _ hc;have:=h.2.1;omega)).trans h.1
theorem qjr(loose:Bool)(l:List Ac)(hl:l.length<=300):NInv ((nt0 loose).runs l) l.length:=by
 have:=(NInv.new loose).runs l om
 rwa [Nat.zero_add] at this
theorem qus{l:List Ac}{j:Nat}(h:j<=min l.length 100)(hn:¬j<l.length\/¬j<100):l.take j=l.take 100:=by
 rcases hn with h1|h1
 ·rw[List.take_of_length_le om,List.take_of_length_le om]
 ·rw[show j=100 by omega]
attribute [local irreducible] Rp.cells tc pc qd2 eb eo
theorem sZvo11{p:Prop}(h:p:=by
 rw[e] at P
 clear e
 go_wp2_with fail
 go_ret2
 exact⟨b,rfl,_,_,P⟩):p:=h
theorem qjp{loose:Bool}{lf:FuncId}{caps:Array Value}{J:List Ac->(Nat->Prop)->World->Prop}{G0:Nat->Prop}(LK:Look loose lf caps J)(sl:Value)(es:List Ac)(w:World)(hA:AcAt w sl es)(hok:∀k∈es,k.ok)(hT:Tab w)(h0:¬G0 0)(hJ:J [] G0 w)(hAG:0<es.length->¬G0 (eb sl)):
  Calls prog 17 #[.bool loose,sl,.func (.func lf) #[] caps] w fun e w'=>∃b,e=.returned (.tuple #[.pointer (some ⟨b,0,none⟩),.bool true])/\∃F G,Pl loose J G0 w w' b (es.take 100) F G:=by
 obtain⟨a0,cap,hsl⟩:=hA.slice
 obtain⟨n,hn⟩:∃n,n=es.length:=⟨_,rfl⟩
 rw[←hn] at hsl
 subst hsl
 have HN:Hid (n=es.length):=hn
 obtain⟨M,hM⟩:∃M,M=min n 100:=⟨_,rfl⟩
 have HMM:Hid (M=min n 100):=hM
 have CA:=q1b w hT
 have CN:=fun w=>qu0 loose w
 clear hn hM
 go_enter func17,ntmps17
 go_wp2_with (first|(go_at_call 47;go_fit CA;rintro e w1 ⟨rfl,hb1⟩;clear CA;have HB1:Hid (Below w.heap.size w w1):=hb1;clear hb1)|(go_at_call 49;go_fit (CN _);rintro e w2 ⟨b,rfl,hlb,hN1,hb2⟩;clear CN;have P:=Pl.start LK hJ hN1 (Nat.le_trans HB1.out.size hlb) (HB1.out.trans (hb2.mono HB1.out.size));clear hlb hN1 hb2))
 go_loopw [9] (fun i W=>∃(j:Nat) (F G:Nat->Prop),j<=M/\i=.int .i64 (j:Int)/\Pl loose J G0 w W b (es.take j) F G) (fun i _=>M-(intOf i).toNat)
 case atStart=>exact⟨0,_,_,Nat.zero_le _,rfl,P⟩
 case round=>
  clear P
  obtain⟨j,F,G,hj,rfl,P⟩:=hrel
  by_cases h1:j<n
  ·have hj1:(j:Int)<(n:Int):=by omega
   by_cases h2:j<100
   ·have hj2:(j:Int)<100:=by omega
    have hlt:j<M:=by have:=HMM.out;omega
    have hjl:j<es.length:=by have:=HN.out;omega
    have HM:=qha hlt
    have hjw:=qhl (p:=j) om
    obtain⟨x,hx⟩:∃x,es[j]=x:=⟨_,rfl⟩
    have hxo:x.ok:=hok x (hx▸List.getElem_mem hjl)
    have HL9:Hid (es.take j++[x]=es.take (j+1)):=hidN (by rw[List.take_succ_eq_append_getElem hjl,hx])
    have hlen:(es.take j).length=j:=List.length_take_of_le om
    have hinv:=qjr loose (es.take j) om
    generalize es.take j=l at *
    have rx:=(hA.keepGr P.gr hAG).at j hjl hx
    have hix:=fun w2=>hA.index j hjl w2
    have hF0:¬F 0:=fun hh=>by have:=P.new 0 hh;have:=hT.lt;omega
    have TW:=hT.gr P.gr h0
    have N:=P.nat.start
    have CD:=qos N.nat TW (fun hh=>hF0 hh.1) (hinv.ok om) x hxo
    have hAW:=hA.keepGr P.gr hAG
    have hAF:0<es.length->¬F (eb (.slice a0 n cap)):=fun hh hf=>by have:=P.new _ hf;have:=hA.lt hh;omega
    have CL:=fun W' F' L (N:Nb _ W' b (((nt0 loose).runs l).act x).2 (duF (((nt0 loose).runs l).act x).2.fs) F F' L)=>LK.call (l:=l) (a:=x) om hxo N.nat (TW.gr N.gr hF0) (fun hh=>by rcases N.sub 0 hh with h3|h3;exact hF0 h3;have:=TW.lt;omega) (P.other LK N) (P.look LK N)
    go_upto_region 8 with(first|((with_reducible refine gL 27 28 ?_);refine wpList_load_mid rfl 27 (.tmp 28) rfl _ _ rfl (acl x) _ rx underlying27 rfl (qv8 _) ?_;rw[q9l])|(go_at_call 35;refine CD.mono ?_;rintro e w5 ⟨rfl,F9,hN9,hg9,hf9⟩;clear CD rx;replace N:=N.call hN9 hg9 hf9;clear hN9 hg9 hf9)|((with_reducible refine gA 30 ?_);refine qaf 10 30 rfl rfl rfl _ qan ?_;intro b10 w9 l9 R9 h9;replace N:=N.alloc (o:=ob 30 ((qas 0).cells)) l9 R9 h9;clear R9 h9 l9)|((with_reducible refine gS 30 10 30 ?_);refine qab 30 rfl (.tmp 10) _ rfl b10 rfl ((((nt0 loose).runs l).act x).1.cells) rfl _ (N.row 0 rfl) (qar _ _) (qad _) (qah _) ?_;intro w9 R9 t9;replace N:=N.turn 0 rfl R9 t9;clear R9 t9))
    have kS:World.rangeAt _ (eb (.slice a0 n cap)) (eo (.slice a0 n cap)+4*j) (acl x)/\Row 30 _ b10 (((nt0 loose).runs l).act x).1.cells:=⟨(hAW.keepGr N.gr hAF).at j hjl hx,N.row 0 rfl⟩
    refine RD (fun W=>W.rangeAt (eb (.slice a0 n cap)) (eo (.slice a0 n cap)+4*j) (acl x)/\Row 30 W b10 (((nt0 loose).runs l).act x).1.cells) kS (fun _=>?_)
    refine tq 0 (.func (.func lf) #[] caps) rfl kS ?_
    simp only[ZZ]
    refine tq 1 (.pointer (some ⟨b,0,none⟩)) rfl kS ?_
    simp only[ZZ]
    refine tq 2 (.slice a0 n cap) rfl kS ?_
    simp only[ZZ]
    refine tq 3 (.int .i64 (j:Int)) rfl kS ?_
    simp only[ZZ]
    refine tk 4 (.pointer (some ⟨eb (.slice a0 n cap),eo (.slice a0 n cap)+4*j,none⟩)) rfl (qgk 22 (.tmp 33) (.tmp 34) rfl kr _ _ _ kr kr hix) kS ?_
    simp only[ZZ]
    refine tk 5 (.agg (acl x).toArray) rfl (qgw 27 (.tmp 35) rfl kr _ _ kr (acl x) (fun _ h=>h.1) _ underlying27 rfl (qv8 x)) kS ?_
    simp only[ZZ]
    refine tk 6 (.agg (((nt0 loose).runs l).act x).1.cells) rfl (qav 30 (.tmp 10) rfl kr b10 kr (((nt0 loose).runs l).act x).1.cells (fun _ h=>h.2) _ underlying30 rfl (qad _)) kS ?_
    simp only[ZZ]
    refine AR [7] ?_
    refine AllReadyH.cons rfl (fun K hK=>?_) ?_
    ·rw[if_pos kr]
     refine q55 (.tmp 31) _ _ rfl lf caps #[.pointer (some ⟨b,0,none⟩),.agg (ac x),.agg (((nt0 loose).runs l).act x).1.cells] kr (by simp only[List.map_toArray,List.map_cons,List.map_nil];kernel_rfl) LK.enters ?_;(first|refine(CL _ _ _ N).mono ?_|(replace N:=N.drew;refine(CL _ _ _ N).mono ?_));rintro e w8 ⟨rfl,G8,hJ8,hg8,hG8⟩;have P8:=P.step LK N hJ8 hg8 hG8;clear kS;have kS:World.rangeAt w8 (eb (.slice a0 n cap)) (eo (.slice a0 n cap)+4*j) (acl x)/\Row 30 w8 b10 (((nt0 loose).runs l).act x).1.cells:=⟨(hA.keepGr P8.gr hAG).at j hjl hx,N.rowGr 0 rfl hg8 (LK.bd P.j)⟩;clear hJ8 hg8 hG8;refine⟨_,rfl,?_⟩
     refine hK.out _ _ kS (fun _=>?_)
     clear hK K
     try simp only[ZZ]
     refine tq 8 (.bool false) rfl kS ?_
     simp only[ZZ]
     refine AN ?_
     have P9:=HL9.out▸P8
     clear P8 P N kS
     go_wp2_with fail
     go_roundw
     case rel=>
      first
       | exact⟨j+1,_,_,by omega,by go_num,P9⟩
       | ((repeat apply Exists.intro);exact⟨⟨j+1,_,_,by omega,by go_num,P9⟩,rfl⟩)
     case measure=>first|exact HM.out|(rw[hjw];exact HM.out)
    exact AZ
   ·have hj2:¬(j:Int)<100:=by omega
    have e:=qus (l:=es) (j:=j) (by have:=HMM.out;have:=HN.out;omega) (.inr h2)
    exact sZvo11
  ·have hj1:¬(j:Int)<(n:Int):=by omega
   have e:=qus (l:=es) (j:=j) (by have:=HMM.out;have:=HN.out;omega) (.inl (by have:=HN.out;omega))
   exact sZvo11
end Go.Proofs.YtnicenfgemkdnaaGreatDoor
