/-
  Of what a law stands on.
-/
import Derived.BigCall
import Derived.Test.YtnicenfgemkdnaaGreatDoorZtn10
set_option linter.unusedSimpArgs false
set_option linter.unusedVariables false
namespace Go.Proofs.YtnicenfgemkdnaaGreatDoor
open _root_.Go.Proofs.Tryz
set_option maxHeartbeats 16000000
set_option maxRecDepth 100000
open Go.ChangeShapes Go.WideShapes Go.ChangeAt Go.RowKit
theorem qmb {H:Type} {P:Program} {e:TypeId}:∀ {l:List (DataW H)} {d:DataW H},d∈l→∀ n∈d.weights P e,n∈DataW.weightsAll P e l
 | [],_,h,_,_=>by cases h
 | x :: r,d,h,n,hn=>by
  simp only [DataW.weightsAll,List.mem_append]
  rcases List.mem_cons.1 h with rfl|h
  ·exact .inl hn
  ·exact .inr (qmb h n hn)
theorem qr2 {H:Type} {enc:TypeId×Value→H} {w:World} {base:Nat} {sp:Nat→Bool} {held:Bool} {fuel:Nat} {l:List Value} {x:DataW H×List MemPlace} (hl0:l.length=4) (hf0:DataW.trod enc prog w base sp held fuel 27 l=some x) (hw:∀ y∈x.1.weights prog 27,y≤reachBytes):∃ k:Ac,l=acl k∧k.ok:=by
 have hcI:prog.cellsOf 3=1:=by kernel_rfl
 have hcS:prog.cellsOf 9=1:=by kernel_rfl
 obtain ⟨ys,m,_,hx,_,hl,hf⟩:=DataW.trod_struct underlying27 hf0
 match l,hl0 with
 | [c0,c1,c2,c3],_=>
 match ys,hl with
 | [y0,y1,y2,y3],_=>
 have hy0:=hf 0 _ rfl
 have hy1:=hf 1 _ rfl
 have hy2:=hf 2 _ rfl
 have hy3:=hf 3 _ rfl
 simp [hcI,hcS] at hy0 hy1 hy2 hy3
 obtain ⟨n0,e0,rfl,s0⟩:=DataW.trod_int underlying3 hy0
 obtain ⟨n1,e1,rfl,s1⟩:=DataW.trod_int underlying3 hy1
 obtain ⟨n2,e2,rfl,s2⟩:=DataW.trod_int underlying3 hy2
 obtain ⟨n3,e3,rfl,s3⟩:=DataW.trod_string underlying9 hy3
 simp at e0 e1 e2 e3
 subst e0 e1 e2 e3
 subst hx
 refine ⟨⟨n0,n1,n2,n3⟩,rfl,s0,s1,s2,?_⟩
 have:=hw n3.data.toList.length (by simp [DataW.weights,DataW.weightsEach,underlying27])
 simpa [reachBytes] using this
def AcIn (w:World) (sl:Value) (es:List Ac):Prop:=AcAt w sl es∧∀ k∈es,k.ok
theorem qik {H:Type} {enc:TypeId×Value→H} {w:World} {sp:Nat→Bool} {held:Bool} {fuel:Nat} {l:List Value} {x:DataW H×List MemPlace} (hf0:DataW.trod enc prog w 0 sp held fuel 22 l=some x) (hw:∀ y∈x.1.weights prog 22,y≤reachBytes):∃ sl,∃ es:List Ac,l=[sl]∧AcIn w sl es:=by
 have c4:prog.cellsOf 27=4:=by kernel_rfl
 have hby:prog.bytesOf 27=40:=by kernel_rfl
 rcases Go.Deep.open_slice underlying22 hf0 with ⟨rfl,rfl⟩|⟨a,len,cap,m,n,D,Pl,rfl,hb,hl,hm,hmm,rfl,hx⟩
 ·exact ⟨_,[],rfl,⟨none,0,rfl,fun h=>absurd h zm,fun j hj=>absurd hj zm,by simp⟩,fun k hk=>absurd hk zm⟩
 ·have hlm:len≤m:=by rw [hmm];split <;> omega
  have hbd:len≤4398046511104:=by
   have h1:=hw _ (by simp only [DataW.weights,underlying22];exact List.mem_cons_self)
   rw [hby] at h1
   simp [reachBytes] at h1
   omega
  have hwi:∀ i,i<len→∀ y∈(D i).weights prog 27,y≤reachBytes:=by
   intro i hi y hy
   refine hw y ?_
   simp only [DataW.weights,underlying22]
   exact List.mem_cons_of_mem _ (List.mem_append.2 (.inl (qmb (List.mem_map.2 ⟨i,List.mem_range.2 hi,rfl⟩) y hy)))
  have each:∀ i,i<len→∃ q:Ac,q.ok∧∀ k v,(acl q)[k]?=some v→w.cell? (a.add (4 * i+k))=some v:=by
   intro i hi
   obtain ⟨cs',h1,h2⟩:=hx i om
   rw [c4] at h1
   obtain ⟨_,hlen,hcell⟩:=World.cells?_some h1
   obtain ⟨q,rfl,hq⟩:=qr2 hlen h2 (hwi i hi)
   refine ⟨q,hq,fun k v hv=>?_⟩
   have hk:k<4:=by have:=(List.getElem?_eq_some_iff.1 hv).1;simpa [acl] using this
   have:=hcell k hk
   rw [Go.Deep.add_add,Nat.mul_comm i 4] at this
   first|exact this.trans hv|(rw [this];simpa using hv)
  haveI:Inhabited Ac:=⟨⟨0,0,0,ByteArray.empty⟩⟩
  obtain ⟨q,hq⟩:=Go.Deep.choose_lt each
  have hsp:0<len→a=⟨a.block,a.off,none⟩:=by
   intro h0
   have:=(hq 0 h0).2 0 _ rfl
   obtain ⟨b,off,spot⟩:=a
   have hspot:spot=none:=by simpa [Addr.add] using World.cell?_spot this
   subst hspot
   rfl
  refine ⟨_,(List.range len).map q,rfl,⟨some a,cap,by simp,fun h0=>?_,fun j hj k v hv=>?_,by simpa using hbd⟩,fun k hk=>?_⟩
  ·rw [hsp (by simpa using h0)];rfl
  ·have hj':j<len:=by simpa using hj
   have e1:((List.range len).map q)[j]=q j:=by simp
   rw [e1] at hv
   have:=(hq j hj').2 k v hv
   rw [hsp om,Addr.add_lit] at this
   show w.cell? ⟨a.block,a.off+4 * j+k,none⟩=some v
   rw [Nat.add_assoc]
   exact this
  ·obtain ⟨i,hi,rfl⟩:=List.mem_map.1 hk
   exact (hq i (List.mem_range.1 hi)).1
end Go.Proofs.YtnicenfgemkdnaaGreatDoor
namespace Go.Proofs.YtnicenfgemkdnaaGreatDoor
open _root_.Go.Proofs.Tryz
set_option maxHeartbeats 16000000
set_option maxRecDepth 100000
open Go.ChangeShapes Go.WideShapes Go.ChangeAt Go.RowKit Go.Maps
theorem q55 {o:Oper} {a:Act} {w:World} {K:Act→World→Prop} {Q:Exit→Act→World→Prop} (f:Operand) (xs:Array Operand) (ats:Array TypeId) (ho:o.op=.call { callee:=.value f,args:=xs,argTypes:=ats }) (lf:FuncId) (caps args:Array Value) (hf:a.eval f=.func (.func lf) #[] caps) (hxs:xs.map a.eval=args) (hen:∀ (args:Array Value) (w:World),(callFunc lf args).run prog w=.ok (.enter lf args) w)
  (hC:Calls prog lf (args++caps) w fun e w'=>∃ v,e=.returned v∧K (a.put o.dst v) w'):o.wp prog a w K Q:=by
 unfold Oper.wp execOp
 simp only [ho,resolve,hf,Deferred.ofValue,Sem.run_bind,Sem.run_pure,Result.andThen_ok,invoke,hxs,Array.empty_append]
 rw [hen,Oper.upon_enter]
 refine hC.mono ?_
 rintro e w' ⟨v,rfl,h⟩
 exact h
structure Look (loose:Bool) (lf:FuncId) (caps:Array Value) (J:List Ac→(Nat→Prop)→World→Prop):Prop where
 enters:∀ (args:Array Value) (w:World),(callFunc lf args).run prog w=.ok (.enter lf args) w
 keep:∀ {l:List Ac} {G H:Nat→Prop} {W W':World},J l G W→Gr H W W'→(∀ c,H c→¬ G c)→J l G W'
 bd:∀ {l:List Ac} {G:Nat→Prop} {W:World},J l G W→∀ c,G c→c<W.heap.size
 call:∀ {l:List Ac} {a:Ac} {W:World} {b:Nat} {F G:Nat→Prop},l.length<100→a.ok→qaw W b (((nt0 loose).runs l).act a).2 (duF (((nt0 loose).runs l).act a).2.fs) F→Tab W→¬ F 0→(∀ c,F c→¬ G c)→J l G W→
  Calls prog lf (#[.pointer (some ⟨b,0,none⟩),.agg (ac a),.agg (((nt0 loose).runs l).act a).1.cells]++caps) W fun e w'=>e=.returned (.bool true)∧∃ G',J (l++[a]) G' w'∧Gr G W w'∧∀ c,G' c→G c∨W.heap.size≤c
structure Pl (loose:Bool) (J:List Ac→(Nat→Prop)→World→Prop) (G0:Nat→Prop) (w W:World) (b:Nat) (l:List Ac) (F G:Nat→Prop):Prop where
 nat:qaw W b ((nt0 loose).runs l) (duF ((nt0 loose).runs l).fs) F
 bd:∀ c,F c→c<W.heap.size
 new:∀ c,F c→w.heap.size≤c
 j:J l G W
 gs:∀ c,G c→G0 c∨w.heap.size≤c
 dis:∀ c,F c→¬ G c
 gr:Gr G0 w W
section
variable {loose:Bool} {lf:FuncId} {caps:Array Value} {J:List Ac→(Nat→Prop)→World→Prop} {G0 F G F' G':Nat→Prop} {w W W' W2:World} {b:Nat} {l:List Ac} {a:Ac} {L:List (Nat×Obj)}
theorem Pl.start (K:Look loose lf caps J) (hJ:J [] G0 w) (hN:qaw W b (nt0 loose) (duF (nt0 loose).fs) (fun c=>c=b)) (hb:w.heap.size≤b) (hB:Below w.heap.size w W):Pl loose J G0 w W b [] (fun c=>c=b∧c<W.heap.size) G0:=by
 refine ⟨hN.bound,fun c hc=>hc.2,fun c hc=>by rw [hc.1];exact hb,K.keep (H:=fun _=>False) hJ (Gr.of_below hB) (fun _ h=>h.elim),fun c hc=>.inl hc,fun c hc hg=>?_,Gr.of_below hB⟩
 have:=K.bd hJ c hg
 have e:=hc.1
 omega
theorem Pl.other (h:Pl loose J G0 w W b l F G) (K:Look loose lf caps J) {s:Nt} {tm:Int→Option Int} (N:Nb W W' b s tm F F' L):∀ c,F' c→¬ G c:=fun c hc hg=>by
 rcases N.sub c hc with h1|h1
 ·exact h.dis c h1 hg
 ·have:=K.bd h.j c hg;omega
theorem Pl.look (h:Pl loose J G0 w W b l F G) (K:Look loose lf caps J) {s:Nt} {tm:Int→Option Int} (N:Nb W W' b s tm F F' L):J l G W':=K.keep h.j N.gr h.dis
theorem Pl.step (h:Pl loose J G0 w W b l F G) (K:Look loose lf caps J) (N:Nb W W' b (((nt0 loose).runs l).act a).2 (duF (((nt0 loose).runs l).act a).2.fs) F F' L) (hJ:J (l++[a]) G' W2) (hg:Gr G W' W2) (hG:∀ c,G' c→G c∨W'.heap.size≤c):Pl loose J G0 w W2 b (l++[a]) F' G':=by
 have ho:=h.other K N
 refine ⟨?_,fun c hc=>Nat.lt_of_lt_of_le (N.bd c hc) hg.size,fun c hc=>?_,hJ,fun c hc=>?_,fun c hc hg'=>?_,?_⟩
 ·rw [qih];exact N.nat.keep hg ho
 ·rcases N.sub c hc with h1|h1
  ·exact h.new c h1
  ·exact Nat.le_trans h.gr.size h1
 ·rcases hG c hc with h1|h1
  ·exact h.gs c h1
  ·exact .inr (Nat.le_trans (Nat.le_trans h.gr.size N.gr.size) h1)
 ·rcases hG c hg' with h1|h1
  ·exact ho c hc h1
  ·have:=N.bd c hc;omega
 ·exact (h.gr.trans N.gr (fun x hx=>.inr (h.new x hx))).trans hg h.gs
theorem Pl.drew (h:Pl loose J G0 w W b l F G) (K:Look loose lf caps J):Pl loose J G0 w W.drew b l F G:=
 ⟨h.nat.below (Below.refl _ _).drew,h.bd,h.new,K.keep (H:=fun _=>False) h.j (Gr.of_below (Below.refl _ _).drew) (fun _ h=>h.elim),h.gs,h.dis,h.gr.drew⟩
end
theorem Nb.rowGr {W W5 W8:World} {b:Nat} {s:Nt} {tm:Int→Option Int} {F F' G:Nat→Prop} {L:List (Nat×Obj)} {c:Nat} {t:TypeId} {cs:Array Value} (N:Nb W W5 b s tm F F' L) (i:Nat) (hi:L[i]?=some (c,ob t cs)) (hg:Gr G W5 W8) (hG:∀ c,G c→c<W.heap.size):Row t W8 c cs:=by
 have hm:=List.mem_of_getElem? hi
 have h:=N.rows _ hm
 have hl:=N.lt (List.mem_map.2 ⟨_,hm,rfl⟩)
 exact (hg.block _ hl (fun hc=>by have:=hG _ hc;have:=h.2.1;omega)).trans h.1
theorem qjr (loose:Bool) (l:List Ac) (hl:l.length≤300):NInv ((nt0 loose).runs l) l.length:=by
 have:=(NInv.new loose).runs l om
 rwa [Nat.zero_add] at this
theorem qus {l:List Ac} {j:Nat} (h:j≤min l.length 100) (hn:¬ j<l.length∨¬ j<100):l.take j=l.take 100:=by
 rcases hn with h1|h1
 ·rw [List.take_of_length_le om,List.take_of_length_le om]
 ·rw [show j=100 by omega]
attribute [local irreducible] Rp.cells tc pc qd2 eb eo
theorem sZto11 {p:Prop} (h:p:=by
 rw [e] at P
 clear e
 go_wp2_with fail
 go_ret2
 exact ⟨b,rfl,_,_,P⟩):p:=h
theorem qjp {loose:Bool} {lf:FuncId} {caps:Array Value} {J:List Ac→(Nat→Prop)→World→Prop} {G0:Nat→Prop} (LK:Look loose lf caps J) (sl:Value) (es:List Ac) (w:World) (hA:AcAt w sl es) (hok:∀ k∈es,k.ok) (hT:Tab w) (h0:¬ G0 0) (hJ:J [] G0 w) (hAG:0<es.length→¬ G0 (eb sl)) :
  Calls prog 17 #[.bool loose,sl,.func (.func lf) #[] caps] w fun e w'=>∃ b,e=.returned (.tuple #[.pointer (some ⟨b,0,none⟩),.bool true])∧∃ F G,Pl loose J G0 w w' b (es.take 100) F G:=by
 obtain ⟨a0,cap,hsl⟩:=hA.slice
 obtain ⟨n,hn⟩:∃ n,n=es.length:=⟨_,rfl⟩
 rw [← hn] at hsl
 subst hsl
 have HN:Hid (n=es.length):=hn
 obtain ⟨M,hM⟩:∃ M,M=min n 100:=⟨_,rfl⟩
 have HMM:Hid (M=min n 100):=hM
 have CA:=q1b w hT
 have CN:=fun w=>qu0 loose w
 clear hn hM
 go_enter func17,ntmps17
 go_wp2_with (first|(go_at_call 47;go_fit CA;rintro e w1 ⟨rfl,hb1⟩;clear CA;have HB1:Hid (Below w.heap.size w w1):=hb1;clear hb1)|(go_at_call 49;go_fit (CN _);rintro e w2 ⟨b,rfl,hlb,hN1,hb2⟩;clear CN;have P:=Pl.start LK hJ hN1 (Nat.le_trans HB1.out.size hlb) (HB1.out.trans (hb2.mono HB1.out.size));clear hlb hN1 hb2))
 go_loopw [9] (fun i W=>∃ (j:Nat) (F G:Nat→Prop),j≤M∧i=.int .i64 (j:Int)∧Pl loose J G0 w W b (es.take j) F G) (fun i _=>M - (intOf i).toNat)
 case atStart=>exact ⟨0,_,_,Nat.zero_le _,rfl,P⟩
 case round=>
  clear P
  obtain ⟨j,F,G,hj,rfl,P⟩:=hrel
  by_cases h1:j<n
  ·have hj1:(j:Int)<(n:Int):=by omega
   by_cases h2:j<100
   ·have hj2:(j:Int)<100:=by omega
    have hlt:j<M:=by have:=HMM.out;omega
    have hjl:j<es.length:=by have:=HN.out;omega
    have HM:=qha hlt
    have hjw:=qhl (p:=j) om
    obtain ⟨x,hx⟩:∃ x,es[j]=x:=⟨_,rfl⟩
    have hxo:x.ok:=hok x (hx▸List.getElem_mem hjl)
    have HL9:Hid (es.take j++[x]=es.take (j+1)):=hidN (by rw [List.take_succ_eq_append_getElem hjl,hx])
    have hlen:(es.take j).length=j:=List.length_take_of_le om
    have hinv:=qjr loose (es.take j) om
    generalize es.take j=l at *
    have rx:=(hA.keepGr P.gr hAG).at j hjl hx
    have hix:=fun w2=>hA.index j hjl w2
    have hF0:¬ F 0:=fun hh=>by have:=P.new 0 hh;have:=hT.lt;omega
    have TW:=hT.gr P.gr h0
    have N:=P.nat.start
    have CD:=qos N.nat TW (fun hh=>hF0 hh.1) (hinv.ok om) x hxo
    have hAW:=hA.keepGr P.gr hAG
    have hAF:0<es.length→¬ F (eb (.slice a0 n cap)):=fun hh hf=>by have:=P.new _ hf;have:=hA.lt hh;omega
    have CL:=fun W' F' L (N:Nb _ W' b (((nt0 loose).runs l).act x).2 (duF (((nt0 loose).runs l).act x).2.fs) F F' L)=>LK.call (l:=l) (a:=x) om hxo N.nat (TW.gr N.gr hF0) (fun hh=>by rcases N.sub 0 hh with h3|h3;exact hF0 h3;have:=TW.lt;omega) (P.other LK N) (P.look LK N)
    go_upto_region 8 with (first|((with_reducible refine qaa (.load 27 (.tmp 28)) rfl ?_);refine wpList_load_mid rfl 27 (.tmp 28) rfl _ _ rfl (acl x) _ rx underlying27 rfl (qv8 _) ?_;rw [q9l])|(go_at_call 35;refine CD.mono ?_;rintro e w5 ⟨rfl,F9,hN9,hg9,hf9⟩;clear CD rx;replace N:=N.call hN9 hg9 hf9;clear hN9 hg9 hf9)|((with_reducible refine qaa (.alloc 30) rfl ?_);refine qaf 10 30 rfl rfl rfl _ qan ?_;intro b10 w9 l9 R9 h9;replace N:=N.alloc (o:=ob 30 ((qas 0).cells)) l9 R9 h9;clear R9 h9 l9)|((with_reducible refine qaa (.store 30 (.tmp 10) (.tmp 30)) rfl ?_);refine qab 30 rfl (.tmp 10) _ rfl b10 rfl ((((nt0 loose).runs l).act x).1.cells) rfl _ (N.row 0 rfl) (qar _ _) (qad _) (qah _) ?_;intro w9 R9 t9;replace N:=N.turn 0 rfl R9 t9;clear R9 t9))
    have kS:World.rangeAt _ (eb (.slice a0 n cap)) (eo (.slice a0 n cap)+4 * j) (acl x)∧Row 30 _ b10 (((nt0 loose).runs l).act x).1.cells:=⟨(hAW.keepGr N.gr hAF).at j hjl hx,N.row 0 rfl⟩
    refine wp_region_noPanic ?_
    refine wp_region_held_drew (S:=fun W=>W.rangeAt (eb (.slice a0 n cap)) (eo (.slice a0 n cap)+4 * j) (acl x)∧Row 30 W b10 (((nt0 loose).runs l).act x).1.cells) kr kS (fun _=>?_)
    refine tq 0 (.func (.func lf) #[] caps) rfl kS ?_
    simp only [Act.put,Z1,Z2,Z3,Z4,Z5,Z6]
    refine tq 1 (.pointer (some ⟨b,0,none⟩)) rfl kS ?_
    simp only [Act.put,Z1,Z2,Z3,Z4,Z5,Z6]
    refine tq 2 (.slice a0 n cap) rfl kS ?_
    simp only [Act.put,Z1,Z2,Z3,Z4,Z5,Z6]
    refine tq 3 (.int .i64 (j:Int)) rfl kS ?_
    simp only [Act.put,Z1,Z2,Z3,Z4,Z5,Z6]
    refine tk 4 (.pointer (some ⟨eb (.slice a0 n cap),eo (.slice a0 n cap)+4 * j,none⟩)) rfl (qgk 22 (.tmp 33) (.tmp 34) rfl kr _ _ _ kr kr hix) kS ?_
    simp only [Act.put,Z1,Z2,Z3,Z4,Z5,Z6]
    refine tk 5 (.agg (acl x).toArray) rfl (qgw 27 (.tmp 35) rfl kr _ _ kr (acl x) (fun _ h=>h.1) _ underlying27 rfl (qv8 x)) kS ?_
    simp only [Act.put,Z1,Z2,Z3,Z4,Z5,Z6]
    refine tk 6 (.agg (((nt0 loose).runs l).act x).1.cells) rfl (qav 30 (.tmp 10) rfl kr b10 kr (((nt0 loose).runs l).act x).1.cells (fun _ h=>h.2) _ underlying30 rfl (qad _)) kS ?_
    simp only [Act.put,Z1,Z2,Z3,Z4,Z5,Z6]
    refine wpAnyH_ready (rs:=[7]) kr zm ?_
    refine AllReadyH.cons rfl (fun K hK=>?_) ?_
    ·rw [if_pos kr]
     refine q55 (.tmp 31) _ _ rfl lf caps #[.pointer (some ⟨b,0,none⟩),.agg (ac x),.agg (((nt0 loose).runs l).act x).1.cells] kr (by simp only [List.map_toArray,List.map_cons,List.map_nil];kernel_rfl) LK.enters ?_;(first|refine (CL _ _ _ N).mono ?_|(replace N:=N.drew;refine (CL _ _ _ N).mono ?_));rintro e w8 ⟨rfl,G8,hJ8,hg8,hG8⟩;have P8:=P.step LK N hJ8 hg8 hG8;clear kS;have kS:World.rangeAt w8 (eb (.slice a0 n cap)) (eo (.slice a0 n cap)+4 * j) (acl x)∧Row 30 w8 b10 (((nt0 loose).runs l).act x).1.cells:=⟨(hA.keepGr P8.gr hAG).at j hjl hx,N.rowGr 0 rfl hg8 (LK.bd P.j)⟩;clear hJ8 hg8 hG8;refine ⟨_,rfl,?_⟩
     refine hK.out _ _ kS (fun _=>?_)
     clear hK K
     try simp only [Act.put,Z1,Z2,Z3,Z4,Z5,Z6]
     refine tq 8 (.bool false) rfl kS ?_
     simp only [Act.put,Z1,Z2,Z3,Z4,Z5,Z6]
     refine wpAnyH_done kr ?_ _
     refine NoPanic.normal ?_
     have P9:=HL9.out▸P8
     clear P8 P N kS
     go_wp2_with fail
     go_roundw
     case rel=>
      first
       | exact ⟨j+1,_,_,by omega,by go_num,P9⟩
       | ((repeat apply Exists.intro);exact ⟨⟨j+1,_,_,by omega,by go_num,P9⟩,rfl⟩)
     case measure=>first|exact HM.out|(rw [hjw];exact HM.out)
    exact AllReadyH.nil
   ·have hj2:¬ (j:Int)<100:=by omega
    have e:=qus (l:=es) (j:=j) (by have:=HMM.out;have:=HN.out;omega) (.inr h2)
    exact sZto11
  ·have hj1:¬ (j:Int)<(n:Int):=by omega
   have e:=qus (l:=es) (j:=j) (by have:=HMM.out;have:=HN.out;omega) (.inl (by have:=HN.out;omega))
   exact sZto11
theorem qq7 (loose:Bool):Look loose 33 #[] (fun _ G _=>∀ c,¬ G c):=by
 refine ⟨fun args w=>by kernel_rfl,fun h _ _=>h,fun h c hc=>absurd hc (h c),?_⟩
 intro l a W b F G _ _ _ _ _ _ hG
 generalize (((nt0 loose).runs l).act a).1=r
 have hB:=Below.refl W.heap.size W
 show Calls prog 33 #[.pointer (some ⟨b,0,none⟩),.agg (ac a),.agg r.cells] W _
 go_enter func33,ntmps33
 go_wp2_with (first|((with_reducible refine qaa (.box 27 (.tmp 1)) rfl ?_);refine qag 27 rfl (.tmp 1) rfl (ac a) rfl ?_;intro b4 w9 l9 R9 h9;replace hB:=hB.trans (h9.mono hB.size);clear R9 h9 l9)|((with_reducible refine qaa (.box 30 (.tmp 2)) rfl ?_);refine qag 30 rfl (.tmp 2) rfl r.cells rfl ?_;intro b5 w9 l9 R9 h9;replace hB:=hB.trans (h9.mono hB.size);clear R9 h9 l9))
 go_ret
 exact ⟨rfl,G,hG,Gr.of_below hB,fun c hc=>.inl hc⟩
end Go.Proofs.YtnicenfgemkdnaaGreatDoor
namespace Go.Proofs.YtnicenfgemkdnaaGreatDoor
open _root_.Go.Proofs.Tryz
set_option maxHeartbeats 16000000
set_option maxRecDepth 100000
open Go.ChangeShapes Go.WideShapes Go.ChangeAt Go.RowKit
theorem qwn (l:List UInt8) (k:Nat) (h:k+1<l.length):w16 (wAt l k)=(l.drop k).take 2:=by
 have e:(l.drop k).take 2=[l[k],l[k+1]]:=by
  rw [List.drop_eq_getElem_cons om,List.drop_eq_getElem_cons om];rfl
 rw [e,← q9y]
 unfold wAt byt
 simp [List.getD_eq_getElem?_getD,List.getElem?_eq_getElem (show k<l.length by omega),List.getElem?_eq_getElem h]
theorem qu2 (l:List UInt8) (k:Nat) (h:k+3<l.length):l32 (lAt l k)=(l.drop k).take 4:=by
 have b1:=qhr l k;have b2:=qhr l (k+2)
 have e1:w16 (lAt l k / 65536)=w16 (wAt l k):=q3g _ _ (by unfold lAt;omega)
 have e2:w16 (lAt l k)=w16 (wAt l (k+2)):=q3g _ _ (by unfold lAt;omega)
 unfold l32
 rw [e1,e2,qwn l k om,qwn l (k+2) om,show (4:Nat)=2+2 from rfl,List.take_add,List.drop_drop]
theorem q82 (l:List UInt8) (proto:Int) (h:20≤l.length):ps (lAt l 12) (lAt l 16) proto ((l.length:Int) - 20)++l.drop 20=chkd l proto:=by
 unfold ps chkd
 by_cases hp:proto=1
 ·rw [if_pos hp,if_pos hp];rfl
 ·rw [if_neg hp,if_neg hp,qu2 l 12 om,qu2 l 16 om,show (8:Nat)=4+4 from rfl,List.take_add,List.drop_drop]
  simp
theorem cut1 (l:List UInt8) (k:Nat) (h:k<l.length):l.drop k=[b8 (byt l k)]++l.drop (k+1):=by
 have e:b8 (byt l k)=l[k]:=by
  unfold byt
  rw [List.getD_eq_getElem?_getD,List.getElem?_eq_getElem h]
  show b8 (l[k].toNat:Int)=l[k]
  have h1:=qc1 (l[k].toNat:Int)
  have h2:=qje l[k]
  exact UInt8.toNat_inj.1 om
 rw [List.drop_eq_getElem_cons h,e];rfl
theorem cut2 (l:List UInt8) (k:Nat) (h:k+1<l.length):l.drop k=w16 (wAt l k)++l.drop (k+2):=by
 rw [qwn l k h,← List.drop_drop,List.take_append_drop]
theorem cut4 (l:List UInt8) (k:Nat) (h:k+3<l.length):l.drop k=l32 (lAt l k)++l.drop (k+4):=by
 rw [qu2 l k h,← List.drop_drop,List.take_append_drop]
theorem q6e (l:List UInt8) (h:20≤l.length) (h0:byt l 0=69) (h1:byt l 1=0) (h6:wAt l 6=0) (k:Pkt) (hi:k.id=wAt l 4) (ht:k.ttl=byt l 8) (hp:k.proto=byt l 9) (hs:k.src=lAt l 12) (hd':k.dst=lAt l 16) :
  l=hd k (wAt l 2) (wAt l 10)++l.drop 20:=by
 have e:l=[b8 (byt l 0)]++([b8 (byt l 1)]++(w16 (wAt l 2)++(w16 (wAt l 4)++(w16 (wAt l 6)++([b8 (byt l 8)]++([b8 (byt l 9)]++(w16 (wAt l 10)++(l32 (lAt l 12)++(l32 (lAt l 16)++l.drop 20))))))))):=by
  rw [← cut4 l 16 om,← cut4 l 12 om,← cut2 l 10 om,← cut1 l 9 om,← cut1 l 8 om,← cut2 l 6 om,← cut2 l 4 om,← cut2 l 2 om,← cut1 l 1 om,← cut1 l 0 om];rfl
 rw [h0,h1,h6] at e
 unfold hd
 rw [hi,ht,hp,hs,hd']
 simp only [List.append_assoc,List.singleton_append,List.cons_append,List.nil_append]
 exact e
theorem qatb (l:List UInt8):(qam l).id=wAt l 4:=by unfold qam;split <;> (try split) <;> rfl
theorem qaeb (l:List UInt8):(qam l).ttl=byt l 8:=by unfold qam;split <;> (try split) <;> rfl
theorem q3c (l:List UInt8):(qam l).src=lAt l 12:=by unfold qam;split <;> (try split) <;> rfl
theorem q2a (l:List UInt8):(qam l).dst=lAt l 16:=by unfold qam;split <;> (try split) <;> rfl
theorem sZto12 {p:Prop} (h:p:=by
 simp only [List.append_assoc,List.singleton_append,List.cons_append,List.nil_append]
 rfl):p:=h
theorem q4z (l:List UInt8) (H:qls l) (P:qom l (byt l 9)):l.drop 20=pt (qam l) (wAt l (qbd (byt l 9)))++(qam l).body.data.toList∧qb4 (byt l 9)+(qam l).body.size=(l.length:Int) - 20:=by
 have hn:=P.len
 rcases (qei _).1 H.kind with hp|hp|hp
 ·have e8:qb4 (byt l 9)=8:=by rw [hp];rfl
  rw [e8] at hn
  have hb:(qam l).body=txt (l.drop 28):=by unfold qam;rw [if_pos hp]
  refine ⟨?_,by rw [e8,hb,qck,List.length_drop];omega⟩
  have e:l.drop 20=[b8 (byt l 20)]++([b8 (byt l 21)]++(w16 (wAt l 22)++(w16 (wAt l 24)++(w16 (wAt l 26)++l.drop 28)))):=by
   rw [← cut2 l 26 om,← cut2 l 24 om,← cut2 l 22 om,← cut1 l 21 om,← cut1 l 20 om]
  rw [P.ping' hp] at e
  rw [hb,qds,e,show qbd (byt l 9)=22 by rw [hp];rfl]
  unfold pt
  rw [if_pos (by rw [qfq];exact hp)]
  have f1:(qam l).flags=byt l 20:=by unfold qam;rw [if_pos hp]
  have f2:(qam l).seq=wAt l 26:=by unfold qam;rw [if_pos hp]
  have f3:(qam l).sport+(qam l).dport=wAt l 24:=by
   unfold qam;rw [if_pos hp]
   show (if byt l 20=8 then wAt l 24 else 0)+(if byt l 20=8 then 0 else wAt l 24)=wAt l 24
   split <;> omega
  rw [f1,f2,f3]
  exact sZto12
 ·have e8:qb4 (byt l 9)=20:=by rw [hp];rfl
  rw [e8] at hn
  have n1:¬ byt l 9=1:=by omega
  have hb:(qam l).body=txt (l.drop 40):=by unfold qam;rw [if_neg n1,if_pos hp]
  refine ⟨?_,by rw [e8,hb,qck,List.length_drop];omega⟩
  have e:l.drop 20=w16 (wAt l 20)++(w16 (wAt l 22)++(l32 (lAt l 24)++(l32 (lAt l 28)++([b8 (byt l 32)]++([b8 (byt l 33)]++(w16 (wAt l 34)++(w16 (wAt l 36)++(w16 (wAt l 38)++l.drop 40)))))))):=by
   rw [← cut2 l 38 om,← cut2 l 36 om,← cut2 l 34 om,← cut1 l 33 om,← cut1 l 32 om,← cut4 l 28 om,← cut4 l 24 om,← cut2 l 22 om,← cut2 l 20 om]
  rw [P.tcp1 hp,P.tcp3 hp] at e
  rw [hb,qds,e,show qbd (byt l 9)=36 by rw [hp];rfl]
  unfold pt
  rw [if_neg (by rw [qfq];exact n1),if_neg (by rw [qfq];omega)]
  have f:(qam l).sport=wAt l 20∧(qam l).dport=wAt l 22∧(qam l).seq=lAt l 24∧(qam l).ack=lAt l 28∧(qam l).flags=byt l 33∧(qam l).win=wAt l 34:=by
   unfold qam;rw [if_neg n1,if_pos hp];exact ⟨rfl,rfl,rfl,rfl,rfl,rfl⟩
  obtain ⟨f1,f2,f3,f4,f5,f6⟩:=f
  rw [f1,f2,f3,f4,f5,f6]
  exact sZto12
 ·have e8:qb4 (byt l 9)=8:=by rw [hp];rfl
  rw [e8] at hn
  have n1:¬ byt l 9=1:=by omega
  have n6:¬ byt l 9=6:=by omega
  have hb:(qam l).body=txt (l.drop 28):=by unfold qam;rw [if_neg n1,if_neg n6]
  have hz:qb4 (byt l 9)+(qam l).body.size=(l.length:Int) - 20:=by rw [e8,hb,qck,List.length_drop];omega
  refine ⟨?_,hz⟩
  have e:l.drop 20=w16 (wAt l 20)++(w16 (wAt l 22)++(w16 (wAt l 24)++(w16 (wAt l 26)++l.drop 28))):=by
   rw [← cut2 l 26 om,← cut2 l 24 om,← cut2 l 22 om,← cut2 l 20 om]
  rw [e,show qbd (byt l 9)=26 by rw [hp];rfl]
  unfold pt
  rw [if_neg (by rw [qfq];exact n1),if_pos (by rw [qfq];exact hp)]
  have f:(qam l).sport=wAt l 20∧(qam l).dport=wAt l 22:=by
   unfold qam;rw [if_neg n1,if_neg n6];exact ⟨rfl,rfl⟩
  have f3:8+((qam l).body.size:Int)=wAt l 24:=by have:=P.udp hp;omega
  rw [f.1,f.2,f3,hb,qds]
  simp only [List.append_assoc]
theorem q61 (l:List UInt8) (hb:bad l=0):l=fr (qam l) (wAt l 10) (wAt l (qbd (byt l 9)))∧(wAt l 10+tot (hd (qam l) (flen (qam l)) 0)) % 65535=0∧(wAt l (qbd (byt l 9))+allP (qam l) 0) % 65535=0:=by
 obtain ⟨H,P,hg⟩:=qgi l hb
 obtain ⟨hc,hz⟩:=q4z l H P
 have hlen:wAt l 2=flen (qam l):=by
  unfold flen;rw [qfq,H.size];omega
 have hh:=q6e l H.len H.mark H.serv H.piece (qam l) (qatb l) (qaeb l) (qfq l) (q3c l) (q2a l)
 rw [hlen] at hh
 have e:l=fr (qam l) (wAt l 10) (wAt l (qbd (byt l 9))):=by
  unfold fr;rw [← hc];exact hh
 have w1:=qhr l 10
 have w2:=qhr l (qbd (byt l 9))
 refine ⟨e,?_,?_⟩
 ·have h20:l.take 20=hd (qam l) (flen (qam l)) (wAt l 10):=by
   have:=congrArg (List.take 20) hh
   rw [this,List.take_left' (by rfl)]
  have hs:=H.sum
  rw [h20,q1p _ _ _ w1.1 w1.2] at hs
  have:=qhv (tot (hd (qam l) (flen (qam l)) 0)+wAt l 10)
  rw [hs] at this
  omega
 ·have hs:=P.sum
  rw [← q82 l _ H.len,hc] at hs
  have ha:tot (ps (lAt l 12) (lAt l 16) (byt l 9) ((l.length:Int) - 20)++(pt (qam l) (wAt l (qbd (byt l 9)))++(qam l).body.data.toList))=allP (qam l) (wAt l (qbd (byt l 9))):=by
   unfold allP;rw [q3c,q2a,qfq,hz]
  rw [ha,qxw _ _ w2.1 w2.2] at hs
  have:=qhv (allP (qam l) 0+wAt l (qbd (byt l 9)))
  rw [hs] at this
  omega
theorem qnc (l:List UInt8) (side addr port:Int) (h:qcb l side addr port=0):bad l=0∧qc5 l side addr port=txt (frame (turned (qam l) side addr port))∧good (turned (qam l) side addr port)=0∧(qam l).ttl≠1∧good (qam l)=0:=by
 have hE:=h
 unfold qcb at h
 by_cases hb:bad l≠0
 ·rw [if_pos hb] at h;exact absurd h hb
 rw [if_neg hb] at h
 have hb0:bad l=0:=by omega
 by_cases h0:side≠0∧side≠1
 ·rw [if_pos h0] at h;omega
 rw [if_neg h0] at h
 by_cases ha:qeb addr=false
 ·rw [if_pos ha] at h;omega
 rw [if_neg ha] at h
 by_cases hp:qc7 port=false
 ·rw [if_pos hp] at h;omega
 rw [if_neg hp] at h
 by_cases h1:(qam l).ttl=1
 ·rw [if_pos h1] at h;omega
 rw [if_neg h1] at h
 by_cases h2:(qam l).proto=1∧((qam l).flags == 8)≠(side == 0)
 ·rw [if_pos h2] at h;omega
 have ha':0≤addr∧addr≤4294967295:=by unfold qeb at ha;simpa using ha
 have hp':0≤port∧port≤65535:=by unfold qc7 at hp;simpa using hp
 have hs:side=0∨side=1:=by omega
 have hf:(qam l).proto=1→((qam l).flags == 8)=(side == 0):=fun h3=>by
  by_cases h4:((qam l).flags == 8)=(side == 0)
  ·exact h4
  ·exact absurd ⟨h3,h4⟩ h2
 obtain ⟨H,P,hg⟩:=qgi l hb0
 obtain ⟨hl,m1,m2⟩:=q61 l hb0
 have w1:=qhr l 10
 have w2:=qhr l (qbd (byt l 9))
 refine ⟨hb0,?_,qqa _ side addr port hg hs ha' hp' h1 hf,h1,hg⟩
 unfold qc5
 rw [if_pos hE]
 have:=qq0 (qam l) _ _ side addr port hg hs ha' hp' h1 hf w1.1 w1.2 w2.1 w2.2 m1 m2
 rw [← hl] at this
 rw [this]
def Sent (r:Rp):Prop:=r.fr=ByteArray.empty∨(r.code=0∧∃ k,good k=0∧r.fr=txt (frame k))
def Told (l:List UInt8) (r:Rp):Prop:=r.code≠0∧r.inn=true∧bad l=0∧∃ id:Int,r.fr=txt (qff (qam l).src id (l.take 28))
theorem qbt (e:Int):Sent (qas e):=.inl rfl
theorem qti (l:List UInt8) (side a p:Int) (i:Bool) (lg:ByteArray):Sent ⟨qcb l side a p,qc5 l side a p,i,lg⟩:=by
 by_cases h:qcb l side a p=0
 ·obtain ⟨_,e,hg,_⟩:=qnc l side a p h
  exact .inr ⟨h,_,hg,e⟩
 ·refine .inl ?_
  show qc5 l side a p=_
  unfold qc5;rw [if_neg h]
theorem qqs (s:Nt) (l:List UInt8):Sent (s.inn l).1:=by
 unfold Nt.inn
 split
 ·exact qbt _
 split
 ·exact qbt _
 split
 ·exact qbt _
 split
 ·exact qbt _
 split
 ·exact qbt _
 ·split
  ·exact qbt _
  ·exact qti _ _ _ _ _ _
theorem qkq (s:Nt) (l:List UInt8) (k:Fl):Sent (s.leave l k).1:=by
 unfold Nt.leave
 split
 ·exact qqs _ _
 ·exact qti _ _ _ _ _ _
theorem qoe (s:Nt) (l:List UInt8) {why:Int} (hw:why≠0) (hb:bad l=0):Sent (s.refuse l why).1∨Told l (s.refuse l why).1:=by
 unfold Nt.refuse
 split
 ·exact .inl (qbt _)
 ·by_cases h:refE l (s.left:Int)=0
  ·refine .inr ⟨hw,rfl,hb,(s.left:Int),?_⟩
   show refS l _=_
   unfold refS;rw [if_pos h]
  ·refine .inl (.inl ?_)
   show refS l _=_
   unfold refS;rw [if_neg h]
theorem qxm (s:Nt) (l:List UInt8) (p:Pkt) (sub draw:Int) (hb:bad l=0):Sent (s.first l p sub draw).1∨Told l (s.first l p sub draw).1:=by
 unfold Nt.first
 split
 ·exact qoe s l om hb
 ·generalize qba s.f s.g s.h s.ms p.proto sub p.sport draw=o
  dsimp only
  split
  ·next h=>exact qoe s l h hb
  ·refine .inl ?_
   have:=qkq ((s.setT o.f o.h o.ms).begin (mkF o.m p.dst p.dport (qao p.proto))) l (mkF o.m p.dst p.dport (qao p.proto))
   split
   ·exact this
   ·exact this
theorem q1o (s:Nt) (l:List UInt8) (draw:Int):Sent (s.out l draw).1∨Told l (s.out l draw).1:=by
 unfold Nt.out
 by_cases hb:bad l≠0
 ·rw [if_pos hb];exact .inl (qbt _)
 rw [if_neg hb]
 split
 ·exact .inl (qbt _)
 split
 ·exact .inl (qbt _)
 split
 ·exact .inl (qbt _)
 split
 ·exact .inl (qkq _ _ _)
 ·split
  ·exact .inl (qbt _)
  ·exact qxm s l _ _ _ om
theorem qtb (s:Nt) (n:Int):(s.tick n).1.fr=ByteArray.empty:=by
 unfold Nt.tick
 split
 ·rfl
 ·rfl
theorem qtc (s:Nt) (a:Ac):Sent (s.act a).1∨(a.kd=1∧Told a.fr.data.toList (s.act a).1):=by
 unfold Nt.act
 split
 ·exact .inl (qbt _)
 ·dsimp only
  split
  ·next h=>
   rcases q1o { s with acts:=s.acts+1 } a.fr.data.toList a.dr with h1|h1
   ·exact .inl h1
   ·exact .inr ⟨h,h1⟩
  split
  ·exact .inl (qqs _ _)
  split
  ·exact .inl (.inl (qtb _ _))
  split
  ·exact .inl (qbt _)
  split
  ·exact .inl (qbt _)
  ·exact .inl (qbt _)
theorem q02 (s:Nt) (p:Pkt) (m:Mp):(s.letIn p m).2.left=s.left:=by
 unfold Nt.letIn
 split
 ·rfl
 ·split
  ·rfl
  ·split <;> rfl
theorem qu8 (s:Nt) (l:List UInt8):(s.inn l).2.left=s.left:=by
 unfold Nt.inn
 split
 ·rfl
 split
 ·rfl
 split
 ·rfl
 split
 ·rfl
 split
 ·rfl
 ·split <;> exact q02 _ _ _
theorem qri (s:Nt) (l:List UInt8) (k:Fl):(s.leave l k).2.left=s.left:=by
 unfold Nt.leave
 split
 ·exact qu8 _ _
 ·rfl
theorem qwe (s:Nt) (es:List Ev):(s.log es).2.left=s.left:=by
 unfold Nt.log
 split <;> rfl
def qrx (s:Nt) (r:Rp×Nt):Prop:=r.2.left≤s.left∧(r.1.code≠0→r.1.fr≠ByteArray.empty→r.2.left+1≤s.left)
theorem qdk {s:Nt} {r:Rp×Nt} (h1:Sent r.1) (h2:r.2.left=s.left):qrx s r:=by
 refine ⟨by omega,fun h3 h4=>?_⟩
 rcases h1 with h|h
 ·exact absurd h h4
 ·exact absurd h.1 h3
theorem qow (s:Nt) (l:List UInt8) (why:Int):qrx s (s.refuse l why):=by
 unfold Nt.refuse
 split
 ·exact qdk (qbt _) rfl
 ·refine ⟨?_,fun _ _=>?_⟩
  ·show s.left - 1≤s.left;omega
  ·show s.left - 1+1≤s.left;omega
theorem qwu (s:Nt) (l:List UInt8) (p:Pkt) (sub draw:Int):qrx s (s.first l p sub draw):=by
 unfold Nt.first
 split
 ·exact qow s l _
 ·generalize qba s.f s.g s.h s.ms p.proto sub p.sport draw=o
  dsimp only
  split
  ·exact qow s l _
  ·have h1:=qkq ((s.setT o.f o.h o.ms).begin (mkF o.m p.dst p.dport (qao p.proto))) l (mkF o.m p.dst p.dport (qao p.proto))
   have h2:=qri ((s.setT o.f o.h o.ms).begin (mkF o.m p.dst p.dport (qao p.proto))) l (mkF o.m p.dst p.dport (qao p.proto))
   split
   ·refine qdk h1 ?_
    show (Nt.log _ _).2.left=s.left
    rw [qwe];exact h2
   ·exact qdk h1 h2
theorem q3i (s:Nt) (l:List UInt8) (draw:Int):qrx s (s.out l draw):=by
 unfold Nt.out
 split
 ·exact qdk (qbt _) rfl
 split
 ·exact qdk (qbt _) rfl
 split
 ·exact qdk (qbt _) rfl
 split
 ·exact qdk (qbt _) rfl
 split
 ·exact qdk (qkq _ _ _) (qri _ _ _)
 ·split
  ·exact qdk (qbt _) rfl
  ·exact qwu _ _ _ _ _
theorem q16 {s:Nt} (h:Ci s) (a:Ac):(a.kd≠3→qrx s (s.act a))∧(a.kd=3→(s.act a).1.fr=ByteArray.empty∧((s.act a).1.code=0→1≤a.n∧((s.act a).2.left:Int)≤(s.left:Int)+min a.n 4)∧((s.act a).1.code≠0→(s.act a).2.left=s.left)):=by
 unfold Nt.act
 split
 ·refine ⟨fun _=>qdk (qbt _) rfl,fun _=>⟨rfl,fun h=>absurd h ?_,fun _=>rfl⟩⟩
  show ¬ (6:Int)=0
  omega
 ·dsimp only
  refine ⟨fun h3=>?_,fun h3=>?_⟩
  ·split
   ·exact q3i { s with acts:=s.acts+1 } _ _
   split
   ·exact qdk (qqs _ _) (qu8 _ _)
   try rw [if_neg h3]
   split
   ·exact qdk (qbt _) rfl
   split
   ·exact qdk (qbt _) rfl
   ·exact qdk (qbt _) rfl
  ·rw [if_neg om,if_neg om,if_pos h3]
   refine ⟨qtb _ _,?_⟩
   unfold Nt.tick
   split
   ·refine ⟨fun h=>absurd h ?_,fun _=>rfl⟩
    show ¬ (2:Int)=0
    omega
   ·next hn=>
    refine ⟨fun _=>⟨by omega,?_⟩,fun h=>absurd rfl h⟩
    have F:=(qsn (h.acts (s.acts+1)) a.n).rest.2.1
    dsimp only
    rw [qwe]
    have e:(qbu (Nt.later { s with acts:=s.acts+1 } a.n) (Nt.dueL { s with acts:=s.acts+1 } ({ s with acts:=s.acts+1:Nt }.now+a.n))).2.left=min (s.left+a.n.toNat) 4:=F
    have e2:((qbu (Nt.later { s with acts:=s.acts+1 } a.n) (Nt.dueL { s with acts:=s.acts+1 } ({ s with acts:=s.acts+1:Nt }.now+a.n))).2.left:Int)≤(s.left:Int)+min a.n 4:=by
     rw [e]
     have:=h.left
     simp only at hn
     omega
    exact e2
end Go.Proofs.YtnicenfgemkdnaaGreatDoor
