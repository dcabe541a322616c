/-
  Of what a law stands on.
-/
import Derived.Test.YtnhafdkfjjplkaaDoorZrr6
set_option linter.unusedSimpArgs false
set_option linter.unusedVariables false
namespace Go.Proofs.YtnhafdkfjjplkaaDoor
open Go.Value renaming int → I,pointer → V
open Go.IntKind renaming i64 → Z
open _root_.Go.Proofs.Tryd Go.ChangeShapes Go.WideShapes Go.ChangeAt Go.RowKit
set_option maxHeartbeats 16000000
set_option maxRecDepth 100000
variable {a k tm tm2 x:Int}{p:Prop}{W W' W0 w:World}{sl v va vp:Value}{all es ps:List Ev}{H:Type}{e:Ev}{B base i j:Nat}{L:List UInt8}{F:Nat->Int}
theorem q1ub(k n:Int)(hn:0<n):-n<k.tmod n/\k.tmod n<n/\(k.tmod n<0->k.tmod n+n=k%n)/\(0<=k.tmod n->k.tmod n=k%n):=by
 have h1:=Int.tmod_eq_emod (a:=k) (b:=n);have h2:=Int.emod_nonneg k (by omega:n≠0);have h3:=Int.emod_lt_of_pos k hn;(have h4:(n.natAbs:Int)=n:=by omega)
 split at h1
 ·simp at h1;omega
 ·rename_i hd
  (have h5:k%n≠0:=fun e=>hd (.inr (Int.dvd_of_emod_eq_zero e)))
  omega
theorem q06b{b:Int}(h:a=b):Ending.returned (I Z a)=.returned (I Z b):=by rw[h]
theorem sZrr75(h:p:=by
 clear h3 h4
 go_enter func20,ntmps20
 go_wp2
 go_ret
 exact⟨q06b H.out,rfl⟩):p:=h
theorem q1kb(k n:Int)(w:World)(hn:0<n)(hm:n<=4611686018427387904):
  Calls prog 20 #[I Z k,I Z n] w fun e w'=>e=.returned (I Z (k%n))/\w'=w:=by
 obtain⟨h1,h2,h3,h4⟩:=q1ub k n hn;(have hz:(n==0)=false:=by simp;omega);(have hw:wrap64 (k.tmod n)=k.tmod n:=by unfold wrap64;omega)
 by_cases hneg:k.tmod n<0
 ·have H:Hid (k.tmod n+n=k%n):=h3 hneg
  exact sZrr75
 ·have H:Hid (k.tmod n=k%n):=h4 om
  exact sZrr75
abbrev Td:=Int×Value×List Ev
def qz6b(w:World)(sl:Value)(ts:List Td):Prop:=
 ∃a cap,sl=.slice a ts.length cap/\(0<ts.length->a=some ⟨eb sl,eo sl,none⟩)/\(∀j (hj:j<ts.length),w.rangeAt (eb sl) (eo sl+2*j) [I Z ts[j].1,ts[j].2.1]/\EvAt w ts[j].2.1 ts[j].2.2)/\ts.length<=4398046510976
theorem qz6b.slice{ts:List Td}(h:qz6b w sl ts):∃a cap,sl=.slice a ts.length cap:=by obtain⟨a,cap,e,_⟩:=h;exact⟨a,cap,e⟩
theorem qz6b.len{ts:List Td}(h:qz6b w sl ts):ts.length<=4398046510976:=by obtain⟨a,cap,e,h1,h2,h3⟩:=h;exact h3
theorem qz6b.at{ts:List Td}(h:qz6b w sl ts)(j:Nat)(hj:j<ts.length){t:Int}(he:ts[j]=(t,v,es)):w.cell? ⟨eb sl,eo sl+2*j,none⟩=some (I Z t)/\w.cell? ⟨eb sl,eo sl+2*j+1,none⟩=some v/\EvAt w v es:=by
 obtain⟨a,cap,e,h1,h2,h3⟩:=h;obtain⟨h4,h5⟩:=h2 j hj
 rw[he] at h4 h5
 exact⟨h4 0 _ rfl,h4 1 _ rfl,h5⟩
theorem qz6b.lt{ts:List Td}(h:qz6b w sl ts)(hl:0<ts.length):eb sl<w.heap.size:=by
 obtain⟨a,cap,e,h1,h2,h3⟩:=h
 have:=(h2 0 hl).1 0 _ rfl
 by_cases hlt:eb sl<w.heap.size
 ·exact hlt
 ·have h4:w.heap[eb sl]?=none:=Array.getElem?_eq_none om
  simp[World.cell?,h4] at this
theorem qz6b.keep{w':World}{ts:List Td}(h:qz6b w sl ts)(hb:Below w.heap.size w w'):qz6b w' sl ts:=by
 have hlt:=h.lt;obtain⟨a,cap,e,h1,h2,h3⟩:=h
 refine⟨a,cap,e,h1,fun j hj=>⟨fun i v hv=>?_,(h2 j hj).2.below hb⟩,h3⟩
 have:=(h2 j hj).1 i v hv
 have hB:=hb.block (eb sl) (hlt om)
 unfold World.cell? at this ⊢
 simp only[hB]
 exact this
theorem qz6b.index{ts:List Td}(h:qz6b w sl ts)(j:Nat)(hj:j<ts.length)(w2:World):(Instr.indexAt 43 sl (I Z (j:Int))).run prog w2=.ok (V (some ⟨eb sl,eo sl+2*j,none⟩)) w2:=by
 obtain⟨a0,cap,e,h1,h2,h3⟩:=h;have e1:=h1 om
 generalize eb sl=B at *
 generalize eo sl=O at *
 subst e1
 subst e
 (have hn:((j:Int)).toNat<ts.length:=by simpa using hj);(have hjl:(j:Int)<(ts.length:Int):=by omega);(have hs:(sizeOf 46).run prog w2=.ok 2 w2:=by kernel_rfl)
 simp[go_sem,hj,hn,hjl,underlying43,hs]
theorem q11b{P:Program}{e:TypeId}{l:List (DataW H)}{d:DataW H}(h:d∈l){y:Nat}(hy:y∈d.weights P e):y∈DataW.weightsAll P e l:=by
 induction l with
 | nil=>simp at h
 | cons c r ih=>
  rw[DataW.weightsAll]
  rcases List.mem_cons.1 h with rfl|h
  ·exact List.mem_append_left _ hy
  ·exact List.mem_append_right _ (ih h)
theorem q1fb{enc:TypeId×Value->H}{sp:Nat->Bool}{held:Bool}{fuel:Nat}{l:List Value}{x:DataW H×List MemPlace}(hf0:DataW.trod enc prog w 0 sp held fuel 43 l=some x)(hw:∀y∈x.1.weights prog 43,y<=reachBytes):∃sl,∃ts:List Td,l=[sl]/\qz6b w sl ts:=by
 (have c2:prog.cellsOf 46=2:=by kernel_rfl);(have cI:prog.cellsOf 3=1:=by kernel_rfl);(have cL:prog.cellsOf 22=1:=by kernel_rfl);(have hby:prog.bytesOf 46=32:=by kernel_rfl)
 rcases Go.Deep.open_slice underlying43 hf0 with⟨rfl,rfl⟩|⟨a,len,cap,m,n,D,Pl,rfl,hb,hl,hm,hmm,rfl,hx⟩
 ·exact⟨_,[],rfl,none,0,rfl,fun h=>absurd h zm,fun j hj=>absurd hj zm,by simp⟩
 ·(have hlm:len<=m:=by rw[hmm];split<;>omega)
  have hbd:len<=4398046510976:=by
   have h1:=hw _ (by simp only[DataW.weights,underlying43];exact List.mem_cons_self)
   rw[hby] at h1
   simp[reachBytes] at h1
   omega
  have each:∀i,i<len->∃q:Td,w.cell? (a.add (2*i))=some (.int .i64 q.1)/\w.cell? (a.add (2*i+1))=some q.2.1/\EvAt w q.2.1 q.2.2:=by
   intro i hi;obtain⟨cs',h1,h2⟩:=hx i om
   rw[c2] at h1
   obtain⟨_,hlen,hcell⟩:=World.cells?_some h1
   obtain⟨ys,m',_,hxx,_,hl',hf⟩:=DataW.trod_struct underlying46 h2
   match cs',hlen with
   | [k0,k1],_=>
   match ys,hl' with
   | [y0,y1],_=>
   have hv0:=hf 0 _ rfl;have hv1:=hf 1 _ rfl
   simp[cI,cL] at hv0 hv1
   obtain⟨x0,e0,rfl,s0⟩:=DataW.trod_int underlying3 hv0
   simp at e0
   subst e0
   (have hD:D i=.agg [.lit (.int .i64 x0),y1.1]:=by have:=congrArg Prod.fst hxx;simpa using this)
   obtain⟨sl,es,e1,hE⟩:=q0jb hv1 (fun y hy=>hw y (by
    simp only[DataW.weights,underlying43]
    refine List.mem_cons_of_mem _ (List.mem_append_left _ (q11b (d:=D i) (List.mem_map.2 ⟨i,by simpa using hi,rfl⟩) ?_));rw[hD]
    simp only[DataW.weights,underlying46]
    simpa[DataW.weightsEach,DataW.weights] using hy))
   simp at e1
   subst e1
   refine⟨(x0,k1,es),?_,?_,hE⟩
   ·have:=hcell 0 om
    rw[Go.Deep.add_add,Nat.mul_comm i 2] at this
    simpa using this
   ·have:=hcell 1 om
    rw[Go.Deep.add_add,Nat.mul_comm i 2] at this
    simpa using this
  haveI:Inhabited Td:=⟨(0,.slice none 0 0,[])⟩
  obtain⟨q,hq⟩:=Go.Deep.choose_lt each
  have hsp:0<len->a=⟨a.block,a.off,none⟩:=by
   intro h0
   have:=(hq 0 h0).1
   obtain⟨b,off,spot⟩:=a;(have hspot:spot=none:=by simpa[Addr.add] using World.cell?_spot this)
   subst hspot
   rfl
  refine⟨_,(List.range len).map q,rfl,some a,cap,by simp,fun h0=>?_,fun j hj=>?_,by simpa using hbd⟩
  ·rw[hsp (by simpa using h0)];rfl
  ·(have hj':j<len:=by simpa using hj);(have e1:((List.range len).map q)[j]=q j:=by simp);rw[e1];obtain⟨g0,g1,g2⟩:=hq j hj'
   rw[hsp om,Addr.add_lit] at g0 g1
   refine⟨fun k v hv=>?_,g2⟩
   show w.cell? ⟨a.block,a.off+2*j+k,none⟩=some v
   match k with
   | 0=>simp at hv;subst hv;exact g0
   | 1=>simp at hv;subst hv;rw[Nat.add_assoc];exact g1
   | k+2=>simp at hv
theorem q1sb(h:EvO w base v es)(hM:EvAt w sl ps)(h0:0<ps.length)(hl:es.length<=100000)(hp:ps.length<=100000)(hbase:base<=w.heap.size)(ty:TypeId):
  ∃v' w',(Builtin.append_ #[22,22] ty #[v,sl]).run prog w=.ok v' w'/\EvO w' base v' (es++ps)/\Grew v v' w w':=by
 obtain⟨i0,hi,hz0,hz1,hz2⟩:=info_parts qyu;obtain⟨a,cap,e,k1,k2,k3⟩:=hM;have e1:=k1 h0
 have hc:∀j u,(ps.flatMap ecl)[j]?=some u->w.cell? ⟨eb sl,eo sl+j,none⟩=some u:=by
  intro j u hu;(have hj:j<ps.length*5:=by have:=(List.getElem?_eq_some_iff.1 hu).1;rw[qwl] at this;exact this);(have e1:j=5*(j/5)+j%5:=by omega);(have hq:j/5<ps.length:=by omega)
  rw[e1,qx0 ps (j/5) (j%5) hq om] at hu
  have:=k2 (j/5) hq (j%5) u hu
  rw[show eo sl+5*(j/5)+j%5=eo sl+j by omega] at this
  exact this
 generalize eb sl=B at *
 generalize eo sl=O at *
 subst e1
 subst e
 obtain⟨v',w',h1,h2,h3,_,h5⟩:=run_append_own_at (P:=prog) w base 22 ty 29 i0 (.agg (ec noE)) 5 40 underlying22 hi hz0 hz1 hz2 rfl (by decide) v es.length (es.flatMap ecl) h ⟨B,O,none⟩ ps.length cap (ps.flatMap ecl) (qwl ps)
  (fun j u hu=>by rw[Addr.add_lit];exact hc j u hu) (q4p ps) (by unfold maxLen;omega) om hbase
 refine⟨v',w',h1,?_,⟨h3,?_⟩⟩
 ·unfold EvO;rw[List.flatMap_append,List.length_append];exact h2
 ·rcases h5 with e|e
  ·exact .inl e
  ·exact .inr ⟨_,e,Nat.le_refl _⟩
theorem q1bb{ops:Array Oper}{rest:List Oper}{o:Oper}{a:Act}{Q:Exit->Act->World->Prop}(hgd:o.guard=none)(s x:Operand)(ho:o.op=.call { callee:=.builtin .append,args:=#[s,x],argTypes:=#[22,22] })(h:EvO w base v es)(hM:EvAt w sl ps)(hs:a.eval s=v)(hx:a.eval x=sl)(h0:0<ps.length)(hl:es.length<=100000)(hp:ps.length<=100000)(hbase:base<=w.heap.size)(hr:∀v' w',EvO w' base v' (es++ps)->Grew v v' w w'->wpList prog ops Q rest (a.put o.dst v') w'):wpList prog ops Q (o::rest) a w:=
 wpList_plain hgd fun K hK=>by
  obtain⟨v',w',h1,h2,h3⟩:=q1sb h hM h0 hl hp hbase o.type
  unfold Oper.wp execOp
  simp only[ho,resolve,invoke,builtin,Sem.run_bind,Sem.run_pure,Result.andThen_ok,List.map_toArray,List.map_cons,List.map_nil,hs,hx,h1]
  exact hK _ _ (hr v' w' h2 h3)
structure BkO(w:World)(i:Nat)(L:List UInt8)(all:List Ev)(tm:Int)(va:Value)(W:World):Prop where
 told:qdyb L all
 own:EvO W w.heap.size va all
 t0:0<=tm
 t1:tm<=1000*(i:Int)
 ev:∀e∈all,e.t<=tm
 n:all.length<=20*i
 len:L.length<=48+440*i
 below:Below w.heap.size w W
structure BkI(w:World)(B:Nat)(all ps:List Ev)(tm:Int)(va vp:Value)(W:World):Prop where
 own:EvO W B vp ps
 all:EvO W w.heap.size va all
 n:ps.length<=20
 ok:∀e∈ps,okE e/\e.t=tm
 below:Below w.heap.size w W
 le:w.heap.size<=B
 sz:B<=W.heap.size
 sep:∀k,va.ownBlock=some k->k<B
def putT(e:Ev)(tm:Int):Ev:={ e with t:=tm }
theorem BkI.push{vp':Value}(h:BkI w B all ps tm va vp W)(ho:EvO W' B vp' (ps++[e]))(hG:Grew vp vp' W W')(hk:okE e)(ht:e.t=tm)(h20:ps.length<20):BkI w B all (ps++[e]) tm va vp' W':=by
 refine⟨ho,h.all.keep (fun g hg=>hG.by'.block g (h.all.ge g hg).2 (fun x=>?_)),by simp;omega,?_,h.below.trans (hG.below (Nat.le_trans h.le h.sz) (fun k hk=>Nat.le_trans h.le (h.own.ge k hk).1)),h.le,Nat.le_trans h.sz hG.by'.size,h.sep⟩
 ·have h1:=h.sep g hg;have h2:=(h.own.ge g x.symm).1
  omega
 ·intro x hx
  rcases List.mem_append.1 hx with hx|hx
  ·exact h.ok x hx
  ·obtain rfl:=List.mem_singleton.1 hx;exact⟨hk,ht⟩
theorem BkI.later(h:BkI w B all ps tm va vp W)(hb:Below W.heap.size W W'):BkI w B all ps tm va vp W':=
 ⟨h.own.below hb,h.all.below hb,h.n,h.ok,h.below.trans (hb.mono h.below.size),h.le,Nat.le_trans h.sz hb.size,h.sep⟩
theorem BkI.turned{b:Nat}(h:BkI w B all ps tm va vp W)(hb:qbl b W W')(h1:vp.ownBlock≠some b)(h2:va.ownBlock≠some b)(hle:w.heap.size<=b):BkI w B all ps tm va vp W':=
 ⟨h.own.turned hb h1,h.all.turned hb h2,h.n,h.ok,hb.below _ _ hle h.below,h.le,by rw[hb.size];exact h.sz,h.sep⟩
theorem BkO.start(h:BkO w i L all tm va W):BkI w W.heap.size all [] tm2 va (.slice none 0 0) W:=
 ⟨EvO.nil _ _,h.own,by simp,by simp,h.below,h.below.size,Nat.le_refl _,fun k hk=>(h.own.ge k hk).2⟩
theorem qf6b(h:∀e∈all,e.t<=tm):qcyb all tm=false:=by
 unfold qcyb
 split
 ·rfl
 ·rename_i e he
  have:=h e (List.mem_of_getLast? he)
  simpa using this
theorem q17b{seq:Int}(hk:∀e∈ps,okE e/\e.t=tm)(h0:0<ps.length)(h20:ps.length<=20)(hs:0<=seq/\seq<=4294967295):mesS seq ps=.tuple #[.string (txt (msgB tm seq 300 (setB ps))),I Z 0]:=by
 have ht:tmE ps=tm:=by
  cases ps with
  | nil=>simp at h0
  | cons e r=>exact(hk e zm).2
 rw[q8j h0 om (fun e he=>⟨(hk e he).1,by rw[ht];exact(hk e he).2⟩),ht,q4t _ _ _ _ (by simp[qi0];omega)]
theorem BkI.none(h:BkI w B all ps tm2 va vp W)(k:BkO w i L all tm va W0)(h1:tm<=tm2)(h2:tm2<=tm+1000):BkO w (i+1) L all tm2 va W:=
 ⟨k.told,h.all,by have:=k.t0;omega,by have:=k.t1;push_cast;omega,fun e he=>by have:=k.ev e he;omega,by have:=k.n;omega,by have:=k.len;omega,h.below⟩
theorem BkI.more{va':Value}(h:BkI w B all ps tm2 va vp W)(k:BkO w i L all tm va W0)(hi:i<=20)(h1:tm<=tm2)(h2:tm2<=tm+1000)(h0:0<ps.length)(ho:EvO W' w.heap.size va' (all++ps))(hG:Grew va va' W W'):BkO w (i+1) (L++msgB tm2 (all.length:Int) 300 (setB ps)) (all++ps) tm2 va' W':=by
 have hn:=h.n;have kn:=k.n
 refine⟨qeab k.told tm2 ps h.ok h0 om om (qf6b (fun e he=>by have:=k.ev e he;omega)),ho,by have:=k.t0;omega,by have:=k.t1;push_cast;omega,fun e he=>?_,by rw[List.length_append];omega,?_,h.below.trans (hG.below h.below.size (fun j hj=>(h.all.ge j hj).1))⟩
 ·rcases List.mem_append.1 he with he|he
  ·have:=k.ev e he;omega
  ·have:=(h.ok e he).2;omega
 ·have:=k.len
  rw[List.length_append,qlj,qnn];omega
theorem q0rb(h:Tab w):Tab w.drew:=h
theorem q1vb(h:qdyb L all):20<=L.length:=by
 obtain⟨P,m,d0,es0,t,q,k,l,hS,_⟩:=h
 rw[hS,List.length_append,qlj];omega
theorem q1gb(h:qdyb L all)(hl:L.length<=100000):
  (∀W,Tab W->Calls prog 15 #[.string (txt L)] W fun x w'=>(∃v,x=.returned (.tuple #[v,I Z 0])/\EvAt w' v all)/\Below W.heap.size W w')/\
  ((∀W,Tab W->Calls prog 15 #[.string (txt (L.take (L.length-1)))] W fun x w'=>(∃v,x=.returned (.tuple #[v,I Z 1]))/\Below W.heap.size W w'))/\∃k:Nat,(L.length:Int)=(k:Int)+1/\k=L.length-1:=by
 have h20:=q1vb h
 refine⟨fun W hT=>(qf2b L W hT om).mono ?_,fun W hT=>(qf2b (L.take (L.length-1)) W hT (by rw[List.length_take];omega)).mono ?_,L.length-1,by omega,rfl⟩
 ·rintro x w' ⟨⟨v,rfl,hv⟩,hb⟩
  rw[qfyb h] at hv ⊢
  exact⟨⟨v,rfl,hv⟩,hb⟩
 ·rintro x w' ⟨⟨v,rfl,hv⟩,hb⟩
  (have e:(L.take (L.length-1)).length=L.length-1:=by rw[List.length_take];omega);rw[e,q1ob h]
  exact⟨⟨v,rfl⟩,hb⟩
theorem hidR(h:p):Hid p:=h
theorem q0ab(m:Nat):Value.int .i64 ((m:Int)+1)=I Z ((m+1:Nat):Int):=by simp
theorem q0cb{m:Nat}(h:wrap64 ((m:Int)+1)=(m:Int)+1):Value.int .i64 (wrap64 ((m:Int)+1))=I Z ((m+1:Nat):Int):=by rw[h];simp
theorem q1eb(h:j<20):20-((j:Int)+1).toNat<20-((j:Int)).toNat:=by omega
theorem q14b(h:j<20):wrap64 ((j:Int)+1)=(j:Int)+1:=by unfold wrap64;omega
theorem sZrr72(h:p:=by
 go_wp2_with (first|((with_reducible refine gL 29 48 ?_);refine qlr (.tmp 48) rfl rfl _ _ rfl e rE ?_)|((with_reducible refine gA 29 ?_);refine ay 29 qr3 ?_;intro b1 w1 l1 R1 hb1;have n1p:=SI.own.new l1;have n1a:=SI.all.new l1;have lw:=Nat.le_trans SI.below.size l1;replace SI:=SI.later hb1)|((with_reducible refine gS 29 10 49 ?_);refine qab 29 rfl _ _ rfl b1 kr (ec e) kr _ R1 rfl (qf2 e) (qqy e) ?_;intro w2 R2 t2;replace SI:=SI.turned t2 n1p n1a lw)|((with_reducible refine gS 3 51 50 ?_);refine qbb R2 rfl _ _ rfl 0 kr tm2 kr _ rfl (ec (putT e tm2)) rfl ?_;intro w3 R3 t3;replace SI:=SI.turned t3 n1p n1a lw)|((with_reducible refine gL 29 10 ?_);refine lx 29 (.tmp 10) (ec (putT e tm2)) R3 ?_)|(go_at_call 12;go_fit (CG _);rintro x w5 ⟨rfl,hb5⟩;replace R3:=R3.below hb5;replace SI:=SI.later hb5))
 go_roundw
 case rel=>first|exact⟨m+1,ps,_,_,_,q0ab m,rfl,HP,hidR (Nat.succ_le_of_lt HM.out),SI⟩|exact⟨m+1,ps,_,_,_,q0cb hmw,rfl,HP,hidR (Nat.succ_le_of_lt HM.out),SI⟩|((repeat apply Exists.intro);first|exact⟨⟨m+1,ps,_,_,_,q0ab m,rfl,HP,hidR (Nat.succ_le_of_lt HM.out),SI⟩,rfl⟩|exact⟨⟨m+1,ps,_,_,_,q0cb hmw,rfl,HP,hidR (Nat.succ_le_of_lt HM.out),SI⟩,rfl⟩)
 case measure=>(first|rw[hmw]|skip);exact q8s (HB.out.symm▸HM.out)):p:=h
theorem recordBack_walk(sl:Value)(ts:List Td)(w:World)(hM:qz6b w sl ts)(hT:Tab w):Calls prog 6 #[sl] w fun x w'=>x=.returned (.bool true)/\Below w.heap.size w w':=by
 refine m2b ?_;intro hB;have hw0:=hT.lt;have hT0:=hT;(have CT:∀w,Tab w->Calls prog 10 #[I Z 0] w fun x w'=>x=.returned (.tuple #[.string (txt (msgB 0 0 2 (tplB 6))),I Z 0])/\Below w.heap.size w w':=fun w hT=>by have:=qu3 0 w hT;rw[q4t _ _ _ _ q0sb] at this;exact this);obtain⟨a0,cap,hsl⟩:=hM.slice
 obtain⟨N,hN⟩:∃N,N=ts.length:=⟨_,rfl⟩
 rw[←hN] at hsl
 subst hsl
 have HN:Hid (N=ts.length):=hN;clear hN
 go_enter func6,ntmps6
 go_wp2_with (first|(go_at_call 19;refine(q0kb _ hT).mono ?_;rintro x w5 ⟨rfl,hb5⟩;replace hT:=hT.below hb5;replace hB:=hB.trans (hb5.mono hB.size))|(go_at_call 10;refine(CT _ hT).mono ?_;refine m1k ?_;clear hB;intro w5 hb5 hB))
 (have S0:BkO w 0 (msgB 0 0 2 (tplB 6)) [] 0 (.slice none 0 0) _:=⟨qf9b,EvO.nil _ _,by omega,by simp,by simp,by simp,by rw[qlj,qqi];omega,hB⟩);clear hT hB CT
 go_loopw [3,5,6,7] (fun s v n i W=>∃(j:Nat) (L:List UInt8) (all:List Ev) (tm:Int) (aa:Option Addr) (n1 ca:Nat),i=I Z (j:Int)/\s=.string (txt L)/\n=I Z tm/\v=.slice aa n1 ca/\Hid (n1=all.length)/\Hid (j<=20)/\BkO w j L all tm (.slice aa n1 ca) W) (fun _ _ _ i _=>20-(intOf i).toNat)
 case atStart=>exact⟨0,_,[],0,none,0,0,rfl,rfl,rfl,rfl,rfl,Nat.zero_le _,S0⟩
 case round=>
  clear S0
  obtain⟨j,L,all,tm,aa,n1,ca,rfl,rfl,rfl,rfl,HA,Hj,S⟩:=hrel
  by_cases hin:j<ts.length/\j<20
  ·(have g1:(j:Int)<(N:Int):=by have:=HN.out;omega);(have g2:(j:Int)<20:=by omega);have HJ:Hid (j<20):=hin.2;have hjw:=q14b hin.2
   obtain⟨tj,vj,ej,he⟩:∃t v es,ts[j]'hin.1=(t,v,es):=⟨_,_,_,rfl⟩
   obtain⟨c0,c1,-⟩:=(hM.keep S.below).at j hin.1 he
   have hE:=(hM.at j hin.1 he).2.2;(have IT:=fun w2=>hM.index j hin.1 w2)
   obtain⟨nb,hnb⟩:∃n,n=ej.length:=⟨_,rfl⟩
   obtain⟨ab,cb,eb1⟩:=hE.slice
   rw[←hnb] at eb1
   subst eb1
   have HB:Hid (nb=ej.length):=hnb;clear hnb he
   obtain⟨r,hr⟩:∃r,r=tj%1000:=⟨_,rfl⟩
   (have CP:∀w,Calls prog 20 #[I Z tj,I Z 1000] w fun e w'=>e=.returned (I Z r)/\w'=w:=fun w=>by rw[hr];exact q1kb tj 1000 w om om)
   obtain⟨tm2,htm⟩:∃x,x=tm+r:=⟨_,rfl⟩
   (have HT:Hid (tm<=tm2/\tm2<=tm+1000/\0<=tm2/\tm2<=100000):=by have:=S.t0;have:=S.t1;have:=hin.2;exact hidR om);(have hwr:wrap64 (tm+r)=tm2:=by rw[←htm];have:=HT.out;unfold wrap64;omega);clear htm hr hin
   obtain⟨B,SI⟩:∃B,BkI w B all [] tm2 (.slice aa n1 ca) (.slice none 0 0) _:=⟨_,S.start⟩
   go_wp2_with (go_at_call 20;go_fit (CP _);rintro e w' ⟨rfl,hw⟩;rw[hw];clear hw w')
   (try simp only[hwr]);clear c0 c1 IT CP hwr
   go_loopw [8,46] (fun v k W=>∃(m:Nat) (ps:List Ev) (ap:Option Addr) (np cp:Nat),k=I Z (m:Int)/\v=.slice ap np cp/\Hid (np=ps.length)/\Hid (m<=ej.length)/\BkI w B all ps tm2 (.slice aa n1 ca) (.slice ap np cp) W) (fun _ k _=>nb-(intOf k).toNat)
   case atStart=>exact⟨0,[],none,0,0,rfl,rfl,rfl,Nat.zero_le _,SI⟩
   case round=>
    clear SI
    obtain⟨m,ps,ap,np,cp,rfl,rfl,HP,Hm,SI⟩:=hrel
    by_cases hml:m<ej.length
    ·(have mn:(m:Int)<(nb:Int):=by have:=HB.out;omega);have hmw:=q8g hml hE.len;have HM:Hid (m<ej.length):=hml
     obtain⟨e,hee⟩:∃e,ej[m]=e:=⟨_,rfl⟩
     (have IE:=fun w2=>hE.index m hml w2);have rE:=(hE.below SI.below).at m hml hee;clear hee hml g1 g2
     by_cases hk:okE (putT e tm2)
     ·(have CG:∀w,Calls prog 12 #[.agg (ec (putT e tm2))] w fun x w'=>x=.returned (I Z 0)/\Below w.heap.size w w':=fun w=>by have:=qro (putT e tm2) w;rw[qs0 hk] at this;exact this);have HK:Hid (okE (putT e tm2)):=hk;clear hk
      by_cases h20:ps.length<20
      ·(have g3:decide ((np:Int)<20)=true:=by have:=HP.out;simp;omega);have H20:Hid (ps.length<20):=h20;have HL:Hid (ps.length<=5000000000):=hidR om;clear h20
       go_wp2_with (first|((with_reducible refine gL 29 48 ?_);refine qlr (.tmp 48) rfl rfl _ _ rfl e rE ?_)|((with_reducible refine gA 29 ?_);refine ay 29 qr3 ?_;intro b1 w1 l1 R1 hb1;have n1p:=SI.own.new l1;have n1a:=SI.all.new l1;have lw:=Nat.le_trans SI.below.size l1;replace SI:=SI.later hb1)|((with_reducible refine gS 29 10 49 ?_);refine qab 29 rfl _ _ rfl b1 kr (ec e) kr _ R1 rfl (qf2 e) (qqy e) ?_;intro w2 R2 t2;replace SI:=SI.turned t2 n1p n1a lw)|((with_reducible refine gS 3 51 50 ?_);refine qbb R2 rfl _ _ rfl 0 kr tm2 kr _ rfl (ec (putT e tm2)) rfl ?_;intro w3 R3 t3;replace SI:=SI.turned t3 n1p n1a lw)|((with_reducible refine gL 29 10 ?_);refine lx 29 (.tmp 10) (ec (putT e tm2)) R3 ?_)|(go_at_call 12;go_fit (CG _);rintro x w5 ⟨rfl,hb5⟩;replace R3:=R3.below hb5;replace SI:=SI.later hb5)|((with_reducible refine atOp (.buildSlice 22 1 #[(0,.tmp 61)]) rfl ?_);refine qbj rfl (.tmp 61) rfl (putT e tm2) kr ?_;intro b6 w6 l6 R6 hb6;replace SI:=SI.later hb6)|((with_reducible refine atOp (.call { callee:=.builtin .append,args:=#[.tmp 60,.tmp 62],argTypes:=#[22,22] }) rfl ?_);refine qwb rfl (.tmp 60) (.tmp 62) rfl SI.own R6 kr kr HL.out SI.sz ?_;intro v8 w8 hE8 hG8;replace SI:=SI.push hE8 hG8 HK.out rfl H20.out;obtain⟨n8,hn8⟩:∃n,n=(ps++[putT e tm2]).length:=⟨_,rfl⟩;obtain⟨a8,c8,e8⟩:=hE8.slice;rw[←hn8] at e8;have H8:Hid (n8=(ps++[putT e tm2]).length):=hn8;clear hn8;subst e8;clear hE8 hG8))
       go_roundw
       case rel=>first|exact⟨m+1,ps++[putT e tm2],_,_,_,q0ab m,rfl,H8,hidR (Nat.succ_le_of_lt HM.out),SI⟩|exact⟨m+1,ps++[putT e tm2],_,_,_,q0cb hmw,rfl,H8,hidR (Nat.succ_le_of_lt HM.out),SI⟩|((repeat apply Exists.intro);first|exact⟨⟨m+1,ps++[putT e tm2],_,_,_,q0ab m,rfl,H8,hidR (Nat.succ_le_of_lt HM.out),SI⟩,rfl⟩|exact⟨⟨m+1,ps++[putT e tm2],_,_,_,q0cb hmw,rfl,H8,hidR (Nat.succ_le_of_lt HM.out),SI⟩,rfl⟩)
       case measure=>(first|rw[hmw]|skip);exact q8s (HB.out.symm▸HM.out)
      ·(have g3:decide ((np:Int)<20)=false:=by have:=HP.out;simp;omega);clear h20
       exact sZrr72
     ·(have CG:∀w,Calls prog 12 #[.agg (ec (putT e tm2))] w fun x w'=>x=.returned (I Z 2)/\Below w.heap.size w w':=fun w=>by have:=qro (putT e tm2) w;rw[qlh hk] at this;exact this);clear hk
      exact sZrr72
    ·(have mn:¬(m:Int)<(nb:Int):=by have:=HB.out;omega);clear hml Hm g1 g2;(have HS:Hid (0<=(n1:Int)/\(n1:Int)<=4294967295/\all.length<=100000):=by have:=S.n;have:=HA.out;have:=HJ.out;exact hidR om);(have HQ:Hid (ps.length<=3518437208780/\ps.length<=100000):=by have:=SI.n;exact hidR om)
     by_cases h0:0<ps.length
     ·(have hnz:((np:Int)==0)=false:=by have:=HP.out;simp;omega);have H0:Hid (0<ps.length):=h0
      obtain⟨M,hMM⟩:∃M,M=msgB tm2 (n1:Int) 300 (setB ps):=⟨_,rfl⟩
      (have CM:∀W,EvAt W (.slice ap np cp) ps->Calls prog 8 #[I Z (n1:Int),.slice ap np cp] W fun x w'=>x=.returned (.tuple #[.string (txt M),I Z 0])/\Below W.heap.size W w':=fun W hE=>by have:=qwm (n1:Int) _ ps W hE;rw[q17b SI.ok h0 SI.n ⟨HS.out.1,HS.out.2.1⟩,←hMM] at this;exact this);have HMM:Hid (M=msgB tm2 (n1:Int) 300 (setB ps)):=hMM;have hsz:=qck L;have hszM:=qck M;(have hLl:L.length<=100000:=by have:=S.len;have:=HJ.out;omega);(have hMl:M.length<=100000:=by rw[HMM.out,qlj,qnn];have:=SI.n;omega);clear hMM h0
      go_wp2_with (first|(go_at_call 8;refine(CM _ (SI.own.at HQ.out.1)).mono ?_;rintro x w5 ⟨rfl,hb5⟩;replace SI:=SI.later hb5)|((with_reducible refine atOp (.call { callee:=.builtin .append,args:=#[.tmp 86,.tmp 87],argTypes:=#[22,22] }) rfl ?_);refine q1bb rfl (.tmp 86) (.tmp 87) rfl SI.all (SI.own.at HQ.out.1) kr kr H0.out HS.out.2.2 HQ.out.2 SI.below.size ?_;intro v8 w8 hE8 hG8;obtain⟨n8,hn8⟩:∃n,n=(all++ps).length:=⟨_,rfl⟩;obtain⟨a8,c8,e8⟩:=hE8.slice;rw[←hn8] at e8;have H8:Hid (n8=(all++ps).length):=hn8;clear hn8;subst e8))
      have S2:=SI.more S (Nat.le_of_lt HJ.out) HT.out.1 HT.out.2.1 H0.out hE8 hG8
      rw[←HA.out,←HMM.out] at S2
      go_roundw
      case rel=>first|exact⟨j+1,L++M,all++ps,tm2,_,_,_,q0ab j,congrArg Value.string (qj5b L M),rfl,rfl,H8,hidR (Nat.succ_le_of_lt HJ.out),S2⟩|exact⟨j+1,L++M,all++ps,tm2,_,_,_,q0cb hjw,congrArg Value.string (qj5b L M),rfl,rfl,H8,hidR (Nat.succ_le_of_lt HJ.out),S2⟩|((repeat apply Exists.intro);first|exact⟨⟨j+1,L++M,all++ps,tm2,_,_,_,q0ab j,congrArg Value.string (qj5b L M),rfl,rfl,H8,hidR (Nat.succ_le_of_lt HJ.out),S2⟩,rfl⟩|exact⟨⟨j+1,L++M,all++ps,tm2,_,_,_,q0cb hjw,congrArg Value.string (qj5b L M),rfl,rfl,H8,hidR (Nat.succ_le_of_lt HJ.out),S2⟩,rfl⟩)
      case measure=>(first|rw[hjw]|skip);exact q1eb HJ.out
     ·(have hnp:np=0:=by have:=HP.out;omega);(have hnz:((np:Int)==0)=true:=by rw[hnp];rfl);(have CM:∀W,EvAt W (.slice ap np cp) ps->Calls prog 8 #[I Z (n1:Int),.slice ap np cp] W fun x w'=>x=.returned (.tuple #[.string ByteArray.empty,I Z 7])/\Below W.heap.size W w':=fun W hE=>by have:=qwm (n1:Int) _ ps W hE;rw[q15 om] at this;exact this);clear h0 hnp
      go_wp2_with (go_at_call 8;refine(CM _ (SI.own.at HQ.out.1)).mono ?_;rintro x w5 ⟨rfl,hb5⟩;replace SI:=SI.later hb5)
      have S2:=SI.none S HT.out.1 HT.out.2.1
      go_roundw
      case rel=>first|exact⟨j+1,L,all,tm2,_,_,_,q0ab j,rfl,rfl,rfl,HA,hidR (Nat.succ_le_of_lt HJ.out),S2⟩|exact⟨j+1,L,all,tm2,_,_,_,q0cb hjw,rfl,rfl,rfl,HA,hidR (Nat.succ_le_of_lt HJ.out),S2⟩|((repeat apply Exists.intro);first|exact⟨⟨j+1,L,all,tm2,_,_,_,q0ab j,rfl,rfl,rfl,HA,hidR (Nat.succ_le_of_lt HJ.out),S2⟩,rfl⟩|exact⟨⟨j+1,L,all,tm2,_,_,_,q0cb hjw,rfl,rfl,rfl,HA,hidR (Nat.succ_le_of_lt HJ.out),S2⟩,rfl⟩)
      case measure=>(first|rw[hjw]|skip);exact q1eb HJ.out
  ·(have hex:(¬(j:Int)<(N:Int))\/((j:Int)<(N:Int)/\¬(j:Int)<20):=by have:=HN.out;omega);clear hin
   rcases hex with g1|⟨g1,g2⟩
   all_goals (
   have hsz:(txt L).size=L.length:=qck L;have hE2:=S.own.at (by have:=S.n;have:=Hj.out;omega);(have hnn:((n1:Int) != (n1:Int))=false:=by simp);obtain⟨CR,CR2,k,hk,hkl⟩:=q1gb S.told (by have:=S.len;have:=Hj.out;omega);(have HKK:Hid ((L.length:Int)=(k:Int)+1/\k=L.length-1/\k<=100000):=⟨hk,hkl,by have:=S.len;have:=Hj.out;omega⟩);clear hk hkl;have hTW:=hT0.keep S.below hw0;have hB:=S.below;clear S
   go_wp2_with (go_at_call 15;refine(CR _ hTW).mono ?_;rintro x w5 ⟨⟨v1,rfl,h1⟩,hb5⟩;obtain⟨b1,d1,e1⟩:=h1.slice;rw[←HA.out] at e1;subst e1;have h2:=hE2.below hb5;replace hTW:=hTW.below hb5;replace hB:=hB.trans (hb5.mono hB.size))
   clear hE2 CR
   go_loopw [105] (fun i W=>∃q:Nat,q<=all.length/\i=I Z (q:Int)/\EvAt W (.slice b1 n1 d1) all/\EvAt W (.slice aa n1 ca) all/\Tab W/\Below w.heap.size w W) (fun i _=>n1-(intOf i).toNat)
   case atStart=>exact⟨0,Nat.zero_le _,rfl,h1,h2,hTW,hB⟩
   case round=>
    clear h1 h2 hTW hB
    obtain⟨q,hq,rfl,h1,h2,hT,hB⟩:=hrel
    by_cases hlq:q<all.length
    ·(have hqn:(q:Int)<(n1:Int):=by have:=HA.out;omega);have hqw:=q8g hlq h1.len
     obtain⟨e,he⟩:∃e,all[q]=e:=⟨_,rfl⟩
     (have I1:=fun w2=>h1.index q hlq w2);(have I2:=fun w2=>h2.index q hlq w2)
     go_upto_region 31 with fail
     refine RD (fun W=>EvAt W (.slice b1 n1 d1) all/\EvAt W (.slice aa n1 ca) all) ⟨h1,h2⟩ (fun _=>?_)
     refine tq 0 (.slice b1 n1 d1) rfl ⟨h1,h2⟩ (tq 1 (I Z (q:Int)) rfl ⟨h1,h2⟩ (tk 2 (V (some ⟨eb (.slice b1 n1 d1),eo (.slice b1 n1 d1)+5*q,none⟩)) rfl (qgk 22 (.tmp 108) (.tmp 109) rfl kr _ _ _ kr kr I1) ⟨h1,h2⟩ ?_));simp only[ZZ]
     refine tk 3 (.agg (ec e)) rfl (qz8b (.tmp 110) rfl kr _ _ kr e (fun w h=>h.1.at q hlq he)) ⟨h1,h2⟩ (tq 4 (.slice aa n1 ca) rfl ⟨h1,h2⟩ (tq 5 (I Z (q:Int)) rfl ⟨h1,h2⟩ ?_))
     simp only[ZZ]
     refine tk 6 (V (some ⟨eb (.slice aa n1 ca),eo (.slice aa n1 ca)+5*q,none⟩)) rfl (qgk 22 (.tmp 112) (.tmp 113) rfl kr _ _ _ kr kr I2) ⟨h1,h2⟩ (tk 7 (.agg (ec e)) rfl (qz8b (.tmp 114) rfl kr _ _ kr e (fun w h=>h.2.at q hlq he)) ⟨h1,h2⟩ (tk 8 (.bool false) rfl (q0zb (.tmp 111) (.tmp 115) rfl kr e kr kr) ⟨h1,h2⟩ ?_))
     refine m1r ?_
     go_wp2
     go_roundw
     case rel=>first|exact⟨q+1,Nat.succ_le_of_lt hlq,q0ab q,h1.drew,h2.drew,q0rb hT,qcxb hB⟩|exact⟨q+1,Nat.succ_le_of_lt hlq,q0cb hqw,h1.drew,h2.drew,q0rb hT,qcxb hB⟩|((repeat apply Exists.intro);first|exact⟨⟨q+1,Nat.succ_le_of_lt hlq,q0ab q,h1.drew,h2.drew,q0rb hT,qcxb hB⟩,rfl⟩|exact⟨⟨q+1,Nat.succ_le_of_lt hlq,q0cb hqw,h1.drew,h2.drew,q0rb hT,qcxb hB⟩,rfl⟩)
     case measure=>(first|rw[hqw]|skip);exact q8s (HA.out.symm▸hlq)
    ·(have hqn:¬(q:Int)<(n1:Int):=by have:=HA.out;omega);clear hlq hq;have hx:=qdmb L k;(have hkw:wrap64 ((L.length:Int)-1)=(k:Int):=by rw[HKK.out.1];have:=HKK.out.2.2;unfold wrap64;omega);(have hkb:(k:Int)<=(L.length:Int):=by have:=HKK.out.1;omega)
     rw[←HKK.out.2.1] at CR2
     go_wp2_with (go_at_call 15;refine(CR2 _ hT).mono ?_;rintro x w5 ⟨⟨v2,rfl⟩,hb5⟩;replace hB:=hB.trans (hb5.mono hB.size))
     go_ret
     exact⟨rfl,hB⟩)
def q0hb(a k:Int)(x:Int)(e:Ev):Int:=if e.a=a/\e.b=k then ownN e else x
def qz9b(es:List Ev)(a k:Int)(j:Nat):Int:=(es.take j).foldl (q0hb a k) 0
theorem q1hb(h:j<es.length)(he:es[j]=e):qz9b es a k (j+1)=q0hb a k (qz9b es a k j) e:=by
 unfold qz9b
 rw[List.take_succ_eq_append_getElem h,List.foldl_append,he];rfl
theorem q0vb(h:e.a=a/\e.b=k):q0hb a k x e=ownN e:=if_pos h
theorem q0yb(h:¬(e.a=a/\e.b=k)):q0hb a k x e=x:=if_neg h
theorem held(es:List Ev)(f F:Nat->Int)(h:qcub f es=(0,F)):(∀e∈es,okE e)/\∀A K:Nat,A<3->K<6->F (6*A+K)=es.foldl (q0hb A K) (f (6*A+K)):=by
 induction es generalizing f with
 | nil=>
  have:f=F:=by have:=congrArg Prod.snd h;exact this
  subst this
  exact⟨fun e he=>by simp at he,fun A K _ _=>rfl⟩
 | cons e r ih=>
  unfold qcub at h
  by_cases hk:okE e
  ·rw[if_pos hk] at h
   by_cases hE:bhE (f (at6 e)) e=0
   ·rw[if_pos hE] at h
    obtain⟨h1,h2⟩:=ih _ h
    refine⟨fun x hx=>?_,fun A K hA hK=>?_⟩
    ·rcases List.mem_cons.1 hx with rfl|hx
     ·exact hk
     ·exact h1 x hx
    ·rw[h2 A K hA hK,List.foldl_cons]
     congr 1
     have hk':=hk
     unfold okE at hk'
     by_cases hs:e.a=(A:Int)/\e.b=(K:Int)
     ·rw[q0vb hs]
      have:6*A+K=at6 e:=by unfold at6;omega
      unfold upd;rw[if_pos this]
     ·rw[q0yb hs]
      have:6*A+K≠at6 e:=by unfold at6;omega
      unfold upd;rw[if_neg this]
   ·rw[if_neg hE] at h
    exact absurd (congrArg Prod.fst h) hE
  ·rw[if_neg hk] at h
   exact absurd (congrArg Prod.fst h) zm
theorem q12b(h:qcub z0 es=(0,F))(A K:Nat)(hA:A<3)(hK:K<6)(j:Nat)(hj:es.length<=j):F (6*A+K)=qz9b es A K j:=by
 rw[(held es z0 F h).2 A K hA hK];unfold qz9b;rw[List.take_of_length_le hj];rfl
theorem q1zb(h:qcub z0 es=(0,F))(hj:j<es.length)(he:es[j]=e):okE e:=(held es z0 F h).1 e (by rw[←he];exact List.getElem_mem hj)
theorem q2ab:wfF z0:=fun i _=>by simp[z0,Lit.wf,IntKind.min,IntKind.max,IntKind.bits,IntKind.signed]
theorem q1ab(es:List Ev)(f:Nat->Int):(qcub f es).1=0\/((qcub f es).1≠0/\(qcub f es).2=z0):=by
 induction es generalizing f with
 | nil=>exact .inl rfl
 | cons e r ih=>
  unfold qcub
  by_cases hk:okE e
  ·rw[if_pos hk]
   by_cases hE:bhE (f (at6 e)) e=0
   ·rw[if_pos hE];exact ih _
   ·rw[if_neg hE];exact .inr ⟨hE,rfl⟩
  ·rw[if_neg hk];exact .inr ⟨by decide,rfl⟩
theorem sZrr74(h:p:=by
 go_roundw
 case rel=>first|exact⟨j+1,by omega,by go_num,by rw[HL.out,HX.out],hB,R3⟩|((repeat apply Exists.intro);exact⟨⟨j+1,by omega,by go_num,by rw[HL.out,HX.out],hB,R3⟩,rfl⟩)
 case measure=>(first|rw[hjw]|skip);exact q8s (HN.out.symm▸hlj)):p:=h
theorem sZrr71(h:p:=by
 (have g0:(e.a==(A:Int))=true:=by simpa using ha);(have g1:(e.b==(Z:Int))=true:=by simpa using hb);clear ha hb hfr
 go_wp2_with (first|((with_reducible refine atOp (.indexAddr 22 (.tmp 35) (.tmp 37)) rfl ?_);refine qh0 22 (.tmp 35) (.tmp 37) rfl rfl _ _ _ rfl rfl (IR _) ?_)|((with_reducible refine gL 29 39 ?_);refine qlr (.tmp 39) rfl rfl _ _ rfl e hrg ?_)|((with_reducible refine gA 29 ?_);refine ax 9 29 qr3 ?_;intro b9 w3 l9 R9 hb3;have n39:=R3.ne l9;replace l9:=Nat.le_trans hB.size l9;replace R3:=R3.below hb3;replace hB:=hB.trans (hb3.mono hB.size);clear hrg hMW)|((with_reducible refine gS 29 9 40 ?_);refine qab 29 rfl (.tmp 9) (.tmp 40) rfl b9 rfl (ec e) rfl _ R9 rfl (qf2 e) (qqy e) ?_;intro w4 R9 t4;replace R3:=t4.row R3 n39;replace hB:=t4.below _ _ l9 hB)|((with_reducible refine gL 3 41 ?_);refine fx R9 _ 2 _ ?_)|((with_reducible refine gL 3 46 ?_);refine fx R9 _ 3 _ ?_)|((with_reducible refine gL 3 51 ?_);refine fx R9 _ 1 _ ?_)|((with_reducible refine gL 4 54 ?_);refine qv3 R9 _ rfl rfl 4 rfl _ cF ?_))
 exact sZrr74):p:=h
theorem sZrr73(h:p:=by
 go_wp2_with (first|((with_reducible refine atOp (.indexAddr 22 (.tmp 35) (.tmp 37)) rfl ?_);refine qh0 22 (.tmp 35) (.tmp 37) rfl rfl _ _ _ rfl rfl (IR _) ?_)|((with_reducible refine gL 29 39 ?_);refine qlr (.tmp 39) rfl rfl _ _ rfl e hrg ?_)|((with_reducible refine gA 29 ?_);refine ax 9 29 qr3 ?_;intro b9 w3 l9 R9 hb3;have n39:=R3.ne l9;replace l9:=Nat.le_trans hB.size l9;replace R3:=R3.below hb3;replace hB:=hB.trans (hb3.mono hB.size);clear hrg hMW)|((with_reducible refine gS 29 9 40 ?_);refine qab 29 rfl (.tmp 9) (.tmp 40) rfl b9 rfl (ec e) rfl _ R9 rfl (qf2 e) (qqy e) ?_;intro w4 R9 t4;replace R3:=t4.row R3 n39;replace hB:=t4.below _ _ l9 hB)|((with_reducible refine gL 3 41 ?_);refine fx R9 _ 2 _ ?_)|((with_reducible refine gL 3 46 ?_);refine fx R9 _ 3 _ ?_)|((with_reducible refine gL 3 51 ?_);refine fx R9 _ 1 _ ?_))
 exact sZrr74):p:=h
theorem recordHeld_walk(sl:Value)(es:List Ev)(w:World)(hM:EvAt w sl es)(hT:Tab w):Calls prog 7 #[sl] w fun x w'=>x=.returned (.bool true)/\Below w.heap.size w w':=by
 refine m2b ?_;intro hB;(have C1:=fun(sl:Value) (w:World) (h:EvAt w sl es)=>qfdb sl es w h)
 unfold ownS at C1
 obtain⟨a0,cap,hsl⟩:=hM.slice
 subst hsl
 obtain⟨n,hn⟩:∃n,n=es.length:=⟨_,rfl⟩
 rw[←hn] at hM ⊢
 have HN:Hid (n=es.length):=hn;clear hn;have hlt:=hM.lt
 rcases q1ab es z0 with hc|⟨hc,hz⟩
 ·obtain⟨F,hF⟩:∃F,qcub z0 es=(0,F):=⟨(qcub z0 es).2,by rw[←hc]⟩
  rw[hF] at C1
  have HH:Hid (qcub z0 es=(0,F)):=hF;clear hc hF
  simp only at C1
  go_enter func7,ntmps7
  go_wp2_with (first|(go_at_call 17;refine(C1 _ _ hM).mono ?_;refine m1k ?_;clear hB;intro w5 hb5 hB)|((with_reducible refine gA 39 ?_);refine m33 ?_;clear hB;intro b3 w3 R3 hb3 l3 hB)|((with_reducible refine gS 39 3 13 ?_);refine sx 39 (.tmp 3) (.tmp 13) (pc F g0') R3 ?_;intro w6 R3 t6;replace hB:=t6.below _ _ l3 hB)|(go_at_call 19;refine(q0kb _ (hT.keep hB hT.lt)).mono ?_;rintro x w5 ⟨rfl,hb5⟩;replace R3:=R3.below hb5;replace hB:=hB.trans (hb5.mono hB.size)))
  go_loopw [5] (fun i W=>∃A:Nat,A<=3/\i=.int .i64 (A:Int)/\Below w.heap.size w W/\Row 39 W b3 (pc F g0')) (fun i _=>3-(intOf i).toNat)
  case atStart=>exact⟨0,by omega,rfl,hB,R3⟩
  case round=>
   clear hB R3
   obtain⟨A,hA,rfl,hB,R3⟩:=hrel
   by_cases hA3:A<3
   ·(have hA':(A:Int)<3:=by omega);(have hAw:wrap64 ((A:Int)+1)=(A:Int)+1:=by unfold wrap64;omega)
    go_wp2
    go_loopw [6] (fun i W=>∃K:Nat,K<=6/\i=.int .i64 (K:Int)/\Below w.heap.size w W/\Row 39 W b3 (pc F g0')) (fun i _=>6-(intOf i).toNat)
    case atStart=>exact⟨0,by omega,rfl,hB,R3⟩
    case round=>
     clear hB R3
     obtain⟨Z,hZ,rfl,hB,R3⟩:=hrel
     by_cases hZ6:Z<6
     ·(have hZ':(Z:Int)<6:=by omega);(have hZw:wrap64 ((Z:Int)+1)=(Z:Int)+1:=by unfold wrap64;omega)
      go_wp2
      go_loopw [7,37] (fun x i W=>∃j:Nat,j<=es.length/\i=.int .i64 (j:Int)/\x=.int .i64 (qz9b es A Z j)/\Below w.heap.size w W/\Row 39 W b3 (pc F g0')) (fun _ i _=>n-(intOf i).toNat)
      case atStart=>exact⟨0,by omega,rfl,rfl,hB,R3⟩
      case round=>
       clear hB R3
       obtain⟨j,hj,rfl,rfl,hB,R3⟩:=hrel
       by_cases hlj:j<es.length
       ·refine m28 ?_;intro hjn hjw
        obtain⟨e,he⟩:∃e,es[j]=e:=⟨_,rfl⟩
        refine m20 ?_;intro hMW hrg IR;have hk:=q1zb HH.out hlj he;have hs0:=hk.2.1.1;have hs1:=hk.2.1.2;(have hws:wrap64 (e.s+1)=e.s+1:=by unfold wrap64;omega);have HL:Hid (qz9b es A Z (j+1)=q0hb A Z (qz9b es A Z j) e):=q1hb hlj he;clear hk he
        by_cases ha:e.a=(A:Int)
        ·by_cases hb:e.b=(Z:Int)
         ·cases hfr:e.fr with
          | false=>
           (have HX:Hid (q0hb A Z (qz9b es A Z j) e=e.s+1):=by show _=_;rw[q0vb ⟨ha,hb⟩];unfold ownN;rw[hfr];rfl);(have cF:(ec e)[4]?=some (.bool false):=by rw[←hfr];rfl)
           exact sZrr71
          | true=>
           (have HX:Hid (q0hb A Z (qz9b es A Z j) e=0):=by show _=_;rw[q0vb ⟨ha,hb⟩];unfold ownN;rw[hfr];rfl);(have cF:(ec e)[4]?=some (.bool true):=by rw[←hfr];rfl)
           exact sZrr71
         ·have HX:Hid (q0hb A Z (qz9b es A Z j) e=qz9b es A Z j):=q0yb (fun h=>hb h.2);(have g0:(e.a==(A:Int))=true:=by simpa using ha);(have g1:(e.b==(Z:Int))=false:=by simpa using hb);clear ha hb
          exact sZrr73
        ·have HX:Hid (q0hb A Z (qz9b es A Z j) e=qz9b es A Z j):=q0yb (fun h=>ha h.1);(have g0:(e.a==(A:Int))=false:=by simpa using ha);clear ha
         exact sZrr73
       ·(have hjn:¬(j:Int)<(n:Int):=by have:=HN.out;omega);have HE:Hid (F (6*A+Z)=qz9b es A Z j):=q12b HH.out A Z hA3 hZ6 j om;(have h18:6*A+Z<18:=by omega);rw[←HE.out]
        go_wp2_with (first|((with_reducible refine atOp (.indexAddr 36 (.tmp 59) (.tmp 57)) rfl ?_);refine qh0 36 (.tmp 59) (.tmp 57) rfl rfl _ _ _ rfl rfl (idxA b3 A hA3 _) ?_)|((with_reducible refine atOp (.indexAddr 35 (.tmp 60) (.tmp 58)) rfl ?_);refine qh0 35 (.tmp 60) (.tmp 58) rfl rfl _ _ _ rfl rfl (idxK b3 A Z hZ6 _) ?_)|((with_reducible refine gL 3 61 ?_);refine qae R3 _ rfl rfl (6*A+Z) rfl _ (q1x F g0' _ h18) ?_))
        go_roundw
        case rel=>first|exact⟨Z+1,by omega,by go_num,hB,R3⟩|((repeat apply Exists.intro);exact⟨⟨Z+1,by omega,by go_num,hB,R3⟩,rfl⟩)
        case measure=>(first|rw[hZw]|skip);exact q8s hZ6
     ·(have hZ':¬(Z:Int)<6:=by omega)
      go_wp2
      go_roundw
      case rel=>first|exact⟨A+1,by omega,by go_num,hB,R3⟩|((repeat apply Exists.intro);exact⟨⟨A+1,by omega,by go_num,hB,R3⟩,rfl⟩)
      case measure=>(first|rw[hAw]|skip);exact q8s hA3
   ·(have hA':¬(A:Int)<3:=by omega)
    go_wp2
    go_ret
    exact⟨rfl,hB⟩
 ·rw[hz] at C1
  obtain⟨E,hE⟩:∃E,(qcub z0 es).1=E:=⟨_,rfl⟩
  rw[hE] at C1 hc
  (have hE0:(E != 0)=true:=by simpa using hc);clear hc hz hE
  go_enter func7,ntmps7
  go_wp2_with (first|(go_at_call 17;refine(C1 _ _ hM).mono ?_;refine m1k ?_;clear hB;intro w5 hb5 hB)|((with_reducible refine gA 39 ?_);refine m33 ?_;clear hB;intro b3 w3 R3 hb3 l3 hB)|((with_reducible refine gS 39 3 13 ?_);refine sx 39 (.tmp 3) (.tmp 13) (pc z0 g0') R3 ?_;intro w6 R3 t6;replace hB:=t6.below _ _ l3 hB)|(go_at_call 19;refine(q0kb _ (hT.keep hB hT.lt)).mono ?_;rintro x w5 ⟨rfl,hb5⟩;replace R3:=R3.below hb5;replace hB:=hB.trans (hb5.mono hB.size))|((with_reducible refine gL 39 3 ?_);refine lx 39 (.tmp 3) (pc z0 g0') R3 ?_)|((with_reducible refine atOp (.build 39 #[]) rfl ?_);refine m29 ?_)|((with_reducible refine atOp (.binOp .eql 39 (.tmp 21) (.tmp 22) 39) rfl ?_);refine qb1 39 (.tmp 21) (.tmp 22) rfl rfl (pc z0 g0') (pc z0 g0') rfl rfl eqGuardType39 _ true (q84 z0 g0' q2ab _) rfl ?_))
  go_ret
  exact⟨rfl,hB⟩
end Go.Proofs.YtnhafdkfjjplkaaDoor
