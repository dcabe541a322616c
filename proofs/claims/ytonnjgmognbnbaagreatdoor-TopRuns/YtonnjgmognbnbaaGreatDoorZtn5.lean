/-
  Of what a law stands on.
-/
import Derived.Shelf.SlicesE.DeleteFunc
import Derived.Test.YtonnjgmognbnbaaGreatDoorZtn4
import Derived.Test.YtonnjgmognbnbaaGreatDoorZtr2
set_option linter.unusedSimpArgs false
set_option linter.unusedVariables false
namespace Go.Proofs.YtonnjgmognbnbaaGreatDoor
open Go.Value renaming int → I,pointer → V
open Go.IntKind renaming i64 → Z
open _root_.Go.Proofs.Tryz
set_option maxHeartbeats 16000000
set_option maxRecDepth 100000
variable {ops:Array Oper}{rest:List Oper}{o:Oper}{a:Act}{W w w' w0:World}{Q:Exit->Act->World->Prop}{b bm c cnt g k n p q:Nat}{s:Nt}{F F' F0 G:Nat->Prop}{v:Value}{fs:List (Nat×Fl)}{x:Nat×Fl}{i:Int}{tm:Int->Option Int}{t:TypeId}{cs cs':Array Value}{D:DataW Unit}{S:World->Prop}{L:List (Nat×Obj)}{y:Obj}
section
open Go.ChangeShapes Go.WideShapes Go.ChangeAt Go.RowKit Go.Maps
theorem q5k(c:Int)(fr:ByteArray)(w:World):(Instr.build 27 #[(0,I Z c),(1,.string fr)]).run prog w=.ok (.agg (Rp.cells ⟨c,fr,false,ByteArray.empty⟩)) w:=by kernel_rfl
theorem qwy(x y:Operand)(hgd:o.guard=none)(ho:o.op=.build 27 #[(0,x),(1,y)])(c:Int)(fr:ByteArray)(hx:a.eval x=I Z c)(hy:a.eval y=.string fr)(hr:wpList prog ops Q rest (a.put o.dst (.agg (Rp.cells ⟨c,fr,false,ByteArray.empty⟩))) w):wpList prog ops Q (o::rest) a w:=
 wpList_plain hgd fun K hK=>by
  unfold Oper.wp execOp
  simp only[ho,List.map_toArray,List.map_nil,List.map_cons,hx,hy,Sem.run_bind,q5k,Result.andThen_ok,Sem.run_pure]
  exact hK _ _ hr
theorem qn8(h:qaw w b s (duF s.fs) F)(fr:ByteArray)(hs:fr.size<=140737488351232)(k:Fl)(hrem:0<=k.rem/\k.rem<=4294967295)(hka:0<=k.a/\k.a<3)(hnow:0<=s.now/\s.now<=549755813888)(hbg:s.began<700)(hfew:s.fs.length<400)(hst:∀m∈s.ms,0<=m.2.1/\m.2.1<8):Calls prog 89 #[V (some ⟨b,0,none⟩),.string fr,.agg (fc k)] w fun e w'=>e=.returned (.agg (s.leave fr.data.toList k).1.cells)/\∃F',qaw w' b (s.leave fr.data.toList k).2 (duF (s.leave fr.data.toList k).2.fs) F'/\Gr F w w'/\∀c,F' c->F c\/w.heap.size<=c:=by
 have N:=h.start;(have CT:=fun w=>qvz fr 0 (3405803777+k.a) k.port w hs);(have CA:=fun w=>qop k.rem w hrem.1 hrem.2);(have hw1:wrap64 (3405803777+k.a)=3405803777+k.a:=by unfold wrap64;omega);have hsz:=qy4 fr.data.toList 0 (3405803777+k.a) k.port;have hfs:fr.data.toList.length=fr.size:=Array.length_toList
 unfold Nt.leave
 generalize fr.data.toList=l at *
 by_cases ha:0<=k.rem-3405803777/\k.rem-3405803777<3
 ·rw[if_pos ha]
  rw[decide_eq_true ha] at CA
  (have CI:=fun W F (hN:qaw W b s (duF s.fs) F)=>q1g hN (qc5 l 0 (3405803777+k.a) k.port) om hnow hbg hfew hst);clear ha hrem hka hs hsz hfs hnow hbg hfew hst
  generalize qc5 l 0 (3405803777+k.a) k.port=T0 at *
  go_enter func89,ntmps89
  go_wp2_with (first|((with_reducible refine gB 52 2 ?_);refine bx 52 (.tmp 2) (fc k) ?_;intro b5 w9 l9 R9 h9;replace N:=N.alloc (o:=ob 52 ((fc k))) l9 R9 h9;clear R9 h9 l9)|((with_reducible refine gA 27 ?_);refine m0r ?_;clear N;intro b6 w9 N)|((with_reducible refine gL 3 14 ?_);refine fx (N.row 1 rfl) _ 3 (k.a) ?_)|((with_reducible refine gL 3 18 ?_);refine fx (N.row 1 rfl) _ 4 (k.port) ?_)|(go_at_call 94;go_fit (CT _);rintro e w5 ⟨rfl,hb5⟩;clear CT;replace N:=N.below hb5;clear hb5)|((with_reducible refine gL 3 24 ?_);refine fx (N.row 1 rfl) _ 5 (k.rem) ?_)|(go_at_call 92;go_fit (CA _);refine m0h ?_)|(go_at_call 55;go_fit (CI _ _ N.nat);rintro e w5 ⟨rfl,F9,hN9,hg9,hf9⟩;clear CI;replace N:=N.call hN9 hg9 hf9;clear hN9 hg9 hf9)|((with_reducible refine gS 27 6 32 ?_);refine sx 27 (.tmp 6) _ ((s.inn T0.data.toList).1.cells) (N.row 0 rfl) ?_;refine m0j ?_;clear N;intro w9 N))
  (refine m03 ?_;refine bodyPost_ret (qai (p:=6) rfl _ _ _ _ rfl (N.row 0 rfl) _ underlying27 rfl (qad _)) rfl ⟨rfl,_,N.nat,N.gr,N.sub⟩)
 ·rw[if_neg ha]
  rw[decide_eq_false ha] at CA
  clear ha hrem hka hs hsz hfs hnow hbg hfew hst
  go_enter func89,ntmps89
  go_wp2_with (first|((with_reducible refine gB 52 2 ?_);refine bx 52 (.tmp 2) (fc k) ?_;intro b5 w9 l9 R9 h9;replace N:=N.alloc (o:=ob 52 ((fc k))) l9 R9 h9;clear R9 h9 l9)|((with_reducible refine gA 27 ?_);refine m0r ?_;clear N;intro b6 w9 N)|((with_reducible refine gL 3 14 ?_);refine fx (N.row 1 rfl) _ 3 (k.a) ?_)|((with_reducible refine gL 3 18 ?_);refine fx (N.row 1 rfl) _ 4 (k.port) ?_)|(go_at_call 94;go_fit (CT _);rintro e w5 ⟨rfl,hb5⟩;clear CT;replace N:=N.below hb5;clear hb5)|((with_reducible refine gL 3 24 ?_);refine fx (N.row 1 rfl) _ 5 (k.rem) ?_)|(go_at_call 92;go_fit (CA _);refine m0h ?_)|((with_reducible refine qaa (.build 27 #[(0,.tmp 33),(1,.tmp 34)]) rfl ?_);refine qwy (.tmp 33) (.tmp 34) rfl rfl _ _ rfl rfl ?_)|((with_reducible refine gS 27 6 35 ?_);refine sx 27 (.tmp 6) _ (Rp.cells ⟨qcb l 0 (3405803777+k.a) k.port,qc5 l 0 (3405803777+k.a) k.port,false,ByteArray.empty⟩) (N.row 0 rfl) ?_;refine m0j ?_;clear N;intro w9 N))
  (refine m03 ?_;refine bodyPost_ret (qai (p:=6) rfl _ _ _ _ rfl (N.row 0 rfl) _ underlying27 rfl (qad _)) rfl ⟨rfl,_,N.nat,N.gr,N.sub⟩)
end
section
open Go.Shelf
def q6s:Go.Shelf.Ren:=⟨fun|10=>145|6=>177|n=>n,fun|22=>86|23=>3|25=>129|3=>3|4=>4|0=>0|n=>n,fun|n=>n⟩
theorem delL:Go.Proofs.SlLaysH.n10 prog q6s:={
 mixed:=by kernel_rfl
 f6:=⟨f177.name,by decide,func177.trans (congrArg some kr)⟩
 f10:=⟨f145.name,by decide,func145.trans (congrArg some kr)⟩
 t0:=underlying0
 a0:=isAgg0
 z0:=sizeOf0
 v0:=zeroValue0
 t3:=underlying3
 a3:=isAgg3
 z3:=sizeOf3
 v3:=zeroValue3
 t4:=underlying4
 a4:=isAgg4
 z4:=sizeOf4
 v4:=zeroValue4
 t22:=underlying86
 a22:=isAgg86
 z22:=sizeOf86
 v22:=zeroValue86
 a23:=isAgg3
 z23:=sizeOf3
 t25:=underlying129
 a25:=isAgg129
 z25:=sizeOf129
 v25:=zeroValue129 }
end
section
open Go.ChangeShapes Go.WideShapes Go.ChangeAt Go.RowKit Go.Maps
open Go.Sort (grow putRow Holds putCells)
theorem qvm(i x:Int)(B:Nat)(W:World)(hc:W.cell? ⟨B,0,none⟩=some (I Z i)):FnGives prog 146 #[V (some ⟨B,0,none⟩)] #[I Z x] (.bool (x==i)) W:=by
 show Calls prog 146 #[I Z x,V (some ⟨B,0,none⟩)] W _
 go_enter func146,ntmps146
 go_wp2
 go_ret
 exact⟨rfl,0,rfl⟩
theorem qzb(d:Array Int)(hc:c≠g):(putRow (Value.int .i64) (Go.Sort.ahead w q) g 0 d).heap[c]?=w.heap[c]?:=by
 unfold putRow Sort.mapBlock Go.Sort.ahead
 show(w.heap.modify g _)[c]?=_
 rw[Array.getElem?_modify,if_neg (fun e=>hc e.symm)]
theorem q6z{cur:Array Value}{e:TypeId}{fr:Nat×Nat}(d:Array Int)(hb:w.heap[g]?=some (.cells cur e fr)):(putRow (Value.int .i64) (Go.Sort.ahead w q) g 0 d).heap[g]?=some (.cells (putCells (Value.int .i64) 0 d cur) e fr):=by
 unfold putRow Sort.mapBlock Go.Sort.ahead
 show(w.heap.modify g _)[g]?=_
 rw[Array.getElem?_modify,if_pos rfl,hb]
 rfl
theorem qz3(d:Array Int):w.grownBy (putRow (Value.int .i64) (Go.Sort.ahead w q) g 0 d) (some g):=by
 refine⟨rfl,rfl,rfl,?_,fun k hk hne=>qzb d (fun e=>hne (by rw[e]))⟩
 unfold putRow Sort.mapBlock Go.Sort.ahead
 show _<=(w.heap.modify g _).size
 simp
theorem q24(cur:Array Value)(l r:List Int)(h:(l++r).length<=cur.size):(putCells (Value.int .i64) 0 (l++r).toArray cur).toList.take l.length=l.map (Value.int .i64):=by
 apply List.ext_getElem?
 intro i
 rw[List.length_append] at h
 rw[List.getElem?_take,List.getElem?_map]
 by_cases hi:i<l.length
 ·rw[if_pos hi,Array.getElem?_toList]
  unfold putCells
  rw[Array.getElem?_mapIdx,Array.getElem?_eq_getElem om,List.getElem?_eq_getElem hi];(have hlt:i<l.length+r.length:=by omega)
  have:(l++r)[i]'(by simpa using hlt)=l[i]:=List.getElem_append_left hi
  simp[hlt,this]
 ·rw[if_neg hi,List.getElem?_eq_none om];rfl
theorem q86{l:List Int}(h:Own w v l)(hl:0<l.length)(hm:l.length<=1000000000)(i:Int)(B:Nat)(hB:w.cell? ⟨B,0,none⟩=some (I Z i))(hne:v.ownBlock≠some B):
  Calls prog 145 #[v,.func (.func 146) #[] #[V (some ⟨B,0,none⟩)]] w fun e w'=>∃sa n c,e=.returned (.slice sa n c)/\Own w' (.slice sa n c) (l.filter fun x=>!(x==i))/\(Value.slice sa n c).ownBlock=v.ownBlock/\w.grownBy w' v.ownBlock:=by
 obtain⟨g,cap,cur,rfl,hg,hlc,hcm,hcs,ht⟩:=h.shape hl
 have hlt:g<w.heap.size:=(Array.getElem?_eq_some_iff.1 hg).1;(have gB:B≠g:=fun e=>hne (by rw[e];rfl));have lB:=World.block_lt_of_cell? w _ hB
 have hH:Holds (Value.int .i64) w g 0 l.toArray:=by
  intro j hj;(have hj':j<l.length:=by simpa using hj);rw[Nat.zero_add]
  refine⟨(qia hg j).trans ((qis ht j hj').trans ?_),qnv hg j⟩
  simp[hj']
 have eg:∀args w,(callFunc 146 args).run prog w=.ok (.enter 146 args) w:=enters_of func146 kr rfl
 have hS:=AnyE.slices_DeleteFunc delL (Value.int .i64) (fun _=>rfl) (fun x=>x==i) 146 #[V (some ⟨B,0,none⟩)] eg 0 zeroValue3 g 0 cap l.toArray w
  (fun W x hb=>qvm i x B W ((hb.cell (p:=⟨B,0,none⟩) lB).trans hB))
  (fun n os dk x _=>qvm i x B _ (by
   unfold sortWorld
   rw[Go.Sort.cell?_grow _ _ _ (by show B<(putRow _ _ _ _ _).heap.size;rw[Go.Sort.size_putRow];exact lB),Go.Sort.cell?_putRow_other _ _ g 0 _ _ (Or.inl gB)]
   exact hB)) hH (by simp;omega) (by simpa using hlc)
 change Calls prog 145 _ _ _ at hS
 (have hsz:l.toArray.size=l.length:=by simp)
 rw[hsz] at hS
 (have hfl:(l.filter fun x=>!(x==i)).length<=l.length:=List.length_filter_le _ _);refine Calls.mono hS ?_
 rintro e w' ⟨rfl,q,rfl⟩
 refine⟨_,_,_,rfl,⟨by simp,.inr ⟨g,cap,_,rfl,Nat.zero_le _,q6z _ hg,by simpa using Nat.le_trans hfl hlc,hcm,by unfold putCells;simpa using hcs,?_⟩⟩,rfl,qz3 _⟩
 rw[Nat.mul_one]
 exact q24 cur _ _ (by simp;omega)
theorem q4w(fs:List (Nat×Fl))(i j:Int):(fs.filter fun x=>decide ((x.1:Int)≠i)).find? (fun x=>decide ((x.1:Int)=j))=if j=i then none else fs.find? fun x=>decide ((x.1:Int)=j):=by
 induction fs with
 | nil=>split<;>rfl
 | cons a r ih=>
  by_cases h:(a.1:Int)=i
  ·rw[List.filter_cons_of_neg (by simp[h]),ih,List.find?_cons]
   by_cases e:j=i
   ·rw[if_pos e,if_pos e]
   ·(have h2:decide ((a.1:Int)=j)=false:=decide_eq_false (fun e2=>e (e2.symm.trans h)));rw[if_neg e,if_neg e,h2]
  ·rw[List.filter_cons_of_pos (by simp[h]),List.find?_cons,List.find?_cons,ih]
   by_cases h2:(a.1:Int)=j
   ·(have e:¬j=i:=fun e=>h (h2.trans e));rw[decide_eq_true h2,if_neg e,if_neg e]
   ·rw[decide_eq_false h2]
theorem q85(fs:List (Nat×Fl))(i:Int):fsF (fs.filter fun x=>decide ((x.1:Int)≠i))=qna (fsF fs) i:=by
 funext j
 unfold fsF qna
 rw[q4w]
 split<;>rfl
theorem qyf(hp:fs.Pairwise (fun x y=>x.1<y.1))(hx:x∈fs):(fs.filter fun y=>decide ((y.1:Int)≠(x.1:Int))).length+1=fs.length:=by
 induction fs with
 | nil=>cases hx
 | cons y r ih=>
  rw[List.pairwise_cons] at hp
  rcases List.mem_cons.1 hx with rfl|hx
  ·rw[List.filter_cons_of_neg zm]
   have:(r.filter fun y=>decide ((y.1:Int)≠(x.1:Int)))=r:=List.filter_eq_self.2 (fun z hz=>decide_eq_true (by have:=hp.1 z hz;omega))
   rw[this,List.length_cons]
  ·(have hy:(y.1:Int)≠(x.1:Int):=by have:=hp.1 x hx;omega);rw[List.filter_cons_of_pos (by simpa using hy),List.length_cons,List.length_cons,ih hp.2 hx]
theorem q7q(fs:List (Nat×Fl))(i:Int):(fs.map fun x=>(x.1:Int)).filter (fun x=>!(x==i))=(fs.filter fun x=>decide ((x.1:Int)≠i)).map fun x=>(x.1:Int):=by
 rw[List.filter_map]
 congr 1
 apply List.filter_congr
 intro x _
 by_cases e:(x.1:Int)=i<;>simp[e]
section
variable {w w':World} {b:Nat} {cs cs':Array Value} {v ov:Value} {fm:Option Nat} {D:DataW Unit} {Fw:Nat->Prop} {cnt:Nat} {s:Nt} {tm:Int->Option Int} {is:List Int}
theorem NatM.mapDel(h:NatM w b cs v ov (some bm) D Fw cnt s tm is)(hm:w'.ownsMap prog 3 qc9 bm n (D.del (kI (i:Int))))(hg:Gr (fun c=>c=bm) w w')(hi:(fsF s.fs i).isSome=true)(hl:(s.fs.filter fun x=>decide ((x.1:Int)≠i)).length+1=s.fs.length)(hc:cnt+1<=s.fs.length):NatM w' b cs v ov (some bm) (D.del (kI i)) Fw cnt { s with fs:=s.fs.filter fun x=>decide ((x.1:Int)≠i) } tm is:=by
 refine⟨h.wheel.keep hg (fun c hc e=>h.fmNot bm rfl (e▸hc)),h.size,h.c0,h.c1,h.c2,h.c3,h.ct,h.c34,h.c35,h.c36,qc4 h.maps (fun h0=>hg.block _ (h.maps.lt h0) (h.fmms rfl h0)),h.nil,qfc h.ids (fun c hc=>?_),.inr ⟨bm,rfl,qwf hm⟩,?_,?_,?_,h.fmNot,h.ovNot,h.msNot,h.up.filter _,fun x hx=>h.num x (List.mem_filter.1 hx).1,h.bg⟩
 ·obtain⟨cur,m,hh⟩:=qe6 h.ids hc
  exact hg.block c (Array.getElem?_eq_some_iff.1 hh).1 (fun e=>h.fmov rfl (e▸hc))
 ·show qgy _ (fsF (s.fs.filter fun x=>decide ((x.1:Int)≠i)))
  rw[q85];exact h.reads.del i
 ·show Maps.size _=(s.fs.filter fun x=>decide ((x.1:Int)≠i)).length
  have:=size_del (k:=kI i) h.reads.tidy
  rw[h.reads.has,hi,h.sized] at this
  simp only[if_true] at this
  omega
 ·show cnt<=(s.fs.filter fun x=>decide ((x.1:Int)≠i)).length
  omega
end
def NatC(w:World)(b:Nat)(s:Nt)(tm:Int->Option Int)(F:Nat->Prop)(cnt:Nat):Prop:=
 ∃cs v ov fm D Fw,NatM w b cs v ov fm D Fw cnt s tm (s.fs.map fun x=>(x.1:Int))/\∀c,FpN Fw fm ov v s.ms c->F c
theorem NatC.nat(h:NatC w b s tm F cnt):qaw w b s tm F:=by
 obtain⟨cs,v,ov,fm,D,Fw,M,hF⟩:=h
 exact⟨cs,v,ov,fm,D,Fw,cnt,M,hF⟩
theorem qaw.counted(h:qaw w b s tm F):∃cnt,NatC w b s tm F cnt:=by
 obtain⟨cs,v,ov,fm,D,Fw,cnt,M,hF⟩:=h
 exact⟨cnt,cs,v,ov,fm,D,Fw,M,hF⟩
theorem NatC.few(h:NatC w b s tm F cnt):cnt<=s.fs.length:=by
 obtain⟨cs,v,ov,fm,D,Fw,M,hF⟩:=h
 exact M.few
theorem NatC.keep(h:NatC w b s tm F cnt)(hg:Gr G w w')(hG:∀c,F c->¬G c):NatC w' b s tm F cnt:=by
 obtain⟨cs,v,ov,fm,D,Fw,M,hF⟩:=h
 exact⟨cs,v,ov,fm,D,Fw,M.keep hg (fun c hc=>hG c (hF c hc)),hF⟩
theorem NatC.below(h:NatC w b s tm F cnt)(hb:Below w.heap.size w w'):NatC w' b s tm F cnt:=h.keep (Gr.of_below (F:=fun _=>False) hb) (fun _ _=>id)
theorem NatC.bound(h:NatC w b s tm F cnt):NatC w b s tm (fun c=>F c/\c<w.heap.size) cnt:=by
 obtain⟨cs,v,ov,fm,D,Fw,M,hF⟩:=h
 refine⟨cs,v,ov,fm,D,fun c=>Fw c/\c<w.heap.size,M.bound,fun c hc=>?_⟩
 rcases hc with h1|h1|h1|⟨h1,rfl⟩
 ·exact⟨hF c (.inl h1.1),h1.2⟩
 ·refine⟨hF c (.inr (.inl h1)),?_⟩
  rcases M.flows with⟨e,_⟩|⟨bm,e,hm⟩
  ·rw[e] at h1;cases h1
  ·rw[e] at h1;cases h1;exact hm.lt
 ·refine⟨hF c (.inr (.inr (.inl h1))),?_⟩
  obtain⟨cur,m,hh⟩:=qe6 M.ids h1
  exact(Array.getElem?_eq_some_iff.1 hh).1
 ·exact⟨hF _ (.inr (.inr (.inr ⟨h1,rfl⟩))),M.maps.lt h1⟩
structure Nc(w0 W:World)(b:Nat)(s:Nt)(tm:Int->Option Int)(F0 F:Nat->Prop)(cnt:Nat)(L:List (Nat×Obj)):Prop where
 nb:Nb w0 W b s tm F0 F L
 nc:NatC W b s tm F cnt
section
variable {w0 W W':World} {b:Nat} {s:Nt} {tm:Int->Option Int} {F0 F:Nat->Prop} {cnt:Nat} {L:List (Nat×Obj)}
theorem NatC.start(h:NatC w b s tm F cnt):Nc w w b s tm F (fun c=>F c/\c<w.heap.size) cnt []:=⟨h.nat.start,h.bound⟩
theorem Nc.row(h:Nc w0 W b s tm F0 F cnt L)(i:Nat)(hi:L[i]?=some (c,ob t cs)):Row t W c cs:=h.nb.row i hi
theorem Nc.call(h:Nc w0 W b s tm F0 F cnt L){s':Nt}{tm':Int->Option Int}{cnt':Nat}(hn:NatC W' b s' tm' F' cnt')(hg:Gr F W W')(hF:∀c,F' c->F c\/W.heap.size<=c):Nc w0 W' b s' tm' F0 (fun c=>F' c/\c<W'.heap.size) cnt' L:=⟨h.nb.call hn.nat hg hF,hn.bound⟩
theorem Nc.below(h:Nc w0 W b s tm F0 F cnt L)(hb:Below W.heap.size W W'):Nc w0 W' b s tm F0 F cnt L:=⟨h.nb.below hb,h.nc.below hb⟩
theorem Nc.drew(h:Nc w0 W b s tm F0 F cnt L):Nc w0 W.drew b s tm F0 F cnt L:=h.below (Below.refl _ _).drew
theorem Nc.alloc(h:Nc w0 W b s tm F0 F cnt L){o:Obj}(hl:W.heap.size<=c)(R:W'.heap[c]?=some o)(hb:Below W.heap.size W W'):Nc w0 W' b s tm F0 F cnt ((c,o)::L):=⟨h.nb.alloc hl R hb,h.nc.below hb⟩
theorem Nc.turn(h:Nc w0 W b s tm F0 F cnt L)(i:Nat)(hi:L[i]?=some (c,ob t cs))(R:Row t W' c cs')(T:qbl c W W'):Nc w0 W' b s tm F0 F cnt (L.set i (c,ob t cs')):=
 ⟨h.nb.turn i hi R T,h.nc.keep (qcq T) (fun x hx e=>(h.nb.rows _ (List.mem_of_getElem? hi)).2.2 (e▸hx))⟩
theorem Nc.gr(h:Nc w0 W b s tm F0 F cnt L):Gr F0 w0 W:=h.nb.gr
theorem Nc.sub(h:Nc w0 W b s tm F0 F cnt L):∀c,F c->F0 c\/w0.heap.size<=c:=h.nb.sub
end
end
section
open Go.ChangeShapes Go.WideShapes Go.ChangeAt Go.RowKit Go.Maps
structure Bk(w0 W:World)(F0 F:Nat->Prop)(L:List (Nat×Obj)):Prop where
 gr:Gr F0 w0 W
 sub:∀c,F c->F0 c\/w0.heap.size<=c
 bd:∀c,F c->c<W.heap.size
 nodup:(L.map (·.1)).Nodup
 rows:∀y∈L,W.heap[y.1]?=some y.2/\w0.heap.size<=y.1/\¬F y.1
section
variable {w0 W W':World} {F0 F:Nat->Prop} {L:List (Nat×Obj)}
theorem Bk.start(hb:∀c,F c->c<w.heap.size)(hs:∀c,F c->F0 c):Bk w w F0 F []:=⟨Gr.refl _ _,fun c hc=>.inl (hs c hc),hb,by simp,by simp⟩
theorem Bk.row(h:Bk w0 W F0 F L)(i:Nat)(hi:L[i]?=some (c,ob t cs)):Row t W c cs:=(h.rows _ (List.mem_of_getElem? hi)).1
theorem Bk.notF(h:Bk w0 W F0 F L)(i:Nat){o:Obj}(hi:L[i]?=some (c,o)):¬F c:=(h.rows _ (List.mem_of_getElem? hi)).2.2
theorem Bk.lt(h:Bk w0 W F0 F L)(hc:c∈L.map (·.1)):c<W.heap.size:=by
 obtain⟨y,hy,rfl⟩:=List.mem_map.1 hc
 exact(Array.getElem?_eq_some_iff.1 (h.rows y hy).1).1
theorem Bk.move(h:Bk w0 W F0 F L)(hg:Gr G W W')(hG:∀c,G c->F c)(hF:∀c,F' c->F c\/(W.heap.size<=c/\c<W'.heap.size)):Bk w0 W' F0 F' L:=by
 refine⟨h.gr.trans hg (fun x hx=>h.sub x (hG x hx)),fun c hc=>?_,fun c hc=>?_,h.nodup,fun y hy=>⟨?_,(h.rows y hy).2.1,fun hc=>?_⟩⟩
 ·rcases hF c hc with h1|h1
  ·exact h.sub c h1
  ·exact .inr (Nat.le_trans h.gr.size h1.1)
 ·rcases hF c hc with h1|h1
  ·exact Nat.lt_of_lt_of_le (h.bd c h1) hg.size
  ·exact h1.2
 ·have hl:=h.lt (List.mem_map.2 ⟨y,hy,rfl⟩)
  exact(hg.block _ hl (fun hx=>(h.rows y hy).2.2 (hG _ hx))).trans (h.rows y hy).1
 ·have hl:=h.lt (List.mem_map.2 ⟨y,hy,rfl⟩)
  rcases hF _ hc with h1|h1
  ·exact(h.rows y hy).2.2 h1
  ·omega
theorem Bk.below(h:Bk w0 W F0 F L)(hb:Below W.heap.size W W'):Bk w0 W' F0 F L:=h.move (Gr.of_below (F:=fun _=>False) hb) (fun _ hx=>hx.elim) (fun c hc=>.inl hc)
theorem Bk.alloc(h:Bk w0 W F0 F L){o:Obj}(hl:W.heap.size<=c)(R:W'.heap[c]?=some o)(hb:Below W.heap.size W W'):Bk w0 W' F0 F ((c,o)::L):=by
 have h':=h.below hb
 refine⟨h'.gr,h'.sub,h'.bd,?_,fun y hy=>?_⟩
 ·rw[List.map_cons,List.nodup_cons]
  exact⟨fun hm=>by have:=h.lt hm;simp only at *;omega,h.nodup⟩
 ·rcases List.mem_cons.1 hy with rfl|hy
  ·exact⟨R,Nat.le_trans h.gr.size hl,fun hF=>by have:=h.bd c hF;omega⟩
  ·exact h'.rows y hy
theorem Bk.turn(h:Bk w0 W F0 F L)(i:Nat)(hi:L[i]?=some (c,ob t cs))(R:Row t W' c cs')(T:qbl c W W'):Bk w0 W' F0 F (L.set i (c,ob t cs')):=by
 refine m73 ?_;intro hlt hLi
 have hm:(L.set i (c,ob t cs')).map (·.1)=L.map (·.1):=by
  apply List.ext_getElem?
  intro j;refine m4t ?_
  by_cases hj:i=j
  ·subst hj;simp[hlt,hLi]
  ·simp[hj]
 have hc:=h.rows _ (List.mem_of_getElem? hi)
 refine⟨h.gr.trans (qcq T) (fun x hx=>.inr (hx▸hc.2.1)),h.sub,fun x hx=>Nat.lt_of_lt_of_le (h.bd x hx) (Nat.le_of_eq T.size.symm),by rw[hm];exact h.nodup,fun y hy=>?_⟩
 obtain⟨j,hj⟩:=List.mem_iff_getElem?.1 hy
 rw[List.getElem?_set] at hj
 by_cases hij:i=j
 ·subst hij
  rw[if_pos rfl,if_pos hlt] at hj
  obtain rfl:=Option.some.inj hj
  exact⟨R,hc.2⟩
 ·rw[if_neg hij] at hj
  have hy':=List.mem_of_getElem? hj
  refine⟨(T.other _ (fun e=>hij ?_)).trans (h.rows y hy').1,(h.rows y hy').2⟩
  refine m36 ?_;intro e1 e2
  exact(List.getElem?_inj (by simpa using hlt) h.nodup).1 (by rw[e1,e2])
end
structure Nm(w0 W:World)(b:Nat)(cs:Array Value)(v ov:Value)(fm:Option Nat)(D:DataW Unit)(Fw:Nat->Prop)(cnt:Nat)(s:Nt)(tm:Int->Option Int)(is:List Int)(F0:Nat->Prop)(L:List (Nat×Obj)):Prop where
 m:NatM W b cs v ov fm D Fw cnt s tm is
 k:Bk w0 W F0 (FpN Fw fm ov v s.ms) L
section
variable {w0 W W':World} {b:Nat} {cs:Array Value} {v ov:Value} {fm:Option Nat} {D:DataW Unit} {Fw F0:Nat->Prop} {cnt:Nat} {s:Nt} {tm:Int->Option Int} {is:List Int} {L:List (Nat×Obj)}
theorem FpN.lt(M:NatM w b cs v ov fm D Fw cnt s tm is)(hb:∀c,Fw c->c<w.heap.size):∀c,FpN Fw fm ov v s.ms c->c<w.heap.size:=by
 intro c hc
 rcases hc with h1|h1|h1|⟨h1,rfl⟩
 ·exact hb c h1
 ·rcases M.flows with⟨e,_⟩|⟨bm,e,hm⟩
  ·rw[e] at h1;cases h1
  ·rw[e] at h1;cases h1;exact hm.lt
 ·obtain⟨cur,m,hh⟩:=qe6 M.ids h1
  exact(Array.getElem?_eq_some_iff.1 hh).1
 ·exact M.maps.lt h1
theorem Nm.start(M:NatM w b cs v ov fm D Fw cnt s tm is)(hF:∀c,FpN Fw fm ov v s.ms c->F0 c):Nm w w b cs v ov fm D (fun c=>Fw c/\c<w.heap.size) cnt s tm is F0 []:=
 ⟨M.bound,Bk.start (FpN.lt M.bound (fun c hc=>hc.2)) (fun c hc=>by rcases hc with h1|h1|h1|h1;exact hF c (.inl h1.1);exact hF c (.inr (.inl h1));exact hF c (.inr (.inr (.inl h1)));exact hF c (.inr (.inr (.inr h1))))⟩
theorem Nm.row(h:Nm w0 W b cs v ov fm D Fw cnt s tm is F0 L)(i:Nat)(hi:L[i]?=some (c,ob t cs')):Row t W c cs':=h.k.row i hi
theorem Nm.below(h:Nm w0 W b cs v ov fm D Fw cnt s tm is F0 L)(hb:Below W.heap.size W W'):Nm w0 W' b cs v ov fm D Fw cnt s tm is F0 L:=⟨h.m.below hb,h.k.below hb⟩
theorem Nm.drew(h:Nm w0 W b cs v ov fm D Fw cnt s tm is F0 L):Nm w0 W.drew b cs v ov fm D Fw cnt s tm is F0 L:=h.below (Below.refl _ _).drew
theorem Nm.alloc(h:Nm w0 W b cs v ov fm D Fw cnt s tm is F0 L){o:Obj}(hl:W.heap.size<=c)(R:W'.heap[c]?=some o)(hb:Below W.heap.size W W'):Nm w0 W' b cs v ov fm D Fw cnt s tm is F0 ((c,o)::L):=⟨h.m.below hb,h.k.alloc hl R hb⟩
theorem Nm.turn(h:Nm w0 W b cs v ov fm D Fw cnt s tm is F0 L)(i:Nat){cs1 cs2:Array Value}(hi:L[i]?=some (c,ob t cs1))(R:Row t W' c cs2)(T:qbl c W W'):Nm w0 W' b cs v ov fm D Fw cnt s tm is F0 (L.set i (c,ob t cs2)):=
 ⟨h.m.keep (qcq T) (fun x hx e=>h.k.notF i hi (e▸hx)),h.k.turn i hi R T⟩
theorem Nm.natC(h:Nm w0 W b cs v ov fm D Fw cnt s tm (s.fs.map fun x=>(x.1:Int)) F0 L):∃F',NatC W b s tm F' cnt/\Gr F0 w0 W/\∀c,F' c->F0 c\/w0.heap.size<=c:=⟨_,⟨_,_,_,_,_,_,h.m,fun c hc=>hc⟩,h.k.gr,h.k.sub⟩
theorem Nm.del(h:Nm w0 W b cs v ov (some bm) D Fw cnt s tm is F0 L)(hm:W'.ownsMap prog 3 qc9 bm n (D.del (kI (i:Int))))(hg:Gr (fun c=>c=bm) W W')(hi:(fsF s.fs i).isSome=true)(hl:(s.fs.filter fun x=>decide ((x.1:Int)≠i)).length+1=s.fs.length)(hc:cnt+1<=s.fs.length):Nm w0 W' b cs v ov (some bm) (D.del (kI i)) Fw cnt { s with fs:=s.fs.filter fun x=>decide ((x.1:Int)≠i) } tm is F0 L:=
 ⟨h.m.mapDel hm hg hi hl hc,h.k.move hg (fun c e=>.inr (.inl (by rw[e]))) (fun c hc=>.inl hc)⟩
theorem Nm.order{w8:World}{ov':Value}{is':List Int}(h:Nm w0 W b cs v ov fm D Fw cnt s tm is F0 L)(hg:W.grownBy w8 ov.ownBlock)(ho:Own w8 ov' is')(hl:ov'.ownBlock=ov.ownBlock)(R:Row 93 W' b (cs.setIfInBounds 35 ov'))(T:qbl b w8 W'):Nm w0 W' b (cs.setIfInBounds 35 ov') v ov' fm D Fw cnt s tm is' F0 L:=
 ⟨h.m.order (fun c hc=>h.k.bd c (.inl hc)) hg ho (fun c hc=>.inl (hl▸hc)) R T,h.k.move ((Gr.of_grown (F:=FpN Fw fm ov v s.ms) hg (fun c hc=>.inr (.inr (.inl hc)))).trans (qcq T) (fun x hx=>.inl (.inl (hx▸h.m.inb)))) (fun _ hx=>hx) (fun c hc=>.inl (by rcases hc with h1|h1|h1|h1;exact .inl h1;exact .inr (.inl h1);exact .inr (.inr (.inl (hl▸h1)));exact .inr (.inr (.inr h1))))⟩
end
theorem q40{fl:Int->Option Fl}(hm:w.ownsMap prog 3 qc9 bm n D)(hr:qgy D fl)(i:Int)(hi:(Lit.int .i64 i).wf=true):(Instr.lookup 85 (.map (some bm)) (.int .i64 i) false).run prog w=.ok (.agg (fc ((fl i).getD fl0))) w:=by
 have hkey:=keyOf_int_mk (P:=prog) (q:=.i64) (a:=i) underlying3 hi;obtain⟨u,ps,hr',hu⟩:=hm.lookup lawI underlying85 (qbr w) (qgm fl0) hkey
 rw[hr.flow i] at hu
 rw[hr',qol hu]
theorem q0o(t:TypeId)(m x:Operand)(ho:o.op=.lookup t m x false)(hw:Region.wanted o (yielded ops a.tmps)=true)(mv kv v:Value)(hm:a.eval m=mv)(hx:a.eval x=kv)(hr:∀w,S w->(Instr.lookup t mv kv false).run prog w=.ok v w):YieldsIf prog ops S o v a:=
 .inl ⟨hw,fun w hS=>by unfold execOp;simp only[ho,hm,hx,Sem.run_bind,hr w hS,Result.andThen_ok,Sem.run_pure]⟩
theorem q4n(k:Fl)(w:World):(Instr.field 52 (.agg (fc k)) 0).run prog w=.ok (.agg (mc (flM k))) w:=by kernel_rfl
theorem qxo(x:Operand)(ho:o.op=.field 52 x 0)(hw:Region.wanted o (yielded ops a.tmps)=true)(k:Fl)(hx:a.eval x=.agg (fc k)):YieldsIf prog ops S o (.agg (mc (flM k))) a:=
 .inl ⟨hw,fun w hS=>by unfold execOp;simp only[ho,hx,Sem.run_bind,q4n,Result.andThen_ok,Sem.run_pure]⟩
theorem q8z(h:w.mapTurned w' b):Gr (fun c=>c=b) w w':=by
 obtain⟨es,clock,es',clock',hb,rfl⟩:=h
 refine⟨rfl,rfl,rfl,?_,fun c hc hn=>?_⟩
 ·show _<=(w.heap.setIfInBounds b _).size
  simp
 ·show(w.heap.setIfInBounds b _)[c]?=_
  rw[Array.getElem?_setIfInBounds,if_neg (fun e=>hn e.symm)]
theorem q8u{K:Act->World->Prop}(m x:Operand)(ho:o.op=Op.call { callee:=Callee.builtin Builtin.delete,args:=#[m,x],argTypes:=#[85,3] })(b n:Nat)(D:DataW Unit)(hm:a.eval m=.map (some b))(hown:w.ownsMap prog 3 qc9 b n D)(i:Int)(hi:(Lit.int .i64 i).wf=true)(hx:a.eval x=.int .i64 i)(hK:∀w',w'.ownsMap prog 3 qc9 b n (D.del (kI i))->Gr (fun c=>c=b) w w'->K (a.put o.dst (.tuple #[])) w'):o.wp prog a w K Q:=by
 have hkey:=keyOf_int_mk (P:=prog) (q:=.i64) (a:=i) underlying3 hi;obtain⟨w',hrun,r1,r2⟩:=hown.drop lawI underlying85 hkey o.type
 unfold Oper.wp
 simp[execOp,ho,resolve,invoke,builtin,hm,hx,hrun,Result.andThen]
 exact hK w' r1 (q8z r2)
theorem qn5(hgd:o.guard=none)(x:Operand)(ho:o.op=.load 86 x)(b f:Nat)(hx:a.eval x=V (some ⟨b,f,none⟩))(v:Value)(hc:w.cell? ⟨b,f,none⟩=some v)(hr:wpList prog ops Q rest (a.put o.dst v) w):wpList prog ops Q (o::rest) a w:=
 wpList_plain hgd fun K hK=>qly x ho b f hx v hc (hK _ _ hr)
theorem qci(w:World):(zeroValue 50).run prog w=.ok (.agg (mc noM)) w:=by kernel_rfl
theorem NatM.flows1{ov:Value}{Fw:Nat->Prop}{is:List Int}(M:NatM w b cs v ov (some bm) D Fw cnt s tm is):MapF w bm D:=by
 rcases M.flows with⟨h,_⟩|⟨c,h,hm⟩
 ·cases h
 ·cases h;exact hm
theorem q83(h:NatC w b s tm F cnt)(x:Nat×Fl)(hx:x∈s.fs)(hcnt:cnt+1<=s.fs.length):Calls prog 96 #[.pointer (some ⟨b,0,none⟩),.int .i64 ((x.1:Nat):Int)] w fun e w'=>e=.returned (.agg (mc (flM x.2)))/\∃F',NatC w' b { s with fs:=s.fs.filter fun y=>decide ((y.1:Int)≠(x.1:Int)) } tm F' cnt/\Gr F w w'/\∀c,F' c->F c\/w.heap.size<=c:=by
 obtain⟨cs,v,ov,fm,D,Fw,M,hF⟩:=h;have hfs1:=qf6 M.up hx;have hlen:=qyf M.up hx;have hl0:0<s.fs.length:=List.length_pos_of_mem hx
 obtain⟨bm,rfl⟩:∃bm,fm=some bm:=by
  rcases M.flows with⟨h1,h2⟩|⟨bm,h1,_⟩
  ·have:=M.sized;rw[h2] at this;simp[Maps.size] at this;omega
  ·exact⟨bm,h1⟩
 have HWF:Hid _:=hidN (qrh (Nat.le_trans (M.num x hx) M.bg));(have HLK:Hid (∀W,MapF W bm D->(Instr.lookup 85 (.map (some bm)) (.int .i64 ((x.1:Nat):Int)) false).run prog W=.ok (.agg (fc x.2)) W):=hidN (fun W hm=>by have:=q40 hm M.reads (x.1:Int) HWF.out;rw[hfs1] at this;exact this));have HIS:Hid ((fsF s.fs (x.1:Int)).isSome=true):=hidN (by rw[hfs1];rfl);have HLN:Hid _:=hidN hlen;have HCN:Hid (cnt+1<=s.fs.length):=hcnt;(have HL0:Hid (0<(s.fs.map fun y=>(y.1:Int)).length):=hidN (by simpa using hl0));(have HLM:Hid ((s.fs.map fun y=>(y.1:Int)).length<=1000000000):=hidN (by have:=qkd M;simp;omega));(have HND:Hid (∀(W:World) (L:List (Nat×Obj)) {cs':Array Value} {v':Value} {D':DataW Unit},Nm w W b cs' v v' (some bm) D' (fun c=>Fw c/\c<w.heap.size) cnt { s with fs:=s.fs.filter fun y=>decide ((y.1:Int)≠(x.1:Int)) } tm ((s.fs.map fun y=>(y.1:Int)).filter fun y=>!(y==(x.1:Int))) F L->∃F',NatC W b { s with fs:=s.fs.filter fun y=>decide ((y.1:Int)≠(x.1:Int)) } tm F' cnt/\Gr F w W/\∀c,F' c->F c\/w.heap.size<=c):=hidN (fun W L cs' v' D' hN=>by rw[q7q] at hN;exact hN.natC));have N:=Nm.start M hF;refine m34 ?_;intro hmf;clear M hF hfs1 hlen hl0 hcnt hx
 go_enter func96,ntmps96
 go_upto_region 1 with(first|((with_reducible refine gB 3 1 ?_);refine qpu rfl (.tmp 1) rfl ((x.1:Nat):Int) rfl ?_;intro b3 w9 l9 R9 h9;replace N:=N.alloc (o:=ob 3 #[.int .i64 ((x.1:Nat):Int)]) l9 R9 h9;clear R9 h9 l9)|((with_reducible refine gA 50 ?_);refine ax 4 50 qci ?_;intro b4 w9 l9 R9 h9;replace N:=N.alloc (o:=ob 50 (mc noM)) l9 R9 h9;clear R9 h9 l9))
 have kS:_/\_/\_:=⟨(N.m.cell 34).trans N.m.c34,((N.row 1 rfl).cell 0).trans rfl,N.m.flows1⟩
 refine RD (fun W=>W.cell? ⟨b,34,none⟩=some (.map (some bm))/\W.cell? ⟨b3,0,none⟩=some (.int .i64 ((x.1:Nat):Int))/\MapF W bm D) kS (fun _=>?_)
 refine m3j ?_
 refine tk 3 (.map (some bm)) rfl (Or.inl ⟨by kernel_rfl,by intro w hS;have hc:=hS.1;go_simp⟩) kS (tk 4 (.int .i64 ((x.1:Nat):Int)) rfl (Or.inl ⟨by kernel_rfl,by intro w hS;have hc:=hS.2.1;go_simp⟩) kS (tk 5 (.agg (fc x.2)) rfl (q0o 85 (.tmp 9) (.tmp 10) rfl kr (.map (some bm)) (.int .i64 ((x.1:Nat):Int)) (.agg (fc x.2)) kr kr (fun w hS=>HLK.out w hS.2.2)) kS ?_))
 refine m5i ?_;refine tk 6 (.agg (mc (flM x.2))) rfl (qxo (.tmp 11) rfl kr x.2 kr) kS ?_;refine m5i ?_;refine AR [7] ?_
 refine AP (fun K hK=>?_) AZ
 refine qax 50 rfl (mc noM) qci ?_;intro b5 w9 l9 R9 h9;(first|replace h9:=qaj h9|skip);replace N:=N.alloc (o:=ob 50 (mc noM)) l9 R9 h9;clear R9 h9 l9;replace kS:_/\_/\_:=⟨(N.m.cell 34).trans N.m.c34,((N.row 2 rfl).cell 0).trans rfl,N.m.flows1⟩
 refine hK.out _ _ kS (fun _=>?_)
 clear hK K;(try simp only[ZZ]);refine AR [8] ?_
 refine AP (fun K hK=>?_) AZ
 refine sy 50 (.tmp 5) (.tmp 12) (mc (flM x.2)) (N.row 0 rfl) ?_;refine m7s ?_;clear N;intro w9 N;replace kS:_/\_/\_:=⟨(N.m.cell 34).trans N.m.c34,((N.row 2 rfl).cell 0).trans rfl,N.m.flows1⟩
 refine hK.out _ _ kS (fun _=>?_)
 clear hK K;(try simp only[ZZ]);refine AN ?_;clear kS
 go_upto_region 2 with fail
 have kS:_/\_:=⟨(N.m.cell 34).trans N.m.c34,((N.row 2 rfl).cell 0).trans rfl⟩
 refine RD (fun W=>W.cell? ⟨b,34,none⟩=some (.map (some bm))/\W.cell? ⟨b3,0,none⟩=some (.int .i64 ((x.1:Nat):Int))) kS (fun _=>?_)
 refine m3j ?_;refine tk 3 (.map (some bm)) rfl (Or.inl ⟨by kernel_rfl,by intro w hS;have hc:=hS.1;go_simp⟩) kS (tk 4 (.int .i64 ((x.1:Nat):Int)) rfl (Or.inl ⟨by kernel_rfl,by intro w hS;have hc:=hS.2;go_simp⟩) kS ?_);refine m5i ?_;refine AR [5] ?_
 refine AP (fun K hK=>?_) AZ
 refine q8u (.tmp 16) (.tmp 17) rfl bm _ D kr (qdy N.m.flows1 rfl) (x.1:Int) HWF.out kr ?_;intro w9 hm9 hg9;(first|replace hg9:=qgn hg9|skip);replace N:=N.del hm9 hg9 HIS.out HLN.out HCN.out;clear hm9 hg9;replace kS:_/\_:=⟨(N.m.cell 34).trans N.m.c34,((N.row 2 rfl).cell 0).trans rfl⟩
 refine hK.out _ _ kS (fun _=>?_)
 clear hK K;(try simp only[ZZ]);refine AN ?_;clear kS
 go_upto_region 3 with fail
 go_wp2_with (first|((with_reducible refine gL 86 21 ?_);refine qn5 rfl (.tmp 21) rfl b 35 rfl ov ((N.m.cell 35).trans N.m.c35) ?_)|(go_at_call 145;refine(q86 N.m.ids HL0.out HLM.out (x.1:Int) b3 (((N.row 2 rfl).cell 0).trans rfl) (fun e=>N.k.notF 2 rfl (.inr (.inr (.inl e))))).mono ?_;rintro e w5 ⟨sa9,n9,c9,rfl,ho9,hb9,hg9⟩;have R8:Row 93 w5 b cs:=(hg9.block b N.m.lt (fun e=>N.m.ovb e.symm)).trans N.m.row)|((with_reducible refine gS 86 26 24 ?_);refine qr9 R8 rfl (.tmp 26) (.tmp 24) rfl 35 rfl (.slice sa9 n9 c9) sa9 n9 c9 rfl rfl _ N.m.c35 ?_;intro w9 R9 t9;replace N:=N.order hg9 ho9 hb9 R9 t9;clear R8 R9 t9 hg9 ho9 hb9)|((with_reducible refine gL 50 5 ?_);refine lx 50 (.tmp 5) (mc (flM x.2)) (N.row 0 rfl) ?_)|((with_reducible refine gS 50 4 27 ?_);refine sx 50 (.tmp 4) _ (mc (flM x.2)) (N.row 1 rfl) ?_;refine m4z ?_;clear N;intro w9 N))
 (refine m03 ?_;refine bodyPost_ret (qai (p:=4) rfl _ _ _ _ rfl (N.row 1 rfl) _ underlying50 rfl (qak _)) rfl ⟨rfl,HND.out _ _ N⟩)
theorem qxf(p:Pkt)(sub:Int)(w:World):Calls prog 87 #[.agg (pcl p),I Z sub] w fun e w'=>∃bp bs,e=.returned (.func (.func 123) #[] #[V (some ⟨bp,0,none⟩),V (some ⟨bs,0,none⟩)])/\Row 61 w' bp (pcl p)/\Row 3 w' bs #[I Z sub]/\Below w.heap.size w w':=by
 have B:=Bd.start w;refine m34 ?_;intro hmf
 go_enter func87,ntmps87
 go_wp2_with (first|((with_reducible refine gB 61 0 ?_);refine bx 61 (.tmp 0) (pcl p) ?_;intro b2 w9 l9 R9 h9;replace B:=B.alloc l9 R9 h9;clear R9 h9 l9)|((with_reducible refine gB 3 1 ?_);refine qpu rfl (.tmp 1) rfl sub rfl ?_;intro b3 w9 l9 R9 h9;replace B:=B.alloc l9 R9 h9;clear R9 h9 l9))
 go_ret
 exact⟨b2,b3,rfl,B.row 1 rfl,B.row 0 rfl,B.base⟩
theorem q1a(k:Fl)(x:Int)(inw:Bool):(qem k x inw).1.rem=k.rem/\(qem k x inw).1.a=k.a:=by
 unfold qem qbi
 (repeat' split)<;>exact⟨rfl,rfl⟩
theorem q3y(k:Fl)(x now:Int)(inw:Bool):(qcu k x inw now).rem=k.rem/\(qcu k x inw now).a=k.a:=by
 have:=q1a k x inw
 unfold qcu
 split
 ·exact this
 ·exact this
theorem qvd(hx:x∈fs)(k:Fl):(x.1,k)∈setF fs x.1 k:=by
 unfold setF
 exact List.mem_map.2 ⟨x,hx,by rw[if_pos rfl]⟩
theorem qwo(fs:List (Nat×Fl))(n:Nat)(k:Fl):(setF fs n k).length=fs.length:=by unfold setF;simp
theorem qn4(hgd:o.guard=none)(x:Operand)(ho:o.op=.load 85 x)(b f:Nat)(hx:a.eval x=V (some ⟨b,f,none⟩))(v:Value)(hc:w.cell? ⟨b,f,none⟩=some v)(hr:wpList prog ops Q rest (a.put o.dst v) w):wpList prog ops Q (o::rest) a w:=
 wpList_plain hgd fun K hK=>qj9 x ho b f hx v hc (hK _ _ hr)
theorem qmi:∀(vs:List Value) (o:Nat) (cs:Array Value),(qc8 cs o vs).size=cs.size
 | [],_,_=>rfl
 | v::r,o,cs=>by unfold qc8;rw[qmi r (o+1)];simp
theorem qir:∀(vs:List Value) (o:Nat) (cs:Array Value) (i:Nat),(i<o\/o+vs.length<=i)->(qc8 cs o vs)[i]?=cs[i]?
 | [],_,_,_,_=>rfl
 | v::r,o,cs,i,h=>by
  rw[List.length_cons] at h
  unfold qc8
  rw[qir r (o+1) _ i om,Array.getElem?_setIfInBounds,if_neg om]
theorem qj4:∀(vs:List Value) (o:Nat) (cs:Array Value) (k:Nat),k<vs.length->o+vs.length<=cs.size->(qc8 cs o vs)[o+k]?=vs[k]?
 | [],_,_,k,h,_=>absurd h zm
 | v::r,o,cs,k,h,hs=>by
  rw[List.length_cons] at h hs
  unfold qc8
  cases k with
  | zero=>show(qc8 (cs.setIfInBounds o v) (o+1) r)[o]?=some v;rw[qir r (o+1) _ o om,Array.getElem?_setIfInBounds,if_pos rfl,if_pos om]
  | succ j=>rw[show o+(j+1)=(o+1)+j by omega,qj4 r (o+1) _ j om (by simp;omega)];rfl
section
variable {w w':World} {b:Nat} {cs cs':Array Value} {v ov:Value} {fm:Option Nat} {D:DataW Unit} {Fw:Nat->Prop} {cnt:Nat} {s:Nt} {tm:Int->Option Int} {is:List Int}
theorem NatM.there(h:NatM w b cs v ov fm D Fw cnt s tm is)(n:Nat)(hn:n<=30):w.there b 4 n:=fun j hj=>by
 refine⟨?_,h.row.free _⟩
 rw[h.cell,Array.getElem?_eq_getElem (by rw[h.size];omega)];rfl
theorem NatM.setTable(h:NatM w b cs v ov fm D Fw cnt s tm is)(f':Nat->Int)(g':Nat->Bool)(h':Nat->Int)(v':Value)(ms':List Mp)(l:List Value)(hl:l.length<=30)(R:Row 93 w' b (qc8 cs 4 l))(T:qbl b w w')(hc:∀k,k<30->(qc8 cs 4 l)[4+k]?=(tc f' g' h' v')[k]?)(hM:qaz w v' ms')(hN:qcs v')(hF:0<ms'.length->¬Fw (mb v')/\ov.ownBlock≠some (mb v')):NatM w' b (qc8 cs 4 l) v' ov fm D Fw cnt { s with f:=f',g:=g',h:=h',ms:=ms' } tm is:=by
 (have e:∀i,(i<4\/34<=i)->(qc8 cs 4 l)[i]?=cs[i]?:=fun i hi=>qir l 4 cs i om)
 refine⟨h.wheel.turn R (qmi _ _ _) (fun i h1 h2=>e i om) T.other,(qmi _ _ _).trans h.size,(e 0 om).trans h.c0,(e 1 om).trans h.c1,(e 2 om).trans h.c2,(e 3 om).trans h.c3,hc,(e 34 om).trans h.c34,(e 35 om).trans h.c35,(e 36 om).trans h.c36,qc4 hM (fun h0=>T.other _ (fun e=>(hF h0).1 (e▸h.inb))),hN,qfc h.ids (fun c hc=>T.other c (fun e=>h.ovb (e▸hc))),?_,h.reads,h.sized,h.few,h.fmNot,h.ovNot,hF,h.up,h.num,h.bg⟩
 rcases h.flows with h0|⟨bm,h1,h2⟩
 ·exact .inl h0
 ·exact .inr ⟨bm,h1,qdy h2 (T.other bm (fun e=>h.fmb (e▸h1)))⟩
theorem NatM.tableRange(h:NatM w b cs v ov fm D Fw cnt s tm is):w.rangeAt b 4 (tc s.f s.g s.h v).toList:=fun j u hu=>by
 (have hj:j<30:=by have:=(List.getElem?_eq_some_iff.1 hu).1;simpa[qcr] using this);rw[h.cell,h.ct j hj]
 simpa using hu
end
theorem Bk.adopt{W':World}(h:Bk w0 W F0 F L)(hg:Gr (fun c=>c=b) W W')(hb:F b)(hF:∀c,F' c->F c\/(w0.heap.size<=c/\c<W.heap.size/\∀y∈L,y.1≠c)):Bk w0 W' F0 F' L:=by
 refine⟨h.gr.trans hg (fun x hx=>h.sub x (hx▸hb)),fun c hc=>?_,fun c hc=>?_,h.nodup,fun y hy=>⟨?_,(h.rows y hy).2.1,fun hc=>?_⟩⟩
 ·rcases hF c hc with h1|h1
  ·exact h.sub c h1
  ·exact .inr h1.1
 ·rcases hF c hc with h1|h1
  ·exact Nat.lt_of_lt_of_le (h.bd c h1) hg.size
  ·exact Nat.lt_of_lt_of_le h1.2.1 hg.size
 ·have hl:=h.lt (List.mem_map.2 ⟨y,hy,rfl⟩)
  exact(hg.block _ hl (fun hx=>(h.rows y hy).2.2 (hx▸hb))).trans (h.rows y hy).1
 ·rcases hF _ hc with h1|h1
  ·exact(h.rows y hy).2.2 h1
  ·exact h1.2.2 y hy rfl
section
variable {w0 W W':World} {b:Nat} {cs:Array Value} {v ov:Value} {fm:Option Nat} {D:DataW Unit} {Fw F0:Nat->Prop} {cnt:Nat} {s:Nt} {tm:Int->Option Int} {is:List Int} {L:List (Nat×Obj)}
theorem Nm.table(h:Nm w0 W b cs v ov fm D Fw cnt s tm is F0 L)(f':Nat->Int)(g':Nat->Bool)(h':Nat->Int)(v':Value)(ms':List Mp)(l:List Value)(hl:l.length<=30)(R:Row 93 W' b (qc8 cs 4 l))(T:qbl b W W')(hc:∀k,k<30->(qc8 cs 4 l)[4+k]?=(tc f' g' h' v')[k]?)(hM:qaz W v' ms')(hN:qcs v')(hn:0<ms'.length->¬FpN Fw fm ov v s.ms (mb v')/\w0.heap.size<=mb v'/\∀y∈L,y.1≠mb v'):Nm w0 W' b (qc8 cs 4 l) v' ov fm D Fw cnt { s with f:=f',g:=g',h:=h',ms:=ms' } tm is F0 L:=
 ⟨h.m.setTable f' g' h' v' ms' l hl R T hc hM hN (fun h0=>⟨fun hf=>(hn h0).1 (.inl hf),fun e=>(hn h0).1 (.inr (.inr (.inl e)))⟩),h.k.adopt (qcq T) (.inl h.m.inb) (fun c hc=>by
  rcases hc with h1|h1|h1|⟨h1,rfl⟩
  ·exact .inl (.inl h1)
  ·exact .inl (.inr (.inl h1))
  ·exact .inl (.inr (.inr (.inl h1)))
  ·exact .inr ⟨(hn h1).2.1,hM.lt h1,(hn h1).2.2⟩)⟩
end
theorem qcg(f:Nat->Int)(g:Nat->Bool)(h:Nat->Int)(sl:Value):(tc f g h sl).toList.length=30:=by simp[qcr]
theorem qit(x:Operand)(ho:o.op=.load 39 x)(hw:Region.wanted o (yielded ops a.tmps)=true)(b:Nat)(hx:a.eval x=V (some ⟨b,4,none⟩))(f:Nat->Int)(g:Nat->Bool)(h:Nat->Int)(v:Value)(hS:∀w,S w->w.rangeAt b 4 (tc f g h v).toList):YieldsIf prog ops S o (.agg (tc f g h v)) a:=by
 have:=yieldsIf_load_mid (P:=prog) (S:=S) hw 39 x ho b 4 hx (tc f g h v).toList _ hS underlying39 rfl (qcj f g h v)
 simpa using this
theorem qbc(hgd:o.guard=none)(x y:Operand)(ho:o.op=.store 39 x y)(b:Nat)(cs:Array Value)(R:Row 93 w b cs)(hsz:cs.size=487)(hx:a.eval x=V (some ⟨b,4,none⟩))(f:Nat->Int)(g:Nat->Bool)(h:Nat->Int)(sa:Option Addr)(n c:Nat)(hy:a.eval y=.agg (tc f g h (.slice sa n c)))(hr:∀w',Row 93 w' b (qc8 cs 4 (tc f g h (.slice sa n c)).toList)->qbl b w w'->(∀k,k<30->(qc8 cs 4 (tc f g h (.slice sa n c)).toList)[4+k]?=(tc f g h (.slice sa n c))[k]?)->wpList prog ops Q rest (a.put o.dst undef) w'):wpList prog ops Q (o::rest) a w:=by
 have ht:w.there b 4 (tc f g h (.slice sa n c)).size:=fun j hj=>by
  (have hj':j<30:=by rw[qcr] at hj;exact hj)
  refine⟨?_,R.free _⟩
  rw[R.cell,Array.getElem?_eq_getElem (by rw[hsz];omega)];rfl
 refine wpList_store_mid hgd 39 x y ho b 4 _ hx hy ht (qaq _ _ _ _) (qbm _ _ _ _ _ _) ?_
 exact hr _ (Row.setAll _ 4 w _ R) (qi4 b _ 4 w) (fun k hk=>by rw[qj4 _ _ _ _ (by rw[qcg];exact hk) (by rw[qcg,hsz];omega)];simp)
theorem q4b(f:Nat->Int)(g:Nat->Bool)(h:Nat->Int)(sl:Value)(ms:List Mp)(m:Mp)(hwH:wfH h)(w:World)(hM:qaz w sl ms)(G:qbq f h ms)(hm:m∈ms):
  Calls prog 148 #[.agg (tc f g h sl),.agg (mc m)] w fun e w'=>∃sa n c,e=.returned (.tuple #[.agg (tc (qe1 f h ms m).1 g (qe1 f h ms m).2.1 (.slice sa n c)),.bool (qe1 f h ms m).2.2,I Z 0])/\qaz w' (.slice sa n c) (qa6 ms m)/\qcs (.slice sa n c)/\(0<(qa6 ms m).length->w.heap.size<=mb (.slice sa n c))/\Below w.heap.size w w':=by
 have key:∀(F' H':Nat->Int) (T':Bool),(F',H',T')=qe1 f h ms m->(Calls prog 148 #[.agg (tc f g h sl),.agg (mc m)] w fun e w'=>∃v,e=.returned (.tuple #[.agg (tc F' g H' v),.bool T',I Z 0])/\qaz w' v (qa6 ms m)/\qcs v/\(0<(qa6 ms m).length->w.heap.size<=mb v)/\Below w.heap.size w w')->Calls prog 148 #[.agg (tc f g h sl),.agg (mc m)] w fun e w'=>∃sa n c,e=.returned (.tuple #[.agg (tc (qe1 f h ms m).1 g (qe1 f h ms m).2.1 (.slice sa n c)),.bool (qe1 f h ms m).2.2,I Z 0])/\qaz w' (.slice sa n c) (qa6 ms m)/\qcs (.slice sa n c)/\(0<(qa6 ms m).length->w.heap.size<=mb (.slice sa n c))/\Below w.heap.size w w':=by
  intro F' H' T' he hc;rw[←he];refine hc.mono ?_
  rintro e w' ⟨v,rfl,h1,h2,h3,h4⟩
  obtain⟨a,c,hv,-⟩:=id h1
  subst hv
  exact⟨_,_,_,rfl,h1,h2,h3,h4⟩
 cases ha:(qa6 ms m).any (fun o=>qa7 o==qa7 m) with
 | true=>exact key f h false (by unfold qe1;rw[if_pos ha]) (q67 f g h sl ms m hwH w hM G hm ha)
 | false=>
  by_cases hz:(qbk (qdx f m) m.2.1).length=0
  ·exact key (qdx f m) (upd h m.2.1.toNat 0) true (by unfold qe1 qux;rw[if_neg (by rw[ha];simp),if_pos hz]) (qzw f g h sl ms m hwH w hM G hm ha hz)
  ·exact key (qdx f m) h true (by unfold qe1 qux;rw[if_neg (by rw[ha];simp),if_neg hz]) (qy2 f g h sl ms m hwH w hM G hm ha hz)
theorem qel(f:Nat->Int)(g:Nat->Bool)(h:Nat->Int)(sl:Value):tz.size=(tc f g h sl).size:=by kernel_rfl
theorem newM(K:Bk w0 W F0 F L)(hl:0<n->W.heap.size<=mb v)(hb:b<W.heap.size):0<n->¬F (mb v)/\w0.heap.size<=mb v/\b≠mb v:=fun h0=>by
 have h1:=hl h0;have h2:=K.gr.size
 exact⟨fun hf=>by have:=K.bd _ hf;omega,by omega,by omega⟩
theorem qbg{ms:List Mp}(h:qaz w v ms)(T:qbl c w w')(hn:0<ms.length->c≠mb v):qaz w' v ms:=qc4 h (fun h0=>T.other _ (fun e=>hn h0 e.symm))
theorem quf{x:Obj}(h1:p≠k)(h2:q≠k):∀z∈[(p,x),(q,y)],z.1≠k:=by
 intro z hz
 rcases List.mem_cons.1 hz with rfl|hz
 ·exact h1
 ·obtain rfl:=List.mem_singleton.1 hz;exact h2
theorem sZtn51{p:Prop}(h:p:=by
 refine AR [11] ?_
 refine AP (fun K hK=>?_) ?_
 ·refine sy 39 (.tmp 5) (.tmp 18) (tc f9 s.g h9 (.slice sa9 n9 c9)) (N.row 0 rfl) ?_;intro w9 R9 t9';(first|replace t9':=qap t9'|skip);replace hM9:=qbg hM9 t9' H5.out;replace N:=N.turn 0 rfl R9 t9';clear R9 t9';replace kS:_/\_:=⟨N.m.tableRange,N.row 1 rfl⟩
  refine hK.out _ _ kS (fun _=>?_)
  clear hK K;(try simp only[ZZ]);refine tq 12 (.bool t9) rfl kS (tq 13 (I Z 0) rfl kS ?_);refine m1f ?_;clear kS
  first|((go_wp2_with (first|((with_reducible refine gL 39 5 ?_);refine lx 39 (.tmp 5) (tc f9 s.g h9 (.slice sa9 n9 c9)) (N.row 0 rfl) ?_)|((with_reducible refine gS 39 24 22 ?_);refine m4e ?_;clear N hM9;intro w9 N)));go_ret;exact⟨rfl,N.natC⟩)|(replace N:=N.drew;replace hM9:=hM9.below (Below.refl _ _).drew;((go_wp2_with (first|((with_reducible refine gL 39 5 ?_);refine lx 39 (.tmp 5) (tc f9 s.g h9 (.slice sa9 n9 c9)) (N.row 0 rfl) ?_)|((with_reducible refine gS 39 24 22 ?_);refine m4e ?_;clear N hM9 hN9;intro w9 N)));go_ret;exact⟨rfl,N.natC⟩))
 exact AZ):p:=h
theorem qzy(h:NatC w b s tm F cnt)(m:Mp)(G:qbq s.f s.h s.ms)(hwH:wfH s.h)(hm:m∈s.ms):Calls prog 97 #[V (some ⟨b,0,none⟩),.agg (mc m)] w fun e w'=>e=.returned (.bool (s.closeU m).1)/\∃F',NatC w' b (s.closeU m).2 tm F' cnt/\Gr F w w'/\∀c,F' c->F c\/w.heap.size<=c:=by
 obtain⟨cs,v,ov,fm,D,Fw,M,hF⟩:=h;(have CH:=fun W F (hN:qaw W b s tm F) bm Rm=>q87 hN m bm Rm);(have CC:=fun W (hM:qaz W v s.ms)=>q4b s.f s.g s.h v s.ms m hwH W hM G hm);refine m34 ?_;intro hmf;have N:=Nm.start M hF
 unfold Nt.closeU
 clear M hF
 generalize(fun c=>Fw c/\c<w.heap.size)=Fw at *
 cases hf:s.find (qf0 m) with
 | some x=>
  rw[hf] at CH
  rw[if_pos (by rfl)]
  simp only[Option.isSome_some] at CH
  clear CC hf G hwH hm
  go_enter func97,ntmps97
  go_wp2_with (first|((with_reducible refine gB 50 1 ?_);refine m7e ?_;intro b3 w9 l9 R9 h9;replace N:=N.alloc (o:=ob 50 (mc m)) l9 R9 h9;clear R9 h9 l9)|(go_at_call 135;go_fit (CH _ _ (qg2 N.m) _ (N.row 0 rfl));refine m22 ?_;clear N;intro w5 N))
  go_ret
  exact⟨rfl,N.natC⟩
 | none=>
  rw[hf] at CH
  rw[if_neg zm]
  simp only[Option.isSome_none] at CH
  generalize qe1 s.f s.h s.ms m=cl at *
  obtain⟨f9,h9,t9⟩:=cl
  simp only[Nt.setT] at *
  clear hf G hwH hm
  go_enter func97,ntmps97
  go_upto_region 3 with(first|((with_reducible refine gB 50 1 ?_);refine m7e ?_;intro b3 w9 l9 R9 h9;replace N:=N.alloc (o:=ob 50 (mc m)) l9 R9 h9;clear R9 h9 l9)|(go_at_call 135;go_fit (CH _ _ (qg2 N.m) _ (N.row 0 rfl));refine m22 ?_;clear N;intro w5 N))
  have kS:_/\_:=⟨N.m.tableRange,N.row 0 rfl⟩
  refine RD (fun W=>W.rangeAt b 4 (tc s.f s.g s.h v).toList/\Row 50 W b3 (mc m)) kS (fun _=>?_)
  refine m26 ?_
  refine tk 3 (.agg (tc s.f s.g s.h v)) rfl (qit (.tmp 14) rfl kr b kr s.f s.g s.h v (fun _ h=>h.1)) kS (tk 4 (.agg (mc m)) rfl (yx 50 (.tmp 3) (mc m) (fun _ h=>h.2)) kS ?_)
  refine m5i ?_;refine AR [5,10] ?_
  refine AC (fun K hK=>?_) ?_
  ·go_simp
   go_at_call 148;(first|refine(CC _ N.m.maps).mono ?_|refine(CC _ N.drew.m.maps).mono ?_);rintro e w8 ⟨sa9,n9,c9,rfl,hM9,hN9,hl9,hb9⟩;refine m4d ?_;clear hb9;intro hb9 H9;(try have H5:Hid (0<(qa6 s.ms m).length->b5≠mb (.slice sa9 n9 c9)):=hidN (fun h0=>by have h1:=hl9 h0;have h2:=(N.row 0 rfl).lt;exact Nat.ne_of_lt (Nat.lt_of_lt_of_le h2 h1)));replace N:=N.below hb9;clear hb9 hl9;(first|replace kS:World.rangeAt _ _ _ _/\Row 50 _ b3 (mc m):=⟨N.m.tableRange,N.row 0 rfl⟩|replace kS:World.rangeAt _ _ _ _/\Row 50 _ b3 (mc m):=⟨N.m.tableRange,N.row 1 rfl⟩)
   go_wp2_with fail
   refine hK.out _ _ kS (fun _=>?_)
   clear hK K;(try simp only[ZZ]);refine m4u ?_;refine AR [10] ?_
   refine AP (fun K hK=>?_) AZ
   refine qax 39 rfl tz qbp ?_;intro b5 w9 l9 R9 h9;(first|replace h9:=qaj h9|skip);(try have H5:Hid (0<(qa6 s.ms m).length->b5≠mb (.slice sa9 n9 c9)):=hidN (fun h0=>by have h1:=hM9.lt h0;exact Nat.ne_of_gt (Nat.lt_of_lt_of_le h1 l9)));(try replace hM9:=hM9.below h9);replace N:=N.alloc (o:=ob 39 tz) l9 R9 h9;clear R9 h9 l9;replace kS:_/\_:=⟨N.m.tableRange,N.row 1 rfl⟩
   refine hK.out _ _ kS (fun _=>?_)
   clear hK K;(try simp only[ZZ])
   exact sZtn51
  refine AP (fun K hK=>?_) AZ
  refine qax 39 rfl tz qbp ?_;intro b5 w9 l9 R9 h9;(first|replace h9:=qaj h9|skip);(try have H5:Hid (0<(qa6 s.ms m).length->b5≠mb (.slice sa9 n9 c9)):=hidN (fun h0=>by have h1:=hM9.lt h0;exact Nat.ne_of_gt (Nat.lt_of_lt_of_le h1 l9)));(try replace hM9:=hM9.below h9);replace N:=N.alloc (o:=ob 39 tz) l9 R9 h9;clear R9 h9 l9;replace kS:_/\_:=⟨N.m.tableRange,N.row 1 rfl⟩
  refine hK.out _ _ kS (fun _=>?_)
  clear hK K;(try simp only[ZZ]);refine AR [5] ?_
  refine AC (fun K hK=>?_) AZ
  go_simp
  go_at_call 148;(first|refine(CC _ N.m.maps).mono ?_|refine(CC _ N.drew.m.maps).mono ?_);rintro e w8 ⟨sa9,n9,c9,rfl,hM9,hN9,hl9,hb9⟩;refine m4d ?_;clear hb9;intro hb9 H9;(try have H5:Hid (0<(qa6 s.ms m).length->b5≠mb (.slice sa9 n9 c9)):=hidN (fun h0=>by have h1:=hl9 h0;have h2:=(N.row 0 rfl).lt;exact Nat.ne_of_lt (Nat.lt_of_lt_of_le h2 h1)));replace N:=N.below hb9;clear hb9 hl9;(first|replace kS:World.rangeAt _ _ _ _/\Row 50 _ b3 (mc m):=⟨N.m.tableRange,N.row 0 rfl⟩|replace kS:World.rangeAt _ _ _ _/\Row 50 _ b3 (mc m):=⟨N.m.tableRange,N.row 1 rfl⟩)
  go_wp2_with fail
  refine hK.out _ _ kS (fun _=>?_)
  clear hK K;(try simp only[ZZ]);refine m4u ?_
  exact sZtn51
section
variable {w0 W W':World} {b:Nat} {cs:Array Value} {v ov:Value} {fm:Option Nat} {D:DataW Unit} {Fw F0:Nat->Prop} {cnt:Nat} {s:Nt} {tm:Int->Option Int} {is:List Int} {L:List (Nat×Obj)}
theorem Nm.nb(h:Nm w0 W b cs v ov fm D Fw cnt s tm (s.fs.map fun x=>(x.1:Int)) F0 L):Nb w0 W b s tm F0 (FpN Fw fm ov v s.ms) L:=⟨qg2 h.m,h.k.gr,h.k.sub,h.k.bd,h.k.nodup,h.k.rows⟩
theorem Nm.perm{L':List (Nat×Obj)}(h:Nm w0 W b cs v ov fm D Fw cnt s tm is F0 L)(hp:L.Perm L'):Nm w0 W b cs v ov fm D Fw cnt s tm is F0 L':=⟨h.m,h.k.gr,h.k.sub,h.k.bd,(hp.map _).nodup_iff.1 h.k.nodup,fun y hy=>h.k.rows y (hp.mem_iff.2 hy)⟩
theorem Nm.tableO(h:Nm w0 W b cs v ov fm D Fw cnt s tm is F0 L)(f':Nat->Int)(g':Nat->Bool)(h':Nat->Int)(v':Value)(ms':List Mp)(l:List Value)(hl:l.length<=30)(R:Row 93 W' b (qc8 cs 4 l))(T:qbl b W W')(hc:∀k,k<30->(qc8 cs 4 l)[4+k]?=(tc f' g' h' v')[k]?)(hM:qaz W v' ms')(hN:qcs v')(hn:0<ms'.length->(mb v'=mb v/\0<s.ms.length)\/(¬FpN Fw fm ov v s.ms (mb v')/\w0.heap.size<=mb v'))(hr:0<ms'.length->∀y∈L,y.1≠mb v'):Nm w0 W' b (qc8 cs 4 l) v' ov fm D Fw cnt { s with f:=f',g:=g',h:=h',ms:=ms' } tm is F0 L:=
 ⟨h.m.setTable f' g' h' v' ms' l hl R T hc hM hN (fun h0=>by
  rcases hn h0 with⟨e,h1⟩|h1
  ·rw[e];exact h.m.msNot h1
  ·exact⟨fun hf=>h1.1 (.inl hf),fun e=>h1.1 (.inr (.inr (.inl e)))⟩),h.k.adopt (qcq T) (.inl h.m.inb) (fun c hc=>by
  rcases hc with h1|h1|h1|⟨h1,rfl⟩
  ·exact .inl (.inl h1)
  ·exact .inl (.inr (.inl h1))
  ·exact .inl (.inr (.inr (.inl h1)))
  ·rcases hn h1 with⟨e,h2⟩|h2
   ·exact .inl (.inr (.inr (.inr ⟨h2,e⟩)))
   ·exact .inr ⟨h2.2,hM.lt h1,hr h1⟩)⟩
theorem Nm.old{x:Value}(h:Nm w0 W b cs v ov fm D Fw cnt s tm is F0 L)(hl:0<n->W.heap.size<=mb x\/(mb x=mb v/\0<s.ms.length)):0<n->(mb x=mb v/\0<s.ms.length)\/(¬FpN Fw fm ov v s.ms (mb x)/\w0.heap.size<=mb x):=fun h0=>by
 rcases hl h0 with h1|h1
 ·exact .inr ⟨fun hf=>by have:=h.k.bd _ hf;omega,Nat.le_trans h.k.gr.size h1⟩
 ·exact .inl h1
theorem Nm.notMb{x:Value}(h:Nm w0 W b cs v ov fm D Fw cnt s tm is F0 L)(hl:0<n->W.heap.size<=mb x\/(mb x=mb v/\0<s.ms.length))(i:Nat){o:Obj}(hi:L[i]?=some (c,o)):0<n->c≠mb x:=fun h0 e=>by
 have hm:=List.mem_of_getElem? hi
 rcases hl h0 with h1|⟨h1,h2⟩
 ·have:=h.k.lt (List.mem_map.2 ⟨_,hm,rfl⟩)
  simp only at this
  omega
 ·exact h.k.notF i hi (.inr (.inr (.inr ⟨h2,e.trans h1⟩)))
end
theorem qd9{r t:Nat}{x z u:Obj}(h1:p≠k)(h2:q≠k)(h3:r≠k)(h4:t≠k):∀a∈[(p,x),(q,y),(r,z),(t,u)],a.1≠k:=by
 intro a ha
 simp only[List.mem_cons,List.not_mem_nil,or_false] at ha
 rcases ha with rfl|rfl|rfl|rfl
 ·exact h1
 ·exact h2
 ·exact h3
 ·exact h4
theorem q62(f:Nat->Int)(g:Nat->Bool)(h:Nat->Int)(sl:Value)(ms:List Mp)(p s i d:Int)(hwH:wfH h)(hno:qcs sl)(hd:(Lit.int .i64 d).wf=true)(w:World)(hM:qaz w sl ms):
  Calls prog 130 #[.agg (tc f g h sl),.int .i64 p,.int .i64 s,.int .i64 i,.int .i64 d] w fun e w'=>∃sa n c,e=.returned (.tuple #[.agg (tc (qba f g h ms p s i d).f g (qba f g h ms p s i d).h (.slice sa n c)),.agg (mc (qba f g h ms p s i d).m),.bool (qba f g h ms p s i d).took,.int .i64 (qba f g h ms p s i d).e])/\qaz w' (.slice sa n c) (qba f g h ms p s i d).ms/\qcs (.slice sa n c)/\(0<(qba f g h ms p s i d).ms.length->w.heap.size<=mb (.slice sa n c)\/(mb (.slice sa n c)=mb sl/\0<ms.length))/\Below w.heap.size w w':=by
 have key:∀(m:Mp) (t:Bool) (E:Int),qba f g h ms p s i d=⟨E,f,h,ms,m,t⟩->(Calls prog 130 #[.agg (tc f g h sl),.int .i64 p,.int .i64 s,.int .i64 i,.int .i64 d] w fun e w'=>e=.returned (qpm f g h sl m t E)/\Below w.heap.size w w')->Calls prog 130 #[.agg (tc f g h sl),.int .i64 p,.int .i64 s,.int .i64 i,.int .i64 d] w fun e w'=>∃sa n c,e=.returned (.tuple #[.agg (tc (qba f g h ms p s i d).f g (qba f g h ms p s i d).h (.slice sa n c)),.agg (mc (qba f g h ms p s i d).m),.bool (qba f g h ms p s i d).took,.int .i64 (qba f g h ms p s i d).e])/\qaz w' (.slice sa n c) (qba f g h ms p s i d).ms/\qcs (.slice sa n c)/\(0<(qba f g h ms p s i d).ms.length->w.heap.size<=mb (.slice sa n c)\/(mb (.slice sa n c)=mb sl/\0<ms.length))/\Below w.heap.size w w':=by
  intro m t E he hc;rw[he];refine hc.mono ?_;rintro e w' ⟨rfl,hb⟩
  obtain⟨a,c,hv,-⟩:=id hM
  subst hv
  exact⟨_,_,_,rfl,hM.below hb,hno,fun h0=>.inr ⟨rfl,h0⟩,hb⟩
 by_cases hP:qjy f h ms p s i
 rotate_left
 ·exact key noM false 2 (by unfold qba;rw[if_neg hP]) (q6m f g h sl ms p s i d w hM hwH hP)
 cases hf:ms.find? (inS p s i) with
 | some m=>exact key m false 0 (by unfold qba;rw[if_pos hP,hf]) (q0s f g h sl ms p s i d w hM hwH hP m hf)
 | none=>
  by_cases hc:cntM ms s=12
  ·exact key noM false 6 (by unfold qba;rw[if_pos hP,hf];simp only;rw[if_pos hc]) (q2q f g h sl ms p s i d w hM hwH hP hf hc)
  ·by_cases he:(qbe f g h ms p s d).e=0
   rotate_left
   ·exact key noM false (qbe f g h ms p s d).e (by unfold qba;rw[if_pos hP,hf];simp only;rw[if_neg hc,if_pos he]) (q4y f g h sl ms p s i d w hM hwH hd hP hf hc he)
   ·(have ho:qba f g h ms p s i d=⟨0,(qbe f g h ms p s d).f,(qbe f g h ms p s d).h,ms++[(p,s,i,(qbe f g h ms p s d).h s.toNat-1,(qbe f g h ms p s d).q)],(p,s,i,(qbe f g h ms p s d).h s.toNat-1,(qbe f g h ms p s d).q),(qbe f g h ms p s d).took⟩:=by unfold qba;rw[if_pos hP,hf];simp only;rw[if_neg hc,if_neg (fun h=>h he)]);rw[ho];refine(q6u f g h sl ms p s i d w hM hwH hno hd hP hf hc he).mono ?_
    rintro e w' ⟨v,rfl,hMv,hNv,hl,hb⟩
    obtain⟨a,c,hv,-⟩:=id hMv
    subst hv
    exact⟨_,_,_,rfl,hMv,hNv,fun _=>.inl hl,hb⟩
theorem qbn(p q r u:Operand)(ho:o.op=.build 52 #[(0,p),(1,q),(2,r),(3,u)])(hw:Region.wanted o (yielded ops a.tmps)=true)(m:Mp)(x y z:Int)(h1:a.eval p=.agg (mc m))(h2:a.eval q=I Z x)(h3:a.eval r=I Z y)(h4:a.eval u=I Z z):YieldsIf prog ops S o (.agg (fc (mkF m x y z))) a:=
 .inl ⟨hw,fun w _=>by unfold execOp;simp only[ho,List.map_toArray,List.map_nil,List.map_cons,h1,h2,h3,h4,Sem.run_bind,qx7,Result.andThen_ok,Sem.run_pure]⟩
theorem qco{e:Ev}(R:Row 112 w b (ec e)):EvAt w (.slice (some ⟨b,0,none⟩) 1 1) [e]:=by
 refine⟨some ⟨b,0,none⟩,1,rfl,fun _=>rfl,fun j hj i u hu=>?_,by simp⟩
 have:j=0:=by simpa using hj
 subst this
 show w.cell? ⟨b,0+5*0+i,none⟩=some u
 (rw[show 0+5*0+i=i by omega,R.cell,q7d])
 exact hu
theorem qdl(r:Rp)(l:ByteArray):r.cells.setIfInBounds 3 (.string l)=Rp.cells ⟨r.code,r.fr,r.inn,l⟩:=rfl
theorem qb2(r:Rp):r.cells[3]?=some (.string r.lg):=rfl
theorem qbh(R:Row t w b cs)(hgd:o.guard=none)(x y:Operand)(ho:o.op=.store 9 x y)(f:Nat)(hx:a.eval x=V (some ⟨b,f,none⟩))(n:ByteArray)(hy:a.eval y=.string n)(m:Value)(hc:cs[f]?=some m)(ds:Array Value)(hd:cs.setIfInBounds f (.string n)=ds)(hr:∀w',Row t w' b ds->qbl b w w'->wpList prog ops Q rest (a.put o.dst undef) w'):wpList prog ops Q (o::rest) a w:=
 wpList_plain hgd fun K hK=>by
  refine m6s ?_;intro hcell hfr
  unfold Oper.wp execOp
  simp only[ho,hx,hy]
  simp[go_sem,hcell,hfr,underlying9]
  exact hK _ _ (hr _ (hd▸R.set) (qfx _ _ _ _))
end
end Go.Proofs.YtonnjgmognbnbaaGreatDoor
