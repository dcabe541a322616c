/-
  Of what a law stands on.
-/
import Derived.Shelf.SlicesE.DeleteFunc
import Derived.Test.YtnkpgdejagglaaaGreatDoorZyn4
import Derived.Test.YtnkpgdejagglaaaGreatDoorZyr2
set_option linter.all false
namespace Go.Proofs.YtnkpgdejagglaaaGreatDoor
open _root_.Array renaming getElem?_eq_some_iff->aV
open _root_.Go renaming Calls->az,Operand->aU,Value->ag,World->af,YieldsIf->gf,execOp->bG,wpList->aM,wpList_plain->bP,yielded->dy
open _root_.Go.Proofs.Tryz renaming prog->ah
open _root_.Go.Result renaming andThen_ok->bF
open _root_.Go.Sem renaming run_bind->bB,run_pure->bH
open _root_.Go.Sort renaming ahead->ju
open _root_.Go.Value renaming int->bO
open _root_.List renaming getElem?_eq_some_iff->aJ,getElem?_map->eh,length_cons->bU,map_cons->aB,map_nil->aI,map_toArray->dx,mem_cons->fO,mem_map->bQ,mem_of_getElem?->aH
open _root_.Nat renaming le_trans->aw,lt_of_lt_of_le->bi
open Go.Value renaming int → I,pointer → V
open Go.IntKind renaming i64 → Z
open _root_.Go.Proofs.Tryz
set_option maxHeartbeats 16000000
set_option maxRecDepth 100000
variable {ops:Array Oper}{rest:List Oper}{o:Oper}{a:Act}{W w w' w0:World}{Q:Exit->Act->World->Prop}{p:Prop}{b bm c cnt g k n q:Nat}{s:Nt}{F F' F0 G:Nat->Prop}{v:Value}{fs:List (Nat×Fl)}{x:Nat×Fl}{i:Int}{tm:Int->Option Int}{t:TypeId}{cs cs':Array Value}{D:DataW Unit}{S:World->Prop}{L:List (Nat×Obj)}{y:Obj}
section
open Go.ChangeShapes Go.WideShapes Go.ChangeAt Go.RowKit Go.Maps
theorem q5k(c:Int)(fr:ByteArray)(w:af):(Instr.build 29 #[(0,I Z c),(1,.string fr)]).run ah w=.ok (.agg (Rp.cells ⟨c,fr,false,ByteArray.empty⟩)) w:=by kernel_rfl
def qwy(x y:aU)(hgd:o.guard=none)(ho:o.op=.build 29 #[(0,x),(1,y)])(c:Int)(fr:ByteArray)(hx:a.eval x=I Z c)(hy:a.eval y=.string fr)(hr:aM ah ops Q rest (a.put o.dst (.agg (Rp.cells ⟨c,fr,false,ByteArray.empty⟩))) w):aM ah ops Q (o::rest) a w:=
 bP hgd fun K hK=>by
  unfold Oper.wp bG
  simp only[ho,dx,aI,aB,hx,hy,bB,q5k,bF,bH]
  exact hK _ _ hr
def C7(h:p:=by
 go_enter func34,ntmps34
 go_wp2_with (first|(refine gB 75 2 ?_;refine bx 75 (.tmp 2) (fc k) ?_;intro b5 w9 l9 R9 h9;replace N:=N.alloc (o:=ob 75 ((fc k))) l9 R9 h9;clear R9 h9 l9)|(refine gA 29 ?_;refine Wz ?_;clear N;intro b6 w9 N)|(refine gL 3 14 ?_;refine fx (N.row 1 rfl) (k.a) ?_)|(refine gL 3 18 ?_;refine fx (N.row 1 rfl) (k.port) ?_)|(go_at_call 40;go_fit (CT _);rintro e w5 ⟨rfl,bh⟩;clear CT;replace N:=N.below bh;clear bh)|(refine gL 3 24 ?_;refine fx (N.row 1 rfl) (k.rem) ?_)|(go_at_call 37;go_fit (CA _);refine qX ?_)|((with_reducible refine iE (.build 29 #[(0,.tmp 33),(1,.tmp 34)]) rfl ?_);refine qwy (.tmp 33) (.tmp 34) rfl rfl _ _ rfl rfl ?_)|(refine gS 29 6 35 ?_;refine sx (Rp.cells ⟨lA l 0 (3405803777+k.a) k.port,nI l 0 (3405803777+k.a) k.port,false,ByteArray.empty⟩) (N.row 0 rfl) ?_;refine oH ?_;clear N;intro w9 N)|(go_at_call 17;go_fit (CI _ _ N.nat);rintro e w5 ⟨rfl,F9,fY,dX,fH⟩;clear CI;replace N:=N.call fY dX fH;clear fY dX fH)|(refine gS 29 6 32 ?_;refine sx ((s.i7 T0.data.toList).1.cells) (N.row 0 rfl) ?_;refine oH ?_;clear N;intro w9 N))
 (refine bodyPost_ret (mW (p:=6) rfl _ _ _ _ rfl (N.row 0 rfl) _ underlying29 rfl (ur _)) rfl ⟨rfl,_,N.nat,N.gr,N.sub⟩)):p:=h
def qn8(h:cC w b s (dI s.fs) F)(fr:ByteArray)(hs:fr.size<=140737488351232)(k:Fl)(vZ:0<=k.rem/\k.rem<=4294967295)(hka:0<=k.a/\k.a<3)(dn:0<=s.now/\s.now<=549755813888)(hbg:s.began<700)(dU:s.fs.length<400)(hst:∀m∈s.ms,0<=m.2.1/\m.2.1<8):Calls prog 34 #[V (some ⟨b,0,none⟩),.string fr,.agg (fc k)] w fun e w'=>e=.returned (.agg (s.leave fr.data.toList k).1.cells)/\∃F',cC w' b (s.leave fr.data.toList k).2 (dI (s.leave fr.data.toList k).2.fs) F'/\Gr F w w'/\∀c,F' c->F c\/w.heap.size<=c:=by
 have N:=h.start;(have CT:=fun w=>qvz fr 0 (3405803777+k.a) k.port w hs);(have CA:=fun w=>qop k.rem w vZ.1 vZ.2);(have my:wrap64 (3405803777+k.a)=3405803777+k.a:=by unfold wrap64;omega);have hsz:=qy4 fr.data.toList 0 (3405803777+k.a) k.port;have jS:fr.data.toList.length=fr.size:=Array.length_toList
 unfold Nt.leave
 generalize fr.data.toList=l at *
 by_cases ha:0<=k.rem-3405803777/\k.rem-3405803777<3
 .rw[aZ ha]
  rw[decide_eq_true ha] at CA
  (have CI:=fun W F (hN:cC W b s (dI s.fs) F)=>q1g hN (nI l 0 (3405803777+k.a) k.port) om dn hbg dU hst);clear ha vZ hka hs hsz jS dn hbg dU hst
  generalize nI l 0 (3405803777+k.a) k.port=T0 at *
  exact C7
 .rw[aT ha]
  rw[decide_eq_false ha] at CA
  clear ha vZ hka hs hsz jS dn hbg dU hst
  exact C7
end
section
open Go.Shelf
def q6s:Go.Shelf.Ren:=⟨fun|10=>94|6=>154|n=>n,fun|22=>44|23=>3|25=>129|3=>3|4=>4|0=>0|n=>n,fun|n=>n⟩
def qhO:Go.Proofs.SlLaysH.n10 ah q6s:={
 mixed:=by kernel_rfl
 f6:=⟨f154.name,by decide,func154.trans (congrArg some kr)⟩
 f10:=⟨f94.name,by decide,func94.trans (congrArg some kr)⟩
 t0:=underlying0
 a0:=isAgg0
 z0:=sizeOf0
 v0:=zeroValue0
 t3:=underlying3
 a3:=isAgg3
 z3:=sizeOf3
 v3:=zeroValue3
 t4:=underlying4
 a4:=isAgg4
 z4:=sizeOf4
 v4:=zeroValue4
 t22:=underlying44
 a22:=isAgg44
 z22:=sizeOf44
 v22:=zeroValue44
 a23:=isAgg3
 z23:=sizeOf3
 t25:=underlying129
 a25:=isAgg129
 z25:=sizeOf129
 v25:=zeroValue129 }
end
section
open Go.ChangeShapes Go.WideShapes Go.ChangeAt Go.RowKit Go.Maps
open Go.Sort (grow putRow Holds putCells)
def qvm(i x:Int)(B:Nat)(W:af)(hc:W.cell? ⟨B,0,none⟩=some (I Z i)):FnGives ah 95 #[V (some ⟨B,0,none⟩)] #[I Z x] (.bool (x==i)) W:=by
 show az ah 95 #[I Z x,V (some ⟨B,0,none⟩)] W _
 go_enter func95,ntmps95
 go_wp2
 go_ret
 exact⟨rfl,0,rfl⟩
theorem qzb(d:Array Int)(hc:c≠g):(putRow (bO .i64) (ju w q) g 0 d).heap[c]?=w.heap[c]?:=by
 unfold putRow Sort.mapBlock ju
 grind
def q6z{cur:Array ag}{e:TypeId}{fr:Nat×Nat}(d:Array Int)(hb:w.heap[g]?=some (.cells cur e fr)):(putRow (bO .i64) (ju w q) g 0 d).heap[g]?=some (.cells (putCells (bO .i64) 0 d cur) e fr):=by
 unfold putRow Sort.mapBlock ju
 show(w.heap.modify g _)[g]?=_
 rw[Array.getElem?_modify,aZ rfl,hb]
 rfl
def qz3(d:Array Int):w.grownBy (putRow (bO .i64) (ju w q) g 0 d) (some g):=by
 refine⟨rfl,rfl,rfl,?_,fun k hk hne=>qzb d (fun e=>hne (by rw[e]))⟩
 simp
theorem q24(cur:Array ag)(l r:List Int)(h:(l++r).length<=cur.size):(putCells (bO .i64) 0 (l++r).toArray cur).toList.take l.length=l.map (bO .i64):=by
 apply List.ext_getElem?
 intro i
 rw[List.length_append] at h
 rw[List.getElem?_take,eh]
 by_cases hi:i<l.length
 .rw[aZ hi,Array.getElem?_toList]
  unfold putCells
  grind
 grind
def q86{l:List Int}(h:gT w v l)(hl:0<l.length)(hm:l.length<=1000000000)(i:Int)(B:Nat)(hB:w.cell? ⟨B,0,none⟩=some (I Z i))(hne:v.ownBlock≠some B):
  az ah 94 #[v,.func (.func 95) #[] #[V (some ⟨B,0,none⟩)]] w fun e w'=>∃sa n c,e=.returned (.slice sa n c)/\gT w' (.slice sa n c) (l.filter fun x=>!(x==i))/\(Value.slice sa n c).ownBlock=v.ownBlock/\w.grownBy w' v.ownBlock:=by
 obtain⟨g,cap,cur,rfl,hg,hlc,hcm,hcs,ht⟩:=h.shape hl
 (have gB:B≠g:=fun e=>hne (by rw[e];rfl));have lB:=World.block_lt_of_cell? w _ hB
 have hH:Holds (bO .i64) w g 0 l.toArray:=by
  intro j hj;(have hj':j<l.length:=by simpa using hj);rw[Nat.zero_add]
  refine⟨(Py hg j).trans ((Gf ht j hj').trans ?_),qnv hg j⟩
  simp[hj']
 have eg:∀args w,(callFunc 95 args).run ah w=.ok (.enter 95 args) w:=enters_of func95 kr rfl
 have hS:=AnyE.slices_DeleteFunc qhO (bO .i64) (fun _=>rfl) (fun x=>x==i) 95 #[V (some ⟨B,0,none⟩)] eg 0 zeroValue3 g 0 cap l.toArray w
  (fun W x hb=>qvm i x B W ((hb.cell (p:=⟨B,0,none⟩) lB).trans hB))
  (fun n os dk x _=>qvm i x B _ (by
   unfold sortWorld
   rw[Go.Sort.cell?_grow _ _ _ (by show B<(putRow _ _ _ _ _).heap.size;rw[Go.Sort.size_putRow];exact lB),Go.Sort.cell?_putRow_other _ _ g 0 _ _ (Or.inl gB)]
   exact hB)) hH (by simp;omega) (by simpa using hlc)
 change az ah 94 _ _ _ at hS
 (have hsz:l.toArray.size=l.length:=by simp)
 rw[hsz] at hS
 (have k7:(l.filter fun x=>!(x==i)).length<=l.length:=List.length_filter_le _ _);refine Calls.mono hS ?_
 rintro e w' ⟨rfl,q,rfl⟩
 refine⟨_,_,_,rfl,⟨by simp,.inr ⟨g,cap,_,rfl,Nat.zero_le _,q6z _ hg,by simpa using aw k7 hlc,hcm,by unfold putCells;simpa using hcs,?_⟩⟩,rfl,qz3 _⟩
 rw[Nat.mul_one]
 exact q24 cur _ _ (by simp;omega)
theorem q85(fs:List (Nat×Fl))(i:Int):mq (fs.filter fun x=>decide ((x.1:Int)≠i))=Nq (mq fs) i:=by grind [mq,Nq]
def qyf(hp:fs.Pairwise (fun x y=>x.1<y.1))(hx:x∈fs):(fs.filter fun y=>decide ((y.1:Int)≠(x.1:Int))).length+1=fs.length:=by
 induction fs with
 | nil=>cases hx
 | cons y r ih=>
  rw[List.pairwise_cons] at hp
  rcases fO.1 hx with rfl|hx
  .rw[List.filter_cons_of_neg zm]
   have:(r.filter fun y=>decide ((y.1:Int)≠(x.1:Int)))=r:=List.filter_eq_self.2 (fun z hz=>decide_eq_true (by have:=hp.1 z hz;omega))
   rw[this,bU]
  ·(have hy:(y.1:Int)≠(x.1:Int):=by have:=hp.1 x hx;omega);rw[List.filter_cons_of_pos (by simpa using hy),bU,bU,ih hp.2 hx]
theorem q7q(fs:List (Nat×Fl))(i:Int):(fs.map fun x=>(x.1:Int)).filter (fun x=>!(x==i))=(fs.filter fun x=>decide ((x.1:Int)≠i)).map fun x=>(x.1:Int):=by
 rw[List.filter_map]
 congr 1
 grind [List.filter_congr]
section
variable {w w':World} {b:Nat} {cs cs':Array Value} {v ov:Value} {fm:Option Nat} {D:DataW Unit} {Fw:Nat->Prop} {cnt:Nat} {s:Nt} {tm:Int->Option Int} {is:List Int}
theorem bE.NK(h:bE w b cs v ov (some bm) D Fw cnt s tm is)(hm:w'.ownsMap ah 3 vU bm n (D.del (kI (i:Int))))(hg:Gr (fun c=>c=bm) w w')(hi:(mq s.fs i).isSome=true)(hl:(s.fs.filter fun x=>decide ((x.1:Int)≠i)).length+1=s.fs.length)(hc:cnt+1<=s.fs.length):bE w' b cs v ov (some bm) (D.del (kI i)) Fw cnt { s with fs:=s.fs.filter fun x=>decide ((x.1:Int)≠i) } tm is:=by
 refine⟨h.iR.keep hg (fun c hc e=>h.jV bm rfl (e▸hc)),h.size,h.c0,h.c1,h.c2,h.c3,h.ct,h.kj,h.nj,h.rr,EA h.maps (fun h0=>hg.block _ (h.maps.lt h0) (h.Tt rfl h0)),h.nil,yy h.ids (fun c hc=>?_),.inr ⟨bm,rfl,qwf hm⟩,?_,?_,?_,h.jV,h.jW,h.im,h.up.filter _,fun x hx=>h.num x (List.mem_filter.1 hx).1,h.bg⟩
 .obtain⟨cur,m,hh⟩:=zN h.ids hc
  exact hg.block c (aV.1 hh).1 (fun e=>h.Nr rfl (e▸hc))
 .show Cg _ (mq (s.fs.filter fun x=>decide ((x.1:Int)≠i)))
  rw[q85];exact h.reads.del i
 .show Maps.size _=(s.fs.filter fun x=>decide ((x.1:Int)≠i)).length
  have:=size_del (k:=kI i) h.reads.tidy
  rw[h.reads.has,hi,h.sized] at this
  grind
 grind
end
def fT(w:af)(b:Nat)(s:Nt)(tm:Int->Option Int)(F:Nat->Prop)(cnt:Nat):Prop:=
 ∃cs v ov fm D Fw,bE w b cs v ov fm D Fw cnt s tm (s.fs.map fun x=>(x.1:Int))/\∀c,oV Fw fm ov v s.ms c->F c
theorem fT.nat(h:fT w b s tm F cnt):cC w b s tm F:=by grind [fT,cC]
def cC.counted(h:cC w b s tm F):∃cnt,fT w b s tm F cnt:=by
 obtain⟨cs,v,ov,fm,D,Fw,cnt,M,hF⟩:=h
 exact⟨cnt,cs,v,ov,fm,D,Fw,M,hF⟩
def fT.few(h:fT w b s tm F cnt):cnt<=s.fs.length:=by
 obtain⟨cs,v,ov,fm,D,Fw,M,hF⟩:=h
 exact M.few
def fT.keep(h:fT w b s tm F cnt)(hg:Gr G w w')(hG:∀c,F c->¬G c):fT w' b s tm F cnt:=by
 obtain⟨cs,v,ov,fm,D,Fw,M,hF⟩:=h
 exact⟨cs,v,ov,fm,D,Fw,M.keep hg (fun c hc=>hG c (hF c hc)),hF⟩
def fT.below(h:fT w b s tm F cnt)(hb:Below w.heap.size w w'):fT w' b s tm F cnt:=h.keep (Gr.cU (F:=fun _=>False) hb) (fun _ _=>id)
theorem fT.bound(h:fT w b s tm F cnt):fT w b s tm (fun c=>F c/\c<w.heap.size) cnt:=by
 obtain⟨cs,v,ov,fm,D,Fw,M,hF⟩:=h
 refine⟨cs,v,ov,fm,D,fun c=>Fw c/\c<w.heap.size,M.bound,fun c hc=>?_⟩
 rcases hc with h1|h1|h1|⟨h1,rfl⟩
 .exact⟨hF c (.inl h1.1),h1.2⟩
 .refine⟨hF c (.inr (.inl h1)),?_⟩
  rcases M.fu with⟨e,_⟩|⟨bm,e,hm⟩
  .grind
  .rw[e] at h1;cases h1;exact hm.lt
 .refine⟨hF c (.inr (.inr (.inl h1))),?_⟩
  obtain⟨cur,m,hh⟩:=zN M.ids h1
  grind
 .exact⟨hF _ (.inr (.inr (.inr ⟨h1,rfl⟩))),M.maps.lt h1⟩
structure Nc(w0 W:af)(b:Nat)(s:Nt)(tm:Int->Option Int)(F0 F:Nat->Prop)(cnt:Nat)(L:List (Nat×Obj)):Prop where
 nb:Nb w0 W b s tm F0 F L
 nc:fT W b s tm F cnt
section
variable {w0 W W':World} {b:Nat} {s:Nt} {tm:Int->Option Int} {F0 F:Nat->Prop} {cnt:Nat} {L:List (Nat×Obj)}
def fT.start(h:fT w b s tm F cnt):Nc w w b s tm F (fun c=>F c/\c<w.heap.size) cnt []:=⟨h.nat.start,h.bound⟩
def Nc.row(h:Nc w0 W b s tm F0 F cnt L)(i:Nat)(hi:L[i]?=some (c,ob t cs)):aP t W c cs:=h.nb.row i hi
def Nc.call(h:Nc w0 W b s tm F0 F cnt L){s':Nt}{zL:Int->Option Int}{cnt':Nat}(hn:fT W' b s' zL F' cnt')(hg:Gr F W W')(hF:∀c,F' c->F c\/W.heap.size<=c):Nc w0 W' b s' zL F0 (fun c=>F' c/\c<W'.heap.size) cnt' L:=⟨h.nb.call hn.nat hg hF,hn.bound⟩
def Nc.below(h:Nc w0 W b s tm F0 F cnt L)(hb:Below W.heap.size W W'):Nc w0 W' b s tm F0 F cnt L:=⟨h.nb.below hb,h.nc.below hb⟩
def Nc.drew(h:Nc w0 W b s tm F0 F cnt L):Nc w0 W.drew b s tm F0 F cnt L:=h.below (Below.refl _ _).drew
def Nc.alloc(h:Nc w0 W b s tm F0 F cnt L){o:Obj}(hl:W.heap.size<=c)(R:W'.heap[c]?=some o)(hb:Below W.heap.size W W'):Nc w0 W' b s tm F0 F cnt ((c,o)::L):=⟨h.nb.alloc hl R hb,h.nc.below hb⟩
def Nc.turn(h:Nc w0 W b s tm F0 F cnt L)(i:Nat)(hi:L[i]?=some (c,ob t cs))(R:aP t W' c cs')(T:gG c W W'):Nc w0 W' b s tm F0 F cnt (L.set i (c,ob t cs')):=
 ⟨h.nb.turn i hi R T,h.nc.keep (tj T) (fun x hx e=>(h.nb.rows _ (aH hi)).2.2 (e▸hx))⟩
def Nc.gr(h:Nc w0 W b s tm F0 F cnt L):Gr F0 w0 W:=h.nb.gr
def Nc.sub(h:Nc w0 W b s tm F0 F cnt L):∀c,F c->F0 c\/w0.heap.size<=c:=h.nb.sub
end
end
section
open Go.ChangeShapes Go.WideShapes Go.ChangeAt Go.RowKit Go.Maps
structure Bk(w0 W:af)(F0 F:Nat->Prop)(L:List (Nat×Obj)):Prop where
 gr:Gr F0 w0 W
 sub:∀c,F c->F0 c\/w0.heap.size<=c
 bd:∀c,F c->c<W.heap.size
 nodup:(L.map (·.1)).Nodup
 rows:∀y∈L,W.heap[y.1]?=some y.2/\w0.heap.size<=y.1/\¬F y.1
section
variable {w0 W W':World} {F0 F:Nat->Prop} {L:List (Nat×Obj)}
def Bk.start(hb:∀c,F c->c<w.heap.size)(hs:∀c,F c->F0 c):Bk w w F0 F []:=⟨Gr.refl _ _,fun c hc=>.inl (hs c hc),hb,by simp,by simp⟩
def Bk.row(h:Bk w0 W F0 F L)(i:Nat)(hi:L[i]?=some (c,ob t cs)):aP t W c cs:=(h.rows _ (aH hi)).1
def Bk.NL(h:Bk w0 W F0 F L)(i:Nat){o:Obj}(hi:L[i]?=some (c,o)):¬F c:=(h.rows _ (aH hi)).2.2
def Bk.lt(h:Bk w0 W F0 F L)(hc:c∈L.map (·.1)):c<W.heap.size:=by
 obtain⟨y,hy,rfl⟩:=bQ.1 hc
 exact(aV.1 (h.rows y hy).1).1
def Bk.move(h:Bk w0 W F0 F L)(hg:Gr G W W')(hG:∀c,G c->F c)(hF:∀c,F' c->F c\/(W.heap.size<=c/\c<W'.heap.size)):Bk w0 W' F0 F' L:=by
 refine⟨h.gr.trans hg (fun x hx=>h.sub x (hG x hx)),fun c hc=>?_,fun c hc=>?_,h.nodup,fun y hy=>⟨?_,(h.rows y hy).2.1,fun hc=>?_⟩⟩
 .rcases hF c hc with h1|h1
  .exact h.sub c h1
  .exact .inr (aw h.gr.size h1.1)
 .rcases hF c hc with h1|h1
  .exact bi (h.bd c h1) hg.size
  omega
 .have hl:=h.lt (bQ.2 ⟨y,hy,rfl⟩)
  exact(hg.block _ hl (fun hx=>(h.rows y hy).2.2 (hG _ hx))).trans (h.rows y hy).1
 .have hl:=h.lt (bQ.2 ⟨y,hy,rfl⟩)
  rcases hF _ hc with h1|h1
  .exact(h.rows y hy).2.2 h1
  .omega
def Bk.below(h:Bk w0 W F0 F L)(hb:Below W.heap.size W W'):Bk w0 W' F0 F L:=h.move (Gr.cU (F:=fun _=>False) hb) (fun _ hx=>hx.elim) (fun c hc=>.inl hc)
def Bk.alloc(h:Bk w0 W F0 F L){o:Obj}(hl:W.heap.size<=c)(R:W'.heap[c]?=some o)(hb:Below W.heap.size W W'):Bk w0 W' F0 F ((c,o)::L):=by
 have h':=h.below hb
 refine⟨h'.gr,h'.sub,h'.bd,?_,fun y hy=>?_⟩
 .rw[aB,List.nodup_cons]
  exact⟨fun hm=>by have:=h.lt hm;simp only at *;omega,h.nodup⟩
 .rcases fO.1 hy with rfl|hy
  .exact⟨R,aw h.gr.size hl,fun hF=>by have:=h.bd c hF;omega⟩
  .exact h'.rows y hy
theorem Bk.turn(h:Bk w0 W F0 F L)(i:Nat)(hi:L[i]?=some (c,ob t cs))(R:aP t W' c cs')(T:gG c W W'):Bk w0 W' F0 F (L.set i (c,ob t cs')):=by
 have hlt:i<L.length:=(aJ.1 hi).1
 have hm:(L.set i (c,ob t cs')).map (·.1)=L.map (·.1):=by
  apply List.ext_getElem?
  grind
 have hc:=h.rows _ (aH hi)
 refine⟨h.gr.trans (tj T) (fun x hx=>.inr (hx▸hc.2.1)),h.sub,fun x hx=>bi (h.bd x hx) (Nat.le_of_eq T.size.symm),by rw[hm];exact h.nodup,fun y hy=>?_⟩
 obtain⟨j,hj⟩:=List.mem_iff_getElem?.1 hy
 rw[List.getElem?_set] at hj
 by_cases m6:i=j
 .subst m6
  rw[aZ rfl,aZ hlt] at hj
  obtain rfl:=Option.some.inj hj
  exact⟨R,hc.2⟩
 .rw[aT m6] at hj
  have hy':=aH hj
  refine⟨(T.other _ (fun e=>m6 ?_)).trans (h.rows y hy').1,(h.rows y hy').2⟩
  (have e1:(L.map (·.1))[i]?=some c:=by rw[eh,hi];rfl);(have e2:(L.map (·.1))[j]?=some c:=by rw[eh,hj];simp[e])
  exact(List.getElem?_inj (by simpa using hlt) h.nodup).1 (by rw[e1,e2])
end
structure Nm(w0 W:af)(b:Nat)(cs:Array ag)(v ov:ag)(fm:Option Nat)(D:DataW Unit)(Fw:Nat->Prop)(cnt:Nat)(s:Nt)(tm:Int->Option Int)(is:List Int)(F0:Nat->Prop)(L:List (Nat×Obj)):Prop where
 m:bE W b cs v ov fm D Fw cnt s tm is
 k:Bk w0 W F0 (oV Fw fm ov v s.ms) L
section
variable {w0 W W':World} {b:Nat} {cs:Array Value} {v ov:Value} {fm:Option Nat} {D:DataW Unit} {Fw F0:Nat->Prop} {cnt:Nat} {s:Nt} {tm:Int->Option Int} {is:List Int} {L:List (Nat×Obj)}
theorem oV.lt(M:bE w b cs v ov fm D Fw cnt s tm is)(hb:∀c,Fw c->c<w.heap.size):∀c,oV Fw fm ov v s.ms c->c<w.heap.size:=by
 intro c hc
 rcases hc with h1|h1|h1|⟨h1,rfl⟩
 .grind
 .rcases M.fu with⟨e,_⟩|⟨bm,e,hm⟩
  .grind
  .rw[e] at h1;cases h1;exact hm.lt
 .obtain⟨cur,m,hh⟩:=zN M.ids h1
  grind
 .exact M.maps.lt h1
def Nm.start(M:bE w b cs v ov fm D Fw cnt s tm is)(hF:∀c,oV Fw fm ov v s.ms c->F0 c):Nm w w b cs v ov fm D (fun c=>Fw c/\c<w.heap.size) cnt s tm is F0 []:=
 ⟨M.bound,Bk.start (oV.lt M.bound (fun c hc=>hc.2)) (fun c hc=>by rcases hc with h1|h1|h1|h1;exact hF c (.inl h1.1);exact hF c (.inr (.inl h1));exact hF c (.inr (.inr (.inl h1)));exact hF c (.inr (.inr (.inr h1))))⟩
def Nm.row(h:Nm w0 W b cs v ov fm D Fw cnt s tm is F0 L)(i:Nat)(hi:L[i]?=some (c,ob t cs')):aP t W c cs':=h.k.row i hi
def Nm.below(h:Nm w0 W b cs v ov fm D Fw cnt s tm is F0 L)(hb:Below W.heap.size W W'):Nm w0 W' b cs v ov fm D Fw cnt s tm is F0 L:=⟨h.m.below hb,h.k.below hb⟩
def Nm.drew(h:Nm w0 W b cs v ov fm D Fw cnt s tm is F0 L):Nm w0 W.drew b cs v ov fm D Fw cnt s tm is F0 L:=h.below (Below.refl _ _).drew
def Nm.alloc(h:Nm w0 W b cs v ov fm D Fw cnt s tm is F0 L){o:Obj}(hl:W.heap.size<=c)(R:W'.heap[c]?=some o)(hb:Below W.heap.size W W'):Nm w0 W' b cs v ov fm D Fw cnt s tm is F0 ((c,o)::L):=⟨h.m.below hb,h.k.alloc hl R hb⟩
def Nm.turn(h:Nm w0 W b cs v ov fm D Fw cnt s tm is F0 L)(i:Nat){cs1 tH:Array ag}(hi:L[i]?=some (c,ob t cs1))(R:aP t W' c tH)(T:gG c W W'):Nm w0 W' b cs v ov fm D Fw cnt s tm is F0 (L.set i (c,ob t tH)):=
 ⟨h.m.keep (tj T) (fun x hx e=>h.k.NL i hi (e▸hx)),h.k.turn i hi R T⟩
def Nm.NM(h:Nm w0 W b cs v ov fm D Fw cnt s tm (s.fs.map fun x=>(x.1:Int)) F0 L):∃F',fT W b s tm F' cnt/\Gr F0 w0 W/\∀c,F' c->F0 c\/w0.heap.size<=c:=⟨_,⟨_,_,_,_,_,_,h.m,fun c hc=>hc⟩,h.k.gr,h.k.sub⟩
def Nm.del(h:Nm w0 W b cs v ov (some bm) D Fw cnt s tm is F0 L)(hm:W'.ownsMap ah 3 vU bm n (D.del (kI (i:Int))))(hg:Gr (fun c=>c=bm) W W')(hi:(mq s.fs i).isSome=true)(hl:(s.fs.filter fun x=>decide ((x.1:Int)≠i)).length+1=s.fs.length)(hc:cnt+1<=s.fs.length):Nm w0 W' b cs v ov (some bm) (D.del (kI i)) Fw cnt { s with fs:=s.fs.filter fun x=>decide ((x.1:Int)≠i) } tm is F0 L:=
 ⟨h.m.NK hm hg hi hl hc,h.k.move hg (fun c e=>.inr (.inl (by rw[e]))) (fun c hc=>.inl hc)⟩
def Nm.order{w8:af}{qI:ag}{TL:List Int}(h:Nm w0 W b cs v ov fm D Fw cnt s tm is F0 L)(hg:W.grownBy w8 ov.ownBlock)(ho:gT w8 qI TL)(hl:qI.ownBlock=ov.ownBlock)(R:aP 62 W' b (cs.setIfInBounds 35 qI))(T:gG b w8 W'):Nm w0 W' b (cs.setIfInBounds 35 qI) v qI fm D Fw cnt s tm TL F0 L:=
 ⟨h.m.order (fun c hc=>h.k.bd c (.inl hc)) hg ho (fun c hc=>.inl (hl▸hc)) R T,h.k.move ((Gr.ep (F:=oV Fw fm ov v s.ms) hg (fun c hc=>.inr (.inr (.inl hc)))).trans (tj T) (fun x hx=>.inl (.inl (hx▸h.m.yN)))) (fun _ hx=>hx) (fun c hc=>.inl (by rcases hc with h1|h1|h1|h1;exact .inl h1;exact .inr (.inl h1);exact .inr (.inr (.inl (hl▸h1)));exact .inr (.inr (.inr h1))))⟩
end
def q40{fl:Int->Option Fl}(hm:w.ownsMap ah 3 vU bm n D)(hr:Cg D fl)(i:Int)(hi:(Lit.int .i64 i).wf=true):(Instr.lookup 55 (.map (some bm)) (.int .i64 i) false).run ah w=.ok (.agg (fc ((fl i).getD uo))) w:=by
 have hkey:=keyOf_int_mk (P:=ah) (q:=.i64) (a:=i) underlying3 hi;obtain⟨u,ps,Mq,hu⟩:=hm.lookup oh underlying55 (FE w) (qgm uo) hkey
 rw[hr.Gc i] at hu
 rw[Mq,qol hu]
def q0o(t:TypeId)(m x:aU)(ho:o.op=.lookup t m x false)(hw:Region.wanted o (dy ops a.tmps)=true)(mv kv v:ag)(hm:a.eval m=mv)(hx:a.eval x=kv)(hr:∀w,S w->(Instr.lookup t mv kv false).run ah w=.ok v w):gf ah ops S o v a:=
 .inl ⟨hw,fun w hS=>by unfold bG;simp only[ho,hm,hx,bB,hr w hS,bF,bH]⟩
theorem q4n(k:Fl)(w:af):(Instr.field 75 (.agg (fc k)) 0).run ah w=.ok (.agg (mc (dZ k))) w:=by kernel_rfl
def qxo(x:aU)(ho:o.op=.field 75 x 0)(hw:Region.wanted o (dy ops a.tmps)=true)(k:Fl)(hx:a.eval x=.agg (fc k)):gf ah ops S o (.agg (mc (dZ k))) a:=
 .inl ⟨hw,fun w hS=>by unfold bG;simp only[ho,hx,bB,q4n,bF,bH]⟩
theorem q8z(h:w.mapTurned w' b):Gr (fun c=>c=b) w w':=by
 obtain⟨es,clock,es',clock',hb,rfl⟩:=h
 refine⟨rfl,rfl,rfl,?_,fun c hc hn=>?_⟩
 .show _<=(w.heap.setIfInBounds b _).size
  simp
 .show(w.heap.setIfInBounds b _)[c]?=_
  grind
def q8u{K:Act->af->Prop}(m x:aU)(ho:o.op=Op.call { callee:=Callee.builtin Builtin.delete,args:=#[m,x],argTypes:=#[55,3] })(b n:Nat)(D:DataW Unit)(hm:a.eval m=.map (some b))(hown:w.ownsMap ah 3 vU b n D)(i:Int)(hi:(Lit.int .i64 i).wf=true)(hx:a.eval x=.int .i64 i)(hK:∀w',w'.ownsMap ah 3 vU b n (D.del (kI i))->Gr (fun c=>c=b) w w'->K (a.put o.dst (.tuple #[])) w'):o.wp ah a w K Q:=by
 have hkey:=keyOf_int_mk (P:=ah) (q:=.i64) (a:=i) underlying3 hi;obtain⟨w',hrun,r1,r2⟩:=hown.drop oh underlying55 hkey o.type
 unfold Oper.wp
 simp[bG,ho,resolve,invoke,builtin,hm,hx,hrun,Result.andThen]
 exact hK w' r1 (q8z r2)
def qn5(hgd:o.guard=none)(x:aU)(ho:o.op=.load 44 x)(b f:Nat)(hx:a.eval x=V (some ⟨b,f,none⟩))(v:ag)(hc:w.cell? ⟨b,f,none⟩=some v)(hr:aM ah ops Q rest (a.put o.dst v) w):aM ah ops Q (o::rest) a w:=
 bP hgd fun K hK=>WU x ho b f hx v hc (hK _ _ hr)
def OT(w:af):(zeroValue 72).run ah w=.ok (.agg (mc fW)) w:=by kernel_rfl
theorem bE.sK{ov:ag}{Fw:Nat->Prop}{is:List Int}(M:bE w b cs v ov (some bm) D Fw cnt s tm is):yM w bm D:=by
 rcases M.fu with⟨h,_⟩|⟨c,h,hm⟩
 all_goals grind
def q83(h:fT w b s tm F cnt)(x:Nat×Fl)(hx:x∈s.fs)(pU:cnt+1<=s.fs.length):Calls prog 42 #[.pointer (some ⟨b,0,none⟩),.int .i64 ((x.1:Nat):Int)] w fun e w'=>e=.returned (.agg (mc (dZ x.2)))/\∃F',fT w' b { s with fs:=s.fs.filter fun y=>decide ((y.1:Int)≠(x.1:Int)) } tm F' cnt/\Gr F w w'/\∀c,F' c->F c\/w.heap.size<=c:=by
 obtain⟨cs,v,ov,fm,D,Fw,M,hF⟩:=h;have yQ:=zx M.up hx;have hlen:=qyf M.up hx;have hl0:0<s.fs.length:=List.length_pos_of_mem hx
 obtain⟨bm,rfl⟩:∃bm,fm=some bm:=by
  rcases M.fu with⟨h1,h2⟩|⟨bm,h1,_⟩
  .have:=M.sized;rw[h2] at this;simp[Maps.size] at this;omega
  .exact⟨bm,h1⟩
 have HWF:Hid _:=ar (WI (Nat.le_trans (M.num x hx) M.bg));(have HLK:Hid (∀W,yM W bm D->(Instr.lookup 55 (.map (some bm)) (.int .i64 ((x.1:Nat):Int)) false).run prog W=.ok (.agg (fc x.2)) W):=ar (fun W hm=>by have:=q40 hm M.reads (x.1:Int) HWF.out;rw[yQ] at this;exact this));have HIS:Hid ((mq s.fs (x.1:Int)).isSome=true):=ar (by rw[yQ];rfl);have zo:Hid _:=ar hlen;have Io:Hid (cnt+1<=s.fs.length):=pU;(have HL0:Hid (0<(s.fs.map fun y=>(y.1:Int)).length):=ar (by simpa using hl0));(have QW:Hid ((s.fs.map fun y=>(y.1:Int)).length<=1000000000):=ar (by have:=Ih M;simp;omega));(have HND:Hid (∀(W:World) (L:List (Nat×Obj)) {cs':Array Value} {v':Value} {D':DataW Unit},Nm w W b cs' v v' (some bm) D' (fun c=>Fw c/\c<w.heap.size) cnt { s with fs:=s.fs.filter fun y=>decide ((y.1:Int)≠(x.1:Int)) } tm ((s.fs.map fun y=>(y.1:Int)).filter fun y=>!(y==(x.1:Int))) F L->∃F',fT W b { s with fs:=s.fs.filter fun y=>decide ((y.1:Int)≠(x.1:Int)) } tm F' cnt/\Gr F w W/\∀c,F' c->F c\/w.heap.size<=c):=ar (fun W L cs' v' D' hN=>by rw[q7q] at hN;exact hN.NM));have N:=Nm.start M hF;clear M hF yQ hlen hl0 pU hx
 go_enter func42,ntmps42
 go_upto_region 1 with(first|(refine gB 3 1 ?_;refine WX rfl (.tmp 1) rfl ((x.1:Nat):Int) rfl ?_;intro b3 w9 l9 R9 h9;replace N:=N.alloc (o:=ob 3 #[.int .i64 ((x.1:Nat):Int)]) l9 R9 h9;clear R9 h9 l9)|(refine gA 72 ?_;refine ax 4 72 OT ?_;intro b4 w9 l9 R9 h9;refine Cc ?_;clear N;intro N;clear R9 h9 l9))
 have kS:_/\_/\_:=⟨(N.m.cell 34).trans N.m.kj,((N.row 1 rfl).cell 0).trans rfl,N.m.sK⟩
 refine RD (fun W=>W.cell? ⟨b,34,none⟩=some (.map (some bm))/\W.cell? ⟨b3,0,none⟩=some (.int .i64 ((x.1:Nat):Int))/\yM W bm D) kS (fun _=>?_)
 refine m2o ?_
 refine tk 3 (.map (some bm)) rfl (Or.inl ⟨by kernel_rfl,by intro w hS;have hc:=hS.1;go_simp⟩) kS (tk 4 (.int .i64 ((x.1:Nat):Int)) rfl (Or.inl ⟨by kernel_rfl,by intro w hS;have hc:=hS.2.1;go_simp⟩) kS (tk 5 (.agg (fc x.2)) rfl (q0o 55 (.tmp 9) (.tmp 10) rfl kr (.map (some bm)) (.int .i64 ((x.1:Nat):Int)) (.agg (fc x.2)) kr kr (fun w hS=>HLK.out w hS.2.2)) kS ?_))
 simp only[ZZ];refine tk 6 (.agg (mc (dZ x.2))) rfl (qxo (.tmp 11) rfl kr x.2 kr) kS ?_;simp only[ZZ];refine AR [7] ?_
 refine AP (fun K hK=>?_) AZ
 refine yK ?_;intro b5 w9 l9 R9 h9;(replace h9:=nL h9);refine Cc ?_;clear N;intro N;clear R9 h9 l9;replace kS:_/\_/\_:=⟨(N.m.cell 34).trans N.m.kj,((N.row 2 rfl).cell 0).trans rfl,N.m.sK⟩
 refine hh ?_
 clear hK K;refine AR [8] ?_
 refine AP (fun K hK=>?_) AZ
 refine sy (mc (dZ x.2)) (N.row 0 rfl) ?_;intro w9 R9 t9;replace N:=N.turn 0 rfl R9 t9;clear R9 t9;replace kS:_/\_/\_:=⟨(N.m.cell 34).trans N.m.kj,((N.row 2 rfl).cell 0).trans rfl,N.m.sK⟩
 refine hh ?_
 clear hK K;refine AN ?_;clear kS
 go_upto_region 2 with fail
 have kS:_/\_:=⟨(N.m.cell 34).trans N.m.kj,((N.row 2 rfl).cell 0).trans rfl⟩
 refine RD (fun W=>W.cell? ⟨b,34,none⟩=some (.map (some bm))/\W.cell? ⟨b3,0,none⟩=some (.int .i64 ((x.1:Nat):Int))) kS (fun _=>?_)
 refine m2o ?_;refine tk 3 (.map (some bm)) rfl (Or.inl ⟨by kernel_rfl,by intro w hS;have hc:=hS.1;go_simp⟩) kS (tk 4 (.int .i64 ((x.1:Nat):Int)) rfl (Or.inl ⟨by kernel_rfl,by intro w hS;have hc:=hS.2;go_simp⟩) kS ?_);simp only[ZZ];refine AR [5] ?_
 refine AP (fun K hK=>?_) AZ
 refine q8u (.tmp 16) (.tmp 17) rfl bm _ D kr (Ig N.m.sK rfl) (x.1:Int) HWF.out kr ?_;intro w9 hm9 dX;(replace dX:=WL dX);replace N:=N.del hm9 dX HIS.out zo.out Io.out;clear hm9 dX;replace kS:_/\_:=⟨(N.m.cell 34).trans N.m.kj,((N.row 2 rfl).cell 0).trans rfl⟩
 refine hh ?_
 clear hK K;refine AN ?_;clear kS
 go_upto_region 3 with fail
 go_wp2_with (first|(refine gL 44 21 ?_;refine qn5 rfl (.tmp 21) rfl b 35 rfl ov ((N.m.cell 35).trans N.m.nj) ?_)|(go_at_call 94;refine(q86 N.m.ids HL0.out QW.out (x.1:Int) b3 (((N.row 2 rfl).cell 0).trans rfl) (fun e=>N.k.NL 2 rfl (.inr (.inr (.inl e))))).mono ?_;rintro e w5 ⟨fB,n9,c9,rfl,TK,df,dX⟩;have R8:aP 62 w5 b cs:=(dX.block b N.m.lt (fun e=>N.m.Pw e.symm)).trans N.m.row)|(refine gS 44 26 24 ?_;refine qr9 R8 rfl (.tmp 26) (.tmp 24) rfl 35 rfl (.slice fB n9 c9) fB n9 c9 rfl rfl _ N.m.nj ?_;intro w9 R9 t9;replace N:=N.order dX TK df R9 t9;clear R8 R9 t9 dX TK df)|(refine gL 72 5 ?_;refine lx 72 (.tmp 5) (mc (dZ x.2)) (N.row 0 rfl) ?_)|(refine gS 72 4 27 ?_;refine sx (mc (dZ x.2)) (N.row 1 rfl) ?_;refine zJ ?_;clear N;intro w9 N))
 (refine bodyPost_ret (mW (p:=4) rfl _ _ _ _ rfl (N.row 1 rfl) _ underlying72 rfl (lS _)) rfl ⟨rfl,HND.out _ _ N⟩)
def qxf(p:bM)(sub:Int)(w:af):az ah 32 #[.agg (dm p),I Z sub] w fun e w'=>∃bp bs,e=.returned (.func (.func 67) #[] #[V (some ⟨bp,0,none⟩),V (some ⟨bs,0,none⟩)])/\aP 77 w' bp (dm p)/\aP 3 w' bs #[I Z sub]/\Below w.heap.size w w':=by
 have B:=Bd.start w
 go_enter func32,ntmps32
 go_wp2_with (first|(refine gB 77 0 ?_;refine bx 77 (.tmp 0) (dm p) ?_;intro b2 w9 l9 R9 h9;replace B:=B.alloc l9 R9 h9;clear R9 h9 l9)|(refine gB 3 1 ?_;refine WX rfl (.tmp 1) rfl sub rfl ?_;intro b3 w9 l9 R9 h9;replace B:=B.alloc l9 R9 h9;clear R9 h9 l9))
 go_ret
 exact⟨b2,b3,rfl,B.row 1 rfl,B.row 0 rfl,B.base⟩
theorem q1a(k:Fl)(x:Int)(inw:Bool):(jf k x inw).1.rem=k.rem/\(jf k x inw).1.a=k.a:=by grind [jf,gK]
theorem q3y(k:Fl)(x now:Int)(inw:Bool):(cq k x inw now).rem=k.rem/\(cq k x inw now).a=k.a:=by grind [q1a,cq]
theorem qvd(hx:x∈fs)(k:Fl):(x.1,k)∈fG fs x.1 k:=by grind [fG]
theorem qwo(fs:List (Nat×Fl))(n:Nat)(k:Fl):(fG fs n k).length=fs.length:=by unfold fG;simp
def qn4(hgd:o.guard=none)(x:aU)(ho:o.op=.load 55 x)(b f:Nat)(hx:a.eval x=V (some ⟨b,f,none⟩))(v:ag)(hc:w.cell? ⟨b,f,none⟩=some v)(hr:aM ah ops Q rest (a.put o.dst v) w):aM ah ops Q (o::rest) a w:=
 bP hgd fun K hK=>qj9 x ho b f hx v hc (hK _ _ hr)
theorem VT:∀(vs:List ag) (o:Nat) (cs:Array ag),(jb cs o vs).size=cs.size
 | [],_,_=>rfl
 | v::r,o,cs=>by unfold jb;rw[VT r (o+1)];simp
theorem TC:∀(vs:List ag) (o:Nat) (cs:Array ag) (i:Nat),(i<o\/o+vs.length<=i)->(jb cs o vs)[i]?=cs[i]?
 | [],_,_,_,_=>rfl
 | v::r,o,cs,i,h=>by
  rw[bU] at h
  unfold jb
  rw[TC r (o+1) _ i om,Array.getElem?_setIfInBounds,aT om]
theorem TB:∀(vs:List ag) (o:Nat) (cs:Array ag) (k:Nat),k<vs.length->o+vs.length<=cs.size->(jb cs o vs)[o+k]?=vs[k]?
 | [],_,_,k,h,_=>absurd h zm
 | v::r,o,cs,k,h,hs=>by
  rw[bU] at h hs
  unfold jb
  cases k with
  | zero=>show(jb (cs.setIfInBounds o v) (o+1) r)[o]?=some v;rw[TC r (o+1) _ o om,Array.getElem?_setIfInBounds,aZ rfl,aZ om]
  | succ j=>rw[show o+(j+1)=(o+1)+j by omega,TB r (o+1) _ j om (by simp;omega)];rfl
section
variable {w w':World} {b:Nat} {cs cs':Array Value} {v ov:Value} {fm:Option Nat} {D:DataW Unit} {Fw:Nat->Prop} {cnt:Nat} {s:Nt} {tm:Int->Option Int} {is:List Int}
def bE.there(h:bE w b cs v ov fm D Fw cnt s tm is)(n:Nat)(hn:n<=30):w.there b 4 n:=fun j hj=>by
 refine⟨?_,h.row.free _⟩
 rw[h.cell,Array.getElem?_eq_getElem (by rw[h.size];omega)];rfl
theorem bE.setTable(h:bE w b cs v ov fm D Fw cnt s tm is)(f':Nat->Int)(g':Nat->Bool)(h':Nat->Int)(v':ag)(ms':List Mp)(l:List ag)(hl:l.length<=30)(R:aP 62 w' b (jb cs 4 l))(T:gG b w w')(hc:∀k,k<30->(jb cs 4 l)[4+k]?=(tc f' g' h' v')[k]?)(hM:cE w v' ms')(hN:jw v')(hF:0<ms'.length->¬Fw (mb v')/\ov.ownBlock≠some (mb v')):bE w' b (jb cs 4 l) v' ov fm D Fw cnt { s with f:=f',g:=g',h:=h',ms:=ms' } tm is:=by
 (have e:∀i,(i<4\/34<=i)->(jb cs 4 l)[i]?=cs[i]?:=fun i hi=>TC l 4 cs i om)
 refine⟨h.iR.turn R (VT _ _ _) (fun i h1 h2=>e i om) T.other,(VT _ _ _).trans h.size,(e 0 om).trans h.c0,(e 1 om).trans h.c1,(e 2 om).trans h.c2,(e 3 om).trans h.c3,hc,(e 34 om).trans h.kj,(e 35 om).trans h.nj,(e 36 om).trans h.rr,EA hM (fun h0=>T.other _ (fun e=>(hF h0).1 (e▸h.yN))),hN,yy h.ids (fun c hc=>T.other c (fun e=>h.Pw (e▸hc))),?_,h.reads,h.sized,h.few,h.jV,h.jW,hF,h.up,h.num,h.bg⟩
 rcases h.fu with h0|⟨bm,h1,h2⟩
 .grind
 .exact .inr ⟨bm,h1,Ig h2 (T.other bm (fun e=>h.fmb (e▸h1)))⟩
def bE.dt(h:bE w b cs v ov fm D Fw cnt s tm is):w.rangeAt b 4 (tc s.f s.g s.h v).toList:=fun j u hu=>by
 (have hj:j<30:=by have:=(aJ.1 hu).1;simpa[ze] using this);rw[h.cell,h.ct j hj]
 simpa using hu
end
theorem Bk.Iu{W':af}(h:Bk w0 W F0 F L)(hg:Gr (fun c=>c=b) W W')(hb:F b)(hF:∀c,F' c->F c\/(w0.heap.size<=c/\c<W.heap.size/\∀y∈L,y.1≠c)):Bk w0 W' F0 F' L:=by
 refine⟨h.gr.trans hg (fun x hx=>h.sub x (hx▸hb)),fun c hc=>?_,fun c hc=>?_,h.nodup,fun y hy=>⟨?_,(h.rows y hy).2.1,fun hc=>?_⟩⟩
 .rcases hF c hc with h1|h1
  .exact h.sub c h1
  omega
 .rcases hF c hc with h1|h1
  .exact bi (h.bd c h1) hg.size
  .exact bi h1.2.1 hg.size
 .have hl:=h.lt (bQ.2 ⟨y,hy,rfl⟩)
  exact(hg.block _ hl (fun hx=>(h.rows y hy).2.2 (hx▸hb))).trans (h.rows y hy).1
 .rcases hF _ hc with h1|h1
  .exact(h.rows y hy).2.2 h1
  grind
section
variable {w0 W W':World} {b:Nat} {cs:Array Value} {v ov:Value} {fm:Option Nat} {D:DataW Unit} {Fw F0:Nat->Prop} {cnt:Nat} {s:Nt} {tm:Int->Option Int} {is:List Int} {L:List (Nat×Obj)}
def Nm.table(h:Nm w0 W b cs v ov fm D Fw cnt s tm is F0 L)(f':Nat->Int)(g':Nat->Bool)(h':Nat->Int)(v':ag)(ms':List Mp)(l:List ag)(hl:l.length<=30)(R:aP 62 W' b (jb cs 4 l))(T:gG b W W')(hc:∀k,k<30->(jb cs 4 l)[4+k]?=(tc f' g' h' v')[k]?)(hM:cE W v' ms')(hN:jw v')(hn:0<ms'.length->¬oV Fw fm ov v s.ms (mb v')/\w0.heap.size<=mb v'/\∀y∈L,y.1≠mb v'):Nm w0 W' b (jb cs 4 l) v' ov fm D Fw cnt { s with f:=f',g:=g',h:=h',ms:=ms' } tm is F0 L:=
 ⟨h.m.setTable f' g' h' v' ms' l hl R T hc hM hN (fun h0=>⟨fun hf=>(hn h0).1 (.inl hf),fun e=>(hn h0).1 (.inr (.inr (.inl e)))⟩),h.k.Iu (tj T) (.inl h.m.yN) (fun c hc=>by
  rcases hc with h1|h1|h1|⟨h1,rfl⟩
  .exact .inl (.inl h1)
  .exact .inl (.inr (.inl h1))
  .exact .inl (.inr (.inr (.inl h1)))
  .exact .inr ⟨(hn h1).2.1,hM.lt h1,(hn h1).2.2⟩)⟩
end
theorem Wy(f:Nat->Int)(g:Nat->Bool)(h:Nat->Int)(sl:ag):(tc f g h sl).toList.length=30:=by simp[ze]
def WY(x:aU)(ho:o.op=.load 42 x)(hw:Region.wanted o (dy ops a.tmps)=true)(b:Nat)(hx:a.eval x=V (some ⟨b,4,none⟩))(f:Nat->Int)(g:Nat->Bool)(h:Nat->Int)(v:ag)(hS:∀w,S w->w.rangeAt b 4 (tc f g h v).toList):gf ah ops S o (.agg (tc f g h v)) a:=by
 have:=yieldsIf_load_mid (P:=ah) (S:=S) hw 42 x ho b 4 hx (tc f g h v).toList _ hS underlying42 rfl (Il f g h v)
 simpa using this
def qbc(hgd:o.guard=none)(x y:aU)(ho:o.op=.store 42 x y)(b:Nat)(cs:Array ag)(R:aP 62 w b cs)(hsz:cs.size=487)(hx:a.eval x=V (some ⟨b,4,none⟩))(f:Nat->Int)(g:Nat->Bool)(h:Nat->Int)(sa:Option Addr)(n c:Nat)(hy:a.eval y=.agg (tc f g h (.slice sa n c)))(hr:∀w',aP 62 w' b (jb cs 4 (tc f g h (.slice sa n c)).toList)->gG b w w'->(∀k,k<30->(jb cs 4 (tc f g h (.slice sa n c)).toList)[4+k]?=(tc f g h (.slice sa n c))[k]?)->aM ah ops Q rest (a.put o.dst undef) w'):aM ah ops Q (o::rest) a w:=by
 have ht:w.there b 4 (tc f g h (.slice sa n c)).size:=fun j hj=>by
  (have hj':j<30:=by rw[ze] at hj;exact hj)
  refine⟨?_,R.free _⟩
  rw[R.cell,Array.getElem?_eq_getElem (by rw[hsz];omega)];rfl
 refine wpList_store_mid hgd 42 x y ho b 4 _ hx hy ht (oD _ _ _ _) (zf _ _ _ _ _ _) ?_
 exact hr _ (aP.rG _ 4 w _ R) (Vb b _ 4 w) (fun k hk=>by rw[TB _ _ _ _ (by rw[Wy];exact hk) (by rw[Wy,hsz];omega)];simp)
def q4b(f:Nat->Int)(g:Nat->Bool)(h:Nat->Int)(sl:ag)(ms:List Mp)(m:Mp)(j8:qh h)(w:af)(hM:cE w sl ms)(G:gM f h ms)(hm:m∈ms):
  az ah 97 #[.agg (tc f g h sl),.agg (mc m)] w fun e w'=>∃sa n c,e=.returned (.tuple #[.agg (tc (sr f h ms m).1 g (sr f h ms m).2.1 (.slice sa n c)),.bool (sr f h ms m).2.2,I Z 0])/\cE w' (.slice sa n c) (dH ms m)/\jw (.slice sa n c)/\(0<(dH ms m).length->w.heap.size<=mb (.slice sa n c))/\Below w.heap.size w w':=by
 have key:∀(F' H':Nat->Int) (T':Bool),(F',H',T')=sr f h ms m->(az ah 97 #[.agg (tc f g h sl),.agg (mc m)] w fun e w'=>∃v,e=.returned (.tuple #[.agg (tc F' g H' v),.bool T',I Z 0])/\cE w' v (dH ms m)/\jw v/\(0<(dH ms m).length->w.heap.size<=mb v)/\Below w.heap.size w w')->az ah 97 #[.agg (tc f g h sl),.agg (mc m)] w fun e w'=>∃sa n c,e=.returned (.tuple #[.agg (tc (sr f h ms m).1 g (sr f h ms m).2.1 (.slice sa n c)),.bool (sr f h ms m).2.2,I Z 0])/\cE w' (.slice sa n c) (dH ms m)/\jw (.slice sa n c)/\(0<(dH ms m).length->w.heap.size<=mb (.slice sa n c))/\Below w.heap.size w w':=by
  intro F' H' T' he hc;rw[←he];refine hc.mono ?_
  rintro e w' ⟨v,rfl,h1,h2,h3,h4⟩
  obtain⟨a,c,hv,-⟩:=id h1
  subst hv
  exact⟨_,_,_,rfl,h1,h2,h3,h4⟩
 cases ha:(dH ms m).any (fun o=>eu o==eu m) with
 | true=>exact key f h false (by unfold sr;rw[aZ ha]) (q67 f g h sl ms m j8 w hM G hm ha)
 | false=>
  by_cases hz:(fI (lu f m) m.2.1).length=0
  .exact key (lu f m) (upd h m.2.1.toNat 0) true (by unfold sr zi;rw[aT (by rw[ha];simp),aZ hz]) (qzw f g h sl ms m j8 w hM G hm ha hz)
  .exact key (lu f m) h true (by unfold sr zi;rw[aT (by rw[ha];simp),aT hz]) (qy2 f g h sl ms m j8 w hM G hm ha hz)
def qel(f:Nat->Int)(g:Nat->Bool)(h:Nat->Int)(sl:ag):tz.size=(tc f g h sl).size:=by kernel_rfl
def TN(K:Bk w0 W F0 F L)(hl:0<n->W.heap.size<=mb v)(hb:b<W.heap.size):0<n->¬F (mb v)/\w0.heap.size<=mb v/\b≠mb v:=fun h0=>by
 have h1:=hl h0;have h2:=K.gr.size
 exact⟨fun hf=>by have:=K.bd _ hf;omega,by omega,by omega⟩
def NN{ms:List Mp}(h:cE w v ms)(T:gG c w w')(hn:0<ms.length->c≠mb v):cE w' v ms:=EA h (fun h0=>T.other _ (fun e=>hn h0 e.symm))
theorem quf{p:Nat}{x:Obj}(h1:p≠k)(h2:q≠k):∀z∈[(p,x),(q,y)],z.1≠k:=by grind
def C8(h:p:=by
 refine AR [11] ?_
 refine AP (fun K hK=>?_) ?_
 .refine sy (tc f9 s.g h9 (.slice fB n9 c9)) (N.row 0 rfl) ?_;intro w9 R9 gz;replace fF:=NN fF gz H5.out;replace N:=N.turn 0 rfl R9 gz;clear R9 gz;replace kS:_/\_:=⟨N.m.dt,N.row 1 rfl⟩
  refine hh ?_
  clear hK K;refine tq 12 (.bool t9) rfl kS (tq 13 (I Z 0) rfl kS ?_);refine oM ?_;clear kS
  first|((go_wp2_with (first|(refine gL 42 5 ?_;refine lx 42 (.tmp 5) (tc f9 s.g h9 (.slice fB n9 c9)) (N.row 0 rfl) ?_)|(refine gS 42 24 22 ?_;refine qbc rfl (.tmp 24) (.tmp 22) rfl b cs N.m.row N.m.size rfl f9 s.g h9 fB n9 c9 rfl ?_;intro w9 R9 gz F6;replace N:=N.table f9 s.g h9 (.slice fB n9 c9) (dH s.ms m) _ (by rw[Wy];exact Nat.le_refl _) R9 gz F6 fF fY (fun h0=>⟨(H9.out h0).1,(H9.out h0).2.1,quf (H5.out h0) (H9.out h0).2.2⟩);clear R9 gz F6 fF fY)));go_ret;exact⟨rfl,N.NM⟩) 
 exact AZ):p:=h
def qzy(h:fT w b s tm F cnt)(m:Mp)(G:gM s.f s.h s.ms)(j8:qh s.h)(hm:m∈s.ms):Calls prog 43 #[V (some ⟨b,0,none⟩),.agg (mc m)] w fun e w'=>e=.returned (.bool (s.cu m).1)/\∃F',fT w' b (s.cu m).2 tm F' cnt/\Gr F w w'/\∀c,F' c->F c\/w.heap.size<=c:=by
 obtain⟨cs,v,ov,fm,D,Fw,M,hF⟩:=h;(have CH:=fun W F (hN:cC W b s tm F) bm Rm=>q87 hN m bm Rm);(have CC:=fun W (hM:cE W v s.ms)=>q4b s.f s.g s.h v s.ms m j8 W hM G hm);have N:=Nm.start M hF
 unfold Nt.cu
 clear M hF
 generalize(fun c=>Fw c/\c<w.heap.size)=Fw at *
 cases hf:s.find (pq m) with
 | some x=>
  rw[hf] at CH
  rw[aZ (by rfl)]
  simp only[Option.isSome_some] at CH
  clear CC hf G j8 hm
  go_enter func43,ntmps43
  go_wp2_with (first|(refine gB 72 1 ?_;refine Om ?_;intro b3 w9 l9 R9 h9;replace N:=N.alloc (o:=ob 72 (mc m)) l9 R9 h9;clear R9 h9 l9)|(go_at_call 80;go_fit (CH _ _ (NG N.m) _ (N.row 0 rfl));refine tE ?_;clear N;intro w5 N))
  go_ret
  exact⟨rfl,N.NM⟩
 | none=>
  rw[hf] at CH
  rw[aT zm]
  simp only[Option.isSome_none] at CH
  generalize sr s.f s.h s.ms m=cl at *
  obtain⟨f9,h9,t9⟩:=cl
  simp only[Nt.dF] at *
  clear hf G j8 hm
  go_enter func43,ntmps43
  go_upto_region 3 with(first|(refine gB 72 1 ?_;refine Om ?_;intro b3 w9 l9 R9 h9;replace N:=N.alloc (o:=ob 72 (mc m)) l9 R9 h9;clear R9 h9 l9)|(go_at_call 80;go_fit (CH _ _ (NG N.m) _ (N.row 0 rfl));refine tE ?_;clear N;intro w5 N))
  have kS:_/\_:=⟨N.m.dt,N.row 0 rfl⟩
  refine RD (fun W=>W.rangeAt b 4 (tc s.f s.g s.h v).toList/\aP 72 W b3 (mc m)) kS (fun _=>?_)
  refine Wu ?_
  refine tk 3 (.agg (tc s.f s.g s.h v)) rfl (WY (.tmp 14) rfl kr b kr s.f s.g s.h v (fun _ h=>h.1)) kS (tk 4 (.agg (mc m)) rfl (yx (fun _ h=>h.2)) kS ?_)
  simp only[ZZ];refine AR [5,10] ?_
  refine AC (fun K hK=>?_) ?_
  .go_simp
   go_at_call 97;(refine(CC _ N.drew.m.maps).mono ?_);rintro e w8 ⟨fB,n9,c9,rfl,fF,fY,gN,df⟩;(replace df:=nL df);have H9:Hid (0<(dH s.ms m).length->¬oV Fw fm ov v s.ms (mb (.slice fB n9 c9))/\w.heap.size<=mb (.slice fB n9 c9)/\b3≠mb (.slice fB n9 c9)):=ar (TN N.k gN (by first|exact(show aP 72 _ b3 (mc m) from N.row 0 rfl).lt ));replace N:=N.below df;clear df gN;(replace kS:World.rangeAt _ _ _ _/\aP 72 _ b3 (mc m):=⟨N.m.dt,N.row 0 rfl⟩)
   go_wp2_with fail
   refine hK.out _ _ kS (fun _=>?_)
   clear hK K;refine m3b ?_;refine AR [10] ?_
   refine AP (fun K hK=>?_) AZ
   refine xo ?_;intro b5 w9 l9 R9 h9;(try have H5:Hid (0<(dH s.ms m).length->b5≠mb (.slice fB n9 c9)):=ar (fun h0=>by have h1:=fF.lt h0;exact Nat.ne_of_gt (Nat.lt_of_lt_of_le h1 l9)));(try replace fF:=fF.below h9);replace N:=N.alloc (o:=ob 42 tz) l9 R9 h9;clear R9 h9 l9;replace kS:_/\_:=⟨N.m.dt,N.row 1 rfl⟩
   refine hh ?_
   clear hK K
   exact C8
  refine AP (fun K hK=>?_) AZ
  refine xo ?_;intro b5 w9 l9 R9 h9;(replace h9:=nL h9);replace N:=N.alloc (o:=ob 42 tz) l9 R9 h9;clear R9 h9 l9;replace kS:_/\_:=⟨N.m.dt,N.row 1 rfl⟩
  refine hh ?_
  clear hK K;refine AR [5] ?_
  refine AC (fun K hK=>?_) AZ
  go_simp
  go_at_call 97;(refine(CC _ N.m.maps).mono ?_);rintro e w8 ⟨fB,n9,c9,rfl,fF,fY,gN,df⟩;have H9:Hid (0<(dH s.ms m).length->¬oV Fw fm ov v s.ms (mb (.slice fB n9 c9))/\w.heap.size<=mb (.slice fB n9 c9)/\b3≠mb (.slice fB n9 c9)):=ar (TN N.k gN (by first|exact(show aP 72 _ b3 (mc m) from N.row 1 rfl).lt));(try have H5:Hid (0<(dH s.ms m).length->b5≠mb (.slice fB n9 c9)):=ar (fun h0=>by have h1:=gN h0;have h2:=(N.row 0 rfl).lt;exact Nat.ne_of_lt (Nat.lt_of_lt_of_le h2 h1)));replace N:=N.below df;clear df gN;(replace kS:World.rangeAt _ _ _ _/\aP 72 _ b3 (mc m):=⟨N.m.dt,N.row 1 rfl⟩)
  go_wp2_with fail
  refine hK.out _ _ kS (fun _=>?_)
  clear hK K;refine m3b ?_
  exact C8
section
variable {w0 W W':World} {b:Nat} {cs:Array Value} {v ov:Value} {fm:Option Nat} {D:DataW Unit} {Fw F0:Nat->Prop} {cnt:Nat} {s:Nt} {tm:Int->Option Int} {is:List Int} {L:List (Nat×Obj)}
def Nm.nb(h:Nm w0 W b cs v ov fm D Fw cnt s tm (s.fs.map fun x=>(x.1:Int)) F0 L):Nb w0 W b s tm F0 (oV Fw fm ov v s.ms) L:=⟨NG h.m,h.k.gr,h.k.sub,h.k.bd,h.k.nodup,h.k.rows⟩
def Nm.perm{L':List (Nat×Obj)}(h:Nm w0 W b cs v ov fm D Fw cnt s tm is F0 L)(hp:L.Perm L'):Nm w0 W b cs v ov fm D Fw cnt s tm is F0 L':=⟨h.m,h.k.gr,h.k.sub,h.k.bd,(hp.map _).nodup_iff.1 h.k.nodup,fun y hy=>h.k.rows y (hp.mem_iff.2 hy)⟩
def Nm.Ca(h:Nm w0 W b cs v ov fm D Fw cnt s tm is F0 L)(f':Nat->Int)(g':Nat->Bool)(h':Nat->Int)(v':ag)(ms':List Mp)(l:List ag)(hl:l.length<=30)(R:aP 62 W' b (jb cs 4 l))(T:gG b W W')(hc:∀k,k<30->(jb cs 4 l)[4+k]?=(tc f' g' h' v')[k]?)(hM:cE W v' ms')(hN:jw v')(hn:0<ms'.length->(mb v'=mb v/\0<s.ms.length)\/(¬oV Fw fm ov v s.ms (mb v')/\w0.heap.size<=mb v'))(hr:0<ms'.length->∀y∈L,y.1≠mb v'):Nm w0 W' b (jb cs 4 l) v' ov fm D Fw cnt { s with f:=f',g:=g',h:=h',ms:=ms' } tm is F0 L:=
 ⟨h.m.setTable f' g' h' v' ms' l hl R T hc hM hN (fun h0=>by
  rcases hn h0 with⟨e,h1⟩|h1
  .rw[e];exact h.m.im h1
  .exact⟨fun hf=>h1.1 (.inl hf),fun e=>h1.1 (.inr (.inr (.inl e)))⟩),h.k.Iu (tj T) (.inl h.m.yN) (fun c hc=>by
  rcases hc with h1|h1|h1|⟨h1,rfl⟩
  .exact .inl (.inl h1)
  .exact .inl (.inr (.inl h1))
  .exact .inl (.inr (.inr (.inl h1)))
  .rcases hn h1 with⟨e,h2⟩|h2
   .exact .inl (.inr (.inr (.inr ⟨h2,e⟩)))
   .exact .inr ⟨h2.2,hM.lt h1,hr h1⟩)⟩
def Nm.old{x:ag}(h:Nm w0 W b cs v ov fm D Fw cnt s tm is F0 L)(hl:0<n->W.heap.size<=mb x\/(mb x=mb v/\0<s.ms.length)):0<n->(mb x=mb v/\0<s.ms.length)\/(¬oV Fw fm ov v s.ms (mb x)/\w0.heap.size<=mb x):=fun h0=>by
 rcases hl h0 with h1|h1
 .exact .inr ⟨fun hf=>by have:=h.k.bd _ hf;omega,aw h.k.gr.size h1⟩
 .exact .inl h1
def Nm.ft{x:ag}(h:Nm w0 W b cs v ov fm D Fw cnt s tm is F0 L)(hl:0<n->W.heap.size<=mb x\/(mb x=mb v/\0<s.ms.length))(i:Nat){o:Obj}(hi:L[i]?=some (c,o)):0<n->c≠mb x:=fun h0 e=>by
 have hm:=aH hi
 rcases hl h0 with h1|⟨h1,h2⟩
 .have:=h.k.lt (bQ.2 ⟨_,hm,rfl⟩)
  simp only at this
  omega
 .exact h.k.NL i hi (.inr (.inr (.inr ⟨h2,e.trans h1⟩)))
end
theorem qd9{p r t:Nat}{x z u:Obj}(h1:p≠k)(h2:q≠k)(h3:r≠k)(h4:t≠k):∀a∈[(p,x),(q,y),(r,z),(t,u)],a.1≠k:=by grind
def q62(f:Nat->Int)(g:Nat->Bool)(h:Nat->Int)(sl:ag)(ms:List Mp)(p s i d:Int)(j8:qh h)(hno:jw sl)(hd:(Lit.int .i64 d).wf=true)(hP:vd f h ms p s i)(w:af)(hM:cE w sl ms):
  az ah 74 #[.agg (tc f g h sl),.int .i64 p,.int .i64 s,.int .i64 i,.int .i64 d] w fun e w'=>∃sa n c,e=.returned (.tuple #[.agg (tc (eR f g h ms p s i d).f g (eR f g h ms p s i d).h (.slice sa n c)),.agg (mc (eR f g h ms p s i d).m),.bool (eR f g h ms p s i d).took,.int .i64 (eR f g h ms p s i d).e])/\cE w' (.slice sa n c) (eR f g h ms p s i d).ms/\jw (.slice sa n c)/\(0<(eR f g h ms p s i d).ms.length->w.heap.size<=mb (.slice sa n c)\/(mb (.slice sa n c)=mb sl/\0<ms.length))/\Below w.heap.size w w':=by
 have key:∀(m:Mp) (t:Bool) (E:Int),eR f g h ms p s i d=⟨E,f,h,ms,m,t⟩->(az ah 74 #[.agg (tc f g h sl),.int .i64 p,.int .i64 s,.int .i64 i,.int .i64 d] w fun e w'=>e=.returned (GX f g h sl m t E)/\Below w.heap.size w w')->az ah 74 #[.agg (tc f g h sl),.int .i64 p,.int .i64 s,.int .i64 i,.int .i64 d] w fun e w'=>∃sa n c,e=.returned (.tuple #[.agg (tc (eR f g h ms p s i d).f g (eR f g h ms p s i d).h (.slice sa n c)),.agg (mc (eR f g h ms p s i d).m),.bool (eR f g h ms p s i d).took,.int .i64 (eR f g h ms p s i d).e])/\cE w' (.slice sa n c) (eR f g h ms p s i d).ms/\jw (.slice sa n c)/\(0<(eR f g h ms p s i d).ms.length->w.heap.size<=mb (.slice sa n c)\/(mb (.slice sa n c)=mb sl/\0<ms.length))/\Below w.heap.size w w':=by
  intro m t E he hc;rw[he];refine hc.mono ?_;rintro e w' ⟨rfl,hb⟩
  obtain⟨a,c,hv,-⟩:=id hM
  subst hv
  exact⟨_,_,_,rfl,hM.below hb,hno,fun h0=>.inr ⟨rfl,h0⟩,hb⟩
 cases hf:ms.find? (kf p s i) with
 | some m=>exact key m false 0 (by unfold eR;rw[aZ hP,hf]) (q0s f g h sl ms p s i d w hM j8 hP m hf)
 | none=>
  by_cases hc:bV ms s=12
  .exact key fW false 6 (by unfold eR;rw[aZ hP,hf];simp only;rw[aZ hc]) (q2q f g h sl ms p s i d w hM j8 hP hf hc)
  .by_cases he:(fg f g h ms p s d).e=0
   rotate_left
   .exact key fW false (fg f g h ms p s d).e (by unfold eR;rw[aZ hP,hf];simp only;rw[aT hc,aZ he]) (q4y f g h sl ms p s i d w hM j8 hd hP hf hc he)
   ·(have ho:eR f g h ms p s i d=⟨0,(fg f g h ms p s d).f,(fg f g h ms p s d).h,ms++[(p,s,i,(fg f g h ms p s d).h s.toNat-1,(fg f g h ms p s d).q)],(p,s,i,(fg f g h ms p s d).h s.toNat-1,(fg f g h ms p s d).q),(fg f g h ms p s d).took⟩:=by unfold eR;rw[aZ hP,hf];simp only;rw[aT hc,aT (fun h=>h he)]);rw[ho];refine(q6u f g h sl ms p s i d w hM j8 hno hd hP hf hc he).mono ?_
    rintro e w' ⟨v,rfl,dS,E8,hl,hb⟩
    obtain⟨a,c,hv,-⟩:=id dS
    subst hv
    exact⟨_,_,_,rfl,dS,E8,fun _=>.inl hl,hb⟩
def qbn(p q r u:aU)(ho:o.op=.build 75 #[(0,p),(1,q),(2,r),(3,u)])(hw:Region.wanted o (dy ops a.tmps)=true)(m:Mp)(x y z:Int)(h1:a.eval p=.agg (mc m))(h2:a.eval q=I Z x)(h3:a.eval r=I Z y)(h4:a.eval u=I Z z):gf ah ops S o (.agg (fc (eV m x y z))) a:=
 .inl ⟨hw,fun w _=>by unfold bG;simp only[ho,dx,aI,aB,h1,h2,h3,h4,bB,qx7,bF,bH]⟩
def qco{e:Ev}(R:aP 100 w b (ec e)):fX w (.slice (some ⟨b,0,none⟩) 1 1) [e]:=by
 refine⟨some ⟨b,0,none⟩,1,rfl,fun _=>rfl,fun j hj i u hu=>?_,by simp⟩
 have:j=0:=by simpa using hj
 subst this
 show w.cell? ⟨b,0+5*0+i,none⟩=some u
 (rw[show 0+5*0+i=i by omega,R.cell,q7d])
 exact hu
def qdl(r:Rp)(l:ByteArray):r.cells.setIfInBounds 3 (.string l)=Rp.cells ⟨r.code,r.fr,r.i7,l⟩:=rfl
def qb2(r:Rp):r.cells[3]?=some (.string r.lg):=rfl
def qbh(R:aP t w b cs)(hgd:o.guard=none)(x y:aU)(ho:o.op=.store 9 x y)(f:Nat)(hx:a.eval x=V (some ⟨b,f,none⟩))(n:ByteArray)(hy:a.eval y=.string n)(m:ag)(hc:cs[f]?=some m)(ds:Array ag)(hd:cs.setIfInBounds f (.string n)=ds)(hr:∀w',aP t w' b ds->gG b w w'->aM ah ops Q rest (a.put o.dst undef) w'):aM ah ops Q (o::rest) a w:=
 bP hgd fun K hK=>by
  have hcell:=(R.cell f).trans hc;have oB:=R.free f
  unfold Oper.wp bG
  simp only[ho,hx,hy]
  simp[go_sem,hcell,oB,underlying9]
  exact hK _ _ (hr _ (hd▸R.set) (GL _ _ _ _))
end
end Go.Proofs.YtnkpgdejagglaaaGreatDoor
