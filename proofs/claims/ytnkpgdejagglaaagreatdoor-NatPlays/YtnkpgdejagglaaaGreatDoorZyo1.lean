/-
  Of what a law stands on.
-/
import Derived.BigCall
import Derived.Test.YtnkpgdejagglaaaGreatDoorZyi4
import Derived.Test.YtnkpgdejagglaaaGreatDoorZyn11
set_option linter.all false
namespace Go.Proofs.YtnkpgdejagglaaaGreatDoor
open _root_.Go renaming Value->ag,World->af
open _root_.Nat renaming le_refl->au,le_trans->aw,lt_of_lt_of_le->bi
open Go.Value renaming int → I,pointer → V
open Go.IntKind renaming i64 → Z
open _root_.Go.Proofs.Tryz Go.ChangeShapes Go.WideShapes Go.ChangeAt Go.RowKit
set_option maxHeartbeats 16000000
set_option maxRecDepth 100000
variable {s:Nt}{p:Prop}{l:List UInt8}{a q:Int}{tm:Int->Option Int}{H:Type}{w:World}{base:Nat}{v:Value}{rs:List Rp}
structure yS(s t:Nt):Prop where
 f:t.f=s.f
 g:t.g=s.g
 h:t.h=s.h
 ms:t.ms=s.ms
 fs:t.fs=s.fs
 now:t.now=s.now
def yS.refl(s:Nt):yS s s:=⟨rfl,rfl,rfl,rfl,rfl,rfl⟩
theorem yS.trans{t u:Nt}(h:yS s t)(k:yS t u):yS s u:=⟨k.f.trans h.f,k.g.trans h.g,k.h.trans h.h,k.ms.trans h.ms,k.fs.trans h.fs,k.now.trans h.now⟩
def Dr(h:p:=by
 (have h2:nH q=true:=by unfold nH;rw[decide_eq_true_eq];omega)
 unfold lA
 rw[aT om,aT om,aT (by rw[h1];simp),aT (by rw[h2];simp),aT ht,aT]
 rintro⟨h3,h4⟩
 apply h4
 rw[h3] at hp
 simp at hp
 rw[hp];rfl):p:=h
def q5h(hb:cj l=0)(hp:¬((ba l).ae==1&&(ba l).flags != 8)=true)(ht:(ba l).aG≠1)(ha:0<=a/\a<3)(hq:0<=q/\q<=65535):lA l 0 (3405803777+a) q=0:=by
 (have h1:pg (3405803777+a)=true:=by unfold pg;rw[decide_eq_true_eq];omega)
 exact Dr
theorem q5l(hb:cj l=0)(hp:¬((ba l).ae==1&&(ba l).flags != 0)=true)(ht:(ba l).aG≠1)(ha:0<=a/\a<8)(hq:0<=q/\q<=65535):lA l 1 (167772161+a) q=0:=by
 (have h1:pg (167772161+a)=true:=by unfold pg;rw[decide_eq_true_eq];omega)
 exact Dr
def q1q(h:Ci s){p:bM}(hp:0<=p.dst/\p.dst<=4294967295){sub:Int}(hf:s.find (cX p sub)=none)(hlen:s.fs.length<48){draw:Int}(TH:(eR s.f s.g s.h s.ms p.ae sub p.aj draw).e=0):
  Ci ((s.dF (eR s.f s.g s.h s.ms p.ae sub p.aj draw).f (eR s.f s.g s.h s.ms p.ae sub p.aj draw).h (eR s.f s.g s.h s.ms p.ae sub p.aj draw).ms).begin (eV (eR s.f s.g s.h s.ms p.ae sub p.aj draw).m p.dst p.ai (eI p.ae))):=by
 obtain⟨G,hm,hs⟩:=V7 TH;obtain⟨m1,m2,m3,hn⟩:=qsb TH
 generalize eR s.f s.g s.h s.ms p.ae sub p.aj draw=o at *
 refine h.add G (by rw[PA];exact hm) hs (fun m El=>by rw[PA];exact hn m El) hlen hp (fun x hx hh=>?_)
 have:=qqq hf x hx
 rw[PA] at hh
 refine m5f ?_;intro e1 e2 e3 e4 e5
 unfold cX at this
 rw[e1,e2,e3,e4,e5] at this
 simp at this
section
open Go.Maps
structure Ds(loose:Bool)(lf:FuncId)(wo:Array ag)(J:List Ac->(Nat->Prop)->af->Prop):Prop where
 enters:∀(args:Array ag) (w:af),(callFunc lf args).run prog w=.ok (.enter lf args) w
 keep:∀ {l:List Ac} {G H:Nat->Prop} {W W':af},J l G W->Gr H W W'->(∀c,H c->¬G c)->J l G W'
 bd:∀ {l:List Ac} {G:Nat->Prop} {W:af},J l G W->∀c,G c->c<W.heap.size
 call:∀ {l:List Ac} {a:Ac} {W:af} {b:Nat} {F G:Nat->Prop},l.length<100->a.ok->cC W b (((gu loose).runs l).act a).2 (dI (((gu loose).runs l).act a).2.fs) F->jv W->¬F 0->(∀c,F c->¬G c)->J l G W->
  Calls prog lf (#[V (some ⟨b,0,none⟩),.agg (ac a),.agg (((gu loose).runs l).act a).1.cells]++wo) W fun e w'=>e=.returned (.bool true)/\∃G',J (l++[a]) G' w'/\Gr G W w'/\∀c,G' c->G c\/W.heap.size<=c
structure Pl(loose:Bool)(J:List Ac->(Nat->Prop)->af->Prop)(G0:Nat->Prop)(w W:af)(b:Nat)(l:List Ac)(F G:Nat->Prop):Prop where
 nat:cC W b ((gu loose).runs l) (dI ((gu loose).runs l).fs) F
 bd:∀c,F c->c<W.heap.size
 new:∀c,F c->w.heap.size<=c
 j:J l G W
 gs:∀c,G c->G0 c\/w.heap.size<=c
 dis:∀c,F c->¬G c
 gr:Gr G0 w W
section
variable {loose:Bool} {lf:FuncId} {wo:Array Value} {J:List Ac->(Nat->Prop)->World->Prop} {G0 F G F' G':Nat->Prop} {w W W' W2:World} {b:Nat} {l:List Ac} {a:Ac} {L:List (Nat×Obj)}
def Pl.start(K:Ds loose lf wo J)(hJ:J [] G0 w)(hN:cC W b (gu loose) (dI (gu loose).fs) (fun c=>c=b))(hb:w.heap.size<=b)(hB:Below w.heap.size w W):Pl loose J G0 w W b [] (fun c=>c=b/\c<W.heap.size) G0:=by
 refine⟨hN.bound,fun c hc=>hc.2,fun c hc=>by rw[hc.1];exact hb,K.keep (H:=fun _=>False) hJ (Gr.cU hB) (fun _ h=>h.elim),fun c hc=>.inl hc,fun c hc hg=>?_,Gr.cU hB⟩
 have:=K.bd hJ c hg
 omega
def Pl.other(h:Pl loose J G0 w W b l F G)(K:Ds loose lf wo J)(N:Nb W W' b s tm F F' L):∀c,F' c->¬G c:=fun c hc hg=>by
 rcases N.sub c hc with h1|h1
 .exact h.dis c h1 hg
 .have:=K.bd h.j c hg;omega
def Pl.look(h:Pl loose J G0 w W b l F G)(K:Ds loose lf wo J)(N:Nb W W' b s tm F F' L):J l G W':=K.keep h.j N.gr h.dis
theorem Pl.step(h:Pl loose J G0 w W b l F G)(K:Ds loose lf wo J)(N:Nb W W' b (((gu loose).runs l).act a).2 (dI (((gu loose).runs l).act a).2.fs) F F' L)(hJ:J (l++[a]) G' W2)(hg:Gr G W' W2)(hG:∀c,G' c->G c\/W'.heap.size<=c):Pl loose J G0 w W2 b (l++[a]) F' G':=by
 have ho:=h.other K N
 refine⟨?_,fun c hc=>bi (N.bd c hc) hg.size,fun c hc=>?_,hJ,fun c hc=>?_,fun c hc Q8=>?_,?_⟩
 .rw[qih];exact N.nat.keep hg ho
 .rcases N.sub c hc with h1|h1
  .exact h.new c h1
  .exact aw h.gr.size h1
 .rcases hG c hc with h1|h1
  .exact h.gs c h1
  .exact .inr (aw (aw h.gr.size N.gr.size) h1)
 .rcases hG c Q8 with h1|h1
  .exact ho c hc h1
  .have:=N.bd c hc;omega
 .exact(h.gr.trans N.gr (fun x hx=>.inr (h.new x hx))).trans hg h.gs
def Pl.drew(h:Pl loose J G0 w W b l F G)(K:Ds loose lf wo J):Pl loose J G0 w W.drew b l F G:=
 ⟨h.nat.below (Below.refl _ _).drew,h.bd,h.new,K.keep (H:=fun _=>False) h.j (Gr.cU (Below.refl _ _).drew) (fun _ h=>h.elim),h.gs,h.dis,h.gr.drew⟩
end
end
def qmb{P:Program}{e:TypeId}:∀ {l:List (DataW H)} {d:DataW H},d∈l->∀n∈d.weights P e,n∈DataW.weightsAll P e l
 | [],_,h,_,_=>by cases h
 | x::r,d,h,n,hn=>by
  simp only[DataW.weightsAll,List.mem_append]
  rcases List.mem_cons.1 h with rfl|h
  .exact .inl hn
  .exact .inr (qmb h n hn)
def qr2{enc:TypeId×ag->H}{sp:Nat->Bool}{held:Bool}{fuel:Nat}{l:List ag}{x:DataW H×List MemPlace}(hl0:l.length=4)(Tm:DataW.trod enc prog w base sp held fuel 32 l=some x)(hw:∀y∈x.1.weights prog 32,y<=reachBytes):∃k:Ac,l=rk k/\k.ok:=by
 (have Wa:prog.cellsOf 3=1:=by kernel_rfl);(have hcS:prog.cellsOf 9=1:=by kernel_rfl)
 obtain⟨ys,m,_,hx,_,hl,hf⟩:=DataW.trod_struct underlying32 Tm
 match l,hl0 with
 | [c0,c1,c2,c3],_=>
 match ys,hl with
 | [y0,y1,y2,y3],_=>
 have P2:=hf 0 _ rfl;have hy1:=hf 1 _ rfl;have hy2:=hf 2 _ rfl;have hy3:=hf 3 _ rfl
 simp[Wa,hcS] at P2 hy1 hy2 hy3
 obtain⟨n0,e0,rfl,s0⟩:=DataW.trod_int underlying3 P2
 obtain⟨n1,e1,rfl,s1⟩:=DataW.trod_int underlying3 hy1
 obtain⟨n2,e2,rfl,s2⟩:=DataW.trod_int underlying3 hy2
 obtain⟨n3,e3,rfl,s3⟩:=DataW.trod_string underlying9 hy3
 simp at e0 e1 e2 e3
 subst e0 e1 e2 e3
 subst hx
 refine⟨⟨n0,n1,n2,n3⟩,rfl,s0,s1,s2,?_⟩
 have:=hw n3.data.toList.length (by simp[DataW.weights,DataW.weightsEach,underlying32])
 simpa[reachBytes] using this
section
open Go.Maps
structure Rn(w W:af)(b:Nat)(v:ag)(s:Nt)(rs:List Rp)(F:Nat->Prop):Prop where
 nat:cC W b s (dI s.fs) F
 new:∀c,F c->w.heap.size<=c
 bd:∀c,F c->c<W.heap.size
 out:nK W w.heap.size v rs
 off:∀k,v.ownBlock=some k->¬F k
 low:Below w.heap.size w W
section
variable {w W W':World} {b:Nat} {v v':Value} {s:Nt} {rs:List Rp} {F:Nat->Prop}
def Rn.gr(h:Rn w W b v s rs F):Gr (fun _=>False) w W:=Gr.cU h.low
def Rn.start{loose:Bool}(hb:w.heap.size<=b)(hN:cC W b (gu loose) (dI (gu loose).fs) (fun c=>c=b))(hB:Below w.heap.size w W):Rn w W b (.slice none 0 0) (gu loose) [] (fun c=>c=b/\c<W.heap.size):=
 ⟨hN.bound,fun c hc=>hc.1▸hb,fun c hc=>hc.2,nK.nil _ _,fun k hk=>(by cases hk),hB⟩
def Rn.below(h:Rn w W b v s rs F)(hb:Below W.heap.size W W'):Rn w W' b v s rs F:=
 ⟨h.nat.below hb,h.new,fun c hc=>bi (h.bd c hc) hb.size,h.out.below hb,h.off,h.low.trans (hb.mono h.low.size)⟩
theorem Rn.turned(h:Rn w W b v s rs F){c:Nat}(t:gG c W W')(h1:¬F c)(h2:v.ownBlock≠some c)(h3:w.heap.size<=c):Rn w W' b v s rs F:=
 ⟨h.nat.keep (tj t) (fun d hd e=>h1 (e▸hd)),h.new,fun d hd=>bi (h.bd d hd) (tj t).size,h.out.keep (fun g hg=>t.other g (fun e=>h2 (by rw[hg,e]))),h.off,(h.gr.trans (tj t) (fun x hx=>.inr (hx▸h3))).below (fun _ h=>h.elim) (au _)⟩
def Rn.call(h:Rn w W b v s rs F){s':Nt}{F':Nat->Prop}(hN:cC W' b s' (dI s'.fs) F')(hg:Gr F W W')(hf:∀c,F' c->F c\/W.heap.size<=c):Rn w W' b v s' rs (fun c=>F' c/\c<W'.heap.size):=
 ⟨hN.bound,fun c hc=>(hf c hc.1).elim (h.new c) (fun h2=>aw h.low.size h2),fun c hc=>hc.2,h.out.keep (fun g hg2=>hg.block g (h.out.ge g hg2).2 (h.off g hg2)),fun k hk hc=>(hf k hc.1).elim (h.off k hk) (fun h2=>by have:=(h.out.ge k hk).2;omega),
  (h.gr.trans hg (fun x hx=>.inr (h.new x hx))).below (fun _ h=>h.elim) (au _)⟩
end
theorem TR(r:Rp):r.cells.toList.length=4:=rfl
def Dt(h:p:=by
 cases q with
 | zero=>rw[List.getElem?_append_left om];simp
 | succ q=>
  (rw[List.getElem?_append_right om,hl,show 4*(q+1)+r-4=4*q+r by omega,ih q (by simpa using hq)])
  simp):p:=h
def qhT(rs:List Rp)(q r:Nat)(hq:q<rs.length)(hr:r<4):(rs.flatMap fun k:Rp=>k.cells.toList)[4*q+r]?=(rs[q].cells.toList)[r]?:=by
 induction rs generalizing q with
 | nil=>simp at hq
 | cons e l ih=>
  rw[List.flatMap_cons];have hl:=TR e
  exact Dt
def Wm(v:ag):Nat:=v.ownBlock.getD 0
theorem nK.at(h:nK w base v rs)(j:Nat)(hj:j<rs.length){x:Rp}(hx:rs[j]=x):w.rangeAt (Wm v) (4*j) x.cells.toList:=by
 rcases h.2 with⟨e,n0⟩|⟨b,cap,cur,hv,fj,hh,y7,hcm,hcs,ht⟩
 .omega
 .subst hv
  intro i u hu;(have hi2:i<4:=by have:=(List.getElem?_eq_some_iff.1 hu).1;rw[TR] at this;exact this)
  show w.cell? ⟨b,4*j+i,none⟩=some u
  rw[←hx] at hu
  have e:=(qhT rs j i hj hi2).trans hu
  rw[←ht,List.getElem?_take_of_lt om] at e
  simp only[World.cell?,hh]
  simpa using e
def nK.index(h:nK w base v rs)(j:Nat)(hj:j<rs.length)(w2:af):(Instr.indexAt 52 v (I Z (j:Int))).run prog w2=.ok (V (some ⟨Wm v,4*j,none⟩)) w2:=by
 rcases h.2 with⟨e,n0⟩|⟨b,cap,cur,hv,_⟩
 .omega
 .subst hv
  (have hn:((j:Int)).toNat<rs.length:=by simpa using hj);(have iu:(j:Int)<(rs.length:Int):=by omega);(have hs:(sizeOf 29).run prog w2=.ok 4 w2:=by kernel_rfl);have ht:Wm (.slice (some ⟨b,0,none⟩) rs.length cap)=b:=rfl;rw[ht]
  simp[go_sem,hj,hn,iu,underlying52,hs]
end
end Go.Proofs.YtnkpgdejagglaaaGreatDoor
