/-
  Of what a law stands on.
-/
import Derived.Test.YtnkpgdejagglaaaGreatDoorZyn1
set_option linter.all false
namespace Go.Proofs.YtnkpgdejagglaaaGreatDoor
open _root_.Go renaming Operand->aU,Value->ag,World->af,execOp->bG
open _root_.Go.Sem renaming run_bind->bB,run_pure->bH
open _root_.List renaming map_cons->aB,map_nil->aI,map_toArray->dx
open Go.Value renaming int → I,pointer → V
open Go.IntKind renaming i64 → Z
open _root_.Go.Proofs.Tryz Go.ChangeShapes Go.WideShapes Go.ChangeAt Go.RowKit Go.Maps
set_option maxHeartbeats 16000000
set_option maxRecDepth 100000
variable {W w w':World}{F Fw:Nat->Prop}{b b3 c cnt n:Nat}{cs:Array Value}{ov v:Value}{D:DataW Unit}{s:Nt}{tm:Int->Option Int}{is:List Int}{p:Prop}{fm:Option Nat}{o:Oper}{a:Act}{K:Act->World->Prop}{Q:Exit->Act->World->Prop}{t:TypeId}{ops:Array Oper}{fs gs:List (Nat×Fl)}{k k':Fl}{S:World->Prop}{x:Nat×Fl}
def qix{r:Option Nat}(h:w.drew.grownBy w' r):w.grownBy w' r:=⟨h.os,h.tape,h.output,h.size,h.block⟩
def WL(h:Gr F w.drew w'):Gr F w w':=⟨h.os,h.tape,h.output,h.size,h.block⟩
def bE.Cm{bm:Nat}(M:bE w b cs v ov (some bm) D Fw cnt s tm is):∃n,n<=1000/\w.ownsMap prog 3 vU bm n D:=by
 rcases M.fu with⟨h,_⟩|⟨c,h,hm⟩
 .cases h
 .cases h
  exact⟨_,by rw[M.sized];have:=Ih M;omega,hm⟩
def qzi(w:af):(binOp .eql 55 (.map none) (.map none)).run prog w=.ok (.bool true) w:=by kernel_rfl
def qwt(bm:Nat)(w:af):(binOp .eql 55 (.map (some bm)) (.map none)).run prog w=.ok (.bool false) w:=by kernel_rfl
def tj(T:gG b w w'):Gr (fun x=>x=b) w w':=by
 have hB:Below b w w':=T.below b w (Nat.le_refl _) (Below.refl _ _)
 exact⟨hB.os,hB.tape,hB.output,hB.size,fun x hx hn=>T.other x hn⟩
def Co(h:p:=by
 have kS:_/\_:=⟨(M.cell 34).trans M.kj,B5⟩
 refine RD (fun W=>W.cell? ⟨b,34,none⟩=some (.map (some bm))/\aP 75 W b5 (fc k)) kS (fun _=>?_)
 refine m2o ?_
 refine tk 3 (.map (some bm)) rfl (Or.inl ⟨by kernel_rfl,by intro w hS;have hc:=hS.1;go_simp⟩) kS (tq 4 (.int .i64 ((n:Nat):Int)) rfl kS (tk 5 (.agg (fc k)) rfl (yx (fun _ h=>h.2)) kS ?_))
 simp only[ZZ];refine AR [6] ?_
 refine AP (fun K hK=>?_) ?_
 .obtain⟨nm,Gk,hMF⟩:=M.Cm;(refine qd3 _ (.tmp 18) (.tmp 19) (.tmp 20) 55 rfl 3 75 oh underlying55 vU bm nm D kr hMF (by unfold maxLen;omega) (.int .i64 ((n:Nat):Int)) (.agg (fc k)) (kI ((n:Nat):Int)) kr kr hkey (fd Unit k) [] (qgm k) ?_);intro w9 TK dX;(replace dX:=qix dX);replace B5:aP 75 w9 b5 (fc k):=(dX.block b5 B5.lt (fun e=>HBM.out (Option.some.inj e))).trans B5;replace M:=M.Nw TK dX HFS.out zo.out HUP.out HNU.out;replace hG:=hG.trans (Gr.ep (F:=fun c=>c=bm) dX (fun c hc=>(Option.some.inj hc).symm)) HBW.out;clear hMF Gk TK dX;replace kS:_/\_:=⟨(M.cell 34).trans M.kj,B5⟩
  refine hh ?_
  clear hK K;refine AN ?_;clear kS
  go_upto_region 4 with fail
  have kS:aP 75 _ b5 (fc k):=B5
  refine RD (fun W=>aP 75 W b5 (fc k)) kS (fun _=>?_)
  refine tq 0 (.pointer (some ⟨b,0,none⟩)) rfl kS (tq 1 (.pointer (some ⟨b,0,none⟩)) rfl kS (tq 2 (.pointer (some ⟨b,37,none⟩)) rfl kS ?_));simp only[ZZ];(refine tq 3 (.int .i64 ((n:Nat):Int)) rfl kS (tq 4 (.pointer (some ⟨b5,9,none⟩)) rfl kS (tk 5 (.int .i64 k.du) rfl (Or.inl ⟨by kernel_rfl,by intro w hS;have hc:=(hS.cell 9).trans (show(fc k)[9]?=some (.int .i64 k.du) from rfl);go_simp⟩) kS ?_)));simp only[ZZ];refine AR [6] ?_
  refine AC (fun K hK=>?_) AZ
  go_simp
  go_at_call 131;(refine(CA _ _ (M.iR.below (Below.refl _ _).drew)).mono ?_);rintro e w9 ⟨rfl,cs9,F9,hW9,hs9,dX,fH⟩;(replace dX:=WL dX);replace B5:aP 75 w9 b5 (fc k):=(dX.block b5 B5.lt HB5.out).trans B5;replace kS:aP 75 _ b5 (fc k):=B5
  go_wp2_with fail
  refine hK.out _ _ kS (fun _=>?_)
  clear hK K;refine AN ?_;clear kS
  go_end0
  refine⟨rfl,cs9,some bm,_,F9,_,M.uq hW9 hs9 dX fH Io.out,HFM.out,fun c hc=>?_,?_⟩
  .rcases fH c hc with h1|h1
   .exact .inl h1
   .exact .inr (Nat.le_trans hG.size h1)
  .first|exact hG.trans dX (fun x hx=>.inl (.inl hx)) 
 exact AZ):p:=h
def qh8(M:bE w b cs v ov fm D Fw cnt s tm is)(ly:∀c,Fw c->c<w.heap.size)(n:Nat)(k:Fl)(hn:n<=700)(Mo:0<=k.du)(hd1:k.du<=1099511627776)(hroom:tm ((n:Nat):Int)=none->cnt<400)(vY:List (Nat×Fl))(jS:mq vY=zM (mq s.fs) ((n:Nat):Int) k)(hl:vY.length=if (mq s.fs ((n:Nat):Int)).isSome then s.fs.length else s.fs.length+1)(s7:vY.Pairwise (fun x y=>x.1<y.1))(Gh:∀x∈vY,x.1<=s.began)(hcn:(if (tm ((n:Nat):Int)).isSome then cnt else cnt+1)<=vY.length):
  Calls prog 68 #[.pointer (some ⟨b,0,none⟩),.int .i64 ((n:Nat):Int),.agg (fc k)] w fun e w'=>e=.returned (.tuple #[])/\∃cs' Ip D' Ck cnt',bE w' b cs' v ov Ip D' Ck cnt' { s with fs:=vY } (jz tm ((n:Nat):Int) (max k.du s.now)) is/\(∀c,Ip=some c->fm=some c\/w.heap.size<=c)/\(∀c,Ck c->Fw c\/w.heap.size<=c)/\Gr (fun c=>Fw c\/fm=some c) w w':=by
 have hkey:=keyOf_int_mk (P:=prog) (q:=.i64) (a:=((n:Nat):Int)) underlying3 (WI hn);have HFS:Hid _:=ar jS;have zo:Hid _:=ar hl;have HUP:Hid _:=ar s7;have HNU:Hid _:=ar Gh;have Io:Hid _:=ar hcn;(have CA:=fun W cs (hW:j9 W b 62 cs 37 s.now tm cnt Fw)=>q90 hW ((n:Nat):Int) k.du (WI hn) Mo hd1 hroom);have fR:Hid (∀c,Fw c->c<w.heap.size):=ly;clear jS hl s7 Gh hcn Mo hd1 hroom hn ly
 cases fm with
 | none=>
  (have hG:=Gr.refl (fun c=>Fw c\/(none:Option Nat)=some c) w);(have hq:=fun w=>qzi w)
  go_enter func68,ntmps68
  go_upto_region 3 with(first|(refine gB 75 2 ?_;refine bx 75 (.tmp 2) (fc k) ?_;intro b5 w9 l9 R9 h9;replace M:=M.below h9;refine Pr ?_;clear hG;intro hG;have B5:=R9;have HB5:Hid (¬Fw b5):=ar (fun hf=>by have:=fR.out b5 hf;omega);clear R9 h9;have kj:=(M.cell 34).trans M.kj)|((with_reducible refine iE (.makeMap 55 none) rfl ?_);refine qz0 55 rfl rfl ?_;intro bm w9 l9 h9 GW;have HBM:Hid (b5≠bm):=ar (by have:=B5.lt;omega);have EG:Hid (bm≠b):=ar (by have:=M.lt;omega);have HBL:Hid (w.heap.size<=bm):=ar (by have:=hG.size;omega);replace M:=M.below h9;replace B5:=B5.below h9;refine Pr ?_;clear hG;intro hG;clear h9 l9;clear kj;have kj:=(M.cell 34).trans M.kj)|(refine gS 55 14 12 ?_;refine qse M.row rfl (.tmp 14) (.tmp 12) rfl 34 rfl (some bm) rfl _ M.kj ?_;intro w9 R9 t9;replace B5:=t9.row B5 (fun e=>HB5.out (e▸M.yN));replace hG:=hG.trans (tj t9) (fun x hx=>.inl (.inl (hx▸M.yN)));replace M:=M.Nv (fun hf=>by have:=fR.out bm hf;have:=HBL.out;omega) R9 t9 (qwf (Ig GW (t9.other bm EG.out)));have HBW:Hid (∀x,x=bm->(Fw x\/(none:Option Nat)=some x)\/w.heap.size<=x):=ar (fun x hx=>.inr (hx▸HBL.out));have HFM:Hid (∀c,some bm=some c->(none:Option Nat)=some c\/w.heap.size<=c):=ar (fun c hc=>.inr (Option.some.inj hc▸HBL.out));clear R9 t9 GW kj EG))
  exact Co
 | some bm=>
  have hG:=Gr.refl (fun c=>Fw c\/some bm=some c) w;(have hq:=fun w=>qwt bm w);(have HBW:Hid (∀x,x=bm->(Fw x\/some bm=some x)\/w.heap.size<=x):=ar (fun x hx=>.inl (.inr (hx▸rfl))));have HFM:Hid (∀c,some bm=some c->some bm=some c\/w.heap.size<=c):=ar (fun c hc=>.inl hc);(have Pj:bm<w.heap.size:=by rcases M.fu with⟨h,_⟩|⟨c,h,hm⟩;cases h;cases h;exact hm.lt);have QW:Hid (bm<w.heap.size):=Pj;clear Pj
  go_enter func68,ntmps68
  go_upto_region 3 with((refine gB 75 2 ?_;refine bx 75 (.tmp 2) (fc k) ?_;intro b5 w9 l9 R9 h9;replace M:=M.below h9;refine Pr ?_;clear hG;intro hG;have B5:=R9;have HB5:Hid (¬Fw b5):=ar (fun hf=>by have:=fR.out b5 hf;omega);have HBM:Hid (b5≠bm):=ar (by have:=QW.out;omega);clear R9 h9;have kj:=(M.cell 34).trans M.kj))
  exact Co
theorem qzz(n:Int)(w:af):(Instr.buildSlice 44 1 #[(0,I Z n)]).run prog w=.ok (.slice (some ⟨w.heap.size,0,none⟩) 1 1) (w.alloc (.cells #[I Z n] 3)):=by
 simp[go_sem,underlying44]
def qot(x:aU)(ho:o.op=.buildSlice 44 1 #[(0,x)])(n:Int)(hx:a.eval x=I Z n)(hr:∀b w',w.heap.size<=b->aP 3 w' b #[I Z n]->Below w.heap.size w w'->K (a.put o.dst (.slice (some ⟨b,0,none⟩) 1 1)) w'):o.wp prog a w K Q:=by
 have h':=hr w.heap.size (w.alloc (.cells #[I Z n] 3)) (Nat.le_refl _) (aP.new _ w _) ((Below.refl _ _).alloc (Nat.le_refl _) _)
 unfold Oper.wp bG
 simp only[ho,dx,aB,aI,hx,bB,qzz,Result.andThen_ok,bH]
 exact h'
def q3k:(prog.info? 3).map (fun i=>(i.zero,i.size,i.bytes))=some (some (I Z 0),1,8):=by kernel_rfl
def qjs(s x:aU)(ho:o.op=.call { callee:=.builtin .append,args:=#[s,x],argTypes:=#[44,44] }){l:List Int}{n:Int}(h:gT w v l)(R:aP 3 w c #[I Z n])(hs:a.eval s=v)(hx:a.eval x=.slice (some ⟨c,0,none⟩) 1 1)(hl:l.length<=1000000)(hr:∀v' w',gT w' v' (l++[n])->w.grownBy w' v.ownBlock->(v'.ownBlock=v.ownBlock\/v'.ownBlock=some w.heap.size)->K (a.put o.dst v') w'):o.wp prog a w K Q:=by
 obtain⟨i0,hi,hz0,hz1,hz2⟩:=info_parts q3k
 obtain⟨v',w',hrun,h2,h3,h4,h5⟩:=run_append_own_at (P:=prog) w 0 44 o.type 3 i0 (I Z 0) 1 8 underlying44 hi hz0 hz1 hz2 rfl (by decide) v l.length (l.map (Value.int .i64)) h ⟨c,0,none⟩ 1 1 [I Z n] rfl (by
  intro j u hj
  match j,hj with
  | 0,hj=>
   (have e:Value.int .i64 n=u:=by simpa using hj)
   subst e
   rw[Addr.add_lit,Nat.zero_add]
   exact(R.cell 0).trans rfl) (by intro u hu;simp at hu;subst hu;rfl) (by unfold maxLen;omega) om om
 unfold Oper.wp bG
 simp only[ho,resolve,invoke,builtin,bB,bH,Result.andThen_ok,dx,aB,aI,hs,hx,hrun]
 refine hr v' w' ?_ h3 h5
 (have e1:(l++[n]).length=l.length+1:=by simp);(have e2:(l++[n]).map (Value.int .i64)=l.map (Value.int .i64)++[I Z n]:=by simp)
 show w'.ownsRow 0 3 1 v' (l++[n]).length ((l++[n]).map (Value.int .i64))
 rw[e1,e2];exact h2
def qgb(R:aP t w b cs)(x y:aU)(ho:o.op=.store 44 x y)(f:Nat)(hx:a.eval x=V (some ⟨b,f,none⟩))(v:ag)(sa:Option Addr)(n c:Nat)(hv:v=.slice sa n c)(hy:a.eval y=v)(m:ag)(hc:cs[f]?=some m)(hr:∀w',aP t w' b (cs.setIfInBounds f v)->gG b w w'->K (a.put o.dst undef) w'):o.wp prog a w K Q:=by
 have hcell:=(R.cell f).trans hc;have oB:=R.free f
 subst hv
 unfold Oper.wp bG
 simp only[ho,hx,hy]
 simp[go_sem,hcell,oB,underlying44]
 exact hr _ R.set (GL _ _ _ _)
def qr9{rest:List Oper}(R:aP t w b cs)(hgd:o.guard=none)(x y:aU)(ho:o.op=.store 44 x y)(f:Nat)(hx:a.eval x=V (some ⟨b,f,none⟩))(v:ag)(sa:Option Addr)(n c:Nat)(hv:v=.slice sa n c)(hy:a.eval y=v)(m:ag)(hc:cs[f]?=some m)(hr:∀w',aP t w' b (cs.setIfInBounds f v)->gG b w w'->wpList prog ops Q rest (a.put o.dst undef) w'):wpList prog ops Q (o::rest) a w:=
 wpList_plain hgd fun K hK=>qgb R x y ho f hx v sa n c hv hy m hc (fun w' h1 h2=>hK _ _ (hr w' h1 h2))
def WU(x:aU)(ho:o.op=.load 44 x)(b f:Nat)(hx:a.eval x=V (some ⟨b,f,none⟩))(v:ag)(hc:w.cell? ⟨b,f,none⟩=some v)(hr:K (a.put o.dst v) w):o.wp prog a w K Q:=by
 unfold Oper.wp bG
 simp only[ho,hx]
 simp[go_sem,hc,underlying44]
 exact hr
section
variable {w w':World} {b:Nat} {cs cs':Array Value} {v ov:Value} {fm:Option Nat} {D:DataW Unit} {Fw:Nat->Prop} {cnt:Nat} {s:Nt} {tm:Int->Option Int} {is:List Int}
theorem bE.order{w8:af}{qI:ag}{TL:List Int}(h:bE w b cs v ov fm D Fw cnt s tm is)(ly:∀c,Fw c->c<w.heap.size)(hg:w.grownBy w8 ov.ownBlock)(ho:gT w8 qI TL)(hl:∀c,qI.ownBlock=some c->ov.ownBlock=some c\/w.heap.size<=c)(R:aP 62 w' b (cs.setIfInBounds 35 qI))(T:gG b w8 w'):bE w' b (cs.setIfInBounds 35 qI) v qI fm D Fw cnt s tm TL:=by
 have G:Gr (fun c=>ov.ownBlock=some c) w w8:=Gr.ep hg (fun c hc=>hc);have h8:=h.iR.keep G (fun c hc e=>h.jW c e hc);have hb:b<w.heap.size:=h.lt;(have hob:qI.ownBlock≠some b:=fun e=>by rcases hl b e with h1|h1;exact h.Pw h1;omega)
 refine⟨h8.turn R zm (fun i h1 h2=>lh _ _ _ _ om) T.other,by simpa using h.size,(lh _ _ _ _ om).trans h.c0,(lh _ _ _ _ om).trans h.c1,(lh _ _ _ _ om).trans h.c2,(lh _ _ _ _ om).trans h.c3,fun k hk=>(lh _ _ _ _ om).trans (h.ct k hk),(lh _ _ _ _ om).trans h.kj,Px _ _ _ (by rw[h.size];omega),(lh _ _ _ _ om).trans h.rr,EA h.maps (fun h0=>(T.other _ (h.msb h0)).trans (G.block _ (h.maps.lt h0) (h.im h0).2)),h.nil,yy ho (fun c hc=>T.other c (fun e=>hob (e▸hc))),?_,h.reads,h.sized,h.few,h.jV,fun c hc=>?_,fun h0=>⟨(h.im h0).1,fun e=>?_⟩,h.up,h.num,h.bg⟩
 .rcases h.fu with h0|⟨bm,h1,h2⟩
  .grind
  .exact .inr ⟨bm,h1,Ig h2 ((T.other bm (fun e=>h.fmb (e▸h1))).trans (G.block bm h2.lt (h.Nr h1)))⟩
 .rcases hl c hc with h1|h1
  .exact h.jW c h1
  grind
 .rcases hl _ e with h1|h1
  .exact(h.im h0).2 h1
  .have:=h.maps.lt h0;omega
end
theorem qqn(h:∀x∈fs,x.1<n):dI (fs++[(n,k)])=jz (dI fs) (n:Int) k.du:=by grind [dI,jz]
theorem qjq(h:∀x∈fs,x.1<n):mq (fs++[(n,k)])=zM (mq fs) (n:Int) k:=by grind [mq,zM]
theorem qlc(h:∀x∈fs,x.1<n):fs.find? (fun x=>decide ((x.1:Int)=(n:Int)))=none:=by grind
theorem quy(p s:Int):4<=cV p s/\cV p s<=60:=by grind [cV]
def qw8(x y:aU)(ho:o.op=.binOp .add 3 x y 3)(hw:Region.wanted o (yielded ops a.tmps)=true)(m n d:Int)(hx:a.eval x=I Z m)(hy:a.eval y=I Z n)(hd:IntKind.i64.wrap (m+n)=d):YieldsIf prog ops S o (I Z d) a:=
 .inl ⟨hw,fun w _=>by unfold bG;simp only[ho,hx,hy];simp[go_sem,Act.eval];exact hd⟩
def qap(h:gG b w.drew w'):gG b w w':=⟨h.size,h.other,fun B w0 hB hb=>h.below B w0 hB (TM hb)⟩
def nL(h:Below w.drew.heap.size w.drew w'):Below w.heap.size w w':=⟨h.os,h.tape,h.output,h.size,h.block⟩
def NG(M:bE w b cs v ov fm D Fw cnt s tm (s.fs.map fun x=>(x.1:Int))):cC w b s tm (oV Fw fm ov v s.ms):=⟨_,_,_,_,_,_,_,M,fun _ h=>h⟩
def bE.bound(M:bE w b cs v ov fm D Fw cnt s tm is):bE w b cs v ov fm D (fun c=>Fw c/\c<w.heap.size) cnt s tm is:=
 ⟨M.iR.bound,M.size,M.c0,M.c1,M.c2,M.c3,M.ct,M.kj,M.nj,M.rr,M.maps,M.nil,M.ids,M.fu,M.reads,M.sized,M.few,fun c hc hh=>M.jV c hc hh.1,fun c hc hh=>M.jW c hc hh.1,fun h0=>⟨fun hh=>(M.im h0).1 hh.1,(M.im h0).2⟩,M.up,M.num,M.bg⟩
theorem bE.qhI(M:bE w b cs v ov fm D Fw cnt s tm is)(ly:∀c,Fw c->c<w.heap.size)(hc:oV Fw fm ov v s.ms c):c<w.heap.size:=by
 rcases hc with h1|h1|h1|⟨h1,rfl⟩
 .grind
 .rcases M.fu with⟨e,_⟩|⟨bm,e,hm⟩
  .grind
  .rw[e] at h1;cases h1;exact hm.lt
 .obtain⟨cur,m,hh⟩:=zN M.ids h1
  grind
 .exact M.maps.lt h1
def qil(x:aU)(ho:o.op=.load 3 x)(b f:Nat)(hx:a.eval x=V (some ⟨b,f,none⟩))(n:Int)(hc:w.cell? ⟨b,f,none⟩=some (I Z n))(hr:K (a.put o.dst (I Z n)) w):o.wp prog a w K Q:=by
 unfold Oper.wp bG
 simp only[ho,hx]
 simp[go_sem,hc,underlying3]
 exact hr
def NH(W:af)(b3:Nat)(k k':Fl):Prop:=aP 75 W b3 (fc k)\/aP 75 W b3 (fc k')
def qhJ(h:aP 75 W b3 (fc k)):NH W b3 k k':=.inl h
def qhK(h:aP 75 W b3 (fc k')):NH W b3 k k':=.inr h
theorem qlb{v':ag}{m:Nat}(h:v'.ownBlock=v.ownBlock\/v'.ownBlock=some n)(hm:m<=n):∀c,v'.ownBlock=some c->v.ownBlock=some c\/m<=c:=by grind
theorem qjh(hp:fs.Pairwise (fun x y=>x.1<y.1))(h:∀x∈fs,x.1<n):(fs++[(n,k)]).Pairwise (fun x y=>x.1<y.1):=by grind
def q8r{n l:Int}(h:4<=l):max (n+l) n=n+l:=by omega
def Cq(h:p:=by
 refine hh ?_
 clear hK K;refine AR [10] ?_
 refine AP (fun K hK=>?_) ?_
 ·(refine qjs (.tmp 25) (.tmp 30) rfl M.ids BQ kr kr uM.out ?_);intro v8 w8 Gi yR hl8;obtain⟨va,vc,hv8⟩:=Gg Gi
  refine hh ?_
  clear hK K;refine tq 11 (V (some ⟨b,0,none⟩)) rfl kS (tq 12 (V (some ⟨b,35,none⟩)) rfl kS ?_);simp only[ZZ];refine AR [13] ?_
  refine AP (fun K hK=>?_) AZ
  have hG0:=hG.size;have R8:=(yR.block b M.lt (fun e=>M.Pw e.symm)).trans M.row;(refine qgb R8 (.tmp 33) (.tmp 31) rfl 35 kr v8 va _ vc hv8 kr _ M.nj ?_);intro w9 R9 t9;replace B3:=t9.row ((yR.block b3 B3.lt (fun e=>HOB.out e.symm)).trans B3) HB3.out;replace hG:=(hG.trans (Gr.ep (F:=fun c=>(Value.slice oa on oc).ownBlock=some c) yR (fun c hc=>hc)) WJ.out).trans (tj t9) HFB.out;have HV8:Hid (∀c,v8.ownBlock=some c->(Value.slice oa on oc).ownBlock=some c\/w.heap.size<=c):=ar (qlb hl8 hG0);replace M:=M.order (fun c hc=>Nat.lt_of_lt_of_le (HBD.out c hc) hG0) yR Gi (qlb hl8 (Nat.le_refl _)) R9 t9;clear hG0 R8 R9 t9 yR Gi hl8 hv8
  refine hh ?_
  clear hK K;refine AN ?_;clear kS
  go_upto_region 4 with fail
  (have HNM:Hid (∀x∈s.fs++[(s.began+1,kP s k)],x.1<=s.began+1):=ar (fun x hx=>by rcases List.mem_append.1 hx with h1|h1;exact Nat.le_of_lt (fR.out x h1);obtain rfl:=List.mem_singleton.1 h1;exact Nat.le_refl _));(have zo:Hid ((s.fs++[(s.began+1,kP s k)]).length=if (mq s.fs ((s.began+1:Nat):Int)).isSome then s.fs.length else s.fs.length+1):=ar (by rw[show mq s.fs ((s.began+1:Nat):Int)=none from by unfold mq;rw[qlc fR.out];rfl];simp));(have HCC:Hid ((if (dI s.fs ((s.began+1:Nat):Int)).isSome then cnt else cnt+1)<=(s.fs++[(s.began+1,kP s k)]).length):=ar (by rw[show dI s.fs ((s.began+1:Nat):Int)=none from by unfold dI;rw[qlc fR.out];rfl];have:=Io.out;simp;omega));(have Nz:Hid (¬(Fw b3\/fm=some b3)):=ar (fun h=>by rcases h with h|h;exact NA.out b3 (.inl h) rfl;exact NA.out b3 (.inr (.inl h)) rfl));(have HGF:Hid (∀x,(Fw x\/fm=some x)->F x\/w.heap.size<=x):=ar (fun x hx=>.inl (by rcases hx with h|h;exact PE.out x (.inl h);exact PE.out x (.inr (.inl h)))))
  have HFE:Hid (∀(F9:Nat->Prop) (EQ:Option Nat) (c:Nat) {n:Nat},(∀c,EQ=some c->fm=some c\/n<=c)->(∀c,F9 c->Fw c\/n<=c)->w.heap.size<=n->oV F9 EQ v8 v s.ms c->F c\/w.heap.size<=c):=ar (fun F9 EQ c n h1 h2 h3 hc=>by
   rcases hc with hc|hc|hc|hc
   .rcases h2 c hc with h|h;exact .inl (PE.out c (.inl h));exact .inr (Nat.le_trans h3 h)
   .rcases h1 c hc with h|h;exact .inl (PE.out c (.inr (.inl h)));exact .inr (Nat.le_trans h3 h)
   .rcases HV8.out c hc with h|h;exact .inl (PE.out c (.inr (.inr (.inl h))));exact .inr h
   .exact .inl (PE.out c (.inr (.inr (.inr hc)))))
  have kS:_/\_:=⟨(M.cell 36).trans M.rr,B3⟩
  refine RD (fun W=>W.cell? ⟨b,36,none⟩=some (I Z ((s.began+1:Nat):Int))/\aP 75 W b3 (fc (kP s k))) kS (fun _=>?_)
  refine m4l ?_
  refine tq 3 (V (some ⟨b,36,none⟩)) rfl kS (tk 4 (I Z ((s.began+1:Nat):Int)) rfl (Or.inl ⟨by kernel_rfl,by intro w hS;have hc:=hS.1;go_simp⟩) kS (tk 5 (.agg (fc (kP s k))) rfl (yx (fun _ h=>h.2)) kS ?_))
  simp only[ZZ];refine AR [6] ?_
  refine AC (fun K hK=>?_) AZ
  go_simp
  go_at_call 68;(refine(qh8 (M.below (Below.refl _ _).drew) (fun c hc=>Nat.lt_of_lt_of_le (HBD.out c hc) hG.size) (s.began+1) (kP s k) SN.out NI.out.2.1 NI.out.2.2 (fun _=>Nat.lt_of_le_of_lt Io.out M6.out) (s.fs++[(s.began+1,kP s k)]) (qjq fR.out) zo.out (qjh HUP.out fR.out) HNM.out HCC.out).mono ?_);rintro e w9 ⟨rfl,cs9,EQ,D9,F9,qhL,M9,qhM,qhN,dX⟩;(replace dX:=WL dX);replace B3:=(dX.block b3 B3.lt Nz.out).trans B3;replace kS:_/\_:=⟨(M9.cell 36).trans M9.rr,B3⟩
  go_wp2_with fail
  refine hK.out _ _ kS (fun _=>?_)
  clear hK K;refine AN ?_;clear kS
  go_end0
  refine⟨rfl,oV F9 EQ v8 v s.ms,⟨cs9,v,v8,EQ,D9,F9,qhL,?_,fun c hc=>hc⟩,?_,fun c hc=>?_⟩
  ·(have e1:dI (s.begin k).fs=jz (dI s.fs) ((s.began+1:Nat):Int) (max (kP s k).du s.now):=by rw[show(kP s k).du=s.now+cV k.pr k.st from rfl,NI.out.1];exact qqn fR.out);rw[e1];(have e2:(s.begin k).fs.map (fun x=>(x.1:Int))=s.fs.map (fun x=>(x.1:Int))++[((s.began+1:Nat):Int)]:=by simp[Nt.begin]);rw[e2]
   first|exact M9 
  .have hgg:=hG.trans dX HGF.out
   first|exact hgg 
  .exact HFE.out F9 EQ c qhM qhN hG.size hc
 exact AZ):p:=h
def Cr(h:p:=by
 refine hh ?_
 clear hK K;refine AR [9] ?_
 refine AP (fun K hK=>?_) ?_
 .refine qot (.tmp 29) rfl (((s.began+1):Nat):Int) kr ?_;intro bq w9 l9 R9 h9;(replace h9:=nL h9);replace M:=M.below h9;replace B3:=B3.below h9;refine Pr ?_;intro hG;have BQ:=R9;clear R9 h9 l9
  exact Cq
 exact AZ):p:=h
def qlz(h:cC w b s (dI s.fs) F)(k:Fl)(hlen:s.fs.length<400)(hbg:s.began<700)(dn:0<=s.now/\s.now<=549755813888):Calls prog 76 #[V (some ⟨b,0,none⟩),.agg (fc k)] w fun e w'=>e=.returned (.tuple #[])/\∃F',cC w' b (s.begin k) (dI (s.begin k).fs) F'/\Gr F w w'/\∀c,F' c->F c\/w.heap.size<=c:=by
 obtain⟨cs,v,ov,fm,D,zO,cnt,M0,Gl⟩:=h
 obtain⟨Fw,WV⟩:∃Fw,Fw=fun c=>zO c/\c<w.heap.size:=⟨_,rfl⟩
 (have M:bE w b cs v ov fm D Fw cnt s (dI s.fs) (s.fs.map fun x=>(x.1:Int)):=WV▸M0.bound);have HBD:Hid (∀c,Fw c->c<w.heap.size):=ar (fun c hc=>by rw[WV] at hc;exact hc.2);(have hF:∀c,oV Fw fm ov v s.ms c->F c:=fun c hc=>Gl c (by rw[WV] at hc;rcases hc with h1|h1;exact .inl h1.1;exact .inr h1));clear WV M0 Gl;obtain⟨oa,oc,iA⟩:=Gg M.ids
 obtain⟨on,Ir⟩:∃on,on=(s.fs.map fun x=>(x.1:Int)).length:=⟨_,rfl⟩
 rw[←Ir] at iA
 subst iA
 (have uM:Hid ((s.fs.map fun x=>(x.1:Int)).length<=1000000):=ar (by have:=Ih M;rw[List.length_map];omega));have oI:=quy k.pr k.st;have HAW:Hid (IntKind.i64.wrap (s.now+cV k.pr k.st)=s.now+cV k.pr k.st):=ar (by rw[IntKind.wrap_i64];omega);(have hbw:wrap64 ((s.began:Int)+1)=(s.began:Int)+1:=by unfold wrap64;omega);have SN:Hid (s.began<700):=hbg;have HFP:Hid (∀c,oV Fw fm (.slice oa on oc) v s.ms c->c<w.heap.size):=ar (fun c hc=>M.qhI HBD.out hc);have PE:Hid (∀c,oV Fw fm (.slice oa on oc) v s.ms c->F c):=hF;have M6:Hid (s.fs.length<400):=hlen;(have NI:Hid (max (s.now+cV k.pr k.st) s.now=s.now+cV k.pr k.st/\0<=s.now+cV k.pr k.st/\s.now+cV k.pr k.st<=1099511627776):=ar ⟨q8r oI.1,by omega,by omega⟩);(have hlt:∀x∈s.fs,x.1<s.began+1:=fun x hx=>Nat.lt_succ_of_le (M.num x hx));have fR:Hid (∀x∈s.fs,x.1<s.began+1):=hlt;have Io:Hid (cnt<=s.fs.length):=M.few;(have HFB:Hid (∀x,x=b->F x\/w.heap.size<=x):=ar (fun x hx=>.inl (hx▸hF b (.inl M.yN))));(have WJ:Hid (∀x,(Value.slice oa on oc).ownBlock=some x->F x\/w.heap.size<=x):=ar (fun x hx=>.inl (hF x (.inr (.inr (.inl hx))))));have hG:=Gr.refl F w;have HUP:Hid _:=ar M.up;clear hF hlen hbg dn oI hlt Ir
 go_enter func76,ntmps76
 go_upto_region 1 with((refine gB 75 1 ?_;refine bx 75 (.tmp 1) (fc k) ?_;intro b3 w9 l9 R9 h9;have HL3:Hid (w.heap.size<=b3):=ar (Nat.le_trans hG.size l9);have HB3:Hid (b3≠b):=ar (by have:=M.lt;omega);replace M:=M.below h9;refine Pr ?_;clear hG;intro hG;have B3:=R9;clear R9 h9 l9;have NA:Hid (∀c,oV Fw fm (.slice oa on oc) v s.ms c->¬c=b3):=ar (fun c hc e=>by have:=HFP.out c hc;have:=HL3.out;omega);have HOB:Hid ((Value.slice oa on oc).ownBlock≠some b3):=ar (fun e=>NA.out b3 (.inr (.inr (.inl e))) rfl)))
 have kS:=qhJ (k':=kP s k) B3
 refine RD (fun W=>NH W b3 k (kP s k)) kS (fun _=>?_)
 refine tq 0 (V (some ⟨b,0,none⟩)) rfl kS (tq 2 (V (some ⟨b3,0,none⟩)) rfl kS (tq 3 (V (some ⟨b3,0,none⟩)) rfl kS ?_));simp only[ZZ];(refine tk 4 (I Z k.pr) rfl (Or.inl ⟨by kernel_rfl,by intro w hS;have hc:=(show _=some (Value.int .i64 k.pr) from by rcases hS with h|h;exact(h.cell 0).trans rfl;exact(h.cell 0).trans rfl);go_simp⟩) kS (tq 5 (V (some ⟨b3,7,none⟩)) rfl kS (tk 6 (I Z k.st) rfl (Or.inl ⟨by kernel_rfl,by intro w hS;have hc:=(show _=some (Value.int .i64 k.st) from by rcases hS with h|h;exact(h.cell 7).trans rfl;exact(h.cell 7).trans rfl);go_simp⟩) kS ?_)));refine E2 ?_
 refine AC (fun K hK=>?_) AZ
 go_simp
 go_at_call 9;(refine(Hu (NG (M.below (Below.refl _ _).drew))).mono ?_);refine Ps ?_
 go_wp2_with fail
 refine hK.out _ _ kS (fun _=>?_)
 clear hK K;refine AR [7] ?_
 refine AC (fun K hK=>?_) AZ
 go_simp;go_at_call 133;refine(qvq k.pr k.st _).mono ?_;refine Ps ?_
 go_wp2_with fail
 refine hK.out _ _ kS (fun _=>?_)
 clear hK K;refine tk 8 (I Z (s.now+cV k.pr k.st)) rfl (qw8 (.tmp 5) (.tmp 11) rfl kr _ _ _ kr kr HAW.out) kS (tq 9 (V (some ⟨b3,9,none⟩)) rfl kS ?_);simp only[ZZ];refine AR [10] ?_
 refine AP (fun K hK=>?_) AZ
 refine qd4 B3 (.tmp 13) (.tmp 12) rfl 9 kr (s.now+cV k.pr k.st) kr _ rfl (fc (kP s k)) rfl ?_;intro w9 R9 t9;(replace t9:=qap t9);replace M:=M.keep (tj t9) NA.out;replace hG:=hG.trans (tj t9) (fun x hx=>.inr (hx▸HL3.out));replace B3:=R9;clear R9 t9;replace kS:=qhK (k:=k) B3
 refine hh ?_
 clear hK K;refine AN ?_;clear kS
 go_upto_region 3 with(first|(refine gL 3 16 ?_;refine o6 M.row _ rfl kr 36 rfl (s.began:Int) M.rr ?_)|(refine gS 3 20 18 ?_;refine wF M.row rfl (.tmp 20) (.tmp 18) rfl 36 rfl ((s.began+1:Nat):Int) (by first|exact qg6 hbw) _ M.rr _ rfl ?_;intro w9 R9 t9;replace B3:=t9.row B3 HB3.out;replace hG:=hG.trans (tj t9) HFB.out;replace M:=M.Ch (s.began+1) ⟨Nat.le_succ _,SN.out⟩ R9 t9;clear R9 t9))
 have kS:True:=trivial
 refine RD (fun W=>True) kS (fun _=>?_)
 refine m4l ?_;refine tq 3 (V (some ⟨b,35,none⟩)) rfl kS (tq 5 (V (some ⟨b,0,none⟩)) rfl kS (tq 6 (V (some ⟨b,0,none⟩)) rfl kS ?_));simp only[ZZ];refine tq 7 (V (some ⟨b,36,none⟩)) rfl kS ?_;simp only[ZZ];refine AR [4,8] ?_
 refine AP (fun K hK=>?_) ?_
 ·(refine WU (.tmp 24) rfl b 35 kr (.slice oa on oc) (by first|exact(M.cell 35).trans M.nj ) ?_)
  refine hh ?_
  clear hK K;refine AR [8] ?_
  refine AP (fun K hK=>?_) AZ
  (refine qil (.tmp 28) rfl b 36 kr (((s.began+1):Nat):Int) (by first|exact(M.cell 36).trans M.rr ) ?_)
  exact Cr
 refine AP (fun K hK=>?_) AZ
 (refine qil (.tmp 28) rfl b 36 kr (((s.began+1):Nat):Int) (by first|exact(M.cell 36).trans M.rr ) ?_)
 refine hh ?_
 clear hK K;refine AR [4,9] ?_
 refine AP (fun K hK=>?_) ?_
 ·(refine WU (.tmp 24) rfl b 35 kr (.slice oa on oc) (by first|exact(M.cell 35).trans M.nj ) ?_)
  exact Cr
 refine AP (fun K hK=>?_) AZ
 refine qot (.tmp 29) rfl (((s.began+1):Nat):Int) kr ?_;intro bq w9 l9 R9 h9;(replace h9:=nL h9);replace M:=M.below h9;replace B3:=B3.below h9;refine Pr ?_;clear hG;intro hG;have BQ:=R9;clear R9 h9 l9
 refine hh ?_
 clear hK K;refine AR [4] ?_
 refine AP (fun K hK=>?_) AZ
 (refine WU (.tmp 24) rfl b 35 kr (.slice oa on oc) (by first|exact(M.cell 35).trans M.nj ) ?_)
 exact Cq
theorem qwi(fs:List (Nat×Fl))(n:Nat)(k:Fl):(fG fs n k).map (·.1)=fs.map (·.1):=by grind [fG,List.map_map,List.map_congr_left]
theorem q27(fs:List (Nat×Fl))(n:Nat)(k:Fl)(i:Int):(fG fs n k).find? (fun x=>decide ((x.1:Int)=i))=(fs.find? fun x=>decide ((x.1:Int)=i)).map fun x=>if x.1=n then(n,k) else x:=by
 unfold fG
 rw[List.find?_map]
 congr 1
 congr 1
 grind
theorem qqv{i:Int}(h:fs.find? (fun x=>decide ((x.1:Int)=i))=some x):(x.1:Int)=i:=by grind
theorem qxt(k:Fl)(hp:fs.Pairwise (fun x y=>x.1<y.1))(hx:x∈fs):mq (fG fs x.1 k)=zM (mq fs) (x.1:Int) k:=by
 funext i
 have h1:=zx hp hx
 unfold mq zM at *
 rw[q27]
 by_cases e:i=(x.1:Int)
 .subst e
  rw[aZ rfl]
  cases hf:fs.find? (fun y=>decide ((y.1:Int)=(x.1:Int))) with
  | none=>rw[hf] at h1;cases h1
  | some y=>
   have:=qqv hf
   (have hy:y.1=x.1:=by omega)
   simp[hy]
 .rw[aT e]
  cases hf:fs.find? (fun y=>decide ((y.1:Int)=i)) with
  | none=>simp[hf]
  | some y=>
   have:=qqv hf
   (have hy:y.1≠x.1:=by omega)
   simp[hy,hf]
theorem MW(fs:List (Nat×Fl))(i:Int):dI fs i=(mq fs i).map (·.du):=by unfold dI mq;cases fs.find? (fun x=>decide ((x.1:Int)=i))<;>rfl
theorem q89(k:Fl)(hp:fs.Pairwise (fun x y=>x.1<y.1))(hx:x∈fs):dI (fG fs x.1 k)=jz (dI fs) (x.1:Int) k.du:=by
 funext i
 rw[MW,qxt k hp hx]
 grind [zM,jz,MW]
theorem qum(h:gs.map (·.1)=fs.map (·.1))(hp:fs.Pairwise (fun x y=>x.1<y.1)):gs.Pairwise (fun x y=>x.1<y.1):=by
 (have h1:(fs.map (·.1)).Pairwise (· < ·):=by rw[List.pairwise_map];exact hp)
 grind
theorem q8b(h:gs.map (·.1)=fs.map (·.1)):gs.map (fun x=>(x.1:Int))=fs.map (fun x=>(x.1:Int)):=by
 have:=congrArg (List.map (fun n:Nat=>(n:Int))) h
 rw[List.map_map,List.map_map] at this
 exact this
theorem qja(h:cC w b s (dI s.fs) F)(hx:x∈s.fs)(k:Fl)(Mo:0<=s.now)(hd1:s.now<=k.du)(Pa:k.du<=1099511627776):Calls prog 68 #[V (some ⟨b,0,none⟩),I Z ((x.1:Nat):Int),.agg (fc k)] w fun e w'=>e=.returned (.tuple #[])/\∃F',cC w' b (s.keep x.1 k) (dI (s.keep x.1 k).fs) F'/\Gr F w w'/\∀c,F' c->F c\/w.heap.size<=c:=by
 obtain⟨cs,v,ov,fm,D,zO,cnt,M0,Gl⟩:=h;have M:=M0.bound;have Gk:=qwi s.fs x.1 k;(have hsome:(mq s.fs (x.1:Int)).isSome=true:=by rw[zx M.up hx];rfl);(have hdu:(dI s.fs (x.1:Int)).isSome=true:=by rw[MW,zx M.up hx];rfl)
 refine(qh8 M (fun c hc=>hc.2) x.1 k (Nat.le_trans (M.num x hx) M.bg) om Pa (fun e=>by rw[e] at hdu;cases hdu) (fG s.fs x.1 k) (qxt k M.up hx) (by rw[aZ hsome];simp[fG]) (qum Gk M.up) (fun y hy=>?_) (by rw[aZ hdu];simpa[fG] using M.few)).mono ?_
 .have:y.1∈(fG s.fs x.1 k).map (·.1):=List.mem_map.2 ⟨y,hy,rfl⟩
  rw[Gk] at this
  obtain⟨z,hz,e⟩:=List.mem_map.1 this
  rw[←e];exact M.num z hz
 .rintro e w' ⟨rfl,cs',Ip,D',Ck,cnt',M',zk,hfw,hg⟩
  refine⟨rfl,oV Ck Ip ov v s.ms,⟨cs',v,ov,Ip,D',Ck,cnt',?_,fun c hc=>hc⟩,hg.mono (fun c hc=>?_),fun c hc=>?_⟩
  .show bE w' b cs' v ov Ip D' Ck cnt' { s with fs:=fG s.fs x.1 k } (dI (fG s.fs x.1 k)) ((fG s.fs x.1 k).map fun x=>(x.1:Int))
   rw[q89 k M.up hx,q8b Gk]
   grind
  .rcases hc with hc|hc
   .exact Gl c (.inl hc.1)
   .exact Gl c (.inr (.inl hc))
  .rcases hc with hc|hc|hc|hc
   .rcases hfw c hc with h1|h1
    .exact .inl (Gl c (.inl h1.1))
    omega
   .rcases zk c hc with h1|h1
    .exact .inl (Gl c (.inr (.inl h1)))
    omega
   .exact .inl (Gl c (.inr (.inr (.inl hc))))
   .exact .inl (Gl c (.inr (.inr (.inr hc))))
def cC.ry(h:cC w b s tm F):∃fm,w.cell? ⟨b,34,none⟩=some (.map fm):=by
 obtain⟨cs,v,ov,fm,D,Fw,cnt,M,hF⟩:=h
 exact⟨fm,(M.cell 34).trans M.kj⟩
def cC.wa(h:cC w b s tm F)(hc:w.cell? ⟨b,34,none⟩=some (.map fm))(hx:x∈s.fs):(Instr.lookup 55 (.map fm) (I Z ((x.1:Nat):Int)) false).run prog w=.ok (.agg (fc x.2)) w:=by
 obtain⟨cs,v,ov,Ip,D,Fw,cnt,M,hF⟩:=h
 have:=(M.cell 34).trans M.kj
 rw[hc] at this
 cases this
 exact M.sF hx
def qm6(t:TypeId)(m x:aU)(ho:o.op=.lookup t m x false)(mv kv v:ag)(hm:a.eval m=mv)(hx:a.eval x=kv)(hr:(Instr.lookup t mv kv false).run prog w=.ok v w)(hK:K (a.put o.dst v) w):o.wp prog a w K Q:=by
 unfold Oper.wp
 simp[bG,ho,hm,hx,hr,Result.andThen]
 exact hK
def qj9(x:aU)(ho:o.op=.load 55 x)(b f:Nat)(hx:a.eval x=V (some ⟨b,f,none⟩))(v:ag)(hc:w.cell? ⟨b,f,none⟩=some v)(hr:K (a.put o.dst v) w):o.wp prog a w K Q:=by
 unfold Oper.wp bG
 simp only[ho,hx]
 simp[go_sem,hc,underlying55]
 exact hr
def cC.due(h:cC w b s (dI s.fs) F)(hx:x∈s.fs):s.now<=x.2.du/\x.2.du<=1099511627776:=by
 obtain⟨cs,v,ov,Ip,D,Fw,cnt,M,hF⟩:=h
 exact M.iR.due (i:=(x.1:Int)) (by rw[MW,zx M.up hx];rfl)
theorem qvb(k:Fl)(x:Int)(inw:Bool):(jf k x inw).1.du=k.du:=by grind [jf,gK]
theorem q6d{x now:Int}{inw:Bool}(h0:now<=k.du)(h1:k.du<=1099511627776)(hn:now<=549755813888):now<=(cq k x inw now).du/\(cq k x inw now).du<=1099511627776:=by
 have key:(jf k x inw).1.du=k.du:=qvb k x inw
 unfold cq
 split
 .have:=quy (jf k x inw).1.pr (jf k x inw).1.st
  grind
 omega
def Cs(h:p:=by
 refine AR [12] ?_
 refine AC (fun K hK=>?_) ?_
 .go_simp
  go_at_call 69;refine(qqt x.2 p inw s.now O8.out.1 (Int.le_trans O8.out.2 (by decide)) _).mono ?_;rintro e w9 ⟨rfl,df⟩;(replace df:=nL df);replace N:=N.below df;clear df;replace kS:=N.row 0 rfl
  go_wp2_with fail
  refine hK.out _ _ kS (fun _=>?_)
  clear hK K;refine AR [13] ?_
  refine AC (fun K hK=>?_) AZ
  go_simp
  go_at_call 68;(refine(qja N.nat HXM.out (cq x.2 p.flags inw s.now) O8.out.1 HDU.out.1 HDU.out.2).mono ?_);rintro e w9 ⟨rfl,F9,fY,dX,fH⟩;replace N:=N.call fY dX fH;clear fY dX fH;replace kS:=N.row 0 rfl
  go_wp2_with fail
  refine hK.out _ _ kS (fun _=>?_)
  clear hK K;refine AN ?_;clear kS
  go_end0
  first|exact⟨rfl,_,N.nat,N.gr,N.sub⟩ 
 exact AZ):p:=h
def Ct(h:p:=by
 refine AR [7] ?_
 refine AP (fun K hK=>?_) ?_
 ·(refine qm6 55 (.tmp 13) (.tmp 14) rfl (.map fm) (I Z ((x.1:Nat):Int)) (.agg (fc x.2)) kr kr (N.drew.nat.wa HC.out HXM.out) ?_)
  refine hh ?_
  clear hK K
  exact Cs
 exact AZ):p:=h
def qvy(h:cC w b s (dI s.fs) F)(hx:x∈s.fs)(p:bM)(inw:Bool)(dn:0<=s.now/\s.now<=549755813888):Calls prog 33 #[V (some ⟨b,0,none⟩),I Z ((x.1:Nat):Int),.agg (dm p),.bool inw] w fun e w'=>e=.returned (.tuple #[])/\∃F',cC w' b (s.keep x.1 (cq x.2 p.flags inw s.now)) (dI (s.keep x.1 (cq x.2 p.flags inw s.now)).fs) F'/\Gr F w w'/\∀c,F' c->F c\/w.heap.size<=c:=by
 have N:=h.start;have HXM:Hid (x∈s.fs):=hx;have O8:Hid (0<=s.now/\s.now<=549755813888):=dn;have HDU:Hid _:=ar (q6d (x:=p.flags) (inw:=inw) (h.due hx).1 (h.due hx).2 dn.2);clear hx dn
 go_enter func33,ntmps33
 go_upto_region 1 with(refine gB 77 2 ?_;refine bx 77 (.tmp 2) (dm p) ?_;intro b6 w9 l9 R9 h9;replace N:=N.alloc (o:=ob 77 (dm p)) l9 R9 h9;clear R9 h9 l9)
 obtain⟨fm,hc⟩:=N.nat.ry;have HC:Hid _:=ar hc;clear hc;have kS:=N.row 0 rfl
 refine RD (fun W=>aP 77 W b6 (dm p)) kS (fun _=>?_)
 refine tq 0 (V (some ⟨b,0,none⟩)) rfl kS (tq 1 (I Z ((x.1:Nat):Int)) rfl kS (tq 2 (V (some ⟨b,0,none⟩)) rfl kS ?_));simp only[ZZ];refine tq 3 (V (some ⟨b,0,none⟩)) rfl kS (tq 4 (V (some ⟨b,34,none⟩)) rfl kS (tq 6 (I Z ((x.1:Nat):Int)) rfl kS ?_));simp only[ZZ]
 refine tk 8 (.agg (dm p)) rfl (rA 77 (.tmp 6) rfl kr b6 kr (dm p) (fun _ h=>h) _ underlying77 rfl (NJ p)) kS (tq 9 (.bool inw) rfl kS (tq 10 (V (some ⟨b,0,none⟩)) rfl kS ?_))
 simp only[ZZ];refine AR [5,11] ?_
 refine AP (fun K hK=>?_) ?_
 ·(refine qj9 (.tmp 12) rfl b 34 kr (.map fm) HC.out ?_)
  refine hh ?_
  clear hK K;refine AR [7,11] ?_
  refine AP (fun K hK=>?_) ?_
  ·(refine qm6 55 (.tmp 13) (.tmp 14) rfl (.map fm) (I Z ((x.1:Nat):Int)) (.agg (fc x.2)) kr kr (N.drew.nat.wa HC.out HXM.out) ?_)
   refine hh ?_
   clear hK K;refine AR [11] ?_
   refine AC (fun K hK=>?_) AZ
   go_simp
   go_at_call 9;(refine(Hu N.drew.nat).mono ?_);refine Ps ?_
   go_wp2_with fail
   refine hK.out _ _ kS (fun _=>?_)
   clear hK K
   exact Cs
  refine AC (fun K hK=>?_) AZ
  go_simp
  go_at_call 9;(refine(Hu N.drew.nat).mono ?_);refine Ps ?_
  go_wp2_with fail
  refine hK.out _ _ kS (fun _=>?_)
  clear hK K
  exact Ct
 refine AC (fun K hK=>?_) AZ
 go_simp
 go_at_call 9;(refine(Hu N.drew.nat).mono ?_);refine Ps ?_
 go_wp2_with fail
 refine hK.out _ _ kS (fun _=>?_)
 clear hK K;refine AR [5] ?_
 refine AP (fun K hK=>?_) AZ
 (refine qj9 (.tmp 12) rfl b 34 kr (.map fm) HC.out ?_)
 refine hh ?_
 clear hK K
 exact Ct
def sJ(h:p:=by
 rw[hf] at CF
 unfold EN at CF
 go_enter func80,ntmps80
 go_wp2_with (go_at_call 31;go_fit CF;rintro e w' ⟨rfl,hb⟩)
 go_ret
 exact⟨rfl,hb⟩):p:=h
def q33(h:cC w b s tm F)(p:bM)(m:Mp)(bm bp:Nat)(Rm:aP 72 w bm (mc m))(Rp:aP 77 w bp (dm p)):Calls prog 80 #[V (some ⟨b,0,none⟩),.func (.func 78) #[] #[V (some ⟨bm,0,none⟩),V (some ⟨bp,0,none⟩)]] w fun e w'=>e=.returned (.bool (s.find (lD p m)).isSome)/\Below w.heap.size w w':=by
 have CF:=q0x h p m bm bp Rm Rp
 cases hf:s.find (lD p m) with
 | none=>
  exact sJ
 | some x=>
  exact sJ
def q87(h:cC w b s tm F)(m:Mp)(bm:Nat)(Rm:aP 72 w bm (mc m)):Calls prog 80 #[V (some ⟨b,0,none⟩),.func (.func 96) #[] #[V (some ⟨bm,0,none⟩)]] w fun e w'=>e=.returned (.bool (s.find (pq m)).isSome)/\Below w.heap.size w w':=by
 have CF:=q4m h m bm Rm
 cases hf:s.find (pq m) with
 | none=>
  exact sJ
 | some x=>
  exact sJ
def qzf(w:af):(zeroValue 100).run prog w=.ok (.agg (ec WW)) w:=by kernel_rfl
theorem q8x(x y z u:Int)(f:Bool)(w:af):(Instr.build 100 #[(0,I Z x),(1,I Z y),(2,I Z z),(3,I Z u),(4,.bool f)]).run prog w=.ok (.agg (ec ⟨x,y,z,u,f⟩)) w:=by kernel_rfl
def qz5(p q r s t:aU)(ho:o.op=.build 100 #[(0,p),(1,q),(2,r),(3,s),(4,t)])(hw:Region.wanted o (yielded ops a.tmps)=true)(x y z u:Int)(f:Bool)(h1:a.eval p=I Z x)(h2:a.eval q=I Z y)(h3:a.eval r=I Z z)(h4:a.eval s=I Z u)(h5:a.eval t=.bool f):YieldsIf prog ops S o (.agg (ec ⟨x,y,z,u,f⟩)) a:=
 .inl ⟨hw,fun w _=>by unfold bG;simp only[ho,dx,aB,aI,h1,h2,h3,h4,h5,bB,q8x,Result.andThen_ok,bH]⟩
def qtn(h:cC w b s tm F)(m:Mp)(free:Bool)(hq:1024<=m.2.2.2.2/\m.2.2.2.2<1072):Calls prog 44 #[V (some ⟨b,0,none⟩),.agg (mc m),.bool free] w fun e w'=>e=.returned (.agg (ec (oF s.now m free)))/\Below w.heap.size w w':=by
 have B:=Bd.start w;(have CB:=fun w=>qs4 m.2.2.2.2 w)
 unfold uX at CB
 rw[aZ hq] at CB
 clear hq
 go_enter func44,ntmps44
 go_upto_region 2 with(first|(refine gB 72 1 ?_;refine Om ?_;intro b4 w9 l9 R9 h9;replace B:=B.alloc l9 R9 h9;clear R9 h9 l9)|(refine gA 100 ?_;refine ax 6 100 qzf ?_;intro b6 w9 l9 R9 h9;replace B:=B.alloc l9 R9 h9;clear R9 h9 l9)|(refine gL 3 11 ?_;refine fx (B.row 1 rfl) (m.2.2.2.2) ?_)|(go_at_call 98;go_fit (CB _);refine gy ?_))
 have kS:=B.row 1 rfl
 refine RD (fun W=>aP 72 W b4 (mc m)) kS (fun _=>?_)
 (refine tq 0 (V (some ⟨b,0,none⟩)) rfl kS (tq 2 (V (some ⟨b4,1,none⟩)) rfl kS (tk 3 (I Z m.2.1) rfl (Or.inl ⟨by kernel_rfl,by intro w hS;have hc:=(hS.cell 1).trans (show(mc m)[1]?=some (I Z m.2.1) from rfl);go_simp⟩) kS ?_)));simp only[ZZ];(refine tq 4 (V (some ⟨b4,3,none⟩)) rfl kS (tk 5 (I Z m.2.2.2.1) rfl (Or.inl ⟨by kernel_rfl,by intro w hS;have hc:=(hS.cell 3).trans (show(mc m)[3]?=some (I Z m.2.2.2.1) from rfl);go_simp⟩) kS (tq 6 (I Z ((m.2.2.2.2-1024)/8)) rfl kS ?_)));simp only[ZZ];refine tq 7 (.bool free) rfl kS ?_;refine E2 ?_
 refine AC (fun K hK=>?_) AZ
 go_simp
 go_at_call 9;(refine(Hu (h.below B.drew.base)).mono ?_);refine Ps ?_
 go_wp2_with fail
 refine hK.out _ _ kS (fun _=>?_)
 clear hK K;refine tk 8 (.agg (ec (oF s.now m free))) rfl (qz5 (.tmp 18) (.tmp 20) (.tmp 22) (.tmp 23) (.tmp 24) rfl kr s.now m.2.1 m.2.2.2.1 ((m.2.2.2.2-1024)/8) free kr kr kr kr kr) kS ?_;simp only[ZZ];refine AR [9] ?_
 refine AP (fun K hK=>?_) AZ
 refine sy (ec (oF s.now m free)) (B.row 0 rfl) ?_;intro w9 R9 t9;(replace t9:=qap t9);replace B:=B.turn 0 rfl R9 t9;clear R9 t9;replace kS:=B.row 1 rfl
 refine hh ?_
 clear hK K;refine AN ?_;clear kS
 go_wp2_with fail
 first|(refine bodyPost_ret (mW (p:=6) rfl _ _ _ _ rfl (B.row 0 rfl) _ underlying100 rfl (zG _)) rfl ⟨rfl,B.base⟩) 
end Go.Proofs.YtnkpgdejagglaaaGreatDoor
