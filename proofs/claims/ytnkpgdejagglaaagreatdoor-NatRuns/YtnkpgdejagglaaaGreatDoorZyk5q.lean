/-
  Of what a law stands on.
-/
import Derived.Test.YtnkpgdejagglaaaGreatDoorZyo1q
set_option linter.all false
namespace Go.Proofs.YtnkpgdejagglaaaGreatDoor
open _root_.ByteArray renaming empty->ak
open _root_.Go renaming Calls->az,TypeId->bt,Value->ag,World->af
open _root_.Go.Proofs.Tryz renaming prog->ah
open _root_.List renaming eq_nil_of_length_eq_zero->iI,getElem?_eq_some_iff->aJ,length_take->eD,map_cons->aB,map_nil->aI,mem_map->bQ,range->aA
open Go.Value renaming int → I,pointer → V
open Go.IntKind renaming i64 → Z
open _root_.Go.Proofs.Tryz Go.ChangeShapes Go.WideShapes Go.ChangeAt Go.RowKit
set_option maxHeartbeats 16000000
set_option maxRecDepth 100000
variable {w:World}{base:Nat}{es:List Ac}{Q:Exit->Act->World->Prop}{k:Ac}
section
open Go.Maps
def Tf(s:Nt):∀(es:List Ac) (j:Nat) (x:Ac),es[j]?=some x->(s.il es)[j]?=some ((s.runs (es.take j)).act x).1
 | [],_,_,h=>by cases h
 | a::r,0,x,h=>by
  obtain rfl:a=x:=by simpa using h
  unfold Nt.il;rfl
 | a::r,j+1,x,h=>by
  unfold Nt.il
  rw[List.getElem?_cons_succ,List.take_succ_cons]
  exact Tf (s.act a).2 r j x (by simpa using h)
section
variable (w:World) (b':Nat) (loose:Bool) (sl v:Value) (es:List Ac)
def Wl(q:Nat)(f:Nat->ag)(W:af):Prop:=∃(j:Nat) (T F' jG:Sl),q=es.length-j/\j<=es.length/\[f 1,f 5,f 9,f 10]=[sl,v,V (some ⟨b',0,none⟩),I Z (j:Int)]/\Dz (fun _=>False) w W (bD b' ((gu loose).runs (es.take j)) T F' jG)
end
def qgP{b':Nat}{loose:Bool}{a0 a1:Option Addr}{n cap c1:Nat}(hn:n=es.length)(hl:es.length<=300)(hA:eX w (.slice a0 n cap) es)(hR:nK w base (.slice a1 n c1) ((gu loose).il es))(iZ:∀k∈es,k.ok)(hx:∀g W,Wl w b' loose (.slice a0 n cap) (.slice a1 n c1) es 0 g W->Q (.exit 0) (cJ 73 g) W)(q:Nat)(f:Nat->ag)(W:af)(h:Wl w b' loose (.slice a0 n cap) (.slice a1 n c1) es q f W):
  (uh f4 0).wp ah (Exit.then (ri 73 (Wl w b' loose (.slice a0 n cap) (.slice a1 n c1) es) q) Q) (cJ 73 f) W:=by
 obtain⟨j,T,F',jG,hk,hj,hS,B⟩:=h
 simp only[List.cons.injEq,and_true] at hS
 obtain⟨f1,f5,f9,f10⟩:=hS
 conv=>arg 2;whnf
 simp only[cJ,aA,List.range.loop,aB,aI,f1,f5,f9,f10]
 clear f1 f5 f9 f10;have HX:=ar hx;have HK:=ar hk;have HA:=ar hA;have HRp:=ar hR;clear hx hk
 by_cases hlt:j<es.length
 .obtain⟨x,he⟩:∃x,es[j]=x:=⟨_,rfl⟩
  have Tc:x.ok:=iZ x (he▸List.getElem_mem hlt);(have he':es[j]?=some x:=by rw[List.getElem?_eq_getElem hlt,he]);have hpl:=Tf (gu loose) es j x he';obtain⟨jF,EH⟩:=aJ.1 hpl;(have I1:=fun w2=>hA.index j hlt w2);(have I2:=fun w2=>hR.index j jF w2);(have g1:(j:Int)<(n:Int):=by omega);have fU:=oQ (p:=j) om;have fR:Hid _:=hlt;have HE:Hid (∀w,eX w (.slice a0 n cap) es->w.rangeAt (eb (.slice a0 n cap)) (eo (.slice a0 n cap)+4*j) (ac x).toList):=ar (fun w h=>h.at j hlt he);have HP:Hid (∀w,nK w base (.slice a1 n c1) ((gu loose).il es)->w.rangeAt (Wm (.slice a1 n c1)) (4*j) (((gu loose).runs (es.take j)).act x).1.cells.toList):=ar (fun w h=>h.at j jF EH)
  have hI:kh ((gu loose).runs (es.take j)) j:=by
   have:=(kh.new loose).runs (es.take j) (by rw[eD];omega)
   rwa [Nat.zero_add,eD,Nat.min_eq_left om] at this
  have HS:Hid ((gu loose).runs (es.take (j+1))=(((gu loose).runs (es.take j)).act x).2):=ar (by rw[List.take_succ_eq_append_getElem hlt,qih,he]);have HI:=ar hI;have Wi:=ar Tc;have Wj:Hid (j<=300):=ar om;clear hj hlt hI Tc iZ hn he he' hpl jF EH hl
  generalize(gu loose).runs (es.take j)=s at *
  go_upto_region 11 with fail
  replace B:=B.drew
  refine BF [cW fun W=>eX W (.slice a0 n cap) es,cW fun W=>nK W base (.slice a1 n c1) ((gu loose).il es)] [] ⟨HA.out.below B.iW,HRp.out.below B.iW,trivial⟩ ?_
  intro A;refine er [0,1,2] ?_
  refine Ph 3 (s.act x).1.cells (fun w h=>HP.out w (h.at 1 rfl)) ?_
  refine er [4,5,6,7] ?_
  refine Ph 8 (ac x) (fun w h=>HE.out w (h.at 0 rfl)) ?_
  refine mi ?_;refine fQ 9 ?_;refine kc (S8 HI.out Wj.out (B.only 0) x Wi.out) ?_;rintro e W ⟨rfl,T2,F2,I2,hk⟩;replace B:=B.call 0 hk;clear hk A
  refine⟨_,rfl,nJ ?_ ⟨HA.out.below B.iW,HRp.out.below B.iW,trivial⟩⟩
  intro A;refine mi ?_;refine dTn 10 eqGuardType29 (Tb _) ?_;refine mi ?_;refine fM ?_
  go_wp2
  (try simp only[fU])
  exact je (es.length-(j+1)) (by have:=HK.out;have:=fR.out;omega) ⟨j+1,T2,F2,I2,rfl,fR.out,by kernel_rfl,by rw[HS.out];exact B⟩
 ·(have Te:j=es.length:=by omega);(have g1:¬(j:Int)<(n:Int):=by omega);have HJ:=ar Te;clear hlt hj iZ hA hR hn Te hl
  go_wp2
  exact rj HX.out ⟨j,T,F',jG,by have:=HJ.out;omega,by have:=HJ.out;omega,by kernel_rfl,B⟩
def qgQ{sl:ag}(hM:eX w sl es)(h0:0<es.length)(hp:es.length<=3518437208883)(ty:bt):
  ∃v' w',(Builtin.append_ #[22,22] ty #[.slice none 0 0,sl]).run ah w=.ok v' w'/\w'.ownsRow w.heap.size 32 4 v' es.length (es.flatMap rk)/\Below w.heap.size w w':=by
 obtain⟨i0,hi,hz0,hz1,hz2⟩:=info_parts qgR;obtain⟨a,cap,e,k1,k2,k3⟩:=hM;have e1:=k1 h0
 have hc:∀j u,(es.flatMap rk)[j]?=some u->w.cell? ⟨eb sl,eo sl+j,none⟩=some u:=by
  intro j u hu;(have hj:j<es.length*4:=by have:=(aJ.1 hu).1;rw[Tg] at this;exact this);(have e1:j=4*(j/4)+j%4:=by omega);(have hq:j/4<es.length:=by omega)
  rw[e1,Th es (j/4) (j%4) hq om] at hu
  have:=k2 (j/4) hq (j%4) u hu
  rw[show eo sl+4*(j/4)+j%4=eo sl+j by omega] at this
  exact this
 generalize eb sl=B at *
 generalize eo sl=O at *
 subst e1
 subst e
 obtain⟨v',w',h1,h2,h3,_,h5⟩:=run_append_own_at (P:=ah) w w.heap.size 22 ty 32 i0 (.agg (ac ⟨0,0,0,ak⟩)) 4 40 underlying22 hi hz0 hz1 hz2 rfl (by decide) (.slice none 0 0) 0 [] (World.ownsRow_nil w w.heap.size 32 4) ⟨B,O,none⟩ es.length cap (es.flatMap rk) (Tg es)
  (fun j u hu=>by rw[Addr.add_lit];exact hc j u hu) (qgS es) (by unfold maxLen;omega) om (Nat.le_refl _)
 refine⟨v',w',h1,?_,⟨h3.os,h3.tape,h3.output,h3.size,fun k hk=>h3.block k hk (fun e=>by cases e)⟩⟩
 simpa using h2
def qgT{v:ag}(h:w.ownsRow base 32 4 v es.length (es.flatMap rk))(hp:es.length<=3518437208883):eX w v es:=by
 rcases h.2 with⟨e,n0⟩|⟨b,cap,cur,hv,fj,hh,y7,hcm,hcs,ht⟩
 .have e2:es=[]:=iI n0
  subst e2
  exact⟨none,0,e,fun h=>by simp at h,fun j hj=>by simp at hj,by simp⟩
 .subst hv
  refine⟨_,cap,rfl,fun _=>rfl,fun j hj i u hu=>?_,by omega⟩
  (have hi2:i<4:=by have:=(aJ.1 hu).1;simpa[rk] using this);have e:=(Th es j i hj hi2).trans hu
  rw[←ht,List.getElem?_take_of_lt om] at e
  show w.cell? ⟨b,0+4*j+i,none⟩=some u
  simp only[World.cell?,hh]
  simpa using e
def qgU(a:Option Addr)(cap:Nat)(ty:bt)(w:af):(Builtin.append_ #[22,22] ty #[.slice none 0 0,.slice a 0 cap]).run ah w=.ok (.slice none 0 0) w:=by
 (have hs:(sizeOf 32).run ah w=.ok 4 w:=by kernel_rfl)
 cases a<;>simp[go_sem,underlying22,hs]
def qgV{sl:ag}(hM:eX w sl es)(hp:es.length<=3518437208883)(ty:bt):
  ∃v' w',(Builtin.append_ #[22,22] ty #[.slice none 0 0,sl]).run ah w=.ok v' w'/\eX w' v' es/\Below w.heap.size w w':=by
 by_cases h0:0<es.length
 .obtain⟨v',w',h1,h2,h3⟩:=qgQ hM h0 hp ty
  exact⟨v',w',h1,qgT h2 hp,h3⟩
 .have e2:es=[]:=iI om
  subst e2
  obtain⟨a,cap,e,_⟩:=hM
  subst e
  exact⟨_,w,qgU a cap ty w,⟨none,0,rfl,fun h=>by simp at h,fun j hj=>by simp at hj,by simp⟩,Below.refl _ _⟩
def Ti{ops:Array Oper}{rest:List Oper}{o:Oper}{a:Act}(hgd:o.guard=none)(x:Operand)(ho:o.op=.call { callee:=.builtin .append,args:=#[.const (.slice none 0 0),x],argTypes:=#[22,22] }){sl:ag}(hM:eX w sl es)(hx:a.eval x=sl)(hp:es.length<=3518437208883)(hr:∀v' w',eX w' v' es->Below w.heap.size w w'->wpList ah ops Q rest (a.put o.dst v') w'):wpList ah ops Q (o::rest) a w:=
 wpList_plain hgd fun K hK=>by
  obtain⟨v',w',h1,h2,h3⟩:=qgV hM hp o.type;have hz:a.eval (.const (.slice none 0 0))=.slice none 0 0:=rfl
  unfold Oper.wp execOp
  simp only[ho,resolve,invoke,builtin,Sem.run_bind,Sem.run_pure,Result.andThen_ok,List.map_toArray,aB,aI,hz,hx,h1]
  exact hK _ _ (hr v' w' h2 h3)
theorem qgW(k:Ac)(w:af):(Instr.buildSlice 22 1 #[(0,.agg (ac k))]).run ah w=.ok (.slice (some ⟨w.heap.size,0,none⟩) 1 1) (w.alloc (.cells (ac k) 32)):=by
 obtain⟨a,b,c,d⟩:=k
 kernel_rfl
def qgX{b:Nat}(R:aP 32 w b (ac k)):eX w (.slice (some ⟨b,0,none⟩) 1 1) [k]:=by
 refine⟨some ⟨b,0,none⟩,1,rfl,fun _=>rfl,fun j hj i u hu=>?_,by simp⟩
 have:j=0:=by simpa using hj
 subst this
 show w.cell? ⟨b,0+4*0+i,none⟩=some u
 (rw[show 0+4*0+i=i by omega,R.cell]);rw[←Array.getElem?_toList]
 exact hu
def qgY:∀k∈[(⟨99,0,0,ak⟩:Ac)],k.ok:=fun k hk=>by
 obtain rfl:k=_:=by simpa using hk
 exact⟨rfl,rfl,rfl,by decide⟩
section
variable {ops:Array Oper} {rest:List Oper} {o:Oper} {a:Act} {w:World} {Q:Exit->Act->World->Prop} {x y:Operand}
def eAa{pz:Prop}(h:pz)(c:qQ (.call { callee:=.builtin .append,args:=#[y,x],argTypes:=#[22,22] }) pz:=by exact rz (by with_unfolding_none exact rfl) (by with_reducible exact rfl)):pz:=h
def eBa{pz:Prop}(h:pz)(c:qQ (.buildSlice 22 1 #[(0,x)]) pz:=by exact rz (by with_unfolding_none exact rfl) (by with_reducible exact rfl)):pz:=h
def dBa(hx:a.eval x=.agg (ac k))(hr:∀v w',eX w' v [k]->Below w.heap.size w w'->wpList prog ops Q rest (a.put o.dst v) w')(ho:o.op=.buildSlice 22 1 #[(0,x)]:=by exact rfl)(hgd:o.guard=none:=by exact rfl):wpList prog ops Q (o::rest) a w:=
 wpList_plain hgd fun K hK=>by
  have h':=hK _ _ (hr _ _ (qgX (aP.new 32 w (ac k))) ((Below.refl w.heap.size w).alloc (Nat.le_refl _) _))
  unfold Oper.wp execOp
  simp only[ho,List.map_toArray,List.map_nil,List.map_cons,hx,Sem.run_bind,qgW,Result.andThen_ok,Sem.run_pure]
  exact h'
end
def qgZ(loose:Bool)(a0:Option Addr)(n cap:Nat)(hn:300<n)(w:af):az ah 14 #[.bool loose,.slice a0 n cap] w fun e w'=>e=.returned (.tuple #[.slice none 0 0,I Z 6])/\w'=w:=by
 (have h1:(300:Int)<(n:Int):=by omega);clear hn
 go_enter func14,ntmps14
 go_wp2
 go_ret2
 exact⟨rfl,rfl⟩
def sB(loose:Bool)(sl:ag)(es:List Ac)(w:af)(hA:eX w sl es)(hle:es.length<=3518437208883)(iZ:∀k∈es,k.ok)(hT:jv w):az ah 4 #[.bool loose,sl] w fun e w'=>e=.returned (.bool true)/\Below w.heap.size w w':=by
 obtain⟨a0,cap,rfl⟩:=hA.slice
 have M6:=ar hle;have HA:=ar hA;(have CX:=fun w1 v (hB:Below w.heap.size w w1) (h1:eX w1 v [⟨99,0,0,ak⟩])=>Tj loose v [⟨99,0,0,ak⟩] w1 h1 qgY (hT.below hB) zm);refine gP ?_;intro hB
 by_cases h3:300<es.length
 ·(have GP:(300:Int)<(es.length:Int):=by omega);(have CF:=fun a c w=>qgZ loose a es.length c h3 w);clear h3 hA hle iZ hT
  go_enter func4,ntmps4
  go_wp2_with (first|(refine eAa ?_;refine Ti rfl (.tmp 13) rfl (HA.out.below hB) rfl M6.out ?_;intro v9 w9 xm df;replace hB:=hB.trans (df.mono hB.size);clear df;obtain⟨x9,y9,e9⟩:=xm.slice;subst e9;clear xm)|(refine eBa ?_;refine dBa (k:=⟨99,0,0,ak⟩) kr ?_;intro v9 w9 xm df;replace hB:=hB.trans (df.mono hB.size);clear df;obtain⟨x8,y8,e9⟩:=xm.slice;subst e9)|(go_at_call_of 14 (Value.slice x9 es.length y9);go_fit (CF _ _ _);rintro e w6 ⟨rfl,rfl⟩)|(go_at_call 14;refine(CX _ _ hB xm).mono ?_;clear xm;rintro e w6 ⟨u9,rfl,Tl,j6⟩;obtain⟨xa,ca,e9⟩:=Tl.slice;rw[FZ] at e9;subst e9;clear Tl;replace hB:=hB.trans (j6.mono hB.size);clear j6))
  go_ret
  exact⟨rfl,hB⟩
 ·(have GP:¬(300:Int)<(es.length:Int):=by omega);(have HCR:=ar (fun w1 v (hB:Below w.heap.size w w1) (h1:eX w1 v es)=>Tj loose v es w1 h1 iZ (hT.below hB) om));(have V0:=ar (fun(w1:af) base b' a1 c1 Q hA hR=>qgP (Q:=Q) (w:=w1) (b':=b') (base:=base) (loose:=loose) (a0:=a0) (a1:=a1) (n:=es.length) (cap:=cap) (c1:=c1) (es:=es) rfl om hA hR iZ));(have CN:=fun w=>S9 loose w);(have hne:((es.length:Int) != (es.length:Int))=false:=by simp);clear h3 hA hle iZ hT
  go_enter func4,ntmps4
  go_wp2_with (first|(refine eAa ?_;refine Ti rfl (.tmp 13) rfl (HA.out.below hB) rfl M6.out ?_;intro v9 w9 xm df;replace hB:=hB.trans (df.mono hB.size);clear df;obtain⟨x9,y9,e9⟩:=xm.slice;subst e9)|(refine eBa ?_;refine dBa (k:=⟨99,0,0,ak⟩) kr ?_;intro v9 w9 xm df;replace hO:=hO.below df;replace hB:=hB.trans (df.mono hB.size);clear df;obtain⟨x8,y8,e9⟩:=xm.slice;subst e9)|(go_at_call_of 14 (Value.slice x9 es.length y9);refine(HCR.out _ _ hB xm).mono ?_;clear xm;rintro e w6 ⟨u9,rfl,hO,j6⟩;obtain⟨xb,cb,e9⟩:=hO.slice;rw[FZ] at e9;subst e9;replace hB:=hB.trans (j6.mono hB.size);clear j6)|(go_at_call 14;refine(CX _ _ hB xm).mono ?_;clear xm;rintro e w6 ⟨u9,rfl,Tl,j6⟩;obtain⟨xa,ca,e9⟩:=Tl.slice;rw[FZ] at e9;subst e9;clear Tl;replace hO:=hO.below j6;replace hB:=hB.trans (j6.mono hB.size);clear j6)|(go_at_call 6;go_fit (CN _);rintro e w2 ⟨b',rfl,D⟩))
  rename_i K hK
  refine lG (n:=73) (Wl w6 b' loose (.slice a0 es.length cap) (.slice xb es.length cb) es) es.length (fun f hJ=>lF _ hJ (V0.out w6 _ b' xb cb _ (HA.out.below hB) hO ?_)) ⟨0,tC,tC,tC,rfl,Nat.zero_le _,by kernel_rfl,by rw[List.take_zero];exact D⟩
  rintro g W ⟨j,T,F',jG,-,-,-,B⟩
  show K (cJ 73 g) W
  refine hK _ _ ?_
  simp only[cJ,aA,List.range.loop,aB,aI]
  clear hK hO V0 HCR CX
  go_wp2
  go_ret
  exact⟨rfl,hB.trans (B.iW.mono hB.size)⟩
end
def XH(loose:Bool)(sl:ag)(es:List Ac)(w:af)(hS:M8 w sl es)(hT:jv w):az ah 4 #[.bool loose,sl] w fun e w'=>e=.returned (.bool true)/\Below w.heap.size w w':=sB loose sl es w hS.1.1 hS.1.2 hS.2 hT
end Go.Proofs.YtnkpgdejagglaaaGreatDoor
