/-
  Of what a law stands on.
-/
import Derived.Test.YtnkpgdejagglaaaGreatDoorZyn11p
set_option linter.all false
namespace Go.Proofs.YtnkpgdejagglaaaGreatDoor
open _root_.Go renaming Calls->az,Value->ag,World->af
open _root_.Go.RowKit renaming Below->aq,Hid->aK,wrap64->bK
open _root_.Go.Value renaming int->bO
open _root_.List renaming flatMap_append->nD,getElem?_cons_succ->dO,getElem?_cons_zero->dN,getElem?_eq_getElem->j3,getElem?_eq_some_iff->aJ,getElem?_toArray->ig,length_drop->kW,length_map->iV,length_take->eD,map_cons->aB,map_nil->aI,nil_append->jh,range->aA,setIfInBounds_toArray->aW,set_cons_succ->aR,set_cons_zero->aQ,take->nr,take_length->bn
open _root_.List.cons renaming injEq->aO
open _root_.List.range renaming loop->aF
open _root_.Nat renaming le_refl->au,le_trans->aw,lt_of_lt_of_le->bi,min_eq_left->mD,mul_one->mE,zero_add->bX,zero_le->bZ
open _root_.Option renaming bind_some->j4
open Go.Value renaming int → I,pointer → V
open Go.IntKind renaming i64 → Z
open _root_.Go.Proofs.Tryz Go.ChangeShapes Go.WideShapes Go.ChangeAt Go.RowKit Go.Maps
set_option maxHeartbeats 16000000
set_option maxRecDepth 100000
variable {p:Prop}{G:Nat->Prop}{W w w0 w1:World}{b b' c9 i n:Nat}{s:Nt}{E F Iq T:Sl}{es:List Ev}{Q:Exit->Act->World->Prop}{m:Mp}{x:Nat×Fl}{v:Value}{L:List Cp}{loose:Bool}
section
variable (G:Nat->Prop) (w0:World) (b c4:Nat) (s:Nt) (T F Iq E:Sl) (es:List Ev)
end
section
variable (G:Nat->Prop) (w0:World) (b c4 c9:Nat) (s:Nt) (T F Iq E:Sl) (es:List Ev) (m:Mp)
end
section
variable (G:Nat->Prop) (w0:World) (b c4 c9:Nat) (s:Nt) (F Iq E:Sl) (T:Sl) (es:List Ev) (m:Mp) (gv:Bool) (f' h':Nat->Int)
end
section
variable (w:World) (f:Nat->Int) (g:Nat->Bool) (h:Nat->Int) (sl:Value) (ms:List Mp) (m:Mp) (kb:Int) (c2 c3 c4 c7:Nat)
end
section
variable {w:World} {f:Nat->Int} {g:Nat->Bool} {h:Nat->Int} {sl:Value} {ms:List Mp} {m:Mp} {kb:Int} {c2 c3 c4 c7:Nat}
end
section
variable {ops:Array Oper} {rest:List Oper} {o:Oper} {a:Act} {w:World} {Q:Exit->Act->World->Prop} {x y:Operand}
end
section
variable {ops:Array Oper} {Q:Exit->Act->World->Prop} {R:List Cp} {lt:List Nat} {n:Nat} {oi:Oper} {l:Array Bool} {a:Act} {w:World} {x y:Operand} {t e:TypeId} {g f m cap k:Nat} {ys xs:List Value}
def Ta(O:w.ownsRow 0 e m (.slice (some ⟨g,0,none⟩) k cap) k xs)(hl:(xs.drop f).take ys.length=ys):w.rangeAt g f ys:=by
 obtain⟨h0,hh⟩:=O
 rcases hh with⟨q,_⟩|⟨g',cap',cur,hv,_,hcu,h1,h2,h3,h4⟩
 .cases q
 obtain⟨rfl,rfl⟩:g=g'/\cap=cap':=by injection hv with p q r;injection p with p;injection p with p;exact⟨p,r⟩
 have R:aP e w g cur:=hcu;intro j u hu;rw[R.cell]
 rw[←My h4 hl,List.getElem?_take] at hu
 split at hu
 .rw[List.getElem?_drop] at hu;simpa using hu
 .cases hu
end
def qgH(k:Fl):(fc k).toList.length=10:=rfl
def JS(w:af)(v u:ag)(ks:List Fl)(q:Nat)(f:Nat->ag)(W:af):Prop:=∃j:Nat,q=ks.length-j/\j<=ks.length/\[f 0,f 1,f 12,f 13]=[v,u,I Z (ks.length:Int),I Z (j:Int)]/\aq w.heap.size w W
def qgI{a1 a2:Option Addr}{c1 c2:Nat}{ks:List Fl}(hn:n=ks.length)(hl:ks.length<=1000)(h1:sA w (.slice a1 n c1) ks)(h2:sA w (.slice a2 n c2) ks)(hx:∀g W,JS w (.slice a1 n c1) (.slice a2 n c2) ks 0 g W->Q (.exit 0) (cJ 26 g) W)(q:Nat)(f:Nat->ag)(W:af)(h:JS w (.slice a1 n c1) (.slice a2 n c2) ks q f W):
  (uh f12 0).wp prog (Exit.then (ri 26 (JS w (.slice a1 n c1) (.slice a2 n c2) ks) q) Q) (cJ 26 f) W:=by
 subst hn
 obtain⟨j,hk,hj,hS,hB⟩:=h
 simp only[aO,and_true] at hS
 obtain⟨f0,f1,f12,f13⟩:=hS
 conv=>arg 2;whnf
 simp only[cJ,aA,aF,aB,aI,f0,f1,f12,f13]
 clear f0 f1 f12 f13;have HX:=ar hx;have HK:=ar hk;clear hx hk
 obtain⟨-,g1⟩:_/\(0<ks.length->∃g,a1=some ⟨g,0,none⟩):=n4 (F:=⟨a1,ks.length,c1⟩) h1
 obtain⟨-,g2⟩:_/\(0<ks.length->∃g,a2=some ⟨g,0,none⟩):=n4 (F:=⟨a2,ks.length,c2⟩) h2
 by_cases hlt:j<ks.length
 .obtain⟨g,rfl⟩:=g1 om
  obtain⟨g',rfl⟩:=g2 om
  obtain⟨x,hx⟩:∃x,ks[j]?=some x:=⟨_,j3 hlt⟩
  (have HE:aK (_=(fc x).toList):=ar (ug (fun k:Fl=>(fc k).toList) 10 qgH _ _ _ hx));(have sk:=fun w=>Hn g ks.length c1 j hlt w);(have qfM:=fun w=>Hn g' ks.length c2 j hlt w);(have kQ:(j:Int)<(ks.length:Int):=by omega);have fU:=oQ (p:=j) om;have fR:aK _:=hlt;have HB:aK _:=hB;have H1:=ar h1;have H2:=ar h2;clear hj hl g1 g2 hx hlt h1 h2 hB
  go_upto_region 6 with fail
  refine BF [cL 75 10 (.slice (some ⟨g,0,none⟩) ks.length c1) ks.length (ks.flatMap fun k=>(fc k).toList),cL 75 10 (.slice (some ⟨g',0,none⟩) ks.length c2) ks.length (ks.flatMap fun k=>(fc k).toList)] [] ⟨H1.out.below HB.out.drew,H2.out.below HB.out.drew,trivial⟩ ?_
  intro A;refine er [0,1,2] ?_
  refine Ph 3 (fc x) (fun w h=>Ta (h.at 0 rfl) HE.out) ?_
  refine er [4,5,6] ?_
  refine Ph 7 (fc x) (fun w h=>Ta (h.at 1 rfl) HE.out) ?_
  refine mi ?_;refine dTn 8 eqGuardType75 (q7u x) ?_;refine mi ?_;refine fM ?_
  go_wp2
  simp only[fU]
  exact je (ks.length-(j+1)) (by have:=HK.out;have:=fR.out;omega) ⟨j+1,rfl,fR.out,by kernel_rfl,HB.out.drew⟩
 ·(have kQ:¬(j:Int)<(ks.length:Int):=by omega)
  obtain rfl:j=ks.length:=by omega
  clear hlt hj hl g1 g2 h1 h2
  go_wp2
  exact rj HX.out ⟨ks.length,by omega,au _,by kernel_rfl,hB⟩
def qgJ{u:ag}{ks:List Fl}(hl:ks.length<=1000)(h1:sA w v ks)(h2:sA w u ks):az prog 12 #[v,u] w fun e w'=>e=.returned (.bool true)/\aq w.heap.size w w':=by
 obtain⟨a1,c1,rfl⟩:=wO h1
 obtain⟨a2,c2,rfl⟩:=wO h2
 (have HR:=ar (fun Q=>qgI (Q:=Q) rfl hl h1 h2));refine gP ?_;intro hB;clear h1 h2 hl;(have hne:((ks.length:Int) != (ks.length:Int))=false:=by simp)
 go_enter func12,ntmps12
 go_wp2
 rename_i K hK
 refine lG (n:=26) (JS w (.slice a1 ks.length c1) (.slice a2 ks.length c2) ks) ks.length (fun f hJ=>lF _ hJ (HR.out _ ?_)) ⟨0,rfl,bZ _,by kernel_rfl,hB⟩
 clear hB
 rintro g W ⟨j,-,-,-,hB⟩
 show K (cJ 26 g) W
 refine hK _ _ ?_
 simp only[cJ,aA,aF,aB,aI]
 go_wp2
 go_ret
 exact⟨rfl,hB⟩
section
variable {w0 W W':World} {b b':Nat} {s s' s1:Nt} {F F1:Nat->Prop} {T F' jG T2 F2 I2:Sl}
def vO.qgK(h:vO w0 W b s F b' s' T F' jG)(hk:Dz (lc (bD b' s' T F' jG)) W W' (bD b' s1 T2 F2 I2)):vO w0 W' b s F b' s1 T2 F2 I2:=
 ⟨h.nat.keep hk.gr h.ap,fun c hc=>bi (h.bd c hc) hk.gr.size,h.new,h.doc.call 0 hk,fun c hc ⟨x,hx,hf⟩=>((hk.ok x hx).2 c hf).elim (h.ap c hc) fun q=>by have:=h.bd c hc;omega⟩
end
section
variable (w:World) (b b':Nat) (loose:Bool) (sl:Value) (es:List Ac)
def JP(q:Nat)(f:Nat->ag)(W:af):Prop:=∃(j:Nat) (F:Nat->Prop) (T F' jG:Sl),q=min es.length 100-j/\j<=min es.length 100/\[f 1,f 5,f 6,f 7]=[sl,V (some ⟨b,0,none⟩),V (some ⟨b',0,none⟩),I Z (j:Int)]/\vO w W b ((gu loose).runs (es.take j)) F b' ((gu loose).runs (es.take j)) T F' jG
end
def B7(h:p:=by
 intro A;refine er [20,21] ?_;refine fM ?_
 go_wp2
 (try simp only[fU])
 exact je (min es.length 100-(j+1)) (by have:=HK.out;have:=fR.out;omega) ⟨j+1,_,T2,F2,I2,rfl,fR.out,by kernel_rfl,by rw[HS.out];exact N⟩):p:=h
def qgL{a0:Option Addr}{cap:Nat}{es:List Ac}(hn:n=es.length)(hA:eX w (.slice a0 n cap) es)(iZ:∀k∈es,k.ok)(hT:jv w)(hx:∀g W,JP w b b' loose (.slice a0 n cap) es 0 g W->Q (.exit 0) (cJ 62 g) W)(q:Nat)(f:Nat->ag)(W:af)(h:JP w b b' loose (.slice a0 n cap) es q f W):
  (uh f3 0).wp prog (Exit.then (ri 62 (JP w b b' loose (.slice a0 n cap) es) q) Q) (cJ 62 f) W:=by
 obtain⟨j,F,T,F',jG,hk,hj,hS,N⟩:=h
 simp only[aO,and_true] at hS
 obtain⟨f1,f5,f6,f7⟩:=hS
 conv=>arg 2;whnf
 simp only[cJ,aA,aF,aB,aI,f1,f5,f6,f7]
 clear f1 f5 f6 f7;have HX:=ar hx;have HK:=ar hk;have HA:=ar hA;have HNn:=ar hn;clear hx hk
 by_cases hlt:j<min es.length 100
 ·(have iu:j<es.length:=by omega)
  obtain⟨x,he⟩:∃x,es[j]=x:=⟨_,rfl⟩
  have Tc:x.ok:=iZ x (he▸List.getElem_mem iu);(have I1:=fun w2=>hA.index j iu w2);(have g1:(j:Int)<(n:Int):=by omega);(have g2:(j:Int)<100:=by omega);have fU:=oQ (p:=j) om;have fR:aK _:=hlt;have HE:aK (∀w,eX w (.slice a0 n cap) es->w.rangeAt (eb (.slice a0 n cap)) (eo (.slice a0 n cap)+4*j) (ac x).toList):=ar (fun w h=>h.at j iu he)
  have hI:kh ((gu loose).runs (es.take j)) j:=by
   have:=(kh.new loose).runs (es.take j) (by rw[eD];omega)
   rwa [bX,eD,mD om] at this
  have HS:aK ((gu loose).runs (es.take (j+1))=(((gu loose).runs (es.take j)).act x).2):=ar (by rw[List.take_succ_eq_append_getElem iu,qih,he]);have HI:=ar hI;have Wi:=ar Tc;have Td:=ar hT;have Wj:aK (j<=300):=ar om;clear hj hlt hI Tc iZ hT hn iu he
  generalize(gu loose).runs (es.take j)=s at *
  go_upto_region 7 with fail
  refine BF [cW fun W=>eX W (.slice a0 n cap) es] [] ⟨HA.out.below N.doc.iW.drew,trivial⟩ ?_
  replace N:=N.below (Below.refl _ _).drew;intro A;refine er [0,1,2,3] ?_
  refine Ph 4 (ac x) (fun w h=>HE.out w (h.at 0 rfl)) ?_
  refine er [6,7,8,9] ?_
  refine Ph 10 (ac x) (fun w h=>HE.out w (h.at 0 rfl)) ?_
  refine mi ?_;refine fQ 5 ?_;refine kc (qos N.nat (Td.out.below N.doc.iW) (N.zero Td.out) (HI.out.ok Wj.out) x Wi.out) ?_;rintro e W ⟨rfl,F1,hn1,hg1,hF1⟩;replace N:=N.prog hn1 hg1 hF1;clear hn1 hg1 hF1 A
  refine⟨_,rfl,nJ ?_ ⟨HA.out.below N.doc.iW,trivial⟩⟩
  intro A;refine mi ?_;refine fQ 11 ?_;refine kc (S8 HI.out Wj.out (N.doc.only 0) x Wi.out) ?_;rintro e W ⟨rfl,T2,F2,I2,hk⟩;replace N:=N.qgK hk;clear hk A
  refine⟨_,rfl,nJ ?_ ⟨HA.out.below N.doc.iW,trivial⟩⟩
  intro A;refine mi ?_;refine dTn 12 eqGuardType29 (Tb _) ?_;refine er [13,14,16,17,18] ?_
  refine qw 15 19 (nx ?_) (nx ?_)
  .refine kc (Hu N.nat) ?_
   rintro e W2 ⟨rfl,rfl⟩
   refine⟨_,rfl,nJ ?_ A⟩
   intro A;refine mi ?_;refine fQ 19 ?_
   refine kl (N.doc.row 0 rfl) rfl rfl (FD _ _ _ _) kr (nJ ?_ A)
   exact B7
  .refine kl (N.doc.row 0 rfl) rfl rfl (FD _ _ _ _) kr (nJ ?_ A)
   intro A;refine mi ?_;refine fQ 15 ?_;refine kc (Hu N.nat) ?_
   rintro e W2 ⟨rfl,rfl⟩
   refine⟨_,rfl,nJ ?_ A⟩
   exact B7
 ·(have Te:j=min es.length 100:=by omega);(have hg:¬(j:Int)<(n:Int)\/(j:Int)<(n:Int)/\¬(j:Int)<100:=by omega);have HJ:=ar Te;clear hlt hj iZ hT hA hn Te
  rcases hg with g1|⟨g1,g2⟩
  all_goals
   go_wp2
   exact rj HX.out ⟨j,F,T,F',jG,by have:=HJ.out;omega,by have:=HJ.out;omega,by kernel_rfl,N⟩
theorem qgM(fs:List (Nat×Fl)):(fs.map (·.2)).flatMap (fun k=>(fc k).toList)=iy fs:=by
 unfold iy;rw[List.flatMap_map]
def qj.fls{base:Nat}{ks:List Fl}(h:qj W base v ks):sA W v ks:=
 ⟨h.1,h.2.imp id fun⟨g,cap,cur,q1,q2,q3⟩=>⟨g,cap,cur,q1,bZ _,q3⟩⟩
def qF(loose:Bool)(sl:ag)(es:List Ac)(w:af)(hA:eX w sl es)(iZ:∀k∈es,k.ok)(hT:jv w):az prog 3 #[.bool loose,sl] w fun e w'=>e=.returned (.bool true)/\aq w.heap.size w w':=by
 obtain⟨a0,cap,rfl⟩:=hA.slice
 (have HR:=ar (fun b b' Q=>qgL (Q:=Q) (b:=b) (b':=b') (loose:=loose) rfl hA iZ hT));(have CN:=fun w=>qu0 loose w);(have CR:=fun w=>S9 loose w)
 have HI:aK (∀j,j<=min es.length 100->kh ((gu loose).runs (es.take j)) j):=ar (fun j hj=>by
  have:=(kh.new loose).runs (es.take j) (by rw[eD];omega)
  rwa [bX,eD,mD om] at this)
 (have hq:=fun b w=>Wk b w);clear hA iZ hT
 go_enter func3,ntmps3
 go_wp2_with (first|(go_at_call 5;go_fit (CN _);rintro e w1 ⟨b,rfl,hb,hN,hB⟩)|(go_at_call 6;go_fit (CR _);rintro e w2 ⟨b',rfl,D⟩;have N:=vO.start hN hb hB D;clear hN hb hB D))
 rename_i K hK
 refine lG (n:=62) (JP w b b' loose (.slice a0 es.length cap) es) (min es.length 100) (fun f hJ=>lF _ hJ (HR.out _ _ _ ?_)) ⟨0,_,_,_,_,rfl,bZ _,by kernel_rfl,by rw[List.take_zero];exact N⟩
 clear N;rintro g W ⟨j,F,T,F',jG,hk,hj,hS,N⟩
 show K (cJ 62 g) W
 refine hK _ _ ?_;clear hK HR CN CR
 simp only[aO,and_true] at hS
 obtain⟨f1,f5,f6,f7⟩:=hS
 simp only[cJ,aA,aF,aB,aI,f1,f5,f6,f7]
 clear f1 f5 f6 f7;have hI:=HI.out j hj;clear HI hk hj
 generalize(gu loose).runs (es.take j)=s at *
 have HI:=ar hI;clear hI;obtain⟨fa,fn,oG⟩:=F';obtain⟨ta,tn,tcp⟩:=T
 go_upto_region 9 with fail
 replace N:=N.below (Below.refl _ _).drew;refine BF [cR 46 b' (i5 s ⟨ta,tn,tcp⟩ ⟨fa,fn,oG⟩ jG)] [] ⟨N.doc.at 0 rfl,trivial⟩ ?_;intro A;refine er [0,2,3,4,5] ?_;refine fQ 1 ?_;refine kc (qfa N.nat (by have:=HI.out.ci.good.len;omega)) ?_
 rintro e W ⟨sa,c,rfl,hM,qgN,-,hb⟩
 replace N:=N.below hb;clear hb A
 refine⟨_,rfl,nJ ?_ ⟨N.doc.at 0 rfl,trivial⟩⟩
 intro A;refine mi ?_;refine fQ 6 ?_;refine kc (qgO s.f s.g s.h _ _ s.ms (qpn HI.out.ci.good.iP) HI.out.ci.good.wf _ hM (N.doc.at 3 rfl).1) ?_;rintro e W ⟨rfl,hb⟩;replace N:=N.below hb;clear hb A hM qgN
 refine⟨_,rfl,nJ ?_ ⟨N.doc.at 0 rfl,trivial⟩⟩
 intro A;refine er [7,8,10,11,12,13] ?_;refine fQ 9 ?_;refine kc (qhb N.nat) ?_
 rintro e W ⟨v,rfl,hO,hb⟩
 replace N:=N.below hb;clear hb A
 refine⟨_,rfl,nJ ?_ ⟨N.doc.at 0 rfl,trivial⟩⟩
 intro A;refine mi ?_;refine fQ 14 ?_;refine kc (qgJ (u:=.slice fa fn oG) (by rw[iV];have:=HI.out.ci.few;omega) hO.fls (by unfold sA;rw[qgM,iV];exact N.doc.at 1 rfl)) ?_;rintro e W ⟨rfl,hb⟩;replace N:=N.below hb;clear hb A hO
 refine⟨_,rfl,nJ ?_ ⟨N.doc.at 0 rfl,trivial⟩⟩
 intro A;refine er [15,16] ?_;refine fM ?_
 go_wp2
 go_ret
 exact⟨rfl,N.doc.iW⟩
end Go.Proofs.YtnkpgdejagglaaaGreatDoor
