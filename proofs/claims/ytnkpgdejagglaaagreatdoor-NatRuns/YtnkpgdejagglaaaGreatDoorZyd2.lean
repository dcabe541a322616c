/-
  Of what a law stands on.
-/
import Derived.Laws.MakeOwn
import Derived.Laws.AppendOwnNone
import Derived.Test.YtnkpgdejagglaaaGreatDoorZyd1
set_option linter.all false
namespace Go.Proofs.YtnkpgdejagglaaaGreatDoor
open _root_.Go renaming Calls->az,Operand->aU,TypeId->bt,Value->ag,World->af,bodyPost_ret->aL,execOp->bG,results->eQ,undef->gW,wpList->aM,wpList_load_mid->jB,wpList_plain->bP
open _root_.Go.Proofs.Tryz renaming prog->ah
open _root_.Go.RowKit renaming Below->aq,Hid->aK,intOf->cY,wrap64->bK
open _root_.Go.Sem renaming run_bind->bB,run_pure->bH
open _root_.List renaming drop_eq_getElem_cons->dJ,flatMap_cons->cB,length_append->aY,length_cons->bU,take_length->bn
open _root_.Nat renaming le_trans->aw,zero_add->bX
open Go.Value renaming int → I,pointer → V
open Go.IntKind renaming i64 → Z
open _root_.Go.Proofs.Tryz Go.ChangeShapes Go.WideShapes Go.ChangeAt Go.RowKit
set_option maxHeartbeats 16000000
set_option maxRecDepth 100000
variable {f h:Nat->Int}{ms:List Mp}{w w':World}{b base i j n size:Nat}{o:Oper}{v:Value}{ops:Array Oper}{rest:List Oper}{a:Act}{Q:Exit->Act->World->Prop}{e t:TypeId}{xs:List Value}{p:Int}{l:List Nat}{fn:Func}{x:Tmp}{g:Nat->Bool}
def q8o(ms:List Mp)(h:∀m∈ms,0<=m.2.1/\m.2.1<8):ms.length=bV ms 0+bV ms 1+bV ms 2+bV ms 3+bV ms 4+bV ms 5+bV ms 6+bV ms 7:=by
 induction ms with
 | nil=>simp[bV]
 | cons m r ih=>
  have hm:=h m zm
  have:=ih (fun o ho=>h o (by simp[ho]))
  have step:∀s:Int,bV (m::r) s=bV r s+if m.2.1=s then 1 else 0:=by
   intro s;unfold bV;by_cases e:m.2.1=s
   .simp[e]
   .simp[e]
  simp only[step,bU]
  rcases(show m.2.1=0\/m.2.1=1\/m.2.1=2\/m.2.1=3\/m.2.1=4\/m.2.1=5\/m.2.1=6\/m.2.1=7 by omega) with e|e|e|e|e|e|e|e<;>rw[e]<;>simp<;>omega
theorem gM.len(G:gM f h ms):ms.length<=96:=by
 have:=q8o ms (fun m hm=>(G.maps.1 m hm).2.1)
 have h0:bV ms 0<=12:=(G.few 0 om).2;have h1:bV ms 1<=12:=(G.few 1 om).2;have h2:bV ms 2<=12:=(G.few 2 om).2;have h3:bV ms 3<=12:=(G.few 3 om).2;have h4:bV ms 4<=12:=(G.few 4 om).2;have h5:bV ms 5<=12:=(G.few 5 om).2;have h6:bV ms 6<=12:=(G.few 6 om).2;have h7:bV ms 7<=12:=(G.few 7 om).2
 omega
def eF(ms:List Mp):List ag:=ms.flatMap jn
theorem U5(ms:List Mp):(eF ms).length=ms.length*5:=by
 induction ms with
 | nil=>rfl
 | cons m r ih=>unfold eF at *;rw[cB,aY,ih,bU];simp[jn];omega
theorem U6(ms os:List Mp):eF (ms++os)=eF ms++eF os:=by grind [eF]
theorem U7(m:Mp):eF [m]=jn m:=by unfold eF;simp
theorem qwc(ms:List Mp)(j i:Nat)(hj:j<ms.length)(hi:i<5):(eF ms)[5*j+i]?=(jn ms[j])[i]?:=by
 induction ms generalizing j with
 | nil=>simp at hj
 | cons m r ih=>
  (have e:eF (m::r)=jn m++eF r:=by unfold eF;rw[cB]);rw[e]
  cases j with
  | zero=>rw[List.getElem?_append_left (by simp[jn];omega)];simp
  | succ j=>
   rw[List.getElem?_append_right (by simp[jn];omega)]
   have:5*(j+1)+i-(jn m).length=5*j+i:=by simp[jn];omega
   rw[this,ih j (by simpa using hj)]
   simp
theorem Yu{o:Nat}(h:∀j (hj:j<ms.length),w.rangeAt b (o+5*j) (jn ms[j])):∀k u,(eF ms)[k]?=some u->w.cell? ⟨b,o+k,none⟩=some u:=by
 intro k u hu;refine U8 ?_;intro hk;(have e:k=5*(k/5)+k%5:=by omega);(have hj:k/5<ms.length:=by omega)
 rw[e,qwc ms (k/5) (k%5) hj om] at hu
 have:=h (k/5) hj (k%5) u hu
 grind
def Yv(ms:List Mp):∀u∈eF ms,u.oneCell'=true:=by
 intro u hu
 unfold eF at hu
 rw[List.mem_flatMap] at hu
 obtain⟨m,_,hm⟩:=hu
 simp[jn] at hm
 rcases hm with rfl|rfl|rfl|rfl|rfl<;>rfl
def jw(sl:ag):Prop:=∀n c,sl=.slice none n c->c=0
def Qh(h:w.ownsRow base 72 5 v ms.length (eF ms))(hl:ms.length<=140737488355328):cE w v ms/\jw v/\(0<ms.length->base<=mb v):=by
 rcases h.2 with⟨e,n0⟩|⟨b,cap,cur,hv,fj,hh,y7,hcm,hcs,ht⟩
 .have:ms=[]:=List.eq_nil_of_length_eq_zero n0
  subst this
  rw[e]
  exact⟨cE.nil w,fun n c e=>by injection e with _ _ e3;exact e3.symm,fun h=>absurd h zm⟩
 .have hc:=h.cells (g:=b) (by rw[hv];rfl)
  subst hv
  refine⟨⟨_,_,rfl,fun _=>rfl,fun j hj i u hu=>?_,hl,_,rfl,y7⟩,fun n c e=>(by injection e with e1;simp at e1),fun _=>fj⟩
  have hi:i<5:=(List.getElem?_eq_some_iff.1 hu).1;have hg:=qwc ms j i hj hi
  rw[hu] at hg
  have:=hc _ _ hg
  rw[Addr.add_lit] at this
  simpa[mb,mo] using this
def Oi:(ah.info? 72).map (fun i=>(i.zero,i.size,i.bytes))=some (some (.agg (mc fW)),5,40):=by kernel_rfl
theorem qql(w:af)(m:Mp)(t:bt):∀j u,(jn m)[j]?=some u->(w.alloc (.cells (mc m) t)).cell? ((⟨w.heap.size,0,none⟩:Addr).add j)=some u:=by
 intro j u hu;rw[Addr.add_lit,bX];rw[World.cell?_alloc_mark w (mc m) t (0,0) j]
 show(jn m).toArray[j]?=some u
 grind
def qmp(m:Mp):∀u∈jn m,u.oneCell'=true:=by
 intro u hu
 simp[jn] at hu
 rcases hu with rfl|rfl|rfl|rfl|rfl<;>rfl
def qkl(hgd:o.guard=none)(x:aU)(ho:o.op=.buildSlice 40 1 #[(0,x)])(m:Mp)(hx:a.eval x=.agg (mc m))(hr:aM ah ops Q rest (a.put o.dst (.slice (some ⟨w.heap.size,0,none⟩) 1 1)) (w.alloc (.cells (mc m) 72))):aM ah ops Q (o::rest) a w:=
 bP hgd fun K hK=>by
  (have hb:(Instr.buildSlice 40 1 #[(0,.agg (mc m))]).run ah w=.ok (.slice (some ⟨w.heap.size,0,none⟩) 1 1) (w.alloc (.cells (mc m) 72)):=by kernel_rfl)
  unfold Oper.wp bG
  simp only[ho,List.map_toArray,List.map_cons,List.map_nil,hx,bB,hb,Result.andThen_ok,bH]
  exact hK _ _ hr
theorem q25{cs:Array ag}(R:aP t w b cs)(h:w.ownsRow base e size v n xs)(hne:t≠e\/b<base)(hg:w.grownBy w' v.ownBlock):aP t w' b cs:=by
 refine(hg.block b R.lt ?_).trans R
 intro eq
 rcases hne with hne|hlt
 .rcases h.2 with⟨e',_⟩|⟨g,cap,cur,hv,fj,hh,r⟩
  .rw[e'] at eq;simp[Value.ownBlock] at eq
  .rw[hv] at eq
   (have e':b=g:=by simpa[Value.ownBlock] using eq)
   grind [aP]
 .have:=h.lt b eq.symm
  omega
def qok{w0:af}{B:Nat}(h:aq B w0 w)(hle:B<=w.heap.size)(hg:w.grownBy w' none):aq B w0 w':=
 ⟨hg.os.trans h.os,hg.tape.trans h.tape,hg.output.trans h.output,aw h.size hg.size,fun k hk=>(hg.block k (Nat.lt_of_lt_of_le hk hle) zm).trans (h.block k hk)⟩
theorem wO(h:w.ownsRow base e size v n xs):∃a c,v=.slice a n c:=by
 rcases h.2 with⟨e,n0⟩|⟨b,cap,cur,hv,_⟩
 .grind
 grind
def qou(hgd:o.guard=none)(x y:aU)(ho:o.op=.makeSlice 40 x y)(hx:a.eval x=I Z 0)(c:Nat)(hy:a.eval y=I Z (c:Int))(hc:c<=1000)(hr:∀v w',v=.slice (some ⟨w.heap.size,0,none⟩) 0 c->w'.ownsRow w.heap.size 72 5 v 0 []->w.grownBy w' none->aM ah ops Q rest (a.put o.dst v) w'):aM ah ops Q (o::rest) a w:=
 bP hgd fun K hK=>by
  obtain⟨i0,hi,hz0,hz1,hz2⟩:=info_parts Oi;obtain⟨w',hrun,h1,h2⟩:=run_make_own (P:=ah) w w.heap.size 40 72 i0 (.agg (mc fW)) 5 underlying40 hi hz0 hz1 .i64 .i64 c (by rw[hz2];omega) (by unfold maxLen;omega) (Nat.le_refl _)
  unfold Oper.wp bG
  simp only[ho,hx,hy,bB,hrun,Result.andThen_ok,bH]
  exact hK _ _ (hr _ w' rfl h1 h2)
theorem U9{b2:Nat}(h:w.ownsRow base e size v n xs)(hb:b2<=base):w.ownsRow b2 e size v n xs:=by
 refine⟨h.1,?_⟩
 rcases h.2 with e|⟨b,cap,cur,hv,fj,r⟩
 .grind
 .exact .inr ⟨b,cap,cur,hv,by omega,r⟩
def Am{p:Prop}(h:p:=by
 go_enter func142,ntmps142
 go_wp2_with (first|(refine bx 72 _ _ ?_;intro b3 w0 l3 R3 hb0;replace hB:=hB.trans (hb0.mono hB.size))|(refine qou rfl _ _ rfl rfl (n+1) rfl om ?_;intro v1 w1 Ei hown1 hg1;have l3b:=R3.lt;replace R3:aP 72 w1 b3 (mc m):=(hg1.block b3 R3.lt zm).trans R3;replace hown1:=hown1;replace hB:=qok hB hB.size hg1;subst Ei)|(refine wpList_append_own _ rfl (.tmp 10) (.tmp 11) 40 rfl w.heap.size 72 i0 (.agg (mc fW)) 5 40 underlying40 hi hz0 hz1 hz2 rfl (by decide) _ _ _ rfl (U9 hown1 (by have:=hb0.size;omega)) ad n cap (eF ms) rfl (by rw[U5,HN.out]) (src' hB) (Yv ms) (by unfold maxLen;omega) om hB.size ?_;intro v2 w2 hown2 hg2 Ji;clear Ji;simp only[Nat.zero_add,List.nil_append] at hown2;replace R3:=q25 R3 hown1 (.inr l3b) hg2;replace hB:=Qd (U9 hown1 (by have:=hb0.size;omega)) hB hB.size hg2;obtain⟨a2,c2,rfl⟩:=wO hown2)|(refine qou rfl _ _ rfl rfl (0+1) rfl om ?_;intro v1 w1 Ei hown1 hg1;have l3b:=R3.lt;replace R3:aP 72 w1 b3 (mc m):=(hg1.block b3 R3.lt zm).trans R3;replace hown1:=hown1;replace hB:=qok hB hB.size hg1;subst Ei)|(refine wpList_append_own_none rfl (.tmp 10) (.tmp 11) 40 rfl w.heap.size 72 i0 5 underlying40 hi _ _ _ rfl (U9 hown1 (by have:=hb0.size;omega)) rfl ?_;have hown2:World.ownsRow _ w.heap.size 72 5 _ 0 []:=U9 hown1 (by have:=hb0.size;omega);rw[uF] at fin)|(refine qf 72 _ rfl rfl _ rfl (mc m) R3 _ underlying72 rfl (lS m) ?_)|(refine qkl rfl _ rfl m rfl ?_)|(refine wpList_append_own _ rfl _ _ 40 rfl w.heap.size 72 i0 (.agg (mc fW)) 5 40 underlying40 hi hz0 hz1 hz2 rfl (by decide) _ _ _ rfl (hown2.alloc _) ⟨_,0,none⟩ 1 1 (jn m) rfl rfl (qql _ _ _) (qmp m) (by unfold maxLen;omega) om (by have:=hB.size;simp;omega) ?_;intro v4 w4 tS hg4 Qi;clear Qi;replace hB:=Qd (hown2.alloc _) (hB.alloc hB.size _) (by have:=hB.size;simp;omega) hg4;obtain⟨a4,c4,rfl⟩:=wO tS))
 go_ret
 obtain⟨h1,h2,h3⟩:=fin _ _ tS
 exact⟨_,rfl,h1,h2,h3,hB⟩):p:=h
def q50(sl:ag)(ms:List Mp)(m:Mp)(w:af)(hM:cE w sl ms)(hno:jw sl)(hl:ms.length<=96):
  az ah 142 #[sl,.agg (mc m)] w fun e w'=>∃v,e=.returned v/\cE w' v (ms++[m])/\jw v/\w.heap.size<=mb v/\aq w.heap.size w w':=by
 refine gP ?_;intro hB;obtain⟨i0,hi,hz0,hz1,hz2⟩:=info_parts Oi;have fh:=hM
 obtain⟨a0,cap,dB,ha0,hrg,-⟩:=fh
 obtain⟨n,hn⟩:∃n,n=ms.length:=⟨_,rfl⟩
 have HN:aK (n=ms.length):=hn
 rw[←hn] at dB
 (have qjH:n<=96:=by omega);(have hnw:bK ((n:Int)+1)=((n+1:Nat):Int):=by unfold bK;omega);have hlt:=hM.lt
 have src:∀ {W:af},aq w.heap.size w W->∀k u,(eF ms)[k]?=some u->W.cell? ((⟨mb sl,mo sl,none⟩:Addr).add k)=some u:=by
  intro W hb k u hu;rw[Addr.add_lit]
  refine Yu (fun j hj=>?_) k u hu
  exact(hM.keep hb hlt).at j hj rfl
 have fin:∀(W:af) (v:ag),W.ownsRow w.heap.size 72 5 v (n+1) (eF ms++jn m)->cE W v (ms++[m])/\jw v/\w.heap.size<=mb v:=by
  intro W v h;(have e1:(ms++[m]).length=n+1:=by simp[←hn]);(have h':W.ownsRow w.heap.size 72 5 v (ms++[m]).length (eF (ms++[m])):=by rw[e1,U6,U7];exact h)
  have:=Qh h' om
  exact⟨this.1,this.2.1,this.2.2 om⟩
 clear hn hrg
 cases a0 with
 | none=>
  obtain rfl:cap=0:=hno _ _ dB
  have n0:ms.length=0:=by
   by_cases h:0<ms.length
   .have:=ha0 h;simp at this
   .omega
  have uF:ms=[]:=List.eq_nil_of_length_eq_zero n0
  obtain rfl:n=0:=HN.out.trans n0
  subst dB
  clear ha0 src
  exact Am
 | some ad=>
  have had:0<n->ad=⟨mb sl,mo sl,none⟩:=fun h=>by
   have:=ha0 (by rw[←HN.out];exact h)
   exact Option.some.inj this
  have src':∀ {W:af},aq w.heap.size w W->∀k u,(eF ms)[k]?=some u->W.cell? (ad.add k)=some u:=by
   intro W hb k u hu;refine U8 ?_;intro hk
   rw[had (by rw[HN.out];omega)]
   exact src hb k u hu
  subst dB
  clear ha0 src had hno
  exact Am
def q5r(h:oL w base v l)(hb:Below w.heap.size w w'):oL w' base v l:=qst h hb
def Ao(n:Nat):List ag:=[I Z ((n/6:Nat):Int),I Z ((n%6:Nat):Int)]
def q8v(l:List Nat)(j i:Nat)(hj:j<l.length)(hi:i<2):(Oh l)[2*j+i]?=(Ao l[j])[i]?:=by
 induction l generalizing j with
 | nil=>simp at hj
 | cons m r ih=>
  (have e:Oh (m::r)=Ao m++Oh r:=by unfold Oh Ao;rw[cB]);rw[e]
  cases j with
  | zero=>rw[List.getElem?_append_left (by simp[Ao];omega)];simp
  | succ j=>
   rw[List.getElem?_append_right (by simp[Ao];omega)]
   have:2*(j+1)+i-(Ao m).length=2*j+i:=by simp[Ao];omega
   rw[this,ih j (by simpa using hj)]
   simp
theorem oL.at(h:oL w base v l)(j:Nat)(hj:j<l.length)(hn:l[j]=n):w.rangeAt (mb v) (2*j) (Ao n):=by
 rcases h.2 with⟨e,n0⟩|⟨b,cap,cur,hv,fj,hh,y7,hcm,hcs,ht⟩
 .omega
 .have hc:=World.ownsRow.cells h (g:=b) (by rw[hv];rfl);intro i u hu;have hi:i<2:=(List.getElem?_eq_some_iff.1 hu).1;have hg:=q8v l j i hj hi
  rw[hn,hu] at hg
  have:=hc _ _ hg
  rw[Addr.add_lit] at this
  rw[hv]
  simpa[mb] using this
def qua(hgd:o.guard=none)(x y:aU)(ho:o.op=.indexAddr 182 x y)(base:Nat)(v:ag)(l:List Nat)(hP:oL w base v l)(hx:a.eval x=v)(j:Nat)(hy:a.eval y=I Z (j:Int))(hj:j<l.length)(hr:aM ah ops Q rest (a.put o.dst (V (some ⟨mb v,2*j,none⟩))) w):aM ah ops Q (o::rest) a w:=
 bP hgd fun K hK=>by
  rcases hP.2 with⟨e,n0⟩|⟨b,cap,cur,hv,fj,hh,y7,hcm,hcs,ht⟩
  .omega
  .subst hv
   (have hn:((j:Int)).toNat<l.length:=by simpa using hj);(have iu:(j:Int)<(l.length:Int):=by omega);(have hs:(sizeOf 177).run ah w=.ok 2 w:=by kernel_rfl)
   have hrun:(Instr.indexAt 182 (.slice (some ⟨b,0,none⟩) l.length cap) (I Z (j:Int))).run ah w=.ok (V (some ⟨b,2*j,none⟩)) w:=by
    simp[go_sem,hj,hn,iu,underlying182,hs]
   unfold Oper.wp bG
   simp only[ho,hx,hy,bB,hrun,Result.andThen_ok,bH]
   exact hK _ _ hr
def Yw:Option (Nat×Nat)->ag
 | some x=>.tuple #[I Z (oC x.1 x.2),.bool true]
 | none=>.tuple #[I Z 0,.bool false]
def q6n(n:Nat):(ah.info? 177).map (·.size)=some (Ao n).length:=by kernel_rfl
theorem Yx(ms:List Mp)(p a q:Int):wH ms p a q=(ms.find? (gj p a q)).isSome:=by grind [wH,gj]
theorem qyq(hi:i<8)(hb:∀i',i'<i->wH ms p ((n/6:Nat):Int) (oC n i')=true)(hu:wH ms p ((n/6:Nat):Int) (oC n i)=false):zb ms p n=some i:=by
 unfold zb
 simp_all
theorem qxj(hb:∀i',i'<8->wH ms p ((n/6:Nat):Int) (oC n i')=true):zb ms p n=none:=by
 unfold zb
 grind
theorem qqj(cz:j<l.length)(hn:l[j]=n)(h:zb ms p n=some i):lR ms p (l.drop j)=some (n,i):=by grind [lR,zb,dJ]
theorem qpp(cz:j<l.length)(hn:l[j]=n)(h:zb ms p n=none):lR ms p (l.drop j)=lR ms p (l.drop (j+1)):=by grind [lR,zb,dJ]
def q0y(f:Nat->Int)(g:Nat->Bool)(h:Nat->Int)(sl:ag)(ms:List Mp)(p:Int)(base:Nat)(v:ag)(l:List Nat)(w:af)(hM:cE w sl ms)(hP:oL w base v l)(qjI:l.length<=18):
  az ah 188 #[.agg (tc f g h sl),I Z p,v] w fun e w'=>e=.returned (Yw (lR ms p l))/\aq w.heap.size w w':=by
 refine gP ?_;intro hB;have fh:=hM
 obtain⟨a0,cap,dB,-⟩:=fh
 obtain⟨n,hn⟩:∃n,n=ms.length:=⟨_,rfl⟩
 rw[←hn] at dB
 subst dB
 clear hn;have hlt:=hM.lt;obtain⟨a1,c1,hv⟩:=hP.slice
 obtain⟨L,hL⟩:∃L,L=l.length:=⟨_,rfl⟩
 rw[←hL] at hv
 subst hv
 have HL:aK (L=l.length):=hL;clear hL
 go_enter func188,ntmps188
 go_wp2_with (refine Jb ?_;clear hB;intro bT w1 RT hb1 lT hB)
 go_loopw [16] (fun i W=>∃j:Nat,j<=l.length/\i=I Z j/\lR ms p l=lR ms p (l.drop j)/\aq w.heap.size w W/\aP 42 W bT (tc f g h (.slice a0 n cap))) (fun i _=>L-(cY i).toNat)
 case atStart=>exact⟨0,by omega,rfl,by rw[List.drop_zero],hB,RT⟩
 case round=>
  clear hB RT hb1
  obtain⟨j,hj,rfl,Oj,hB,RT⟩:=hrel
  by_cases cz:j<l.length
  ·(have mA:(j:Int)<(L:Int):=by have:=HL.out;omega);(have fU:bK ((j:Int)+1)=(j:Int)+1:=by unfold bK;omega)
   obtain⟨N,hN⟩:∃N,l[j]=N:=⟨_,rfl⟩
   have Yy:oL _ base (.slice a1 L c1) l:=q5r hP hB;have hrg:=Yy.at j cz hN;have HU:aK (lR ms p l=lR ms p (l.drop j)):=Oj;clear Oj;(have hN6:(0:Int)<=((N%6:Nat):Int):=by omega);(have Qj:((N%6:Nat):Int)<=6:=by omega)
   obtain⟨kA,Yz⟩:∃kA:Int,aK (kA=((N/6:Nat):Int)):=⟨_,rfl⟩
   obtain⟨kB,YA⟩:∃kB:Int,aK (kB=((N%6:Nat):Int)):=⟨_,rfl⟩
   rw[←YA.out] at hN6 Qj
   (have C1:=fun w=>Yd kB hN6 Qj w);(have Va:(Ao N).toArray=mJ kA kB:=by rw[Yz.out,YA.out];rfl)
   go_wp2_with (first|(refine qua rfl (.tmp 14) (.tmp 16) rfl base (.slice a1 L c1) l Yy rfl j rfl cz ?_)|(refine jB rfl 177 _ rfl _ _ rfl (Ao N) _ hrg underlying177 rfl (q6n N) ?_;rw[Va])|(refine ay 177 Oe ?_;intro b9 w3 l9 R9 hb3;have nT:=RT.ne l9;replace l9:=aw hB.size l9;replace RT:=RT.below hb3;replace hB:=hB.trans (hb3.mono hB.size))|(refine sx (mJ kA kB) R9 ?_;intro w4 R9 t4;replace RT:=t4.row RT nT;replace hB:=t4.below _ _ l9 hB))
   go_loopw [20] (fun i W=>∃k:Nat,k<=8/\i=I Z k/\(∀i',i'<k->wH ms p ((N/6:Nat):Int) (oC N i')=true)/\aq w.heap.size w W/\aP 42 W bT (tc f g h (.slice a0 n cap))/\aP 177 W b9 (mJ kA kB)) (fun i _=>8-(cY i).toNat)
   case atStart=>exact⟨0,by omega,rfl,fun i' hi'=>absurd hi' om,hB,RT,R9⟩
   case round=>
    clear hB RT R9 Yy hrg
    obtain⟨k,hk,rfl,qV,hB,RT,R9⟩:=hrel
    by_cases nR:k<8
    .have d0:=Qe R9;have d1:=p1 R9
     have YB:aK (1024+kB*8+(k:Int)=oC N k):=by
      show _=_
      have:=YA.out;unfold oC;omega
     (have CB:=fun w hM=>qqr f g h (.slice a0 n cap) ms p kA (1024+kB*8+(k:Int)) w hM)
     cases tT:ms.find? (gj p kA (1024+kB*8+(k:Int))) with
     | none=>
      have HF:aK (lR ms p l=some (N,k)):=by
       show _=_
       rw[HU.out]
       exact qqj cz hN (qyq nR qV (by rw[Yx,←YB.out,←Yz.out,tT];rfl))
      rw[tT] at CB
      unfold sZ at CB
      clear hN tT qV Va
      go_wp2_with (first|(go_at_call 160;go_fit (C1 _);refine gy ?_)|(refine lx 42 _ (tc f g h (.slice a0 n cap)) RT ?_)|(go_at_call 38;go_fit (CB _ (hM.keep hB hlt));rintro e w5 ⟨rfl,bh⟩;clear d0 d1;replace RT:=RT.below bh;replace R9:=R9.below bh;refine gl ?_;clear hB;intro hB)|(refine GR ?_;intro j7 w6 Ap Qk j6;have YC:=RT.ne Ap;have YD:=R9.ne Ap;replace Ap:=aw hB.size Ap;replace RT:=RT.below j6;replace R9:=R9.below j6;replace hB:=hB.trans (j6.mono hB.size))|(refine sx (mc fW) Qk ?_;intro w7 Qk t7;replace RT:=t7.row RT YC;replace R9:=t7.row R9 YD;replace hB:=t7.below _ _ Ap hB))
      go_ret2
      exact⟨by rw[HF.out];show _=Ending.returned (.tuple #[I Z (oC N k),.bool true]);rw[←YB.out];rfl,hB⟩
     | some mm=>
      have HF:aK (∀i',i'<k+1->wH ms p ((N/6:Nat):Int) (oC N i')=true):=by
       show ∀i',_
       intro i' hi'
       by_cases e:i'=k
       .subst e;rw[Yx,←YB.out,←Yz.out,tT];rfl
       .exact qV i' om
      rw[tT] at CB
      unfold sZ at CB
      clear tT qV Va
      go_wp2_with (first|(go_at_call 160;go_fit (C1 _);refine gy ?_)|(refine lx 42 _ (tc f g h (.slice a0 n cap)) RT ?_)|(go_at_call 38;go_fit (CB _ (hM.keep hB hlt));rintro e w5 ⟨rfl,bh⟩;clear d0 d1;replace RT:=RT.below bh;replace R9:=R9.below bh;refine gl ?_;clear hB;intro hB)|(refine GR ?_;intro j7 w6 Ap Qk j6;have YC:=RT.ne Ap;have YD:=R9.ne Ap;replace Ap:=aw hB.size Ap;replace RT:=RT.below j6;replace R9:=R9.below j6;replace hB:=hB.trans (j6.mono hB.size))|(refine sx (mc mm) Qk ?_;intro w7 Qk t7;replace RT:=t7.row RT YC;replace R9:=t7.row R9 YD;replace hB:=t7.below _ _ Ap hB))
      go_roundw
      case rel=>exact⟨k+1,by omega,by go_num,HF.out,hB,RT,R9⟩
      case measure=>simp[cY];omega
    ·(have e:k=8:=by omega)
     subst e
     have HF:aK (lR ms p l=lR ms p (l.drop (j+1))):=by
      show _=_
      rw[HU.out]
      exact qpp cz hN (qxj qV)
     clear qV Va
     go_wp2
     go_roundw
     case rel=>exact⟨j+1,by omega,by go_num,HF.out,hB,RT⟩
     case measure=>exact Aj (HL.out.symm▸cz)
  ·(have e:j=l.length:=by omega);(have mA:(L:Int)<=(j:Int):=by have:=HL.out;omega)
   have HF:aK (lR ms p l=none):=by
    show _=_
    rw[Oj,e,List.drop_length];rfl
   clear e hj cz Oj
   go_wp2
   go_ret2
   exact⟨by rw[HF.out];rfl,hB⟩
def qxp(f:Nat->Int)(g:Nat->Bool)(h:Nat->Int)(sl:ag)(s d:Int)(hs0:0<=s)(kG:s<8)(Jj:0<=h s.toNat)(YE:h s.toNat<=3)(hd:(Lit.int .i64 d).wf=true)(w:af):
  az ah 189 #[.agg (tc f g h sl),.int .i64 s,.int .i64 d] w fun e w'=>e=.returned (.tuple #[.int .i64 (mz f g h s d),.int .i64 (rC f g h s)])/\aq w.heap.size w w':=by
 refine gP ?_;intro hB;(have C:=fun w=>q6b f g d hd w)
 unfold gg at C
 by_cases hz:h s.toNat=0
 .have HA:aK (mz f g h s d=nQ f g d):=aZ hz;have HE:aK (rC f g h s=oJ f g):=aZ hz;(have dz:(h s.toNat != 0)=false:=by simp[hz]);clear hz
  go_enter func189,ntmps189
  go_wp2_with (first|(refine E5 ?_;intro b3 w1 l3 R3 hb1;refine kZ ?_;clear hB;intro hB;have cH:w1.cell? ⟨b3,21+s.toNat,none⟩=some (.int .i64 (h s.toNat)):=(R3.cell _).trans (Af f g h sl s.toNat om);have tU:=R3.iP)|(refine m5z ?_)|(go_at_call 212;go_fit (C _);rintro e w5 ⟨rfl,bh⟩;refine gl ?_;clear hB;intro hB))
  go_ret2
  exact⟨by rw[HA.out,HE.out];rfl,hB⟩
 .have HA:aK (mz f g h s d=h s.toNat-1):=aT hz;have HE:aK (rC f g h s=0):=aT hz;(have dz:(h s.toNat != 0)=true:=by simp[hz]);(have my:bK (h s.toNat-1)=h s.toNat-1:=by unfold bK;omega);clear hz
  go_enter func189,ntmps189
  go_wp2_with (refine E5 ?_;intro b3 w1 l3 R3 hb1;refine kZ ?_;clear hB;intro hB;have cH:w1.cell? ⟨b3,21+s.toNat,none⟩=some (.int .i64 (h s.toNat)):=(R3.cell _).trans (Af f g h sl s.toNat om))
  go_ret2
  exact⟨by rw[HA.out,HE.out];rfl,hB⟩
def jb(cs:Array ag):Nat->List ag->Array ag
 | _,[]=>cs
 | o,v::r=>jb (cs.setIfInBounds o v) (o+1) r
def aP.rG:∀(vs:List ag) (o:Nat) (w:af) (cs:Array ag),aP t w b cs->aP t (w.setCells b o vs) b (jb cs o vs)
 | [],_,_,_,h=>h
 | v::r,o,w,cs,h=>by unfold World.setCells jb;exact aP.rG r (o+1) _ _ h.set
def Vb(b:Nat):∀(vs:List ag) (o:Nat) (w:af),gG b w (w.setCells b o vs)
 | [],_,w=>⟨rfl,fun _ _=>rfl,fun _ _ _ h=>h⟩
 | v::r,o,w=>by
  have h:=Vb b r (o+1) (w.setCell ⟨b,o,none⟩ v)
  unfold World.setCells
  exact⟨h.size.trans zm,fun k hk=>(h.other k hk).trans (Below.heap_setCell _ _ _ _ hk),fun B w0 hB hb=>h.below B w0 hB (hb.setCell (p:=⟨b,o,none⟩) hB v)⟩
theorem YF(f f':Nat->Int)(g g':Nat->Bool)(h:Nat->Int)(sl:ag):jb (tc f g h sl) 0 (pc f' g').toList=tc f' g' h sl:=by kernel_rfl
def YG(hgd:o.guard=none)(x y:aU)(ho:o.op=.store 38 x y)(b:Nat)(hx:a.eval x=V (some ⟨b,0,none⟩))(f':Nat->Int)(g':Nat->Bool)(hy:a.eval y=.agg (pc f' g'))(f:Nat->Int)(g:Nat->Bool)(h:Nat->Int)(sl:ag)(R:aP 42 w b (tc f g h sl))(hr:∀w',aP 42 w' b (tc f' g' h sl)->gG b w w'->aM ah ops Q rest (a.put o.dst gW) w'):aM ah ops Q (o::rest) a w:=by
 have ht:w.there b 0 (pc f' g').size:=fun j hj=>by
  have hj':j<21:=hj
  refine⟨?_,R.free _⟩
  rw[R.cell,bX,Array.getElem?_eq_getElem (by rw[ze];omega)];rfl
 refine wpList_store_mid hgd 38 x y ho b 0 (pc f' g') hx hy ht (En f' g') (Ql f' g') ?_;have R':=aP.rG (pc f' g').toList 0 w _ R
 rw[YF] at R'
 exact hr _ R' (Vb b _ 0 w)
def qg0{p u v:Tmp}(hf:fn.results=#[.cell p t,.tmp u,.tmp v,.tmp x])(tmps:Array ag)(w:af)(b:Nat)(cs:Array ag)(hp:tmps.getD p gW=V (some ⟨b,0,none⟩))(h:aP t w b cs)(d:TypeDesc)(hu:ah.underlying t=some d)(hd:d.isRow=true)(hi:(ah.info? t).map (·.size)=some cs.size):
  (eQ fn tmps).run ah w=.ok (.tuple #[.agg cs,tmps.getD u gW,tmps.getD v gW,tmps.getD x gW]) w:=by
 refine UM ?_;intro qm hl
 simp only[Array.toArray_toList] at hl
 simp[eQ,hf,qm,asAddr,hl]
def Vc(w:af):(zeroValue 38).run ah w=.ok (.agg (pc (fun _=>0) (fun _=>false))) w:=by kernel_rfl
def YH(h:gG b w.drew w'):gG b w w':=⟨h.size,h.other,fun B w0 hB hb=>h.below B w0 hB (Qg hb)⟩
def YI(g:Nat->Bool)(sl:ag)(r:P7):ag:=.tuple #[.agg (tc r.f g r.h sl),I Z r.q,.bool r.took,I Z r.e]
def q7j(f f':Nat->Int)(g g':Nat->Bool):(pc f g).size=(pc f' g').size:=by rw[Ae,Ae]
def Aq(f f':Nat->Int)(g g':Nat->Bool)(h h':Nat->Int)(sl sl':ag):(tc f g h sl).size=(tc f' g' h' sl').size:=by rw[ze,ze]
def rH{p:Prop}(h:p:=by
 go_enter func141,ntmps141
 go_wp2_with (first|(refine E5 ?_;intro b4 w1 l4 R4 hb1;replace l4:=Nat.le_trans hB.size l4;refine kZ ?_;clear hB;intro hB)|(refine ay 42 zg ?_;intro b8 w2 l8 R8 hb2;have Eo:=R4.ne l8;replace l8:=Nat.le_trans hB.size l8;replace R4:=R4.below hb2;replace hB:=hB.trans (hb2.mono hB.size))|(refine lx 42 (.tmp 4) (tc f g h (.slice a0 n cap)) R4 ?_)|(go_at_call 159;go_fit (C1 _);rintro e w5 ⟨v,rfl,⟨a1,c1,rfl⟩,hP,bh⟩;replace R4:=R4.below bh;replace R8:=R8.below bh;refine gl ?_;clear hB;intro hB)|(go_at_call 188;go_fit (C2 _ _ _ (hM.keep hB hlt) hP);rintro e w5 ⟨rfl,bh⟩;replace R4:=R4.below bh;replace R8:=R8.below bh;refine gl ?_;clear hB;intro hB)|(refine m56 ?_;intro w6 R8 t6;replace hB:=t6.below _ _ l8 hB)|(go_at_call 189;go_fit (C3 _);rintro e w5 ⟨rfl,bh⟩;clear hP;replace R4:=R4.below bh;replace R8:=R8.below bh;refine gl ?_;clear hB;intro hB;have tU:=R4.iP)|(refine m5m ?_)|(go_at_call 190;go_fit (C4 _);rintro e w5 ⟨rfl,bh⟩;clear tU;replace R4:=R4.below bh;replace R8:=R8.below bh;refine gl ?_;clear hB;intro hB)|(refine ay 38 Vc ?_;intro YJ w7 Ar E6 tV;have Jk:=R4.ne Ar;have Jl:=R8.ne Ar;replace Ar:=Nat.le_trans hB.size Ar;replace R4:=R4.below tV;replace R8:=R8.below tV;replace hB:=hB.trans (tV.mono hB.size))|(refine qT 38 rfl (.tmp 17) _ rfl YJ rfl (pc FF g) rfl _ E6 (q7j _ _ _ _) (En _ _) (Ql _ _) ?_;intro w8 E6 t8;replace R4:=t8.row R4 Jk;replace R8:=t8.row R8 Jl;replace hB:=t8.below _ _ Ar hB)|(refine lx 38 (.tmp 17) (pc FF g) E6 ?_)|(refine m3p ?_;clear R8 E6 hB;intro w9 R4 t9 R8 hB f4 c4))
 (refine bodyPost_ret (qg0 rfl _ _ _ _ rfl R8 _ underlying42 rfl (oD _ _ _ _)) rfl ⟨?_,hB⟩)
 rw[HR.out];rfl):p:=h
def qwa(f:Nat->Int)(g:Nat->Bool)(h:Nat->Int)(sl:ag)(ms:List Mp)(p s d:Int)(w:af)(hM:cE w sl ms)(G:gM f h ms)(hs:0<=s/\s<8)(hd:(Lit.int .i64 d).wf=true):
  az ah 141 #[.agg (tc f g h sl),.int .i64 p,.int .i64 s,.int .i64 d] w fun e w'=>e=.returned (YI g sl (fg f g h ms p s d))/\aq w.heap.size w w':=by
 refine gP ?_;intro hB;have fh:=hM
 obtain⟨a0,cap,dB,-⟩:=fh
 obtain⟨n,hn⟩:∃n,n=ms.length:=⟨_,rfl⟩
 rw[←hn] at dB
 subst dB
 clear hn;have hlt:=hM.lt;have hs0:0<=s:=hs.1;have kG:s<8:=hs.2;(have pG:s.toNat<8:=by omega);have pF:=G.mH hs;(have C1:=fun w=>U0 f g h (.slice a0 n cap) s hs0 kG w);have hbl:(fI f s).length<=18:=qoy f s 18;(have C2:=fun base v w hM hP=>q0y f g h (.slice a0 n cap) ms p base v (fI f s) w hM hP hbl);(have C3:=fun w=>qxp f g h (.slice a0 n cap) s d hs0 kG pF.1 pF.2 hd w);clear pF G
 cases hu:lR ms p (fI f s) with
 | some x=>
  have HR:aK (fg f g h ms p s d=_):=X4 hu
  rw[hu] at C2
  unfold Yw at C2
  obtain⟨LL,GV⟩:∃LL,LL=(fI f s).length:=⟨_,rfl⟩
  rw[←GV] at C1
  clear GV hbl hu
  exact rH
 | none=>
  rw[hu] at C2
  unfold Yw at C2
  obtain⟨LL,GV⟩:∃LL,LL=(fI f s).length:=⟨_,rfl⟩
  rw[←GV] at C1
  by_cases h2:(fI f s).length=2
  .have HR:aK (fg f g h ms p s d=_):=X5 hu h2;(have dL:((LL:Int)==2)=true:=by simp;omega);clear GV hbl hu h2
   exact rH
  ·(have dL:((LL:Int)==2)=false:=by simp;omega)
   by_cases hE:rC f g h s=0
   rotate_left
   .have HR:aK (fg f g h ms p s d=_):=qrd hu h2 hE;(have dE:(rC f g h s != 0)=true:=by simp[hE]);clear GV hbl hu h2 hE
    generalize rC f g h s=EE at *
    generalize mz f g h s d=aa at *
    exact rH
   .by_cases hT:iY f g s (mz f g h s d)=0
    rotate_left
    .have HR:aK (fg f g h ms p s d=_):=X6 hu h2 hE hT
     rw[hE] at C3
     (have C4:=fun w=>qtm f g s (mz f g h s d) d hd w)
     unfold qW gg at C4
     (have dT:(iY f g s (mz f g h s d) != 0)=true:=by simp[hT]);clear GV hbl hu h2 hE hT
     generalize mz f g h s d=aa at *
     generalize iY f g s aa=EE at *
     generalize tR f g s aa d=FF at *
     generalize oK f g s aa d=KK at *
     exact rH
    .have HR:aK (fg f g h ms p s d=_):=X7 hu h2 hE hT
     rw[hE] at C3
     (have C4:=fun w=>qtm f g s (mz f g h s d) d hd w)
     unfold qW gg at C4
     rw[hT] at C4
     obtain⟨_,haR,_,_,oB⟩:=qtj hT
     have Ob:=P9 _ _ (Qa (fD (aX f (mz f g h s d).toNat)) d oB);(have hKe:oK f g s (mz f g h s d) d=o7 (fD (aX f (mz f g h s d).toNat)) d:=by unfold oK;rw[aZ hT])
     rw[←hKe] at Ob
     have Qf:=Ob.1;clear GV hbl hu h2 hE hT oB Ob hKe
     generalize mz f g h s d=aa at *
     generalize tR f g s aa d=FF at *
     obtain⟨kk,Ep⟩:∃kk:Int,kk=((oK f g s aa d:Nat):Int):=⟨_,rfl⟩
     rw[←Ep] at C4 HR
     (have wG:0<=kk:=by omega);(have qo:kk<=6:=by omega);(have U4:bK (aa+1)=aa+1:=by unfold bK;omega);(have e8:1024+8*kk=1024+kk*8:=by omega)
     rw[e8] at HR
     clear Ep Qf e8 haR
     go_enter func141,ntmps141
     go_wp2_with (first|(refine E5 ?_;intro b4 w1 l4 R4 hb1;replace l4:=aw hB.size l4;refine kZ ?_;clear hB;intro hB)|(refine ay 42 zg ?_;intro b8 w2 l8 R8 hb2;have Eo:=R4.ne l8;replace l8:=aw hB.size l8;replace R4:=R4.below hb2;replace hB:=hB.trans (hb2.mono hB.size))|(refine lx 42 (.tmp 4) (tc f g h (.slice a0 n cap)) R4 ?_)|(go_at_call 159;go_fit (C1 _);rintro e w5 ⟨v,rfl,⟨a1,c1,rfl⟩,hP,bh⟩;replace R4:=R4.below bh;replace R8:=R8.below bh;refine gl ?_;clear hB;intro hB)|(go_at_call 188;go_fit (C2 _ _ _ (hM.keep hB hlt) hP);rintro e w5 ⟨rfl,bh⟩;replace R4:=R4.below bh;replace R8:=R8.below bh;refine gl ?_;clear hB;intro hB)|(refine m56 ?_;intro w6 R8 t6;replace hB:=t6.below _ _ l8 hB)|(go_at_call 189;go_fit (C3 _);rintro e w5 ⟨rfl,bh⟩;clear hP;replace R4:=R4.below bh;replace R8:=R8.below bh;refine gl ?_;clear hB;intro hB;have tU:=R4.iP)|(refine m5m ?_)|(go_at_call 190;go_fit (C4 _);rintro e w5 ⟨rfl,bh⟩;clear tU;replace R4:=R4.below bh;replace R8:=R8.below bh;refine gl ?_;clear hB;intro hB)|(refine ay 38 Vc ?_;intro YJ w7 Ar E6 tV;have Jk:=R4.ne Ar;have Jl:=R8.ne Ar;replace Ar:=aw hB.size Ar;replace R4:=R4.below tV;replace R8:=R8.below tV;replace hB:=hB.trans (tV.mono hB.size))|(refine qT 38 rfl (.tmp 17) _ rfl YJ rfl (pc FF g) rfl _ E6 (q7j _ _ _ _) (En _ _) (Ql _ _) ?_;intro w8 E6 t8;replace R4:=t8.row R4 Jk;replace R8:=t8.row R8 Jl;replace hB:=t8.below _ _ Ar hB)|(refine lx 38 (.tmp 17) (pc FF g) E6 ?_)|(refine m3p ?_;clear R8 E6 hB;intro w9 R4 t9 R8 hB f4 c4))
     replace R4:=R4.set (o:=21+s.toNat) (v:=.int .i64 (aa+1))
     rw[Oc _ _ _ _ _ _ pG] at R4
     replace R8:=R8.other (b:=b4) (o:=21+s.toNat) (v:=.int .i64 (aa+1)) Eo.symm;replace hB:=hB.setCell (p:=⟨b4,21+s.toNat,none⟩) l4 (.int .i64 (aa+1))
     refine RD (fun W=>aP 42 W b4 (tc FF g (upd h s.toNat (aa+1)) (.slice a0 n cap))) R4 (fun _=>?_)
     refine tk 0 (.agg (tc FF g (upd h s.toNat (aa+1)) (.slice a0 n cap))) rfl (yx (fun _ h=>h)) R4 (tq 1 (.int .i64 kk) rfl R4 ?_)
     simp only[ZZ];refine AR [2] ?_
     refine AC (fun K hK=>?_) AZ
     go_simp;go_at_call 160;refine(Yd kk wG qo _).mono ?_;refine qX ?_
     go_wp2_with fail
     refine hK.out _ _ R4 (fun _=>?_)
     clear hK K;refine AR [3] ?_
     refine AP (fun K hK=>?_) AZ
     refine UQ 42 (.tmp 8) (.tmp 68) rfl b8 rfl (tc FF g (upd h s.toNat (aa+1)) (.slice a0 n cap)) rfl _ R8 (Aq _ _ _ _ _ _ _ _) (oD _ _ _ _) (zf _ _ _ _ _ _) ?_;intro Er R8 t10;(try replace t10:=YH t10);replace R4:=t10.row R4 Eo;replace hB:=t10.below _ _ l8 hB
     refine hK.out _ _ R4 (fun _=>?_)
     clear hK K;(try simp only[ZZ]);refine tq 4 (.int .i64 (1024+kk*8)) rfl R4 (tq 5 (.bool true) rfl R4 (tq 6 (.int .i64 0) rfl R4 ?_));refine oM ?_
     go_wp2
     (refine aL (qg0 rfl _ _ _ _ rfl R8 _ underlying42 rfl (oD _ _ _ _)) rfl ⟨?_,by first|exact hB ⟩)
     rw[HR.out];rfl
def qzm(h:j<=n)(hn:n<=140737488355328):wrap64 ((j:Int)+1)=(j:Int)+1:=by unfold wrap64;omega
theorem q08{m:Mp}{s:Int}(cz:j<ms.length)(hm:ms[j]=m):bV (ms.take (j+1)) s=bV (ms.take j) s+if m.2.1=s then 1 else 0:=by
 unfold bV;rw[Og cz hm,List.filter_append,aY]
 grind
theorem q7n(ms:List Mp)(s:Int)(j:Nat):bV (ms.take j) s<=ms.length:=by grind [bV]
def YK(f:Nat->Int)(g:Nat->Bool)(h:Nat->Int)(sl:ag)(ms:List Mp)(s:Int)(w:af)(hM:cE w sl ms):
  az ah 140 #[.agg (tc f g h sl),I Z s] w fun e w'=>e=.returned (I Z ((bV ms s:Nat):Int))/\aq w.heap.size w w':=by
 refine gP ?_;intro hB;have fh:=hM
 obtain⟨a0,cap,dB,-⟩:=fh
 obtain⟨n,hn⟩:∃n,n=ms.length:=⟨_,rfl⟩
 rw[←hn] at dB
 subst dB
 refine xS ?_;clear hn;intro HN hlt
 go_enter func140,ntmps140
 go_wp2_with (refine Jb ?_;clear hB;intro bT w1 RT hb1 lT hB;have cM:w1.cell? ⟨bT,29,none⟩=some (.slice a0 n cap):=(RT.cell 29).trans (ma _ _ _ _))
 go_loopw [5,11] (fun c i W=>∃j:Nat,j<=ms.length/\i=I Z j/\c=I Z ((bV (ms.take j) s:Nat):Int)/\aq w.heap.size w W) (fun _ i _=>n-(cY i).toNat)
 case atStart=>exact⟨0,by omega,rfl,by simp[bV],hB⟩
 case round=>
  clear hB cM RT hb1
  obtain⟨j,hj,rfl,rfl,hB⟩:=hrel
  by_cases cz:j<ms.length
  .refine E0 ?_;intro mA fU
   obtain⟨m,hm⟩:∃m,ms[j]=m:=⟨_,rfl⟩
   refine Jc ?_;intro iv hrg;have hcs:=q08 (s:=s) cz hm;have hcw:bK (((bV (ms.take j) s:Nat):Int)+1)=((bV (ms.take j) s:Nat):Int)+1:=qzm (q7n ms s j) hM.len
   by_cases hs:m.2.1=s
   .rw[aZ hs] at hcs
    have HC:aK (bV (ms.take (j+1)) s=bV (ms.take j) s+1):=hcs;(have dz:(m.2.1==s)=true:=by simpa using hs);clear hcs hs
    generalize bV (ms.take j) s=c at *
    go_wp2_with (first|(refine Qm ?_)|(refine wK ?_)|(refine GR ?_;intro b7 w3 l7 R7 hb3;replace l7:=aw hB.size l7;replace hB:=hB.trans (hb3.mono hB.size))|(refine qT 72 rfl _ _ rfl b7 rfl (mc m) rfl _ R7 rfl (lS m) (Ja m) ?_;intro w4 R7 t4;have c1:=m1 R7;replace hB:=t4.below _ _ l7 hB))
    go_roundw
    case rel=>
     first
      | exact⟨j+1,by omega,by go_num,by rw[HC.out];go_num,hB⟩
    case measure=>rw[fU];exact Aj (HN.out.symm▸cz)
   .rw[aT hs] at hcs
    have HC:aK (bV (ms.take (j+1)) s=bV (ms.take j) s):=hcs;(have dz:(m.2.1==s)=false:=by simpa using hs);clear hcs hs
    generalize bV (ms.take j) s=c at *
    go_wp2_with (first|(refine Qm ?_)|(refine wK ?_)|(refine GR ?_;intro b7 w3 l7 R7 hb3;replace l7:=aw hB.size l7;replace hB:=hB.trans (hb3.mono hB.size))|(refine qT 72 rfl _ _ rfl b7 rfl (mc m) rfl _ R7 rfl (lS m) (Ja m) ?_;intro w4 R7 t4;have c1:=m1 R7;replace hB:=t4.below _ _ l7 hB))
    go_roundw
    case rel=>
     first
      | exact⟨j+1,by omega,by go_num,by rw[HC.out],hB⟩
    case measure=>rw[fU];exact Aj (HN.out.symm▸cz)
  .refine Vd ?_;intro e mA;(have HC:aK (bV (ms.take j) s=bV ms s):=by show _=_;rw[e,bn]);clear e hj cz
   generalize bV (ms.take j) s=c at *
   go_wp2
   go_ret
   exact⟨by rw[←HC.out];rfl,hB⟩
def YL{sl:ag}(dU:∀s:Nat,s<8->(fI f s).length<=2/\bV ms s<=12)(hM:cE w sl ms):
  az ah 186 #[.agg (tc f g h sl)] w fun e w'=>e=.returned (.bool true)/\aq w.heap.size w w':=by
 refine gP ?_;intro hB;have fh:=hM
 obtain⟨a0,cap,dB,-⟩:=fh
 obtain⟨n,hn⟩:∃n,n=ms.length:=⟨_,rfl⟩
 rw[←hn] at dB
 subst dB
 clear hn;have hlt:=hM.lt;(have C2:=fun s w hM=>YK f g h (.slice a0 n cap) ms s w hM)
 go_enter func186,ntmps186
 go_wp2_with (refine Jb ?_;clear hB;intro bT w1 RT hb1 lT hB)
 go_loopw [4] (fun i W=>∃j:Nat,j<=8/\i=I Z j/\aq w.heap.size w W/\aP 42 W bT (tc f g h (.slice a0 n cap))) (fun i _=>8-(cY i).toNat)
 case atStart=>exact⟨0,by omega,rfl,hB,RT⟩
 case round=>
  clear hB RT hb1
  obtain⟨j,hj,rfl,hB,RT⟩:=hrel
  by_cases cz:j<8
  ·(have C1:=fun w=>U0 f g h (.slice a0 n cap) (j:Int) om om w)
   obtain⟨l,hl⟩:∃l,l=(fI f (j:Int)).length:=⟨_,rfl⟩
   obtain⟨c,hc⟩:∃c,c=bV ms (j:Int):=⟨_,rfl⟩
   rw[←hl] at C1
   have C2j:=C2 (j:Int)
   rw[←hc] at C2j
   obtain⟨h2,EZ⟩:=dU j cz
   rw[←hl] at h2
   rw[←hc] at EZ
   have Es:decide ((2:Int)<(l:Int))=false:=decide_eq_false om;have qjJ:decide ((12:Int)<(c:Int))=false:=decide_eq_false om;clear hl hc h2 EZ
   go_wp2_with (first|(refine qf 42 _ rfl ?_ _ rfl (tc f g h (.slice a0 n cap)) RT _ underlying42 rfl (oD _ _ _ _) ?_;· rfl)|(go_at_call 159;go_fit (C1 _);rintro e w5 ⟨v,rfl,⟨a1,c1,rfl⟩,hP,bh⟩;clear hP;replace RT:=RT.below bh;refine gl ?_;clear hB;intro hB)|(go_at_call 140;refine(C2j _ (hM.keep hB hlt)).mono ?_;rintro e w5 ⟨rfl,bh⟩;replace RT:=RT.below bh;refine gl ?_;clear hB;intro hB))
   go_roundw
   case rel=>exact⟨j+1,by omega,by go_num,hB,RT⟩
   case measure=>simp[cY];omega
  .obtain rfl:j=8:=by omega
   go_wp2
   go_ret
   exact⟨rfl,hB⟩
def qe0(t:bt)(x:aU)(ho:o.op=.load t x)(hw:Region.wanted o (yielded ops a.tmps)=true)(b off:Nat)(hx:a.eval x=V (some ⟨b,off,none⟩))(cs:List ag)(d:TypeDesc)(h:w.rangeAt b off cs)(hu:ah.underlying t=some d)(hd:d.isRow=true)(hi:(ah.info? t).map (·.size)=some cs.length)(hr:aM ah ops Q rest (a.put o.dst (.agg cs.toArray)) w):aM ah ops Q (o::rest) a w:=
 wpList_step fun K hK=>by
  rw[aZ hw]
  exact wp_load_mid t x ho b off hx cs d h hu hd hi (hK _ _ hr)
theorem YM(H:jM f h ms)(j:Nat):jM f h (ms.take j):=by grind [jM]
def Qn{sl:ag}(hG:gM f h ms)(j8:qh h)(hM:cE w sl ms):
  az ah 135 #[.agg (tc f g h sl)] w fun e w'=>e=.returned (.bool true)/\aq w.heap.size w w':=by
 refine gP ?_;intro hB;have fh:=hM
 obtain⟨a0,cap,dB,-⟩:=fh
 obtain⟨n,hn⟩:∃n,n=ms.length:=⟨_,rfl⟩
 rw[←hn] at dB
 subst dB
 refine xS ?_;clear hn;intro HN hlt;(have C0:=fun w=>Ve f g w)
 unfold gg at C0
 obtain⟨kM,GW,hno,hnh,dU⟩:=ql6.1 hG
 rw[kM] at C0
 have HG:aK (iX f=true):=kM;have YN:=qpn kM;clear kM
 go_enter func135,ntmps135
 go_wp2_with (first|(refine Jb ?_;clear hB;intro bT w1 RT hb1 lT hB;have tU:=RT.iP)|(refine m5z ?_)|(go_at_call 183;go_fit (C0 _);rintro e w5 ⟨rfl,bh⟩;clear tU;replace RT:=RT.below bh;refine gl ?_;clear hB;intro hB)|(refine ay 42 zg ?_;intro bN w2 lN RN hb2;have nTN:=RT.ne lN;replace lN:=aw hB.size lN;replace RT:=RT.below hb2;refine Yg ?_;clear hB;intro hB cM)|(go_at_call 183;go_fit (C0 _);rintro e w5 ⟨rfl,bh⟩;refine gl ?_;clear hB;intro hB))
 go_loopw [15] (fun i W=>∃j:Nat,j<=ms.length/\i=I Z j/\aq w.heap.size w W/\aP 42 W bT (tc f g h (.slice a0 n cap))/\aP 42 W bN (tc (tP f (ms.take j)) (fun _=>false) (tQ h (ms.take j)) (.slice none 0 0))) (fun i _=>n-(cY i).toNat)
 case atStart=>exact⟨0,by omega,rfl,hB,RT,by rw[List.take_zero,q09,q3t];exact RN⟩
 case round=>
  clear hB RT RN cM hb1
  obtain⟨j,hj,rfl,hB,RT,RN⟩:=hrel
  by_cases cz:j<ms.length
  ·(have mA:(j:Int)<(n:Int):=by have:=HN.out;omega);(have hjc:(j:Int)<=(cap:Int):=by have:=hM.cap;omega);(have hj0:(0:Int)<=(j:Int):=by omega);have fU:=qga cz hM.len
   obtain⟨⟨p,s,i,a,q⟩,hm⟩:∃m,ms[j]=m:=⟨_,rfl⟩
   refine Jc ?_;intro iv hrg;have kO:(p,s,i,a,q)∈ms:=hm▸List.getElem_mem cz;have wP:=Og cz hm;have h0:jM f h (ms.take (j+1)):=YM GW _
   rw[wP,UT] at h0
   obtain⟨-,u5,hmt⟩:=h0
   have hst:aK (pD f h (p,s,i,a,q)):=u5;have Ab:aK (rB (ms.take j) (p,s,i,a,q)=false):=hmt;(have C4:=fun w=>UU (p,s,i,a,q) w);have zZ:0<=s/\s<8:=u5.2.1;have dR:(1024<=q/\q<1072)/\0<=a/\a<3:=⟨u5.2.2.2.1,u5.2.2.2.2.1⟩;have hI:rF (p,s,i,a,q)=true:=decide_eq_true dR;have hA:mX (p,s,i,a,q)=a:=aZ hI;have hQ:mY (p,s,i,a,q)=(q-1024)/8:=aZ hI
   rw[hI,hA,hQ] at C4
   obtain⟨kk,hK⟩:∃kk,kk=(q-1024)/8:=⟨_,rfl⟩
   rw[←hK] at C4
   (have hpl:nP a q=a.toNat*6+kk.toNat:=by unfold nP;rw[hK];omega);(have Yt:0<=kk:=by omega);(have Qf:kk<6:=by omega);have ha0:0<=a:=dR.2.1;have wN:a<3:=dR.2.2;have hs0:0<=s:=zZ.1;have kG:s<8:=zZ.2;(have tW:a.toNat*6+kk.toNat<18:=by omega);(have pG:s.toNat<8:=by omega);refine m4f ?_;intro hsw U4 Jg Jh
   have s7:aK (upd (tP f (ms.take j)) (a.toNat*6+kk.toNat) (s+1)=tP f (ms.take (j+1))):=by
    show _=_
    have:=qyv (ms:=ms.take j) u5
    rw[←wP] at this
    rw[←hpl];exact this
   have YO:aK (upd (tQ h (ms.take j)) s.toNat (a+1)=tQ h (ms.take (j+1))):=by
    show _=_
    have:=qy1 (ms:=ms.take j) u5
    rw[←wP] at this
    exact this
   clear u5 kO wP hm hmt hI hA hQ hK hpl dR zZ
   go_wp2_with (first|(refine qU rfl (.tmp 13) (.tmp 15) rfl (.slice a0 n cap) ms iv rfl j rfl cz ?_)|(refine jB rfl 72 _ rfl _ _ rfl (jn (p,s,i,a,q)) _ hrg underlying72 rfl (xR _) ?_;rw[Ag])|(refine GR ?_;intro b5 w3 l5 R5 hb3;have nT:=RT.ne l5;have nN:=RN.ne l5;replace l5:=aw hB.size l5;replace RT:=RT.below hb3;replace RN:=RN.below hb3;replace hB:=hB.trans (hb3.mono hB.size))|(refine sx (mc (p,s,i,a,q)) R5 ?_;intro w4 R5 t4;replace RT:=t4.row RT nT;replace RN:=t4.row RN nN;replace hB:=t4.below _ _ l5 hB))
   refine RD (fun W=>aP 42 W bT (tc f g h (.slice a0 n cap))/\aP 72 W b5 (mc (p,s,i,a,q))) ⟨RT,R5⟩ (fun _=>?_)
   refine tk 0 (.agg (tc f g h (.slice a0 n cap))) rfl (yx (fun _ h=>h.1)) ⟨RT,R5⟩ (tk 1 (.agg (mc (p,s,i,a,q))) rfl (rA 72 (.tmp 5) rfl kr b5 kr (mc (p,s,i,a,q)) (fun _ h=>h.2) _ underlying72 rfl (lS (p,s,i,a,q))) ⟨RT,R5⟩ ?_)
   simp only[ZZ];refine AR [2] ?_
   refine AC (fun K hK=>?_) AZ
   go_simp;go_at_call 184;refine(Ys hst.out _).mono ?_;rintro e w5 ⟨rfl,bh⟩;(try replace bh:=GU bh);replace RT:=RT.below bh;replace RN:=RN.below bh;replace R5:=R5.below bh;refine gl ?_;clear hB;intro hB
   go_wp2_with fail
   refine hK.out _ _ ⟨RT,R5⟩ (fun _=>?_)
   clear hK K;(try simp only[ZZ]);refine tq 3 (.bool false) rfl ⟨RT,R5⟩ (tq 4 (.bool false) rfl ⟨RT,R5⟩ (tq 5 ((V (some ⟨bT,29,none⟩))) rfl ⟨RT,R5⟩ ?_));simp only[ZZ];(refine tk 6 (.slice a0 n cap) rfl (Or.inl ⟨by kernel_rfl,by intro w hS;have hc:w.cell? ⟨bT,29,none⟩=some (.slice a0 n cap):=(hS.1.cell 29).trans (ma _ _ _ _);go_simp⟩) ⟨RT,R5⟩ (tq 7 (I Z (j:Int)) rfl ⟨RT,R5⟩ (tq 8 (.slice a0 j cap) rfl ⟨RT,R5⟩ ?_)));simp only[ZZ]
   refine tk 9 (.agg (mc (p,s,i,a,q))) rfl (rA 72 (.tmp 5) rfl kr b5 kr (mc (p,s,i,a,q)) (fun _ h=>h.2) _ underlying72 rfl (lS (p,s,i,a,q))) ⟨RT,R5⟩ ?_
   simp only[ZZ];refine AR [10] ?_
   refine AC (fun K hK=>?_) AZ
   go_simp;go_at_call 185;refine(Yr Ab.out ((hM.keep hB hlt).take j hj)).mono ?_;rintro e w5 ⟨rfl,bh⟩;(try replace bh:=GU bh);replace RT:=RT.below bh;replace RN:=RN.below bh;replace R5:=R5.below bh;refine gl ?_;clear hB;intro hB
   go_wp2_with fail
   refine hK.out _ _ ⟨RT,R5⟩ (fun _=>?_)
   clear hK K;(try simp only[ZZ]);refine tq 11 (.bool false) rfl ⟨RT,R5⟩ ?_;refine oM ?_
   go_wp2_with (first|(refine lx 72 _ (mc (p,s,i,a,q)) R5 ?_)|(go_at_call 156;go_fit (C4 _);rintro e w5 ⟨rfl,bh⟩;(try replace bh:=GU bh);replace RT:=RT.below bh;replace RN:=RN.below bh;replace R5:=R5.below bh;refine gl ?_;clear hB;intro hB)|(refine ay 177 Oe ?_;intro b6 w6 l6 R6 j6;have m5:=R5.ne l6;have n6:=RN.ne l6;have mT:=RT.ne l6;replace l6:=aw hB.size l6;replace R5:=R5.below j6;replace RT:=RT.below j6;replace RN:=RN.below j6;replace hB:=hB.trans (j6.mono hB.size))|(refine sx (mJ a kk) R6 ?_;intro w7 R6 t7;replace R5:=t7.row R5 m5;replace RT:=t7.row RT mT;replace RN:=t7.row RN n6;replace hB:=t7.below _ _ l6 hB))
   refine RD (fun W=>aP 72 W b5 (mc (p,s,i,a,q))/\aP 177 W b6 (mJ a kk)) ⟨R5,R6⟩ (fun _=>?_)
   refine tq 0 ((V (some ⟨b6,0,none⟩))) rfl ⟨R5,R6⟩ (tk 1 (I Z a) rfl (Or.inl ⟨by kernel_rfl,by intro w hS;have hc:=Qe hS.2;go_simp⟩) ⟨R5,R6⟩ (tq 2 ((V (some ⟨b6,1,none⟩))) rfl ⟨R5,R6⟩ ?_));simp only[ZZ];refine tk 3 (I Z kk) rfl (Or.inl ⟨by kernel_rfl,by intro w hS;have hc:=p1 hS.2;go_simp⟩) ⟨R5,R6⟩ (tq 4 ((V (some ⟨b5,1,none⟩))) rfl ⟨R5,R6⟩ (tk 5 (I Z s) rfl (Or.inl ⟨by kernel_rfl,by intro w hS;have hc:=m1 hS.1;go_simp⟩) ⟨R5,R6⟩ ?_));simp only[ZZ];refine tq 6 (I Z (s+1)) rfl ⟨R5,R6⟩ (tq 7 ((V (some ⟨bN,0,none⟩))) rfl ⟨R5,R6⟩ (tq 8 ((V (some ⟨bN,0,none⟩))) rfl ⟨R5,R6⟩ ?_));simp only[ZZ];refine tq 9 ((V (some ⟨bN,a.toNat*6,none⟩))) rfl ⟨R5,R6⟩ (tq 10 ((V (some ⟨bN,a.toNat*6+kk.toNat,none⟩))) rfl ⟨R5,R6⟩ ?_);simp only[ZZ];refine AR [11] ?_
   refine AP (fun K hK=>?_) AZ
   have fz:=RN.free (a.toNat*6+kk.toNat);have hc:World.cell? _ ⟨bN,a.toNat*6+kk.toNat,none⟩=some (I Z (tP f (ms.take j) (a.toNat*6+kk.toNat))):=(RN.cell _).trans (I9 _ _ _ _ _ tW);(unfold Oper.wp bG;go_simp);replace R5:=R5.other (b:=bN) (o:=a.toNat*6+kk.toNat) (v:=I Z (s+1)) nN.symm;replace R6:=R6.other (b:=bN) (o:=a.toNat*6+kk.toNat) (v:=I Z (s+1)) n6.symm;replace RT:=RT.other (b:=bN) (o:=a.toNat*6+kk.toNat) (v:=I Z (s+1)) nTN;replace RN:=RN.set (o:=a.toNat*6+kk.toNat) (v:=I Z (s+1));rw[q9h _ _ _ _ _ _ tW] at RN;replace hB:=hB.setCell (p:=⟨bN,a.toNat*6+kk.toNat,none⟩) lN (I Z (s+1));clear fz hc
   refine hK.out _ _ ⟨R5,R6⟩ (fun _=>?_)
   clear hK K;(try simp only[ZZ]);refine AN ?_;have d1:=m1 R5;have d3:=m3 R5;have fN:=RN.free (21+s.toNat);have cN:World.cell? _ ⟨bN,21+s.toNat,none⟩=some (I Z (tQ h (ms.take j) s.toNat)):=(RN.cell _).trans (Af _ _ _ _ _ pG)
   go_wp2
   replace RT:=RT.other (b:=bN) (o:=21+s.toNat) (v:=I Z (a+1)) nTN;replace RN:=RN.set (o:=21+s.toNat) (v:=I Z (a+1))
   rw[Oc _ _ _ _ _ _ pG,s7.out,YO.out] at RN
   replace hB:=hB.setCell (p:=⟨bN,21+s.toNat,none⟩) lN (I Z (a+1))
   go_roundw
   case rel=>exact⟨j+1,by omega,by go_num,by first|exact hB|exact Qg hB|exact Qg (Qg hB),RT,RN⟩
   case measure=>rw[fU];exact Aj (HN.out.symm▸cz)
  .refine Vd ?_;intro e mA
   rw[e,bn] at RN
   have hwN:=q5z ms HG.out;have hwM:=q5e ms j8;clear e hj cz;have hEO:aK (pE (tP f ms) f 18=true):=(Yp _ _ _).2 hno;have hEH:aK (pE (tQ h ms) h 8=true):=(Yp _ _ _).2 hnh;have hfw:aK _:=dU
   go_wp2_with (first|(refine jB ?_ 35 _ rfl bN 0 rfl (Jd (tP f ms)) _ RN.uZ underlying35 rfl (Yi _) ?_;(· rfl);rw[Yh])|(refine jB ?_ 35 _ rfl bT 0 rfl (Jd f) _ RT.uZ underlying35 rfl (Yi _) ?_;(· rfl);rw[Yh])|(refine zX 35 _ _ rfl rfl (oc (tP f ms)) (oc f) rfl rfl eqGuardType35 _ _ (qq8 _ _ hwN YN _) hEO.out ?_)|(refine qe0 39 _ rfl ?_ bN 21 rfl (kF (tQ h ms)) _ RN.homes underlying39 rfl (U3 _) ?_;(· rfl);rw[qkf])|(refine qe0 39 _ rfl ?_ bT 21 rfl (kF h) _ RT.homes underlying39 rfl (U3 _) ?_;(· rfl);rw[qkf])|(refine zX 39 _ _ rfl ?_ (wM (tQ h ms)) (wM h) rfl rfl eqGuardType39 _ _ (qmy _ _ hwM j8 _) hEH.out ?_;· rfl)|(refine qf 42 _ rfl ?_ _ rfl (tc f g h (.slice a0 n cap)) RT _ underlying42 rfl (oD _ _ _ _) ?_;· rfl)|(go_at_call 186;refine(YL hfw.out (hM.keep hB hlt)).mono ?_;rintro e w5 ⟨rfl,bh⟩;refine gl ?_;clear hB;intro hB))
   go_ret
   exact⟨rfl,hB⟩
def vd(f h:Nat->Int)(ms:List Mp)(p s i:Int):Prop:=gM f h ms/\uU p=true/\(0<=s/\s<8)/\0<=i/\i<=65535
def GX(f:Nat->Int)(g:Nat->Bool)(h:Nat->Int)(sl:ag)(m:Mp)(took:Bool)(e:Int):ag:=.tuple #[.agg (tc f g h sl),.agg (mc m),.bool took,I Z e]
def Qo{p q y:Tmp}{u:bt}(hf:fn.results=#[.cell p t,.cell q u,.tmp x,.tmp y])(tmps:Array ag)(w:af)(b c:Nat)(cs ds:Array ag)(hp:tmps.getD p gW=V (some ⟨b,0,none⟩))(hq:tmps.getD q gW=V (some ⟨c,0,none⟩))(h:aP t w b cs)(h':aP u w c ds)(d d':TypeDesc)(hu:ah.underlying t=some d)(Qp:ah.underlying u=some d')(hd:d.isRow=true)(xT:d'.isRow=true)(hi:(ah.info? t).map (·.size)=some cs.size)(hi':(ah.info? u).map (·.size)=some ds.size):
  (eQ fn tmps).run ah w=.ok (.tuple #[.agg cs,.agg ds,tmps.getD x gW,tmps.getD y gW]) w:=by
 (have qm:tmps[p]?.getD gW=V (some ⟨b,0,none⟩):=by simpa using hp);(have hq':tmps[q]?.getD gW=V (some ⟨c,0,none⟩):=by simpa using hq);have hl:=run_loadVar_mid (P:=ah) w b 0 t cs.toList d (h.range (fun j v hv=>by rw[bX];simpa using hv)) hu hd (by simpa using hi);have hl':=run_loadVar_mid (P:=ah) w c 0 u ds.toList d' (h'.range (fun j v hv=>by rw[bX];simpa using hv)) Qp xT (by simpa using hi')
 simp only[Array.toArray_toList] at hl hl'
 simp[eQ,hf,qm,hq',asAddr,hl,hl']
def q0s(f:Nat->Int)(g:Nat->Bool)(h:Nat->Int)(sl:ag)(ms:List Mp)(p s i d:Int)(w:af)(hM:cE w sl ms)(j8:qh h)(hP:vd f h ms p s i)(m:Mp)(hf:ms.find? (kf p s i)=some m):
  az ah 74 #[.agg (tc f g h sl),I Z p,I Z s,I Z i,I Z d] w fun e w'=>e=.returned (GX f g h sl m false 0)/\aq w.heap.size w w':=by
 refine gP ?_;intro hB;have fh:=hM
 obtain⟨a0,cap,dB,-⟩:=fh
 obtain⟨n,hn⟩:∃n,n=ms.length:=⟨_,rfl⟩
 rw[←hn] at dB
 subst dB
 clear hn;refine Vf ?_;intro hlt CG G hp hs qY Au hs0 kG;refine Vg ?_;intro C1 C2 C3 e2 e3
 rw[hp] at C1
 rw[e2] at C2
 rw[e3] at C3
 refine Vh ?_;intro HG CF
 rw[hf] at CF
 unfold sZ at CF
 clear G hp hs qY Au e2 e3 hf
 go_enter func74,ntmps74
 go_wp2_with (first|(refine E5 ?_;intro b5 w1 l5 R5 hb1;replace l5:=aw hB.size l5;refine kZ ?_;clear hB;intro hB)|(refine ax 10 42 zg ?_;intro nS w2 mK bw hb2;have n5a:=R5.ne mK;replace mK:=aw hB.size mK;replace R5:=R5.below hb2;replace hB:=hB.trans (hb2.mono hB.size))|(refine ax 11 72 uW ?_;intro ja w3 mZ cQ hb3;have n5b:=R5.ne mZ;refine Vi ?_;clear mZ R5 bw hB;intro xU mZ R5 bw hB)|(refine lx 42 (.tmp 5) (tc f g h (.slice a0 n cap)) R5 ?_)|(go_at_call 135;refine Jm ?_;intro w5 bh;refine xV ?_;clear R5 bw cQ hB;intro R5 bw cQ hB)|(go_at_call 136;go_fit (C1 _);refine gy ?_)|(go_at_call 137;go_fit (C2 _);refine gy ?_)|(go_at_call 138;go_fit (C3 _);refine gy ?_)|(go_at_call 139;go_fit (CF _ (hM.keep hB hlt));rintro e w5 ⟨rfl,bh⟩;refine xV ?_;clear R5 bw cQ hB;intro R5 bw cQ hB)|(refine Vj ?_;clear R5 bw cQ hB;intro nu w8 nU iQ Jn GY GZ zh R5 bw cQ hB)|(refine sx (mc m) nU ?_;intro w9 nU t9;replace R5:=t9.row R5 Jn;replace bw:=t9.row bw GY;replace cQ:=t9.row cQ GZ;replace hB:=t9.below _ _ zh hB))
 refine RD (fun W=>aP 42 W b5 (tc f g h (.slice a0 n cap))/\aP 72 W nu (mc m)) ⟨R5,nU⟩ (fun _=>?_)
 refine tk 0 (.agg (tc f g h (.slice a0 n cap))) rfl (yx (fun _ h=>h.1)) ⟨R5,nU⟩ (tk 1 (.agg (mc m)) rfl (rA 72 (.tmp 14) rfl kr nu kr (mc m) (fun _ h=>h.2) _ underlying72 rfl (lS m)) ⟨R5,nU⟩ ?_)
 simp only[ZZ];refine AR [2] ?_
 refine AP (fun K hK=>?_) AZ
 refine UQ 42 (.tmp 10) (.tmp 50) rfl nS rfl (tc f g h (.slice a0 n cap)) rfl _ bw (Aq _ _ _ _ _ _ _ _) (oD _ _ _ _) (zf _ _ _ _ _ _) ?_;intro cr bw t16;(try replace t16:=YH t16);replace R5:=t16.row R5 n5a;replace cQ:=t16.row cQ xU.symm;replace nU:=t16.row nU GY.symm;replace hB:=t16.below _ _ mK hB
 refine hK.out _ _ ⟨R5,nU⟩ (fun _=>?_)
 clear hK K;(try simp only[ZZ]);refine AR [3] ?_
 refine AP (fun K hK=>?_) AZ
 refine sy (mc m) cQ ?_;intro YP cQ t17;replace R5:=t17.row R5 n5b;replace bw:=t17.row bw xU;replace nU:=t17.row nU GZ.symm;replace hB:=t17.below _ _ mZ hB
 refine hK.out _ _ ⟨R5,nU⟩ (fun _=>?_)
 clear hK K;(try simp only[ZZ]);refine tq 4 (.bool false) rfl ⟨R5,nU⟩ (tq 5 (I Z 0) rfl ⟨R5,nU⟩ ?_);refine oM ?_
 go_wp2
 (refine aL (Qo rfl _ _ _ _ _ _ rfl rfl bw cQ _ _ underlying42 underlying72 rfl rfl (oD _ _ _ _) (lS _)) rfl ⟨rfl,by first|exact hB ⟩)
def q2q(f:Nat->Int)(g:Nat->Bool)(h:Nat->Int)(sl:ag)(ms:List Mp)(p s i d:Int)(w:af)(hM:cE w sl ms)(j8:qh h)(hP:vd f h ms p s i)(hf:ms.find? (kf p s i)=none)(hc:bV ms s=12):
  az ah 74 #[.agg (tc f g h sl),I Z p,I Z s,I Z i,I Z d] w fun e w'=>e=.returned (GX f g h sl fW false 6)/\aq w.heap.size w w':=by
 refine gP ?_;intro hB;have fh:=hM
 obtain⟨a0,cap,dB,-⟩:=fh
 obtain⟨n,hn⟩:∃n,n=ms.length:=⟨_,rfl⟩
 rw[←hn] at dB
 subst dB
 clear hn;refine Vf ?_;intro hlt CG G hp hs qY Au hs0 kG;refine Vg ?_;intro C1 C2 C3 e2 e3
 rw[hp] at C1
 rw[e2] at C2
 rw[e3] at C3
 refine Vh ?_;intro HG CF
 rw[hf] at CF
 unfold sZ at CF
 (have CC:=fun w hM=>YK f g h (.slice a0 n cap) ms s w hM)
 rw[hc] at CC
 clear G hp hs qY Au e2 e3 hf hc
 go_enter func74,ntmps74
 go_wp2_with (first|(refine E5 ?_;intro b5 w1 l5 R5 hb1;replace l5:=aw hB.size l5;refine kZ ?_;clear hB;intro hB)|(refine YQ ?_;clear R5 hB;intro nS w2 bw hb2 mK R5 hB)|(refine ax 11 72 uW ?_;intro ja w3 mZ cQ hb3;refine Vi ?_;clear mZ R5 bw hB;intro xU mZ R5 bw hB)|(refine lx 42 (.tmp 5) (tc f g h (.slice a0 n cap)) R5 ?_)|(go_at_call 135;refine Jm ?_;intro w5 bh;refine xV ?_;clear R5 bw cQ hB;intro R5 bw cQ hB)|(go_at_call 136;go_fit (C1 _);refine gy ?_)|(go_at_call 137;go_fit (C2 _);refine gy ?_)|(go_at_call 138;go_fit (C3 _);refine gy ?_)|(go_at_call 139;go_fit (CF _ (hM.keep hB hlt));rintro e w5 ⟨rfl,bh⟩;refine xV ?_;clear R5 bw cQ hB;intro R5 bw cQ hB)|(refine Vj ?_;clear R5 bw cQ hB;intro nu w8 nU iQ Jn GY GZ zh R5 bw cQ hB)|(refine YR ?_;clear R5 bw cQ hB;intro w9 nU t9 R5 bw cQ hB)|(go_at_call 140;go_fit (CC _ (hM.keep hB hlt));rintro e w5 ⟨rfl,bh⟩;(try clear nU);refine xV ?_;clear R5 bw cQ hB;intro R5 bw cQ hB)|(refine Qq ?_;intro w6 bw t6;replace cQ:=t6.row cQ xU.symm;replace hB:=t6.below _ _ mK hB)|(refine sx (mc fW) cQ ?_;intro w7 cQ t7;replace bw:=t7.row bw xU;replace hB:=t7.below _ _ mZ hB))
 (refine aL (Qo rfl _ _ _ _ _ _ rfl rfl bw cQ _ _ underlying42 underlying72 rfl rfl (oD _ _ _ _) (lS _)) rfl ⟨rfl,hB⟩)
def q4y(f:Nat->Int)(g:Nat->Bool)(h:Nat->Int)(sl:ag)(ms:List Mp)(p s i d:Int)(w:af)(hM:cE w sl ms)(j8:qh h)(hd:(Lit.int .i64 d).wf=true)(hP:vd f h ms p s i)(hf:ms.find? (kf p s i)=none)(hc:bV ms s≠12)(he:(fg f g h ms p s d).e≠0):
  az ah 74 #[.agg (tc f g h sl),.int .i64 p,.int .i64 s,.int .i64 i,.int .i64 d] w fun e w'=>e=.returned (GX f g h sl fW false (fg f g h ms p s d).e)/\aq w.heap.size w w':=by
 refine gP ?_;intro hB;have fh:=hM
 obtain⟨a0,cap,dB,-⟩:=fh
 obtain⟨n,hn⟩:∃n,n=ms.length:=⟨_,rfl⟩
 rw[←hn] at dB
 subst dB
 clear hn;refine Vf ?_;intro hlt CG G hp hs qY Au hs0 kG;(have pG:s.toNat<8:=by omega);refine Vg ?_;intro C1 C2 C3 e2 e3
 rw[hp] at C1
 rw[e2] at C2
 rw[e3] at C3
 refine Vh ?_;intro HG CF
 rw[hf] at CF
 unfold sZ at CF
 refine m5g ?_;intro CC dc CR
 unfold YI at CR
 (have dE:((fg f g h ms p s d).e != 0)=true:=by simp[he])
 generalize fg f g h ms p s d=r at *
 obtain⟨rf,rh,rq,rt,re⟩:=r
 simp only at CR dE he ⊢
 generalize bV ms s=cc at *
 clear G hp hs qY Au e2 e3 hf hc he
 go_enter func74,ntmps74
 go_wp2_with (first|(refine E5 ?_;intro b5 w1 l5 R5 hb1;replace l5:=aw hB.size l5;refine kZ ?_;clear hB;intro hB)|(refine YQ ?_;clear R5 hB;intro nS w2 bw hb2 mK R5 hB)|(refine ax 11 72 uW ?_;intro ja w3 mZ cQ hb3;refine Vi ?_;clear mZ R5 bw hB;intro xU mZ R5 bw hB)|(refine lx 42 (.tmp 5) (tc f g h (.slice a0 n cap)) R5 ?_)|(go_at_call 135;refine Jm ?_;intro w5 bh;refine xV ?_;clear R5 bw cQ hB;intro R5 bw cQ hB)|(go_at_call 136;go_fit (C1 _);refine gy ?_)|(go_at_call 137;go_fit (C2 _);refine gy ?_)|(go_at_call 138;go_fit (C3 _);refine gy ?_)|(go_at_call 139;go_fit (CF _ (hM.keep hB hlt));rintro e w5 ⟨rfl,bh⟩;refine xV ?_;clear R5 bw cQ hB;intro R5 bw cQ hB)|(refine Vj ?_;clear R5 bw cQ hB;intro nu w8 nU iQ Jn GY GZ zh R5 bw cQ hB)|(refine YR ?_;clear R5 bw cQ hB;intro w9 nU t9 R5 bw cQ hB)|(go_at_call 140;go_fit (CC _ (hM.keep hB hlt));rintro e w5 ⟨rfl,bh⟩;(try clear nU);refine xV ?_;clear R5 bw cQ hB;intro R5 bw cQ hB)|(go_at_call 141;go_fit (CR _ (hM.keep hB hlt));rintro e w5 ⟨rfl,bh⟩;refine xV ?_;clear R5 bw cQ hB;intro R5 bw cQ hB)|(refine ax 16 42 zg ?_;intro Av Er wQ R16 jN;have YS:=R5.ne wQ;have Qr:=bw.ne wQ;have Qs:=cQ.ne wQ;replace wQ:=aw hB.size wQ;replace R5:=R5.below jN;replace bw:=bw.below jN;replace cQ:=cQ.below jN;replace hB:=hB.trans (jN.mono hB.size))|(refine m53 ?_;intro Vk R16 t11;replace R5:=t11.row R5 YS;replace bw:=t11.row bw Qr;replace cQ:=t11.row cQ Qs;replace hB:=t11.below _ _ wQ hB)|(refine Qq ?_;intro w6 bw t6;replace cQ:=t6.row cQ xU.symm;replace hB:=t6.below _ _ mK hB)|(refine sx (mc fW) cQ ?_;intro w7 cQ t7;replace bw:=t7.row bw xU;replace hB:=t7.below _ _ mZ hB))
 (refine aL (Qo rfl _ _ _ _ _ _ rfl rfl bw cQ _ _ underlying42 underlying72 rfl rfl (oD _ _ _ _) (lS _)) rfl ⟨rfl,hB⟩)
end Go.Proofs.YtnkpgdejagglaaaGreatDoor
