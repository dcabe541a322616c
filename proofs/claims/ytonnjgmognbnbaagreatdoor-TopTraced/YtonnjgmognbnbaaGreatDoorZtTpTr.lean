/-
  Of what a law stands on.
-/
import Derived.Test.YtonnjgmognbnbaaGreatDoorZtTpYs
set_option linter.unusedSimpArgs false
set_option linter.unusedVariables false
namespace Go.Proofs.YtonnjgmognbnbaaGreatDoor
open Go.Value renaming int → I,pointer → V
open Go.IntKind renaming i64 → Z
open _root_.Go.Proofs.Tryz Go.ChangeShapes Go.WideShapes Go.ChangeAt Go.RowKit Go.Maps
set_option maxHeartbeats 16000000
set_option maxRecDepth 100000
variable {w:World}{c:Nat}{o:Obj}
structure Rg(G:Nat->Prop)(bl:Nat)(X:ByteArray)(w0 W:World)(L:List (Nat×Obj)):Prop where
 gr:Gr G w0 W
 nodup:(L.map (·.1)).Nodup
 rows:∀y∈L,W.heap[y.1]?=some y.2/\w0.heap.size<=y.1
 lg:Row 9 W bl #[.string X]
 lt:bl<w0.heap.size
 gb:G bl
section
variable {G:Nat->Prop} {bl:Nat} {X:ByteArray} {w0 W W':World} {L:List (Nat×Obj)}
theorem Rg.start(R:Row 9 w bl #[.string X])(hG:G bl):Rg G bl X w w []:=⟨Gr.refl _ _,by simp,by simp,R,Row.lt R,hG⟩
theorem Rg.row(h:Rg G bl X w0 W L)(i:Nat){t:TypeId}{cs:Array Value}(hi:L[i]?=some (c,ob t cs)):Row t W c cs:=(h.rows _ (List.mem_of_getElem? hi)).1
theorem Rg.blt(h:Rg G bl X w0 W L)(hc:c∈L.map (·.1)):c<W.heap.size:=by
 obtain⟨y,hy,rfl⟩:=List.mem_map.1 hc
 exact(Array.getElem?_eq_some_iff.1 (h.rows y hy).1).1
theorem Rg.below(h:Rg G bl X w0 W L)(hb:Below W.heap.size W W'):Rg G bl X w0 W' L:=
 ⟨h.gr.trans (Gr.of_below (F:=fun _=>False) hb) (fun _ h=>h.elim),h.nodup,fun y hy=>⟨(hb.block _ (h.blt (List.mem_map.2 ⟨y,hy,rfl⟩))).trans (h.rows y hy).1,(h.rows y hy).2⟩,(hb.block _ (Row.lt h.lg)).trans h.lg,h.lt,h.gb⟩
theorem Rg.drew(h:Rg G bl X w0 W L):Rg G bl X w0 W.drew L:=h.below (Below.refl _ _).drew
theorem Rg.alloc(h:Rg G bl X w0 W L)(hl:W.heap.size<=c)(R:W'.heap[c]?=some o)(hb:Below W.heap.size W W'):Rg G bl X w0 W' ((c,o)::L):=by
 have h':=h.below hb
 refine⟨h'.gr,?_,fun y hy=>?_,h'.lg,h.lt,h.gb⟩
 ·rw[List.map_cons,List.nodup_cons]
  exact⟨fun hm=>by have:=h.blt hm;simp only at *;omega,h.nodup⟩
 ·rcases List.mem_cons.1 hy with rfl|hy
  ·exact⟨R,Nat.le_trans h.gr.size hl⟩
  ·exact h'.rows y hy
theorem Rg.turn(h:Rg G bl X w0 W L)(i:Nat){o':Obj}(hi:L[i]?=some (c,o))(R:W'.heap[c]?=some o')(T:qbl c W W'):Rg G bl X w0 W' (L.set i (c,o')):=by
 have hlt:i<L.length:=(List.getElem?_eq_some_iff.1 hi).1;have hLi:L[i]=(c,o):=(List.getElem?_eq_some_iff.1 hi).2
 have hm:(L.set i (c,o')).map (·.1)=L.map (·.1):=by
  apply List.ext_getElem?
  intro j;refine m4t ?_
  by_cases hj:i=j
  ·subst hj;simp[hlt,hLi]
  ·simp[hj]
 have hc:=h.rows _ (List.mem_of_getElem? hi)
 refine⟨h.gr.trans (qcq T) (fun x hx=>.inr (hx▸hc.2)),by rw[hm];exact h.nodup,fun y hy=>?_,T.row h.lg (fun e=>by have:=h.lt;have:=hc.2;simp only at *;omega),h.lt,h.gb⟩
 obtain⟨j,hj⟩:=List.mem_iff_getElem?.1 hy
 rw[List.getElem?_set] at hj
 by_cases hij:i=j
 ·subst hij
  rw[if_pos rfl,if_pos hlt] at hj
  obtain rfl:=Option.some.inj hj
  exact⟨R,hc.2⟩
 ·rw[if_neg hij] at hj
  have hy':=List.mem_of_getElem? hj
  refine⟨(T.other _ (fun e=>hij ?_)).trans (h.rows y hy').1,(h.rows y hy').2⟩
  refine m36 ?_;intro e1 e2
  exact(List.getElem?_inj (by simpa using hlt) h.nodup).1 (by rw[e1,e2])
theorem Rg.setL{Y:ByteArray}(h:Rg G bl X w0 W L)(R:Row 9 W' bl #[.string Y])(T:qbl bl W W'):Rg G bl Y w0 W' L:=
 ⟨h.gr.trans (qcq T) (fun x hx=>.inl (by rw[hx];exact h.gb)),h.nodup,fun y hy=>⟨(T.other _ (fun e=>by have:=(h.rows y hy).2;have:=h.lt;omega)).trans (h.rows y hy).1,(h.rows y hy).2⟩,R,h.lt,h.gb⟩
end
section
variable {ops:Array Oper} {S:World->Prop} {o:Oper} {a:Act}
theorem qjrb(f:Nat->Int)(g:Nat->Bool)(h:Nat->Int)(x:Option Addr)(n c:Nat)(w:World):(Instr.field 39 (.agg (tc f g h (.slice x n c))) 0).run prog w=.ok (.agg (pc f g)) w:=by kernel_rfl
theorem qjqb(f:Nat->Int)(g:Nat->Bool)(w:World):(Instr.field 35 (.agg (pc f g)) 0).run prog w=.ok (.agg (oc f)) w:=by kernel_rfl
theorem qjjb(x:Operand)(ho:o.op=.field 39 x 0)(hw:Region.wanted o (yielded ops a.tmps)=true)(f:Nat->Int)(g:Nat->Bool)(h:Nat->Int)(sa:Option Addr)(n c:Nat)(hx:a.eval x=.agg (tc f g h (.slice sa n c))):YieldsIf prog ops S o (.agg (pc f g)) a:=
 .inl ⟨hw,fun w _=>by unfold execOp;simp only[ho,hx,Sem.run_bind,qjrb,Result.andThen_ok,Sem.run_pure]⟩
theorem qjlb(x:Operand)(ho:o.op=.field 35 x 0)(hw:Region.wanted o (yielded ops a.tmps)=true)(f:Nat->Int)(g:Nat->Bool)(hx:a.eval x=.agg (pc f g)):YieldsIf prog ops S o (.agg (oc f)) a:=
 .inl ⟨hw,fun w _=>by unfold execOp;simp only[ho,hx,Sem.run_bind,qjqb,Result.andThen_ok,Sem.run_pure]⟩
theorem qjkb(x:Operand)(ho:o.op=.load 32 x)(hw:Region.wanted o (yielded ops a.tmps)=true)(b:Nat)(hx:a.eval x=V (some ⟨b,0,none⟩))(f:Nat->Int)(hS:∀w,S w->w.rangeAt b 0 (ocl f)):YieldsIf prog ops S o (.agg (oc f)) a:=by
 rw[←qip]
 exact qgw 32 x ho hw b 0 hx (ocl f) hS _ underlying32 rfl (qdqb f)
theorem qjnb(x:Operand)(n:Int)(ho:o.op=.binOp .geq 3 x (.const (I Z n)) 3)(hw:Region.wanted o (yielded ops a.tmps)=true)(m:Int)(hx:a.eval x=I Z m)(h:n<=m):YieldsIf prog ops S o (.bool true) a:=
 .inl ⟨hw,fun w _=>by have hz:a.eval (.const (I Z n))=I Z n:=rfl;unfold execOp;simp only[ho,hx,hz];simp[go_sem,h]⟩
theorem qjob(x:Operand)(n:Int)(ho:o.op=.binOp .lss 3 x (.const (I Z n)) 3)(hw:Region.wanted o (yielded ops a.tmps)=true)(m:Int)(hx:a.eval x=I Z m)(h:m<n):YieldsIf prog ops S o (.bool true) a:=
 .inl ⟨hw,fun w _=>by have hz:a.eval (.const (I Z n))=I Z n:=rfl;unfold execOp;simp only[ho,hx,hz];simp[go_sem,h]⟩
end
theorem qjib{ops:Array Oper}{rest:List Oper}{o:Oper}{a:Act}{Q:Exit->Act->World->Prop}(hgd:o.guard=none)(x:Operand)(c:Int)(ho:o.op=.binOp .sub 3 x (.const (I Z c)) 3)(n r:Int)(hx:a.eval x=I Z n)(hr:IntKind.i64.wrap (n-c)=r)(h:wpList prog ops Q rest (a.put o.dst (I Z r)) w):wpList prog ops Q (o::rest) a w:=
 wpList_plain hgd fun K hK=>by
  have h':=hK _ _ h;have hz:a.eval (.const (I Z c))=I Z c:=rfl
  subst hr
  unfold Oper.wp execOp
  simp only[ho,hx,hz]
  simp[go_sem]
  exact h'
theorem qjtb{j:Nat}(h:j<3):j=0\/j=1\/j=2:=by omega
theorem sixT{k:Nat}(h:k<6):k=0\/k=1\/k=2\/k=3\/k=4\/k=5:=by omega
theorem qjsb(f:Nat->Int)(g:Nat->Bool)(j k:Nat)(hj:j<3)(hk:k<6):(pc f g)[6*j+k]?=some (I Z (f (6*j+k))):=by
 rcases qjtb hj with rfl|rfl|rfl<;>rcases sixT hk with rfl|rfl|rfl|rfl|rfl|rfl<;>rfl
theorem sZtTpTr1{p:Prop}(h:p:=by
 go_wp2_with fail
 go_ret
 exact⟨rfl,B.gr,B.lg⟩):p:=h
theorem qjpb(bl:Nat)(G F:Nat->Prop)(hGb:G bl)(hG0:¬G 0)(hd:∀c,F c->¬G c)(L:ByteArray)(kd an dr:Int)(af:ByteArray)(c:Int)(fr:ByteArray)(inn:Bool)(lg:ByteArray)(s:Nt)(b:Nat)(W:World)(hN:qaw W b s (duF s.fs) F)(hT:Tab W)(hz:L.size+lg.size<=1000000)(hml:s.ms.length<=1000)(f3:Nat->Int)(all:List Ev)(CR:∀w,Tab w->Calls prog 27 #[.string (L++lg)] w fun x w'=>∃v,x=.returned (.tuple #[v,I Z 0])/\EvAt w' v all/\Below w.heap.size w w')(CO:∀w v,EvAt w v all->Calls prog 28 #[v] w fun x w'=>x=.returned (.tuple #[.agg (pc f3 g0'),I Z 0])/\Below w.heap.size w w')(hf3:wfF f3/\wfF s.f/\eqTo f3 s.f 18=true)(haf:af.size<=140737488351232)(hD:kd=1->c=0->inn=false->∃(xp:Pkt) (A:Nat) (mq:Int),bad af.data.toList=0/\qam af.data.toList=xp/\good ({ xp with ttl:=xp.ttl-1,src:=3405803777+(A:Int),sport:=mq }:Pkt)=0/\fr=txt (frame { xp with ttl:=xp.ttl-1,src:=3405803777+(A:Int),sport:=mq })/\A<3/\(1024<=mq/\mq<1072)/\(0<=xp.src/\xp.src<=4294967295)/\s.f (qdi (A:Int) mq)=xp.src-167772160)(Rl:Row 9 W bl #[.string L]):
  Calls prog 26 #[V (some ⟨b,0,none⟩),.agg (ac ⟨kd,an,dr,af⟩),.agg (Rp.cells ⟨c,fr,inn,lg⟩),V (some ⟨bl,0,none⟩)] W fun e w'=>e=.returned (.bool true)/\Gr G W w'/\Row 9 w' bl #[.string (L++lg)]:=by
 have B:=Rg.start Rl hGb;(have CT:=fun W' (hg:Gr G W W')=>qfa (hN.keep hg hd) hml)
 obtain⟨nm,hnm⟩:∃n,n=s.ms.length:=⟨_,rfl⟩
 obtain⟨f,hf⟩:∃f,f=s.f:=⟨_,rfl⟩
 obtain⟨g,hg⟩:∃g,g=s.g:=⟨_,rfl⟩
 obtain⟨h,hh⟩:∃h,h=s.h:=⟨_,rfl⟩
 rw[←hf,←hg,←hh,←hnm] at CT
 rw[←hf] at hf3 hD
 have HD:Hid _:=hidN hD;have HF3:Hid _:=hidN hf3;have HT:Hid (Tab W):=hT;have HG0:Hid (¬G 0):=hidN hG0;have HAF:Hid _:=hidN haf;clear hD hf3 hT hG0 haf hGb hd hN hml hnm hf hg hh Rl
 go_enter func26,ntmps26
 go_upto_region 4 with(first|((with_reducible refine gB 23 1 ?_);refine m64 ?_;intro b5 w9 l9 R9 h9;replace B:=B.alloc (o:=ob 23 (ac ⟨kd,an,dr,af⟩)) l9 R9 h9;clear R9 h9 l9)|((with_reducible refine gB 27 2 ?_);refine m3d ?_;intro b6 w9 l9 R9 h9;replace B:=B.alloc (o:=ob 27 (Rp.cells ⟨c,fr,inn,lg⟩)) l9 R9 h9;clear R9 h9 l9)|((with_reducible refine gL 9 3 ?_);refine qcm B.lg (.tmp 3) rfl kr 0 rfl _ rfl ?_)|((with_reducible refine gL 9 20 ?_);refine qcm (B.row 0 rfl) (.tmp 20) rfl kr 3 rfl lg (qb2 _) ?_)|((with_reducible refine gS 9 3 22 ?_);refine qbh B.lg rfl (.tmp 3) (.tmp 22) rfl 0 rfl (L++lg) rfl _ rfl _ rfl ?_;intro w9 R9 t9;replace B:=B.setL (Y:=L++lg) R9 t9;clear R9 t9)|(go_at_call 27;refine(CR _ (HT.out.gr B.gr HG0.out)).mono ?_;rintro e w5 ⟨v5,rfl,hE5,hb5⟩;clear CR;replace B:=B.below hb5;clear hb5)|(go_at_call 28;refine(CO _ _ hE5).mono ?_;rintro e w5 ⟨rfl,hb5⟩;clear CO hE5;replace B:=B.below hb5;clear hb5)|((with_reducible refine gA 35 ?_);refine ax 10 35 qe8b ?_;intro b10 w9 l9 R9 h9;replace B:=B.alloc (o:=ob 35 (pc z0 g0')) l9 R9 h9;clear R9 h9 l9)|((with_reducible refine gS 35 10 31 ?_);refine sx 35 (.tmp 10) _ (pc f3 g0') (B.row 0 rfl) ?_;refine m31 ?_;clear B;intro w9 B))
 have kS:Row 35 _ b10 (pc f3 g0'):=B.row 0 rfl
 refine RD (fun W=>Row 35 W b10 (pc f3 g0')) kS (fun _=>?_)
 replace B:=B.drew;refine tq 0 (I Z 0) rfl kS (tq 1 (.bool false) rfl kS (tq 2 (.bool false) rfl kS ?_));refine m5i ?_;refine tq 3 (I Z 0) rfl kS (tq 4 (.bool false) rfl kS (tq 5 (.bool false) rfl kS ?_));refine m5i ?_
 refine tq 6 (.bool false) rfl kS (tq 7 (V (some ⟨b10,0,none⟩)) rfl kS (tk 8 (.agg (oc f3)) rfl (qjkb (.tmp 40) rfl kr b10 kr f3 (fun _ h=>qeob h)) kS ?_))
 refine m5i ?_;refine tq 9 (V (some ⟨b,0,none⟩)) rfl kS ?_;refine m5i ?_;refine AR [10] ?_
 refine AC (fun K hK=>?_) AZ
 go_simp
 go_at_call 21;refine(CT _ B.gr).mono ?_;rintro e w8 ⟨sa,kc,rfl,-,-,-,hb8⟩;clear CT;replace B:=B.below hb8;clear hb8 kS;have kS:Row 35 _ b10 (pc f3 g0'):=B.row 0 rfl
 go_wp2_with fail
 refine hK.out _ _ kS (fun _=>?_)
 clear hK K;(try simp only[ZZ])
 refine tk 11 (.agg (pc f g)) rfl (qjjb (.tmp 43) rfl kr f g h sa nm kc kr) kS (tk 12 (.agg (oc f)) rfl (qjlb (.tmp 44) rfl kr f g kr) kS (tk 13 (.bool false) rfl (qry 32 (.tmp 41) (.tmp 45) rfl kr (oc f3) (oc f) kr kr eqGuardType32 _ _ (fun w=>qq8 f3 f HF3.out.1 HF3.out.2.1 w) (by rw[HF3.out.2.2];rfl)) kS ?_))
 refine m5i ?_;refine tq 14 (.bool false) rfl kS ?_;refine m1f ?_;have k0:World.cell? _ ⟨b5,0,none⟩=some (I Z kd):=(B.row 2 rfl).cell 0;have c0:World.cell? _ ⟨b6,0,none⟩=some (I Z c):=((B.row 1 rfl).cell 0).trans (qdt _);have i2:World.cell? _ ⟨b6,2,none⟩=some (.bool inn):=((B.row 1 rfl).cell 2).trans (qhx _);clear kS
 by_cases h1:kd=1
 ·subst h1
  by_cases h0:c=0
  ·subst h0
   cases hi:inn with
   | true=>
    subst hi
    clear HD
    exact sZtTpTr1
   | false=>
    subst hi
    obtain⟨xp,A,mq,hb,hx,hgy,hfr,hA3,hq,hsrc,hpl⟩:=HD.out rfl rfl rfl;(have CP:=fun w=>qch af w HAF.out)
    simp only[qgx,qb9,hb,hx,if_pos] at CP
    have hlen:=qnk _ hgy;(have CQ:=fun w=>qch fr w (by rw[hfr,qck];omega))
    rw[hfr] at CQ
    simp only[qgx,qds,(qev _ hgy).1,(qev _ hgy).2] at CQ
    rw[←hfr] at CQ
    obtain⟨K,hK⟩:∃K:Nat,(K:Int)=(mq-1024)/8:=⟨((mq-1024)/8).toNat,by omega⟩
    (have hK6:K<6:=by omega);(have CB:=fun w=>qs4 mq w)
    unfold blkS at CB
    rw[if_pos hq,←hK] at CB
    (have IA:=fun w=>idxA b10 A hA3 w);(have IK:=fun w=>idxK b10 A K hK6 w)
    obtain⟨sb,hsb⟩:∃sb,sb=xp.src-167772160:=⟨_,rfl⟩
    have HCE:Hid ((pc f3 g0')[6*A+K]?=some (I Z sb)):=hidN (by
     have e:=(qjn _ _ _).1 HF3.out.2.2 (6*A+K) om;(have hp:qdi (A:Int) mq=6*A+K:=by unfold qdi;rw[←hK];simp)
     rw[qjsb f3 g0' A K hA3 hK6,e,hsb,←hpl,hp])
    have HW1:Hid (IntKind.i64.wrap (xp.src-167772160)=sb):=hidN (by rw[IntKind.wrap_i64];omega);(have HA:Hid (0<=(A:Int)/\(A:Int)<3):=hidN ⟨by omega,by omega⟩);have HS1:Hid (IntKind.i64.wrap (3405803777+(A:Int)-3405803776)=(A:Int)+1):=hidN (by rw[IntKind.wrap_i64];omega);have HS2:Hid (IntKind.i64.wrap ((A:Int)+1-1)=(A:Int)):=hidN (by rw[IntKind.wrap_i64];omega);clear HD hb hx hgy hfr hlen hA3 hq hsrc hpl hK hK6 hsb
    generalize(mq-1024)%8=kq at CB
    go_upto_region 12 with(first|((with_reducible refine gL 9 61 ?_);refine qcm (B.row 2 rfl) (.tmp 61) rfl kr 3 rfl (af) (rfl) ?_)|(go_at_call 29;first|(go_fit (CP _);rintro e w5 ⟨rfl,hb5⟩;clear CP;replace B:=B.below hb5;clear hb5)|(go_fit (CQ _);rintro e w5 ⟨rfl,hb5⟩;clear CQ;replace B:=B.below hb5;clear hb5))|((with_reducible refine gA 61 ?_);refine ax 12 61 qbs ?_;intro b12 w9 l9 R9 h9;replace B:=B.alloc (o:=ob 61 (pcl p0)) l9 R9 h9;clear R9 h9 l9)|((with_reducible refine gS 61 12 64 ?_);refine sx 61 (.tmp 12) _ (pcl xp) (B.row 0 rfl) ?_;refine m31 ?_;clear B;intro w9 B)|((with_reducible refine gL 9 67 ?_);refine qcm (B.row 2 rfl) (.tmp 67) rfl kr 1 rfl (fr) (qe4 _) ?_)|((with_reducible refine gA 61 ?_);refine ax 13 61 qbs ?_;intro b13 w9 l9 R9 h9;replace B:=B.alloc (o:=ob 61 (pcl p0)) l9 R9 h9;clear R9 h9 l9)|((with_reducible refine gS 61 13 70 ?_);refine sx 61 (.tmp 13) _ (pcl { xp with ttl:=xp.ttl-1,src:=3405803777+(A:Int),sport:=mq }) (B.row 0 rfl) ?_;refine m31 ?_;clear B;intro w9 B;have y1:World.cell? _ ⟨b13,1,none⟩=some (I Z (3405803777+(A:Int))):=(B.row 0 rfl).cell 1;have y2:World.cell? _ ⟨b13,2,none⟩=some (I Z mq):=(B.row 0 rfl).cell 2)|(go_at_call 30;go_fit (CB _);refine m0h ?_)|((with_reducible refine qaa (.binOp .sub 3 (.tmp 80) (.const (I Z 3405803776)) 3) rfl ?_);refine qjib rfl (.tmp 80) 3405803776 rfl _ ((A:Int)+1) rfl HS1.out ?_)|((with_reducible refine qaa (.binOp .sub 3 (.tmp 81) (.const (I Z 1)) 3) rfl ?_);refine qjib rfl (.tmp 81) 1 rfl _ (A:Int) rfl HS2.out ?_))
    clear k0 c0 i2 y1 y2;have kS:Row 35 _ b10 (pc f3 g0')/\Row 61 _ b12 (pcl xp):=⟨B.row 2 rfl,B.row 1 rfl⟩
    refine RD (fun W=>Row 35 W b10 (pc f3 g0')/\Row 61 W b12 (pcl xp)) kS (fun _=>?_)
    replace B:=B.drew;refine tq 0 (I Z 0) rfl kS (tq 1 (.bool true) rfl kS (tq 2 (.bool true) rfl kS ?_));refine m5i ?_;refine tq 3 (I Z 0) rfl kS (tq 4 (.bool true) rfl kS (tq 5 (.bool true) rfl kS ?_));refine m5i ?_;refine tq 6 (.bool true) rfl kS (tq 7 (.bool true) rfl kS (tq 8 (.bool true) rfl kS ?_));refine m5i ?_;refine tq 9 (.bool true) rfl kS (tq 10 (I Z (A:Int)) rfl kS (tk 11 (.bool true) rfl (qjnb (.tmp 93) 0 rfl kr (A:Int) kr HA.out.1) kS ?_));refine m5i ?_;refine tq 12 (.bool true) rfl kS (tq 13 (.bool true) rfl kS (tq 14 (I Z (A:Int)) rfl kS ?_));refine m5i ?_;refine tk 15 (.bool true) rfl (qjob (.tmp 97) 3 rfl kr (A:Int) kr HA.out.2) kS (tq 16 (.bool true) rfl kS (tq 17 (.bool true) rfl kS ?_));refine m5i ?_;refine tq 18 (I Z (A:Int)) rfl kS (tq 19 (I Z (K:Int)) rfl kS (tq 20 (V (some ⟨b10,0,none⟩)) rfl kS ?_));refine m5i ?_;(refine tk 21 (V (some ⟨b10,6*A,none⟩)) rfl (qgk 32 (.tmp 103) (.tmp 101) rfl kr _ _ _ kr kr IA) kS (tk 22 (V (some ⟨b10,6*A+K,none⟩)) rfl (qgk 31 (.tmp 104) (.tmp 102) rfl kr _ _ _ kr kr IK) kS (tk 23 (I Z sb) rfl (Or.inl ⟨by kernel_rfl,by intro w hS;have hc:=(hS.1.cell (6*A+K)).trans HCE.out;go_simp⟩) kS ?_)));refine m5i ?_;(refine tq 24 (V (some ⟨b12,1,none⟩)) rfl kS (tk 25 (I Z xp.src) rfl (Or.inl ⟨by kernel_rfl,by intro w hS;have hc:=(hS.2.cell 1).trans (show(pcl xp)[1]?=some (I Z xp.src) from rfl);go_simp⟩) kS (tk 26 (I Z sb) rfl (Or.inl ⟨by kernel_rfl,by intro w hS;go_simp;exact HW1.out⟩) kS ?_)));refine m5i ?_;refine tq 27 (.bool true) rfl kS (tq 28 (.bool true) rfl kS (tq 29 (.bool true) rfl kS ?_));refine m1f ?_
    go_wp2
    go_ret
    exact⟨rfl,B.gr,B.lg⟩
  ·(have h0b:(c==0)=false:=by simpa using h0);(have h0n:(c != 0)=true:=by simpa using h0);clear HD h0
   exact sZtTpTr1
 ·(have h1b:(kd==1)=false:=by simpa using h1);(have h1n:(kd != 1)=true:=by simpa using h1);clear HD h1
  exact sZtTpTr1
theorem qjmb(loose:Bool)(bl:Nat)(hbl:0<bl):Look loose 26 #[V (some ⟨bl,0,none⟩)] (JQ loose bl):=by
 refine⟨fun args w=>by kernel_rfl,?_,?_,?_⟩
 ·rintro l G H W W' ⟨⟨L,all,h1,h2⟩,hG⟩ hg hd
  exact⟨⟨L,all,(hg.block _ h1.lt (fun hh=>hd _ hh ((hG _).2 rfl))).trans h1,h2⟩,hG⟩
 ·rintro l G W ⟨⟨L,all,h1,h2⟩,hG⟩ c hc
  rw[(hG c).1 hc];exact h1.lt
 ·rintro l a W b F G hl ha hN hT hF0 hd ⟨⟨L,all,h1,h2,h3⟩,hG⟩;obtain⟨es,h4,h5⟩:=qesb om h2 a;have hinv:=qjr loose l om;have hO:=q7y hinv.ci a;have hC:=hinv.ci.act a;have hrs:(nt0 loose).runs (l++[a])=(((nt0 loose).runs l).act a).2:=qih _ _ _
  generalize((nt0 loose).runs l).act a=r at *
  obtain⟨⟨c,fr,inn,lg⟩,s2⟩:=r;obtain⟨kd,an,dr,af⟩:=a
  simp only at h4 h5 hrs hO hC hN
  obtain⟨f3,hw3,he3⟩:=h4.own;have hml:=hC.good.len;have hwf:=qpn hC.good.pool
  refine(qjpb bl G F ((hG _).2 rfl) (fun h=>by have:=(hG 0).1 h;omega) hd L kd an dr af c fr inn lg s2 b W hN hT om om f3 (all++es) (fun w hTw=>?_) (fun w v hE=>?_) ⟨fun i hi=>by rw[he3 i hi];exact hwf i hi,hwf,(qjn _ _ _).2 fun i hi=>he3 i hi⟩ ha.2.2.2 (fun e1 e0 ei=>?_) h1).mono ?_
  ·have:=qf2b (L++lg).data.toList w hTw (by rw[qb6,ByteArray.size_append];omega)
   rw[qgkb] at this
   refine this.mono ?_;rintro x w' ⟨⟨v,hx,hE⟩,hb⟩
   rw[h4.read] at hx hE
   exact⟨v,hx,hE,hb⟩
  ·refine(qfdb v _ w hE).mono ?_;rintro x w' ⟨hx,hb⟩
   rw[qdrb hw3] at hx
   exact⟨hx,hb⟩
  ·obtain⟨m,hb,hm,hf,ha3,hq,hs,hpl,hg,hfr⟩:=hO e1 e0 ei;have hrr:=(qdu _).1 (qde _ (qgi _ hb).2.2).2.1;obtain⟨mp,msb,mi,ma,mq⟩:=m
   simp only[qa7] at ha3 hq hfr hg hpl
   rw[q6w] at hfr hg
   have hA:((ma.toNat:Nat):Int)=ma:=Int.toNat_of_nonneg ha3.1
   exact⟨_,ma.toNat,mq,hb,rfl,by rw[hA];exact hg,by rw[hA];exact hfr,by omega,hq,⟨hrr.1,hrr.2.1⟩,by rw[hA];exact hpl⟩
  ·rintro e w' ⟨he,hg,hr⟩
   refine⟨he,G,⟨⟨L++lg,all++es,hr,by rw[hrs];exact h4,?_⟩,hG⟩,hg,fun c hc=>.inl hc⟩
   rw[ByteArray.size_append,List.length_append];simp only[List.length_singleton];omega
theorem topTraced_walk(a0:Bool)(sl:Value)(es:List Ac)(W:World)(hS:AcIn W sl es)(hT:Tab W):Calls prog 5 #[.bool a0,sl] W fun e w'=>e=.returned (.bool true)/\Below W.heap.size W w':=by
 refine m63 ?_;intro HS HT;(have CP:=fun bl W' (hl:W.heap.size<=bl) (R:Row 9 W' bl #[.string ByteArray.empty]) (hB:Below W.heap.size W W')=>qjp (G0:=fun c=>c=bl) (qjmb a0 bl (by have:=HT.out.lt;omega)) sl es W' (HS.out.1.below hB) HS.out.2 (HT.out.below hB) (fun h=>by have:=HT.out.lt;omega) ⟨⟨ByteArray.empty,[],R,qgub a0,by simp⟩,fun _=>Iff.rfl⟩ (fun h0 h=>by have h:eb sl=bl:=h;have:=HS.out.1.lt h0;omega));obtain⟨x0,cap,hsl⟩:=hS.1.slice
 generalize es.length=n at *
 subst hsl
 clear hS hT
 go_enter func5,ntmps5
 go_wp2_with (first|((with_reducible refine gA 9 ?_);refine m5u ?_;intro bl w9 HLL HBL Rl)|((with_reducible refine qaa (.store 9 (.tmp 5) (.const (.string { data:=#[] }))) rfl ?_);refine m2o ?_;clear Rl;intro w9 HBL2 Rl)|(go_at_call 23;refine(CP bl _ HLL.out Rl HBL2.out).mono ?_;rintro e w1 ⟨b,rfl,F,G,hP⟩;clear CP;have hB:=HBL2.out.trans (hP.gr.below (B:=W.heap.size) (fun c h=>by have h:c=bl:=h;rw[h];exact HLL.out) HBL2.out.size);clear hP Rl))
 go_ret
 exact⟨rfl,hB⟩
end Go.Proofs.YtonnjgmognbnbaaGreatDoor
