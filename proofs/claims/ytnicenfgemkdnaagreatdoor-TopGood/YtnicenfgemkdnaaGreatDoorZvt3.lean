/-
  Of what a law stands on.
-/
import Derived.SizedLaws
import Derived.Test.YtnicenfgemkdnaaGreatDoorZvi1
import Derived.Test.YtnicenfgemkdnaaGreatDoorZvt2
set_option linter.unusedSimpArgs false
set_option linter.unusedVariables false
namespace Go.Proofs.YtnicenfgemkdnaaGreatDoor
open _root_.Go.Proofs.Tryz
set_option maxHeartbeats 16000000
set_option maxRecDepth 100000
open Go.ChangeShapes Go.WideShapes Go.ChangeAt Go.RowKit
theorem qzt(k:Fl)(x:Int)(inw:Bool)(k':Fl)(r:Bool)(h:qbi k x inw=(k',r))(w:World):Calls prog 185 #[.agg (fc k),.int .i64 x,.bool inw] w fun e w'=>e=.returned (.tuple #[.agg (fc k'),.bool r])/\Below w.heap.size w w':=by
 have h1:k'=(qbi k x inw).1:=by rw[h]
 have h2:r=(qbi k x inw).2:=by rw[h]
 rw[h1,h2]
 cases inw
 ·exact qub k x w
 ·exact quk k x w
theorem sZvt31{p:Prop}(h:p:=by
 obtain⟨rfl,rfl⟩:=Prod.mk.inj h
 clear h e6 e17
 go_enter func163,ntmps163
 go_wp2_with (first|(refine qag 48 rfl _ rfl _ rfl ?_;intro b3 w1 l3 R3 hb1;replace l3:=Nat.le_trans hB.size l3;replace hB:=hB.trans (hb1.mono hB.size))|(refine qaf 6 48 rfl rfl rfl _ qa9 ?_;intro b6 w2 l6 R6 hb2;have n36:=R3.ne l6;replace l6:=Nat.le_trans hB.size l6;replace R3:=R3.below hb2;replace hB:=hB.trans (hb2.mono hB.size))|(refine qae R3 _ rfl rfl _ rfl _ rfl ?_)|(refine qac 48 (.tmp 3) rfl rfl b3 rfl (fc k) R3 _ underlying48 rfl (qal _) ?_)|(refine qab 48 rfl (.tmp 6) _ rfl b6 rfl (fc k) rfl _ R6 rfl (qal _) (qa5 _) ?_;intro w6 R6 t6;replace R3:=t6.row R3 n36;replace hB:=t6.below _ _ l6 hB))
 ((try simp only[Exit.inBlock,Exit.then]);refine bodyPost_ret (qbf (p:=6) (u:=7) rfl _ _ _ _ rfl R6 _ underlying48 rfl (qal _)) rfl ⟨rfl,hB⟩)):p:=h
theorem q78(k:Fl)(x:Int)(inw:Bool)(k':Fl)(r:Bool)(h:qem k x inw=(k',r))(w:World):Calls prog 163 #[.agg (fc k),.int .i64 x,.bool inw] w fun e w'=>e=.returned (.tuple #[.agg (fc k'),.bool r])/\Below w.heap.size w w':=by
 have hB:=Below.refl w.heap.size w
 unfold qem at h
 by_cases e6:k.pr=6
 ·rw[if_pos e6] at h
  have d6:(k.pr==6)=true:=by simp[e6]
  have CT:=fun w=>qzt k x inw k' r h w
  clear h e6
  go_enter func163,ntmps163
  go_wp2_with (first|(refine qag 48 rfl _ rfl _ rfl ?_;intro b3 w1 l3 R3 hb1;replace l3:=Nat.le_trans hB.size l3;replace hB:=hB.trans (hb1.mono hB.size))|(refine qaf 6 48 rfl rfl rfl _ qa9 ?_;intro b6 w2 l6 R6 hb2;have n36:=R3.ne l6;replace l6:=Nat.le_trans hB.size l6;replace R3:=R3.below hb2;replace hB:=hB.trans (hb2.mono hB.size))|(refine qae R3 _ rfl rfl _ rfl _ rfl ?_)|(refine qac 48 (.tmp 3) rfl rfl b3 rfl (fc k) R3 _ underlying48 rfl (qal _) ?_)|(refine qab 48 rfl (.tmp 6) _ rfl b6 rfl (fc k') rfl _ R6 rfl (qal _) (qa5 _) ?_;intro w6 R6 t6;replace R3:=t6.row R3 n36;replace hB:=t6.below _ _ l6 hB)|(go_at_call 185;go_fit (CT _);rintro e w5 ⟨rfl,hb5⟩;replace R3:=R3.below hb5;replace R6:=R6.below hb5;replace hB:=hB.trans (hb5.mono hB.size)))
  ((try simp only[Exit.inBlock,Exit.then]);refine bodyPost_ret (qbf (p:=6) (u:=7) rfl _ _ _ _ rfl R6 _ underlying48 rfl (qal _)) rfl ⟨rfl,hB⟩)
 ·rw[if_neg e6] at h
  have d6:(k.pr==6)=false:=by simp[e6]
  by_cases e17:k.pr=17
  ·rw[if_pos e17] at h
   have d17:(k.pr==17)=true:=by simp[e17]
   exact sZvt31
  ·rw[if_neg e17] at h
   have d17:(k.pr==17)=false:=by simp[e17]
   exact sZvt31
theorem qu1{k k':Fl}{x now:Int}{i:Bool}(h:qcu k x i now=k'):Ending.returned (.agg (fc k'))=.returned (.agg (fc (qcu k x i now))):=by rw[h]
theorem qqt(k:Fl)(p:Pkt)(inw:Bool)(now:Int)(h0:0<=now)(h1:now<=1099511627776)(w:World):Calls prog 130 #[.agg (fc k),pv p,.bool inw,.int .i64 now] w fun e w'=>e=.returned (.agg (fc (qcu k p.flags inw now)))/\Below w.heap.size w w':=by
 have hB:=Below.refl w.heap.size w
 obtain⟨k1,r,hT⟩:∃k1 r,qem k p.flags inw=(k1,r):=⟨_,_,rfl⟩
 have CS:=fun w=>q78 k p.flags inw k1 r hT w
 have CL:=fun w=>qvq k1.pr k1.st w
 have hww:wrap64 (now+qb0 k1.pr k1.st)=now+qb0 k1.pr k1.st:=by have:=q9b k1.pr k1.st;unfold wrap64;omega
 unfold pv
 cases r
 ·have H:Hid (qcu k p.flags inw now=k1):=by show qcu k p.flags inw now=k1;simp[qcu,hT]
  clear hT h0 h1 hww
  go_enter func130,ntmps130
  go_wp2_with (first|(refine qag 48 rfl (.tmp 0) rfl _ rfl ?_;intro b4 w1 l4 R4 hb1;replace l4:=Nat.le_trans hB.size l4;replace hB:=hB.trans (hb1.mono hB.size))|(refine qag 58 rfl (.tmp 1) rfl _ rfl ?_;intro b5 w1 l5 R5 hb1;replace R4:=R4.below hb1;replace hB:=hB.trans (hb1.mono hB.size))|(refine qaf 8 48 rfl rfl rfl _ qa9 ?_;intro b8 w2 l8 R8 hb2;replace l8:=Nat.le_trans hB.size l8;replace R4:=R4.below hb2;replace R5:=R5.below hb2;replace hB:=hB.trans (hb2.mono hB.size))|(refine qae R5 _ rfl rfl _ rfl _ rfl ?_)|(refine qac 48 (.tmp 4) rfl rfl b4 rfl (fc k) R4 _ underlying48 rfl (qal _) ?_)|(go_at_call 163;go_fit (CS _);rintro e w5 ⟨rfl,hb5⟩;replace R8:=R8.below hb5;clear R4 R5;replace hB:=hB.trans (hb5.mono hB.size))|(refine qaf 9 48 rfl rfl rfl _ qa9 ?_;intro b9 w3 l9 R9 hb3;have n89:=R8.ne l9;replace l9:=Nat.le_trans hB.size l9;replace R8:=R8.below hb3;replace hB:=hB.trans (hb3.mono hB.size))|(refine qab 48 rfl (.tmp 9) _ rfl b9 rfl (fc k1) rfl _ R9 rfl (qal _) (qa5 _) ?_;intro w6 R9 t6;replace R8:=t6.row R8 n89;replace hB:=t6.below _ _ l9 hB)|(refine qac 48 (.tmp 9) rfl rfl b9 rfl (fc k1) R9 _ underlying48 rfl (qal _) ?_)|(refine qab 48 rfl (.tmp 8) _ rfl b8 rfl (fc k1) rfl _ R8 rfl (qal _) (qa5 _) ?_;intro w7 R8 t7;replace hB:=t7.below _ _ l8 hB))
  ((try simp only[Exit.inBlock,Exit.then]);refine bodyPost_ret (qai (p:=8) rfl _ _ _ _ rfl R8 _ underlying48 rfl (qal _)) rfl ⟨qu1 H.out,hB⟩)
 ·have H:Hid (qcu k p.flags inw now={ k1 with du:=now+qb0 k1.pr k1.st }):=by show qcu k p.flags inw now={ k1 with du:=now+qb0 k1.pr k1.st };simp[qcu,hT]
  clear hT h0 h1
  go_enter func130,ntmps130
  go_wp2_with (first|(refine qag 48 rfl (.tmp 0) rfl _ rfl ?_;intro b4 w1 l4 R4 hb1;replace l4:=Nat.le_trans hB.size l4;replace hB:=hB.trans (hb1.mono hB.size))|(refine qag 58 rfl (.tmp 1) rfl _ rfl ?_;intro b5 w1 l5 R5 hb1;replace R4:=R4.below hb1;replace hB:=hB.trans (hb1.mono hB.size))|(refine qaf 8 48 rfl rfl rfl _ qa9 ?_;intro b8 w2 l8 R8 hb2;replace l8:=Nat.le_trans hB.size l8;replace R4:=R4.below hb2;replace R5:=R5.below hb2;replace hB:=hB.trans (hb2.mono hB.size))|(refine qae R5 _ rfl rfl _ rfl _ rfl ?_)|(refine qac 48 (.tmp 4) rfl rfl b4 rfl (fc k) R4 _ underlying48 rfl (qal _) ?_)|(go_at_call 163;go_fit (CS _);rintro e w5 ⟨rfl,hb5⟩;replace R8:=R8.below hb5;clear R4 R5;replace hB:=hB.trans (hb5.mono hB.size))|(refine qaf 9 48 rfl rfl rfl _ qa9 ?_;intro b9 w3 l9 R9 hb3;have n89:=R8.ne l9;replace l9:=Nat.le_trans hB.size l9;replace R8:=R8.below hb3;replace hB:=hB.trans (hb3.mono hB.size))|(refine qab 48 rfl (.tmp 9) _ rfl b9 rfl (fc k1) rfl _ R9 rfl (qal _) (qa5 _) ?_;intro w6 R9 t6;replace R8:=t6.row R8 n89;replace hB:=t6.below _ _ l9 hB)|(refine qae R9 _ rfl rfl _ rfl _ rfl ?_)|(go_at_call 164;go_fit (CL _);rintro e w' ⟨rfl,hw⟩;rw[hw];clear hw w')|(refine qbb R9 rfl _ _ rfl _ rfl _ rfl _ rfl (fc { k1 with du:=now+qb0 k1.pr k1.st }) (by first|rfl|(rw[hww];rfl)) ?_;intro w4 R9 t4;replace R8:=t4.row R8 n89;replace hB:=t4.below _ _ l9 hB)|(refine qac 48 (.tmp 9) rfl rfl b9 rfl (fc { k1 with du:=now+qb0 k1.pr k1.st }) R9 _ underlying48 rfl (qal _) ?_)|(refine qab 48 rfl (.tmp 8) _ rfl b8 rfl (fc { k1 with du:=now+qb0 k1.pr k1.st }) rfl _ R8 rfl (qal _) (qa5 _) ?_;intro w7 R8 t7;replace hB:=t7.below _ _ l8 hB))
  ((try simp only[Exit.inBlock,Exit.then]);refine bodyPost_ret (qai (p:=8) rfl _ _ _ _ rfl R8 _ underlying48 rfl (qal _)) rfl ⟨qu1 H.out,hB⟩)
structure qhh(b:Nat)(w w':World):Prop where
 size:w.heap.size<=w'.heap.size
 other:∀r,r≠b->r<w.heap.size->w'.heap[r]?=w.heap[r]?
 below:∀B w0,B<=b->Below B w0 w->Below B w0 w'
theorem qhh.refl(b:Nat)(w:World):qhh b w w:=⟨Nat.le_refl _,fun _ _ _=>rfl,fun _ _ _ h=>h⟩
theorem qhh.grow{b:Nat}{w w1 w2:World}(h:qhh b w w1)(hlt:b<w.heap.size)(hb:Below w1.heap.size w1 w2):qhh b w w2:=
 ⟨Nat.le_trans h.size hb.size,fun r hr hl=>(hb.block r (Nat.lt_of_lt_of_le hl h.size)).trans (h.other r hr hl),fun B w0 hB h0=>(h.below B w0 hB h0).trans (hb.mono (Nat.le_trans (Nat.le_of_lt (Nat.lt_of_le_of_lt hB hlt)) h.size))⟩
theorem qhh.turn{b:Nat}{w w1 w2:World}(h:qhh b w w1)(t:qbl b w1 w2):qhh b w w2:=
 ⟨t.size▸h.size,fun r hr hl=>(t.other r hr).trans (h.other r hr hl),fun B w0 hB h0=>t.below B w0 hB (h.below B w0 hB h0)⟩
theorem qhh.drew{b:Nat}{w w1:World}(h:qhh b w w1):qhh b w w1.drew:=⟨h.size,h.other,fun B w0 hB h0=>qbv (h.below B w0 hB h0)⟩
theorem qhh.row{b r:Nat}{w w':World}{t:TypeId}{cs:Array Value}(h:qhh b w w')(R:Row t w r cs)(hne:r≠b):Row t w' r cs:=(h.other r hne R.lt).trans R
theorem qd4{o:Oper}{a:Act}{w:World}{K:Act->World->Prop}{Q:Exit->Act->World->Prop}{t:TypeId}{b:Nat}{cs:Array Value}(R:Row t w b cs)(x y:Operand)(ho:o.op=.store 3 x y)(f:Nat)(hx:a.eval x=.pointer (some ⟨b,f,none⟩))(n:Int)(hy:a.eval y=.int .i64 n)(m:Int)(hc:cs[f]?=some (.int .i64 m))(ds:Array Value)(hd:cs.setIfInBounds f (.int .i64 n)=ds)(hr:∀w',Row t w' b ds->qbl b w w'->K (a.put o.dst undef) w'):o.wp prog a w K Q:=by
 have hcell:=(R.cell f).trans hc
 have hfr:=R.free f
 unfold Oper.wp execOp
 simp only[ho,hx,hy]
 simp[go_sem,hcell,hfr,underlying3]
 exact hr _ (hd▸R.set) (qfx _ _ _ _)
theorem qpu{ops:Array Oper}{rest:List Oper}{o:Oper}{a:Act}{w:World}{Q:Exit->Act->World->Prop}(hgd:o.guard=none)(x:Operand)(ho:o.op=.box 3 x)(n:Int)(hx:a.eval x=.int .i64 n)(hr:∀b w',w.heap.size<=b->Row 3 w' b #[.int .i64 n]->Below w.heap.size w w'->wpList prog ops Q rest (a.put o.dst (.pointer (some ⟨b,0,none⟩))) w'):wpList prog ops Q (o::rest) a w:=
 wpList_plain hgd fun K hK=>by
  have h':=hr w.heap.size (w.alloc (.cells #[.int .i64 n] 3)) (Nat.le_refl _) (Row.new 3 w _) ((Below.refl _ _).alloc (Nat.le_refl _) _)
  unfold Oper.wp execOp
  simp only[ho,hx,Instr.box,newVar,Value.cells]
  simp[go_sem]
  exact hK _ _ h'
def pcl(p:Pkt):Array Value:=#[.int .i64 p.proto,.int .i64 p.src,.int .i64 p.sport,.int .i64 p.dst,.int .i64 p.dport,.int .i64 p.ttl,.int .i64 p.id,.int .i64 p.flags,.int .i64 p.seq,.int .i64 p.ack,.int .i64 p.win,.string p.body]
theorem qa0(p:Pkt):(prog.info? 58).map (·.size)=some (pcl p).size:=by kernel_rfl
def qao(p:Int):Int:=if p=6 then 1 else 2
theorem sZvt32{p:Prop}(h:p:=by
 go_wp2_with (first|(refine qag 58 rfl (.tmp 0) rfl (pcl p) rfl ?_;intro b1 w1 l1 R1 hb1;replace hB:=hB.trans (hb1.mono hB.size))|(refine qae R1 _ rfl ?_ _ rfl _ rfl ?_;· rfl))
 go_ret
 first
  | exact⟨qh6 HF.out,hB⟩
  | exact⟨qj6 HF.out,hB⟩):p:=h
theorem sZvt34{p:Prop}(h:p:=by
 clear e6
 go_enter func136,ntmps136
 exact sZvt32):p:=h
theorem qcd(p:Pkt)(w:World):Calls prog 136 #[.agg (pcl p)] w fun e w'=>e=.returned (.int .i64 (qao p.proto))/\Below w.heap.size w w':=by
 have hB:=Below.refl w.heap.size w
 by_cases e6:p.proto=6
 ·have d6:(p.proto==6)=true:=by simp[e6]
  have HF:Hid ((1:Int)=qao p.proto):=by show(1:Int)=qao p.proto;simp[qao,e6]
  exact sZvt34
 ·have d6:(p.proto==6)=false:=by simp[e6]
  have HF:Hid ((2:Int)=qao p.proto):=by show(2:Int)=qao p.proto;simp[qao,e6]
  exact sZvt34
def begB(p:Pkt):Bool:=p.proto==17||(p.proto==1&&p.flags==8)||(p.proto==6&&has p.flags 2&&qnb p.flags 21)
theorem qyx(x:Int)(b:Nat)(hb:63 &&& b=b)(hl:b<64)(r:Bool)(h:qnb x b=r)(w:World):Calls prog 132 #[.int .i64 x,.int .i64 (b:Int)] w fun e w'=>e=.returned (.bool r)/\w'=w:=by rw[←h];exact qw1 x b hb hl w
theorem sZvt33{p:Prop}(h:p:=by
 go_enter func101,ntmps101
 exact sZvt32):p:=h
theorem qzv(p:Pkt)(w:World):Calls prog 101 #[.agg (pcl p)] w fun e w'=>e=.returned (.bool (begB p))/\Below w.heap.size w w':=by
 have hB:=Below.refl w.heap.size w
 obtain⟨r,hr⟩:∃r,begB p=r:=⟨_,rfl⟩
 rw[hr]
 unfold begB at hr
 by_cases e17:p.proto=17
 ·have d17:(p.proto==17)=true:=by simp[e17]
  have HF:Hid (true=r):=by show true=r;rw[←hr];simp[e17]
  clear hr e17
  exact sZvt33
 ·have d17:(p.proto==17)=false:=by simp[e17]
  by_cases e1:p.proto=1
  ·have d1:(p.proto==1)=true:=by simp[e1]
   have HF:Hid ((p.flags==8)=r):=by show(p.flags==8)=r;rw[←hr];simp[e1]
   clear hr e17 e1
   exact sZvt33
  ·have d1:(p.proto==1)=false:=by simp[e1]
   by_cases e6:p.proto=6
   ·have d6:(p.proto==6)=true:=by simp[e6]
    cases h2:has p.flags 2 with
    | true=>
     have C2:=fun w=>qc3 p.flags 2 (by decide) (by decide) _ h2 w
     have C21:=fun w=>qyx p.flags 21 (by decide) (by decide) _ rfl w
     have HF:Hid (qnb p.flags 21=r):=by show qnb p.flags 21=r;rw[←hr];simp[e6,h2]
     clear hr e17 e1 e6 h2
     go_enter func101,ntmps101
     go_wp2_with (first|(refine qag 58 rfl (.tmp 0) rfl (pcl p) rfl ?_;intro b1 w1 l1 R1 hb1;replace hB:=hB.trans (hb1.mono hB.size))|(refine qae R1 _ rfl ?_ _ rfl _ rfl ?_;· rfl)|(go_at_call 131;go_fit (C2 _);rintro e w' ⟨rfl,hw⟩;rw[hw];clear hw w')|(go_at_call 132;go_fit (C21 _);rintro e w' ⟨rfl,hw⟩;rw[hw];clear hw w'))
     go_ret
     exact⟨qj6 HF.out,hB⟩
    | false=>
     have C2:=fun w=>qc3 p.flags 2 (by decide) (by decide) _ h2 w
     have HF:Hid (false=r):=by show false=r;rw[←hr];simp[e6,h2]
     clear hr e17 e1 e6 h2
     go_enter func101,ntmps101
     go_wp2_with (first|(refine qag 58 rfl (.tmp 0) rfl (pcl p) rfl ?_;intro b1 w1 l1 R1 hb1;replace hB:=hB.trans (hb1.mono hB.size))|(refine qae R1 _ rfl ?_ _ rfl _ rfl ?_;· rfl)|(go_at_call 131;go_fit (C2 _);rintro e w' ⟨rfl,hw⟩;rw[hw];clear hw w'))
     go_ret
     exact⟨qj6 HF.out,hB⟩
   ·have d6:(p.proto==6)=false:=by simp[e6]
    have HF:Hid (false=r):=by show false=r;rw[←hr];simp[e17,e1,e6]
    clear hr e17 e1 e6
    exact sZvt33
theorem q7u(k:Fl)(w:World):(Op.equalIn 10000 48 (.agg (fc k)) (.agg (fc k))).run prog w=.ok true w:=by
 rw[show(10000:Nat)=9999+1 from rfl,run_equalIn_struct w 9999 48 _ _ kr kr]
 unfold fc
 simp[go_sem,underlying48,underlying46]
def Fl.wf(k:Fl):Prop:=(Lit.int .i64 k.pr).wf=true/\(Lit.int .i64 k.s).wf=true/\(Lit.int .i64 k.i).wf=true/\(Lit.int .i64 k.a).wf=true/\(Lit.int .i64 k.port).wf=true/\(Lit.int .i64 k.rem).wf=true/\(Lit.int .i64 k.rp).wf=true/\(Lit.int .i64 k.st).wf=true/\(Lit.int .i64 k.sd).wf=true/\(Lit.int .i64 k.du).wf=true
def fd(H:Type)(k:Fl):DataW H:=.agg [.agg [.lit (.int .i64 k.pr),.lit (.int .i64 k.s),.lit (.int .i64 k.i),.lit (.int .i64 k.a),.lit (.int .i64 k.port)],.lit (.int .i64 k.rem),.lit (.int .i64 k.rp),.lit (.int .i64 k.st),.lit (.int .i64 k.sd),.lit (.int .i64 k.du)]
end Go.Proofs.YtnicenfgemkdnaaGreatDoor
